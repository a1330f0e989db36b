import PyProof.Rows.All
import Wide.All
import OpenK.AllK
import Wide.FinOn
import HandS.ForMost
import HandS.IsInst
import HandS.Zip
import HandS.TupAny
import HandS.Style
import HandS.More
import HandS.Defaults
import HandS.Walk
import HandS.ExcInit
import HandS.Gcd
import HandS.Wide
import HandS.WordsExc
import HandS.Deep
import HandS.HeadHook4
import HandS.HeadWalk
import HandS.Head2
import HandS.Head3
import HandS.Lambda
import PySem.Challenge.RW_lookingnets_k19_bends_read_before
set_option Elab.async false
set_option linter.all false
set_option maxRecDepth 100000
namespace LK
open PySem PySem.Spec PyProof.Rows L2
/-! ### heaps but for one object -/
def hb (H : Hp) (b : Addr) : Hp := fun a => if a = b then none else H a
theorem hb_ne {H : Hp} {a b : Addr} (h : a ≠ b) : hb H b a = H a := if_neg h
theorem hb_same {H : Hp} {b : Addr} : hb H b b = none := if_pos rfl
theorem hb_some {H : Hp} {a b : Addr} {o : HO} (h : hb H b a = some o) : a ≠ b ∧ H a = some o := by
  unfold hb at h
  split at h
  · cases h
  · exact ⟨by assumption, h⟩
theorem hb_le (H : Hp) (b : Addr) : Same (hb H b) H := fun _ _ h => (hb_some h).2
/-- all but b stays -/
abbrev Kp (b : Addr) (H H' : Hp) : Prop := Same (hb H b) (hb H' b)
theorem Kp.of {b : Addr} {H H' : Hp} (s : Same H H') : Kp b H H' := fun a o h => by
  obtain ⟨h1, h2⟩ := hb_some h
  rw [hb_ne h1]
  exact s _ _ h2
theorem Kp.refl (b : Addr) (H : Hp) : Kp b H H := Same.refl _
theorem Kp.upd {b : Addr} {H : Hp} {o : HO} : Kp b H (upd H b o) := fun a u h => by
  obtain ⟨h1, h2⟩ := hb_some h
  rw [hb_ne h1, upd_ne h1]
  exact h2
theorem Kp.hd {b a : Addr} {H H' : Hp} {o : HO} (k : Kp b H H') (h : H a = some o) (n : a ≠ b) : H' a = some o := (hb_some (k a o (by rw [hb_ne n]; exact h))).2
/-- a new object -/
theorem al {H : Hp} {R : Addr → Hp → Prop} {o : HO} (h : ∀ p H1, Same H H1 → H1 p = some o → H p = none → R p H1) : ∀ p, H p = none → R p (upd H p o) := fun p hp =>
  h p _ (fun a u e => by rw [upd_ne (ne_of_none e hp)]; exact e) upd_same hp
theorem same_upd {H : Hp} {p : Addr} {o : HO} (hp : H p = none) : Same H (upd H p o) := fun a u e => by rw [upd_ne (ne_of_none e hp)]; exact e
theorem at_ofN {α : Type} {xs : List α} {z : Int} {j : Nat} {v : α} (e : z = (j : Int)) (h : xs[j]? = some v) : atI xs z = some v := by
  subst e
  exact atI_nat h
/-! ### the bag of a law -/
def Bag (N : Nat) (H : Hp) (b c : Addr) : Prop := ∃ (cells : List Int) (i g m n : Int), H b = some (.lst [.ref c, .int i, .int g, .int m, .int n]) ∧ H c = some (.lst (cells.map V.int)) ∧ c ≠ b ∧ 0 ≤ i ∧ 0 ≤ m ∧ m < 2305843009213693951 ∧ 0 ≤ n ∧ n + N ≤ 1099511627776
theorem Bag.le {N M : Nat} {H : Hp} {b c : Addr} (B : Bag N H b c) (h : M ≤ N) : Bag M H b c := by
  obtain ⟨cells, i, g, m, n, h1, h2, h3, h4, h5, h6, h7, h8⟩ := B
  exact ⟨cells, i, g, m, n, h1, h2, h3, h4, h5, h6, h7, by omega⟩
theorem Bag.same {N : Nat} {H H' : Hp} {b c : Addr} (B : Bag N H b c) (s : Same H H') : Bag N H' b c := by
  obtain ⟨cells, i, g, m, n, h1, h2, h3⟩ := B
  exact ⟨cells, i, g, m, n, s _ _ h1, s _ _ h2, h3⟩
theorem Bag.at {N : Nat} {H : Hp} {b c : Addr} (B : Bag N H b c) : ∃ xs, H b = some (.lst xs) := by
  obtain ⟨cells, i, g, m, n, h1, _⟩ := B
  exact ⟨_, h1⟩
theorem Bag.at2 {N : Nat} {H : Hp} {b c : Addr} (B : Bag N H b c) : ∃ xs, H c = some (.lst xs) := by
  obtain ⟨cells, i, g, m, n, h1, h2, _⟩ := B
  exact ⟨_, h2⟩
/-- another object is stored -/
theorem Bag.upd {N : Nat} {H : Hp} {b c p : Addr} {o : HO} (B : Bag N H b c) (n1 : b ≠ p) (n2 : c ≠ p) : Bag N (upd H p o) b c := by
  obtain ⟨cells, i, g, m, n, h1, h2, h3⟩ := B
  exact ⟨cells, i, g, m, n, by rw [upd_ne n1]; exact h1, by rw [upd_ne n2]; exact h2, h3⟩
/-- a new object beside a bag -/
theorem alB {N : Nat} {H : Hp} {R : Addr → Hp → Prop} {o : HO} {b c : Addr} (B : Bag N H b c) (h : ∀ p H1, Kp b H H1 → Bag N H1 b c → hb H1 b p = some o → Same H H1 → H p = none → R p H1) : ∀ p, H p = none → R p (upd H p o) :=
  al fun p H1 s h1 h0 => h p H1 (Kp.of s) (B.same s) (by
    have n : p ≠ b := fun e => by
      obtain ⟨xs, q⟩ := B.at
      rw [e, q] at h0; cases h0
    rw [hb_ne n]; exact h1) s h0
/-! ### data -/
theorem Same.seqT {K : PySem.W.Frag} {H H' : Hp} {a : Addr} {xs : List V} (e : Same H H') (h : SqT K H a xs) : SqT K H' a xs := by
  rcases h with (h | ⟨o, h⟩) | h
  · exact .inl (.inl (e _ _ h))
  · exact .inl (.inr ⟨o, e _ _ h⟩)
  · exact .inr h
mutual
theorem dp_same {K : PySem.W.Frag} {H H' : Hp} (e : Same H H') : ∀ {d : PyData} {v : V}, Dp K H v d → Dp K H' v d
  | .none, _, h => by cases h; exact .non
  | .bool _, _, h => by cases h; exact .bl _
  | .int _, _, h => by cases h; exact .int _
  | .str _, _, h => by cases h; exact .str _
  | .list ds, _, h => by cases h with | lst a b => exact .lst (L2.Same.seq e a) (dpa_same e b)
  | .tuple ds, _, h => by cases h with | tup a b => exact .tup (Same.seqT e a) (dpa_same e b)
  | .dict _, _, h => by cases h
theorem dpa_same {K : PySem.W.Frag} {H H' : Hp} (e : Same H H') : ∀ {ds : List PyData} {vs : List V}, DpAll K H vs ds → DpAll K H' vs ds
  | [], _, h => by cases h; exact .nil
  | _ :: _, _, h => by cases h with | cons a b => exact .cons (dp_same e a) (dpa_same e b)
end
end LK
namespace LK
open PySem PySem.Spec PyProof.Rows L2
section
variable {CX : CXT} {P : Program} {w : World} {K : PySem.W.Frag} {mg : Str → Option Value} {base : Heap} {N : List Str} {q : Str} {sc : Scope} {f : Addr} {cd : Value} {A : Around} {outer : List Env} {s : Shared} {H : Hp} {E : XK}
theorem cxK : (cxOf CX P w K mg base N q sc f cd A outer s H E).K = K := rfl
theorem cxNK : (cxOf CX P w K mg base N q sc f cd A outer s H E).nox.K = K := rfl
theorem cxW : (cxOf CX P w K mg base N q sc f cd A outer s H E).w = w := rfl
end
theorem cut_seq {t u : TS} {D : Ends} {σ : L2.St} {H : Hp} (Mid : L2.St → Hp → Prop) (h1 : ∀ N : L2.St → Hp → Prop, (∀ σ' H', Mid σ' H' → N σ' H') → t { D with nx := N } σ H) (h2 : ∀ σ' H', Mid σ' H' → u D σ' H') : tSeq t u D σ H := h1 _ h2
end LK
namespace LK
open PySem PySem.Spec PyProof.Rows L2
theorem seq_op {t u : TS} {D : Ends} {σ : L2.St} {H : Hp} (h : ∀ N : L2.St → Hp → Prop, (∀ σ' H', u D σ' H' → N σ' H') → t { D with nx := N } σ H) : tSeq t u D σ H := h _ fun _ _ z => z
end LK
namespace LK
open PySem PySem.Spec PyProof.Rows L2
section
variable {X : Cx}
theorem opr_imp {f : Value → Value → Sem Value} {r r' : R2} (h : OpR X f r) (i : ∀ x y H Q, r' x y H Q → r x y H Q) : OpR X f r' := fun pins s σ H x y v u Q I rx ry q => h pins s σ H x y v u Q I rx ry (i _ _ _ _ q)
theorem cr_imp {f : Value} {r r' : List V → Hp → VK → Prop} (h : CallR X f r) (i : ∀ x H Q, r' x H Q → r x H Q) : CallR X f r' := fun pins s σ H xs us Q I rx q => h pins s σ H xs us Q I rx (i _ _ _ q)
theorem op_eqI : OpR X (compareOp .Eq) (rI0 fun i j => .bl (decide (i = j))) := opr_imp op_eq fun x y H Q h => by
  obtain ⟨i, j, rfl, rfl, q⟩ := h
  refine ⟨rfl, ?_⟩
  rw [L2.dec_int, Bool.beq_eq_decide_eq]; exact q
theorem op_neI : OpR X (compareOp .NotEq) (rI0 fun i j => .bl (!decide (i = j))) := opr_imp op_ne fun x y H Q h => by
  obtain ⟨i, j, rfl, rfl, q⟩ := h
  refine ⟨rfl, ?_⟩
  rw [L2.dec_int, Bool.beq_eq_decide_eq]; exact q
def rS0 (g : Str → Str → V) : R2 := fun x y H Q => ∃ i j, x = .str i ∧ y = .str j ∧ Q (g i j) H
theorem op_eqS : OpR X (compareOp .Eq) (rS0 fun i j => .bl (decide (i = j))) := opr_imp op_eq fun x y H Q h => by
  obtain ⟨i, j, rfl, rfl, q⟩ := h
  refine ⟨rfl, ?_⟩
  have e : decide (V.str i = V.str j) = decide (i = j) := by
    by_cases c : i = j
    · subst c; simp
    · rw [decide_eq_false c, decide_eq_false (fun z => c (V.str.inj z))]
  rw [e]; exact q
theorem op_neS : OpR X (compareOp .NotEq) (rS0 fun i j => .bl (!decide (i = j))) := opr_imp op_ne fun x y H Q h => by
  obtain ⟨i, j, rfl, rfl, q⟩ := h
  refine ⟨rfl, ?_⟩
  have e : decide (V.str i = V.str j) = decide (i = j) := by
    by_cases c : i = j
    · subst c; simp
    · rw [decide_eq_false c, decide_eq_false (fun z => c (V.str.inj z))]
  rw [e]; exact q
def rB0 (g : Bool → Bool → V) : R2 := fun x y H Q => ∃ i j, x = .bl i ∧ y = .bl j ∧ Q (g i j) H
theorem op_eqB : OpR X (compareOp .Eq) (rB0 fun i j => .bl (i == j)) := opr_imp op_eq fun x y H Q h => by
  obtain ⟨i, j, rfl, rfl, q⟩ := h
  refine ⟨rfl, ?_⟩
  rw [L2.dec_bl]; exact q
theorem op_neB : OpR X (compareOp .NotEq) (rB0 fun i j => .bl (!(i == j))) := opr_imp op_ne fun x y H Q h => by
  obtain ⟨i, j, rfl, rfl, q⟩ := h
  refine ⟨rfl, ?_⟩
  rw [L2.dec_bl]; exact q
/-- int(n) of an int -/
theorem call_intI : CallR X (.type "int") (fun xs H Q => ∃ i, xs = [.int i] ∧ Q (.int i) H) := cr_imp call_int1 fun xs H Q h => .inl h
end
end LK
namespace LK
open PySem PySem.Spec PyProof.Rows L2
/-! ### isinstance of data -/
def tyN : PyData → String
  | .none => "NoneType" | .bool _ => "bool" | .int _ => "int" | .str _ => "str" | .list _ => "list" | .tuple _ => "tuple" | .dict _ => "dict"
def isTy (T : String) : PyData → Bool
  | .none => false | .bool _ => T == "bool" || T == "int" | .int _ => T == "int" | .str _ => T == "str" | .list _ => T == "list" | .tuple _ => T == "tuple" | .dict _ => false
theorem dp_ty {K : PySem.W.Frag} {H : Hp} {v : V} {d : PyData} (h : Dp K H v d) : TyX K H v (.type (tyN d)) := by
  cases h with
  | non => exact .base .non
  | bl b => exact .base (.bl b)
  | int i => exact .base (.int i)
  | str x => exact .base (.str x)
  | lst hs _ =>
    rcases hs with (h | ⟨o, h⟩) | ⟨o, its, n, h1, h2, _⟩
    · exact .base (.lst h)
    · exact .base (.frz h)
    · exact .kList h1 h2
  | tup hs _ =>
    rcases hs with (h | ⟨o, h⟩) | ⟨o, its, n, h1, h2, _⟩
    · exact .base (.tup h)
    · exact .fTuple h
    · exact .kTuple h1 h2
theorem dp_kit {K : PySem.W.Frag} {H : Hp} {v : V} {d : PyData} (h : Dp K H v d) {T : String} (hT : T ∈ ["str", "int", "bool", "list", "tuple"]) : PySem.W.kitOne K (.type (tyN d)) (.type T) = some (isTy T d) := by
  refine kit_ty ?_
  simp only [List.mem_cons, List.mem_nil_iff, or_false] at hT
  cases h <;> rcases hT with rfl | rfl | rfl | rfl | rfl <;> (simp only [tyN, isTy]; decide +kernel)
section
variable {X : Cx}
theorem call_isiD : CallR X (.builtin "isinstance") (fun xs H Q => ∃ x T d, xs = [x, .ty T] ∧ Dp X.K H x d ∧ T ∈ ["str", "int", "bool", "list", "tuple"] ∧ Q (.bl (isTy T d)) H) := cr_imp call_isi fun xs H Q h => by
  obtain ⟨x, T, d, rfl, hd, hT, q⟩ := h
  exact ⟨x, .ty T, _, _, _, rfl, .ty T, dp_ty hd, dp_kit hd hT, q⟩
theorem call_isiDT : CallR X (.builtin "isinstance") (fun xs H Q => ∃ x tp d, xs = [x, .ref tp] ∧ H tp = some (.tup [.ty "list", .ty "tuple"]) ∧ Dp X.K H x d ∧ Q (.bl (isTy "list" d || isTy "tuple" d)) H) := cr_imp call_isiT fun xs H Q h => by
  obtain ⟨x, tp, d, rfl, ht, hd, q⟩ := h
  refine ⟨x, tp, _, .type (tyN d), [.type "list", .type "tuple"], _, rfl, ht, .cons (.ty _) (.cons (.ty _) .nil), dp_ty hd, ?_, q⟩
  have h1 := dp_kit hd (T := "list") (by simp)
  have h2 := dp_kit hd (T := "tuple") (by simp)
  unfold PySem.W.kitAny PySem.W.kitAny PySem.W.kitAny
  rw [h1, h2]
  cases isTy "list" d <;> cases isTy "tuple" d <;> rfl
/-- len of data -/
theorem call_lenD : CallR X (.builtin "len") (fun xs H Q => ∃ x d, xs = [x] ∧ Dp X.K H x d ∧ ((∃ ds, (d = .list ds ∨ d = .tuple ds) ∧ Q (.int ds.length) H) ∨ ∃ z, d = .str z ∧ z.length ≤ sizeLine ∧ Q (.int z.length) H)) := cr_imp call_len fun xs H Q h => by
  obtain ⟨x, d, rfl, hd, ⟨ds, e, q⟩ | ⟨z, rfl, hz, q⟩⟩ := h
  · have ln : ∀ {vs : List V} {es : List PyData}, DpAll X.K H vs es → vs.length = es.length := by
      intro vs es h
      induction es generalizing vs with
      | nil => cases h; rfl
      | cons a r ih => cases h with | cons _ h2 => simp [ih h2]
    rcases e with rfl | rfl
    · cases hd with
      | lst hs ha => exact ⟨_, ds.length, rfl, .inl ⟨_, hs, (ln ha).symm⟩, q⟩
    · cases hd with
      | tup hs ha => exact ⟨_, ds.length, rfl, .inr ⟨_, hs, (ln ha).symm⟩, q⟩
  · cases hd
    exact ⟨_, z.length, rfl, ⟨hz, rfl⟩, q⟩
/-- t[lo:hi] of a tuple: some tuple of that content -/
def rSlU (K : PySem.W.Frag) : V → Option Int → Option Int → Hp → VK → Prop := fun x lo hi H Q => ∃ a xs, x = .ref a ∧ SqT K H a xs ∧ ∀ q H', Same H H' → SqT K H' q (cutV xs lo hi) → Q (.ref q) H'
theorem sl_tupU : SlR X (rSlU X.K) := by
  intro pins s σ H x v vl vu lo hi sl Q I rx hs pl pu h
  obtain ⟨a, xs, rfl, hx, q⟩ := h
  refine sl_tupA pins s σ H _ v vl vu lo hi sl Q I rx hs pl pu ⟨a, xs, rfl, hx, fun hw => q a H (Same.refl H) ?_, fun hw p hp => q p _ (fun b o e => ?_) (.inl (.inl upd_same))⟩
  · have e : cutV xs lo hi = xs := by
      unfold cutV
      rw [hw.1, hw.2]
      simp
    rw [e]; exact hx
  · rw [upd_ne (ne_of_none e hp)]; exact e
def rCatU (K : PySem.W.Frag) : R2 := fun x y H Q => ∃ a b xs ys, x = .ref a ∧ y = .ref b ∧ SqT K H a xs ∧ SqT K H b ys ∧ xs.length + ys.length ≤ sizeLine ∧ ∀ q H', Same H H' → SqT K H' q (xs ++ ys) → Q (.ref q) H'
theorem op_catU : OpR X (binaryOp .Add) (rCatU X.K) := opr_imp op_catA fun x y H Q h => by
  obtain ⟨a, b, xs, ys, rfl, rfl, ha, hb, hz, q⟩ := h
  refine ⟨a, b, xs, ys, rfl, rfl, ha, hb, hz, fun e => q b H (Same.refl H) ?_, fun _ e => q a H (Same.refl H) ?_, fun _ _ p hp => q p _ (fun c o e => ?_) (.inl (.inl upd_same))⟩
  · subst e; exact hb
  · subst e; rw [List.append_nil]; exact ha
  · rw [upd_ne (ne_of_none e hp)]; exact e
/-- tuple(x) of a list or tuple -/
theorem call_tupleU : CallR X (.type "tuple") (fun xs H Q => ∃ p ys, xs = [.ref p] ∧ (SqL X.K H p ys ∨ SqT X.K H p ys) ∧ ∀ q H', Same H H' → SqT X.K H' q ys → Q (.ref q) H') := cr_imp call_tuple_of fun xs H Q h => by
  obtain ⟨p, ys, rfl, h, q⟩ := h
  refine ⟨p, ys, rfl, ?_⟩
  rcases h with h | h
  · exact .inl ⟨h, fun l hl => q l _ (fun c o e => by rw [upd_ne (ne_of_none e hl)]; exact e) (.inl (.inl upd_same))⟩
  · exact .inr ⟨h, q p H (Same.refl H) h⟩
end
/-! ### calls by keywords alone -/
def tCallZ (m : Nat) (sp : Sp) (gV : List V → List V) (E : XK) (tk : TA) : TE := fun σ H Q => tk σ H fun zs H2 => zs.length = m ∧ sp (gV zs) H2 Q E
section
variable {X : Cx} {CX : CXT} {k : Nat} {f : Addr} {fd : FuncData} {ps ks : List Str} {sp : Sp} {E : XK} {x : Str} {p pos : Pos} {kws : List Keyword} {tk : TA} {g : List Value → List Value} {gV : List V → List V}
/-- f(k = v, ..) -/
theorem pe_callZ (F : FnOk X.prog X.w X.K X.mg X.base CX k f fd ps sp) (hr : Room k X.A) (hg : Gl X x) (hm : X.mg x = some (.ref f)) (hk : PySem.W.keepIn X.K (.ref f) = true) (hb : KBn X.K fd ps 0 ks (fun _ ws => g ws) (fun _ zs => gV zs)) (hx : Passes CX X E)
    (hkw : PK X kws tk) (hall : (backToKw pos (keywordEach kws X.env)).all (·.1.isSome) = true := by rfl) (hks : (backToKw pos (keywordEach kws X.env)).filterMap (·.1) = ks := by rfl)
    (hdb : (x == ("__debug__" : Str)) = false := by decide)
    (hpl : ((backTo pos (starEach [] X.env)).any (·.1) || (backToKw pos (keywordEach kws X.env)).any (·.1.isNone)) = false := by rfl) :
    PE X (.Call (.Name x p) [] kws pos) (tCallZ ks.length sp gV E tk) := by
  refine ⟨fun pins s σ H Q I h => ?_⟩
  refine wpAny_Call_Name_kw (ld_glob I hg hm ?_ hdb)
  refine PySem.W.callWith_KW0 (h₀ := X.base) I.ok.mod.kin hk hall (thn (hkw.run pos pins s σ H _ I h) fun ws s2 ⟨zs, H2, I2, rz, l2, q2⟩ => ⟨I2.kIn, ?_⟩) hpl
  rw [hks]
  exact run_fnN F hr hb hx I2 .nil rz rfl l2 q2
end
theorem kb_of {K : PySem.W.Frag} {x qual : Str} {st : Stmt} {f : Addr} {fd : FuncData} {ps : List Str} (F : Fun K x qual st f fd) {n : Nat} {ks : List Str} (g : {α : Type} → List α → List α → List α)
    (hrel : ∀ {vs zs : List V} {us ws : List Value}, Vals vs us → Vals zs ws → Vals (g vs zs) (g us ws))
    (h : ∀ (kV doc pm : Value) (an : Option Addr) (cdv ct : Value) (us ws : List Value), us.length = n → ws.length = ks.length → bindArgs (PySem.W.fnOf x qual (defArgs st) (defBody st) (defScope st) .none kV doc pm an cdv ct) ⟨us, ks.zip ws⟩ = pure (ps.zip (g us ws))) : KBn K fd ps n ks (fun us ws => g us ws) (fun vs zs => g vs zs) := by
  obtain ⟨oc, od, kV, doc, pm, an, cdv, ct, osl, rfl, lk, hcd⟩ := F.ex
  exact ⟨fun s us ws _ l1 l2 => .of_eq (h kV doc pm an cdv ct us ws l1 l2), hrel⟩
end LK

namespace LK
open PySem PySem.Spec PyProof.Rows L2
/-! ### t[::-1] of a tuple -/
theorem fm_map {α β : Type} {f : α → Option β} {g : α → β} : ∀ {l : List α}, (∀ m ∈ l, f m = some (g m)) → l.filterMap f = l.map g
  | [], _ => rfl
  | a :: l, h => by
    rw [List.filterMap_cons, h a List.mem_cons_self]
    exact congrArg (g a :: ·) (fm_map fun m hm => h m (List.mem_cons_of_mem _ hm))
theorem rev_pick (xs : Array Value) : ((List.range xs.size).filterMap fun (m : Nat) => xs[(((xs.size : Int) - 1) + (m : Int) * (-1)).toNat]?).toArray = xs.toList.reverse.toArray := by
  have e : ((List.range xs.size).filterMap fun (m : Nat) => xs[(((xs.size : Int) - 1) + (m : Int) * (-1)).toNat]?) = xs.toList.reverse := by
    have h : ∀ m ∈ List.range xs.size, (xs[(((xs.size : Int) - 1) + (m : Int) * (-1)).toNat]?) = some (xs.toList.reverse.getD m .none) := by
      intro m hm
      have hm := List.mem_range.mp hm
      have e1 : (((xs.size : Int) - 1) + (m : Int) * (-1)).toNat = xs.size - 1 - m := by omega
      rw [e1, List.getD_eq_getElem?_getD, List.getElem?_reverse (by simpa using hm)]
      rw [Array.getElem?_eq_getElem (by omega), Array.length_toList, List.getElem?_eq_getElem (by rw [Array.length_toList]; omega)]
      rfl
    rw [fm_map h]
    refine List.ext_getElem? fun i => ?_
    rw [List.getElem?_map]
    by_cases hi : i < xs.size
    · rw [List.getElem?_range hi, List.getElem?_eq_getElem (by simpa using hi)]
      simp [List.getElem?_eq_getElem, hi]
    · rw [List.getElem?_eq_none (by simpa using hi), List.getElem?_eq_none (by simpa using hi)]
      rfl
  rw [e]
section
variable {prog : Program} {w : World} {A : Around} {E : Value → Shared → Prop} {s : Shared}
theorem sliceApplied_rev {sl : Addr} {vl vu vs : Value} {n : Nat} {Q : Int × Int × Nat → Shared → Prop} (hs : s.heap.IsSliceOf sl vl vu vs) (pl : IsPart vl none) (pu : IsPart vu none) (ps : IsPart vs (some (-1)))
    (h : Q ((n : Int) - 1, -1, n) s) : wpAny (model prog w) A (Builtin.Slice.sliceApplied (.ref sl) (pure (n : Int))) Q E s := by
  obtain ⟨os, hos, hcs, hds⟩ := id hs
  unfold Builtin.Slice.sliceApplied Builtin.Slice.sliceFields
  refine wpAny_bind (wpAny_bind (wpAny_field hos hds (x := vl) rfl (wpAny_bind (wpAny_field hos hds (x := vu) rfl (wpAny_bind (wpAny_field hos hds (x := vs) rfl (wpAny_pure ?_)))))))
  refine wpAny_bind (HT.slicePart_ ps ?_)
  show wpAny _ _ (if ((-1 : Int) == 0) = true then _ else _) _ _ s
  rw [if_neg (by decide)]
  refine wpAny_bind (HT.slicePart_ pl (wpAny_bind (HT.slicePart_ pu (wpAny_bind (wpAny_pure ?_)))))
  show wpAny _ _ (match Builtin.Slice.sliceAdjust none none (-1) (n : Int) with | (lo, hi) => pure (lo, (-1 : Int), Builtin.Slice.slicePlaces lo hi (-1))) _ _ s
  have e1 : Builtin.Slice.sliceAdjust none none (-1) (n : Int) = ((n : Int) - 1, -1) := rfl
  rw [e1]
  show wpAny _ _ (pure ((n : Int) - 1, (-1 : Int), Builtin.Slice.slicePlaces ((n : Int) - 1) (-1) (-1))) _ _ s
  have e2 : Builtin.Slice.slicePlaces ((n : Int) - 1) (-1) (-1) = n := by
    unfold Builtin.Slice.slicePlaces
    rw [if_neg (by decide)]
    by_cases c : n = 0
    · subst c; rfl
    · rw [if_pos (by omega)]
      show (((n : Int) - 1 - -1 - 1) / 1 + 1).toNat = n
      rw [Int.ediv_one]; omega
  rw [e2]
  exact wpAny_pure h
theorem getItem_tuple_rev {t sl : Addr} {items : Array Value} {vl vu vs : Value} {Q : Value → Shared → Prop} (ht : IsTup s.heap t items) (hs : s.heap.IsSliceOf sl vl vu vs) (pl : IsPart vl none) (pu : IsPart vu none) (ps : IsPart vs (some (-1)))
    (h : Q (.ref s.heap.objs.size) { s with heap := s.heap.push { cls := .type "tuple", data := .seq items.toList.reverse.toArray } })
    (hsz : items.size ≤ sizeLine) : wpAny (model prog w) A (getItem (.ref t) (.ref sl)) Q E s := by
  have htake : sizeOk (.seq items.toList.reverse.toArray) := by
    show items.toList.reverse.toArray.size ≤ sizeLine
    simpa using hsz
  obtain ⟨os, hos, hcs, hds⟩ := id hs
  have hTs : s.TypeIs (.ref sl) "slice" := ⟨os, hos, hcs⟩
  unfold getItem
  try with_reducible refine wpAny_holding ?_
  first | refine wpAny_bind (wpAny_pure ?_) | skip
  refine wpAny_bind (wpAny_sequenceKey ht.typeIs (by decide) ?_)
  refine wpAny_bind (wpAny_callSpecial?_slot (name := Str.ofString "__getitem__") ht.typeIs PyProof.Rows.slot_tuple_getitem
    (wpAny_call_entry PyProof.Rows.slot_tuple_getitem ht.typeIs PyProof.Rows.entry_tuple_getitem ?_ (PyProof.Rows.args_tuple_getitem _ _)))
  show wpAny _ _ (Builtin.Tuple.tupleItemsOf (.ref t) >>= _) _ _ s
  refine wpAny_bind (PyProof.Rows.tupleItemsOf_ ht ?_)
  refine wpAny_bind (wpAny_typeOf hTs ?_)
  rw [if_pos (by decide)]
  refine wpAny_bind (sliceApplied_rev hs pl pu ps ?_)
  have hno : ¬ ((((items.size : Int) - 1) == 0 && (-1 : Int) == 1 && items.size == items.size) = true) := by
    intro q
    rw [Bool.and_eq_true, Bool.and_eq_true] at q
    exact absurd (eq_of_beq q.1.2) (by decide)
  show wpAny _ _ (if (((items.size : Int) - 1) == 0 && (-1 : Int) == 1 && items.size == items.size) = true then _ else _) _ _ s
  rw [if_neg hno, rev_pick]
  first
    | exact wpAny_bind (m := Builtin.Tuple.tupleExact _) (wpAny_newObj_type (wpAny_pure ⟨_, rfl, wpAny_pure h⟩) htake)
    | exact wpAny_bind (m := Builtin.Tuple.tupleExact _) (wpAny_newObj_type (wpAny_bind (wpAny_pure (wpAny_pure ⟨_, rfl, wpAny_pure h⟩))) htake)
    | exact wpAny_bind (wpAny_bind (m := Builtin.Tuple.tupleExact _) (wpAny_newObj_type (wpAny_pure (wpAny_pure ⟨_, rfl, wpAny_pure h⟩)) htake))
    | exact wpAny_bind (wpAny_bind (m := Builtin.Tuple.tupleExact _) (wpAny_newObj_type (wpAny_pure ⟨_, rfl, wpAny_pure h⟩) htake))
end
section
variable {X : Cx}
def tRevT (K : PySem.W.Frag) (te : TE) : TE := fun σ H Q => te σ H fun x H1 => ∃ a xs, x = .ref a ∧ SqT K H1 a xs ∧ ∀ p H2, Same H1 H2 → H1 p = none → H2 p = some (.tup xs.reverse) → Q (.ref p) H2
theorem pe_revT {e : Expr} {te : TE} {k : Nat} {p1 p2 p3 pos : Pos} (he : PE X e te) : PE X (.Subscript e (.Slice none none (some (.UnaryOp .USub (.Constant (.int 1) k p1) p2)) p3) pos) (tRevT X.K te) := by
  refine ⟨fun pins s σ H Q I h => ?_⟩
  refine Subscript_ (thn (he.run pins s σ H _ I h) fun v s1 ⟨x, H1, I1, r1, q1⟩ => ?_)
  obtain ⟨a, xs, ex, hx, q⟩ := q1
  subst ex
  cases r1
  have hst : PO X (some (.UnaryOp .USub (.Constant (.int 1) k p1) p2)) (tPart (tUn (rU fun i => .int (-i)) (tC (.int 1)))) := po_some (pe_un un_neg pe_int)
  refine wpAny_Slice (thn (po_none.run pins s1 σ H1 (fun o H2 => o = none ∧ H2 = H1) I1 ⟨rfl, rfl⟩) fun vl s2 ⟨l, H2, I2, pl, el, e2⟩ => ?_)
  subst el e2
  refine thn (po_none.run pins s2 σ H2 (fun o H3 => o = none ∧ H3 = H2) I2 ⟨rfl, rfl⟩) fun vu s3 ⟨u, H3, I3, pu, eu, e3⟩ => ?_
  subst eu e3
  refine thn (hst.run pins s3 σ H3 (fun o H4 => o = some (-1) ∧ H4 = H3) I3 ⟨1, rfl, -1, rfl, rfl, rfl⟩) fun vs s4 ⟨o, H4, I4, ps, eo, e4⟩ => ?_
  subst eo e4
  have I5 : Inv X pins σ H4 { s4 with heap := s4.heap.push { cls := .type "slice", data := .fields #[vl, vu, vs] } } := I4.kept (t' := s4.toks) fun b ob q => Heap.get?_push_of_some _ q
  obtain ⟨its, r, ht, hz⟩ := I5.tuple hx
  have hlen := r.length
  show wpAny (model X.prog X.w) X.A (subscriptTail e (.Slice none none (some (.UnaryOp .USub (.Constant (.int 1) k p1) p2)) p3) (.ref a) (.ref s4.heap.objs.size)) (EP X pins σ Q) X.xe { s4 with heap := s4.heap.push { cls := .type "slice", data := .fields #[vl, vu, vs] } }
  refine tail_any (ops := [.ref a, .ref s4.heap.objs.size]) ht.typeIs (PyProof.Rows.slot_tuple_getitem.lookup) ?_ (by with_unfolding_all rfl)
  refine getItem_tuple_rev ht (Heap.IsSliceOf.new _ vl vu vs) pl pu ps ?_ (by rw [List.size_toArray]; omega)
  refine ⟨.ref _, _, I5.laid (t' := s4.toks) (o := .tup xs.reverse) (fun b ob q => Heap.get?_push_of_some _ q) (Nat.le_refl _) ?_, rfl, q _ _ (same_upd (I5.hok.fresh (Nat.le_refl _))) (I5.hok.fresh (Nat.le_refl _)) upd_same⟩
  exact ⟨by rw [List.length_reverse]; exact hz, _, r.reverse, IsTup.new _ _⟩
end
end LK
namespace LK
open PySem PySem.Spec PyProof.Rows L2
/-! ### d.get(k) of a written dict with text keys -/
section
variable {X : Cx} {d : Addr} {es : Array DictEntry} {n : Nat} {o e : Expr} {apos cpos : Pos} {td ty : TE}
def tWget (K : PySem.W.Frag) (d : Addr) (td ty : TE) : TE := fun σ H Q => td σ H fun x H1 => x = .ref d ∧ ty σ H1 fun y H2 => ∃ (z : Str) (r : Option Value) (v : V), y = .str z ∧ PySem.W.nsIn K d z = some r ∧ RelV v (r.getD .none) ∧ Q v H2
theorem pe_wget (D : KDict X.K X.w d es n) (ho : PE X o td) (he : PE X e ty) (hbase : attributeBase o "get" X.env (eval o X.env) = eval o X.env := by rfl)
    (hfew : ((backTo cpos (starEach [e] X.env)).all (fun x => !x.1) && (backToKw cpos (keywordEach [] X.env)).all (fun x => x.1.isSome)
    && decide (([e] : List Expr).length + ([] : List Keyword).length + (if ([] : List Keyword).isEmpty then 0 else 1) < 30)) = true := by rfl)
    (hline : (apos.endLine == cpos.line) = true := by rfl) (htr : backTo cpos (starEach [e] X.env) = [(false, eval e X.env)] := by rfl) : PE X (.Call (.Attribute o "get" apos) [e] [] cpos) (tWget X.K d td ty) := by
  refine ⟨fun pins s σ H Q I h => ?_⟩
  refine wpAny_Call_method hbase hfew hline PySem.F.plainAttrs_dict PySem.F.slot_dict_get PySem.F.type_dict_get (thn (ho.run pins s σ H _ I h) fun u s1 ⟨x, H1, I1, rx, ex, q1⟩ => ?_)
  subst ex
  obtain rfl : u = Value.ref d := rx
  have ob := I1.kIn _ _ D.at_
  refine ⟨kd_type D I1, fun b q => ?_, ?_⟩
  · cases q
    exact ⟨_, ob, rfl⟩
  rw [htr]
  refine Calls.callWith_builtin rfl (Calls.evalArgs_plain (Calls.spliced_cons (thn (he.run pins s1 σ H1 _ I1 q1) fun iv s2 ⟨y, H2, I2, ry, z, r, v, ey, hn, rv, q2⟩ => Calls.spliced_nil ?_)))
  subst ey
  obtain ⟨t, rfl⟩ := ry
  refine call_meetsIn PySem.F.slot_dict_get (kd_type D I2) PySem.F.entry_dict_get (PySem.F.args_dict_get_2 _ _) (meets_dict_get (strKind X.prog X.w) d (PySem.strKind_is X.prog X.w z t) D.low)
    ⟨_, PySem.W.mapOf_K (prog := X.prog) I2.kIn D.at_ D.lit, v, H2, I2.tok _, ?_, q2⟩
  rw [PySem.W.find_K D.at_ hn]
  exact rv
end
end LK
namespace LK
open PySem PySem.Spec PyProof.Rows L2
/-! ### comprehensions without tests -/
/-- what is new since H -/
def nw (H H' : Hp) : Hp := fun a => if H a = none then H' a else none
theorem nw_some {H H' : Hp} {a : Addr} {o : HO} (h : nw H H' a = some o) : H a = none ∧ H' a = some o := by
  unfold nw at h
  split at h
  · exact ⟨by assumption, h⟩
  · cases h
theorem nw_of {H H' : Hp} {a : Addr} {o : HO} (h0 : H a = none) (h : H' a = some o) : nw H H' a = some o := by
  unfold nw
  rw [if_pos h0]; exact h
theorem nw_le (H H' : Hp) : Same (nw H H') H' := fun _ _ h => (nw_some h).2
theorem nw_hb {H H' : Hp} {b : Addr} {o : HO} (h : H b = some o) : Same (nw H H') (hb H' b) := fun a u e => by
  obtain ⟨h1, h2⟩ := nw_some e
  have n : a ≠ b := fun q => by rw [q, h] at h1; cases h1
  rw [hb_ne n]; exact h2
/-- new since a later heap is new since an earlier one -/
theorem nw_anti {H0 H H' : Hp} (d : ∀ a, H a = none → H0 a = none) : Same (nw H H') (nw H0 H') := fun a u e => by
  obtain ⟨h1, h2⟩ := nw_some e
  exact nw_of (d a h1) h2
theorem nw_same {H H' H'' : Hp} (s : ∀ a o, H a = none → H' a = some o → H'' a = some o) : Same (nw H H') (nw H H'') := fun a u e => by
  obtain ⟨h1, h2⟩ := nw_some e
  exact nw_of h1 (s _ _ h1 h2)
theorem Kp.dom {b : Addr} {H H' : Hp} {o : HO} (k : Kp b H H') (hb' : H' b = some o) : ∀ a, H' a = none → H a = none := fun a h => by
  cases q : H a with
  | none => rfl
  | some u =>
    by_cases e : a = b
    · subst e; rw [hb'] at h; cases h
    · rw [k.hd q e] at h; cases h
theorem Same.dom {H H' : Hp} (k : Same H H') : ∀ a, H' a = none → H a = none := fun a h => k.free h

/-- a pure one -/
theorem lc_pure {J : It} {n : Nat} {G : Hp → Prop} {Y : Nat → Hp → V → Hp → Prop} (w : Walk J n G Y) {g : TG} {te : TE} {vs : List Nat} {σ : L2.St} {H1 : Hp} {D : Addr} {Qd : Hp → Prop} (hD : H1 D = none) (hn : n ≤ 1000000) (y : Nat → V)
    (hG : ∀ H, Same H1 H → G H)
    (hs : ∀ i x H H', i < n → Same H1 H → Y i H x H' → g x (wipe σ vs) H' fun σ2 H2 => Same H H2 ∧ wipe σ2 vs = wipe σ vs ∧ ∀ Q2 : V → Hp → Prop, (∀ H3, Same H2 H3 → Q2 (y i) H3) → te σ2 H2 Q2)
    (gm : ∀ x σ0 H0 Q0 Q1, (∀ σ2 H2, Q0 σ2 H2 → Q1 σ2 H2) → g x σ0 H0 Q0 → g x σ0 H0 Q1)
    (hq : ∀ H', Same H1 H' → H' D = some (.lst ((List.range n).map y)) → Qd H') :
    ∃ W : Nat → Nat → Hp → Prop, (∃ m, W 0 m (upd H1 D (.lst []))) ∧ ∀ i m H, W i m H →
      (J.stop i H ∧ Qd H) ∨ (J.go i H ∧ ∃ Nx : Hp → Prop, (∀ H', Nx H' → ∃ m', m' < m ∧ W (i + 1) m' H') ∧ ∀ x H', J.yld i H x H' → g x (wipe σ vs) H' fun σ2 H2 => wipe σ2 vs = wipe σ vs ∧ tYes σ2 H2 fun b H3 =>
        if b = true then te σ2 H3 fun y H4 => ∃ acc, H4 D = some (.lst acc) ∧ acc.length < sizeLine ∧ Nx (upd H4 D (.lst (acc ++ [y]))) else Nx H3) := by
  have up : ∀ {H : Hp} {o : HO}, Same H1 H → Same H1 (upd H D o) := fun s a u e => by
    rw [upd_ne (ne_of_none e hD)]; exact s _ _ e
  refine lc_it w (fun i H => Same H1 H ∧ H D = some (.lst ((List.range i).map y))) ⟨up (Same.refl _), upd_same⟩ (fun i H _ h => hG H h.1) (fun i x H H' hi ⟨s1, h1⟩ hY => ?_) (fun H h => hq H h.1 h.2)
  refine gm _ _ _ _ _ (fun σ2 H2 ⟨s2, e2, k⟩ => ⟨e2, ?_⟩) (hs i x H H' hi s1 hY)
  simp only [tYes, eq_self, ite_true]
  refine k _ fun H3 s3 => ⟨_, s3 _ _ (s2 _ _ h1), ?_, up (Same.trans (Same.trans s1 s2) s3), ?_⟩
  · rw [List.length_map, List.length_range]
    exact Nat.lt_of_lt_of_le (Nat.lt_of_lt_of_le hi hn) (by decide)
  · rw [upd_same, List.range_succ, List.map_append]
    rfl
/-- one that draws from a bag -/
theorem lc_bag {J : It} {n k N : Nat} {G : Hp → Prop} {Y : Nat → Hp → V → Hp → Prop} (w : Walk J n G Y) {g : TG} {te : TE} {vs : List Nat} {σ : L2.St} {H1 : Hp} {D b c : Addr} {Qd : Hp → Prop} (hD : H1 D = none) (hB : Bag (N + n * k) H1 b c) (hn : n ≤ 1000000) (Φ : Hp → V → Prop) (mono : ∀ G G' v, Same G G' → Φ G v → Φ G' v)
    (hG : ∀ H, Kp b H1 H → G H)
    (hs : ∀ i x H H' M, i < n → Kp b H1 H → Bag (M + k) H b c → Y i H x H' → g x (wipe σ vs) H' fun σ2 H2 => Same H H2 ∧ wipe σ2 vs = wipe σ vs ∧ ∀ Q2 : V → Hp → Prop, (∀ v H3, Bag M H3 b c → Kp b H2 H3 → Φ (nw H2 H3) v → Q2 v H3) → te σ2 H2 Q2)
    (gm : ∀ x σ0 H0 Q0 Q1, (∀ σ2 H2, Q0 σ2 H2 → Q1 σ2 H2) → g x σ0 H0 Q0 → g x σ0 H0 Q1)
    (hq : ∀ H' ys, Bag N H' b c → Kp b H1 H' → H' D = some (.lst ys) → ys.length = n → (∀ v ∈ ys, Φ (nw (upd H1 D (.lst [])) H') v) → Qd H') :
    ∃ W : Nat → Nat → Hp → Prop, (∃ m, W 0 m (upd H1 D (.lst []))) ∧ ∀ i m H, W i m H →
      (J.stop i H ∧ Qd H) ∨ (J.go i H ∧ ∃ Nx : Hp → Prop, (∀ H', Nx H' → ∃ m', m' < m ∧ W (i + 1) m' H') ∧ ∀ x H', J.yld i H x H' → g x (wipe σ vs) H' fun σ2 H2 => wipe σ2 vs = wipe σ vs ∧ tYes σ2 H2 fun b H3 =>
        if b = true then te σ2 H3 fun y H4 => ∃ acc, H4 D = some (.lst acc) ∧ acc.length < sizeLine ∧ Nx (upd H4 D (.lst (acc ++ [y]))) else Nx H3) := by
  obtain ⟨xb, eb⟩ := hB.at
  obtain ⟨xc, ec⟩ := hB.at2
  have nbD : b ≠ D := fun e => by rw [← e, eb] at hD; cases hD
  have ncD : c ≠ D := fun e => by rw [← e, ec] at hD; cases hD
  have up : ∀ {H : Hp} {o : HO}, Kp b H1 H → Kp b H1 (upd H D o) := fun s a u e => by
    obtain ⟨h1, h2⟩ := hb_some e
    rw [hb_ne h1, upd_ne (ne_of_none h2 hD)]
    exact s.hd h2 h1
  refine lc_it w (fun i H => Kp b H1 H ∧ Bag (N + (n - i) * k) H b c ∧ ∃ ys, H D = some (.lst ys) ∧ ys.length = i ∧ ∀ v ∈ ys, Φ (nw (upd H1 D (.lst [])) H) v) ⟨up (Kp.refl _ _), hB.upd nbD ncD, [], upd_same, rfl, fun v hv => absurd hv (by simp)⟩ (fun i H _ h => hG H h.1) (fun i x H H' hi ⟨s1, B1, ys, h1, hl, hp⟩ hY => ?_) (fun H ⟨s1, B1, ys, h1, hl, hp⟩ => hq H ys (B1.le (Nat.le_add_right _ _)) s1 h1 hl hp)
  refine gm _ _ _ _ _ (fun σ2 H2 ⟨s2, e2, kq⟩ => ⟨e2, ?_⟩) (hs i x H H' (N + (n - (i + 1)) * k) hi s1 (B1.le (by
    have e : n - i = (n - (i + 1)) + 1 := by omega
    rw [e, Nat.add_mul, Nat.one_mul, Nat.add_assoc]; exact Nat.le_refl _)) hY)
  simp only [tYes, eq_self, ite_true]
  have B2 := B1.same s2
  refine kq _ fun v H3 B3 k3 hv => ⟨ys, k3.hd (s2 _ _ h1) nbD.symm, ?_, up (Same.trans (Same.trans s1 (Kp.of s2)) k3), B3.upd nbD ncD, ys ++ [v], upd_same, by rw [List.length_append, hl]; rfl, fun u hu => ?_⟩
  · rw [hl]
    exact Nat.lt_of_lt_of_le (Nat.lt_of_lt_of_le hi hn) (by decide)
  · have kk : ∀ a o, upd H1 D (.lst []) a = none → H3 a = some o → upd H3 D (.lst (ys ++ [v])) a = some o := fun a o q e => by
      have n : a ≠ D := fun z => by rw [z, upd_same] at q; cases q
      rw [upd_ne n]; exact e
    rcases List.mem_append.mp hu with hu | hu
    · refine mono _ _ _ (fun a o e => ?_) (hp u hu)
      obtain ⟨q1, q2⟩ := nw_some e
      have n : a ≠ b := fun z => by rw [z, upd_ne nbD, eb] at q1; cases q1
      exact nw_of q1 (kk _ _ q1 (k3.hd (s2 _ _ q2) n))
    · obtain rfl : u = v := by simpa using hu
      refine mono _ _ _ (fun a o e => ?_) hv
      obtain ⟨q1, q2⟩ := nw_some e
      have d1 : upd H1 D (.lst []) a = none := by
        by_cases n : a = D
        · rw [n, s2 _ _ h1] at q1; cases q1
        · rw [upd_ne n]
          exact Kp.dom (Same.trans s1 (Kp.of s2)) (B2.at.choose_spec) a q1
      exact nw_of d1 (kk _ _ d1 q2)
end LK
namespace LK
open PySem PySem.Spec PyProof.Rows L2
theorem cutV_take (xs : List V) (k : Nat) : cutV xs none (some (k : Int)) = xs.take k := by
  unfold cutV HT.sIx
  simp only [List.drop_zero, Nat.sub_zero]
  by_cases h : (k : Int) < 0
  · omega
  · rw [if_neg h]
    have e : ((k : Int)).toNat = k := Int.toNat_natCast k
    by_cases c : k ≤ xs.length
    · congr 1
      omega
    · rw [List.take_of_length_le (by omega), List.take_of_length_le (by omega)]
theorem cutV_drop (xs : List V) (k : Nat) : cutV xs (some (k : Int)) none = xs.drop k := by
  unfold cutV
  rw [HT.sIx_nat, HT.sIx_none]
  by_cases c : k ≤ xs.length
  · rw [Nat.min_eq_left c, List.take_of_length_le (by simp)]
  · rw [Nat.min_eq_right (by omega), List.drop_eq_nil_of_le (by omega), List.drop_eq_nil_of_le (by omega)]
    simp
end LK
namespace LK
open PySem PySem.Spec PyProof.Rows L2
/-! ### new objects, the heap behind them by a name -/
section
variable {X : Cx} {es : List Expr} {t : TA} {pos : Pos}
def tTupU (t : TA) : TE := fun σ H Q => t σ H fun xs H1 => xs.length ≤ sizeLine ∧ ∀ p H2, Same H1 H2 → H1 p = none → H2 p = some (.tup xs) → Q (.ref p) H2
def tLstU (t : TA) : TE := fun σ H Q => t σ H fun xs H1 => xs.length ≤ sizeLine ∧ ∀ p H2, Same H1 H2 → H1 p = none → H2 p = some (.lst xs) → Q (.ref p) H2
theorem pe_tupU {x1} (h : PA X es t) : PE X (.Tuple es x1 pos) (tTupU t) := by
  refine ⟨fun pins s σ H Q I hq => ?_⟩
  refine wpAny_Tuple_spliced (thn (h.run pos pins s σ H _ I hq) fun us s1 ⟨xs, H1, I1, r, z, q⟩ => ⟨by rw [← r.length]; exact z, ?_⟩)
  have hf : H1 s1.heap.objs.size = none := I1.hok.fresh (Nat.le_refl _)
  refine ⟨.ref s1.heap.objs.size, L2.upd H1 s1.heap.objs.size (.tup xs), I1.laid (t' := s1.toks) (fun b u e => Heap.get?_push_of_some _ e) (Nat.le_refl _) ?_, rfl, q _ _ (same_upd hf) hf upd_same⟩
  exact ⟨z, us, r, ⟨_, Heap.get?_push_size _ rfl, rfl, _, rfl⟩⟩
theorem pe_lstU (h : PA X es t) : PE X (.List es pos) (tLstU t) := by
  refine ⟨fun pins s σ H Q I hq => ?_⟩
  refine wpAny_List_spliced (thn (h.run pos pins s σ H _ I hq) fun us s1 ⟨xs, H1, I1, r, z, q⟩ => ⟨by rw [← r.length]; exact z, ?_⟩)
  have hf : H1 s1.heap.objs.size = none := I1.hok.fresh (Nat.le_refl _)
  refine ⟨.ref s1.heap.objs.size, L2.upd H1 s1.heap.objs.size (.lst xs), I1.laid (t' := s1.toks) (fun b u e => Heap.get?_push_of_some _ e) (Nat.le_refl _) ?_, rfl, q _ _ (same_upd hf) hf upd_same⟩
  exact ⟨z, us, 0, r, Heap.get?_push_size _ rfl⟩
def rSlLU (K : PySem.W.Frag) : V → Option Int → Option Int → Hp → VK → Prop := fun x lo hi H Q => ∃ a xs, x = .ref a ∧ SqL K H a xs ∧ ∀ p H2, Same H H2 → H p = none → H2 p = some (.lst (cutV xs lo hi)) → Q (.ref p) H2
theorem sl_listU : SlR X (rSlLU X.K) := by
  intro pins s σ H x v vl vu lo hi sl Q I rx hs pl pu h
  obtain ⟨a, xs, rfl, hx, q⟩ := h
  exact sl_list pins s σ H _ v vl vu lo hi sl Q I rx hs pl pu ⟨a, xs, rfl, hx, fun p hp => q p _ (same_upd hp) hp upd_same⟩
theorem call_listU : CallR X (.type "list") (fun xs H Q => ∃ p ys, xs = [.ref p] ∧ (SqL X.K H p ys ∨ SqT X.K H p ys) ∧ ∀ l H2, Same H H2 → H l = none → H2 l = some (.lst ys) → Q (.ref l) H2) := cr_imp call_list_of fun xs H Q h => by
  obtain ⟨p, ys, rfl, h, q⟩ := h
  exact ⟨p, ys, rfl, h, fun l hl => q l _ (same_upd hl) hl upd_same⟩
def rCatL : R2 := fun x y H Q => ∃ l b xs zs, x = .ref l ∧ y = .ref b ∧ H l = some (.lst xs) ∧ H b = some (.lst zs) ∧ xs.length + zs.length ≤ sizeLine ∧ ∀ p H2, Same H H2 → H p = none → H2 p = some (.lst (xs ++ zs)) → Q (.ref p) H2
theorem op_catL : OpR X (binaryOp .Add) rCatL := opr_imp op_cat fun x y H Q h => by
  obtain ⟨l, b, xs, zs, rfl, rfl, h1, h2, hz, q⟩ := h
  exact ⟨l, b, xs, zs, rfl, rfl, h1, h2, hz, fun p hp => q p _ (same_upd hp) hp upd_same⟩
def rRepL : R2 := fun x y H Q => ∃ l k xs, x = .ref l ∧ y = .int k ∧ H l = some (.lst xs) ∧ -(2 ^ 63) ≤ k ∧ k < 2 ^ 63 ∧ xs.length * k.toNat ≤ sizeLine ∧ ∀ p H2, Same H H2 → H p = none → H2 p = some (.lst (List.replicate k.toNat xs).flatten) → Q (.ref p) H2
theorem op_repL : OpR X (binaryOp .Mult) rRepL := opr_imp op_rep fun x y H Q h => by
  obtain ⟨l, k, xs, rfl, rfl, h1, h2, h3, hz, q⟩ := h
  exact ⟨l, k, xs, rfl, rfl, h1, h2, h3, hz, fun p hp => q p _ (same_upd hp) hp upd_same⟩
end
end LK
namespace LK
open PySem PySem.Spec PyProof.Rows L2
/-- [f(x) for x in ..], the items known -/
theorem lc_map {J : It} {n : Nat} {G : Hp → Prop} {Y : Nat → Hp → V → Hp → Prop} (w : Walk J n G Y) {te : TE} {i : Nat} {σ : L2.St} {H1 : Hp} {D : Addr} {Qd : Hp → Prop} (xs : List V) (f : V → V) (hD : H1 D = none) (hn : n ≤ 1000000) (hx : xs.length = n)
    (hY : ∀ k H x H', k < n → Y k H x H' → H' = H ∧ xs[k]? = some x) (hG : ∀ H, Same H1 H → G H)
    (hs : ∀ x H, x ∈ xs → Same H1 H → ∀ Q2 : V → Hp → Prop, (∀ H3, Same H H3 → Q2 (f x) H3) → te ((wipe σ [i]).set i (some x)) H Q2)
    (hq : ∀ H', Same H1 H' → H' D = some (.lst (xs.map f)) → Qd H') :
    ∃ W : Nat → Nat → Hp → Prop, (∃ m, W 0 m (L2.upd H1 D (.lst []))) ∧ ∀ i' m H, W i' m H →
      (J.stop i' H ∧ Qd H) ∨ (J.go i' H ∧ ∃ Nx : Hp → Prop, (∀ H', Nx H' → ∃ m', m' < m ∧ W (i' + 1) m' H') ∧ ∀ x H', J.yld i' H x H' → gName i x (wipe σ [i]) H' fun σ2 H2 => wipe σ2 [i] = wipe σ [i] ∧ tYes σ2 H2 fun b H3 =>
        if b = true then te σ2 H3 fun y H4 => ∃ acc, H4 D = some (.lst acc) ∧ acc.length < sizeLine ∧ Nx (L2.upd H4 D (.lst (acc ++ [y]))) else Nx H3) := by
  have e : (List.range n).map (fun k => f (xs.getD k .non)) = xs.map f := by
    refine List.ext_getElem? fun k => ?_
    rw [List.getElem?_map, List.getElem?_map]
    by_cases hk : k < n
    · rw [List.getElem?_range hk, List.getElem?_eq_getElem (by omega)]
      simp [List.getD_eq_getElem?_getD, List.getElem?_eq_getElem (show k < xs.length by omega)]
    · rw [List.getElem?_eq_none (by simpa using hk), List.getElem?_eq_none (by omega)]
      rfl
  refine lc_pure w hD hn (fun k => f (xs.getD k .non)) hG (fun k x H H' hk s1 y => ?_) (fun x σ0 H0 Q0 Q1 h q => h _ _ q) (fun H' s h => hq H' s (by rw [← e]; exact h))
  obtain ⟨rfl, hx2⟩ := hY _ _ _ _ hk y
  refine ⟨Same.refl _, ?_, fun Q2 h2 => hs x H' (List.mem_of_getElem? hx2) s1 Q2 fun H3 s3 => ?_⟩
  · show ((σ.set i none).set i (some x)).set i none = σ.set i none
    rw [List.set_set, List.set_set]
  · have e2 : xs.getD k .non = x := by rw [List.getD_eq_getElem?_getD, hx2]; rfl
    have := h2 H3 s3
    rw [e2] at this
    exact this
/-- the same, drawing from a bag -/
theorem lc_draw {J : It} {n k N : Nat} {G : Hp → Prop} {Y : Nat → Hp → V → Hp → Prop} (w : Walk J n G Y) {te : TE} {i : Nat} {σ : L2.St} {H1 : Hp} {D b c : Addr} {Qd : Hp → Prop} (Φ : Hp → V → Prop) (mono : ∀ G G' v, Same G G' → Φ G v → Φ G' v) (hD : H1 D = none) (hB : Bag (N + n * k) H1 b c) (hn : n ≤ 1000000)
    (hY : ∀ k H x H', Y k H x H' → H' = H) (hG : ∀ H, Kp b H1 H → G H)
    (hs : ∀ x H M, Kp b H1 H → Bag (M + k) H b c → ∀ Q2 : V → Hp → Prop, (∀ v H3, Bag M H3 b c → Kp b H H3 → Φ (nw H H3) v → Q2 v H3) → te ((wipe σ [i]).set i (some x)) H Q2)
    (hq : ∀ H' ys, Bag N H' b c → Kp b H1 H' → H' D = some (.lst ys) → ys.length = n → (∀ v ∈ ys, Φ (nw (L2.upd H1 D (.lst [])) H') v) → Qd H') :
    ∃ W : Nat → Nat → Hp → Prop, (∃ m, W 0 m (L2.upd H1 D (.lst []))) ∧ ∀ i' m H, W i' m H →
      (J.stop i' H ∧ Qd H) ∨ (J.go i' H ∧ ∃ Nx : Hp → Prop, (∀ H', Nx H' → ∃ m', m' < m ∧ W (i' + 1) m' H') ∧ ∀ x H', J.yld i' H x H' → gName i x (wipe σ [i]) H' fun σ2 H2 => wipe σ2 [i] = wipe σ [i] ∧ tYes σ2 H2 fun b H3 =>
        if b = true then te σ2 H3 fun y H4 => ∃ acc, H4 D = some (.lst acc) ∧ acc.length < sizeLine ∧ Nx (L2.upd H4 D (.lst (acc ++ [y]))) else Nx H3) := by
  refine lc_bag w hD hB hn Φ mono hG (fun j x H H' M hk s1 B1 y => ?_) (fun x σ0 H0 Q0 Q1 h q => h _ _ q) hq
  have e := hY _ _ _ _ y
  subst e
  refine ⟨Same.refl _, ?_, fun Q2 h2 => hs x H' M s1 B1 Q2 h2⟩
  show ((σ.set i none).set i (some x)).set i none = σ.set i none
  rw [List.set_set, List.set_set]
def signsV (z : Str) : List V := z.cps.toList.map fun c => V.str ⟨#[c]⟩
theorem signsV_at {z : Str} : ∀ (k : Nat) (H : Hp) (x : V) (H' : Hp), (H' = H ∧ ∃ c, z.cps[k]? = some c ∧ x = V.str ⟨#[c]⟩) → H' = H ∧ (signsV z)[k]? = some x := by
  rintro k H x H' ⟨rfl, c, h, rfl⟩
  refine ⟨rfl, ?_⟩
  unfold signsV
  rw [List.getElem?_map, Array.getElem?_toList, h]
  rfl
theorem signsV_length (z : Str) : (signsV z).length = z.cps.size := by simp [signsV]
theorem all_map_id {α : Type} (p : α → Bool) (l : List α) : (l.map p).all id = l.all p := by
  rw [List.all_map]; rfl
end LK
namespace LK
open PySem PySem.Spec PyProof.Rows L2
/-- [p(c) for c in z], z a text -/
theorem lc_signs {z : Str} {te : TE} {i : Nat} {σ : L2.St} {H1 : Hp} {D : Addr} {Qd : Hp → Prop} (p : Nat → Bool) (hD : H1 D = none) (hz : z.length ≤ 1000000)
    (hs : ∀ c H, c ∈ z.cps.toList → Same H1 H → ∀ Q2 : V → Hp → Prop, (∀ H3, Same H H3 → Q2 (.bl (p c)) H3) → te ((wipe σ [i]).set i (some (.str ⟨#[c]⟩))) H Q2)
    (hq : ∀ H', Same H1 H' → H' D = some (.lst ((z.cps.toList.map p).map V.bl)) → Qd H') :
    ∃ W : Nat → Nat → Hp → Prop, (∃ m, W 0 m (L2.upd H1 D (.lst []))) ∧ ∀ i' m H, W i' m H →
      ((Its z).stop i' H ∧ Qd H) ∨ ((Its z).go i' H ∧ ∃ Nx : Hp → Prop, (∀ H', Nx H' → ∃ m', m' < m ∧ W (i' + 1) m' H') ∧ ∀ x H', (Its z).yld i' H x H' → gName i x (wipe σ [i]) H' fun σ2 H2 => wipe σ2 [i] = wipe σ [i] ∧ tYes σ2 H2 fun b H3 =>
        if b = true then te σ2 H3 fun y H4 => ∃ acc, H4 D = some (.lst acc) ∧ acc.length < sizeLine ∧ Nx (L2.upd H4 D (.lst (acc ++ [y]))) else Nx H3) := by
  refine lc_map walk_str (signsV z) (fun v => match v with | .str y => .bl (p (y.cps.toList.headD 0)) | _ => .non) hD hz (signsV_length z) (fun k H x H' _ y => signsV_at k H x H' y) (fun _ _ => trivial) (fun x H hx s1 Q2 h2 => ?_) (fun H' s h => hq H' s ?_)
  · obtain ⟨c, hc, rfl⟩ := List.mem_map.mp hx
    exact hs c H hc s1 Q2 h2
  · rw [h]
    unfold signsV
    rw [List.map_map, List.map_map]
    rfl
theorem starts_minus {z : Str} (h : Txt.startswith z "-" = true) : ∃ r, z.cps.toList = 45 :: r := by
  have h2 : PySem.StrLaws.At z "-" z.length 0 := by
    unfold Txt.startswith at h
    rw [Bool.and_eq_true] at h
    exact ⟨of_decide_eq_true h.1, h.2⟩
  have e : TL.tl "-" = [45] := by decide +kernel
  have q := (TL.at_iff (by rw [e]; simp) 0).mp h2
  rw [e, List.drop_zero] at q
  unfold TL.pre at q
  have q2 : z.cps.toList.take 1 = [45] := eq_of_beq q
  cases hz : z.cps.toList with
  | nil => rw [hz] at q2; simp at q2
  | cons c r => rw [hz] at q2; simp at q2; rw [q2]; exact ⟨r, rfl⟩
theorem cutS_tail (z : Str) : (cutS z (some 1) none).cps.toList = z.cps.toList.drop 1 := by
  unfold cutS
  have e1 := HT.sIx_nat z.length 0 1
  have l : z.length = z.cps.toList.length := by rw [Array.length_toList]; rfl
  show ((z.cps.toList.drop (HT.sIx z.length 0 (some ((1 : Nat) : Int)))).take (HT.sIx z.length z.length none - HT.sIx z.length 0 (some ((1 : Nat) : Int)))) = _
  rw [e1, HT.sIx_none]
  by_cases c : 1 ≤ z.length
  · rw [Nat.min_eq_left c, List.take_of_length_le (by rw [List.length_drop]; omega)]
  · rw [List.drop_eq_nil_of_le (by omega), List.drop_eq_nil_of_le (by omega)]
    simp
theorem len_cps (z : Str) : z.cps.toList.length = z.length := by rw [Array.length_toList]; rfl
end LK
namespace LK
theorem iteTT {c A B : Prop} [Decidable c] (hc : c) (h : A) : if c then A else B := by rw [if_pos hc]; exact h
theorem iteFF {c A B : Prop} [Decidable c] (hc : ¬ c) (h : B) : if c then A else B := by rw [if_neg hc]; exact h
end LK
namespace LK
open PySem PySem.Spec PyProof.Rows L2
theorem str_append (a b : Str) : (a ++ b).cps.toList = a.cps.toList ++ b.cps.toList := by
  show (a.cps ++ b.cps).toList = _
  exact Array.toList_append
theorem str_append_len (a b : Str) : (a ++ b).length = a.length + b.length := by
  rw [← len_cps, str_append, List.length_append, len_cps, len_cps]
theorem cutS_tail_len (z : Str) : (cutS z (some 1) none).length = z.length - 1 := by
  rw [← len_cps, cutS_tail, List.length_drop, len_cps]
theorem cutS_len (z : Str) (lo hi : Option Int) : (cutS z lo hi).length ≤ z.length := by
  rw [← len_cps, ← len_cps z]
  unfold cutS
  show (List.take _ (List.drop _ _)).length ≤ _
  rw [List.length_take, List.length_drop]
  omega
end LK
namespace LK
open PySem PySem.Spec PyProof.Rows L2
/-- [f(k) for k in range(n)] -/
theorem lc_rng {lo : Int} {n : Nat} {te : TE} {i : Nat} {σ : L2.St} {H1 : Hp} {D : Addr} {Qd : Hp → Prop} (f : Int → V) (hD : H1 D = none) (hn : n ≤ 1000000)
    (hs : ∀ (k : Nat) H, k < n → Same H1 H → ∀ Q2 : V → Hp → Prop, (∀ H3, Same H H3 → Q2 (f (lo + (k : Int))) H3) → te ((wipe σ [i]).set i (some (.int (lo + (k : Int))))) H Q2)
    (hq : ∀ H', Same H1 H' → H' D = some (.lst ((List.range n).map fun (k : Nat) => f (lo + (k : Int)))) → Qd H') :
    ∃ W : Nat → Nat → Hp → Prop, (∃ m, W 0 m (L2.upd H1 D (.lst []))) ∧ ∀ i' m H, W i' m H →
      ((Itr lo n).stop i' H ∧ Qd H) ∨ ((Itr lo n).go i' H ∧ ∃ Nx : Hp → Prop, (∀ H', Nx H' → ∃ m', m' < m ∧ W (i' + 1) m' H') ∧ ∀ x H', (Itr lo n).yld i' H x H' → gName i x (wipe σ [i]) H' fun σ2 H2 => wipe σ2 [i] = wipe σ [i] ∧ tYes σ2 H2 fun b H3 =>
        if b = true then te σ2 H3 fun y H4 => ∃ acc, H4 D = some (.lst acc) ∧ acc.length < sizeLine ∧ Nx (L2.upd H4 D (.lst (acc ++ [y]))) else Nx H3) := by
  refine lc_map walk_range ((List.range n).map fun (k : Nat) => V.int (lo + (k : Int))) (fun v => match v with | .int j => f j | _ => .non) hD hn (by rw [List.length_map, List.length_range]) (fun k H x H' hk y => ?_) (fun _ _ => trivial) (fun x H hx s1 Q2 h2 => ?_) (fun H' s h => hq H' s ?_)
  · refine ⟨y.1, ?_⟩
    rw [List.getElem?_map, List.getElem?_range hk, y.2]
    rfl
  · obtain ⟨k, hk, rfl⟩ := List.mem_map.mp hx
    exact hs k H (List.mem_range.mp hk) s1 Q2 h2
  · rw [h, List.map_map]
    rfl
end LK
namespace LK
open PySem PySem.Spec PyProof.Rows L2
section
variable {X : Cx} {K : PySem.W.Frag}
theorem call_isiDK (hK : X.K = K) : CallR X (.builtin "isinstance") (fun xs H Q => ∃ x T d, xs = [x, .ty T] ∧ Dp K H x d ∧ T ∈ ["str", "int", "bool", "list", "tuple"] ∧ Q (.bl (isTy T d)) H) := by
  subst hK
  exact call_isiD
end
end LK
namespace LK
open PySem PySem.Spec PyProof.Rows L2
section
variable {X : Cx}
/-- tuple(x) of a list: a new tuple -/
theorem call_tupleN : CallR X (.type "tuple") (fun xs H Q => ∃ p ys, xs = [.ref p] ∧ SqL X.K H p ys ∧ ∀ q H', Same H H' → H q = none → H' q = some (.tup ys) → Q (.ref q) H') := cr_imp call_tuple_of fun xs H Q h => by
  obtain ⟨p, ys, rfl, h, q⟩ := h
  exact ⟨p, ys, rfl, .inl ⟨h, fun l hl => q l _ (same_upd hl) hl upd_same⟩⟩
end
theorem strs_of {m : Nat} : ∀ {l : List V}, (∀ v ∈ l, ∃ z, v = V.str z ∧ z.length ≤ m) → ∃ zs : List Str, l = zs.map V.str ∧ ∀ z ∈ zs, z.length ≤ m
  | [], _ => ⟨[], rfl, fun z h => absurd h (by simp)⟩
  | v :: l, h => by
    obtain ⟨z, rfl, hz⟩ := h v List.mem_cons_self
    obtain ⟨zs, rfl, hzs⟩ := strs_of (l := l) fun v hv => h v (List.mem_cons_of_mem _ hv)
    refine ⟨z :: zs, rfl, fun y hy => ?_⟩
    rcases List.mem_cons.mp hy with rfl | hy
    · exact hz
    · exact hzs y hy
theorem sum_le {m : Nat} : ∀ {zs : List Str}, (∀ z ∈ zs, z.length ≤ m) → (zs.map (·.length)).sum ≤ zs.length * m
  | [], _ => by simp
  | z :: zs, h => by
    rw [List.map_cons, List.sum_cons, List.length_cons, Nat.succ_mul]
    have h1 := h z List.mem_cons_self
    have h2 := sum_le (zs := zs) fun y hy => h y (List.mem_cons_of_mem _ hy)
    omega
end LK
namespace LK
open PySem PySem.Spec PyProof.Rows L2
theorem joinL_len (S : List Nat) : ∀ ps : List (List Nat), (TL.joinL S ps).length ≤ (ps.map List.length).sum + ps.length * S.length
  | [] => by simp [TL.joinL]
  | [p] => by simp [TL.joinL]
  | p :: q :: r => by
    have ih := joinL_len S (q :: r)
    show (p ++ (S ++ TL.joinL S (q :: r))).length ≤ _
    rw [List.length_append, List.length_append, List.map_cons, List.sum_cons, List.length_cons, Nat.succ_mul]
    omega
theorem join_len (y : Str) (zs : List Str) : (Txt.join y zs).length ≤ (zs.map (·.length)).sum + zs.length * y.length := by
  rw [TL.join_eq, ← len_cps]
  have e := TL.tl_join y zs
  show (TL.tl (Str.join y zs)).length ≤ _
  rw [e]
  refine Nat.le_trans (joinL_len _ _) ?_
  rw [List.map_map, List.length_map]
  have e1 : ((zs.map (List.length ∘ TL.tl))) = zs.map (·.length) := List.map_congr_left fun z _ => len_cps z
  rw [e1]
  show _ + zs.length * (y.cps.toList).length ≤ _
  rw [len_cps]
  exact Nat.le_refl _
/-- the list that lc_draw has made, as texts -/
theorem kp_new {N : Nat} {b c : Addr} {H H1 : Hp} (B : Bag N H b c) (s : Same H H1) : Kp b H H1 ∧ Bag N H1 b c := ⟨Kp.of s, B.same s⟩
theorem hb_new {N : Nat} {b c p : Addr} {H H1 : Hp} {o : HO} (B : Bag N H b c) (h0 : H p = none) (h1 : H1 p = some o) : hb H1 b p = some o := by
  have n : p ≠ b := fun e => by
    obtain ⟨xs, q⟩ := B.at
    rw [e, q] at h0; cases h0
  rw [hb_ne n]; exact h1
end LK
namespace LK
open PySem PySem.Spec PyProof.Rows L2
def isIntV : V → Bool
  | .int _ => true
  | _ => false
theorem ints_of {l : List V} (h : l.all isIntV = true) : ∀ y ∈ l, ∃ i, y = V.int i := fun y hy => by
  have q := List.all_eq_true.mp h y hy
  cases y <;> first | exact ⟨_, rfl⟩ | simp [isIntV] at q
end LK
namespace LK
open PySem PySem.Spec PyProof.Rows L2
theorem nx_op {t : TS} {D : Ends} {σ : L2.St} {H : Hp} (h : ∀ N : L2.St → Hp → Prop, (∀ σ' H', D.nx σ' H' → N σ' H') → t { D with nx := N } σ H) : t D σ H := h D.nx fun _ _ z => z
/-- a test that changes nothing and whose answer does not matter -/
theorem if_any {c : TT} {t u : TS} {D : Ends} {σ : L2.St} {H : Hp} (hc : ∀ K : Bool → Hp → Prop, (∀ b, K b H) → c σ H K) (hA : t D σ H) (hB : u D σ H) : tIfS c t u D σ H := hc _ fun b => by
  cases b
  · exact iteFF (by decide) hB
  · exact iteTT rfl hA
end LK
namespace LK
open PySem PySem.Spec PyProof.Rows L2
theorem if_anyS {c : TT} {t u : TS} {D : Ends} {σ : L2.St} {H : Hp} (hc : ∀ K : Bool → Hp → Prop, (∀ b H1, Same H H1 → K b H1) → c σ H K) (hA : ∀ H1, Same H H1 → t D σ H1) (hB : ∀ H1, Same H H1 → u D σ H1) : tIfS c t u D σ H := hc _ fun b H1 s => by
  cases b
  · exact iteFF (by decide) (hB H1 s)
  · exact iteTT rfl (hA H1 s)
end LK
namespace LK
open PySem PySem.Spec PyProof.Rows L2
theorem if_of {c : TT} {t u : TS} {D : Ends} {σ : L2.St} {H : Hp} (R : Bool → Prop) (hc : ∀ K : Bool → Hp → Prop, (∀ b H1, R b → Same H H1 → K b H1) → c σ H K) (hA : ∀ H1, R true → Same H H1 → t D σ H1) (hB : ∀ H1, R false → Same H H1 → u D σ H1) : tIfS c t u D σ H := hc _ fun b H1 r s => by
  cases b
  · exact iteFF (by decide) (hB H1 r s)
  · exact iteTT rfl (hA H1 r s)
end LK

set_option Elab.async false
set_option linter.all false
set_option maxRecDepth 100000
namespace LK
open PySem PySem.Spec PyProof.Rows L2
def top (i : Nat) : Stmt := PySem.Challenge.pw_lookingnets_k19_bends_read_before.main.body.getD i (.Pass ⟨0, 0, 0, 0⟩)
local macro_rules | `(tactic| walk_at "rs") => `(tactic| simp only [cxK, cxNK, tCallZ, tAsg, tOp, rI0, rS0, rB0, rI, rU, tUn, rEq, rNe, rIxL, rIxT, rIxS, rSetL, rSlLU, rSlS, rSlU, rCatL, rCatU, rRepL, rIn, tVar, tC, gName, gSub, tIfS, tTest, tB, tAnd, tOr, tNot, tNotV, tAndV, tOrV, tIf, tCall, tCons, tNil, tCB, tDrop, tRet, tRetN, tNext, tLstU, tTupU, tM0, tM1, tPar, tPar3, tAug, ipI, tBM, tBM0, rAppend, rPop, tBreak, tCont, tChain, tSl, tPart, tNoPart, L2.start, List.map, List.length_cons, List.length_nil, List.replicate, List.cons_append, List.nil_append, List.append_nil, List.getElem?_cons_zero, List.getElem?_cons_succ, List.set_cons_zero, List.set_cons_succ, Option.some.injEq, V.int.injEq, V.ref.injEq, V.str.injEq, V.bl.injEq, exists_eq_left', exists_eq_left, exists_and_left, decide_eq_true_eq, List.cons.injEq, and_true, true_and, scal, Bool.not_eq_true', decide_eq_false_iff_not, Nat.zero_add, Nat.reduceAdd, Nat.reduceSub, reduceCtorEq, false_and, exists_false, false_or, or_false, CPow, CPowW, CMul, CDiv, Int.reduceToNat, ↓reduceIte, wipe, sw, List.nil_append, List.singleton_append])
local macro_rules | `(tactic| walk_at "st") => `(tactic| (refine seq_op fun N hN => ?_; walk_at "rs"))
local macro_rules | `(tactic| walk_at "sd") => `(tactic| first | assumption | decide | omega)
local macro_rules | `(tactic| walk_at "rd") => `(tactic| repeat (first
  | refine ⟨_, SqL.of (by assumption), ?_⟩ | refine ⟨_, SqL.of upd_same, ?_⟩ | refine ⟨_, .inl (SqL.of (by assumption)), ?_⟩ | refine ⟨_, (by assumption : _ = some (HO.lst _)), ?_⟩ | refine ⟨_, upd_same, ?_⟩
  | refine ⟨_, rfl, ?_⟩ | refine And.intro (by walk_at "sd") ?_))

abbrev s_BadValue : Stmt := inClass (top 3) 0
abbrev N_BadValue : List Str := ["self", "value"]
theorem sc_BadValue : FnScope N_BadValue ["self", "value"] (defScope s_BadValue) := ⟨rfl, rfl, rfl, by decide +kernel, rfl, by decide +kernel, by decide +kernel⟩
abbrev s_is_number : Stmt := top 6
abbrev N_is_number : List Str := ["value"]
theorem sc_is_number : FnScope N_is_number ["value"] (defScope s_is_number) := ⟨rfl, rfl, rfl, by decide +kernel, rfl, by decide +kernel, by decide +kernel⟩

abbrev s_fraction : Stmt := top 7
abbrev N_fraction : List Str := ["p", "q", "divisor"]
theorem sc_fraction : FnScope N_fraction ["p", "q"] (defScope s_fraction) := ⟨rfl, rfl, rfl, by decide +kernel, rfl, by decide +kernel, by decide +kernel⟩

abbrev s_plus : Stmt := top 8
abbrev N_plus : List Str := ["a", "b"]
theorem sc_plus : FnScope N_plus ["a", "b"] (defScope s_plus) := ⟨rfl, rfl, rfl, by decide +kernel, rfl, by decide +kernel, by decide +kernel⟩

abbrev s_times : Stmt := top 9
abbrev N_times : List Str := ["a", "b"]
theorem sc_times : FnScope N_times ["a", "b"] (defScope s_times) := ⟨rfl, rfl, rfl, by decide +kernel, rfl, by decide +kernel, by decide +kernel⟩

abbrev s_below : Stmt := top 10
abbrev N_below : List Str := ["a", "b"]
theorem sc_below : FnScope N_below ["a", "b"] (defScope s_below) := ⟨rfl, rfl, rfl, by decide +kernel, rfl, by decide +kernel, by decide +kernel⟩

abbrev s_row_with : Stmt := top 12
abbrev N_row_with : List Str := ["row", "gifts", "out", "column", "gift"]
theorem sc_row_with : FnScope N_row_with ["row", "gifts"] (defScope s_row_with) := ⟨rfl, rfl, rfl, by decide +kernel, rfl, by decide +kernel, by decide +kernel⟩

abbrev s_sum_of : Stmt := top 13
abbrev N_sum_of : List Str := ["row", "entries", "total", "column", "factor"]
theorem sc_sum_of : FnScope N_sum_of ["row", "entries"] (defScope s_sum_of) := ⟨rfl, rfl, rfl, by decide +kernel, rfl, by decide +kernel, by decide +kernel⟩

abbrev s_unit_gifts : Stmt := top 14
abbrev N_unit_gifts : List Str := ["row", "unit", "terms", "shift", "givings", "z", "column", "factor"]
theorem sc_unit_gifts : FnScope N_unit_gifts ["row", "unit"] (defScope s_unit_gifts) := ⟨rfl, rfl, rfl, by decide +kernel, rfl, by decide +kernel, by decide +kernel⟩

abbrev s_bend_done : Stmt := top 15
abbrev N_bend_done : List Str := ["rows", "units", "out", "row", "gifts", "unit", "gift"]
theorem sc_bend_done : FnScope N_bend_done ["rows", "units"] (defScope s_bend_done) := ⟨rfl, rfl, rfl, by decide +kernel, rfl, by decide +kernel, by decide +kernel⟩

abbrev s__law_bag : Stmt := top 17
abbrev N__law_bag : List Str := ["script", "mixed", "cell"]
theorem sc__law_bag : FnScope N__law_bag ["script"] (defScope s__law_bag) := ⟨rfl, rfl, rfl, by decide +kernel, rfl, by decide +kernel, by decide +kernel⟩

abbrev s__law_draw : Stmt := top 18
abbrev N__law_draw : List Str := ["bag", "many", "cell", "digit"]
theorem sc__law_draw : FnScope N__law_draw ["bag", "many"] (defScope s__law_draw) := ⟨rfl, rfl, rfl, by decide +kernel, rfl, by decide +kernel, by decide +kernel⟩

abbrev s__law_of : Stmt := top 19
abbrev N__law_of : List Str := ["bag", "things"]
theorem sc__law_of : FnScope N__law_of ["bag", "things"] (defScope s__law_of) := ⟨rfl, rfl, rfl, by decide +kernel, rfl, by decide +kernel, by decide +kernel⟩

abbrev s__law_like : Stmt := top 20
abbrev N__law_like : List Str := ["found", "due", "one", "two"]
theorem sc__law_like : FnScope N__law_like ["found", "due"] (defScope s__law_like) := ⟨rfl, rfl, rfl, by decide +kernel, rfl, by decide +kernel, by decide +kernel⟩

abbrev s__law_gcd : Stmt := top 21
abbrev N__law_gcd : List Str := ["a", "b"]
theorem sc__law_gcd : FnScope N__law_gcd ["a", "b"] (defScope s__law_gcd) := ⟨rfl, rfl, rfl, by decide +kernel, rfl, by decide +kernel, by decide +kernel⟩

abbrev s__law_low : Stmt := top 22
abbrev N__law_low : List Str := ["p", "q", "g"]
theorem sc__law_low : FnScope N__law_low ["p", "q"] (defScope s__law_low) := ⟨rfl, rfl, rfl, by decide +kernel, rfl, by decide +kernel, by decide +kernel⟩

abbrev s__law_plus : Stmt := top 23
abbrev N__law_plus : List Str := ["a", "b"]
theorem sc__law_plus : FnScope N__law_plus ["a", "b"] (defScope s__law_plus) := ⟨rfl, rfl, rfl, by decide +kernel, rfl, by decide +kernel, by decide +kernel⟩

abbrev s__law_great : Stmt := top 24
abbrev N__law_great : List Str := ["bag"]
theorem sc__law_great : FnScope N__law_great ["bag"] (defScope s__law_great) := ⟨rfl, rfl, rfl, by decide +kernel, rfl, by decide +kernel, by decide +kernel⟩

abbrev s__law_factor : Stmt := top 25
abbrev N__law_factor : List Str := ["bag", "way", "sign"]
theorem sc__law_factor : FnScope N__law_factor ["bag"] (defScope s__law_factor) := ⟨rfl, rfl, rfl, by decide +kernel, rfl, by decide +kernel, by decide +kernel⟩

abbrev s__law_number : Stmt := top 26
abbrev N__law_number : List Str := ["x"]
theorem sc__law_number : FnScope N__law_number ["x"] (defScope s__law_number) := ⟨rfl, rfl, rfl, by decide +kernel, rfl, by decide +kernel, by decide +kernel⟩

abbrev s__law_is_fraction : Stmt := top 27
abbrev N__law_is_fraction : List Str := ["x"]
theorem sc__law_is_fraction : FnScope N__law_is_fraction ["x"] (defScope s__law_is_fraction) := ⟨rfl, rfl, rfl, by decide +kernel, rfl, by decide +kernel, by decide +kernel⟩

abbrev s__law_common : Stmt := top 28
abbrev N__law_common : List Str := ["parts", "found", "one"]
theorem sc__law_common : FnScope N__law_common ["parts"] (defScope s__law_common) := ⟨rfl, rfl, rfl, by decide +kernel, rfl, by decide +kernel, by decide +kernel⟩

abbrev s__law_state : Stmt := top 29
abbrev N__law_state : List Str := ["rows_y", "lower", "row", "one"]
theorem sc__law_state : FnScope N__law_state ["rows_y"] (defScope s__law_state) := ⟨rfl, rfl, rfl, by decide +kernel, rfl, by decide +kernel, by decide +kernel⟩

abbrev s__law_after_bend : Stmt := top 30
abbrev N__law_after_bend : List Str := ["state", "units_y", "lower", "rows_y", "more", "unit", "inner", "made", "at", "z", "one", "row"]
theorem sc__law_after_bend : FnScope N__law_after_bend ["state", "units_y"] (defScope s__law_after_bend) := ⟨rfl, rfl, rfl, by decide +kernel, rfl, by decide +kernel, by decide +kernel⟩

abbrev s__law_same : Stmt := top 31
abbrev N__law_same : List Str := ["told", "upper", "lower"]
theorem sc__law_same : FnScope N__law_same ["told", "upper", "lower"] (defScope s__law_same) := ⟨rfl, rfl, rfl, by decide +kernel, rfl, by decide +kernel, by decide +kernel⟩

abbrev s__law_row_same : Stmt := top 32
abbrev N__law_row_same : List Str := ["told", "row", "lower", "one", "two"]
theorem sc__law_row_same : FnScope N__law_row_same ["told", "row", "lower"] (defScope s__law_row_same) := ⟨rfl, rfl, rfl, by decide +kernel, rfl, by decide +kernel, by decide +kernel⟩

abbrev s__law_rows_same : Stmt := top 33
abbrev N__law_rows_same : List Str := ["told", "state", "one", "two"]
theorem sc__law_rows_same : FnScope N__law_rows_same ["told", "state"] (defScope s__law_rows_same) := ⟨rfl, rfl, rfl, by decide +kernel, rfl, by decide +kernel, by decide +kernel⟩

abbrev s__law_light : Stmt := top 34
abbrev N__law_light : List Str := ["bag"]
theorem sc__law_light : FnScope N__law_light ["bag"] (defScope s__law_light) := ⟨rfl, rfl, rfl, by decide +kernel, rfl, by decide +kernel, by decide +kernel⟩

abbrev s__law_lights : Stmt := top 35
abbrev N__law_lights : List Str := ["bag", "many", "width", "most", "found", "k", "j"]
theorem sc__law_lights : FnScope N__law_lights ["bag", "many", "width", "most"] (defScope s__law_lights) := ⟨rfl, rfl, rfl, by decide +kernel, rfl, by decide +kernel, by decide +kernel⟩

abbrev s__law_value : Stmt := top 36
abbrev N__law_value : List Str := ["unit", "row", "total", "one", "x"]
theorem sc__law_value : FnScope N__law_value ["unit", "row"] (defScope s__law_value) := ⟨rfl, rfl, rfl, by decide +kernel, rfl, by decide +kernel, by decide +kernel⟩

abbrev s__law_unit : Stmt := top 37
abbrev N__law_unit : List Str := ["bag", "rows_y", "width", "terms", "givings", "shift", "value", "near"]
theorem sc__law_unit : FnScope N__law_unit ["bag", "rows_y", "width"] (defScope s__law_unit) := ⟨rfl, rfl, rfl, by decide +kernel, rfl, by decide +kernel, by decide +kernel⟩

abbrev s__law_free : Stmt := top 38
abbrev N__law_free : List Str := ["second", "row", "changed", "unit", "one"]
theorem sc__law_free : FnScope N__law_free ["second", "row", "changed"] (defScope s__law_free) := ⟨rfl, rfl, rfl, by decide +kernel, rfl, by decide +kernel, by decide +kernel⟩

abbrev s_law : Stmt := top 39
abbrev N_law : List Str := ["script", "bag", "width", "rows_y", "k", "j", "units_y", "state", "due", "handed", "told", "kept", "parted", "one", "at", "cut", "middle", "last_y"]
theorem sc_law : FnScope N_law ["script"] (defScope s_law) := ⟨rfl, rfl, rfl, by decide +kernel, rfl, by decide +kernel, by decide +kernel⟩

mutual
def okD : PyData → Bool
  | .none => true | .bool _ => true | .int _ => true
  | .str z => decide (z.length ≤ 100000)
  | .list ds => decide (ds.length ≤ 100000) && okAll ds
  | .tuple ds => decide (ds.length ≤ 100000) && okAll ds
  | .dict _ => false
def okAll : List PyData → Bool
  | [] => true
  | d :: ds => okD d && okAll ds
end
theorem okD_tup {ds : List PyData} : okD (.tuple ds) = true ↔ ds.length ≤ 100000 ∧ okAll ds = true := by
  show (decide (ds.length ≤ 100000) && okAll ds) = true ↔ _
  rw [Bool.and_eq_true, decide_eq_true_iff]
theorem okD_lst {ds : List PyData} : okD (.list ds) = true ↔ ds.length ≤ 100000 ∧ okAll ds = true := by
  show (decide (ds.length ≤ 100000) && okAll ds) = true ↔ _
  rw [Bool.and_eq_true, decide_eq_true_iff]
mutual
def dep : PyData → Nat
  | .none => 0 | .bool _ => 0 | .int _ => 0 | .str _ => 0
  | .list ds => depAll ds + 1
  | .tuple ds => depAll ds + 1
  | .dict _ => 0
def depAll : List PyData → Nat
  | [] => 0
  | d :: ds => max (dep d) (depAll ds)
end
def spP (K : PySem.W.Frag) (F : PyData → V) : Sp := fun vs H Q _ => ∃ v d, vs = [v] ∧ Dp K H v d ∧ okD d = true ∧ ∀ H', Same H H' → Q (F d) H'
def SeqV (K : PySem.W.Frag) (G : Hp) (x : V) (ys : List V) : Prop := (∃ p, x = .ref p ∧ SqL K G p ys) ∨ (∃ p, x = .ref p ∧ SqT K G p ys) ∨ ∃ z, x = .str z ∧ z.length ≤ 100000 ∧ ys = z.cps.toList.map fun c => V.str ⟨#[c]⟩
def sp__law_bag (K : PySem.W.Frag) : Sp := fun vs H Q _ => ∃ (a : Addr) (ns : List Int), vs = [.ref a] ∧ SqL K H a (ns.map V.int) ∧ ns.length ≤ 63 ∧ ∀ b c H', Same H H' → Bag 1099511627776 H' b c → H b = none → Q (.ref b) H'
def sp__law_draw : Sp := fun vs H Q _ => ∃ (b c : Addr) (n : Int) (N : Nat), vs = [.ref b, .int n] ∧ Bag (N + 1) H b c ∧ 0 < n ∧ n < 1073741824 ∧ ∀ (r : Int) H', 0 ≤ r → r < n → Bag N H' b c → Kp b H H' → Q (.int r) H'
def sp__law_of (K : PySem.W.Frag) : Sp := fun vs H Q _ => ∃ (b c : Addr) (x : V) (ys : List V) (N : Nat), vs = [.ref b, x] ∧ Bag (N + 1) H b c ∧ SeqV K H x ys ∧ SeqV K (hb H b) x ys ∧ ys ≠ [] ∧ ys.length ≤ 1000000 ∧ ∀ y H', y ∈ ys → Bag N H' b c → Kp b H H' → Q y H'
def sp__law_like (K : PySem.W.Frag) (n : Nat) : Sp := fun vs H Q _ => ∃ v u d, vs = [v, u] ∧ Dp K H v d ∧ Dp K H u d ∧ okD d = true ∧ dep d ≤ n ∧ ∀ H', Same H H' → Q (.bl true) H'
def sw {α : Type} : List α → List α
  | [x, y] => [y, x]
  | l => l
theorem sw_rel : ∀ {zs : List V} {ws : List Value}, Vals zs ws → Vals (sw zs) (sw ws)
  | _, _, .nil => .nil
  | _, _, .cons a .nil => .cons a .nil
  | _, _, .cons a (.cons b .nil) => .cons b (.cons a .nil)
  | _, _, .cons a (.cons b (.cons c r)) => .cons a (.cons b (.cons c r))
/-! ### wide whole numbers -/
def CDivF (_ j : Int) : Prop := j ≠ 0 ∧ j.natAbs.log2 < 9000
theorem op_fdivF {X : Cx} : OpR X (binaryOp .FloorDiv) (rI CDivF fun i j => .int (i.fdiv j)) := opI fun _ _ _ _ _ _ _ hc q => floordiv_int hc.1 q (.inl (PyProof.noPylong_of_log2 hc.2))
/-- powers of wide numbers -/
def CPowW (i j : Int) : Prop := 0 ≤ j ∧ j ≤ 100 ∧ i.natAbs < 2 ^ 100
theorem op_powW {X : Cx} : OpR X (binaryOp .Pow) (rI CPowW fun i j => .int (i ^ j.toNat)) := opI fun i j _ _ _ _ _ hc q => by
  obtain ⟨h0, h1, h2⟩ := hc
  refine pow_int h0 ?_ q
  have hb : Builtin.Int.intBits i ≤ 100 := by
    unfold Builtin.Int.intBits
    split
    · exact Nat.zero_le _
    · have := PySem.Flt.log2_lt_of (n := i.natAbs) (by decide : 0 < 100) h2
      omega
  have : (Builtin.Int.intBits i : Int) * j ≤ 100 * 100 := Int.mul_le_mul (by omega) h1 h0 (by decide)
  exact Int.le_trans this (by decide)
theorem op_fdivU {X : Cx} : OpR X (binaryOp .FloorDiv) (rI CDivW fun i j => .int (i / j)) := op_fdivW
structure Txt (w : World) (K : PySem.W.Frag) (mg : Str → Option Value) where
  n_len : mg "len" = none
  n_int : mg "int" = none
  n_list : mg "list" = none
  n_tuple : mg "tuple" = none
  n_bool : mg "bool" = none
  n_str : mg "str" = none
  n_dict : mg "dict" = none
  n_isinstance : mg "isinstance" = none
  n_all : mg "all" = none
  n_range : mg "range" = none
  n_zip : mg "zip" = none
  n_abs : mg "abs" = none
  m_gcd : mg "gcd" = some (.builtin "math.gcd")
  a_ZERO : Addr
  m_ZERO : mg "ZERO" = some (.ref a_ZERO)
  s_ZERO : ∀ H, SqT K H a_ZERO [.int 0, .int 1]
  C_BadValue : Addr
  f_BadValue : Addr
  d_BadValue : FuncData
  m_BadValue : mg "BadValue" = some (.ref C_BadValue)
  X_BadValue : OexC K C_BadValue
  i_BadValue : PySem.W.findIn K (.ref C_BadValue) "__init__" = some (some (.ref f_BadValue))
  t_BadValue : PySem.W.typeIn K (.ref f_BadValue) = some (.type "function")
  F_BadValue : Fun K "__init__" "BadValue.__init__" s_BadValue f_BadValue d_BadValue
  B_BadValue__init : Binds K d_BadValue ["self", "value"] []
  v_BadValue : PySem.W.findIn K (.ref C_BadValue) "value" = some none
  c_BadValue : PySem.W.findIn K (.ref C_BadValue) "code" = some none
  a_is_number : Addr
  d_is_number : FuncData
  F_is_number : Fun K "is_number" "is_number" s_is_number a_is_number d_is_number
  m_is_number : mg "is_number" = some (.ref a_is_number)
  B_is_number : Binds K d_is_number ["value"] []
  a_fraction : Addr
  d_fraction : FuncData
  F_fraction : FunD K "fraction" "fraction" (defArgs s_fraction) (defBody s_fraction) (defScope s_fraction) [.int 1] [] a_fraction d_fraction
  m_fraction : mg "fraction" = some (.ref a_fraction)
  B_fraction : Binds K d_fraction ["p", "q"] []
  a_plus : Addr
  d_plus : FuncData
  F_plus : Fun K "plus" "plus" s_plus a_plus d_plus
  m_plus : mg "plus" = some (.ref a_plus)
  B_plus : Binds K d_plus ["a", "b"] []
  a_times : Addr
  d_times : FuncData
  F_times : Fun K "times" "times" s_times a_times d_times
  m_times : mg "times" = some (.ref a_times)
  B_times : Binds K d_times ["a", "b"] []
  a_below : Addr
  d_below : FuncData
  F_below : Fun K "below" "below" s_below a_below d_below
  m_below : mg "below" = some (.ref a_below)
  B_below : Binds K d_below ["a", "b"] []
  a_row_with : Addr
  d_row_with : FuncData
  F_row_with : Fun K "row_with" "row_with" s_row_with a_row_with d_row_with
  m_row_with : mg "row_with" = some (.ref a_row_with)
  B_row_with : Binds K d_row_with ["row", "gifts"] []
  a_sum_of : Addr
  d_sum_of : FuncData
  F_sum_of : Fun K "sum_of" "sum_of" s_sum_of a_sum_of d_sum_of
  m_sum_of : mg "sum_of" = some (.ref a_sum_of)
  B_sum_of : Binds K d_sum_of ["row", "entries"] []
  a_unit_gifts : Addr
  d_unit_gifts : FuncData
  F_unit_gifts : Fun K "unit_gifts" "unit_gifts" s_unit_gifts a_unit_gifts d_unit_gifts
  m_unit_gifts : mg "unit_gifts" = some (.ref a_unit_gifts)
  B_unit_gifts : Binds K d_unit_gifts ["row", "unit"] []
  a_bend_done : Addr
  d_bend_done : FuncData
  F_bend_done : Fun K "bend_done" "bend_done" s_bend_done a_bend_done d_bend_done
  m_bend_done : mg "bend_done" = some (.ref a_bend_done)
  B_bend_done : Binds K d_bend_done ["rows", "units"] []
  a__law_bag : Addr
  d__law_bag : FuncData
  F__law_bag : Fun K "_law_bag" "_law_bag" s__law_bag a__law_bag d__law_bag
  m__law_bag : mg "_law_bag" = some (.ref a__law_bag)
  B__law_bag : Binds K d__law_bag ["script"] []
  a__law_draw : Addr
  d__law_draw : FuncData
  F__law_draw : Fun K "_law_draw" "_law_draw" s__law_draw a__law_draw d__law_draw
  m__law_draw : mg "_law_draw" = some (.ref a__law_draw)
  B__law_draw : Binds K d__law_draw ["bag", "many"] []
  a__law_of : Addr
  d__law_of : FuncData
  F__law_of : Fun K "_law_of" "_law_of" s__law_of a__law_of d__law_of
  m__law_of : mg "_law_of" = some (.ref a__law_of)
  B__law_of : Binds K d__law_of ["bag", "things"] []
  a__law_like : Addr
  d__law_like : FuncData
  F__law_like : Fun K "_law_like" "_law_like" s__law_like a__law_like d__law_like
  m__law_like : mg "_law_like" = some (.ref a__law_like)
  B__law_like : Binds K d__law_like ["found", "due"] []
  a__law_gcd : Addr
  d__law_gcd : FuncData
  F__law_gcd : Fun K "_law_gcd" "_law_gcd" s__law_gcd a__law_gcd d__law_gcd
  m__law_gcd : mg "_law_gcd" = some (.ref a__law_gcd)
  B__law_gcd : Binds K d__law_gcd ["a", "b"] []
  a__law_low : Addr
  d__law_low : FuncData
  F__law_low : Fun K "_law_low" "_law_low" s__law_low a__law_low d__law_low
  m__law_low : mg "_law_low" = some (.ref a__law_low)
  B__law_low : Binds K d__law_low ["p", "q"] []
  a__law_plus : Addr
  d__law_plus : FuncData
  F__law_plus : Fun K "_law_plus" "_law_plus" s__law_plus a__law_plus d__law_plus
  m__law_plus : mg "_law_plus" = some (.ref a__law_plus)
  B__law_plus : Binds K d__law_plus ["a", "b"] []
  a__law_great : Addr
  d__law_great : FuncData
  F__law_great : Fun K "_law_great" "_law_great" s__law_great a__law_great d__law_great
  m__law_great : mg "_law_great" = some (.ref a__law_great)
  B__law_great : Binds K d__law_great ["bag"] []
  a__law_factor : Addr
  d__law_factor : FuncData
  F__law_factor : Fun K "_law_factor" "_law_factor" s__law_factor a__law_factor d__law_factor
  m__law_factor : mg "_law_factor" = some (.ref a__law_factor)
  B__law_factor : Binds K d__law_factor ["bag"] []
  a__law_number : Addr
  d__law_number : FuncData
  F__law_number : Fun K "_law_number" "_law_number" s__law_number a__law_number d__law_number
  m__law_number : mg "_law_number" = some (.ref a__law_number)
  B__law_number : Binds K d__law_number ["x"] []
  a__law_is_fraction : Addr
  d__law_is_fraction : FuncData
  F__law_is_fraction : Fun K "_law_is_fraction" "_law_is_fraction" s__law_is_fraction a__law_is_fraction d__law_is_fraction
  m__law_is_fraction : mg "_law_is_fraction" = some (.ref a__law_is_fraction)
  B__law_is_fraction : Binds K d__law_is_fraction ["x"] []
  a__law_common : Addr
  d__law_common : FuncData
  F__law_common : Fun K "_law_common" "_law_common" s__law_common a__law_common d__law_common
  m__law_common : mg "_law_common" = some (.ref a__law_common)
  B__law_common : Binds K d__law_common ["parts"] []
  a__law_state : Addr
  d__law_state : FuncData
  F__law_state : Fun K "_law_state" "_law_state" s__law_state a__law_state d__law_state
  m__law_state : mg "_law_state" = some (.ref a__law_state)
  B__law_state : Binds K d__law_state ["rows_y"] []
  a__law_after_bend : Addr
  d__law_after_bend : FuncData
  F__law_after_bend : Fun K "_law_after_bend" "_law_after_bend" s__law_after_bend a__law_after_bend d__law_after_bend
  m__law_after_bend : mg "_law_after_bend" = some (.ref a__law_after_bend)
  B__law_after_bend : Binds K d__law_after_bend ["state", "units_y"] []
  a__law_same : Addr
  d__law_same : FuncData
  F__law_same : Fun K "_law_same" "_law_same" s__law_same a__law_same d__law_same
  m__law_same : mg "_law_same" = some (.ref a__law_same)
  B__law_same : Binds K d__law_same ["told", "upper", "lower"] []
  a__law_row_same : Addr
  d__law_row_same : FuncData
  F__law_row_same : Fun K "_law_row_same" "_law_row_same" s__law_row_same a__law_row_same d__law_row_same
  m__law_row_same : mg "_law_row_same" = some (.ref a__law_row_same)
  B__law_row_same : Binds K d__law_row_same ["told", "row", "lower"] []
  a__law_rows_same : Addr
  d__law_rows_same : FuncData
  F__law_rows_same : Fun K "_law_rows_same" "_law_rows_same" s__law_rows_same a__law_rows_same d__law_rows_same
  m__law_rows_same : mg "_law_rows_same" = some (.ref a__law_rows_same)
  B__law_rows_same : Binds K d__law_rows_same ["told", "state"] []
  a__law_light : Addr
  d__law_light : FuncData
  F__law_light : Fun K "_law_light" "_law_light" s__law_light a__law_light d__law_light
  m__law_light : mg "_law_light" = some (.ref a__law_light)
  B__law_light : Binds K d__law_light ["bag"] []
  a__law_lights : Addr
  d__law_lights : FuncData
  F__law_lights : Fun K "_law_lights" "_law_lights" s__law_lights a__law_lights d__law_lights
  m__law_lights : mg "_law_lights" = some (.ref a__law_lights)
  B__law_lights : Binds K d__law_lights ["bag", "many", "width", "most"] []
  a__law_value : Addr
  d__law_value : FuncData
  F__law_value : Fun K "_law_value" "_law_value" s__law_value a__law_value d__law_value
  m__law_value : mg "_law_value" = some (.ref a__law_value)
  B__law_value : Binds K d__law_value ["unit", "row"] []
  a__law_unit : Addr
  d__law_unit : FuncData
  F__law_unit : Fun K "_law_unit" "_law_unit" s__law_unit a__law_unit d__law_unit
  m__law_unit : mg "_law_unit" = some (.ref a__law_unit)
  B__law_unit : Binds K d__law_unit ["bag", "rows_y", "width"] []
  a__law_free : Addr
  d__law_free : FuncData
  F__law_free : Fun K "_law_free" "_law_free" s__law_free a__law_free d__law_free
  m__law_free : mg "_law_free" = some (.ref a__law_free)
  B__law_free : Binds K d__law_free ["second", "row", "changed"] []
  a_law : Addr
  d_law : FuncData
  F_law : Fun K "law" "law" s_law a_law d_law
  m_law : mg "law" = some (.ref a_law)
  B_law : Binds K d_law ["script"] []
  Z_bend_done : KBn K d_bend_done ["rows", "units"] 0 ["rows", "units"] (fun _ ws => ws) (fun _ zs => zs)

end LK

set_option Elab.async false
set_option linter.all false
set_option maxRecDepth 100000
namespace LK
open PySem PySem.Spec PyProof.Rows L2
local macro_rules | `(tactic| walk_at "rs") => `(tactic| simp only [cxK, cxNK, tCallZ, tAsg, tOp, rI0, rS0, rB0, rI, rU, tUn, rEq, rNe, rIxL, rIxT, rIxS, rSetL, rSlLU, rSlS, rSlU, rCatL, rCatU, rRepL, rIn, tVar, tC, gName, gSub, tIfS, tTest, tB, tAnd, tOr, tNot, tNotV, tAndV, tOrV, tIf, tCall, tCons, tNil, tCB, tDrop, tRet, tRetN, tNext, tLstU, tTupU, tM0, tM1, tPar, tPar3, tAug, ipI, tBM, tBM0, rAppend, rPop, tBreak, tCont, tChain, tSl, tPart, tNoPart, L2.start, List.map, List.length_cons, List.length_nil, List.replicate, List.cons_append, List.nil_append, List.append_nil, List.getElem?_cons_zero, List.getElem?_cons_succ, List.set_cons_zero, List.set_cons_succ, Option.some.injEq, V.int.injEq, V.ref.injEq, V.str.injEq, V.bl.injEq, exists_eq_left', exists_eq_left, exists_and_left, decide_eq_true_eq, List.cons.injEq, and_true, true_and, scal, Bool.not_eq_true', decide_eq_false_iff_not, Nat.zero_add, Nat.reduceAdd, Nat.reduceSub, reduceCtorEq, false_and, exists_false, false_or, or_false, CPow, CPowW, CMul, CDiv, Int.reduceToNat, ↓reduceIte, wipe, sw, List.nil_append, List.singleton_append])
local macro_rules | `(tactic| walk_at "st") => `(tactic| (refine seq_op fun N hN => ?_; walk_at "rs"))
local macro_rules | `(tactic| walk_at "sd") => `(tactic| first | assumption | decide | omega)
local macro_rules | `(tactic| walk_at "rd") => `(tactic| repeat (first
  | refine ⟨_, SqL.of (by assumption), ?_⟩ | refine ⟨_, SqL.of upd_same, ?_⟩ | refine ⟨_, .inl (SqL.of (by assumption)), ?_⟩ | refine ⟨_, (by assumption : _ = some (HO.lst _)), ?_⟩ | refine ⟨_, upd_same, ?_⟩
  | refine ⟨_, rfl, ?_⟩ | refine And.intro (by walk_at "sd") ?_))

def spV (sp : List V → Hp → VK → Prop) : Sp := fun vs H Q _ => sp vs H Q
/-- the two fields of a BadValue -/
def badF (v : V) : List (Str × V) := [("code", .str "BadValue"), ("value", v)]
def sp_BadValue (C : Addr) : Sp := fun vs H Q _ => ∃ (a : Addr) (v : V), vs = [.ref a, v] ∧ H a = some (exo a C none) ∧
  ∀ dx, H dx = none → dx ≠ a → Q .non (L2.upd (L2.upd (L2.upd H dx (exd dx [("value", v)])) a (exo a C (some dx))) dx (exd dx (badF v)))
def isNum : PyData → Bool
  | .int _ => true
  | _ => false
def spP1 (K : PySem.W.Frag) (F : PyData → V) : Sp := fun vs H Q _ => ∃ v d, vs = [v] ∧ Dp K H v d ∧ ∀ H', Same H H' → Q (F d) H'
section
variable {P : Program} {w : World} {K : PySem.W.Frag} {mg : Str → Option Value} {base : Heap}
theorem ok_BadValue (T : Txt w K mg) : FnOk P w K mg base CX0 1 T.f_BadValue T.d_BadValue ["self", "value"] (sp_BadValue T.C_BadValue) := by
  refine T.F_BadValue.ok sc_BadValue (fun vs H Q E h => ?_) (fun cdv A outer s H vs Q E hr h => ?_)
  · obtain ⟨a, v, rfl, _⟩ := h
    rfl
  · obtain ⟨a, v, rfl, ha, k⟩ := h
    refine ⟨_, pss_cons (ps_ost (pv 0) (pv 1)) (pss_one (ps_ost (pv 0) pe_str)), ?_⟩
    refine seq_op fun N hN => ?_
    unfold tOst
    walk_at "rs"
    refine ⟨T.C_BadValue, T.X_BadValue, T.v_BadValue, .inl ⟨ha, fun dx hdx ne => hN _ _ ?_⟩⟩
    clear hN N
    unfold tOst
    walk_at "rs"
    refine ⟨T.C_BadValue, T.X_BadValue, T.c_BadValue, .inr ⟨dx, upd_same, [("value", v)], by rw [upd_ne ne]; exact upd_same, by simp, k dx hdx ne⟩⟩
theorem ok_is_number (T : Txt w K mg) : FnOk P w K mg base CX0 1 T.a_is_number T.d_is_number ["value"] (spP1 K fun d => .bl (isNum d)) := by
  refine T.F_is_number.ok sc_is_number (fun vs H Q E h => ?_) (fun cdv A outer s H vs Q E hr h => ?_)
  · obtain ⟨v, d, rfl, _⟩ := h
    rfl
  · obtain ⟨v, d, rfl, hD, k⟩ := h
    refine ⟨_, (pss_one (ps_ret (pe_and (pe_callB (call_isiDK (K := K) rfl) (by rfl) T.n_isinstance (by decide +kernel) (pa_cons (pv 0) (pa_cons (pe_bltn (v := .ty "int") (u := .type "int") (by rfl) T.n_int (by decide +kernel) rfl) pa_nil))) (pe_one (pe_not (pe_callB (call_isiDK (K := K) rfl) (by rfl) T.n_isinstance (by decide +kernel) (pa_cons (pv 0) (pa_cons (pe_bltn (v := .ty "bool") (u := .type "bool") (by rfl) T.n_bool (by decide +kernel) rfl) pa_nil)))))))), ?_⟩
    walk_at "rs"
    refine ⟨v, "int", ⟨rfl, rfl⟩, d, hD, by decide, ite2 (fun h => ⟨v, "bool", ⟨rfl, rfl⟩, d, hD, by decide, ?_⟩) (fun h => ?_)⟩
    · have e : isNum d = !isTy "bool" d := by cases d <;> first | rfl | cases h
      rw [← e]; exact k H (Same.refl _)
    · have e : isNum d = false := by cases d <;> first | rfl | (exact absurd rfl h)
      have q : Q (.bl (isNum d)) H := k H (Same.refl _)
      rw [e] at q; exact q
/-! ### lowest terms -/
def frG (p q : Int) : Int := if q < 0 then -((Nat.gcd p.natAbs q.natAbs : Nat) : Int) else ((Nat.gcd p.natAbs q.natAbs : Nat) : Int)
def frP (p q : Int) : Int := p.fdiv (frG p q)
def frQ (p q : Int) : Int := q.fdiv (frG p q)
def sp_fraction (C : Addr) : Sp := fun vs H Q E => ∃ p q : Int, vs = [.int p, .int q] ∧ p.natAbs.log2 < 9000 ∧ q.natAbs.log2 < 9000 ∧
  (q ≠ 0 → ∀ t H', Same H H' → H t = none → H' t = some (.tup [.int (frP p q), .int (frQ p q)]) → Q (.ref t) H') ∧
  (q = 0 → ∀ d H', Same H H' → H d = none → H' d = some (.xd (badF (.int q))) → E (.ref C) (some d) H')
theorem gcd_log {p q : Int} (h : q ≠ 0) : (Nat.gcd p.natAbs q.natAbs).log2 ≤ q.natAbs.log2 := by
  have h0 : q.natAbs ≠ 0 := by omega
  have le : Nat.gcd p.natAbs q.natAbs ≤ q.natAbs := Nat.le_of_dvd (by omega) (Nat.gcd_dvd_right _ _)
  have g0 : Nat.gcd p.natAbs q.natAbs ≠ 0 := fun e => h0 (Nat.eq_zero_of_gcd_eq_zero_right e)
  exact (Nat.le_log2 h0).mpr (Nat.le_trans (Nat.log2_self_le g0) le)
theorem mk_bad {C : Addr} {H1 : Hp} {v : V} {Qx : XK} (k : ∀ d H', Same H1 H' → H1 d = none → H' d = some (.xd (badF v)) → Qx (.ref C) (some d) H') : ∀ a, H1 a = none → sp_BadValue C (.ref a :: ([v] ++ [])) (L2.upd H1 a (exo a C none)) (fun v2 H2 => v2 = .non ∧ ∃ (d : Addr) (fs : List (Str × V)), H2 a = some (exo a C (some d)) ∧ H2 d = some (exd d fs) ∧ H1 d = none ∧ Qx (.ref C) (some d) (L2.upd (del H2 a) d (.xd fs))) E0 := by
  intro a ha
  refine ⟨a, v, rfl, upd_same, fun dx hdx ne => ⟨rfl, dx, badF v, ?_, upd_same, ?_, k dx _ ?_ ?_ upd_same⟩⟩
  · rw [upd_ne (Ne.symm ne), upd_same]
  · rw [upd_ne ne] at hdx; exact hdx
  · intro b o e
    rw [upd_ne ne] at hdx
    have n1 : b ≠ a := fun z => by rw [z, ha] at e; cases e
    have n2 : b ≠ dx := fun z => by rw [z, hdx] at e; cases e
    rw [upd_ne n2, del_ne n1, upd_ne n2, upd_ne n1, upd_ne n2, upd_ne n1]
    exact e
  · rw [upd_ne ne] at hdx; exact hdx
theorem mk_badT {C : Addr} {ta : TA} {σ : L2.St} {H0 H1 : Hp} {v : V} {Qx : XK} (ht : ∀ K : List V → Hp → Prop, K [v] H1 → ta σ H0 K) (k : ∀ d H', Same H1 H' → H1 d = none → H' d = some (.xd (badF v)) → Qx (.ref C) (some d) H') : tMkO C (sp_BadValue C) [] ta σ H0 Qx :=
  ht _ ⟨by simp, mk_bad k⟩
theorem ok_fraction (T : Txt w K mg) : FnOk P w K mg base (L2.CX P w) 3 T.a_fraction T.d_fraction ["p", "q"] (sp_fraction T.C_BadValue) := by
  refine T.F_fraction.ok sc_fraction (fun vs H Q E h => ?_) (fun cdv A outer s H vs Q E hr h => ?_)
  · obtain ⟨p, q, rfl, _⟩ := h
    rfl
  · obtain ⟨p, q, rfl, lp, lq, k, kE⟩ := h
    have hr_is_number : Room 1 _ := hr.mono (by decide)
    have G_is_number := ok_is_number (P := P) (base := base) T
    have hr_BadValue : Room 2 _ := hr.mono (by decide)
    have G_BadValue := ok_BadValue (P := P) (base := base) T
    refine ⟨_, (pss_cons (ps_if (PW.pt (pw_or (pt_not (pt_val (pe_call G_is_number hr_is_number (by rfl) T.m_is_number T.F_is_number.kp T.B_is_number .nil pass0 (pa_cons (pv 1) pa_nil)))) (pw_or1 (pt_cmpR op_eqI (pv 1) pe_int (nomark _))))) (pss_one (ps_raise rfl (takes_of rfl rfl rfl rfl) (pmk_oex T.X_BadValue T.i_BadValue T.t_BadValue G_BadValue hr_BadValue T.B_BadValue__init .nil pass0 (by rfl) T.m_BadValue (pa_cons (pv 1) pa_nil)))) pss_nil)
      (pss_cons (ps_set (i := 2) sc_fraction.nd rfl (Or.inl rfl) (pe_callBfun cr_gcd (by rfl) T.m_gcd (pa_cons (pv 0) (pa_cons (pv 1) pa_nil))))
      (pss_cons (ps_if (pt_cmpR op_lt (pv 1) pe_int (nomark _)) (pss_one (ps_set (i := 2) sc_fraction.nd rfl (Or.inl rfl) (pe_un un_neg (pv 2)))) pss_nil)
      (pss_one (ps_ret (pe_tupU (pa_cons (pe_op op_fdivF (pv 0) (pv 2)) (pa_cons (pe_op op_fdivF (pv 1) (pv 2)) pa_nil)))))))), ?_⟩
    refine seq_op fun N hN => ?_
    walk_at "rs"
    refine ⟨_, .int q, rfl, .int q, fun H1 s1 => ⟨true, rfl, iteFF (by decide) (ite2 (fun e => ?_) (fun e => hN _ _ ?_))⟩⟩
    · subst e
      exact mk_badT (fun K h => by walk_at "rs"; exact h) fun d H2 s2 hd h2 => kE rfl d H2 (Same.trans s1 s2) (Same.dom s1 d hd) h2
    clear hN N
    replace k := k e
    clear kE
    have g0 : (Nat.gcd p.natAbs q.natAbs : Nat) ≠ 0 := fun z => e (by have := Nat.eq_zero_of_gcd_eq_zero_right z; omega)
    have gl := gcd_log (p := p) e
    refine seq_op fun N hN => ?_
    walk_at "rs"
    refine ⟨p, q, rfl, hN _ _ ?_⟩
    clear hN N
    refine cut_seq (fun σ H2 => σ = [some (.int p), some (.int q), some (.int (frG p q))] ∧ H2 = H1) (fun N hN => ?_) ?_
    · walk_at "rs"
      unfold frG at hN
      refine ite2 (fun c => ?_) (fun c => ?_)
      · rw [if_pos c] at hN; exact hN _ _ ⟨rfl, rfl⟩
      · rw [if_neg c] at hN; exact hN _ _ ⟨rfl, rfl⟩
    · rintro σ H2 ⟨rfl, rfl⟩
      have n0 : frG p q ≠ 0 := by unfold frG; split <;> omega
      have nl : (frG p q).natAbs.log2 < 9000 := by
        have : (frG p q).natAbs = Nat.gcd p.natAbs q.natAbs := by unfold frG; split <;> omega
        rw [this]; omega
      walk_at "rs"
      exact ⟨⟨n0, nl⟩, ⟨n0, nl⟩, by decide, fun t H3 s3 h03 h3 => k t H3 (Same.trans s1 s3) (Same.dom s1 t h03) h3⟩
/-! ### the reckoning -/
def FrT (p q : Int) : V × V := (.int (frP p q), .int (frQ p q))
/-- a pair of whole numbers at a -/
def Pr (K : PySem.W.Frag) (H : Hp) (a : Addr) (p q : Int) : Prop := SqT K H a [.int p, .int q]
def sp_two (K : PySem.W.Frag) (f g : Int → Int → Int → Int → Int) : Sp := fun vs H Q _ => ∃ (a b : Addr) (p q r s : Int), vs = [.ref a, .ref b] ∧ Pr K H a p q ∧ Pr K H b r s ∧ p.natAbs < 2 ^ 4000 ∧ q.natAbs < 2 ^ 4000 ∧ r.natAbs < 2 ^ 4000 ∧ s.natAbs < 2 ^ 4000 ∧ g p q r s ≠ 0 ∧
  ∀ t H', Same H H' → H t = none → H' t = some (.tup [.int (frP (f p q r s) (g p q r s)), .int (frQ (f p q r s) (g p q r s))]) → Q (.ref t) H'
theorem two_add {i j : Int} {a : Nat} (hi : i.natAbs < 2 ^ a) (hj : j.natAbs < 2 ^ a) : (i + j).natAbs < 2 ^ (a + 1) := by
  have e : 2 ^ (a + 1) = 2 * 2 ^ a := Nat.pow_succ'
  omega
theorem two_sub {i j : Int} {a : Nat} (hi : i.natAbs < 2 ^ a) (hj : j.natAbs < 2 ^ a) : (i - j).natAbs < 2 ^ (a + 1) := by
  have e : 2 ^ (a + 1) = 2 * 2 ^ a := Nat.pow_succ'
  omega
theorem mulW {i j : Int} (hi : i.natAbs < 2 ^ 4000) (hj : j.natAbs < 2 ^ 4000) : CMulW i j := wide_mul hi hj (by decide) (by decide) (by decide)
theorem mulL {i j : Int} (hi : i.natAbs < 2 ^ 4000) (hj : j.natAbs < 2 ^ 4000) : (i * j).natAbs < 2 ^ 8000 := wide_lt (a := 4000) (b := 4000) hi hj
theorem logL {i : Int} {a : Nat} (h : i.natAbs < 2 ^ a) (h0 : 0 < a) (h9 : a ≤ 9000) : i.natAbs.log2 < 9000 := Nat.lt_of_lt_of_le (PySem.Flt.log2_lt_of h0 h) h9
theorem ok_plus (T : Txt w K mg) : FnOk P w K mg base CX0 4 T.a_plus T.d_plus ["a", "b"] (sp_two K (fun p q r s => p * s + r * q) fun _ q _ s => q * s) := by
  refine T.F_plus.ok sc_plus (fun vs H Q E h => ?_) (fun cdv A outer s H vs Q E hr h => ?_)
  · obtain ⟨a, b, p, q, r, s', rfl, _⟩ := h
    rfl
  · obtain ⟨a, b, p, q, r, s', rfl, ha, hb, lp, lq, lr, ls, n0, k⟩ := h
    have hr_fraction : Room 3 _ := hr.mono (by decide)
    have G_fraction := ok_fraction (P := P) (base := base) T
    refine ⟨_, (pss_one (ps_ret (pe_call G_fraction hr_fraction (by rfl) T.m_fraction T.F_fraction.kp T.B_fraction .nil passL (pa_cons (pe_op op_add (pe_op op_mulW (pe_ix ix_tup (pv 0) pe_int (fun _ _ => rfl)) (pe_ix ix_tup (pv 1) pe_int (fun _ _ => rfl))) (pe_op op_mulW (pe_ix ix_tup (pv 1) pe_int (fun _ _ => rfl)) (pe_ix ix_tup (pv 0) pe_int (fun _ _ => rfl)))) (pa_cons (pe_op op_mulW (pe_ix ix_tup (pv 0) pe_int (fun _ _ => rfl)) (pe_ix ix_tup (pv 1) pe_int (fun _ _ => rfl))) pa_nil))))), ?_⟩
    walk_at "rs"
    refine ⟨_, ha, _, rfl, _, hb, _, rfl, _, rfl, _, rfl, mulW lp ls, _, hb, _, rfl, _, ha, _, rfl, _, rfl, _, rfl, mulW lr lq, _, ha, _, rfl, _, hb, _, rfl, _, rfl, _, rfl, mulW lq ls, ?_⟩
    exact ⟨_, _, rfl, logL (two_add (mulL lp ls) (mulL lr lq)) (by decide) (by decide), logL (mulL lq ls) (by decide) (by decide), fun _ => k, fun e => absurd e n0⟩
theorem ok_times (T : Txt w K mg) : FnOk P w K mg base CX0 4 T.a_times T.d_times ["a", "b"] (sp_two K (fun p _ r _ => p * r) (fun _ q _ s => q * s)) := by
  refine T.F_times.ok sc_times (fun vs H Q E h => ?_) (fun cdv A outer s H vs Q E hr h => ?_)
  · obtain ⟨a, b, p, q, r, s', rfl, _⟩ := h
    rfl
  · obtain ⟨a, b, p, q, r, s', rfl, ha, hb, lp, lq, lr, ls, n0, k⟩ := h
    have hr_fraction : Room 3 _ := hr.mono (by decide)
    have G_fraction := ok_fraction (P := P) (base := base) T
    refine ⟨_, (pss_one (ps_ret (pe_call G_fraction hr_fraction (by rfl) T.m_fraction T.F_fraction.kp T.B_fraction .nil passL (pa_cons (pe_op op_mulW (pe_ix ix_tup (pv 0) pe_int (fun _ _ => rfl)) (pe_ix ix_tup (pv 1) pe_int (fun _ _ => rfl))) (pa_cons (pe_op op_mulW (pe_ix ix_tup (pv 0) pe_int (fun _ _ => rfl)) (pe_ix ix_tup (pv 1) pe_int (fun _ _ => rfl))) pa_nil))))), ?_⟩
    walk_at "rs"
    refine ⟨_, ha, _, rfl, _, hb, _, rfl, _, rfl, _, rfl, mulW lp lr, _, ha, _, rfl, _, hb, _, rfl, _, rfl, _, rfl, mulW lq ls, ?_⟩
    exact ⟨_, _, rfl, logL (mulL lp lr) (by decide) (by decide), logL (mulL lq ls) (by decide) (by decide), fun _ => k, fun e => absurd e n0⟩
theorem ok_below (T : Txt w K mg) : FnOk P w K mg base CX0 1 T.a_below T.d_below ["a", "b"] (fun vs H Q _ => ∃ (a b : Addr) (p q r s : Int), vs = [.ref a, .ref b] ∧ Pr K H a p q ∧ Pr K H b r s ∧ p.natAbs < 2 ^ 4000 ∧ q.natAbs < 2 ^ 4000 ∧ r.natAbs < 2 ^ 4000 ∧ s.natAbs < 2 ^ 4000 ∧ Q (.bl (decide (p * s < r * q))) H) := by
  refine T.F_below.ok sc_below (fun vs H Q E h => ?_) (fun cdv A outer s H vs Q E hr h => ?_)
  · obtain ⟨a, b, p, q, r, s', rfl, _⟩ := h
    rfl
  · obtain ⟨a, b, p, q, r, s', rfl, ha, hb, lp, lq, lr, ls, k⟩ := h
    refine ⟨_, (pss_one (ps_ret (pe_cmpR op_lt (pe_op op_mulW (pe_ix ix_tup (pv 0) pe_int (fun _ _ => rfl)) (pe_ix ix_tup (pv 1) pe_int (fun _ _ => rfl))) (pe_op op_mulW (pe_ix ix_tup (pv 1) pe_int (fun _ _ => rfl)) (pe_ix ix_tup (pv 0) pe_int (fun _ _ => rfl))) (nomark _)))), ?_⟩
    walk_at "rs"
    exact ⟨_, ha, _, rfl, _, hb, _, rfl, _, rfl, _, rfl, mulW lp ls, _, hb, _, rfl, _, ha, _, rfl, _, rfl, _, rfl, mulW lr lq, k⟩
end
end LK

set_option Elab.async false
set_option linter.all false
set_option maxRecDepth 100000
namespace LK
open PySem PySem.Spec PyProof.Rows L2
local macro_rules | `(tactic| walk_at "rs") => `(tactic| simp only [cxK, cxNK, tCallZ, tAsg, tOp, rI0, rS0, rB0, rI, rU, tUn, rEq, rNe, rIxL, rIxT, rIxS, rSetL, rSlLU, rSlS, rSlU, rCatL, rCatU, rRepL, rIn, tVar, tC, gName, gSub, tIfS, tTest, tB, tAnd, tOr, tNot, tNotV, tAndV, tOrV, tIf, tCall, tCons, tNil, tCB, tDrop, tRet, tRetN, tNext, tLstU, tTupU, tM0, tM1, tPar, tPar3, tAug, ipI, tBM, tBM0, rAppend, rPop, tBreak, tCont, tChain, tSl, tPart, tNoPart, L2.start, List.map, List.length_cons, List.length_nil, List.replicate, List.cons_append, List.nil_append, List.append_nil, List.getElem?_cons_zero, List.getElem?_cons_succ, List.set_cons_zero, List.set_cons_succ, Option.some.injEq, V.int.injEq, V.ref.injEq, V.str.injEq, V.bl.injEq, exists_eq_left', exists_eq_left, exists_and_left, decide_eq_true_eq, List.cons.injEq, and_true, true_and, scal, Bool.not_eq_true', decide_eq_false_iff_not, Nat.zero_add, Nat.reduceAdd, Nat.reduceSub, reduceCtorEq, false_and, exists_false, false_or, or_false, CPow, CPowW, CMul, CDiv, Int.reduceToNat, ↓reduceIte, wipe, sw, List.nil_append, List.singleton_append])
local macro_rules | `(tactic| walk_at "st") => `(tactic| (refine seq_op fun N hN => ?_; walk_at "rs"))
local macro_rules | `(tactic| walk_at "sd") => `(tactic| first | assumption | decide | omega)
local macro_rules | `(tactic| walk_at "rd") => `(tactic| repeat (first
  | refine ⟨_, SqL.of (by assumption), ?_⟩ | refine ⟨_, SqL.of upd_same, ?_⟩ | refine ⟨_, .inl (SqL.of (by assumption)), ?_⟩ | refine ⟨_, (by assumption : _ = some (HO.lst _)), ?_⟩ | refine ⟨_, upd_same, ?_⟩
  | refine ⟨_, rfl, ?_⟩ | refine And.intro (by walk_at "sd") ?_))

theorem eqv_zero (r s : Int) : PyData.eqv (.tuple [.int r, .int s]) (.tuple [.int 0, .int 1]) = (decide (r = 0) && decide (s = 1)) := by
  simp [PyData.eqv, PyData.eqvAll]
  rfl
theorem shaped2 (r s : Int) : SeqAt.shaped (.tuple [.int r, .int s]) = true := by rfl
theorem dp_pair {K : PySem.W.Frag} {H : Hp} {a : Addr} {p q : Int} (h : Pr K H a p q) : Dp K H (.ref a) (.tuple [.int p, .int q]) := .tup h (.cons (.int p) (.cons (.int q) .nil))
theorem abs_if (p : Int) : (if p < 0 then -p else p) = ((p.natAbs : Nat) : Int) := by split <;> omega
theorem fr_spec (p : Int) {q : Int} (h : q ≠ 0) : frP p q * frG p q = p ∧ frQ p q * frG p q = q ∧ 1 ≤ frQ p q ∧ Nat.gcd (frP p q).natAbs (frQ p q).natAbs = 1 ∧ (frP p q).natAbs ≤ p.natAbs ∧ (frQ p q).natAbs ≤ q.natAbs ∧ frG p q ≠ 0 := by
  have g0 : Nat.gcd p.natAbs q.natAbs ≠ 0 := fun z => h (by have := Nat.eq_zero_of_gcd_eq_zero_right z; omega)
  have ga : (frG p q).natAbs = Nat.gcd p.natAbs q.natAbs := by unfold frG; split <;> omega
  have gs : (0 < q ∧ 0 < frG p q) ∨ (q < 0 ∧ frG p q < 0) := by unfold frG; split <;> omega
  have gn : frG p q ≠ 0 := by omega
  have d1 : frG p q ∣ p := Int.natAbs_dvd_natAbs.mp (by rw [ga]; exact Nat.gcd_dvd_left _ _)
  have d2 : frG p q ∣ q := Int.natAbs_dvd_natAbs.mp (by rw [ga]; exact Nat.gcd_dvd_right _ _)
  obtain ⟨a, ea⟩ := d1
  obtain ⟨b, eb⟩ := d2
  have pa : frP p q = a := by
    unfold frP
    generalize frG p q = G at ea gn
    rw [ea, Int.mul_comm]
    exact Int.mul_fdiv_cancel _ gn
  have qb : frQ p q = b := by
    unfold frQ
    generalize frG p q = G at eb gn
    rw [eb, Int.mul_comm]
    exact Int.mul_fdiv_cancel _ gn
  rw [pa, qb]
  have na : p.natAbs = a.natAbs * Nat.gcd p.natAbs q.natAbs := by
    rw [← ga, ← Int.natAbs_mul, Int.mul_comm]; exact congrArg Int.natAbs ea
  have nb : q.natAbs = b.natAbs * Nat.gcd p.natAbs q.natAbs := by
    rw [← ga, ← Int.natAbs_mul, Int.mul_comm]; exact congrArg Int.natAbs eb
  have hg : Nat.gcd a.natAbs b.natAbs = 1 := by
    have e : Nat.gcd (a.natAbs * Nat.gcd p.natAbs q.natAbs) (b.natAbs * Nat.gcd p.natAbs q.natAbs) = Nat.gcd p.natAbs q.natAbs := by rw [← na, ← nb]
    rw [Nat.gcd_mul_right] at e
    exact Nat.eq_of_mul_eq_mul_right (Nat.pos_of_ne_zero g0) (by rw [e, Nat.one_mul])
  refine ⟨by rw [Int.mul_comm]; exact ea.symm, by rw [Int.mul_comm]; exact eb.symm, ?_, hg, ?_, ?_, gn⟩
  · generalize frG p q = G at eb gs
    rcases Int.lt_trichotomy b 0 with c | c | c
    · rcases gs with ⟨h1, h2⟩ | ⟨h1, h2⟩
      · have := Int.mul_neg_of_pos_of_neg h2 c; omega
      · have := Int.mul_pos_of_neg_of_neg h2 c; omega
    · rw [c, Int.mul_zero] at eb; omega
    · omega
  · rw [na]; exact Nat.le_mul_of_pos_right _ (Nat.pos_of_ne_zero g0)
  · rw [nb]; exact Nat.le_mul_of_pos_right _ (Nat.pos_of_ne_zero g0)
theorem pow_le {n a b : Nat} (h : n < 2 ^ a) (hab : a ≤ b) : n < 2 ^ b := Nat.lt_of_lt_of_le h (Nat.pow_le_pow_right (by decide) hab)
theorem abs_div (p : Int) {q : Int} (h : 1 ≤ q) : (p.fdiv q).natAbs ≤ p.natAbs := by
  rw [Int.fdiv_eq_ediv_of_nonneg p (by omega)]
  exact Int.natAbs_ediv_le_natAbs p q
theorem eqv_pair (p q r s : Int) : PyData.eqv (.tuple [.int p, .int q]) (.tuple [.int r, .int s]) = (decide (p = r) && decide (q = s)) := by
  simp [PyData.eqv, PyData.eqvAll]
  rfl
theorem fr_low {p q : Int} (h : 1 ≤ q) (hg : Nat.gcd p.natAbs q.natAbs = 1) : frP p q = p ∧ frQ p q = q := by
  have e : frG p q = 1 := by unfold frG; rw [hg, if_neg (by omega)]; rfl
  obtain ⟨h1, h2, _⟩ := fr_spec p (q := q) (by omega)
  rw [e, Int.mul_one] at h1 h2
  exact ⟨h1, h2⟩
theorem fr_unique {P Q p q : Int} (hQ : Q ≠ 0) (h : P * q = p * Q) (hq : 1 ≤ q) (hg : Nat.gcd p.natAbs q.natAbs = 1) : frP P Q = p ∧ frQ P Q = q := by
  obtain ⟨e1, e2, e3, e4, _, _, g0⟩ := fr_spec P hQ
  have h2 : frP P Q * q = p * frQ P Q := by
    have e : (frP P Q * q) * frG P Q = (p * frQ P Q) * frG P Q := by
      have a : (frP P Q * q) * frG P Q = (frP P Q * frG P Q) * q := by
        rw [Int.mul_assoc, Int.mul_comm q, ← Int.mul_assoc]
      have b : (p * frQ P Q) * frG P Q = p * (frQ P Q * frG P Q) := Int.mul_assoc _ _ _
      rw [a, b, e1, e2, h]
    exact Int.eq_of_mul_eq_mul_right g0 e
  have hn : (frP P Q).natAbs * q.natAbs = p.natAbs * (frQ P Q).natAbs := by rw [← Int.natAbs_mul, ← Int.natAbs_mul, h2]
  have d1 : q.natAbs ∣ (frQ P Q).natAbs := by
    have d : q.natAbs ∣ p.natAbs * (frQ P Q).natAbs := ⟨(frP P Q).natAbs, by rw [← hn, Nat.mul_comm]⟩
    exact Nat.Coprime.dvd_of_dvd_mul_left (Nat.Coprime.symm hg) d
  have d2 : (frQ P Q).natAbs ∣ q.natAbs := by
    have d : (frQ P Q).natAbs ∣ (frP P Q).natAbs * q.natAbs := ⟨p.natAbs, by rw [hn, Nat.mul_comm]⟩
    exact Nat.Coprime.dvd_of_dvd_mul_left (Nat.Coprime.symm e4) d
  have en := Nat.dvd_antisymm d1 d2
  have eq : frQ P Q = q := by omega
  refine ⟨?_, eq⟩
  rw [eq] at h2
  exact Int.eq_of_mul_eq_mul_right (by omega) h2
/-- what a fraction of P and Q is worth -/
theorem fr_worth (P : Int) {Q : Int} (hQ : Q ≠ 0) : frP P Q * Q = P * frQ P Q := by
  obtain ⟨e1, e2, _⟩ := fr_spec P hQ
  have : frP P Q * Q = frP P Q * (frQ P Q * frG P Q) := by rw [e2]
  rw [this, Int.mul_comm (frQ P Q), ← Int.mul_assoc, e1]
end LK

set_option Elab.async false
set_option linter.all false
set_option maxRecDepth 100000
namespace LK
open PySem PySem.Spec PyProof.Rows L2
local macro_rules | `(tactic| walk_at "rs") => `(tactic| simp only [cxK, cxNK, tCallZ, tAsg, tOp, rI0, rS0, rB0, rI, rU, tUn, rEq, rNe, rIxL, rIxT, rIxS, rSetL, rSlLU, rSlS, rSlU, rCatL, rCatU, rRepL, rIn, tVar, tC, gName, gSub, tIfS, tTest, tB, tAnd, tOr, tNot, tNotV, tAndV, tOrV, tIf, tCall, tCons, tNil, tCB, tDrop, tRet, tRetN, tNext, tLstU, tTupU, tM0, tM1, tPar, tPar3, tAug, ipI, tBM, tBM0, rAppend, rPop, tBreak, tCont, tChain, tSl, tPart, tNoPart, L2.start, List.map, List.length_cons, List.length_nil, List.replicate, List.cons_append, List.nil_append, List.append_nil, List.getElem?_cons_zero, List.getElem?_cons_succ, List.set_cons_zero, List.set_cons_succ, Option.some.injEq, V.int.injEq, V.ref.injEq, V.str.injEq, V.bl.injEq, exists_eq_left', exists_eq_left, exists_and_left, decide_eq_true_eq, List.cons.injEq, and_true, true_and, scal, Bool.not_eq_true', decide_eq_false_iff_not, Nat.zero_add, Nat.reduceAdd, Nat.reduceSub, reduceCtorEq, false_and, exists_false, false_or, or_false, CPow, CPowW, CMul, CDiv, Int.reduceToNat, ↓reduceIte, wipe, sw, List.nil_append, List.singleton_append])
local macro_rules | `(tactic| walk_at "st") => `(tactic| (refine seq_op fun N hN => ?_; walk_at "rs"))
local macro_rules | `(tactic| walk_at "sd") => `(tactic| first | assumption | decide | omega)
local macro_rules | `(tactic| walk_at "rd") => `(tactic| repeat (first
  | refine ⟨_, SqL.of (by assumption), ?_⟩ | refine ⟨_, SqL.of upd_same, ?_⟩ | refine ⟨_, .inl (SqL.of (by assumption)), ?_⟩ | refine ⟨_, (by assumption : _ = some (HO.lst _)), ?_⟩ | refine ⟨_, upd_same, ?_⟩
  | refine ⟨_, rfl, ?_⟩ | refine And.intro (by walk_at "sd") ?_))

section
variable {P : Program} {w : World} {K : PySem.W.Frag} {mg : Str → Option Value} {base : Heap}
theorem ok__law_draw (T : Txt w K mg) : FnOk P w K mg base CX0 1 T.a__law_draw T.d__law_draw ["bag", "many"] sp__law_draw := by
  refine T.F__law_draw.ok sc__law_draw (fun vs H Q E h => ?_) (fun cdv A outer s H vs Q E hr h => ?_)
  · obtain ⟨b, c, n, N0, rfl, _⟩ := h
    rfl
  · obtain ⟨b, c, n, N0, rfl, ⟨cells, i, g, m, d, hB, hC, ncb, hi, hm, hm2, hd, hd2⟩, n0, n1, k⟩ := h
    refine ⟨_, (pss_cons (ps_asg (pe_op op_add (pe_ix ix_list (pv 0) pe_int (fun _ _ => rfl)) pe_int) (pg_sub (pv 0) pe_int set_list))
      (pss_cons (ps_if (PW.pt (pw_and (pt_cmpR op_eqI (pe_ix ix_list (pv 0) pe_int (fun _ _ => rfl)) pe_int (nomark _)) (pw_and1 (pt_cmpR op_lt (pe_ix ix_list (pv 0) pe_int (fun _ _ => rfl)) (pe_callB call_len_seq (by rfl) T.n_len (by decide +kernel) (pa_cons (pe_ix ix_list (pv 0) pe_int (fun _ _ => rfl)) pa_nil)) (nomark _))))) (pss_cons (ps_set (i := 2) sc__law_draw.nd rfl (Or.inl rfl) (pe_callTy call_intI (by rfl) T.n_int (by decide +kernel) (pa_cons (pe_ix ix_list (pe_ix ix_list (pv 0) pe_int (fun _ _ => rfl)) (pe_ix ix_list (pv 0) pe_int (fun _ _ => rfl)) (fun _ _ => rfl)) pa_nil)))
      (pss_cons (ps_asg (pe_op op_add (pe_ix ix_list (pv 0) pe_int (fun _ _ => rfl)) pe_int) (pg_sub (pv 0) pe_int set_list))
      (pss_one (ps_if (pt_cmpR op_ge (pv 2) (pe_op op_powW pe_int pe_int) (nomark _)) (pss_one (ps_asg (pv 2) (pg_sub (pv 0) pe_int set_list))) (pss_one (ps_asg (pe_op op_mod (pe_callTy call_intI (by rfl) T.n_int (by decide +kernel) (pa_cons (pe_op op_powW (pe_op op_add (pe_op op_add (pe_ix ix_list (pv 0) pe_int (fun _ _ => rfl)) (pe_op op_mul (pe_op op_mod (pe_callTy call_intI (by rfl) T.n_int (by decide +kernel) (pa_cons (pv 2) pa_nil)) pe_int) pe_int)) pe_int) pe_int) pa_nil)) pe_int) (pg_sub (pv 0) pe_int set_list))))))) pss_nil)
      (pss_cons (ps_if (pt_cmpR op_gt (pe_ix ix_list (pv 0) pe_int (fun _ _ => rfl)) pe_int (nomark _)) (pss_cons (ps_set (i := 3) sc__law_draw.nd rfl (Or.inl rfl) (pe_op op_mod (pe_callTy call_intI (by rfl) T.n_int (by decide +kernel) (pa_cons (pe_ix ix_list (pv 0) pe_int (fun _ _ => rfl)) pa_nil)) (pv 1)))
      (pss_cons (ps_asg (pe_op op_fdivW (pe_callTy call_intI (by rfl) T.n_int (by decide +kernel) (pa_cons (pe_ix ix_list (pv 0) pe_int (fun _ _ => rfl)) pa_nil)) (pv 1)) (pg_sub (pv 0) pe_int set_list))
      (pss_one (ps_ret (pv 3))))) pss_nil)
      (pss_cons (ps_asg (pe_op op_mod (pe_callTy call_intI (by rfl) T.n_int (by decide +kernel) (pa_cons (pe_op op_powW (pe_op op_add (pe_op op_add (pe_ix ix_list (pv 0) pe_int (fun _ _ => rfl)) (pe_op op_mul (pe_ix ix_list (pv 0) pe_int (fun _ _ => rfl)) pe_int)) pe_int) pe_int) pa_nil)) pe_int) (pg_sub (pv 0) pe_int set_list))
      (pss_one (ps_ret (pe_op op_mod (pe_callTy call_intI (by rfl) T.n_int (by decide +kernel) (pa_cons (pe_op op_fdivW (pe_ix ix_list (pv 0) pe_int (fun _ _ => rfl)) pe_int) pa_nil)) (pv 1)))))))), ?_⟩
    -- bag[4] = bag[4] + 1
    refine seq_op fun N hN => ?_
    walk_at "rs"
    refine ⟨_, SqL.of hB, _, rfl, _, rfl, _, hB, _, rfl, ?_⟩
    refine hN _ _ ?_
    clear hN N
    -- if bag[2] == 0 and bag[1] < len(bag[0]): ..
    have B1 : Bag N0 (upd H b (.lst [.ref c, .int i, .int g, .int m, .int (d + 1)])) b c := ⟨cells, i, g, m, d + 1, upd_same, by rw [upd_ne ncb]; exact hC, ncb, hi, hm, hm2, by omega, by omega⟩
    have K1 : Kp b H (upd H b (.lst [.ref c, .int i, .int g, .int m, .int (d + 1)])) := Kp.upd
    show tSeq _ _ _ _ (upd H b (.lst [.ref c, .int i, .int g, .int m, .int (d + 1)]))
    generalize upd H b (.lst [.ref c, .int i, .int g, .int m, .int (d + 1)]) = H1 at B1 K1 ⊢
    clear hB hC ncb hi hm hm2 hd hd2 i g m d cells
    refine cut_seq (fun σ H2 => ∃ x, σ = [some (.ref b), some (.int n), x, none] ∧ Bag N0 H2 b c ∧ Kp b H H2) (fun N hN => ?_) ?_
    · obtain ⟨cells, i, g, m, d, hB, hC, ncb, hi, hm, hm2, hd, hd2⟩ := id B1
      walk_at "rs"
      refine ⟨_, SqL.of hB, _, rfl, _, rfl, ite2 (fun z => ?_) (fun _ => hN _ _ ⟨_, rfl, B1, K1⟩)⟩
      refine ⟨_, SqL.of hB, _, rfl, _, SqL.of hB, _, rfl, _, rfl, _, .inl (SqL.of hC), _, rfl, ite2 (fun zl => ?_) (fun _ => hN _ _ ⟨_, rfl, B1, K1⟩)⟩
      -- cell = bag[0][bag[1]]
      rw [List.length_map] at zl
      obtain ⟨cl, hcl⟩ : ∃ cl, cells[i.toNat]? = some cl := ⟨cells[i.toNat]'(by omega), List.getElem?_eq_getElem _⟩
      refine seq_op fun N2 hN2 => ?_
      walk_at "rs"
      walk_at "rd"
      refine ⟨_, _, rfl, SqL.of hC, _, at_of (j := i.toNat) (v := .int cl) (by omega) (by rw [List.getElem?_map, hcl] <;> rfl), cl, rfl, hN2 _ _ ?_⟩
      clear hN2 N2
      -- bag[1] = bag[1] + 1
      refine seq_op fun N2 hN2 => ?_
      walk_at "rs"
      walk_at "rd"
      refine hN2 _ _ ?_
      clear hN2 N2
      -- if cell >= 10 ** 18: bag[2] = cell else: ..
      walk_at "rs"
      refine ⟨by decide, ite2 (fun _ => ?_) (fun _ => ?_)⟩
      · refine ⟨_, upd_same, _, rfl, hN _ _ ⟨_, rfl, ?_, ?_⟩⟩
        · exact ⟨cells, i + 1, cl, m, d, upd_same, by rw [upd_ne ncb, upd_ne ncb]; exact hC, ncb, by omega, hm, hm2, hd, hd2⟩
        · exact K1.trans (Kp.upd.trans Kp.upd)
      · walk_at "rd"
        refine hN _ _ ⟨_, rfl, ?_, ?_⟩
        · exact ⟨cells, i + 1, g, _, d, upd_same, by rw [upd_ne ncb, upd_ne ncb]; exact hC, ncb, by omega, Int.emod_nonneg _ (by decide), Int.emod_lt_of_pos _ (by decide), hd, hd2⟩
        · exact K1.trans (Kp.upd.trans Kp.upd)
    · rintro σ H2 ⟨x, rfl, B2, K2⟩
      obtain ⟨cells, i, g, m, d, hB, hC, ncb, hi, hm, hm2, hd, hd2⟩ := id B2
      -- if bag[2] > 0: ..
      refine seq_op fun N hN => ?_
      walk_at "rs"
      refine ⟨_, SqL.of hB, _, rfl, _, rfl, ite2 (fun _ => ?_) (fun _ => hN _ _ ?_)⟩
      · refine seq_op fun N2 hN2 => ?_
        walk_at "rs"
        walk_at "rd"
        refine hN2 _ _ ?_
        clear hN2 N2
        refine seq_op fun N2 hN2 => ?_
        walk_at "rs"
        refine ⟨_, SqL.of hB, _, rfl, _, rfl, ⟨n0, Nat.lt_trans (PySem.Flt.log2_lt_of (by decide : 0 < 30) (show n.natAbs < 2 ^ 30 by omega)) (by decide)⟩, ?_⟩
        walk_at "rd"
        refine hN2 _ _ ?_
        walk_at "rs"
        exact k _ _ (Int.emod_nonneg _ (by omega)) (Int.emod_lt_of_pos _ n0) ⟨cells, i, _, m, d, upd_same, by rw [upd_ne ncb]; exact hC, ncb, hi, hm, hm2, hd, hd2⟩ (K2.trans Kp.upd)
      · clear hN N
        refine seq_op fun N hN => ?_
        walk_at "rs"
        refine ⟨_, SqL.of hB, _, rfl, _, SqL.of hB, _, rfl, _, rfl, .inr (by decide), m, rfl, ⟨by decide, by decide, by omega⟩, by decide, ?_⟩
        walk_at "rd"
        refine hN _ _ ?_
        clear hN N
        walk_at "rs"
        walk_at "rd"
        exact ⟨⟨by decide, Nat.lt_trans (PySem.Flt.log2_lt_of (by decide : 0 < 31) (by decide)) (by decide)⟩, n0, k _ _ (Int.emod_nonneg _ (by omega)) (Int.emod_lt_of_pos _ n0) ⟨cells, i, g, _, d, upd_same, by rw [upd_ne ncb]; exact hC, ncb, hi, Int.emod_nonneg _ (by decide), Int.emod_lt_of_pos _ (by decide), hd, hd2⟩ (K2.trans Kp.upd)⟩

theorem ok__law_of (T : Txt w K mg) : FnOk P w K mg base CX0 2 T.a__law_of T.d__law_of ["bag", "things"] (sp__law_of K) := by
  refine T.F__law_of.ok sc__law_of (fun vs H Q E h => ?_) (fun cdv A outer s H vs Q E hr h => ?_)
  · obtain ⟨b, c, x, ys, N0, rfl, _⟩ := h
    rfl
  · obtain ⟨b, c, x, ys, N0, rfl, B, sq, sqb, ne, hl, k⟩ := h
    have hr__law_draw : Room 1 _ := hr.mono (by decide)
    have G__law_draw := ok__law_draw (P := P) (base := base) T
    refine ⟨_, (pss_one (ps_ret (pe_ix ix_seq (pv 1) (pe_call G__law_draw hr__law_draw (by rfl) T.m__law_draw T.F__law_draw.kp T.B__law_draw .nil pass0 (pa_cons (pv 0) (pa_cons (pe_callB call_len (by rfl) T.n_len (by decide +kernel) (pa_cons (pv 1) pa_nil)) pa_nil))) (fun _ _ => rfl)))), ?_⟩
    walk_at "rs"
    have ln : 0 < ys.length := by cases ys with | nil => exact absurd rfl ne | cons => exact Nat.succ_pos _
    have pick : ∀ (r : Int), 0 ≤ r → r < (ys.length : Int) → ∃ y, atI ys r = some y ∧ y ∈ ys := fun r r0 r1 => by
      have h1 : r.toNat < ys.length := by omega
      exact ⟨ys[r.toNat], at_of (j := r.toNat) (by omega) (List.getElem?_eq_getElem h1), List.getElem_mem h1⟩
    refine ⟨ys.length, ?_, b, c, _, N0, rfl, B, by omega, by omega, fun r H' r0 r1 B' K' => ?_⟩
    · rcases sq with ⟨p, rfl, h⟩ | ⟨p, rfl, h⟩ | ⟨z, rfl, hz, rfl⟩
      · exact .inl ⟨_, h, rfl⟩
      · exact .inr ⟨_, h, rfl⟩
      · refine ⟨Nat.le_trans hz (by decide), ?_⟩
        rw [List.length_map, Array.length_toList] <;> rfl
    · obtain ⟨y, e, hy⟩ := pick r r0 r1
      rcases sqb with ⟨p, rfl, h⟩ | ⟨p, rfl, h⟩ | ⟨z, rfl, hz, rfl⟩
      · exact .inl ⟨p, ys, r, y, rfl, rfl, Same.seq (hb_le _ _) (Same.seq K' h), e, k y H' hy B' K'⟩
      · exact .inr (.inl ⟨p, ys, r, y, rfl, rfl, Same.seqT (hb_le _ _) (Same.seqT K' h), e, k y H' hy B' K'⟩)
      · refine .inr (.inr ?_)
        have h1 : r.toNat < z.cps.toList.length := by rw [List.length_map] at r1; omega
        have e2 : atI z.cps.toList r = some z.cps.toList[r.toNat] := at_ofN (j := r.toNat) (by omega) (List.getElem?_eq_getElem h1)
        refine ⟨z, r, _, rfl, rfl, Nat.le_trans hz (by decide), e2, k _ H' ?_ B' K'⟩
        exact List.mem_map.mpr ⟨_, List.getElem_mem h1, rfl⟩
theorem ok__law_bag (T : Txt w K mg) : FnOk P w K mg base CX0 1 T.a__law_bag T.d__law_bag ["script"] (sp__law_bag K) := by
  refine T.F__law_bag.ok sc__law_bag (fun vs H Q E h => ?_) (fun cdv A outer s H vs Q E hr h => ?_)
  · obtain ⟨a, ns, rfl, _⟩ := h
    rfl
  · obtain ⟨a, ns, rfl, hS, hl, k⟩ := h
    refine ⟨_, (pss_cons (ps_set (i := 1) sc__law_bag.nd rfl (Or.inl rfl) pe_int)
      (pss_cons (ps_for PassesOwn.never rfl (pi_list (pe_slice sl_listU (pv 0) po_none (po_some pe_int))) (pg_name (i := 2) sc__law_bag.nd rfl (Or.inl rfl)) (pss_one (ps_set (i := 1) sc__law_bag.nd rfl (Or.inl rfl) (pe_op op_mod (pe_callTy call_intI (by rfl) T.n_int (by decide +kernel) (pa_cons (pe_op op_powW (pe_op op_add (pe_op op_add (pv 1) (pe_op op_mod (pe_callTy call_intI (by rfl) T.n_int (by decide +kernel) (pa_cons (pv 2) pa_nil)) pe_int)) pe_int) pe_int) pa_nil)) pe_int))))
      (pss_one (ps_ret (pe_lstU (pa_cons (pe_callTy call_listU (by rfl) T.n_list (by decide +kernel) (pa_cons (pe_slice sl_listU (pv 0) po_none (po_some pe_int)) pa_nil)) (pa_cons pe_int (pa_cons pe_int (pa_cons (pv 1) (pa_cons pe_int pa_nil)))))))))), ?_⟩
    refine seq_op fun N hN => ?_
    walk_at "rs"
    refine hN _ _ ?_
    clear hN N
    refine cut_seq (fun σ H2 => ∃ m x, σ = [some (.ref a), some (.int m), x] ∧ 0 ≤ m ∧ m < 2305843009213693951 ∧ Same H H2) (fun N hN => ?_) ?_
    · refine ⟨_, rfl, _, rfl, a, _, rfl, hS, fun p H1 s1 h0 h1 => ?_⟩
      refine ⟨p, rfl, ⟨_, SqL.of h1⟩, for_list (K := K) (a := p) (xs := cutV (ns.map V.int) none (some 63)) (fun i σ H2 => ∃ m x, σ = [some (.ref a), some (.int m), x] ∧ 0 ≤ m ∧ m < 2305843009213693951 ∧ Same H1 H2) ⟨_, _, rfl, by decide, by decide, Same.refl _⟩ (fun i σ H2 _ ⟨_, _, _, _, _, s2⟩ => SqL.of (s2 _ _ h1)) ?_ ?_⟩
      · rintro i y σ H2 hi ⟨m, x, rfl, m0, m1, s2⟩
        obtain ⟨u, rfl⟩ : ∃ u, y = V.int u := by
          have q := List.mem_of_getElem? hi
          have q2 : y ∈ (ns.map V.int).take 63 := (cutV_take (ns.map V.int) 63) ▸ q
          obtain ⟨u, _, rfl⟩ := List.mem_map.mp (List.mem_of_mem_take q2)
          exact ⟨u, rfl⟩
        walk_at "rs"
        have u0 := Int.emod_nonneg u (show (2305843009213693921 : Int) ≠ 0 by decide)
        have u1 := Int.emod_lt_of_pos u (show (0 : Int) < 2305843009213693921 by decide)
        refine ⟨by decide, ⟨by decide, by decide, by omega⟩, by decide, ?_⟩
        exact ⟨_, _, ⟨rfl, rfl⟩, Int.emod_nonneg _ (by decide), Int.emod_lt_of_pos _ (by decide), s2⟩
      · rintro σ H2 ⟨m, x, rfl, m0, m1, s2⟩
        exact hN _ _ ⟨m, x, rfl, m0, m1, Same.trans s1 s2⟩
    · rintro σ H2 ⟨m, x, rfl, m0, m1, s2⟩
      walk_at "rs"
      refine ⟨_, Same.seq s2 hS, fun p H3 s3 h30 h3 => ⟨_, .inl (SqL.of h3), fun l H4 s4 h40 h4 => ⟨by decide, fun q H5 s5 h50 h5 => ?_⟩⟩⟩
      have e : cutV (ns.map V.int) none (some 63) = ns.map V.int := by
        refine (cutV_take (ns.map V.int) 63).trans ?_
        rw [List.take_of_length_le (by simpa using hl)]
      rw [e] at h4
      have s25 : Same H2 H5 := Same.trans s3 (Same.trans s4 s5)
      refine k q l H5 (Same.trans s2 s25) ⟨ns, 0, 0, m, 0, h5, s5 _ _ h4, fun z => ?_, Int.le_refl _, m0, m1, Int.le_refl _, by decide⟩ ?_
      · rw [z, h50] at h4; cases h4
      · exact Same.dom s2 q (Same.dom s3 q (Same.dom s4 q h50))
end
end LK

set_option Elab.async false
set_option linter.all false
set_option maxRecDepth 100000
namespace LK
open PySem PySem.Spec PyProof.Rows L2
local macro_rules | `(tactic| walk_at "rs") => `(tactic| simp only [cxK, cxNK, tCallZ, tAsg, tOp, rI0, rS0, rB0, rI, rU, tUn, rEq, rNe, rIxL, rIxT, rIxS, rSetL, rSlLU, rSlS, rSlU, rCatL, rCatU, rRepL, rIn, tVar, tC, gName, gSub, tIfS, tTest, tB, tAnd, tOr, tNot, tNotV, tAndV, tOrV, tIf, tCall, tCons, tNil, tCB, tDrop, tRet, tRetN, tNext, tLstU, tTupU, tM0, tM1, tPar, tPar3, tAug, ipI, tBM, tBM0, rAppend, rPop, tBreak, tCont, tChain, tSl, tPart, tNoPart, L2.start, List.map, List.length_cons, List.length_nil, List.replicate, List.cons_append, List.nil_append, List.append_nil, List.getElem?_cons_zero, List.getElem?_cons_succ, List.set_cons_zero, List.set_cons_succ, Option.some.injEq, V.int.injEq, V.ref.injEq, V.str.injEq, V.bl.injEq, exists_eq_left', exists_eq_left, exists_and_left, decide_eq_true_eq, List.cons.injEq, and_true, true_and, scal, Bool.not_eq_true', decide_eq_false_iff_not, Nat.zero_add, Nat.reduceAdd, Nat.reduceSub, reduceCtorEq, false_and, exists_false, false_or, or_false, CPow, CPowW, CMul, CDiv, Int.reduceToNat, ↓reduceIte, wipe, sw, List.nil_append, List.singleton_append])
local macro_rules | `(tactic| walk_at "st") => `(tactic| (refine seq_op fun N hN => ?_; walk_at "rs"))
local macro_rules | `(tactic| walk_at "sd") => `(tactic| first | assumption | decide | omega)
local macro_rules | `(tactic| walk_at "rd") => `(tactic| repeat (first
  | refine ⟨_, SqL.of (by assumption), ?_⟩ | refine ⟨_, SqL.of upd_same, ?_⟩ | refine ⟨_, .inl (SqL.of (by assumption)), ?_⟩ | refine ⟨_, (by assumption : _ = some (HO.lst _)), ?_⟩ | refine ⟨_, upd_same, ?_⟩
  | refine ⟨_, rfl, ?_⟩ | refine And.intro (by walk_at "sd") ?_))

theorem Kp.bn {b : Addr} {H H' : Hp} (k : Kp b H H') {o : HO} (h : H' b = some o) {p : Addr} (h0 : H' p = none) : H p = none := k.dom h p h0
theorem sqT_hb {N : Nat} {K : PySem.W.Frag} {H : Hp} {b c q : Addr} {xs : List V} (B : Bag N H b c) (h : SqT K H q xs) : SqT K (hb H b) q xs := by
  obtain ⟨yb, eb⟩ := B.at
  rcases h with (h | ⟨o, h⟩) | h
  · refine .inl (.inl ?_)
    rw [hb_ne]; exact h
    intro e; rw [e, eb] at h; cases h
  · refine .inl (.inr ⟨o, ?_⟩)
    rw [hb_ne]; exact h
    intro e; rw [e, eb] at h; cases h
  · exact .inr h
theorem seqT_kp {N : Nat} {K : PySem.W.Frag} {H H' : Hp} {b c q : Addr} {xs : List V} (B : Bag N H b c) (k : Kp b H H') (h : SqT K H q xs) : SqT K H' q xs := Same.seqT (hb_le H' b) (Same.seqT k (sqT_hb B h))
theorem new_ne {N : Nat} {b c p : Addr} {H : Hp} (B : Bag N H b c) (h0 : H p = none) : p ≠ b := fun e => by
  obtain ⟨xb, eb⟩ := B.at
  rw [e, eb] at h0; cases h0
theorem of_lst {N : Nat} {K : PySem.W.Frag} {H : Hp} {b c p : Addr} (B : Bag (N + 1) H b c) {ys : List V} (h : H p = some (.lst ys)) (n : p ≠ b) (ne : ys ≠ []) (hl : ys.length ≤ 1000000) {Q : VK} {E : XK} (k : ∀ y H', y ∈ ys → Bag N H' b c → Kp b H H' → Q y H') : sp__law_of K [.ref b, .ref p] H Q E :=
  ⟨b, c, .ref p, ys, N, rfl, B, .inl ⟨p, rfl, SqL.of h⟩, .inl ⟨p, rfl, SqL.of (by rw [hb_ne n]; exact h)⟩, ne, hl, k⟩
end LK

set_option Elab.async false
set_option linter.all false
set_option maxRecDepth 100000
namespace LK
open PySem PySem.Spec PyProof.Rows L2
local macro_rules | `(tactic| walk_at "rs") => `(tactic| simp only [cxK, cxNK, tCallZ, tAsg, tOp, rI0, rS0, rB0, rI, rU, tUn, rEq, rNe, rIxL, rIxT, rIxS, rSetL, rSlLU, rSlS, rSlU, rCatL, rCatU, rRepL, rIn, tVar, tC, gName, gSub, tIfS, tTest, tB, tAnd, tOr, tNot, tNotV, tAndV, tOrV, tIf, tCall, tCons, tNil, tCB, tDrop, tRet, tRetN, tNext, tLstU, tTupU, tM0, tM1, tPar, tPar3, tAug, ipI, tBM, tBM0, rAppend, rPop, tBreak, tCont, tChain, tSl, tPart, tNoPart, L2.start, List.map, List.length_cons, List.length_nil, List.replicate, List.cons_append, List.nil_append, List.append_nil, List.getElem?_cons_zero, List.getElem?_cons_succ, List.set_cons_zero, List.set_cons_succ, Option.some.injEq, V.int.injEq, V.ref.injEq, V.str.injEq, V.bl.injEq, exists_eq_left', exists_eq_left, exists_and_left, decide_eq_true_eq, List.cons.injEq, and_true, true_and, scal, Bool.not_eq_true', decide_eq_false_iff_not, Nat.zero_add, Nat.reduceAdd, Nat.reduceSub, reduceCtorEq, false_and, exists_false, false_or, or_false, CPow, CPowW, CMul, CDiv, Int.reduceToNat, ↓reduceIte, wipe, sw, List.nil_append, List.singleton_append])
local macro_rules | `(tactic| walk_at "st") => `(tactic| (refine seq_op fun N hN => ?_; walk_at "rs"))
local macro_rules | `(tactic| walk_at "sd") => `(tactic| first | assumption | decide | omega)
local macro_rules | `(tactic| walk_at "rd") => `(tactic| repeat (first
  | refine ⟨_, SqL.of (by assumption), ?_⟩ | refine ⟨_, SqL.of upd_same, ?_⟩ | refine ⟨_, .inl (SqL.of (by assumption)), ?_⟩ | refine ⟨_, (by assumption : _ = some (HO.lst _)), ?_⟩ | refine ⟨_, upd_same, ?_⟩
  | refine ⟨_, rfl, ?_⟩ | refine And.intro (by walk_at "sd") ?_))

section
variable {P : Program} {w : World} {K : PySem.W.Frag} {mg : Str → Option Value} {base : Heap}
theorem ok__law_gcd (T : Txt w K mg) : FnOk P w K mg base CX0 1 T.a__law_gcd T.d__law_gcd ["a", "b"] (fun vs H Q _ => ∃ p q : Int, vs = [.int p, .int q] ∧ Q (.int ((Nat.gcd p.natAbs q.natAbs : Nat) : Int)) H) := by
  refine T.F__law_gcd.ok sc__law_gcd (fun vs H Q E h => ?_) (fun cdv A outer s H vs Q E hr h => ?_)
  · obtain ⟨p, q, rfl, _⟩ := h
    rfl
  · obtain ⟨p, q, rfl, k⟩ := h
    refine ⟨_, (pss_cons (ps_par (i := 0) (j := 1) (by rfl) sc__law_gcd.nd rfl rfl (by decide) rfl rfl (pa_cons (pe_callB call_abs (by rfl) T.n_abs (by decide +kernel) (pa_cons (pv 0) pa_nil)) (pa_cons (pe_callB call_abs (by rfl) T.n_abs (by decide +kernel) (pa_cons (pv 1) pa_nil)) pa_nil)) (by rfl))
      (pss_cons (ps_while PassesOwn.never (pt_cmpR op_gt (pv 1) pe_int (nomark _)) (pss_one (ps_par (i := 0) (j := 1) (by rfl) sc__law_gcd.nd rfl rfl (by decide) rfl rfl (pa_cons (pv 1) (pa_cons (pe_op op_mod (pe_callTy call_intI (by rfl) T.n_int (by decide +kernel) (pa_cons (pv 0) pa_nil)) (pv 1)) pa_nil)) (by rfl))))
      (pss_one (ps_ret (pv 0))))), ?_⟩
    refine seq_op fun N hN => ?_
    walk_at "rs"
    refine ⟨_, _, ⟨rfl, rfl⟩, hN _ _ ?_⟩
    clear hN N
    refine cut_seq (fun σ H2 => σ = [some (.int ((Nat.gcd p.natAbs q.natAbs : Nat) : Int)), some (.int 0)] ∧ H2 = H) (fun N hN => ?_) ?_
    · refine while_by (fun σ H2 => ∃ a b : Nat, σ = [some (.int (a : Int)), some (.int (b : Int))] ∧ H2 = H ∧ Nat.gcd a b = Nat.gcd p.natAbs q.natAbs) (fun (σ : L2.St) (_ : Hp) => match σ[1]? with
          | some (some (V.int b)) => b.toNat
          | _ => 0) ⟨p.natAbs, q.natAbs, by rw [abs_if, abs_if], rfl, rfl⟩ ?_ ?_
      · rintro σ H2 ⟨a, b, rfl, rfl, hg⟩
        walk_at "rs"
        refine ite2 (fun hb => ?_) (fun hb => ?_)
        · refine ⟨hb, _, _, ⟨rfl, rfl⟩, ⟨b, a % b, ⟨rfl, rfl⟩, ?_⟩, ?_⟩
          · rw [← hg, Nat.gcd_comm a b, Nat.gcd_rec b a, Nat.gcd_comm]
          · show ((a : Int) % (b : Int)).toNat < (b : Int).toNat
            have := Int.emod_lt_of_pos (a : Int) (show (0 : Int) < (b : Int) by omega)
            have := Int.emod_nonneg (a : Int) (show (b : Int) ≠ 0 by omega)
            omega
        · have b0 : b = 0 := by omega
          subst b0
          rw [Nat.gcd_zero_right] at hg
          rw [hg]
          exact hN _ _ ⟨rfl, rfl⟩
      · intro σ H2 Q1 Q2 h hq
        revert hq
        walk_at "rs"
        rintro ⟨v, e, i, rfl, hq⟩
        exact ⟨_, e, i, rfl, h _ _ hq⟩
    · rintro σ H2 ⟨rfl, rfl⟩
      walk_at "rs"
      exact k
def sp_low : Sp := fun vs H Q _ => ∃ p q : Int, vs = [.int p, .int q] ∧ q ≠ 0 ∧ p.natAbs < 2 ^ 8001 ∧ q.natAbs < 2 ^ 8001 ∧ ∀ t H', Same H H' → H t = none → H' t = some (.tup [.int (frP p q), .int (frQ p q)]) → Q (.ref t) H'
theorem ok__law_low (T : Txt w K mg) : FnOk P w K mg base CX0 2 T.a__law_low T.d__law_low ["p", "q"] sp_low := by
  refine T.F__law_low.ok sc__law_low (fun vs H Q E h => ?_) (fun cdv A outer s H vs Q E hr h => ?_)
  · obtain ⟨p, q, rfl, _⟩ := h
    rfl
  · obtain ⟨p, q, rfl, q0, lp, lq, k⟩ := h
    have hr__law_gcd : Room 1 _ := hr
    have G__law_gcd := ok__law_gcd (P := P) (base := base) T
    refine ⟨_, (pss_cons (ps_set (i := 2) sc__law_low.nd rfl (Or.inl rfl) (pe_call G__law_gcd hr__law_gcd (by rfl) T.m__law_gcd T.F__law_gcd.kp T.B__law_gcd .nil pass0 (pa_cons (pv 0) (pa_cons (pv 1) pa_nil))))
      (pss_cons (ps_if (pt_cmpR op_lt (pv 1) pe_int (nomark _)) (pss_one (ps_set (i := 2) sc__law_low.nd rfl (Or.inl rfl) (pe_un un_neg (pv 2)))) pss_nil)
      (pss_one (ps_ret (pe_tupU (pa_cons (pe_op op_fdivF (pv 0) (pv 2)) (pa_cons (pe_op op_fdivF (pv 1) (pv 2)) pa_nil))))))), ?_⟩
    refine seq_op fun N hN => ?_
    walk_at "rs"
    refine ⟨p, q, ⟨rfl, rfl⟩, hN _ _ ?_⟩
    clear hN N
    have g0 : (Nat.gcd p.natAbs q.natAbs : Nat) ≠ 0 := fun z => q0 (by have := Nat.eq_zero_of_gcd_eq_zero_right z; omega)
    have gl := gcd_log (p := p) q0
    have ql := logL lq (by decide) (by decide)
    have n0 : frG p q ≠ 0 := by unfold frG; split <;> omega
    have nl : (frG p q).natAbs.log2 < 9000 := by
      have : (frG p q).natAbs = Nat.gcd p.natAbs q.natAbs := by unfold frG; split <;> omega
      rw [this]; omega
    refine cut_seq (fun σ H3 => σ = [some (.int p), some (.int q), some (.int (frG p q))] ∧ H3 = H) (fun N hN => ?_) ?_
    · walk_at "rs"
      unfold frG at hN
      refine ite2 (fun c => ?_) (fun c => ?_)
      · rw [if_pos c] at hN
        exact hN _ _ ⟨rfl, rfl⟩
      · rw [if_neg c] at hN; exact hN _ _ ⟨rfl, rfl⟩
    · rintro σ H3 ⟨rfl, rfl⟩
      walk_at "rs"
      exact ⟨⟨n0, nl⟩, ⟨n0, nl⟩, by decide, k⟩
theorem ok__law_plus (T : Txt w K mg) : FnOk P w K mg base CX0 3 T.a__law_plus T.d__law_plus ["a", "b"] (sp_two K (fun p q r s => p * s + r * q) fun _ q _ s => q * s) := by
  refine T.F__law_plus.ok sc__law_plus (fun vs H Q E h => ?_) (fun cdv A outer s H vs Q E hr h => ?_)
  · obtain ⟨a, b, p, q, r, s', rfl, _⟩ := h
    rfl
  · obtain ⟨a, b, p, q, r, s', rfl, ha, hb, lp, lq, lr, ls, n0, k⟩ := h
    have hr__law_low : Room 2 _ := hr
    have G__law_low := ok__law_low (P := P) (base := base) T
    refine ⟨_, (pss_one (ps_ret (pe_call G__law_low hr__law_low (by rfl) T.m__law_low T.F__law_low.kp T.B__law_low .nil pass0 (pa_cons (pe_op op_add (pe_op op_mulW (pe_ix ix_tup (pv 0) pe_int (fun _ _ => rfl)) (pe_ix ix_tup (pv 1) pe_int (fun _ _ => rfl))) (pe_op op_mulW (pe_ix ix_tup (pv 1) pe_int (fun _ _ => rfl)) (pe_ix ix_tup (pv 0) pe_int (fun _ _ => rfl)))) (pa_cons (pe_op op_mulW (pe_ix ix_tup (pv 0) pe_int (fun _ _ => rfl)) (pe_ix ix_tup (pv 1) pe_int (fun _ _ => rfl))) pa_nil))))), ?_⟩
    walk_at "rs"
    refine ⟨_, ha, _, rfl, _, hb, _, rfl, _, rfl, _, rfl, mulW lp ls, _, hb, _, rfl, _, ha, _, rfl, _, rfl, _, rfl, mulW lr lq, _, ha, _, rfl, _, hb, _, rfl, _, rfl, _, rfl, mulW lq ls, ?_⟩
    exact ⟨_, _, rfl, n0, pow_le (two_add (mulL lp ls) (mulL lr lq)) (by decide), pow_le (mulL lq ls) (by decide), k⟩
/-- a fraction in lowest terms, within M and L -/
def okB (M L : Nat) (f : Int × Int) : Prop := 1 ≤ f.2 ∧ Nat.gcd f.1.natAbs f.2.natAbs = 1 ∧ f.1.natAbs ≤ M ∧ f.2.natAbs ≤ L
theorem okB_low {M L : Nat} {p q : Int} (q0 : q ≠ 0) (hp : p.natAbs ≤ M) (hq : q.natAbs ≤ L) : okB M L (frP p q, frQ p q) := by
  obtain ⟨_, _, e3, e4, e5, e6, _⟩ := fr_spec p q0
  exact ⟨e3, e4, Nat.le_trans e5 hp, Nat.le_trans e6 hq⟩
def sp_drawn (K : PySem.W.Frag) (k M L : Nat) : Sp := fun vs H Q _ => ∃ (b c : Addr) (N : Nat), vs = [.ref b] ∧ Bag (N + k) H b c ∧ ∀ (t : Addr) (f : Int × Int) H', okB M L f → H t = none → H' t = some (.tup [.int f.1, .int f.2]) → Bag N H' b c → Kp b H H' → Q (.ref t) H'
theorem low_at {M L : Nat} {H : Hp} {Q : VK} {E : XK} {p q : Int} (q0 : q ≠ 0) (hp : p.natAbs < 2 ^ 8001) (hq : q.natAbs < 2 ^ 8001) (k : ∀ t H', Same H H' → H t = none → H' t = some (.tup [.int (frP p q), .int (frQ p q)]) → Q (.ref t) H') : sp_low [.int p, .int q] H Q E := ⟨p, q, rfl, q0, hp, hq, k⟩
theorem ok__law_light (T : Txt w K mg) : FnOk P w K mg base CX0 3 T.a__law_light T.d__law_light ["bag"] (sp_drawn K 4 2000 97) := by
  refine T.F__law_light.ok sc__law_light (fun vs H Q E h => ?_) (fun cdv A outer s H vs Q E hr h => ?_)
  · obtain ⟨b, c, N, rfl, _⟩ := h
    rfl
  · obtain ⟨b, c, N0, rfl, B, k⟩ := h
    have hr__law_low : Room 2 _ := hr
    have G__law_low := ok__law_low (P := P) (base := base) T
    have hr__law_draw : Room 1 _ := hr.mono (by decide)
    have G__law_draw := ok__law_draw (P := P) (base := base) T
    refine ⟨_, (pss_cons (ps_if (pt_cmpR op_gt (pe_call G__law_draw hr__law_draw (by rfl) T.m__law_draw T.F__law_draw.kp T.B__law_draw .nil pass0 (pa_cons (pv 0) (pa_cons pe_int pa_nil))) pe_int (nomark _)) (pss_one (ps_ret (pe_tupU (pa_cons (pe_op op_sub (pe_call G__law_draw hr__law_draw (by rfl) T.m__law_draw T.F__law_draw.kp T.B__law_draw .nil pass0 (pa_cons (pv 0) (pa_cons pe_int pa_nil))) pe_int) (pa_cons pe_int pa_nil))))) pss_nil)
      (pss_cons (ps_if (pt_cmpR op_eqI (pe_call G__law_draw hr__law_draw (by rfl) T.m__law_draw T.F__law_draw.kp T.B__law_draw .nil pass0 (pa_cons (pv 0) (pa_cons pe_int pa_nil))) pe_int (nomark _)) (pss_one (ps_ret (pe_call G__law_low hr__law_low (by rfl) T.m__law_low T.F__law_low.kp T.B__law_low .nil pass0 (pa_cons (pe_op op_sub (pe_call G__law_draw hr__law_draw (by rfl) T.m__law_draw T.F__law_draw.kp T.B__law_draw .nil pass0 (pa_cons (pv 0) (pa_cons pe_int pa_nil))) pe_int) (pa_cons (pe_op op_add pe_int (pe_call G__law_draw hr__law_draw (by rfl) T.m__law_draw T.F__law_draw.kp T.B__law_draw .nil pass0 (pa_cons (pv 0) (pa_cons pe_int pa_nil)))) pa_nil))))) pss_nil)
      (pss_one (ps_ret (pe_call G__law_low hr__law_low (by rfl) T.m__law_low T.F__law_low.kp T.B__law_low .nil pass0 (pa_cons (pe_op op_sub (pe_call G__law_draw hr__law_draw (by rfl) T.m__law_draw T.F__law_draw.kp T.B__law_draw .nil pass0 (pa_cons (pv 0) (pa_cons pe_int pa_nil))) pe_int) (pa_cons (pe_op op_add pe_int (pe_call G__law_draw hr__law_draw (by rfl) T.m__law_draw T.F__law_draw.kp T.B__law_draw .nil pass0 (pa_cons (pv 0) (pa_cons pe_int pa_nil)))) pa_nil))))))), ?_⟩
    have fin : ∀ {H1 H2 : Hp} {t : Addr} {p q : Int}, q ≠ 0 → p.natAbs ≤ 2000 → q.natAbs ≤ 97 → Bag N0 H1 b c → Kp b H H1 → Same H1 H2 → H1 t = none → H2 t = some (.tup [.int (frP p q), .int (frQ p q)]) → Q (.ref t) H2 := fun q0 hp hq B1 K1 s2 h0 h2 =>
      k _ _ _ (okB_low q0 hp hq) (Kp.bn K1 B1.at.choose_spec h0) h2 (B1.same s2) (Same.trans K1 (Kp.of s2))
    refine seq_op fun N hN => ?_
    walk_at "rs"
    refine ⟨b, c, 3, N0 + 3, rfl, B, by decide, by decide, fun r1 H1 r10 r11 B1 K1 => ⟨r1, rfl, ite2 (fun _ => ?_) (fun _ => hN _ _ ?_)⟩⟩
    · refine ⟨b, c, 5, N0 + 2, rfl, B1, by decide, by decide, fun r2 H2 r20 r21 B2 K2 => ⟨r2, rfl, by decide, fun t H3 s3 h03 h3 => ?_⟩⟩
      exact k t (r2 - 2, 1) H3 ⟨Int.le_refl 1, Nat.gcd_one_right _, by show (r2 - 2).natAbs ≤ 2000; omega, by show (1 : Int).natAbs ≤ 97; decide⟩ (Kp.bn K1 B1.at.choose_spec (Kp.bn K2 B2.at.choose_spec h03)) h3 ((B2.same s3).le (by omega)) (Same.trans K1 (Same.trans K2 (Kp.of s3)))
    clear hN N
    refine seq_op fun N hN => ?_
    walk_at "rs"
    refine ⟨b, c, 9, N0 + 2, rfl, B1, by decide, by decide, fun r2 H2 r20 r21 B2 K2 => ⟨r2, rfl, ite2 (fun _ => ?_) (fun _ => hN _ _ ?_)⟩⟩
    · refine ⟨b, c, 4001, N0 + 1, rfl, B2, by decide, by decide, fun r3 H3 r30 r31 B3 K3 => ⟨r3, rfl, b, c, 97, N0, rfl, B3, by decide, by decide, fun r4 H4 r40 r41 B4 K4 => ⟨r4, rfl, ?_⟩⟩⟩
      exact low_at (M := 1) (L := 1) (by omega) (pow_le (a := 64) (by omega) (by decide)) (pow_le (a := 64) (by omega) (by decide)) fun t H5 s5 h05 h5 => fin (by omega) (by omega) (by omega) B4 (Same.trans K1 (Same.trans K2 (Same.trans K3 K4))) s5 h05 h5
    clear hN N
    walk_at "rs"
    refine ⟨b, c, 9, N0 + 1, rfl, B2, by decide, by decide, fun r3 H3 r30 r31 B3 K3 => ⟨r3, rfl, b, c, 4, N0, rfl, B3, by decide, by decide, fun r4 H4 r40 r41 B4 K4 => ⟨r4, rfl, ?_⟩⟩⟩
    exact low_at (M := 1) (L := 1) (by omega) (pow_le (a := 64) (by omega) (by decide)) (pow_le (a := 64) (by omega) (by decide)) fun t H5 s5 h05 h5 => fin (by omega) (by omega) (by omega) B4 (Same.trans K1 (Same.trans K2 (Same.trans K3 K4))) s5 h05 h5
end
end LK

set_option Elab.async false
set_option linter.all false
set_option maxRecDepth 100000
namespace LK
open PySem PySem.Spec PyProof.Rows L2
local macro_rules | `(tactic| walk_at "rs") => `(tactic| simp only [cxK, cxNK, tCallZ, tAsg, tOp, rI0, rS0, rB0, rI, rU, tUn, rEq, rNe, rIxL, rIxT, rIxS, rSetL, rSlLU, rSlS, rSlU, rCatL, rCatU, rRepL, rIn, tVar, tC, gName, gSub, tIfS, tTest, tB, tAnd, tOr, tNot, tNotV, tAndV, tOrV, tIf, tCall, tCons, tNil, tCB, tDrop, tRet, tRetN, tNext, tLstU, tTupU, tM0, tM1, tPar, tPar3, tAug, ipI, tBM, tBM0, rAppend, rPop, tBreak, tCont, tChain, tSl, tPart, tNoPart, L2.start, List.map, List.length_cons, List.length_nil, List.replicate, List.cons_append, List.nil_append, List.append_nil, List.getElem?_cons_zero, List.getElem?_cons_succ, List.set_cons_zero, List.set_cons_succ, Option.some.injEq, V.int.injEq, V.ref.injEq, V.str.injEq, V.bl.injEq, exists_eq_left', exists_eq_left, exists_and_left, decide_eq_true_eq, List.cons.injEq, and_true, true_and, scal, Bool.not_eq_true', decide_eq_false_iff_not, Nat.zero_add, Nat.reduceAdd, Nat.reduceSub, reduceCtorEq, false_and, exists_false, false_or, or_false, CPow, CPowW, CMul, CDiv, Int.reduceToNat, ↓reduceIte, wipe, sw, List.nil_append, List.singleton_append])
local macro_rules | `(tactic| walk_at "st") => `(tactic| (refine seq_op fun N hN => ?_; walk_at "rs"))
local macro_rules | `(tactic| walk_at "sd") => `(tactic| first | assumption | decide | omega)
local macro_rules | `(tactic| walk_at "rd") => `(tactic| repeat (first
  | refine ⟨_, SqL.of (by assumption), ?_⟩ | refine ⟨_, SqL.of upd_same, ?_⟩ | refine ⟨_, .inl (SqL.of (by assumption)), ?_⟩ | refine ⟨_, (by assumption : _ = some (HO.lst _)), ?_⟩ | refine ⟨_, upd_same, ?_⟩
  | refine ⟨_, rfl, ?_⟩ | refine And.intro (by walk_at "sd") ?_))

abbrev Fr := Int × Int
/-- the fraction f, in lowest terms, is X parts of L -/
def Va (L X : Int) (f : Fr) : Prop := 1 ≤ f.2 ∧ Nat.gcd f.1.natAbs f.2.natAbs = 1 ∧ f.1 * L = X * f.2
theorem Va.dvd {L X : Int} {f : Fr} (h : Va L X f) : f.2 ∣ L := by
  obtain ⟨h1, h2, h3⟩ := h
  have d : f.2.natAbs ∣ f.1.natAbs * L.natAbs := ⟨X.natAbs, by rw [← Int.natAbs_mul, h3, Int.natAbs_mul, Nat.mul_comm]⟩
  exact Int.natAbs_dvd_natAbs.mp (Nat.Coprime.dvd_of_dvd_mul_left (Nat.Coprime.symm h2) d)
theorem Va.den {L X : Int} {f : Fr} (h : Va L X f) (hL : 0 < L) : f.2.natAbs ≤ L.natAbs := Nat.le_of_dvd (by omega) (Int.natAbs_dvd_natAbs.mpr h.dvd)
theorem Va.num {L X : Int} {f : Fr} (h : Va L X f) (hL : 0 < L) : f.1.natAbs ≤ X.natAbs := by
  have hd := h.den hL
  have e : f.1.natAbs * L.natAbs = X.natAbs * f.2.natAbs := by rw [← Int.natAbs_mul, ← Int.natAbs_mul, h.2.2]
  have : f.1.natAbs * L.natAbs ≤ X.natAbs * L.natAbs := by rw [e]; exact Nat.mul_le_mul_left _ hd
  exact Nat.le_of_mul_le_mul_right this (by omega)
theorem Va.zero (L : Int) : Va L 0 (0, 1) := ⟨by decide, by decide, by simp⟩
theorem Va.scale {L X : Int} {f : Fr} (h : Va L X f) (k : Int) : Va (L * k) (X * k) f := ⟨h.1, h.2.1, by rw [← Int.mul_assoc, h.2.2, Int.mul_assoc, Int.mul_assoc, Int.mul_comm k]⟩
theorem Va.plus {L X Y : Int} {f g : Fr} (h : Va L X f) (h' : Va L Y g) : Va L (X + Y) (frP (f.1 * g.2 + g.1 * f.2) (f.2 * g.2), frQ (f.1 * g.2 + g.1 * f.2) (f.2 * g.2)) ∧ f.2 * g.2 ≠ 0 := by
  have q0 : f.2 * g.2 ≠ 0 := Int.mul_ne_zero (by have := h.1; omega) (by have := h'.1; omega)
  have wo := fr_worth (f.1 * g.2 + g.1 * f.2) q0
  obtain ⟨_, _, e3, e4, _⟩ := fr_spec (f.1 * g.2 + g.1 * f.2) q0
  refine ⟨⟨e3, e4, ?_⟩, q0⟩
  dsimp only
  generalize frP (f.1 * g.2 + g.1 * f.2) (f.2 * g.2) = P at wo
  generalize frQ (f.1 * g.2 + g.1 * f.2) (f.2 * g.2) = Q at wo
  refine Int.eq_of_mul_eq_mul_right q0 ?_
  have e1 := h.2.2
  have e2 := h'.2.2
  have a1 : P * L * (f.2 * g.2) = (P * (f.2 * g.2)) * L := by simp only [Int.mul_assoc, Int.mul_comm, Int.mul_left_comm]
  have a2 : (f.1 * g.2 + g.1 * f.2) * Q * L = ((f.1 * L) * g.2 + (g.1 * L) * f.2) * Q := by simp only [Int.add_mul, Int.mul_add, Int.mul_assoc, Int.mul_comm, Int.mul_left_comm]
  rw [a1, wo, a2, e1, e2]
  simp only [Int.add_mul, Int.mul_add, Int.mul_assoc, Int.mul_comm, Int.mul_left_comm]
theorem Va.times {L M X Y : Int} {f g : Fr} (h : Va L X f) (h' : Va M Y g) : Va (L * M) (X * Y) (frP (f.1 * g.1) (f.2 * g.2), frQ (f.1 * g.1) (f.2 * g.2)) ∧ f.2 * g.2 ≠ 0 := by
  have q0 : f.2 * g.2 ≠ 0 := Int.mul_ne_zero (by have := h.1; omega) (by have := h'.1; omega)
  have wo := fr_worth (f.1 * g.1) q0
  obtain ⟨_, _, e3, e4, _⟩ := fr_spec (f.1 * g.1) q0
  refine ⟨⟨e3, e4, ?_⟩, q0⟩
  dsimp only
  generalize frP (f.1 * g.1) (f.2 * g.2) = P at wo
  generalize frQ (f.1 * g.1) (f.2 * g.2) = Q at wo
  refine Int.eq_of_mul_eq_mul_right q0 ?_
  have e1 := h.2.2
  have e2 := h'.2.2
  have a1 : P * (L * M) * (f.2 * g.2) = (P * (f.2 * g.2)) * (L * M) := by simp only [Int.mul_assoc, Int.mul_comm, Int.mul_left_comm]
  have a2 : f.1 * g.1 * Q * (L * M) = (f.1 * L) * (g.1 * M) * Q := by simp only [Int.mul_assoc, Int.mul_comm, Int.mul_left_comm]
  rw [a1, wo, a2, e1, e2]
  simp only [Int.mul_assoc, Int.mul_comm, Int.mul_left_comm]
theorem low_eq {f g : Fr} (hf : 1 ≤ f.2) (gf : Nat.gcd f.1.natAbs f.2.natAbs = 1) (hg : 1 ≤ g.2) (gg : Nat.gcd g.1.natAbs g.2.natAbs = 1) (e : f.1 * g.2 = g.1 * f.2) : f = g := by
  obtain ⟨a, b⟩ := fr_unique (P := f.1) (Q := f.2) (p := g.1) (q := g.2) (by omega) e hg gg
  obtain ⟨c, d⟩ := fr_low hf gf
  exact Prod.ext (by rw [← a, c]) (by rw [← b, d])
theorem Va.uniq {L X : Int} {f g : Fr} (hL : 0 < L) (h : Va L X f) (h' : Va L X g) : f = g := by
  refine low_eq h.1 h.2.1 h'.1 h'.2.1 ?_
  refine Int.eq_of_mul_eq_mul_right (show L ≠ 0 by omega) ?_
  have e1 := h.2.2
  have e2 := h'.2.2
  have a1 : f.1 * g.2 * L = (f.1 * L) * g.2 := by simp only [Int.mul_assoc, Int.mul_comm, Int.mul_left_comm]
  have a2 : g.1 * f.2 * L = (g.1 * L) * f.2 := by simp only [Int.mul_assoc, Int.mul_comm, Int.mul_left_comm]
  rw [a1, a2, e1, e2]
  simp only [Int.mul_assoc, Int.mul_comm, Int.mul_left_comm]
theorem Va.pos {L X : Int} {f : Fr} (hL : 0 < L) (h : Va L X f) : 0 < f.1 ↔ 0 < X := by
  have e := h.2.2
  have q1 := h.1
  constructor
  · intro p
    have := Int.mul_pos p hL
    rw [e] at this
    exact Int.pos_of_mul_pos_left this (by omega)
  · intro p
    have := Int.mul_pos p (show 0 < f.2 by omega)
    rw [← e] at this
    exact Int.pos_of_mul_pos_left this hL
/-- the parts of M that f has -/
def num (M : Int) (f : Fr) : Int := f.1 * (M / f.2)
theorem num_va {M : Int} {f : Fr} (h1 : 1 ≤ f.2) (hg : Nat.gcd f.1.natAbs f.2.natAbs = 1) (hd : f.2 ∣ M) : Va M (num M f) f := by
  refine ⟨h1, hg, ?_⟩
  unfold num
  rw [Int.mul_assoc, Int.ediv_mul_cancel hd]
end LK

set_option Elab.async false
set_option linter.all false
set_option maxRecDepth 100000
namespace LK
open PySem PySem.Spec PyProof.Rows L2
local macro_rules | `(tactic| walk_at "rs") => `(tactic| simp only [cxK, cxNK, tCallZ, tAsg, tOp, rI0, rS0, rB0, rI, rU, tUn, rEq, rNe, rIxL, rIxT, rIxS, rSetL, rSlLU, rSlS, rSlU, rCatL, rCatU, rRepL, rIn, tVar, tC, gName, gSub, tIfS, tTest, tB, tAnd, tOr, tNot, tNotV, tAndV, tOrV, tIf, tCall, tCons, tNil, tCB, tDrop, tRet, tRetN, tNext, tLstU, tTupU, tM0, tM1, tPar, tPar3, tAug, ipI, tBM, tBM0, rAppend, rPop, tBreak, tCont, tChain, tSl, tPart, tNoPart, L2.start, List.map, List.length_cons, List.length_nil, List.replicate, List.cons_append, List.nil_append, List.append_nil, List.getElem?_cons_zero, List.getElem?_cons_succ, List.set_cons_zero, List.set_cons_succ, Option.some.injEq, V.int.injEq, V.ref.injEq, V.str.injEq, V.bl.injEq, exists_eq_left', exists_eq_left, exists_and_left, decide_eq_true_eq, List.cons.injEq, and_true, true_and, scal, Bool.not_eq_true', decide_eq_false_iff_not, Nat.zero_add, Nat.reduceAdd, Nat.reduceSub, reduceCtorEq, false_and, exists_false, false_or, or_false, CPow, CPowW, CMul, CDiv, Int.reduceToNat, ↓reduceIte, wipe, sw, List.nil_append, List.singleton_append])
local macro_rules | `(tactic| walk_at "st") => `(tactic| (refine seq_op fun N hN => ?_; walk_at "rs"))
local macro_rules | `(tactic| walk_at "sd") => `(tactic| first | assumption | decide | omega)
local macro_rules | `(tactic| walk_at "rd") => `(tactic| repeat (first
  | refine ⟨_, SqL.of (by assumption), ?_⟩ | refine ⟨_, SqL.of upd_same, ?_⟩ | refine ⟨_, .inl (SqL.of (by assumption)), ?_⟩ | refine ⟨_, (by assumption : _ = some (HO.lst _)), ?_⟩ | refine ⟨_, upd_same, ?_⟩
  | refine ⟨_, rfl, ?_⟩ | refine And.intro (by walk_at "sd") ?_))

/-- at xs the fractions fs -/
inductive Frs (K : PySem.W.Frag) (H : Hp) : List V → List Fr → Prop
  | nil : Frs K H [] []
  | cons {a : Addr} {f : Fr} {xs : List V} {fs : List Fr} : Pr K H a f.1 f.2 → Frs K H xs fs → Frs K H (.ref a :: xs) (f :: fs)
section
variable {K : PySem.W.Frag} {H H' : Hp}
theorem Frs.same (s : Same H H') : ∀ {xs : List V} {fs : List Fr}, Frs K H xs fs → Frs K H' xs fs
  | _, _, .nil => .nil
  | _, _, .cons h q => .cons (Same.seqT s h) (q.same s)
theorem Frs.len : ∀ {xs : List V} {fs : List Fr}, Frs K H xs fs → xs.length = fs.length
  | _, _, .nil => rfl
  | _, _, .cons _ q => congrArg Nat.succ q.len
theorem Frs.app : ∀ {xs ys : List V} {fs gs : List Fr}, Frs K H xs fs → Frs K H ys gs → Frs K H (xs ++ ys) (fs ++ gs)
  | _, _, _, _, .nil, r => r
  | _, _, _, _, .cons h q, r => .cons h (q.app r)
theorem Frs.drop : ∀ {xs : List V} {fs : List Fr} (n : Nat), Frs K H xs fs → Frs K H (xs.drop n) (fs.drop n)
  | _, _, 0, h => h
  | _, _, _ + 1, .nil => .nil
  | _, _, n + 1, .cons _ q => q.drop n
theorem Frs.take : ∀ {xs : List V} {fs : List Fr} (n : Nat), Frs K H xs fs → Frs K H (xs.take n) (fs.take n)
  | _, _, 0, _ => .nil
  | _, _, _ + 1, .nil => .nil
  | _, _, n + 1, .cons h q => .cons h (q.take n)
theorem Frs.get : ∀ {xs : List V} {fs : List Fr} {n : Nat}, Frs K H xs fs → n < fs.length → ∃ a f, xs[n]? = some (.ref a) ∧ fs[n]? = some f ∧ Pr K H a f.1 f.2
  | _, _, _, .nil, h => absurd h (Nat.not_lt_zero _)
  | _, _, 0, .cons h _, _ => ⟨_, _, rfl, rfl, h⟩
  | _, _, n + 1, .cons _ q, h => by
    obtain ⟨a, f, h1, h2, h3⟩ := q.get (n := n) (Nat.lt_of_succ_lt_succ h)
    exact ⟨a, f, h1, h2, h3⟩
theorem Frs.one {a : Addr} {f : Fr} (h : Pr K H a f.1 f.2) : Frs K H [.ref a] [f] := .cons h .nil
end
theorem seqT_upd {K : PySem.W.Frag} {H : Hp} {a p : Addr} {xs ys : List V} {o : HO} (hp : H p = some (.lst ys)) (h : SqT K H a xs) : SqT K (L2.upd H p o) a xs := by
  rcases h with (h | ⟨u, h⟩) | h
  · refine .inl (.inl ?_)
    rw [upd_ne]; exact h
    intro e; rw [e, hp] at h; cases h
  · refine .inl (.inr ⟨u, ?_⟩)
    rw [upd_ne]; exact h
    intro e; rw [e, hp] at h; cases h
  · exact .inr h
theorem Frs.upd {K : PySem.W.Frag} {H : Hp} {p : Addr} {ys : List V} {o : HO} (hp : H p = some (.lst ys)) : ∀ {xs : List V} {fs : List Fr}, Frs K H xs fs → Frs K (L2.upd H p o) xs fs
  | _, _, .nil => .nil
  | _, _, .cons h q => .cons (seqT_upd hp h) (q.upd hp)
def iLT (K : PySem.W.Frag) (tl : TE) : TI := fun σ H R => iList K tl σ H R ∨ iTup K tl σ H R
theorem pi_lt {X : Cx} {tg l : Expr} {tl : TE} (hl : PE X l tl) : PI X tg l (iLT X.K tl) :=
  ⟨fun pins s σ H R I h => h.elim ((pi_list hl).run pins s σ H R I) ((pi_tup hl).run pins s σ H R I)⟩

/-- pairs of a column and a fraction -/
inductive Ens (K : PySem.W.Frag) (H : Hp) : List V → List (Nat × Fr) → Prop
  | nil : Ens K H [] []
  | cons {a u : Addr} {c : Nat} {f : Fr} {xs : List V} {es : List (Nat × Fr)} : SqT K H a [.int (c : Int), .ref u] → Pr K H u f.1 f.2 → Ens K H xs es → Ens K H (.ref a :: xs) ((c, f) :: es)
theorem Ens.same {K : PySem.W.Frag} {H H' : Hp} (s : Same H H') : ∀ {xs : List V} {es : List (Nat × Fr)}, Ens K H xs es → Ens K H' xs es
  | _, _, .nil => .nil
  | _, _, .cons h h2 q => .cons (Same.seqT s h) (Same.seqT s h2) (q.same s)
theorem Ens.len {K : PySem.W.Frag} {H : Hp} : ∀ {xs : List V} {es : List (Nat × Fr)}, Ens K H xs es → xs.length = es.length
  | _, _, .nil => rfl
  | _, _, .cons _ _ q => congrArg Nat.succ q.len
theorem Ens.app {K : PySem.W.Frag} {H : Hp} : ∀ {xs ys : List V} {es gs : List (Nat × Fr)}, Ens K H xs es → Ens K H ys gs → Ens K H (xs ++ ys) (es ++ gs)
  | _, _, _, _, .nil, r => r
  | _, _, _, _, .cons h h2 q, r => .cons h h2 (q.app r)
theorem Ens.get {K : PySem.W.Frag} {H : Hp} : ∀ {xs : List V} {es : List (Nat × Fr)} {n : Nat}, Ens K H xs es → n < es.length → ∃ a u c f, xs[n]? = some (.ref a) ∧ es[n]? = some (c, f) ∧ SqT K H a [.int (c : Int), .ref u] ∧ Pr K H u f.1 f.2
  | _, _, _, .nil, h => absurd h (Nat.not_lt_zero _)
  | _, _, 0, .cons h h2 _, _ => ⟨_, _, _, _, rfl, rfl, h, h2⟩
  | _, _, n + 1, .cons _ _ q, h => by
    obtain ⟨a, u, c, f, h1, h2, h3⟩ := q.get (n := n) (Nat.lt_of_succ_lt_succ h)
    exact ⟨a, u, c, f, h1, h2, h3⟩
/-- a row: parts of L -/
def RowV (L : Int) (Xs : List Int) (fs : List Fr) : Prop := Xs.length = fs.length ∧ ∀ (i : Nat) (X : Int) (f : Fr), Xs[i]? = some X → fs[i]? = some f → Va L X f
def sumE (Xs : List Int) (M : Int) (es : List (Nat × Fr)) : Int := (es.map fun p => Xs.getD p.1 0 * num M p.2).sum
theorem sumE_next {Xs : List Int} {M : Int} {es : List (Nat × Fr)} {i : Nat} {p : Nat × Fr} (h : es[i]? = some p) : sumE Xs M (es.take (i + 1)) = sumE Xs M (es.take i) + Xs.getD p.1 0 * num M p.2 := by
  obtain ⟨hi, rfl⟩ := List.getElem?_eq_some_iff.mp h
  unfold sumE
  rw [← List.take_append_getElem hi, List.map_append, List.sum_append]
  simp
/-- terms or givings that fit M -/
def Fits (n : Nat) (M : Int) (es : List (Nat × Fr)) : Prop := es.length ≤ 100 ∧ ∀ p ∈ es, p.1 < n ∧ 1 ≤ p.2.2 ∧ Nat.gcd p.2.1.natAbs p.2.2.natAbs = 1 ∧ p.2.2 ∣ M ∧ (num M p.2).natAbs < 2 ^ 200
theorem sum_bound {A : Nat} {Xs : List Int} {M : Int} (hX : ∀ X ∈ Xs, X.natAbs < 2 ^ 1200) : ∀ {es : List (Nat × Fr)}, (∀ p ∈ es, (num M p.2).natAbs < 2 ^ 200) → (sumE Xs M es).natAbs < 2 ^ (1400 + es.length)
  | [], _ => by
    show (0 : Int).natAbs < _
    exact Nat.two_pow_pos _
  | p :: es, h => by
    have ih := sum_bound (A := A) hX (es := es) fun q hq => h q (List.mem_cons_of_mem _ hq)
    have hx : (Xs.getD p.1 0).natAbs < 2 ^ 1200 := by
      rw [List.getD_eq_getElem?_getD]
      cases e : Xs[p.1]? with
      | none => exact Nat.two_pow_pos _
      | some X => exact hX X (List.mem_of_getElem? e)
    have a : (Xs.getD p.1 0 * num M p.2).natAbs < 2 ^ (1200 + 200) := wide_lt hx (h p List.mem_cons_self)
    have b : (Xs.getD p.1 0 * num M p.2).natAbs < 2 ^ (1400 + es.length) := pow_le a (by omega)
    have c := two_add b ih
    exact pow_le c (by simp only [List.length_cons]; omega)
theorem take100 {α : Type} {cs : List α} (h : cs.length ≤ 100) (i : Nat) : 1400 + (cs.take i).length ≤ 1600 := by
  rw [List.length_take]; omega
def RowOk (K : PySem.W.Frag) (H : Hp) (a : Addr) (L : Int) (Xs : List Int) : Prop := ∃ xs fs, SqT K H a xs ∧ Frs K H xs fs ∧ RowV L Xs fs
def LimR (L : Int) (Xs : List Int) : Prop := 0 < L ∧ L.natAbs < 2 ^ 1000 ∧ ∀ X ∈ Xs, X.natAbs < 2 ^ 1200
def sp_sum (K : PySem.W.Frag) : Sp := fun vs H Q _ => ∃ (a e : Addr) (es : List V) (cs : List (Nat × Fr)) (L M : Int) (Xs : List Int), vs = [.ref a, .ref e] ∧ RowOk K H a L Xs ∧ LimR L Xs ∧ SqT K H e es ∧ Ens K H es cs ∧ Fits Xs.length M cs ∧ 0 < M ∧ M.natAbs < 2 ^ 200 ∧
  ∀ (t : Addr) (f : Fr) H', Same H H' → Pr K H' t f.1 f.2 → Va (L * M) (sumE Xs M cs) f → Q (.ref t) H'
section
variable {P : Program} {w : World} {K : PySem.W.Frag} {mg : Str → Option Value} {base : Heap}
theorem ok_sum_of (T : Txt w K mg) : FnOk P w K mg base CX0 5 T.a_sum_of T.d_sum_of ["row", "entries"] (sp_sum K) := by
  refine T.F_sum_of.ok sc_sum_of (fun vs H Q E h => ?_) (fun cdv A outer s H vs Q E hr h => ?_)
  · obtain ⟨a, e, es, cs, L, M, Xs, rfl, _⟩ := h
    rfl
  · obtain ⟨a, e, es, cs, L, M, Xs, rfl, ⟨xs, fs, ha, hf, lX, rv⟩, ⟨L0, L1, X1⟩, he, hc, ⟨c100, fit⟩, M0, M1, k⟩ := h
    have hr_plus : Room 4 _ := hr
    have G_plus := ok_plus (P := P) (base := base) T
    have hr_times : Room 4 _ := hr
    have G_times := ok_times (P := P) (base := base) T
    have le := hc.len
    have lf := hf.len
    have LM0 : 0 < L * M := Int.mul_pos L0 M0
    have LM1 : (L * M).natAbs < 2 ^ 1200 := wide_lt L1 M1
    refine ⟨_, (pss_cons (ps_set (i := 2) sc_sum_of.nd rfl (Or.inl rfl) (pe_glob (v := .ref T.a_ZERO) (by rfl) T.m_ZERO rfl))
      (pss_cons (ps_for PassesOwn.never rfl (pi_tup (pv 1)) (pg_tup rfl (pgs_cons (pg_name (i := 3) sc_sum_of.nd rfl (Or.inl rfl)) (pgs_cons (pg_name (i := 4) sc_sum_of.nd rfl (Or.inl rfl)) pgs_nil))) (pss_one (ps_if (pt_cmpR (op_neD hr.units) (pe_ix ix_tup (pv 0) (pv 3) (fun _ _ => rfl)) (pe_glob (v := .ref T.a_ZERO) (by rfl) T.m_ZERO rfl) (nomark _)) (pss_one (ps_set (i := 2) sc_sum_of.nd rfl (Or.inl rfl) (pe_call G_plus hr_plus (by rfl) T.m_plus T.F_plus.kp T.B_plus .nil pass0 (pa_cons (pv 2) (pa_cons (pe_call G_times hr_times (by rfl) T.m_times T.F_times.kp T.B_times .nil pass0 (pa_cons (pe_ix ix_tup (pv 0) (pv 3) (fun _ _ => rfl)) (pa_cons (pv 4) pa_nil))) pa_nil))))) pss_nil)))
      (pss_one (ps_ret (pv 2))))), ?_⟩
    refine seq_op fun N hN => ?_
    walk_at "rs"
    refine hN _ _ ?_
    clear hN N
    refine cut_seq (fun σ H2 => ∃ (t : Addr) (f : Fr) (x3 x4 : Option V), σ = [some (.ref a), some (.ref e), some (.ref t), x3, x4] ∧ Same H H2 ∧ Pr K H2 t f.1 f.2 ∧ Va (L * M) (sumE Xs M cs) f) (fun N hN => ?_) ?_
    · refine ⟨_, rfl, e, rfl, ⟨es, he⟩, for_tup (K := K) (a := e) (xs := es) (fun i σ H2 => ∃ (t : Addr) (f : Fr) (x3 x4 : Option V), σ = [some (.ref a), some (.ref e), some (.ref t), x3, x4] ∧ Same H H2 ∧ Pr K H2 t f.1 f.2 ∧ Va (L * M) (sumE Xs M (cs.take i)) f) ⟨_, (0, 1), _, _, rfl, Same.refl _, T.s_ZERO H, Va.zero _⟩ (fun i σ H2 _ ⟨_, _, _, _, _, s2, _⟩ => Same.seqT s2 he) ?_ ?_⟩
      · rintro i y σ H2 hi ⟨t, f, x3, x4, rfl, s2, ht, hv⟩
        obtain ⟨u, v, c, g, eu, ec, hu, hg⟩ := hc.get (n := i) (by have := (List.getElem?_eq_some_iff.mp hi).1; omega)
        obtain rfl : y = .ref u := by rw [eu] at hi; exact (Option.some.inj hi).symm
        obtain ⟨fc, f1, f2, f3, f4⟩ := fit _ (List.mem_of_getElem? ec)
        dsimp only at fc f1 f2 f3 f4
        have en := sumE_next (Xs := Xs) (M := M) ec
        obtain ⟨r, h, xr, hr2, hp⟩ := hf.get (n := c) (by omega)
        have eX : Xs[c]? = some (Xs.getD c 0) := by rw [List.getD_eq_getElem?_getD, List.getElem?_eq_getElem (by omega)]; rfl
        have va := rv c _ h eX hr2
        have vg := num_va f1 f2 f3
        have bX := X1 _ (List.mem_of_getElem? eX)
        refine ⟨u, _, rfl, Same.seqT s2 hu, rfl, ?_⟩
        unfold gCons gNil
        walk_at "rs"
        refine ⟨_, _, ⟨rfl, rfl⟩, _, _, rfl, rfl, _, (c : Int), rfl, Same.seqT s2 ha, _, at_ofN rfl xr, .tuple [.int h.1, .int h.2], .tuple [.int 0, .int 1], dp_pair (Same.seqT s2 hp), dp_pair (T.s_ZERO H2), by rfl, by decide +kernel, _, rfl, ?_⟩
        rw [eqv_zero, en]
        refine ite2 (fun nz => ?_) (fun z => ?_)
        · have lX' : (sumE Xs M (cs.take i)).natAbs < 2 ^ 1600 := pow_le (sum_bound (A := 0) X1 fun p hp => (fit p (List.mem_of_mem_take hp)).2.2.2.2) (take100 c100 i)
          obtain ⟨vm, m0⟩ := va.times vg
          obtain ⟨vp, p0⟩ := hv.plus vm
          have b1 : h.1.natAbs < 2 ^ 4000 := pow_le (Nat.lt_of_le_of_lt (va.num L0) bX) (by decide)
          have b2 : h.2.natAbs < 2 ^ 4000 := pow_le (Nat.lt_of_le_of_lt (va.den L0) L1) (by decide)
          have b3 : g.1.natAbs < 2 ^ 4000 := pow_le (Nat.lt_of_le_of_lt (vg.num M0) f4) (by decide)
          have b4 : g.2.natAbs < 2 ^ 4000 := pow_le (Nat.lt_of_le_of_lt (vg.den M0) M1) (by decide)
          have b5 : f.1.natAbs < 2 ^ 4000 := pow_le (Nat.lt_of_le_of_lt (hv.num LM0) lX') (by decide)
          have b6 : f.2.natAbs < 2 ^ 4000 := pow_le (Nat.lt_of_le_of_lt (hv.den LM0) LM1) (by decide)
          have bXY : (Xs.getD c 0 * num M g).natAbs < 2 ^ (1200 + 200) := wide_lt bX f4
          have b7 := pow_le (b := 4000) (Nat.lt_of_le_of_lt (vm.num LM0) bXY) (by decide)
          have b8 := pow_le (b := 4000) (Nat.lt_of_le_of_lt (vm.den LM0) LM1) (by decide)
          refine ⟨_, _, rfl, Same.seqT s2 ha, _, at_ofN rfl xr, r, v, h.1, h.2, g.1, g.2, rfl, Same.seqT s2 hp, Same.seqT s2 hg, b1, b2, b3, b4, m0, fun t2 H3 s3 _ h3 => ⟨t, t2, f.1, f.2, _, _, rfl, Same.seqT s3 ht, .inl (.inl h3), b5, b6, b7, b8, p0, fun t4 H4 s4 _ h4 => ⟨t4, _, _, _, ⟨rfl, rfl, rfl⟩, Same.trans s2 (Same.trans s3 s4), .inl (.inl h4), vp⟩⟩⟩
        · have hz : (decide (h.1 = 0) && decide (h.2 = 1)) = true := by
            cases e1 : (decide (h.1 = 0) && decide (h.2 = 1)) with
            | true => rfl
            | false => exact absurd (by rw [e1]; rfl) z
          rw [Bool.and_eq_true, decide_eq_true_iff, decide_eq_true_iff] at hz
          have e0 : Xs.getD c 0 = 0 := by
            have := va.2.2
            rw [hz.1, hz.2, Int.zero_mul, Int.mul_one] at this
            exact this.symm
          rw [e0, Int.zero_mul, Int.add_zero]
          exact ⟨t, f, _, _, ⟨rfl, rfl, rfl⟩, s2, ht, hv⟩
      · rintro σ H2 ⟨t, f, x3, x4, rfl, s2, ht, hv⟩
        rw [le, List.take_length] at hv
        exact hN _ _ ⟨_, _, _, _, rfl, s2, ht, hv⟩
    · rintro σ H2 ⟨t, f, x3, x4, rfl, s2, ht, hv⟩
      walk_at "rs"
      exact k t f H2 s2 ht hv
end
end LK

set_option Elab.async false
set_option linter.all false
set_option maxRecDepth 100000
namespace LK
open PySem PySem.Spec PyProof.Rows L2
local macro_rules | `(tactic| walk_at "rs") => `(tactic| simp only [cxK, cxNK, tCallZ, tAsg, tOp, rI0, rS0, rB0, rI, rU, tUn, rEq, rNe, rIxL, rIxT, rIxS, rSetL, rSlLU, rSlS, rSlU, rCatL, rCatU, rRepL, rIn, tVar, tC, gName, gSub, tIfS, tTest, tB, tAnd, tOr, tNot, tNotV, tAndV, tOrV, tIf, tCall, tCons, tNil, tCB, tDrop, tRet, tRetN, tNext, tLstU, tTupU, tM0, tM1, tPar, tPar3, tAug, ipI, tBM, tBM0, rAppend, rPop, tBreak, tCont, tChain, tSl, tPart, tNoPart, L2.start, List.map, List.length_cons, List.length_nil, List.replicate, List.cons_append, List.nil_append, List.append_nil, List.getElem?_cons_zero, List.getElem?_cons_succ, List.set_cons_zero, List.set_cons_succ, Option.some.injEq, V.int.injEq, V.ref.injEq, V.str.injEq, V.bl.injEq, exists_eq_left', exists_eq_left, exists_and_left, decide_eq_true_eq, List.cons.injEq, and_true, true_and, scal, Bool.not_eq_true', decide_eq_false_iff_not, Nat.zero_add, Nat.reduceAdd, Nat.reduceSub, reduceCtorEq, false_and, exists_false, false_or, or_false, CPow, CPowW, CMul, CDiv, Int.reduceToNat, ↓reduceIte, wipe, sw, List.nil_append, List.singleton_append])
local macro_rules | `(tactic| walk_at "st") => `(tactic| (refine seq_op fun N hN => ?_; walk_at "rs"))
local macro_rules | `(tactic| walk_at "sd") => `(tactic| first | assumption | decide | omega)
local macro_rules | `(tactic| walk_at "rd") => `(tactic| repeat (first
  | refine ⟨_, SqL.of (by assumption), ?_⟩ | refine ⟨_, SqL.of upd_same, ?_⟩ | refine ⟨_, .inl (SqL.of (by assumption)), ?_⟩ | refine ⟨_, (by assumption : _ = some (HO.lst _)), ?_⟩ | refine ⟨_, upd_same, ?_⟩
  | refine ⟨_, rfl, ?_⟩ | refine And.intro (by walk_at "sd") ?_))

theorem Ens.upd {K : PySem.W.Frag} {H : Hp} {p : Addr} {ys : List V} {o : HO} (hp : H p = some (.lst ys)) : ∀ {xs : List V} {es : List (Nat × Fr)}, Ens K H xs es → Ens K (L2.upd H p o) xs es
  | _, _, .nil => .nil
  | _, _, .cons h h2 q => .cons (seqT_upd hp h) (seqT_upd hp h2) (q.upd hp)
/-- a comprehension whose items are told by R -/
theorem lc_acc {J : It} {n : Nat} {G : Hp → Prop} {Y : Nat → Hp → V → Hp → Prop} (w : Walk J n G Y) {g : TG} {te : TE} {vs : List Nat} {σ : L2.St} {H1 : Hp} {D : Addr} {Qd : Hp → Prop} (R : Nat → Hp → List V → Prop) (hD : H1 D = none) (hn : n ≤ 1000000)
    (mono : ∀ i H H' ys, Same H H' → R i H ys → R i H' ys) (up : ∀ i H ys zs o, H D = some (.lst zs) → R i H ys → R i (L2.upd H D o) ys) (r0 : R 0 (L2.upd H1 D (.lst [])) []) (hG : ∀ H, Same H1 H → G H)
    (hs : ∀ i x H H', i < n → Same H1 H → Y i H x H' → g x (wipe σ vs) H' fun σ2 H2 => Same H H2 ∧ wipe σ2 vs = wipe σ vs ∧ ∀ Q2 : V → Hp → Prop, (∀ v H3, Same H2 H3 → (∀ ys, R i H3 ys → R (i + 1) H3 (ys ++ [v])) → Q2 v H3) → te σ2 H2 Q2)
    (gm : ∀ x σ0 H0 Q0 Q1, (∀ σ2 H2, Q0 σ2 H2 → Q1 σ2 H2) → g x σ0 H0 Q0 → g x σ0 H0 Q1)
    (hq : ∀ H' ys, Same H1 H' → H' D = some (.lst ys) → ys.length = n → R n H' ys → Qd H') :
    ∃ W : Nat → Nat → Hp → Prop, (∃ m, W 0 m (L2.upd H1 D (.lst []))) ∧ ∀ i m H, W i m H →
      (J.stop i H ∧ Qd H) ∨ (J.go i H ∧ ∃ Nx : Hp → Prop, (∀ H', Nx H' → ∃ m', m' < m ∧ W (i + 1) m' H') ∧ ∀ x H', J.yld i H x H' → g x (wipe σ vs) H' fun σ2 H2 => wipe σ2 vs = wipe σ vs ∧ tYes σ2 H2 fun b H3 =>
        if b = true then te σ2 H3 fun y H4 => ∃ acc, H4 D = some (.lst acc) ∧ acc.length < sizeLine ∧ Nx (L2.upd H4 D (.lst (acc ++ [y]))) else Nx H3) := by
  have keep : ∀ {H : Hp} {o : HO}, Same H1 H → Same H1 (L2.upd H D o) := fun s a u e => by
    rw [upd_ne (ne_of_none e hD)]; exact s _ _ e
  refine lc_it w (fun i H => Same H1 H ∧ ∃ ys, H D = some (.lst ys) ∧ ys.length = i ∧ R i H ys) ⟨keep (Same.refl _), [], upd_same, rfl, r0⟩ (fun i H _ h => hG H h.1) (fun i x H H' hi ⟨s1, ys, h1, hl, hr⟩ hY => ?_) (fun H ⟨s1, ys, h1, hl, hr⟩ => hq H ys s1 h1 hl hr)
  refine gm _ _ _ _ _ (fun σ2 H2 ⟨s2, e2, kq⟩ => ⟨e2, ?_⟩) (hs i x H H' hi s1 hY)
  simp only [tYes, eq_self, ite_true]
  refine kq _ fun v H3 s3 st => ?_
  have s13 := Same.trans s2 s3
  have hD3 := s13 _ _ h1
  refine ⟨ys, hD3, ?_, keep (Same.trans s1 s13), ys ++ [v], upd_same, by rw [List.length_append, hl]; rfl, up _ _ _ _ _ hD3 (st ys (mono _ _ _ _ s13 hr))⟩
  rw [hl]
  exact Nat.lt_of_lt_of_le (Nat.lt_of_lt_of_le hi hn) (by decide)
/-! ### units -/
structure Un where
  terms : List (Nat × Fr)
  shift : Fr
  giv : List (Nat × Fr)
def UnitAt (K : PySem.W.Frag) (H : Hp) (v : V) (u : Un) : Prop := ∃ (ua ta sa ga : Addr) (xs ys : List V), v = .ref ua ∧ SqT K H ua [.ref ta, .ref sa, .ref ga] ∧ SqT K H ta xs ∧ Ens K H xs u.terms ∧ Pr K H sa u.shift.1 u.shift.2 ∧ SqT K H ga ys ∧ Ens K H ys u.giv
theorem UnitAt.same {K : PySem.W.Frag} {H H' : Hp} (s : Same H H') {v : V} {u : Un} : UnitAt K H v u → UnitAt K H' v u := fun ⟨ua, ta, sa, ga, xs, ys, h1, h2, h3, h4, h5, h6, h7⟩ => ⟨ua, ta, sa, ga, xs, ys, h1, Same.seqT s h2, Same.seqT s h3, h4.same s, Same.seqT s h5, Same.seqT s h6, h7.same s⟩
/-- what a unit's value is, in parts of L * M -/
def zI (L M : Int) (Xs : List Int) (u : Un) : Int := num M u.shift * L + sumE Xs M u.terms
def low (f : Fr) : Prop := 1 ≤ f.2 ∧ Nat.gcd f.1.natAbs f.2.natAbs = 1
/-- the unit fits: M for its terms and shift, W for what it gives -/
structure UFit (n : Nat) (M W : Int) (u : Un) : Prop where
  M0 : 0 < M
  M1 : M.natAbs < 2 ^ 200
  W0 : 0 < W
  W1 : W.natAbs < 2 ^ 800
  terms : Fits n M u.terms
  sl : low u.shift
  sd : u.shift.2 ∣ M
  sb : (num M u.shift).natAbs < 2 ^ 200
  gl : u.giv.length ≤ 100
  giv : ∀ p ∈ u.giv, p.1 < n ∧ low p.2 ∧ M * p.2.2 ∣ W ∧ p.2.1.natAbs < 2 ^ 100
def gI (W M Z : Int) (f : Fr) : Int := Z * (f.1 * (W / (M * f.2)))
def giftI (L M W : Int) (Xs : List Int) (u : Un) : List (Nat × Int) := if 0 < zI L M Xs u then u.giv.map fun p => (p.1, gI W M (zI L M Xs u) p.2) else []
/-- gifts, in parts of L -/
inductive GV (L : Int) : List (Nat × Int) → List (Nat × Fr) → Prop
  | nil : GV L [] []
  | cons {c : Nat} {X : Int} {f : Fr} {gi : List (Nat × Int)} {gs : List (Nat × Fr)} : Va L X f → GV L gi gs → GV L ((c, X) :: gi) ((c, f) :: gs)
theorem GV.app {L : Int} : ∀ {gi gj : List (Nat × Int)} {gs hs : List (Nat × Fr)}, GV L gi gs → GV L gj hs → GV L (gi ++ gj) (gs ++ hs)
  | _, _, _, _, .nil, r => r
  | _, _, _, _, .cons h q, r => .cons h (q.app r)
theorem GV.len {L : Int} : ∀ {gi : List (Nat × Int)} {gs : List (Nat × Fr)}, GV L gi gs → gi.length = gs.length
  | _, _, .nil => rfl
  | _, _, .cons _ q => congrArg Nat.succ q.len
theorem gift_va {L M W Z : Int} {z f : Fr} (hz : Va (L * M) Z z) (hf : low f) (hd : M * f.2 ∣ W) : Va (L * W) (gI W M Z f) (frP (z.1 * f.1) (z.2 * f.2), frQ (z.1 * f.1) (z.2 * f.2)) ∧ z.2 * f.2 ≠ 0 := by
  have vf : Va f.2 f.1 f := ⟨hf.1, hf.2, rfl⟩
  obtain ⟨v, n0⟩ := hz.times vf
  refine ⟨?_, n0⟩
  have s := v.scale (W / (M * f.2))
  have e1 : L * M * f.2 * (W / (M * f.2)) = L * W := by
    rw [Int.mul_assoc L M, Int.mul_assoc L, Int.mul_ediv_cancel' hd]
  have e2 : Z * f.1 * (W / (M * f.2)) = gI W M Z f := Int.mul_assoc _ _ _
  rw [e1, e2] at s
  exact s
theorem zI_bound {L M : Int} {Xs : List Int} {u : Un} (hL : L.natAbs < 2 ^ 1000) (hX : ∀ X ∈ Xs, X.natAbs < 2 ^ 1200) (ht : ∀ p ∈ u.terms, (num M p.2).natAbs < 2 ^ 200) (hl : u.terms.length ≤ 100) (hs : (num M u.shift).natAbs < 2 ^ 200) : (zI L M Xs u).natAbs < 2 ^ 1501 := by
  have a : (num M u.shift * L).natAbs < 2 ^ (200 + 1000) := wide_lt hs hL
  have b := sum_bound (A := 0) hX ht
  exact two_add (pow_le a (by decide)) (pow_le b (by omega))
end LK

set_option Elab.async false
set_option linter.all false
set_option maxRecDepth 100000
namespace LK
open PySem PySem.Spec PyProof.Rows L2
local macro_rules | `(tactic| walk_at "rs") => `(tactic| simp only [cxK, cxNK, tCallZ, tAsg, tOp, rI0, rS0, rB0, rI, rU, tUn, rEq, rNe, rIxL, rIxT, rIxS, rSetL, rSlLU, rSlS, rSlU, rCatL, rCatU, rRepL, rIn, tVar, tC, gName, gSub, tIfS, tTest, tB, tAnd, tOr, tNot, tNotV, tAndV, tOrV, tIf, tCall, tCons, tNil, tCB, tDrop, tRet, tRetN, tNext, tLstU, tTupU, tM0, tM1, tPar, tPar3, tAug, ipI, tBM, tBM0, rAppend, rPop, tBreak, tCont, tChain, tSl, tPart, tNoPart, L2.start, List.map, List.length_cons, List.length_nil, List.replicate, List.cons_append, List.nil_append, List.append_nil, List.getElem?_cons_zero, List.getElem?_cons_succ, List.set_cons_zero, List.set_cons_succ, Option.some.injEq, V.int.injEq, V.ref.injEq, V.str.injEq, V.bl.injEq, exists_eq_left', exists_eq_left, exists_and_left, decide_eq_true_eq, List.cons.injEq, and_true, true_and, scal, Bool.not_eq_true', decide_eq_false_iff_not, Nat.zero_add, Nat.reduceAdd, Nat.reduceSub, reduceCtorEq, false_and, exists_false, false_or, or_false, CPow, CPowW, CMul, CDiv, Int.reduceToNat, ↓reduceIte, wipe, sw, List.nil_append, List.singleton_append])
local macro_rules | `(tactic| walk_at "st") => `(tactic| (refine seq_op fun N hN => ?_; walk_at "rs"))
local macro_rules | `(tactic| walk_at "sd") => `(tactic| first | assumption | decide | omega)
local macro_rules | `(tactic| walk_at "rd") => `(tactic| repeat (first
  | refine ⟨_, SqL.of (by assumption), ?_⟩ | refine ⟨_, SqL.of upd_same, ?_⟩ | refine ⟨_, .inl (SqL.of (by assumption)), ?_⟩ | refine ⟨_, (by assumption : _ = some (HO.lst _)), ?_⟩ | refine ⟨_, upd_same, ?_⟩
  | refine ⟨_, rfl, ?_⟩ | refine And.intro (by walk_at "sd") ?_))

section
variable {P : Program} {w : World} {K : PySem.W.Frag} {mg : Str → Option Value} {base : Heap}
theorem none_of {H H' : Hp} {p : Addr} (s : Same H H') (h : H' p = none) : H p = none := by
  cases e : H p with
  | none => rfl
  | some o => rw [s _ _ e] at h; cases h
def sp_gifts (K : PySem.W.Frag) : Sp := fun vs H Q _ => ∃ (a : Addr) (v : V) (u : Un) (L M W : Int) (Xs : List Int), vs = [.ref a, v] ∧ RowOk K H a L Xs ∧ LimR L Xs ∧ UnitAt K H v u ∧ UFit Xs.length M W u ∧
  ∀ (p : Addr) (xs : List V) (gs : List (Nat × Fr)) H', Same H H' → H p = none → H' p = some (.lst xs) → Ens K H' xs gs → GV (L * W) (giftI L M W Xs u) gs → Q (.ref p) H'
theorem ok_unit_gifts (T : Txt w K mg) : FnOk P w K mg base CX0 6 T.a_unit_gifts T.d_unit_gifts ["row", "unit"] (sp_gifts K) := by
  refine T.F_unit_gifts.ok sc_unit_gifts (fun vs H Q E h => ?_) (fun cdv A outer s H vs Q E hr h => ?_)
  · obtain ⟨a, v, u, L, M, W, Xs, rfl, _⟩ := h
    rfl
  · obtain ⟨a, v, u, L, M, W, Xs, rfl, hrow, hlim, hu, uf, k⟩ := h
    have hr_plus : Room 4 _ := hr.mono (by decide)
    have G_plus := ok_plus (P := P) (base := base) T
    have hr_times : Room 4 _ := hr.mono (by decide)
    have G_times := ok_times (P := P) (base := base) T
    have hr_sum_of : Room 5 _ := hr
    have G_sum_of := ok_sum_of (P := P) (base := base) T
    have hr_below : Room 1 _ := hr.mono (by decide)
    have G_below := ok_below (P := P) (base := base) T
    obtain ⟨ua, ta, sa, ga, xs, ys, rfl, hua, hta, hte, hsa, hga, hge⟩ := id hu
    obtain ⟨L0, L1, X1⟩ := id hlim
    have LM0 : 0 < L * M := Int.mul_pos L0 uf.M0
    have LM1 : (L * M).natAbs < 2 ^ 1200 := wide_lt L1 uf.M1
    refine ⟨_, (pss_cons (ps_asg (pv 1) (pg_tup rfl (pgs_cons (pg_name (i := 2) sc_unit_gifts.nd rfl (Or.inl rfl)) (pgs_cons (pg_name (i := 3) sc_unit_gifts.nd rfl (Or.inl rfl)) (pgs_cons (pg_name (i := 4) sc_unit_gifts.nd rfl (Or.inl rfl)) pgs_nil)))))
      (pss_cons (ps_set (i := 5) sc_unit_gifts.nd rfl (Or.inr rfl) (pe_call G_plus hr_plus (by rfl) T.m_plus T.F_plus.kp T.B_plus .nil pass0 (pa_cons (pv 3) (pa_cons (pe_call G_sum_of hr_sum_of (by rfl) T.m_sum_of T.F_sum_of.kp T.B_sum_of .nil pass0 (pa_cons (pv 0) (pa_cons (pv 2) pa_nil))) pa_nil))))
      (pss_cons (ps_if (pt_not (pt_val (pe_call G_below hr_below (by rfl) T.m_below T.F_below.kp T.B_below .nil pass0 (pa_cons (pe_glob (v := .ref T.a_ZERO) (by rfl) T.m_ZERO rfl) (pa_cons (pv 5) pa_nil))))) (pss_one (ps_ret (pe_lstU pa_nil))) pss_nil)
      (pss_one (ps_ret (pe_lc (own := [("column", 6), ("factor", 7)]) (g := gTup K 2 (gCons (gName 6) (gCons (gName 7) (gNil)))) (tt := tYes) rfl sc_unit_gifts.nd (pi_tup (pv 4)) (blkOk_by (own := [("column", 6), ("factor", 7)]) (N := N_unit_gifts) (sc := defScope s_unit_gifts) (by decide +kernel)) (fun _ _ _ _ _ => by exact (pg_tup rfl (pgs_cons (pg_name (i := 6) sc_unit_gifts.nd rfl (Or.inl rfl)) (pgs_cons (pg_name (i := 7) sc_unit_gifts.nd rfl (Or.inl rfl)) pgs_nil)))) (fun _ _ _ _ _ => pts_nil) (fun _ _ _ _ _ => (pe_tupU (pa_cons (pv 6) (pa_cons (pe_call G_times hr_times (by rfl) T.m_times T.F_times.kp T.B_times .nil pass0 (pa_cons (pv 5) (pa_cons (pv 7) pa_nil))) pa_nil)))))))))), ?_⟩
    refine seq_op fun N hN => ?_
    walk_at "rs"
    refine ⟨_, _, rfl, hua, rfl, ?_⟩
    unfold gCons gNil
    walk_at "rs"
    refine ⟨_, _, ⟨rfl, rfl⟩, _, _, rfl, _, _, rfl, rfl, hN _ _ ?_⟩
    clear hN N
    have vsh := num_va uf.sl.1 uf.sl.2 uf.sd
    have vsL := vsh.scale L
    rw [Int.mul_comm M L] at vsL
    have b1 : u.shift.1.natAbs < 2 ^ 4000 := pow_le (Nat.lt_of_le_of_lt (vsh.num uf.M0) uf.sb) (by decide)
    have b2 : u.shift.2.natAbs < 2 ^ 4000 := pow_le (Nat.lt_of_le_of_lt (vsh.den uf.M0) uf.M1) (by decide)
    have bE := sum_bound (A := 0) X1 fun p hp => (uf.terms.2 p hp).2.2.2.2
    have bE' : (sumE Xs M u.terms).natAbs < 2 ^ 1600 := pow_le bE (by have := uf.terms.1; omega)
    have bZ : (zI L M Xs u).natAbs < 2 ^ 1501 := zI_bound L1 X1 (fun p hp => (uf.terms.2 p hp).2.2.2.2) uf.terms.1 uf.sb
    refine seq_op fun N hN => ?_
    walk_at "rs"
    refine ⟨a, ta, xs, u.terms, L, M, Xs, rfl, hrow, hlim, hta, hte, uf.terms, uf.M0, uf.M1, fun t f H1 s1 ht hv => ?_⟩
    obtain ⟨vz, z0⟩ := vsL.plus hv
    have b3 : f.1.natAbs < 2 ^ 4000 := pow_le (a := 1600) (Nat.lt_of_le_of_lt (hv.num LM0) bE') (by decide)
    have b4 : f.2.natAbs < 2 ^ 4000 := pow_le (Nat.lt_of_le_of_lt (hv.den LM0) LM1) (by decide)
    refine ⟨sa, t, _, _, f.1, f.2, rfl, Same.seqT s1 hsa, ht, b1, b2, b3, b4, z0, fun t2 H2 s2 _ h2 => hN _ _ ?_⟩
    clear hN N
    have s12 := Same.trans s1 s2
    generalize hz1 : (frP (u.shift.1 * f.2 + f.1 * u.shift.2) (u.shift.2 * f.2)) = z1 at h2 vz
    generalize hz2 : (frQ (u.shift.1 * f.2 + f.1 * u.shift.2) (u.shift.2 * f.2)) = z2 at h2 vz
    have vz : Va (L * M) (zI L M Xs u) (z1, z2) := vz
    have c1 : z1.natAbs < 2 ^ 4000 := pow_le (Nat.lt_of_le_of_lt (vz.num LM0) bZ) (by decide)
    have c2 : z2.natAbs < 2 ^ 4000 := pow_le (Nat.lt_of_le_of_lt (vz.den LM0) LM1) (by decide)
    have hz := vz.pos LM0
    refine seq_op fun N hN => ?_
    walk_at "rs"
    have o4 : (1 : Int).natAbs < 2 ^ 4000 := pow_le (a := 1) (by decide) (by decide)
    have n4 : (0 : Int).natAbs < 2 ^ 4000 := Nat.two_pow_pos _
    refine ⟨_, _, ⟨rfl, rfl⟩, 0, 1, T.s_ZERO H2, z1, z2, .inl (.inl h2), n4, o4, c1, c2, ite2 (fun nz => ⟨by decide, fun p H3 s3 h0 h3 => ?_⟩) (fun pz => hN _ _ ?_)⟩
    · have e : giftI L M W Xs u = [] := if_neg fun h => nz (by
        have := hz.mpr h
        dsimp only at this
        rw [Int.zero_mul, Int.mul_one]; exact this)
      exact k p [] [] H3 (Same.trans s12 s3) (none_of s12 h0) h3 .nil (by rw [e]; exact .nil)
    clear hN N
    have zp : 0 < zI L M Xs u := hz.mp (by
      have : 0 * z2 < z1 * 1 := Decidable.not_not.mp pz
      rw [Int.zero_mul, Int.mul_one] at this; exact this)
    have hz2' : Pr K H2 t2 z1 z2 := .inl (.inl h2)
    have le := hge.len
    walk_at "rs"
    refine ⟨_, rfl, ga, rfl, ⟨ys, Same.seqT s12 hga⟩, fun D hD => lc_acc walk_tup (fun i H ys' => ∃ gs, Ens K H ys' gs ∧ GV (L * W) ((u.giv.take i).map fun (p : Nat × Fr) => (p.1, gI W M (zI L M Xs u) p.2)) gs) hD (by have := uf.gl; omega) (fun i H H' ys' s ⟨gs, h1, h2⟩ => ⟨gs, h1.same s, h2⟩) (fun i H ys' zs o hp ⟨gs, h1, h2⟩ => ⟨gs, h1.upd hp, h2⟩) ⟨[], .nil, .nil⟩ (fun H s => Same.seqT (Same.trans s12 s) hga) (fun i x H3 H4 hi s3 y => ?_) ?_ (fun H3 ys' s3 h3 hl ⟨gs, h4, h5⟩ => ?_)⟩
    · obtain ⟨rfl, hx⟩ := y
      obtain ⟨u1, v1, c, f, e1, e2, h1, h4⟩ := hge.get (n := i) (by omega)
      obtain rfl : x = .ref u1 := by rw [e1] at hx; exact (Option.some.inj hx).symm
      obtain ⟨fc, fl, fd, fb⟩ := uf.giv _ (List.mem_of_getElem? e2)
      dsimp only at fc fl fd fb
      obtain ⟨vg, g0⟩ := gift_va vz fl fd
      have s13 := Same.trans s12 s3
      have w0 := uf.W0
      have fn : f.2.natAbs ≤ W.natAbs := Nat.le_of_dvd (by omega) (Int.natAbs_dvd_natAbs.mpr (Int.dvd_trans ⟨M, Int.mul_comm _ _⟩ fd))
      have d1 : f.1.natAbs < 2 ^ 4000 := pow_le fb (by decide)
      have d2 : f.2.natAbs < 2 ^ 4000 := pow_le (Nat.lt_of_le_of_lt fn uf.W1) (by decide)
      refine ⟨u1, [.int (c : Int), .ref v1], rfl, Same.seqT s13 h1, rfl, .int (c : Int), [.ref v1], rfl, .ref v1, [], rfl, rfl, Same.refl _, rfl, fun Q2 hq => ?_⟩
      walk_at "rs"
      refine ⟨t2, v1, z1, z2, f.1, f.2, rfl, Same.seqT s3 hz2', Same.seqT s13 h4, c1, c2, d1, d2, g0, fun t4 H5 s5 _ h5 => ⟨by decide, fun p H6 s6 _ h6 => hq (.ref p) H6 (Same.trans s5 s6) fun ys' ⟨gs, g1, g2⟩ => ⟨gs ++ [(c, (frP (z1 * f.1) (z2 * f.2), frQ (z1 * f.1) (z2 * f.2)))], g1.app (.cons (.inl (.inl h6)) (.inl (.inl (s6 _ _ h5))) .nil), ?_⟩⟩⟩
      obtain ⟨hi2, e3⟩ := List.getElem?_eq_some_iff.mp e2
      rw [← List.take_append_getElem hi2, List.map_append, e3]
      exact g2.app (.cons vg .nil)
    · exact fun x σ0 H0 Q0 Q1 h ⟨a, xs, e1, e2, e3, v, r, e4, v2, r2, e5, e6, q⟩ => ⟨a, xs, e1, e2, e3, v, r, e4, v2, r2, e5, e6, h _ _ q⟩
    · have e : giftI L M W Xs u = u.giv.map fun p => (p.1, gI W M (zI L M Xs u) p.2) := if_pos zp
      rw [le, List.take_length] at h5
      exact k D ys' gs H3 (Same.trans s12 s3) (none_of s12 hD) h3 h4 (by rw [e]; exact h5)
end
end LK

set_option Elab.async false
set_option linter.all false
set_option maxRecDepth 100000
namespace LK
open PySem PySem.Spec PyProof.Rows L2
local macro_rules | `(tactic| walk_at "rs") => `(tactic| simp only [cxK, cxNK, tCallZ, tAsg, tOp, rI0, rS0, rB0, rI, rU, tUn, rEq, rNe, rIxL, rIxT, rIxS, rSetL, rSlLU, rSlS, rSlU, rCatL, rCatU, rRepL, rIn, tVar, tC, gName, gSub, tIfS, tTest, tB, tAnd, tOr, tNot, tNotV, tAndV, tOrV, tIf, tCall, tCons, tNil, tCB, tDrop, tRet, tRetN, tNext, tLstU, tTupU, tM0, tM1, tPar, tPar3, tAug, ipI, tBM, tBM0, rAppend, rPop, tBreak, tCont, tChain, tSl, tPart, tNoPart, L2.start, List.map, List.length_cons, List.length_nil, List.replicate, List.cons_append, List.nil_append, List.append_nil, List.getElem?_cons_zero, List.getElem?_cons_succ, List.set_cons_zero, List.set_cons_succ, Option.some.injEq, V.int.injEq, V.ref.injEq, V.str.injEq, V.bl.injEq, exists_eq_left', exists_eq_left, exists_and_left, decide_eq_true_eq, List.cons.injEq, and_true, true_and, scal, Bool.not_eq_true', decide_eq_false_iff_not, Nat.zero_add, Nat.reduceAdd, Nat.reduceSub, reduceCtorEq, false_and, exists_false, false_or, or_false, CPow, CPowW, CMul, CDiv, Int.reduceToNat, ↓reduceIte, wipe, sw, List.nil_append, List.singleton_append])
local macro_rules | `(tactic| walk_at "st") => `(tactic| (refine seq_op fun N hN => ?_; walk_at "rs"))
local macro_rules | `(tactic| walk_at "sd") => `(tactic| first | assumption | decide | omega)
local macro_rules | `(tactic| walk_at "rd") => `(tactic| repeat (first
  | refine ⟨_, SqL.of (by assumption), ?_⟩ | refine ⟨_, SqL.of upd_same, ?_⟩ | refine ⟨_, .inl (SqL.of (by assumption)), ?_⟩ | refine ⟨_, (by assumption : _ = some (HO.lst _)), ?_⟩ | refine ⟨_, upd_same, ?_⟩
  | refine ⟨_, rfl, ?_⟩ | refine And.intro (by walk_at "sd") ?_))

theorem Frs.set {K : PySem.W.Frag} {H : Hp} {a : Addr} {f : Fr} (ha : Pr K H a f.1 f.2) : ∀ {xs : List V} {fs : List Fr} (c : Nat), Frs K H xs fs → Frs K H (xs.set c (.ref a)) (fs.set c f)
  | _, _, _, .nil => .nil
  | _, _, 0, .cons _ q => .cons ha q
  | _, _, c + 1, .cons h q => .cons h (Frs.set ha c q)
def addG (Xs : List Int) (p : Nat × Int) : List Int := Xs.set p.1 (Xs.getD p.1 0 + p.2)
theorem addG_len (Xs : List Int) (p : Nat × Int) : (addG Xs p).length = Xs.length := List.length_set
theorem foldG_len : ∀ (gi : List (Nat × Int)) (Xs : List Int), (gi.foldl addG Xs).length = Xs.length
  | [], _ => rfl
  | p :: gi, Xs => (foldG_len gi _).trans (addG_len Xs p)
theorem RowV.upd {L : Int} {Xs : List Int} {fs : List Fr} {c : Nat} {Y : Int} {f : Fr} (r : RowV L Xs fs) (h : Va L Y f) : RowV L (Xs.set c Y) (fs.set c f) := by
  refine ⟨by rw [List.length_set, List.length_set, r.1], fun i X g h1 h2 => ?_⟩
  rw [List.getElem?_set] at h1 h2
  by_cases e : c = i
  · rw [if_pos e] at h1 h2
    split at h1
    · split at h2
      · cases h1; cases h2; exact h
      · cases h2
    · cases h1
  · rw [if_neg e] at h1 h2
    exact r.2 i X g h1 h2
theorem GV.get {L : Int} : ∀ {gi : List (Nat × Int)} {gs : List (Nat × Fr)} {n : Nat} {c : Nat} {f : Fr}, GV L gi gs → gs[n]? = some (c, f) → ∃ X, gi[n]? = some (c, X) ∧ Va L X f
  | _, _, 0, _, _, .cons h _, e => by cases e; exact ⟨_, rfl, h⟩
  | _, _, n + 1, _, _, .cons _ q, e => q.get (n := n) e
theorem foldG_next {Xs : List Int} {gi : List (Nat × Int)} {i : Nat} {p : Nat × Int} (h : gi[i]? = some p) : (gi.take (i + 1)).foldl addG Xs = addG ((gi.take i).foldl addG Xs) p := by
  obtain ⟨hi, rfl⟩ := List.getElem?_eq_some_iff.mp h
  rw [← List.take_append_getElem hi, List.foldl_append]
  rfl
theorem addG_bound {Xs : List Int} {p : Nat × Int} {i k : Nat} (hk : k ≤ i) (hX : ∀ X ∈ Xs, X.natAbs < 2 ^ i) (hp : p.2.natAbs < 2 ^ k) : ∀ X ∈ addG Xs p, X.natAbs < 2 ^ (i + 1) := by
  intro X h
  have g : (Xs.getD p.1 0).natAbs < 2 ^ i := by
    rw [List.getD_eq_getElem?_getD]
    cases e : Xs[p.1]? with
    | none => exact Nat.two_pow_pos _
    | some X => exact hX X (List.mem_of_getElem? e)
  rcases List.mem_or_eq_of_mem_set h with h | rfl
  · exact pow_le (hX X h) (by omega)
  · exact two_add g (pow_le hp hk)
theorem foldG_bound {k : Nat} : ∀ {gi : List (Nat × Int)} {Xs : List Int} {i : Nat}, k ≤ i → (∀ X ∈ Xs, X.natAbs < 2 ^ i) → (∀ p ∈ gi, p.2.natAbs < 2 ^ k) → ∀ X ∈ gi.foldl addG Xs, X.natAbs < 2 ^ (i + gi.length)
  | [], _, _, _, hX, _ => hX
  | p :: gi, Xs, i, hk, hX, hp => by
    have ih := foldG_bound (gi := gi) (Xs := addG Xs p) (i := i + 1) (by omega) (addG_bound hk hX (hp p List.mem_cons_self)) (fun q hq => hp q (List.mem_cons_of_mem _ hq))
    intro X h
    exact pow_le (ih X h) (by simp only [List.length_cons]; omega)
def sp_roww (K : PySem.W.Frag) : Sp := fun vs H Q _ => ∃ (a g : Addr) (ps : List V) (gs : List (Nat × Fr)) (gi : List (Nat × Int)) (L : Int) (Ys : List Int), vs = [.ref a, .ref g] ∧ RowOk K H a L Ys ∧ H g = some (.lst ps) ∧ Ens K H ps gs ∧ GV L gi gs ∧ (∀ p ∈ gi, p.1 < Ys.length ∧ p.2.natAbs < 2 ^ 2500) ∧ gi.length ≤ 600 ∧ 0 < L ∧ L.natAbs < 2 ^ 1900 ∧ (∀ X ∈ Ys, X.natAbs < 2 ^ 2500) ∧
  ∀ (t : Addr) H', Same H H' → RowOk K H' t L (gi.foldl addG Ys) → Q (.ref t) H'
theorem ixN_nat {n c : Nat} (h : c < n) : ixN n (c : Int) = some c := by
  unfold ixN
  rw [if_pos (Int.natCast_nonneg c), if_pos (by omega)]
  rfl
section
variable {P : Program} {w : World} {K : PySem.W.Frag} {mg : Str → Option Value} {base : Heap}
theorem ok_row_with (T : Txt w K mg) : FnOk P w K mg base CX0 5 T.a_row_with T.d_row_with ["row", "gifts"] (sp_roww K) := by
  refine T.F_row_with.ok sc_row_with (fun vs H Q E h => ?_) (fun cdv A outer s H vs Q E hr h => ?_)
  · obtain ⟨a, g, ps, gs, gi, L, Ys, rfl, _⟩ := h
    rfl
  · obtain ⟨a, g, ps, gs, gi, L, Ys, rfl, ⟨xs, fs, ha, hf, rv⟩, hg, he, gv, cg, lg, L0, L1, bY, k⟩ := h
    have hr_plus : Room 4 _ := hr
    have G_plus := ok_plus (P := P) (base := base) T
    have le := he.len
    have lv := gv.len
    refine ⟨_, (pss_cons (ps_set (i := 2) sc_row_with.nd rfl (Or.inl rfl) (pe_callTy call_listU (by rfl) T.n_list (by decide +kernel) (pa_cons (pv 0) pa_nil)))
      (pss_cons (ps_for PassesOwn.never rfl (pi_list (pv 1)) (pg_tup rfl (pgs_cons (pg_name (i := 3) sc_row_with.nd rfl (Or.inl rfl)) (pgs_cons (pg_name (i := 4) sc_row_with.nd rfl (Or.inl rfl)) pgs_nil))) (pss_one (ps_asg (pe_call G_plus hr_plus (by rfl) T.m_plus T.F_plus.kp T.B_plus .nil pass0 (pa_cons (pe_ix ix_list (pv 2) (pv 3) (fun _ _ => rfl)) (pa_cons (pv 4) pa_nil))) (pg_sub (pv 2) (pv 3) set_list))))
      (pss_one (ps_ret (pe_callTy call_tupleN (by rfl) T.n_tuple (by decide +kernel) (pa_cons (pv 2) pa_nil)))))), ?_⟩
    refine seq_op fun N hN => ?_
    walk_at "rs"
    refine ⟨xs, .inr ha, fun o H1 s1 o0 o1 => hN _ _ ?_⟩
    clear hN N
    refine cut_seq (fun σ H2 => ∃ (ys : List V) (es : List Fr) (x3 x4 : Option V), σ = [some (.ref a), some (.ref g), some (.ref o), x3, x4] ∧ Same H H2 ∧ H2 o = some (.lst ys) ∧ Frs K H2 ys es ∧ RowV L (gi.foldl addG Ys) es) (fun N hN => ?_) ?_
    · walk_at "rs"
      refine ⟨_, rfl, g, rfl, ⟨ps, SqL.of (s1 _ _ hg)⟩, for_list (K := K) (a := g) (xs := ps) (fun i σ H2 => ∃ (ys : List V) (es : List Fr) (x3 x4 : Option V), σ = [some (.ref a), some (.ref g), some (.ref o), x3, x4] ∧ Same H H2 ∧ H2 o = some (.lst ys) ∧ Frs K H2 ys es ∧ RowV L ((gi.take i).foldl addG Ys) es) ⟨xs, fs, _, _, rfl, s1, o1, hf.same s1, rv⟩ (fun i σ H2 _ ⟨_, _, _, _, _, s2, _⟩ => SqL.of (s2 _ _ hg)) ?_ ?_⟩
      · rintro i y σ H2 hi ⟨ys, es, x3, x4, rfl, s2, o2, hy, rv2⟩
        obtain ⟨u, v, c, f, eu, ec, hu, hv⟩ := he.get (n := i) (by have := (List.getElem?_eq_some_iff.mp hi).1; omega)
        obtain rfl : y = .ref u := by rw [eu] at hi; exact (Option.some.inj hi).symm
        obtain ⟨X, eX, va⟩ := gv.get ec
        obtain ⟨cc, bX⟩ := cg _ (List.mem_of_getElem? eX)
        dsimp only at cc bX
        have fl := foldG_len (gi.take i) Ys
        have yl := hy.len
        have rl := rv2.1
        obtain ⟨r, h, xr, hr2, hp⟩ := hy.get (n := c) (by omega)
        have cl : c < ys.length := by omega
        have eY : ((gi.take i).foldl addG Ys)[c]? = some (((gi.take i).foldl addG Ys).getD c 0) := by rw [List.getD_eq_getElem?_getD, List.getElem?_eq_getElem (by omega)]; rfl
        have vb := rv2.2 c _ h eY hr2
        have bY2 : (((gi.take i).foldl addG Ys).getD c 0).natAbs < 2 ^ (2500 + (gi.take i).length) := foldG_bound (Nat.le_refl 2500) bY (fun p hp => (cg p (List.mem_of_mem_take hp)).2) _ (List.mem_of_getElem? eY)
        have bY3 : (((gi.take i).foldl addG Ys).getD c 0).natAbs < 2 ^ 3100 := pow_le bY2 (by rw [List.length_take]; omega)
        obtain ⟨vp, p0⟩ := vb.plus va
        have en := foldG_next (Xs := Ys) eX
        have b1 : h.1.natAbs < 2 ^ 4000 := pow_le (a := 3100) (Nat.lt_of_le_of_lt (vb.num L0) bY3) (by decide)
        have b2 : h.2.natAbs < 2 ^ 4000 := pow_le (a := 1900) (Nat.lt_of_le_of_lt (vb.den L0) L1) (by decide)
        have b3 : f.1.natAbs < 2 ^ 4000 := pow_le (a := 2500) (Nat.lt_of_le_of_lt (va.num L0) bX) (by decide)
        have b4 : f.2.natAbs < 2 ^ 4000 := pow_le (a := 1900) (Nat.lt_of_le_of_lt (va.den L0) L1) (by decide)
        refine ⟨u, _, rfl, Same.seqT s2 hu, rfl, ?_⟩
        unfold gCons gNil
        walk_at "rs"
        have ho3 : ∀ {H3 : Hp}, Same H2 H3 → H3 o = some (.lst ys) := fun s => s _ _ o2
        refine ⟨_, _, ⟨rfl, rfl⟩, _, _, rfl, rfl, _, (c : Int), rfl, SqL.of o2, _, at_ofN rfl xr, r, v, h.1, h.2, f.1, f.2, rfl, hp, Same.seqT s2 hv, b1, b2, b3, b4, p0, fun t H3 s3 t0 t1 => ⟨ys, (c : Int), rfl, ho3 s3, c, ixN_nat cl, _, _, _, _, ⟨rfl, rfl⟩, ?_, upd_same, Frs.set (f := (frP (h.1 * f.2 + f.1 * h.2) (h.2 * f.2), frQ (h.1 * f.2 + f.1 * h.2) (h.2 * f.2))) (.inl (.inl ?_)) c ((hy.same s3).upd (ho3 s3)), ?_⟩⟩
        · intro p q e
          have n : p ≠ o := fun z => by rw [z, o0] at e; cases e
          rw [upd_ne n]; exact s3 _ _ (s2 _ _ e)
        · have n : t ≠ o := fun z => by rw [z, o2] at t0; cases t0
          rw [upd_ne n]; exact t1
        · rw [en]
          exact rv2.upd vp
      · rintro σ H2 ⟨ys, es, x3, x4, rfl, s2, o2, hy, rv2⟩
        have e : gi.take ps.length = gi := by rw [le, ← lv, List.take_length]
        rw [e] at rv2
        exact hN _ _ ⟨ys, es, _, _, rfl, s2, o2, hy, rv2⟩
    · rintro σ H2 ⟨ys, es, x3, x4, rfl, s2, o2, hy, rv2⟩
      walk_at "rs"
      refine ⟨_, SqL.of o2, fun q H3 s3 q0 q1 => k q H3 (Same.trans s2 s3) ⟨_, _, .inl (.inl q1), hy.same s3, rv2⟩⟩
end
end LK

set_option Elab.async false
set_option linter.all false
set_option maxRecDepth 100000
namespace LK
open PySem PySem.Spec PyProof.Rows L2
local macro_rules | `(tactic| walk_at "rs") => `(tactic| simp only [cxK, cxNK, tCallZ, tAsg, tOp, rI0, rS0, rB0, rI, rU, tUn, rEq, rNe, rIxL, rIxT, rIxS, rSetL, rSlLU, rSlS, rSlU, rCatL, rCatU, rRepL, rIn, tVar, tC, gName, gSub, tIfS, tTest, tB, tAnd, tOr, tNot, tNotV, tAndV, tOrV, tIf, tCall, tCons, tNil, tCB, tDrop, tRet, tRetN, tNext, tLstU, tTupU, tM0, tM1, tPar, tPar3, tAug, ipI, tBM, tBM0, rAppend, rPop, tBreak, tCont, tChain, tSl, tPart, tNoPart, L2.start, List.map, List.length_cons, List.length_nil, List.replicate, List.cons_append, List.nil_append, List.append_nil, List.getElem?_cons_zero, List.getElem?_cons_succ, List.set_cons_zero, List.set_cons_succ, Option.some.injEq, V.int.injEq, V.ref.injEq, V.str.injEq, V.bl.injEq, exists_eq_left', exists_eq_left, exists_and_left, decide_eq_true_eq, List.cons.injEq, and_true, true_and, scal, Bool.not_eq_true', decide_eq_false_iff_not, Nat.zero_add, Nat.reduceAdd, Nat.reduceSub, reduceCtorEq, false_and, exists_false, false_or, or_false, CPow, CPowW, CMul, CDiv, Int.reduceToNat, ↓reduceIte, wipe, sw, List.nil_append, List.singleton_append])
local macro_rules | `(tactic| walk_at "st") => `(tactic| (refine seq_op fun N hN => ?_; walk_at "rs"))
local macro_rules | `(tactic| walk_at "sd") => `(tactic| first | assumption | decide | omega)
local macro_rules | `(tactic| walk_at "rd") => `(tactic| repeat (first
  | refine ⟨_, SqL.of (by assumption), ?_⟩ | refine ⟨_, SqL.of upd_same, ?_⟩ | refine ⟨_, .inl (SqL.of (by assumption)), ?_⟩ | refine ⟨_, (by assumption : _ = some (HO.lst _)), ?_⟩ | refine ⟨_, upd_same, ?_⟩
  | refine ⟨_, rfl, ?_⟩ | refine And.intro (by walk_at "sd") ?_))

/-- over a list or a tuple that the body leaves as it is -/
theorem for_lt {K : PySem.W.Frag} {a : Addr} {xs : List V} {g : TG} {tb : TS} {D : Ends} {σ : L2.St} {H : Hp} {tl : TE} (hv : ∀ Q : VK, Q (.ref a) H → tl σ H Q) {H0 : Hp} (h : SqL K H0 a xs ∨ SqT K H0 a xs) (Pv : Nat → L2.St → Hp → Prop) (h0 : Pv 0 σ H) (hl : ∀ i σ H', Pv i σ H' → Same H0 H')
    (hs : ∀ i x σ H, xs[i]? = some x → Pv i σ H → g x σ H fun σ2 H2 => tb { D with nx := Pv (i + 1), ct := Pv (i + 1), bk := D.nx } σ2 H2) (hd : ∀ σ H, Pv xs.length σ H → D.nx σ H) : tFor (iLT K tl) g tb D σ H := by
  rcases h with h | h
  · exact .inl (hv _ ⟨a, rfl, ⟨xs, (hl _ _ _ h0).seq h⟩, for_list (K := K) (a := a) (xs := xs) Pv h0 (fun i σ H2 _ p => (hl i σ H2 p).seq h) hs hd⟩)
  · exact .inr (hv _ ⟨a, rfl, ⟨xs, Same.seqT (hl _ _ _ h0) h⟩, for_tup (K := K) (a := a) (xs := xs) Pv h0 (fun i σ H2 _ p => Same.seqT (hl i σ H2 p) h) hs hd⟩)
section
variable {K : PySem.W.Frag} {a : Addr} {xs : List V} {i j : Nat} {te1 te : TE} {vs vs1 : List Nat} {σ : L2.St} {H1 : Hp} {D : Addr} {Qd : Hp → Prop}
/-- the turns of [y for x in xs for y in te1(x)] -/
theorem lc2_walk {J : It} {G : Hp → Prop} {Y : Nat → Hp → V → Hp → Prop} (w : Walk J xs.length G Y) (hY : ∀ k H x H', Y k H x H' → H' = H ∧ xs[k]? = some x) (hG : ∀ H, Same H1 H → G H) (R : Nat → Hp → List V → Prop) (hD : H1 D = none) (hn : xs.length ≤ 1000)
    (mono : ∀ k H H' ys, Same H H' → R k H ys → R k H' ys) (up : ∀ k H ys zs o, H D = some (.lst zs) → R k H ys → R k (L2.upd H D o) ys) (r0 : R 0 (L2.upd H1 D (.lst [])) [])
    (hw1 : ∀ x, wipe ((wipe σ vs).set i (some x)) vs = wipe σ vs) (hw2 : ∀ x y, wipe ((wipe ((wipe σ vs).set i (some x)) vs1).set j (some y)) vs1 = wipe ((wipe σ vs).set i (some x)) vs1)
    (hte : ∀ x y H (Q : VK), Q y H → te ((wipe ((wipe σ vs).set i (some x)) vs1).set j (some y)) H Q)
    (hs : ∀ k x H, xs[k]? = some x → Same H1 H → ∀ Q1 : VK, (∀ p ys H2, Same H H2 → H p = none → H2 p = some (.lst ys) → ys.length ≤ 100 → (∀ zs, R k H2 zs → R (k + 1) H2 (zs ++ ys)) → Q1 (.ref p) H2) → te1 ((wipe σ vs).set i (some x)) H Q1)
    (hq : ∀ H' ys, Same H1 H' → H' D = some (.lst ys) → R xs.length H' ys → Qd H') :
    ∃ W : Nat → Nat → Hp → Prop, (∃ m, W 0 m (L2.upd H1 D (.lst []))) ∧ ∀ k m H, W k m H →
  (J.stop k H ∧ Qd H) ∨ (J.go k H ∧ ∃ Nx : Hp → Prop, (∀ H', Nx H' → ∃ m', m' < m ∧ W (k + 1) m' H') ∧ ∀ x H', J.yld k H x H' → gName i x (wipe σ vs) H' fun σ2 H2 => wipe σ2 vs = wipe σ vs ∧ tYes σ2 H2 fun b H3 =>
    if b = true then iList K te1 σ2 H3 fun J1 H4 => ∃ W1 : Nat → Nat → Hp → Prop, (∃ m, W1 0 m H4) ∧ ∀ j' k H, W1 j' k H →
      (J1.stop j' H ∧ Nx H) ∨ (J1.go j' H ∧ ∃ Nx1 : Hp → Prop, (∀ H', Nx1 H' → ∃ k', k' < k ∧ W1 (j' + 1) k' H') ∧ ∀ x H', J1.yld j' H x H' → gName j x (wipe σ2 vs1) H' fun σ3 H5 => wipe σ3 vs1 = wipe σ2 vs1 ∧ tYes σ3 H5 fun b H6 =>
        if b = true then te σ3 H6 fun y H7 => ∃ acc, H7 D = some (.lst acc) ∧ acc.length < sizeLine ∧ Nx1 (L2.upd H7 D (.lst (acc ++ [y]))) else Nx1 H6)
    else Nx H3) := by
  have keep : ∀ {H : Hp} {o : HO}, Same H1 H → Same H1 (L2.upd H D o) := fun s a u e => by
    rw [upd_ne (ne_of_none e hD)]; exact s _ _ e
  let I : Nat → Hp → Prop := fun k H => Same H1 H ∧ ∃ zs, H D = some (.lst zs) ∧ zs.length ≤ 100 * k ∧ R k H zs
  refine ⟨fun k m H => m = xs.length - k ∧ k ≤ xs.length ∧ I k H, ⟨xs.length, by simp, Nat.zero_le _, keep (Same.refl _), [], upd_same, Nat.zero_le _, r0⟩, ?_⟩
  rintro k m H ⟨rfl, hk, s1, zs, h1, hl, hr⟩
  by_cases hlt : k < xs.length
  · refine .inr ⟨w.goes k H hlt (hG H s1), I (k + 1), fun H' p' => ⟨xs.length - (k + 1), by omega, rfl, hlt, p'⟩, fun x H' y => ?_⟩
    obtain ⟨rfl, hx⟩ := hY _ _ _ _ (w.yields k H x H' hlt (hG H s1) y)
    refine ⟨hw1 x, ?_⟩
    simp only [tYes, eq_self, ite_true]
    refine hs k x _ hx s1 _ fun p ys H2 s2 p0 p1 l1 st => ⟨p, rfl, ⟨ys, SqL.of p1⟩, ?_⟩
    have np : p ≠ D := fun e => by rw [e, h1] at p0; cases p0
    have hD2 := s2 _ _ h1
    have hR := st zs (mono _ _ _ _ s2 hr)
    refine ⟨fun j' n H => n = ys.length - j' ∧ j' ≤ ys.length ∧ Same H1 H ∧ H p = some (.lst ys) ∧ H D = some (.lst (zs ++ ys.take j')) ∧ R (k + 1) H (zs ++ ys), ⟨ys.length, by simp, Nat.zero_le _, Same.trans s1 s2, p1, by simpa using hD2, hR⟩, ?_⟩
    rintro j' n H3 ⟨rfl, hj, s3, q1, q2, q3⟩
    by_cases hlj : j' < ys.length
    · refine .inr ⟨⟨ys, ys[j'], SqL.of q1, by simp [hlj]⟩, fun H => j' + 1 ≤ ys.length ∧ Same H1 H ∧ H p = some (.lst ys) ∧ H D = some (.lst (zs ++ ys.take (j' + 1))) ∧ R (k + 1) H (zs ++ ys), fun H' p' => ⟨ys.length - (j' + 1), by omega, rfl, p'⟩, fun y H' yy => ?_⟩
      obtain ⟨e, yy⟩ := yy
      subst e
      have hy := yy ys (SqL.of q1)
      refine ⟨hw2 x y, ?_⟩
      simp only [tYes, eq_self, ite_true]
      refine hte x y _ _ ⟨_, q2, ?_, hlj, keep s3, by rw [upd_ne np]; exact q1, ?_, up _ _ _ _ _ q2 q3⟩
      · rw [List.length_append, List.length_take]
        exact Nat.lt_of_le_of_lt (show _ ≤ 1000000 by omega) (by decide)
      · obtain ⟨_, rfl⟩ := List.getElem?_eq_some_iff.mp hy
        rw [upd_same, List.append_assoc, List.take_append_getElem]
    · have e : j' = ys.length := by omega
      subst e
      rw [List.take_length] at q2
      exact .inl ⟨⟨ys, SqL.of q1, Nat.le_refl _⟩, s3, _, q2, by rw [List.length_append]; omega, q3⟩
  · have e : k = xs.length := by omega
    subst e
    exact .inl ⟨w.stops H (hG H s1), hq H zs s1 h1 hr⟩
/-- over a list or a tuple -/
theorem lc2_lt {tl : TE} {Q : VK} (hv : ∀ Q : VK, Q (.ref a) H1 → tl σ H1 Q) (h : SqL K H1 a xs ∨ SqT K H1 a xs) (R : Nat → Hp → List V → Prop) (hn : xs.length ≤ 1000)
    (mono : ∀ k H H' ys, Same H H' → R k H ys → R k H' ys) (up : ∀ D k H ys zs o, H D = some (.lst zs) → R k H ys → R k (L2.upd H D o) ys) (r0 : ∀ H, R 0 H [])
    (hw1 : ∀ x, wipe ((wipe σ vs).set i (some x)) vs = wipe σ vs) (hw2 : ∀ x y, wipe ((wipe ((wipe σ vs).set i (some x)) vs1).set j (some y)) vs1 = wipe ((wipe σ vs).set i (some x)) vs1)
    (hte : ∀ x y H (Q : VK), Q y H → te ((wipe ((wipe σ vs).set i (some x)) vs1).set j (some y)) H Q)
    (hs : ∀ k x H, xs[k]? = some x → Same H1 H → ∀ Q1 : VK, (∀ p ys H2, Same H H2 → H p = none → H2 p = some (.lst ys) → ys.length ≤ 100 → (∀ zs, R k H2 zs → R (k + 1) H2 (zs ++ ys)) → Q1 (.ref p) H2) → te1 ((wipe σ vs).set i (some x)) H Q1)
    (hq : ∀ D H' ys, Same H1 H' → H1 D = none → H' D = some (.lst ys) → R xs.length H' ys → Q (.ref D) H') :
    tLc2 (iLT K tl) (gName i) tYes (iList K te1) (gName j) tYes te vs vs1 σ H1 Q := by
  rcases h with h | h
  · exact .inl (hv _ ⟨a, rfl, ⟨xs, h⟩, fun D hD => lc2_walk walk_list (fun k H x H' y => y) (fun H s => s.seq h) R hD hn mono (up D) (r0 _) hw1 hw2 hte hs fun H' ys s e r => hq D H' ys s hD e r⟩)
  · exact .inr (hv _ ⟨a, rfl, ⟨xs, h⟩, fun D hD => lc2_walk walk_tup (fun k H x H' y => y) (fun H s => Same.seqT s h) R hD hn mono (up D) (r0 _) hw1 hw2 hte hs fun H' ys s e r => hq D H' ys s hD e r⟩)
end
end LK

set_option Elab.async false
set_option linter.all false
set_option maxRecDepth 100000
namespace LK
open PySem PySem.Spec PyProof.Rows L2
local macro_rules | `(tactic| walk_at "rs") => `(tactic| simp only [cxK, cxNK, tCallZ, tAsg, tOp, rI0, rS0, rB0, rI, rU, tUn, rEq, rNe, rIxL, rIxT, rIxS, rSetL, rSlLU, rSlS, rSlU, rCatL, rCatU, rRepL, rIn, tVar, tC, gName, gSub, tIfS, tTest, tB, tAnd, tOr, tNot, tNotV, tAndV, tOrV, tIf, tCall, tCons, tNil, tCB, tDrop, tRet, tRetN, tNext, tLstU, tTupU, tM0, tM1, tPar, tPar3, tAug, ipI, tBM, tBM0, rAppend, rPop, tBreak, tCont, tChain, tSl, tPart, tNoPart, L2.start, List.map, List.length_cons, List.length_nil, List.replicate, List.cons_append, List.nil_append, List.append_nil, List.getElem?_cons_zero, List.getElem?_cons_succ, List.set_cons_zero, List.set_cons_succ, Option.some.injEq, V.int.injEq, V.ref.injEq, V.str.injEq, V.bl.injEq, exists_eq_left', exists_eq_left, exists_and_left, decide_eq_true_eq, List.cons.injEq, and_true, true_and, scal, Bool.not_eq_true', decide_eq_false_iff_not, Nat.zero_add, Nat.reduceAdd, Nat.reduceSub, reduceCtorEq, false_and, exists_false, false_or, or_false, CPow, CPowW, CMul, CDiv, Int.reduceToNat, ↓reduceIte, wipe, sw, List.nil_append, List.singleton_append])
local macro_rules | `(tactic| walk_at "st") => `(tactic| (refine seq_op fun N hN => ?_; walk_at "rs"))
local macro_rules | `(tactic| walk_at "sd") => `(tactic| first | assumption | decide | omega)
local macro_rules | `(tactic| walk_at "rd") => `(tactic| repeat (first
  | refine ⟨_, SqL.of (by assumption), ?_⟩ | refine ⟨_, SqL.of upd_same, ?_⟩ | refine ⟨_, .inl (SqL.of (by assumption)), ?_⟩ | refine ⟨_, (by assumption : _ = some (HO.lst _)), ?_⟩ | refine ⟨_, upd_same, ?_⟩
  | refine ⟨_, rfl, ?_⟩ | refine And.intro (by walk_at "sd") ?_))

theorem RowOk.same {K : PySem.W.Frag} {H H' : Hp} {a : Addr} {L : Int} {Xs : List Int} (s : Same H H') : RowOk K H a L Xs → RowOk K H' a L Xs := fun ⟨xs, fs, h1, h2, h3⟩ => ⟨xs, fs, Same.seqT s h1, h2.same s, h3⟩
theorem RowOk.upd {K : PySem.W.Frag} {H : Hp} {a p : Addr} {ys : List V} {o : HO} {L : Int} {Xs : List Int} (hp : H p = some (.lst ys)) : RowOk K H a L Xs → RowOk K (L2.upd H p o) a L Xs := fun ⟨xs, fs, h1, h2, h3⟩ => ⟨xs, fs, seqT_upd hp h1, h2.upd hp, h3⟩
theorem RowOk.scale {K : PySem.W.Frag} {H : Hp} {a : Addr} {L : Int} {Xs : List Int} (W : Int) : RowOk K H a L Xs → RowOk K H a (L * W) (Xs.map (· * W)) := fun ⟨xs, fs, h1, h2, h3, h4⟩ => ⟨xs, fs, h1, h2, by rw [List.length_map]; exact h3, fun i Y f e1 e2 => by
  rw [List.getElem?_map] at e1
  cases e : Xs[i]? with
  | none => rw [e] at e1; cases e1
  | some X =>
    rw [e] at e1
    cases e1
    exact (h4 i X f e e2).scale W⟩
/-- rows -/
inductive Rows (K : PySem.W.Frag) (H : Hp) (L : Int) : List V → List (List Int) → Prop
  | nil : Rows K H L [] []
  | cons {a : Addr} {Xs : List Int} {xs : List V} {Xss : List (List Int)} : RowOk K H a L Xs → Rows K H L xs Xss → Rows K H L (.ref a :: xs) (Xs :: Xss)
section
variable {K : PySem.W.Frag} {H H' : Hp} {L : Int}
theorem Rows.same (s : Same H H') : ∀ {xs : List V} {Xss : List (List Int)}, Rows K H L xs Xss → Rows K H' L xs Xss
  | _, _, .nil => .nil
  | _, _, .cons h q => .cons (h.same s) (q.same s)
theorem Rows.upd {p : Addr} {ys : List V} {o : HO} (hp : H p = some (.lst ys)) : ∀ {xs : List V} {Xss : List (List Int)}, Rows K H L xs Xss → Rows K (L2.upd H p o) L xs Xss
  | _, _, .nil => .nil
  | _, _, .cons h q => .cons (h.upd hp) (q.upd hp)
theorem Rows.len : ∀ {xs : List V} {Xss : List (List Int)}, Rows K H L xs Xss → xs.length = Xss.length
  | _, _, .nil => rfl
  | _, _, .cons _ q => congrArg Nat.succ q.len
theorem Rows.app : ∀ {xs ys : List V} {Xss Yss : List (List Int)}, Rows K H L xs Xss → Rows K H L ys Yss → Rows K H L (xs ++ ys) (Xss ++ Yss)
  | _, _, _, _, .nil, r => r
  | _, _, _, _, .cons h q, r => .cons h (q.app r)
theorem Rows.get : ∀ {xs : List V} {Xss : List (List Int)} {n : Nat}, Rows K H L xs Xss → n < Xss.length → ∃ a Xs, xs[n]? = some (.ref a) ∧ Xss[n]? = some Xs ∧ RowOk K H a L Xs
  | _, _, _, .nil, h => absurd h (Nat.not_lt_zero _)
  | _, _, 0, .cons h _, _ => ⟨_, _, rfl, rfl, h⟩
  | _, _, n + 1, .cons _ q, h => by
    obtain ⟨a, f, h1, h2, h3⟩ := q.get (n := n) (Nat.lt_of_succ_lt_succ h)
    exact ⟨a, f, h1, h2, h3⟩
end
/-- units -/
inductive Uns (K : PySem.W.Frag) (H : Hp) : List V → List Un → Prop
  | nil : Uns K H [] []
  | cons {v : V} {u : Un} {xs : List V} {us : List Un} : UnitAt K H v u → Uns K H xs us → Uns K H (v :: xs) (u :: us)
section
variable {K : PySem.W.Frag} {H H' : Hp}
theorem Uns.same (s : Same H H') : ∀ {xs : List V} {us : List Un}, Uns K H xs us → Uns K H' xs us
  | _, _, .nil => .nil
  | _, _, .cons h q => .cons (h.same s) (q.same s)
theorem Uns.len : ∀ {xs : List V} {us : List Un}, Uns K H xs us → xs.length = us.length
  | _, _, .nil => rfl
  | _, _, .cons _ q => congrArg Nat.succ q.len
theorem Uns.app : ∀ {xs ys : List V} {us ws : List Un}, Uns K H xs us → Uns K H ys ws → Uns K H (xs ++ ys) (us ++ ws)
  | _, _, _, _, .nil, r => r
  | _, _, _, _, .cons h q, r => .cons h (q.app r)
theorem Uns.take : ∀ {xs : List V} {us : List Un} (n : Nat), Uns K H xs us → Uns K H (xs.take n) (us.take n)
  | _, _, 0, _ => .nil
  | _, _, _ + 1, .nil => .nil
  | _, _, n + 1, .cons h q => .cons h (q.take n)
theorem Uns.drop : ∀ {xs : List V} {us : List Un} (n : Nat), Uns K H xs us → Uns K H (xs.drop n) (us.drop n)
  | _, _, 0, h => h
  | _, _, _ + 1, .nil => .nil
  | _, _, n + 1, .cons _ q => q.drop n
theorem Uns.get : ∀ {xs : List V} {us : List Un} {n : Nat} {x : V}, Uns K H xs us → xs[n]? = some x → ∃ u, us[n]? = some u ∧ UnitAt K H x u
  | _, _, _, _, .nil, h => by cases h
  | _, _, 0, _, .cons h _, e => by cases e; exact ⟨_, rfl, h⟩
  | _, _, n + 1, _, .cons _ q, h => q.get (n := n) h
end
/-! ### the bend -/
def bendG (L W : Int) (M : Un → Int) (us : List Un) (Xs : List Int) : List (Nat × Int) := us.flatMap fun u => giftI L (M u) W Xs u
def bendR (L W : Int) (M : Un → Int) (us : List Un) (Xs : List Int) : List Int := (bendG L W M us Xs).foldl addG (Xs.map (· * W))
structure UsFit (n : Nat) (M : Un → Int) (W : Int) (us : List Un) : Prop where
  all : ∀ u ∈ us, UFit n (M u) W u
  len : us.length ≤ 1000
  giv : (us.map fun u => u.giv.length).sum ≤ 600
  W0 : 0 < W
  W1 : W.natAbs < 2 ^ 800
theorem giftI_len (L M W : Int) (Xs : List Int) (u : Un) : (giftI L M W Xs u).length ≤ u.giv.length := by
  unfold giftI
  split
  · rw [List.length_map]; exact Nat.le_refl _
  · exact Nat.zero_le _
theorem bendG_len (L W : Int) (M : Un → Int) (Xs : List Int) : ∀ us : List Un, (bendG L W M us Xs).length ≤ (us.map fun u => u.giv.length).sum
  | [] => Nat.le_refl _
  | u :: us => by
    have h1 := giftI_len L (M u) W Xs u
    have h2 := bendG_len L W M Xs us
    unfold bendG at h2 ⊢
    rw [List.flatMap_cons, List.length_append, List.map_cons, List.sum_cons]
    omega
theorem gI_bound {W M Z : Int} {f : Fr} (hW : W.natAbs < 2 ^ 800) (hZ : Z.natAbs < 2 ^ 1501) (hf : f.1.natAbs < 2 ^ 100) : (gI W M Z f).natAbs < 2 ^ 2500 := by
  have d : (W / (M * f.2)).natAbs < 2 ^ 800 := Nat.lt_of_le_of_lt (Int.natAbs_ediv_le_natAbs _ _) hW
  have a : (f.1 * (W / (M * f.2))).natAbs < 2 ^ (100 + 800) := wide_lt hf d
  have b : (Z * (f.1 * (W / (M * f.2)))).natAbs < 2 ^ (1501 + 900) := wide_lt hZ a
  exact pow_le b (by decide)
theorem bendG_ok {L W : Int} {M : Un → Int} {us : List Un} {Xs : List Int} (hl : LimR L Xs) (uf : UsFit Xs.length M W us) : ∀ p ∈ bendG L W M us Xs, p.1 < Xs.length ∧ p.2.natAbs < 2 ^ 2500 := by
  intro p hp
  obtain ⟨u, hu, hp⟩ := List.mem_flatMap.mp hp
  have f := uf.all u hu
  unfold giftI at hp
  split at hp
  · obtain ⟨q, hq, rfl⟩ := List.mem_map.mp hp
    obtain ⟨g1, g2, g3, g4⟩ := f.giv q hq
    exact ⟨g1, gI_bound uf.W1 (zI_bound hl.2.1 hl.2.2 (fun p hp => (f.terms.2 p hp).2.2.2.2) f.terms.1 f.sb) g4⟩
  · cases hp
theorem bendR_len (L W : Int) (M : Un → Int) (us : List Un) (Xs : List Int) : (bendR L W M us Xs).length = Xs.length := by
  unfold bendR
  rw [foldG_len, List.length_map]
def sp_bend (K : PySem.W.Frag) : Sp := fun vs H Q _ => ∃ (ra ua : Addr) (rs us : List V) (Xss : List (List Int)) (ws : List Un) (n : Nat) (L W : Int) (M : Un → Int), vs = [.ref ra, .ref ua] ∧ (SqL K H ra rs ∨ SqT K H ra rs) ∧ Rows K H L rs Xss ∧ (∀ Xs ∈ Xss, Xs.length = n ∧ LimR L Xs) ∧ Xss.length ≤ 1000 ∧ (SqL K H ua us ∨ SqT K H ua us) ∧ Uns K H us ws ∧ UsFit n M W ws ∧
  ∀ (t : Addr) (ts : List V) H', Same H H' → H t = none → H' t = some (.lst ts) → Rows K H' (L * W) ts (Xss.map (bendR L W M ws)) → Q (.ref t) H'
section
variable {P : Program} {w : World} {K : PySem.W.Frag} {mg : Str → Option Value} {base : Heap}
theorem pi_listK {X : Cx} {K : PySem.W.Frag} (hK : X.K = K) {tg l : Expr} {tl : TE} (hl : PE X l tl) : PI X tg l (iList K tl) := by
  subst hK
  exact pi_list hl
theorem ok_bend_done (T : Txt w K mg) : FnOk P w K mg base CX0 7 T.a_bend_done T.d_bend_done ["rows", "units"] (sp_bend K) := by
  refine T.F_bend_done.ok sc_bend_done (fun vs H Q E h => ?_) (fun cdv A outer s H vs Q E hr h => ?_)
  · obtain ⟨ra, ua, rs, us, Xss, ws, n, L, W, M, rfl, _⟩ := h
    rfl
  · obtain ⟨ra, ua, rs, us, Xss, ws, n, L, W, M, rfl, hra, hrs, lim, lX, hua, hus, uf, k⟩ := h
    have hr_unit_gifts : Room 6 _ := hr
    have G_unit_gifts := ok_unit_gifts (P := P) (base := base) T
    have hr_row_with : Room 5 _ := hr.mono (by decide)
    have G_row_with := ok_row_with (P := P) (base := base) T
    refine ⟨_, (pss_cons (ps_set (i := 2) sc_bend_done.nd rfl (Or.inl rfl) (pe_lstU pa_nil))
      (pss_cons (ps_for PassesOwn.never rfl (pi_lt (pv 0)) (pg_name (i := 3) sc_bend_done.nd rfl (Or.inr rfl)) (pss_cons (ps_setLc2 (i := 4) (own := [("unit", 5), ("gift", 6)]) (vs1 := [6]) (g := gName 5) (g1 := gName 6) (tt := tYes) (tt1 := tYes) rfl sc_bend_done.nd rfl rfl (sw_true rfl rfl rfl (by decide +kernel)) (pi_lt (pv 1)) (blkOk_by (own := [("unit", 5), ("gift", 6)]) (N := N_bend_done) (sc := defScope s_bend_done) (by decide +kernel)) (by decide) (fun _ _ _ _ _ => pg_name (i := 5) sc_bend_done.nd rfl (Or.inl rfl)) (fun _ _ _ _ _ => pts_nil) (fun _ _ _ _ _ => pi_listK (K := K) rfl (pe_call G_unit_gifts hr_unit_gifts (by rfl) T.m_unit_gifts T.F_unit_gifts.kp T.B_unit_gifts .nil pass0 (pa_cons (pv 3) (pa_cons (pv 5) pa_nil)))) (fun _ _ _ _ _ => pg_name (i := 6) sc_bend_done.nd rfl (Or.inl rfl)) (fun _ _ _ _ _ => pts_nil) (fun _ _ _ _ _ => (pv 6)))
      (pss_one (ps_expr (pe_bm PySem.F.plainAttrs_list PySem.F.slot_list_append PySem.F.type_list_append mt_append (pv 2) (pa_cons (pe_call G_row_with hr_row_with (by rfl) T.m_row_with T.F_row_with.kp T.B_row_with .nil pass0 (pa_cons (pv 3) (pa_cons (pv 4) pa_nil))) pa_nil))))))
      (pss_one (ps_ret (pv 2))))), ?_⟩
    refine seq_op fun N hN => ?_
    walk_at "rs"
    refine ⟨Nat.zero_le _, fun o H1 s1 o0 o1 => hN _ _ ?_⟩
    clear hN N
    refine cut_seq (fun σ H2 => ∃ (ts : List V) (x3 x4 x5 x6 : Option V), σ = [some (.ref ra), some (.ref ua), some (.ref o), x3, x4, x5, x6] ∧ Same H H2 ∧ H2 o = some (.lst ts) ∧ Rows K H2 (L * W) ts (Xss.map (bendR L W M ws))) (fun N hN => ?_) ?_
    · have ll := hrs.len
      refine for_lt (K := K) (a := ra) (xs := rs) (fun Q q => ⟨_, rfl, q⟩) hra (fun i σ H2 => ∃ (ts : List V) (x3 x4 x5 x6 : Option V), σ = [some (.ref ra), some (.ref ua), some (.ref o), x3, x4, x5, x6] ∧ Same H H2 ∧ H2 o = some (.lst ts) ∧ Rows K H2 (L * W) ts ((Xss.take i).map (bendR L W M ws))) ⟨[], _, _, _, _, rfl, s1, o1, .nil⟩ (fun i σ H2 ⟨_, _, _, _, _, _, s2, _⟩ => s2) ?_ ?_
      · rintro i y σ H2 hi ⟨ts, x3, x4, x5, x6, rfl, s2, o2, ht⟩
        obtain ⟨r, Xs, er, eX, hrow⟩ := hrs.get (n := i) (by have := (List.getElem?_eq_some_iff.mp hi).1; omega)
        obtain rfl : y = .ref r := by rw [er] at hi; exact (Option.some.inj hi).symm
        obtain ⟨ln, li⟩ := lim Xs (List.mem_of_getElem? eX)
        subst ln
        have lu := hus.len
        refine seq_op fun N hN => ?_
        walk_at "rs"
        refine lc2_lt (K := K) (a := ua) (xs := us) (fun Q q => ⟨_, rfl, q⟩) (hua.imp s2.seq (Same.seqT s2)) (fun k H zs => ∃ gs, Ens K H zs gs ∧ GV (L * W) (bendG L W M (ws.take k) Xs) gs) (by have := uf.len; omega) (fun k H H' ys s ⟨gs, h1, h2⟩ => ⟨gs, h1.same s, h2⟩) (fun D k H ys zs o hp ⟨gs, h1, h2⟩ => ⟨gs, h1.upd hp, h2⟩) (fun H => ⟨[], .nil, .nil⟩) (fun x => rfl) (fun x y => rfl) (fun x y H Q q => ⟨_, rfl, q⟩) (fun k x H3 hx s3 Q1 q1 => ?_) (fun D H3 ys s3 D0 D1 ⟨gs, g1, g2⟩ => hN _ _ ?_)
        · walk_at "rs"
          obtain ⟨u, eu, hu⟩ := hus.get hx
          have f := uf.all u (List.mem_of_getElem? eu)
          have s03 := Same.trans s2 s3
          refine ⟨r, x, u, L, M u, W, Xs, rfl, hrow.same s03, li, hu.same s03, f, fun p xs' gs' H4 s4 p0 p1 e1 g1 => q1 p xs' H4 s4 p0 p1 ?_ fun zs ⟨gs, h1, h2⟩ => ⟨gs ++ gs', h1.app e1, ?_⟩⟩
          · rw [e1.len, ← g1.len]
            exact Nat.le_trans (giftI_len _ _ _ _ _) f.gl
          · obtain ⟨hk, rfl⟩ := List.getElem?_eq_some_iff.mp eu
            have e : bendG L W M (ws.take (k + 1)) Xs = bendG L W M (ws.take k) Xs ++ giftI L (M ws[k]) W Xs ws[k] := by
              unfold bendG
              rw [← List.take_append_getElem hk, List.flatMap_append, List.flatMap_singleton]
            rw [e]
            exact h2.app g1
        · clear hN N
          walk_at "rs"
          have s03 := Same.trans s2 s3
          have o3 := s3 _ _ o2
          rw [lu, List.take_length] at g2
          have tl := ht.len
          have il : i < rs.length := (List.getElem?_eq_some_iff.mp hi).1
          refine ⟨.inl ⟨rfl, _, SqL.of o3⟩, r, D, ys, gs, bendG L W M ws Xs, L * W, Xs.map (· * W), rfl, (hrow.same s03).scale W, D1, g1, g2, fun p hp => by rw [List.length_map]; exact bendG_ok li uf p hp, Nat.le_trans (bendG_len _ _ _ _ _) uf.giv, Int.mul_pos li.1 uf.W0, pow_le (a := 1800) (wide_lt li.2.1 uf.W1) (by decide), ?_, fun t H4 s4 hr4 => ⟨ts, s4 _ _ o3, ?_, _, _, _, _, _, ⟨rfl, rfl, rfl, rfl⟩, ?_, upd_same, ?_⟩⟩
          · intro Y hY
            obtain ⟨X, hX, rfl⟩ := List.mem_map.mp hY
            exact pow_le (a := 2000) (wide_lt (li.2.2 X hX) uf.W1) (by decide)
          · rw [tl, List.length_map, List.length_take]
            exact Nat.lt_of_le_of_lt (show _ ≤ 1000000 by omega) (by decide)
          · intro p q e
            have n : p ≠ o := fun z => by rw [z, o0] at e; cases e
            rw [upd_ne n]; exact s4 _ _ (s03 _ _ e)
          · have e : (Xss.take (i + 1)).map (bendR L W M ws) = (Xss.take i).map (bendR L W M ws) ++ [bendR L W M ws Xs] := by
              obtain ⟨hk, rfl⟩ := List.getElem?_eq_some_iff.mp eX
              rw [← List.take_append_getElem hk, List.map_append]
              rfl
            rw [e]
            exact ((ht.same (Same.trans s3 s4)).app (.cons hr4 .nil)).upd (s4 _ _ o3)
      · rintro σ H2 ⟨ts, x3, x4, x5, x6, rfl, s2, o2, ht⟩
        rw [ll, List.take_length] at ht
        exact hN _ _ ⟨ts, _, _, _, _, rfl, s2, o2, ht⟩
    · rintro σ H2 ⟨ts, x3, x4, x5, x6, rfl, s2, o2, ht⟩
      walk_at "rs"
      exact k o ts H2 s2 o0 o2 ht
end
end LK

set_option Elab.async false
set_option linter.all false
set_option maxRecDepth 100000
namespace LK
open PySem PySem.Spec PyProof.Rows L2
local macro_rules | `(tactic| walk_at "rs") => `(tactic| simp only [cxK, cxNK, tCallZ, tAsg, tOp, rI0, rS0, rB0, rI, rU, tUn, rEq, rNe, rIxL, rIxT, rIxS, rSetL, rSlLU, rSlS, rSlU, rCatL, rCatU, rRepL, rIn, tVar, tC, gName, gSub, tIfS, tTest, tB, tAnd, tOr, tNot, tNotV, tAndV, tOrV, tIf, tCall, tCons, tNil, tCB, tDrop, tRet, tRetN, tNext, tLstU, tTupU, tM0, tM1, tPar, tPar3, tAug, ipI, tBM, tBM0, rAppend, rPop, tBreak, tCont, tChain, tSl, tPart, tNoPart, L2.start, List.map, List.length_cons, List.length_nil, List.replicate, List.cons_append, List.nil_append, List.append_nil, List.getElem?_cons_zero, List.getElem?_cons_succ, List.set_cons_zero, List.set_cons_succ, Option.some.injEq, V.int.injEq, V.ref.injEq, V.str.injEq, V.bl.injEq, exists_eq_left', exists_eq_left, exists_and_left, decide_eq_true_eq, List.cons.injEq, and_true, true_and, scal, Bool.not_eq_true', decide_eq_false_iff_not, Nat.zero_add, Nat.reduceAdd, Nat.reduceSub, reduceCtorEq, false_and, exists_false, false_or, or_false, CPow, CPowW, CMul, CDiv, Int.reduceToNat, ↓reduceIte, wipe, sw, List.nil_append, List.singleton_append])
local macro_rules | `(tactic| walk_at "st") => `(tactic| (refine seq_op fun N hN => ?_; walk_at "rs"))
local macro_rules | `(tactic| walk_at "sd") => `(tactic| first | assumption | decide | omega)
local macro_rules | `(tactic| walk_at "rd") => `(tactic| repeat (first
  | refine ⟨_, SqL.of (by assumption), ?_⟩ | refine ⟨_, SqL.of upd_same, ?_⟩ | refine ⟨_, .inl (SqL.of (by assumption)), ?_⟩ | refine ⟨_, (by assumption : _ = some (HO.lst _)), ?_⟩ | refine ⟨_, upd_same, ?_⟩
  | refine ⟨_, rfl, ?_⟩ | refine And.intro (by walk_at "sd") ?_))

section
variable {P : Program} {w : World} {K : PySem.W.Frag} {mg : Str → Option Value} {base : Heap}
def sp_great : Sp := fun vs H Q _ => ∃ (b c : Addr) (N : Nat), vs = [.ref b] ∧ Bag (N + 2) H b c ∧ ∀ (r : Int) H', 0 ≤ r → r < 1000000000000000000 → Bag N H' b c → Kp b H H' → Q (.int r) H'
theorem ok__law_great (T : Txt w K mg) : FnOk P w K mg base CX0 2 T.a__law_great T.d__law_great ["bag"] sp_great := by
  refine T.F__law_great.ok sc__law_great (fun vs H Q E h => ?_) (fun cdv A outer s H vs Q E hr h => ?_)
  · obtain ⟨b, c, N, rfl, _⟩ := h
    rfl
  · obtain ⟨b, c, N0, rfl, B, k⟩ := h
    have hr__law_draw : Room 1 _ := hr
    have G__law_draw := ok__law_draw (P := P) (base := base) T
    refine ⟨_, (pss_one (ps_ret (pe_op op_add (pe_op op_mul (pe_call G__law_draw hr__law_draw (by rfl) T.m__law_draw T.F__law_draw.kp T.B__law_draw .nil pass0 (pa_cons (pv 0) (pa_cons (pe_op op_pow pe_int pe_int) pa_nil))) (pe_op op_pow pe_int pe_int)) (pe_call G__law_draw hr__law_draw (by rfl) T.m__law_draw T.F__law_draw.kp T.B__law_draw .nil pass0 (pa_cons (pv 0) (pa_cons (pe_op op_pow pe_int pe_int) pa_nil)))))), ?_⟩
    walk_at "rs"
    refine ⟨by decide, b, c, 10 ^ 9, N0 + 1, rfl, B, by decide, by decide, fun r1 H1 r10 r11 B1 K1 => ⟨by decide, r1, rfl, .inr (by decide), by decide, b, c, 10 ^ 9, N0, rfl, B1, by decide, by decide, fun r2 H2 r20 r21 B2 K2 => ⟨r2, rfl, k _ _ ?_ ?_ B2 (Same.trans K1 K2)⟩⟩⟩
    · omega
    · omega
theorem ok__law_factor (T : Txt w K mg) : FnOk P w K mg base CX0 3 T.a__law_factor T.d__law_factor ["bag"] (sp_drawn K 7 1000000000000000000 1000000000000000000) := by
  refine T.F__law_factor.ok sc__law_factor (fun vs H Q E h => ?_) (fun cdv A outer s H vs Q E hr h => ?_)
  · obtain ⟨b, c, N, rfl, _⟩ := h
    rfl
  · obtain ⟨b, c, N0, rfl, B, k⟩ := h
    have hr__law_low : Room 2 _ := hr
    have G__law_low := ok__law_low (P := P) (base := base) T
    have hr__law_great : Room 2 _ := hr
    have G__law_great := ok__law_great (P := P) (base := base) T
    have hr__law_draw : Room 1 _ := hr.mono (by decide)
    have G__law_draw := ok__law_draw (P := P) (base := base) T
    refine ⟨_, (pss_cons (ps_set (i := 1) sc__law_factor.nd rfl (Or.inl rfl) (pe_call G__law_draw hr__law_draw (by rfl) T.m__law_draw T.F__law_draw.kp T.B__law_draw .nil pass0 (pa_cons (pv 0) (pa_cons pe_int pa_nil))))
      (pss_cons (ps_if (pt_cmpR op_lt (pv 1) pe_int (nomark _)) (pss_one (ps_ret (pe_tupU (pa_cons (pe_op op_sub (pe_call G__law_draw hr__law_draw (by rfl) T.m__law_draw T.F__law_draw.kp T.B__law_draw .nil pass0 (pa_cons (pv 0) (pa_cons pe_int pa_nil))) pe_int) (pa_cons pe_int pa_nil))))) pss_nil)
      (pss_cons (ps_if (pt_cmpR op_lt (pv 1) pe_int (nomark _)) (pss_one (ps_ret (pe_call G__law_low hr__law_low (by rfl) T.m__law_low T.F__law_low.kp T.B__law_low .nil pass0 (pa_cons (pe_op op_sub (pe_call G__law_draw hr__law_draw (by rfl) T.m__law_draw T.F__law_draw.kp T.B__law_draw .nil pass0 (pa_cons (pv 0) (pa_cons pe_int pa_nil))) pe_int) (pa_cons (pe_op op_add pe_int (pe_call G__law_draw hr__law_draw (by rfl) T.m__law_draw T.F__law_draw.kp T.B__law_draw .nil pass0 (pa_cons (pv 0) (pa_cons pe_int pa_nil)))) pa_nil))))) pss_nil)
      (pss_cons (ps_if (pt_cmpR op_eqI (pv 1) pe_int (nomark _)) (pss_one (ps_ret (pe_call G__law_low hr__law_low (by rfl) T.m__law_low T.F__law_low.kp T.B__law_low .nil pass0 (pa_cons (pe_op op_sub (pe_call G__law_draw hr__law_draw (by rfl) T.m__law_draw T.F__law_draw.kp T.B__law_draw .nil pass0 (pa_cons (pv 0) (pa_cons pe_int pa_nil))) pe_int) (pa_cons (pe_op op_add pe_int (pe_call G__law_draw hr__law_draw (by rfl) T.m__law_draw T.F__law_draw.kp T.B__law_draw .nil pass0 (pa_cons (pv 0) (pa_cons pe_int pa_nil)))) pa_nil))))) pss_nil)
      (pss_cons (ps_set (i := 2) sc__law_factor.nd rfl (Or.inl rfl) (pe_op op_sub pe_int (pe_op op_mulW pe_int (pe_call G__law_draw hr__law_draw (by rfl) T.m__law_draw T.F__law_draw.kp T.B__law_draw .nil pass0 (pa_cons (pv 0) (pa_cons pe_int pa_nil))))))
      (pss_one (ps_ret (pe_call G__law_low hr__law_low (by rfl) T.m__law_low T.F__law_low.kp T.B__law_low .nil pass0 (pa_cons (pe_op op_mulW (pv 2) (pe_call G__law_great hr__law_great (by rfl) T.m__law_great T.F__law_great.kp T.B__law_great .nil pass0 (pa_cons (pv 0) pa_nil))) (pa_cons (pe_op op_add pe_int (pe_op op_fdivW (pe_call G__law_great hr__law_great (by rfl) T.m__law_great T.F__law_great.kp T.B__law_great .nil pass0 (pa_cons (pv 0) pa_nil)) (pe_op op_add pe_int (pe_op op_mulW (pe_call G__law_draw hr__law_draw (by rfl) T.m__law_draw T.F__law_draw.kp T.B__law_draw .nil pass0 (pa_cons (pv 0) (pa_cons pe_int pa_nil))) (pe_op op_pow pe_int pe_int))))) pa_nil)))))))))), ?_⟩
    have fin : ∀ {H1 H2 : Hp} {t : Addr} {p q : Int}, q ≠ 0 → p.natAbs ≤ 1000000000000000000 → q.natAbs ≤ 1000000000000000000 → Bag N0 H1 b c → Kp b H H1 → Same H1 H2 → H1 t = none → H2 t = some (.tup [.int (frP p q), .int (frQ p q)]) → Q (.ref t) H2 := fun q0 hp hq B1 K1 s2 h0 h2 =>
      k _ _ _ (okB_low q0 hp hq) (Kp.bn K1 B1.at.choose_spec h0) h2 (B1.same s2) (Same.trans K1 (Kp.of s2))
    refine seq_op fun N hN => ?_
    walk_at "rs"
    refine ⟨b, c, 10, N0 + 6, rfl, B, by decide, by decide, fun r1 H1 r10 r11 B1 K1 => hN _ _ ?_⟩
    clear hN N
    refine seq_op fun N hN => ?_
    walk_at "rs"
    refine ite2 (fun _ => ?_) (fun _ => hN _ _ ?_)
    · refine ⟨b, c, 7, N0 + 5, rfl, B1, by decide, by decide, fun r2 H2 r20 r21 B2 K2 => ⟨r2, rfl, by decide, fun t H3 s3 h03 h3 => ?_⟩⟩
      exact k t (r2 - 3, 1) H3 ⟨Int.le_refl 1, Nat.gcd_one_right _, by show (r2 - 3).natAbs ≤ _; omega, by show (1 : Int).natAbs ≤ _; decide⟩ (Kp.bn K1 B1.at.choose_spec (Kp.bn K2 B2.at.choose_spec h03)) h3 ((B2.same s3).le (by omega)) (Same.trans K1 (Same.trans K2 (Kp.of s3)))
    clear hN N
    refine seq_op fun N hN => ?_
    walk_at "rs"
    refine ite2 (fun _ => ?_) (fun _ => hN _ _ ?_)
    · refine ⟨b, c, 13, N0 + 5, rfl, B1, by decide, by decide, fun r2 H2 r20 r21 B2 K2 => ⟨r2, rfl, b, c, 6, N0 + 4, rfl, B2, by decide, by decide, fun r4 H4 r40 r41 B4 K4 => ⟨r4, rfl, ?_⟩⟩⟩
      exact low_at (M := 1) (L := 1) (by omega) (pow_le (a := 64) (by omega) (by decide)) (pow_le (a := 64) (by omega) (by decide)) fun t H5 s5 h05 h5 => fin (by omega) (by omega) (by omega) (B4.le (by omega)) (Same.trans K1 (Same.trans K2 K4)) s5 h05 h5
    clear hN N
    refine seq_op fun N hN => ?_
    walk_at "rs"
    refine ite2 (fun _ => ?_) (fun _ => hN _ _ ?_)
    · refine ⟨b, c, 4001, N0 + 5, rfl, B1, by decide, by decide, fun r2 H2 r20 r21 B2 K2 => ⟨r2, rfl, b, c, 97, N0 + 4, rfl, B2, by decide, by decide, fun r4 H4 r40 r41 B4 K4 => ⟨r4, rfl, ?_⟩⟩⟩
      exact low_at (M := 1) (L := 1) (by omega) (pow_le (a := 64) (by omega) (by decide)) (pow_le (a := 64) (by omega) (by decide)) fun t H5 s5 h05 h5 => fin (by omega) (by omega) (by omega) (B4.le (by omega)) (Same.trans K1 (Same.trans K2 K4)) s5 h05 h5
    clear hN N
    refine seq_op fun N hN => ?_
    walk_at "rs"
    refine ⟨b, c, 2, N0 + 5, rfl, B1, by decide, by decide, fun r2 H2 r20 r21 B2 K2 => ⟨r2, rfl, mulW (pow_le (a := 64) (by decide) (by decide)) (pow_le (a := 64) (by omega) (by decide)), hN _ _ ?_⟩⟩
    clear hN N
    walk_at "rs"
    refine ⟨b, c, N0 + 3, rfl, B2.le (by omega), fun r3 H3 r30 r31 B3 K3 => ⟨r3, rfl, mulW (pow_le (a := 64) (by omega) (by decide)) (pow_le (a := 64) (by omega) (by decide)), b, c, N0 + 1, rfl, B3, fun r4 H4 r40 r41 B4 K4 => ⟨b, c, 2, N0, rfl, B4, by decide, by decide, fun r5 H5 r50 r51 B5 K5 => ⟨by decide, r5, rfl, mulW (pow_le (a := 64) (by omega) (by decide)) (pow_le (a := 64) (by decide) (by decide)), r4, rfl, ?_⟩⟩⟩⟩
    have j0 : 0 < 2 + r5 * 10 ^ 9 := by omega
    have d0 : 0 ≤ r4 / (2 + r5 * 10 ^ 9) := Int.ediv_nonneg r40 (by omega)
    have d1 : r4 / (2 + r5 * 10 ^ 9) * 2 ≤ r4 := by
      have e := Int.mul_ediv_self_le (x := r4) (k := 2 + r5 * 10 ^ 9) (by omega)
      have e2 := Int.mul_le_mul_of_nonneg_right (show (2 : Int) ≤ 2 + r5 * 10 ^ 9 by omega) d0
      rw [Int.mul_comm]; omega
    have p1 : ((1 - 2 * r2) * r3).natAbs ≤ 1000000000000000000 := by
      have : r2 = 0 ∨ r2 = 1 := by omega
      rcases this with rfl | rfl <;> omega
    have q1 : (1 + r4 / (2 + r5 * 10 ^ 9)).natAbs ≤ 1000000000000000000 := by omega
    refine ⟨?_, low_at (M := 1) (L := 1) (by omega) (pow_le (a := 64) (Nat.lt_of_le_of_lt p1 (by decide)) (by decide)) (pow_le (a := 64) (Nat.lt_of_le_of_lt q1 (by decide)) (by decide)) fun t H6 s6 h06 h6 => fin (by omega) p1 q1 B5 (Same.trans K1 (Same.trans K2 (Same.trans K3 (Same.trans K4 K5)))) s6 h06 h6⟩
    exact ⟨j0, logL (a := 64) (by omega) (by decide) (by decide)⟩
theorem ok__law_number (T : Txt w K mg) : FnOk P w K mg base CX0 1 T.a__law_number T.d__law_number ["x"] (spP1 K fun d => .bl (isNum d)) := by
  refine T.F__law_number.ok sc__law_number (fun vs H Q E h => ?_) (fun cdv A outer s H vs Q E hr h => ?_)
  · obtain ⟨v, d, rfl, _⟩ := h
    rfl
  · obtain ⟨v, d, rfl, hD, k⟩ := h
    refine ⟨_, (pss_one (ps_ret (pe_and (pe_callB (call_isiDK (K := K) rfl) (by rfl) T.n_isinstance (by decide +kernel) (pa_cons (pv 0) (pa_cons (pe_bltn (v := .ty "int") (u := .type "int") (by rfl) T.n_int (by decide +kernel) rfl) pa_nil))) (pe_one (pe_not (pe_callB (call_isiDK (K := K) rfl) (by rfl) T.n_isinstance (by decide +kernel) (pa_cons (pv 0) (pa_cons (pe_bltn (v := .ty "bool") (u := .type "bool") (by rfl) T.n_bool (by decide +kernel) rfl) pa_nil)))))))), ?_⟩
    walk_at "rs"
    refine ⟨v, "int", ⟨rfl, rfl⟩, d, hD, by decide, ite2 (fun h => ⟨v, "bool", ⟨rfl, rfl⟩, d, hD, by decide, ?_⟩) (fun h => ?_)⟩
    · have e : isNum d = !isTy "bool" d := by cases d <;> first | rfl | cases h
      rw [← e]; exact k H (Same.refl _)
    · have e : isNum d = false := by cases d <;> first | rfl | (exact absurd rfl h)
      have q : Q (.bl (isNum d)) H := k H (Same.refl _)
      rw [e] at q; exact q
def sp_isfrac (K : PySem.W.Frag) : Sp := fun vs H Q _ => ∃ (a : Addr) (f : Fr), vs = [.ref a] ∧ Pr K H a f.1 f.2 ∧ low f ∧ ∀ H', Same H H' → Q (.bl true) H'
theorem ok__law_is_fraction (T : Txt w K mg) : FnOk P w K mg base CX0 2 T.a__law_is_fraction T.d__law_is_fraction ["x"] (sp_isfrac K) := by
  refine T.F__law_is_fraction.ok sc__law_is_fraction (fun vs H Q E h => ?_) (fun cdv A outer s H vs Q E hr h => ?_)
  · obtain ⟨a, f, rfl, _⟩ := h
    rfl
  · obtain ⟨a, f, rfl, ha, hl, k⟩ := h
    have hr__law_gcd : Room 1 _ := hr
    have G__law_gcd := ok__law_gcd (P := P) (base := base) T
    have hr__law_number : Room 1 _ := hr
    have G__law_number := ok__law_number (P := P) (base := base) T
    refine ⟨_, (pss_cons (ps_if (PW.pt (pw_or (pt_not (pt_val (pe_callB (call_isiDK (K := K) rfl) (by rfl) T.n_isinstance (by decide +kernel) (pa_cons (pv 0) (pa_cons (pe_bltn (v := .ty "tuple") (u := .type "tuple") (by rfl) T.n_tuple (by decide +kernel) rfl) pa_nil))))) (pw_or1 (pt_cmpR op_neI (pe_callB call_len_seq (by rfl) T.n_len (by decide +kernel) (pa_cons (pv 0) pa_nil)) pe_int (nomark _))))) (pss_one (ps_ret pe_bl)) pss_nil)
      (pss_cons (ps_if (PW.pt (pw_or (pt_not (pt_val (pe_call G__law_number hr__law_number (by rfl) T.m__law_number T.F__law_number.kp T.B__law_number .nil pass0 (pa_cons (pe_ix ix_tup (pv 0) pe_int (fun _ _ => rfl)) pa_nil)))) (pw_or1 (pt_not (pt_val (pe_call G__law_number hr__law_number (by rfl) T.m__law_number T.F__law_number.kp T.B__law_number .nil pass0 (pa_cons (pe_ix ix_tup (pv 0) pe_int (fun _ _ => rfl)) pa_nil))))))) (pss_one (ps_ret pe_bl)) pss_nil)
      (pss_one (ps_ret (pe_and (pe_cmpR op_ge (pe_ix ix_tup (pv 0) pe_int (fun _ _ => rfl)) pe_int (nomark _)) (pe_one (pe_cmpR op_eqI (pe_call G__law_gcd hr__law_gcd (by rfl) T.m__law_gcd T.F__law_gcd.kp T.B__law_gcd .nil pass0 (pa_cons (pe_ix ix_tup (pv 0) pe_int (fun _ _ => rfl)) (pa_cons (pe_ix ix_tup (pv 0) pe_int (fun _ _ => rfl)) pa_nil))) pe_int (nomark _)))))))), ?_⟩
    refine seq_op fun N hN => ?_
    walk_at "rs"
    refine ⟨_, _, ⟨rfl, rfl⟩, _, dp_pair ha, by decide, iteFF (fun z => by cases z) ⟨_, .inr ha, iteFF (fun z => z rfl) (hN _ _ ?_)⟩⟩
    clear hN N
    refine seq_op fun N hN => ?_
    walk_at "rs"
    refine ⟨_, ha, _, rfl, _, _, rfl, .int _, fun H1 s1 => ⟨_, rfl, iteFF (fun z => by cases z) ⟨_, Same.seqT s1 ha, _, rfl, _, _, rfl, .int _, fun H2 s2 => ⟨_, rfl, iteFF (fun z => by cases z) (hN _ _ ?_)⟩⟩⟩⟩
    clear hN N
    walk_at "rs"
    have ha2 := Same.seqT (Same.trans s1 s2) ha
    refine ⟨_, ha2, _, rfl, _, rfl, iteTT hl.1 ⟨_, ha2, _, rfl, _, ha2, _, rfl, _, _, ⟨rfl, rfl⟩, ?_⟩⟩
    rw [hl.2]
    exact k H2 (Same.trans s1 s2)
def sp_same (K : PySem.W.Frag) : Sp := fun vs H Q _ => ∃ (a : Addr) (f : Fr) (X L : Int), vs = [.ref a, .int X, .int L] ∧ Pr K H a f.1 f.2 ∧ Va L X f ∧ 0 < L ∧ X.natAbs < 2 ^ 4000 ∧ L.natAbs < 2 ^ 4000 ∧ ∀ H', Same H H' → Q (.bl true) H'
theorem ok__law_same (T : Txt w K mg) : FnOk P w K mg base CX0 3 T.a__law_same T.d__law_same ["told", "upper", "lower"] (sp_same K) := by
  refine T.F__law_same.ok sc__law_same (fun vs H Q E h => ?_) (fun cdv A outer s H vs Q E hr h => ?_)
  · obtain ⟨a, f, X, L, rfl, _⟩ := h
    rfl
  · obtain ⟨a, f, X, L, rfl, ha, va, L0, lX, lL, k⟩ := h
    have hr__law_is_fraction : Room 2 _ := hr
    have G__law_is_fraction := ok__law_is_fraction (P := P) (base := base) T
    refine ⟨_, (pss_one (ps_ret (pe_and (pe_call G__law_is_fraction hr__law_is_fraction (by rfl) T.m__law_is_fraction T.F__law_is_fraction.kp T.B__law_is_fraction .nil pass0 (pa_cons (pv 0) pa_nil)) (pe_one (pe_cmpR op_eqI (pe_op op_mulW (pe_ix ix_tup (pv 0) pe_int (fun _ _ => rfl)) (pv 2)) (pe_op op_mulW (pv 1) (pe_ix ix_tup (pv 0) pe_int (fun _ _ => rfl))) (nomark _)))))), ?_⟩
    walk_at "rs"
    refine ⟨a, f, rfl, ha, ⟨va.1, va.2.1⟩, fun H1 s1 => ?_⟩
    have ha1 := Same.seqT s1 ha
    have n1 := va.num L0
    have d1 := va.den L0
    refine ⟨true, rfl, iteTT rfl ⟨_, ha1, _, rfl, _, rfl, mulW (Nat.lt_of_le_of_lt n1 lX) lL, _, ha1, _, rfl, _, rfl, mulW lX (Nat.lt_of_le_of_lt d1 lL), ?_⟩⟩
    rw [decide_eq_true va.2.2]
    exact k H1 s1
/-! ### common denominators -/
def lcI (a d : Int) : Int := a.fdiv ((Nat.gcd a.natAbs d.natAbs : Nat) : Int) * d
theorem lcI_spec {a d : Int} (ha : 0 < a) (hd : 0 < d) : 0 < lcI a d ∧ a ∣ lcI a d ∧ d ∣ lcI a d ∧ (lcI a d).natAbs ≤ a.natAbs * d.natAbs := by
  unfold lcI
  obtain ⟨a', ea⟩ := Nat.gcd_dvd_left a.natAbs d.natAbs
  obtain ⟨d', ed⟩ := Nat.gcd_dvd_right a.natAbs d.natAbs
  have g0 : 0 < Nat.gcd a.natAbs d.natAbs := Nat.gcd_pos_of_pos_left _ (by omega)
  generalize Nat.gcd a.natAbs d.natAbs = g at ea ed g0
  have ea2 : a = (g : Int) * (a' : Int) := by rw [← Int.natCast_mul, ← ea]; omega
  have ed2 : d = (g : Int) * (d' : Int) := by rw [← Int.natCast_mul, ← ed]; omega
  have a0 : 0 < a' := Nat.pos_of_ne_zero fun z => by rw [z] at ea; simp at ea; omega
  have e : a.fdiv (g : Int) = (a' : Int) := by
    rw [ea2, Int.fdiv_eq_ediv_of_nonneg _ (by omega), Int.mul_ediv_cancel_left _ (by omega)]
  rw [e]
  refine ⟨Int.mul_pos (by omega) hd, ?_, Int.dvd_mul_left _ _, ?_⟩
  · refine ⟨d', ?_⟩
    conv => lhs; rw [ed2]
    rw [ea2]
    simp only [Int.mul_assoc, Int.mul_comm, Int.mul_left_comm]
  · rw [Int.natAbs_mul]
    refine Nat.mul_le_mul_right _ ?_
    rw [ea]
    show a' ≤ _
    exact Nat.le_mul_of_pos_left _ g0
def comF (a : Int) (fs : List Fr) : Int := fs.foldl (fun a f => lcI a f.2) a
def comI (fs : List Fr) : Int := comF 1 fs
def prodD : List Fr → Nat
  | [] => 1
  | f :: fs => f.2.natAbs * prodD fs
theorem comF_spec : ∀ {fs : List Fr} {a : Int}, 0 < a → (∀ f ∈ fs, 1 ≤ f.2) → 0 < comF a fs ∧ a ∣ comF a fs ∧ (∀ f ∈ fs, f.2 ∣ comF a fs) ∧ (comF a fs).natAbs ≤ a.natAbs * prodD fs
  | [], a, h, _ => ⟨h, Int.dvd_refl _, fun f hf => absurd hf (by simp), by show a.natAbs ≤ a.natAbs * 1; omega⟩
  | f :: fs, a, h, hf => by
    obtain ⟨p, d1, d2, l⟩ := lcI_spec h (hf f List.mem_cons_self)
    obtain ⟨q, e1, e2, m⟩ := comF_spec (fs := fs) p fun g hg => hf g (List.mem_cons_of_mem _ hg)
    refine ⟨q, Int.dvd_trans d1 e1, fun g hg => ?_, ?_⟩
    · rcases List.mem_cons.mp hg with rfl | hg
      · exact Int.dvd_trans d2 e1
      · exact e2 g hg
    · refine Nat.le_trans m ?_
      show _ ≤ a.natAbs * (f.2.natAbs * prodD fs)
      rw [← Nat.mul_assoc]
      exact Nat.mul_le_mul_right _ l
theorem comI_spec {fs : List Fr} (h : ∀ f ∈ fs, 1 ≤ f.2) : 0 < comI fs ∧ (∀ f ∈ fs, f.2 ∣ comI fs) ∧ (comI fs).natAbs ≤ prodD fs := by
  obtain ⟨a, _, b, c⟩ := comF_spec (a := 1) (by decide) h
  exact ⟨a, b, by rw [show (1 : Int).natAbs = 1 from rfl, Nat.one_mul] at c; exact c⟩
theorem prodD_pos : ∀ {fs : List Fr}, (∀ f ∈ fs, 1 ≤ f.2) → 1 ≤ prodD fs
  | [], _ => Nat.le_refl _
  | f :: fs, h => by
    have := prodD_pos (fs := fs) fun g hg => h g (List.mem_cons_of_mem _ hg)
    have h1 := h f List.mem_cons_self
    exact Nat.mul_pos (by omega) this
theorem prodD_take : ∀ {fs : List Fr} (i : Nat), (∀ f ∈ fs, 1 ≤ f.2) → prodD (fs.take i) ≤ prodD fs
  | fs, 0, h => by rw [List.take_zero]; exact prodD_pos h
  | [], i + 1, _ => Nat.le_refl _
  | f :: fs, i + 1, h => Nat.mul_le_mul_left _ (prodD_take i fun g hg => h g (List.mem_cons_of_mem _ hg))
theorem prodD_mem : ∀ {fs : List Fr} {f : Fr}, (∀ f ∈ fs, 1 ≤ f.2) → f ∈ fs → f.2.natAbs ≤ prodD fs
  | g :: fs, f, h, hf => by
    have hp := prodD_pos (fs := fs) fun g hg => h g (List.mem_cons_of_mem _ hg)
    rcases List.mem_cons.mp hf with rfl | hf
    · exact Nat.le_mul_of_pos_right _ hp
    · have := h g List.mem_cons_self
      exact Nat.le_trans (prodD_mem (fun g hg => h g (List.mem_cons_of_mem _ hg)) hf) (Nat.le_mul_of_pos_left _ (by omega))
theorem prodD_app : ∀ (fs gs : List Fr), prodD (fs ++ gs) = prodD fs * prodD gs
  | [], gs => (Nat.one_mul _).symm
  | f :: fs, gs => by
    show f.2.natAbs * prodD (fs ++ gs) = f.2.natAbs * prodD fs * prodD gs
    rw [prodD_app fs gs, Nat.mul_assoc]
theorem comF_next {a : Int} {fs : List Fr} {i : Nat} {f : Fr} (h : fs[i]? = some f) : comF a (fs.take (i + 1)) = lcI (comF a (fs.take i)) f.2 := by
  obtain ⟨hi, rfl⟩ := List.getElem?_eq_some_iff.mp h
  unfold comF
  rw [← List.take_append_getElem hi, List.foldl_append]
  rfl
def sp_common (K : PySem.W.Frag) : Sp := fun vs H Q _ => ∃ (a : Addr) (xs : List V) (fs : List Fr), vs = [.ref a] ∧ (SqL K H a xs ∨ SqT K H a xs) ∧ Frs K H xs fs ∧ (∀ f ∈ fs, 1 ≤ f.2) ∧ prodD fs < 2 ^ 4000 ∧ ∀ H', Same H H' → Q (.int (comI fs)) H'
theorem ok__law_common (T : Txt w K mg) : FnOk P w K mg base CX0 2 T.a__law_common T.d__law_common ["parts"] (sp_common K) := by
  refine T.F__law_common.ok sc__law_common (fun vs H Q E h => ?_) (fun cdv A outer s H vs Q E hr h => ?_)
  · obtain ⟨a, xs, fs, rfl, _⟩ := h
    rfl
  · obtain ⟨a, xs, fs, rfl, ha, hf, h1, lp, k⟩ := h
    have hr__law_gcd : Room 1 _ := hr
    have G__law_gcd := ok__law_gcd (P := P) (base := base) T
    have le := hf.len
    refine ⟨_, (pss_cons (ps_set (i := 1) sc__law_common.nd rfl (Or.inl rfl) pe_int)
      (pss_cons (ps_for PassesOwn.never rfl (pi_lt (pv 0)) (pg_name (i := 2) sc__law_common.nd rfl (Or.inl rfl)) (pss_one (ps_set (i := 1) sc__law_common.nd rfl (Or.inl rfl) (pe_op op_mulW (pe_op op_fdivF (pv 1) (pe_call G__law_gcd hr__law_gcd (by rfl) T.m__law_gcd T.F__law_gcd.kp T.B__law_gcd .nil pass0 (pa_cons (pv 1) (pa_cons (pe_ix ix_tup (pv 2) pe_int (fun _ _ => rfl)) pa_nil)))) (pe_ix ix_tup (pv 2) pe_int (fun _ _ => rfl))))))
      (pss_one (ps_ret (pv 1))))), ?_⟩
    refine seq_op fun N hN => ?_
    walk_at "rs"
    refine hN _ _ ?_
    clear hN N
    refine cut_seq (fun σ H2 => ∃ x2 : Option V, σ = [some (.ref a), some (.int (comI fs)), x2] ∧ H2 = H) (fun N hN => ?_) ?_
    · refine for_lt (K := K) (a := a) (xs := xs) (fun Q q => ⟨_, rfl, q⟩) ha (fun i σ H2 => ∃ x2 : Option V, σ = [some (.ref a), some (.int (comF 1 (fs.take i))), x2] ∧ H2 = H) ⟨_, rfl, rfl⟩ (fun i σ H2 ⟨_, _, e⟩ => by rw [e]; exact Same.refl _) ?_ ?_
      · rintro i y σ H2 hi ⟨x2, rfl, rfl⟩
        obtain ⟨u, f, eu, ef, hu⟩ := hf.get (n := i) (by have := (List.getElem?_eq_some_iff.mp hi).1; omega)
        obtain rfl : y = .ref u := by rw [eu] at hi; exact (Option.some.inj hi).symm
        have en := comF_next (a := 1) ef
        have f1 := h1 f (List.mem_of_getElem? ef)
        obtain ⟨c0, _, _, cl⟩ := comF_spec (a := 1) (fs := fs.take i) (by decide) fun g hg => h1 g (List.mem_of_mem_take hg)
        obtain ⟨g0, _, _, gl⟩ := lcI_spec c0 (show 0 < f.2 by omega)
        have fl : f.2.natAbs < 2 ^ 4000 := Nat.lt_of_le_of_lt (prodD_mem h1 (List.mem_of_getElem? ef)) lp
        have cl2 : (comF 1 (fs.take i)).natAbs < 2 ^ 4000 := by
          refine Nat.lt_of_le_of_lt (Nat.le_trans cl ?_) lp
          rw [show (1 : Int).natAbs = 1 from rfl, Nat.one_mul]
          exact prodD_take i h1
        have gg : (Nat.gcd (comF 1 (fs.take i)).natAbs f.2.natAbs) ≠ 0 := Nat.ne_of_gt (Nat.gcd_pos_of_pos_right _ (by omega))
        have gs : (Nat.gcd (comF 1 (fs.take i)).natAbs f.2.natAbs) ≤ f.2.natAbs := Nat.le_of_dvd (by omega) (Nat.gcd_dvd_right _ _)
        have gl2 : (((Nat.gcd (comF 1 (fs.take i)).natAbs f.2.natAbs : Nat) : Int)).natAbs < 2 ^ 4000 := Nat.lt_of_le_of_lt gs fl
        have dl : ((comF 1 (fs.take i)).fdiv ((Nat.gcd (comF 1 (fs.take i)).natAbs f.2.natAbs : Nat) : Int)).natAbs < 2 ^ 4000 := by
          rw [Int.fdiv_eq_ediv_of_nonneg _ (by omega)]
          exact Nat.lt_of_le_of_lt (Int.natAbs_ediv_le_natAbs _ _) cl2
        walk_at "rs"
        exact ⟨_, hu, _, rfl, _, _, ⟨rfl, rfl⟩, ⟨Int.natCast_ne_zero.mpr gg, logL gl2 (by decide) (by decide)⟩, _, hu, _, rfl, _, rfl, mulW dl fl, en.symm, _, rfl⟩
      · rintro σ H2 ⟨x2, rfl, rfl⟩
        refine hN _ _ ⟨x2, ?_, rfl⟩
        rw [le, List.take_length]
        rfl
    · rintro σ H2 ⟨x2, rfl, rfl⟩
      walk_at "rs"
      exact k _ (Same.refl _)
end
end LK

set_option Elab.async false
set_option linter.all false
set_option maxRecDepth 100000
namespace LK
open PySem PySem.Spec PyProof.Rows L2
/-! ### zip of a tuple and a list: two sources of any kind -/
structure Src (p : Program) (w : World) (it l : Addr) (It : Nat → Heap → Prop) (Con : Array Value → Heap → Prop) : Prop where
  mvI : ∀ {i : Nat} {h g : Heap}, It i h → (∀ o, h.get? it = some o → g.get? it = some o) → It i g
  mvC : ∀ {xs : Array Value} {h g : Heap}, Con xs h → (∀ o, h.get? l = some o → g.get? l = some o) → Con xs g
  fld : ∀ {i : Nat} {h : Heap}, It i h → ∃ o fs, h.get? it = some o ∧ o.data = .fields fs
  more : ∀ {A : Around} {E : Value → Shared → Prop} {s : Shared} {i : Nat} {xs : Array Value} {x : Value} {Q : Value → Shared → Prop}, It i s.heap → Con xs s.heap → xs[i]? = some x →
    (∀ g, It (i + 1) g → Heap.SameBut it s.heap g → Q x { s with heap := g }) → wpAny (model p w) A (Builtin.SmallTypes.nextOf (.ref it)) Q E s
  over : ∀ {A : Around} {E : Value → Shared → Prop} {s : Shared} {i : Nat} {xs : Array Value} {Q : Value → Shared → Prop}, A.handled = none → It i s.heap → Con xs s.heap → xs[i]? = none →
    (∀ g e, Heap.ExtBut it s.heap g → (∃ o, g.get? e = some o ∧ o.cls = .type "StopIteration") → E (.ref e) { s with heap := g }) → wpAny (model p w) A (Builtin.SmallTypes.nextOf (.ref it)) Q E s
theorem src_tup (p : Program) (w : World) (it l : Addr) : Src p w it l (fun i h => h.IsTupleIter it l i) (fun xs h => h.IsTuple l xs) where
  mvI := fun a b => a.at b
  mvC := fun a b => a.at b
  fld := fun ⟨o, e, _, d⟩ => ⟨o, _, e, d⟩
  more := fun a b c k => RZ.nextOf_tuple_item a b c k
  over := fun a b c d k => RZ.nextOf_tuple_end a b c d k
theorem src_lst (p : Program) (w : World) (it l : Addr) : Src p w it l (fun i h => h.IsListIter it l i) (fun xs h => h.IsList l xs) where
  mvI := fun a b => a.at b
  mvC := fun a b => a.at b
  fld := fun ⟨o, e, _, d⟩ => ⟨o, _, e, d⟩
  more := fun a b c k => wpAny_nextOf_list_item a b c k
  over := fun a b c d k => wpAny_nextOf_list_end a b c d k
/-- all that a zip holds, at one point of time -/
structure ZS (z TI TO i1 i2 : Addr) (I1 I2 : Nat → Heap → Prop) (C1 C2 : Array Value → Heap → Prop) (xs ys : Array Value) (h : Heap) (f a b : Value) (k1 k2 : Nat) : Prop where
  oz : IsZip h z TI TO f
  ti : IsPair h TI (.ref i1) (.ref i2)
  tt : IsPair h TO a b
  j1 : I1 k1 h
  j2 : I2 k2 h
  c1 : C1 xs h
  c2 : C2 ys h
section
variable {prog : Program} {w : World} {A : Around} {E : Value → Shared → Prop} {s : Shared} {z TI TO i1 i2 l1 l2 : Addr} {I1 I2 : Nat → Heap → Prop} {C1 C2 : Array Value → Heap → Prop} {xs ys : Array Value} {f a b : Value} {k1 k2 : Nat} {h g : Heap}
theorem ZS.atZ (D : ZipApart z TI TO i1 i2 l1 l2) (S1 : Src prog w i1 l1 I1 C1) (S2 : Src prog w i2 l2 I2 C2) (q : ZS z TI TO i1 i2 I1 I2 C1 C2 xs ys h f a b k1 k2) (e : Heap.ExtBut z h g) {f' : Value} (n : IsZip g z TI TO f') : ZS z TI TO i1 i2 I1 I2 C1 C2 xs ys g f' a b k1 k2 :=
  ⟨n, e _ _ D.TIz q.ti, e _ _ D.TOz q.tt, S1.mvI q.j1 fun o => e _ o D.i1z, S2.mvI q.j2 fun o => e _ o D.i2z, S1.mvC q.c1 fun o => e _ o D.l1z, S2.mvC q.c2 fun o => e _ o D.l2z⟩
theorem ZS.atO (D : ZipApart z TI TO i1 i2 l1 l2) (S1 : Src prog w i1 l1 I1 C1) (S2 : Src prog w i2 l2 I2 C2) (q : ZS z TI TO i1 i2 I1 I2 C1 C2 xs ys h f a b k1 k2) (e : Heap.ExtBut TO h g) {a' b' : Value} (n : IsPair g TO a' b') : ZS z TI TO i1 i2 I1 I2 C1 C2 xs ys g f a' b' k1 k2 :=
  ⟨e _ _ D.TOz.symm q.oz, e _ _ D.TITO q.ti, n, S1.mvI q.j1 fun o => e _ o D.TOi1.symm, S2.mvI q.j2 fun o => e _ o D.TOi2.symm, S1.mvC q.c1 fun o => e _ o D.l1TO, S2.mvC q.c2 fun o => e _ o D.l2TO⟩
theorem ZS.at1 (D : ZipApart z TI TO i1 i2 l1 l2) (S1 : Src prog w i1 l1 I1 C1) (S2 : Src prog w i2 l2 I2 C2) (q : ZS z TI TO i1 i2 I1 I2 C1 C2 xs ys h f a b k1 k2) (e : Heap.ExtBut i1 h g) {k : Nat} (n : I1 k g) : ZS z TI TO i1 i2 I1 I2 C1 C2 xs ys g f a b k k2 :=
  ⟨e _ _ D.i1z.symm q.oz, e _ _ D.TIi1 q.ti, e _ _ D.TOi1 q.tt, n, S2.mvI q.j2 fun o => e _ o D.i12.symm, S1.mvC q.c1 fun o => e _ o D.l1i1, S2.mvC q.c2 fun o => e _ o D.l2i1⟩
theorem ZS.at2 (D : ZipApart z TI TO i1 i2 l1 l2) (S1 : Src prog w i1 l1 I1 C1) (S2 : Src prog w i2 l2 I2 C2) (q : ZS z TI TO i1 i2 I1 I2 C1 C2 xs ys h f a b k1 k2) (e : Heap.ExtBut i2 h g) {k : Nat} (n : I2 k g) : ZS z TI TO i1 i2 I1 I2 C1 C2 xs ys g f a b k1 k :=
  ⟨e _ _ D.i2z.symm q.oz, e _ _ D.TIi2 q.ti, e _ _ D.TOi2 q.tt, S1.mvI q.j1 fun o => e _ o D.i12, n, S1.mvC q.c1 fun o => e _ o D.l1i2, S2.mvC q.c2 fun o => e _ o D.l2i2⟩
/-- what lies beside the zip stays -/
def Stay (z TO i1 i2 : Addr) (h g : Heap) : Prop := ∀ c o, c ≠ z → c ≠ TO → c ≠ i1 → c ≠ i2 → h.get? c = some o → g.get? c = some o
theorem Stay.tr {h1 h2 h3 : Heap} (p : Stay z TO i1 i2 h1 h2) (q : Stay z TO i1 i2 h2 h3) : Stay z TO i1 i2 h1 h3 := fun c o n1 n2 n3 n4 e => q c o n1 n2 n3 n4 (p c o n1 n2 n3 n4 e)
theorem Stay.zz (e : Heap.ExtBut z h g) : Stay z TO i1 i2 h g := fun c o n1 _ _ _ => e c o n1
theorem Stay.o (e : Heap.ExtBut TO h g) : Stay z TO i1 i2 h g := fun c o _ n2 _ _ => e c o n2
theorem Stay.i (e : Heap.ExtBut i1 h g) : Stay z TO i1 i2 h g := fun c o _ _ n3 _ => e c o n3
theorem Stay.j (e : Heap.ExtBut i2 h g) : Stay z TO i1 i2 h g := fun c o _ _ _ n4 => e c o n4
theorem zm_item {x y : Value} {Q : Value → Shared → Prop} (D : ZipApart z TI TO i1 i2 l1 l2) (S1 : Src prog w i1 l1 I1 C1) (S2 : Src prog w i2 l2 I2 C2) (q0 : ZS z TI TO i1 i2 I1 I2 C1 C2 xs ys s.heap .none a b k1 k2) (hx : xs[k1]? = some x) (hy : ys[k2]? = some y)
    (k : ∀ g, ZS z TI TO i1 i2 I1 I2 C1 C2 xs ys g (rawInt s.heap.objs.size) x y (k1 + 1) (k2 + 1) → IsPair g s.heap.objs.size x y → g.objs.size = s.heap.objs.size + 1 → Stay z TO i1 i2 s.heap g → Q (.ref s.heap.objs.size) { s with heap := g }) :
    wpAny (model prog w) A (Builtin.«zip.__next__» ⟨[.ref z], []⟩) (fun r s' => ∃ v, r = .done (.ret v) ∧ Q v s') E s := by
  have oz := q0.oz
  show wpAny (model prog w) _ (field (.ref z) 2 >>= _) _ E _
  refine wpAny_bind (wpAny_field oz rfl (x := .bool false) rfl ?_)
  show wpAny (model prog w) _ (field (.ref z) 3 >>= _) _ E _
  refine wpAny_bind (wpAny_field oz rfl (x := .ref TI) rfl (wpAny_bind (wpAny_seqItems q0.ti rfl ?_)))
  show wpAny (model prog w) _ (Builtin.SmallTypes.ownedTupleIsFree (.ref z) >>= _) _ E _; unfold Builtin.SmallTypes.ownedTupleIsFree
  refine wpAny_bind (wpAny_bind (wpAny_field oz rfl (x := .none) rfl (wpAny_pure ?_)))
  simp only [if_true]
  refine wpAny_bind (wpAny_rule (wpAny_bind (wpAny_field oz rfl (x := .ref TO) rfl (wpAny_bind (wpAny_setField_rec oz (by simp) fun g1 z1 e1 => ?_)))))
  have q1 := q0.atZ D S1 S2 e1.extBut (f' := .ellipsis) z1
  have t1 : Stay z TO i1 i2 s.heap g1 := .zz e1.extBut
  simp only [List.forIn_cons, List.forIn_nil, List.zipIdx_cons, List.zipIdx_nil]
  refine wpAny_bind (wpAny_bind (wpAny_bind (wpAny_onRaise ?_)))
  show wpAny (model prog w) _ (Builtin.SmallTypes.nextOf (.ref i1) >>= _) _ _ _
  refine wpAny_bind (S1.more q1.j1 q1.c1 hx fun g2 n2 e2 => wpAny_pure ?_)
  have q2 := q1.at1 D S1 S2 e2.extBut n2
  have t2 := t1.tr (.i e2.extBut)
  refine wpAny_bind (wpAny_seqItems q2.tt rfl (wpAny_bind (wpAny_updateSeq_pair q2.tt fun g3 n3 e3 => ?_)))
  have q3 := q2.atO D S1 S2 e3.extBut (a' := x) (b' := b) n3
  have t3 := t2.tr (.o e3.extBut)
  refine wpAny_bind (wpAny_letGo (wpAny_pure (wpAny_bind (wpAny_bind (wpAny_onRaise ?_)))))
  show wpAny (model prog w) _ (Builtin.SmallTypes.nextOf (.ref i2) >>= _) _ _ _
  refine wpAny_bind (S2.more q3.j2 q3.c2 hy fun g4 n4 e4 => wpAny_pure ?_)
  have q4 := q3.at2 D S1 S2 e4.extBut n4
  have t4 := t3.tr (.j e4.extBut)
  refine wpAny_bind (wpAny_seqItems q4.tt rfl (wpAny_bind (wpAny_updateSeq_pair q4.tt fun g5 n5 e5 => ?_)))
  have q5 := q4.atO D S1 S2 e5.extBut (a' := x) (b' := y) n5
  have t5 := t4.tr (.o e5.extBut)
  have sz : g5.objs.size = s.heap.objs.size := by rw [e5.1, e4.1, e3.1, e2.1, e1.1]
  refine wpAny_bind (wpAny_letGo (wpAny_pure (wpAny_pure (wpAny_bind (wpAny_seqItems q5.tt rfl (wpAny_bind (wpAny_newTuple ?_)))))))
  show wpAny (model prog w) _ (Builtin.SmallTypes.ownedTupleHandOut (.ref z) (.ref g5.objs.size) >>= _) _ E _; unfold Builtin.SmallTypes.ownedTupleHandOut
  have pz : IsZip (g5.push { cls := .type "tuple", data := .seq #[x, y] }) z TI TO .ellipsis := Heap.get?_push_of_some _ q5.oz
  refine wpAny_bind (wpAny_bind (wpAny_setField_rec pz (by simp) fun g7 z7 e7 => ?_))
  have z7' : IsZip g7 z TI TO (rawInt g5.objs.size) := z7
  refine wpAny_setField_rec z7' (by simp) fun g8 z8 e8 => ?_
  have z8' : IsZip g8 z TI TO (rawInt g5.objs.size) := z8
  have e58 : Heap.ExtBut z g5 g8 := fun c o n e => e8.extBut _ _ n (e7.extBut _ _ n (Heap.get?_push_of_some _ e))
  have q8 := q5.atZ D S1 S2 e58 z8'
  have nz : g5.objs.size ≠ z := Nat.ne_of_gt (Heap.lt_size q5.oz)
  have p8 : IsPair g8 g5.objs.size x y := e8.extBut _ _ nz (e7.extBut _ _ nz (Heap.get?_push_size _ rfl))
  have s8 : g8.objs.size = g5.objs.size + 1 := by rw [e8.1, e7.1, Heap.size_push]
  refine wpAny_pure ⟨.ref g5.objs.size, rfl, ?_⟩
  rw [sz] at q8 p8 s8 ⊢
  exact k g8 q8 p8 s8 (t5.tr (.zz e58))
/-- the last turn: one of the two has no more -/
theorem zm_end {Q : Fin → Shared → Prop} (hh : A.handled = none) (D : ZipApart z TI TO i1 i2 l1 l2) (S1 : Src prog w i1 l1 I1 C1) (S2 : Src prog w i2 l2 I2 C2) (q0 : ZS z TI TO i1 i2 I1 I2 C1 C2 xs ys s.heap .none a b k1 k2) (he : xs[k1]? = none ∨ ys[k2]? = none)
    (k : ∀ g e, Stay z TO i1 i2 s.heap g → (∃ o, g.get? e = some o ∧ o.cls = .type "StopIteration") → E (.ref e) { s with heap := g }) : wpAny (model prog w) A (Builtin.«zip.__next__» ⟨[.ref z], []⟩) Q E s := by
  have oz := q0.oz
  show wpAny (model prog w) _ (field (.ref z) 2 >>= _) _ E _
  refine wpAny_bind (wpAny_field oz rfl (x := .bool false) rfl ?_)
  show wpAny (model prog w) _ (field (.ref z) 3 >>= _) _ E _
  refine wpAny_bind (wpAny_field oz rfl (x := .ref TI) rfl (wpAny_bind (wpAny_seqItems q0.ti rfl ?_)))
  show wpAny (model prog w) _ (Builtin.SmallTypes.ownedTupleIsFree (.ref z) >>= _) _ E _; unfold Builtin.SmallTypes.ownedTupleIsFree
  refine wpAny_bind (wpAny_bind (wpAny_field oz rfl (x := .none) rfl (wpAny_pure ?_)))
  simp only [if_true]
  refine wpAny_bind (wpAny_rule (wpAny_bind (wpAny_field oz rfl (x := .ref TO) rfl (wpAny_bind (wpAny_setField_rec oz (by simp) fun g1 z1 e1 => ?_)))))
  have q1 := q0.atZ D S1 S2 e1.extBut (f' := .ellipsis) z1
  have t1 : Stay z TO i1 i2 s.heap g1 := .zz e1.extBut
  have fin : ∀ {g2 : Heap} {e : Addr}, IsZip g2 z TI TO .ellipsis → Stay z TO i1 i2 s.heap g2 → (∃ o, g2.get? e = some o ∧ o.cls = .type "StopIteration") → ∀ g3, Heap.SameBut z g2 g3 → E (.ref e) { s with heap := g3 } := fun z2 t2 ⟨o, h1, h2⟩ g3 e3 =>
    k _ _ (t2.tr (.zz e3.extBut)) ⟨o, e3.extBut _ _ (fun n => by subst n; rw [z2] at h1; cases h1; simp at h2) h1, h2⟩
  simp only [List.forIn_cons, List.forIn_nil, List.zipIdx_cons, List.zipIdx_nil]
  refine wpAny_bind (wpAny_bind (wpAny_bind (wpAny_onRaise ?_)))
  show wpAny (model prog w) _ (Builtin.SmallTypes.nextOf (.ref i1) >>= _) _ _ _
  by_cases hx : xs[k1]? = none
  · refine wpAny_bind (S1.over hh q1.j1 q1.c1 hx fun g2 e e2 so => ?_)
    have z2 := e2 _ _ D.i1z.symm q1.oz
    exact wpAny_setField_rec z2 (by simp) fun g3 _ e3 => fin z2 (t1.tr (.i e2)) so g3 e3
  · obtain ⟨x, hx1⟩ := Option.ne_none_iff_exists'.mp hx
    have hy := he.resolve_left hx
    refine wpAny_bind (S1.more q1.j1 q1.c1 hx1 fun g2 n2 e2 => wpAny_pure ?_)
    have q2 := q1.at1 D S1 S2 e2.extBut n2
    refine wpAny_bind (wpAny_seqItems q2.tt rfl (wpAny_bind (wpAny_updateSeq_pair q2.tt fun g3 n3 e3 => ?_)))
    have q3 := q2.atO D S1 S2 e3.extBut (a' := x) (b' := b) n3
    refine wpAny_bind (wpAny_letGo (wpAny_pure (wpAny_bind (wpAny_bind (wpAny_onRaise ?_)))))
    show wpAny (model prog w) _ (Builtin.SmallTypes.nextOf (.ref i2) >>= _) _ _ _
    refine wpAny_bind (S2.over hh q3.j2 q3.c2 hy fun g4 e e4 so => ?_)
    have z4 := e4 _ _ D.i2z.symm q3.oz
    exact wpAny_setField_rec z4 (by simp) fun g5 _ e5 => fin z4 (((t1.tr (.i e2.extBut)).tr (.o e3.extBut)).tr (.j e4)) so g5 e5
theorem zm_next {x y : Value} {Q : Option Value → Shared → Prop} (D : ZipApart z TI TO i1 i2 l1 l2) (S1 : Src prog w i1 l1 I1 C1) (S2 : Src prog w i2 l2 I2 C2) (q0 : ZS z TI TO i1 i2 I1 I2 C1 C2 xs ys s.heap .none a b k1 k2) (hx : xs[k1]? = some x) (hy : ys[k2]? = some y)
    (k : ∀ g, ZS z TI TO i1 i2 I1 I2 C1 C2 xs ys g (rawInt s.heap.objs.size) x y (k1 + 1) (k2 + 1) → IsPair g s.heap.objs.size x y → g.objs.size = s.heap.objs.size + 1 → Stay z TO i1 i2 s.heap g → Q (some (.ref s.heap.objs.size)) { s with heap := g }) : wpAny (model prog w) A (pyNext (.ref z)) Q E s := by
  have ty : s.TypeIs (.ref z) "zip" := ⟨_, q0.oz, rfl⟩
  unfold pyNext
  exact wpAny_bind (wpAny_attempt (wpAny_callSpecial?_slot (name := Str.ofString "__next__") ty F.slot_zip_next (wpAny_call_entry F.slot_zip_next ty F.entry_zip_next (zm_item D S1 S2 q0 hx hy fun g p1 p2 p3 p4 => wpAny_pure (k g p1 p2 p3 p4)) (F.args_zip_next_1 _))))
theorem zm_stop {Q : Option Value → Shared → Prop} (hh : A.handled = none) (D : ZipApart z TI TO i1 i2 l1 l2) (S1 : Src prog w i1 l1 I1 C1) (S2 : Src prog w i2 l2 I2 C2) (q0 : ZS z TI TO i1 i2 I1 I2 C1 C2 xs ys s.heap .none a b k1 k2) (he : xs[k1]? = none ∨ ys[k2]? = none)
    (k : ∀ g, Stay z TO i1 i2 s.heap g → Q none { s with heap := g }) : wpAny (model prog w) A (pyNext (.ref z)) Q E s := by
  have ty : s.TypeIs (.ref z) "zip" := ⟨_, q0.oz, rfl⟩
  unfold pyNext
  refine wpAny_bind (wpAny_attempt (wpAny_callSpecial?_slot (name := Str.ofString "__next__") ty F.slot_zip_next (wpAny_call_entry F.slot_zip_next ty F.entry_zip_next (zm_end hh D S1 S2 q0 he fun g e st so => ?_) (F.args_zip_next_1 _))))
  obtain ⟨o, h1, h2⟩ := so
  exact wpAny_bind (wpAny_isInstance (T := "StopIteration") (b := true) ⟨o, h1, h2⟩ isSubtype_stop (wpAny_pure (k _ st)))
end
/-- the five new objects of zip(tuple, list) -/
def zp1 (h : Heap) (l1 : Addr) : Heap := h.push { cls := .type "tuple_iterator", data := .fields #[.ref l1, .int 0 0] }
def zp2 (h : Heap) (l1 l2 : Addr) : Heap := (zp1 h l1).push { cls := .type "list_iterator", data := .fields #[.ref l2, .int 0 0] }
def zp3 (h : Heap) (l1 l2 : Addr) : Heap := (zp2 h l1 l2).push { cls := .type "tuple", data := .seq #[.ref h.objs.size, .ref (zp1 h l1).objs.size] }
def zp4 (h : Heap) (l1 l2 : Addr) : Heap := (zp3 h l1 l2).push { cls := .type "tuple", data := .seq #[.none, .none] }
def zp5 (h : Heap) (l1 l2 : Addr) : Heap := (zp4 h l1 l2).push { cls := .type "zip", data := .fields #[.none, .bool false, .bool false, .ref (zp2 h l1 l2).objs.size, .ref (zp3 h l1 l2).objs.size] }
theorem zp_new (l1 l2 : Addr) (xs ys : Array Value) : Meets (Builtin.«zip.__new__» ⟨[.type "zip", .ref l1, .ref l2], []⟩) fun _ R s => s.heap.IsTuple l1 xs ∧ s.heap.IsList l2 ys ∧ R (.ok (.ret (.ref (zp4 s.heap l1 l2).objs.size))) { s with heap := zp5 s.heap l1 l2 } :=
  .of_wp fun pr wd ar R s h => by
    obtain ⟨hp, gl, dd, tk, os⟩ := s
    obtain ⟨h1, h2, h⟩ := h
    have hsub := sub_zip
    have t1 : Heap.IsTuple (Shared.heap ⟨hp, gl, dd, tk, os⟩) l1 xs := h1
    have t2 : Heap.IsList (Shared.heap ⟨hp.push { cls := .type "tuple_iterator", data := .fields #[.ref l1, .int 0 0] }, gl, dd, tk, os⟩) l2 ys := Heap.IsList.push h2 _
    wp_walk using wpAny_pyIter_tuple t1, wpAny_pyIter_list t2
    exact ⟨_, rfl, h⟩
section
variable {prog : Program} {w : World} {s : Shared} {A : Around} {E : Value → Shared → Prop}
theorem call_zipM {l1 l2 : Addr} {xs ys : Array Value} {Q : Value → Shared → Prop} (h1 : s.heap.IsTuple l1 xs) (h2 : s.heap.IsList l2 ys)
    (k : ∀ g, IsZip g (s.heap.objs.size + 4) (s.heap.objs.size + 2) (s.heap.objs.size + 3) .none → IsPair g (s.heap.objs.size + 2) (.ref s.heap.objs.size) (.ref (s.heap.objs.size + 1)) → IsPair g (s.heap.objs.size + 3) .none .none →
      g.IsTupleIter s.heap.objs.size l1 0 → g.IsListIter (s.heap.objs.size + 1) l2 0 → (∀ c o, s.heap.get? c = some o → g.get? c = some o) → Q (.ref (s.heap.objs.size + 4)) { s with heap := g }) : wpAny (model prog w) A (call (.type "zip") [.ref l1, .ref l2]) Q E s := by
  refine callType_new F.called_zip (by decide) (F.typeCall_zip_2 _ _) (F.newCall_zip_2 _ _) (fun obj => F.args_object_init_3 obj _ _) F.entry_zip_new (zp_new l1 l2 xs ys) ⟨h1, h2, ?_⟩
  have n1 : (zp1 s.heap l1).objs.size = s.heap.objs.size + 1 := Heap.size_push _ _
  have n2 : (zp2 s.heap l1 l2).objs.size = s.heap.objs.size + 2 := (Heap.size_push _ _).trans (by rw [n1])
  have n3 : (zp3 s.heap l1 l2).objs.size = s.heap.objs.size + 3 := (Heap.size_push _ _).trans (by rw [n2])
  have n4 : (zp4 s.heap l1 l2).objs.size = s.heap.objs.size + 4 := (Heap.size_push _ _).trans (by rw [n3])
  have m5 : IsZip (zp5 s.heap l1 l2) (zp4 s.heap l1 l2).objs.size (zp2 s.heap l1 l2).objs.size (zp3 s.heap l1 l2).objs.size .none := Heap.get?_push_size _ rfl
  have m4 : IsPair (zp5 s.heap l1 l2) (zp3 s.heap l1 l2).objs.size .none .none := Heap.get?_push_of_some _ (Heap.get?_push_size _ rfl)
  have m3 : IsPair (zp5 s.heap l1 l2) (zp2 s.heap l1 l2).objs.size (.ref s.heap.objs.size) (.ref (zp1 s.heap l1).objs.size) := Heap.get?_push_of_some _ (Heap.get?_push_of_some _ (Heap.get?_push_size _ rfl))
  have m2 : (zp5 s.heap l1 l2).IsListIter (zp1 s.heap l1).objs.size l2 0 := ⟨_, Heap.get?_push_of_some _ (Heap.get?_push_of_some _ (Heap.get?_push_of_some _ (Heap.get?_push_size _ rfl))), rfl, rfl⟩
  have m1 : (zp5 s.heap l1 l2).IsTupleIter s.heap.objs.size l1 0 := ⟨_, Heap.get?_push_of_some _ (Heap.get?_push_of_some _ (Heap.get?_push_of_some _ (Heap.get?_push_of_some _ (Heap.get?_push_size _ rfl)))), rfl, rfl⟩
  have m0 : ∀ c o, s.heap.get? c = some o → (zp5 s.heap l1 l2).get? c = some o := fun c o e => Heap.get?_push_of_some _ (Heap.get?_push_of_some _ (Heap.get?_push_of_some _ (Heap.get?_push_of_some _ (Heap.get?_push_of_some _ e))))
  rw [n2, n3, n4] at m5
  rw [n3] at m4
  rw [n2, n1] at m3
  rw [n1] at m2
  show _ ∧ _
  rw [n4]
  exact ⟨⟨_, m5, rfl⟩, k _ m5 m3 m4 m1 m2 m0⟩
end
def ItzM (K : PySem.W.Frag) (a b : Addr) : It where
  go := fun i H => ∃ (xs ys : List V) (x y : V), SqT K H a xs ∧ SqL K H b ys ∧ xs[i]? = some x ∧ ys[i]? = some y
  yld := fun i H v H' => ∃ T x y, v = .ref T ∧ H T = none ∧ H' = L2.upd H T (.tup [x, y]) ∧ (∀ xs, SqT K H a xs → xs[i]? = some x) ∧ ∀ ys, SqL K H b ys → ys[i]? = some y
  stop := fun i H => ∃ xs ys : List V, SqT K H a xs ∧ SqL K H b ys ∧ (xs.length ≤ i ∨ ys.length ≤ i)
def tnM (z TI TO i1 i2 a b : Addr) (i : Nat) (h : Heap) : Prop := ∃ x y, IsZip h z TI TO .none ∧ IsPair h TI (.ref i1) (.ref i2) ∧ IsPair h TO x y ∧ h.IsTupleIter i1 a i ∧ h.IsListIter i2 b i
theorem turn_zipM {P : Program} {w : World} {K : PySem.W.Frag} {elts : List Expr} {kk : Nat} {tpos : Pos} {a b z TI TO i1 i2 : Addr} (D : ZipApart z TI TO i1 i2 a b) : Turn P w K (.Tuple elts kk tpos) (ItzM K a b) [z, TI, TO, i1, i2] z (tnM z TI TO i1 i2 a b) where
  mem := List.mem_cons_self
  obj := fun i h ⟨x, y, h1, h2, h3, h4, h5⟩ c hc => by
    obtain ⟨o4, f4, e4, d4⟩ := (src_tup P w i1 a).fld h4
    obtain ⟨o5, f5, e5, d5⟩ := (src_lst P w i2 b).fld h5
    simp only [List.mem_cons, List.not_mem_nil, or_false] at hc
    rcases hc with rfl | rfl | rfl | rfl | rfl
    · exact ⟨_, h1, fun v q => nomatch q⟩
    · exact ⟨_, h2, fun v q => nomatch q⟩
    · exact ⟨_, h3, fun v q => nomatch q⟩
    · exact ⟨o4, e4, fun v q => by rw [d4] at q; cases q⟩
    · exact ⟨o5, e5, fun v q => by rw [d5] at q; cases q⟩
  keep := fun i h g ⟨x, y, h1, h2, h3, h4, h5⟩ k => ⟨x, y, k z (by simp) _ h1, k TI (by simp) _ h2, k TO (by simp) _ h3, (src_tup P w i1 a).mvI h4 fun o => k i1 (by simp) o, (src_lst P w i2 b).mvI h5 fun o => k i2 (by simp) o⟩
  item := by
    rintro X rfl rfl rfl hc i pins s σ H E I hf ⟨x0, y0, h1, h2, h3, h4, h5⟩ ⟨xs, ys, x, y, qx, qy, ex, ey⟩
    obtain ⟨its, rv, p, _⟩ := I.tuple qx
    obtain ⟨jts, rw', p', _⟩ := I.list qy
    obtain ⟨u, eu, ru⟩ := rv.get ex
    obtain ⟨v, ev, rvv⟩ := rw'.get ey
    refine zm_next D (src_tup X.prog X.w i1 a) (src_lst X.prog X.w i2 b) ⟨h1, h2, h3, h4, h5, (show s.heap.IsTuple a its.toArray from p), p'.isList⟩ (x := u) (y := v) (by simpa using eu) (by simpa using ev) fun g q pp sz st => ⟨_, rfl, wpAny_letOwnedTupleGo_zip (s := { s with heap := g }) q.oz fun g2 z2 e2 => ?_⟩
    have q2 := q.atZ D (src_tup X.prog X.w i1 a) (src_lst X.prog X.w i2 b) e2.extBut z2
    have nz : s.heap.objs.size ≠ z := Nat.ne_of_gt (Heap.lt_size h1)
    have pp2 : IsPair g2 s.heap.objs.size u v := e2.extBut _ _ nz pp
    have ok : ObjOk X.prog X.w (L2.upd H s.heap.objs.size (.tup [x, y])) g2 s.heap.objs.size (.tup [x, y]) := ⟨by show 2 ≤ sizeLine; decide, [u, v], .cons ru (.cons rvv .nil), ⟨_, pp2, rfl, _, rfl⟩⟩
    have st2 : Stay z TO i1 i2 s.heap g2 := st.tr (.zz e2.extBut)
    have I2 : Inv X pins σ (L2.upd H s.heap.objs.size (.tup [x, y])) { s with heap := g2 } := I.turnedNew (t' := s.toks) (ch := [z, TI, TO, i1, i2]) (fun c o hb e => st2 c o (fun n => hb (by simp [n])) (fun n => hb (by simp [n])) (fun n => hb (by simp [n])) (fun n => hb (by simp [n])) e) hf (Nat.le_refl _) ok
    refine ⟨.ref s.heap.objs.size, _, I2, rfl, ⟨_, x, y, rfl, I.hok.fresh (Nat.le_refl _), rfl, fun l hl => by rw [I.tuple_inj hl qx]; exact ex, fun l hl => by rw [I.list_inj hl qy]; exact ey⟩, ⟨u, v, q2.oz, q2.ti, q2.tt, q2.j1, q2.j2⟩, fun c hcm => ?_⟩
    have lt : c < s.heap.objs.size := by
      obtain ⟨o4, _, e4, _⟩ := (src_tup X.prog X.w i1 a).fld h4
      obtain ⟨o5, _, e5, _⟩ := (src_lst X.prog X.w i2 b).fld h5
      have m := hcm
      simp only [List.mem_cons, List.not_mem_nil, or_false] at m
      rcases m with rfl | rfl | rfl | rfl | rfl
      · exact Heap.lt_size h1
      · exact Heap.lt_size h2
      · exact Heap.lt_size h3
      · exact Heap.lt_size e4
      · exact Heap.lt_size e5
    rw [upd_ne (Nat.ne_of_lt lt)]
    exact (hf c hcm).1
  done := by
    rintro X rfl rfl rfl hc i pins s σ H E I hf ⟨x0, y0, h1, h2, h3, h4, h5⟩ ⟨xs, ys, qx, qy, he⟩
    obtain ⟨its, rv, p, _⟩ := I.tuple qx
    obtain ⟨jts, rw', p', _⟩ := I.list qy
    have l1 := rv.length
    have l2 := rw'.length
    refine zm_stop (I.ok.hd hc) D (src_tup X.prog X.w i1 a) (src_lst X.prog X.w i2 b) ⟨h1, h2, h3, h4, h5, (show s.heap.IsTuple a its.toArray from p), p'.isList⟩ (he.imp (fun l => by simp; omega) fun l => by simp; omega) fun g st => ⟨rfl, I.turnedL (t' := s.toks) (ch := [z, TI, TO, i1, i2]) (fun c o hb e => st c o (fun n => hb (by simp [n])) (fun n => hb (by simp [n])) (fun n => hb (by simp [n])) (fun n => hb (by simp [n])) e) hf⟩
  self := fun A i s Q E ⟨_, _, h1, _⟩ k => wpAny_pyIter_zip h1 k
def iZipM (K : PySem.W.Frag) (ta : TA) : TI := fun σ H R => ta σ H fun vs H1 => ∃ a b xs ys, vs = [.ref a, .ref b] ∧ SqT K H1 a xs ∧ SqL K H1 b ys ∧ R (ItzM K a b) H1
theorem pi_zipM {X : Cx} {e e2 : Expr} {ta : TA} {p pos tpos : Pos} {elts : List Expr} {kk : Nat} (hg : Gl X "zip") (hm : X.mg "zip" = none) (ha : PA X [e, e2] ta) (hs : starEach [e, e2] X.env = (false, eval e X.env) :: starEach [e2] X.env := by rfl) (hpl : (backTo pos (starEach [e2] X.env)).any (·.1) = false := by rfl) :
    PI X (.Tuple elts kk tpos) (.Call (.Name "zip" p) [e, e2] [] pos) (iZipM X.K ta) := by
  refine ⟨fun pins s σ H R I h => Call_ (ld_blt I hg hm PyProof.Rows.boot_zip (PyProof.Rows.callWith_type1 (thn (ha.run pos pins s σ H _ I h) fun us s1 ⟨vs, H1, I1, r1, a, b, xs, ys, ex, qx, qy, q⟩ => ?_) hs hpl))⟩
  subst ex
  obtain _ | ⟨r, r'⟩ := r1
  obtain _ | ⟨r2, r''⟩ := r'
  cases r''
  cases r
  cases r2
  obtain ⟨its, rv, p1, _⟩ := I1.tuple qx
  obtain ⟨jts, rw', p2, _⟩ := I1.list qy
  obtain ⟨o1, ho1, _⟩ := id p1
  refine call_zipM (show s1.heap.IsTuple a its.toArray from p1) p2.isList fun g z1 z2 z3 z4 z5 k => wpAny_pyIter_zip z1 ?_
  have I2 : Inv X pins σ H1 { s1 with heap := g } := I1.kept (t' := s1.toks) k
  refine ⟨s1.heap.objs.size + 4, [s1.heap.objs.size + 4, s1.heap.objs.size + 2, s1.heap.objs.size + 3, s1.heap.objs.size, s1.heap.objs.size + 1], _, _, H1, rfl, I2, turn_zipM (PySem.W.ktu_apart s1.heap.objs.size a b (Heap.lt_size ho1) p2.lt), ⟨_, _, z1, z2, z3, z4, z5⟩, fun c hc => ?_, q⟩
  have le : s1.heap.objs.size ≤ c := by
    simp only [List.mem_cons, List.not_mem_nil, or_false] at hc
    rcases hc with rfl | rfl | rfl | rfl | rfl
    · exact Nat.le_add_right _ _
    · exact Nat.le_add_right _ _
    · exact Nat.le_add_right _ _
    · exact Nat.le_refl _
    · exact Nat.le_add_right _ _
  exact I1.fpOk le (I1.hok.fresh le)
theorem walk_zipM {K : PySem.W.Frag} {a b : Addr} {xs ys : List V} {n : Nat} (hx : xs.length = n) (hy : ys.length = n) : Walk (ItzM K a b) n (fun H => SqT K H a xs ∧ SqL K H b ys) (YPair (fun i => xs[i]?) fun i => ys[i]?) where
  goes := fun i _ hi q => ⟨xs, ys, xs[i]'(by omega), ys[i]'(by omega), q.1, q.2, List.getElem?_eq_getElem _, List.getElem?_eq_getElem _⟩
  stops := fun _ q => ⟨xs, ys, q.1, q.2, .inl (by omega)⟩
  yields := fun i H v H' _ q ⟨T, x, y, h1, h2, h3, h4, h5⟩ => ⟨T, x, y, h1, h2, h3, h4 xs q.1, h5 ys q.2⟩
end LK

set_option Elab.async false
set_option linter.all false
set_option maxRecDepth 100000
namespace LK
open PySem PySem.Spec PyProof.Rows L2
local macro_rules | `(tactic| walk_at "rs") => `(tactic| simp only [cxK, cxNK, tCallZ, tAsg, tOp, rI0, rS0, rB0, rI, rU, tUn, rEq, rNe, rIxL, rIxT, rIxS, rSetL, rSlLU, rSlS, rSlU, rCatL, rCatU, rRepL, rIn, tVar, tC, gName, gSub, tIfS, tTest, tB, tAnd, tOr, tNot, tNotV, tAndV, tOrV, tIf, tCall, tCons, tNil, tCB, tDrop, tRet, tRetN, tNext, tLstU, tTupU, tM0, tM1, tPar, tPar3, tAug, ipI, tBM, tBM0, rAppend, rPop, tBreak, tCont, tChain, tSl, tPart, tNoPart, L2.start, List.map, List.length_cons, List.length_nil, List.replicate, List.cons_append, List.nil_append, List.append_nil, List.getElem?_cons_zero, List.getElem?_cons_succ, List.set_cons_zero, List.set_cons_succ, Option.some.injEq, V.int.injEq, V.ref.injEq, V.str.injEq, V.bl.injEq, exists_eq_left', exists_eq_left, exists_and_left, decide_eq_true_eq, List.cons.injEq, and_true, true_and, scal, Bool.not_eq_true', decide_eq_false_iff_not, Nat.zero_add, Nat.reduceAdd, Nat.reduceSub, reduceCtorEq, false_and, exists_false, false_or, or_false, CPow, CPowW, CMul, CDiv, Int.reduceToNat, ↓reduceIte, wipe, sw, List.nil_append, List.singleton_append])
local macro_rules | `(tactic| walk_at "st") => `(tactic| (refine seq_op fun N hN => ?_; walk_at "rs"))
local macro_rules | `(tactic| walk_at "sd") => `(tactic| first | assumption | decide | omega)
local macro_rules | `(tactic| walk_at "rd") => `(tactic| repeat (first
  | refine ⟨_, SqL.of (by assumption), ?_⟩ | refine ⟨_, SqL.of upd_same, ?_⟩ | refine ⟨_, .inl (SqL.of (by assumption)), ?_⟩ | refine ⟨_, (by assumption : _ = some (HO.lst _)), ?_⟩ | refine ⟨_, upd_same, ?_⟩
  | refine ⟨_, rfl, ?_⟩ | refine And.intro (by walk_at "sd") ?_))

theorem ix_tupK {X : Cx} {K : PySem.W.Frag} (hK : X.K = K) : IxR X (rIxT K) := by
  subst hK
  exact ix_tup
section
variable {P : Program} {w : World} {K : PySem.W.Frag} {mg : Str → Option Value} {base : Heap}
theorem Frs.dp {K : PySem.W.Frag} {H : Hp} : ∀ {xs : List V} {fs : List Fr}, Frs K H xs fs → DpAll K H xs (fs.map fun f => .tuple [.int f.1, .int f.2])
  | _, _, .nil => .nil
  | _, _, .cons h q => .cons (dp_pair h) q.dp
def sp_rowsame (K : PySem.W.Frag) : Sp := fun vs H Q _ => ∃ (a r : Addr) (Xs : List Int) (L : Int), vs = [.ref a, .ref r, .int L] ∧ RowOk K H a L Xs ∧ SqL K H r (Xs.map V.int) ∧ Xs.length ≤ 1000 ∧ 0 < L ∧ L.natAbs < 2 ^ 4000 ∧ (∀ X ∈ Xs, X.natAbs < 2 ^ 4000) ∧ ∀ H', Same H H' → Q (.bl true) H'
theorem ok__law_row_same (T : Txt w K mg) : FnOk P w K mg base CX0 4 T.a__law_row_same T.d__law_row_same ["told", "row", "lower"] (sp_rowsame K) := by
  refine T.F__law_row_same.ok sc__law_row_same (fun vs H Q E h => ?_) (fun cdv A outer s H vs Q E hr h => ?_)
  · obtain ⟨a, r, Xs, L, rfl, _⟩ := h
    rfl
  · obtain ⟨a, r, Xs, L, rfl, ⟨xs, fs, ha, hf, rv⟩, hrow, lX, L0, lL, bX, k⟩ := h
    have hr__law_same : Room 3 _ := hr
    have G__law_same := ok__law_same (P := P) (base := base) T
    have le := hf.len
    have lr := rv.1
    refine ⟨_, (pss_cons (ps_if (PW.pt (pw_or (pt_not (pt_val (pe_callB (call_isiDK (K := K) rfl) (by rfl) T.n_isinstance (by decide +kernel) (pa_cons (pv 0) (pa_cons (pe_bltn (v := .ty "tuple") (u := .type "tuple") (by rfl) T.n_tuple (by decide +kernel) rfl) pa_nil))))) (pw_or1 (pt_cmpR op_neI (pe_callB call_len_seq (by rfl) T.n_len (by decide +kernel) (pa_cons (pv 0) pa_nil)) (pe_callB call_len_seq (by rfl) T.n_len (by decide +kernel) (pa_cons (pv 1) pa_nil)) (nomark _))))) (pss_one (ps_ret pe_bl)) pss_nil)
      (pss_one (ps_ret (pe_callB (cr_all rfl) (by rfl) T.n_all (by decide +kernel) (pa_cons (pe_lc (own := [("one", 3), ("two", 4)]) (g := gTup K 2 (gCons (gName 3) (gCons (gName 4) (gNil)))) (tt := tYes) rfl sc__law_row_same.nd (pi_zipM (by rfl) T.n_zip (pa_cons (pv 0) (pa_cons (pv 1) pa_nil))) (blkOk_by (own := [("one", 3), ("two", 4)]) (N := N__law_row_same) (sc := defScope s__law_row_same) (by decide +kernel)) (fun _ _ _ _ _ => by exact (pg_tup rfl (pgs_cons (pg_name (i := 3) sc__law_row_same.nd rfl (Or.inl rfl)) (pgs_cons (pg_name (i := 4) sc__law_row_same.nd rfl (Or.inl rfl)) pgs_nil)))) (fun _ _ _ _ _ => pts_nil) (fun _ _ _ _ _ => (pe_call G__law_same hr__law_same (by rfl) T.m__law_same T.F__law_same.kp T.B__law_same .nil pass0 (pa_cons (pv 3) (pa_cons (pv 4) (pa_cons (pv 2) pa_nil)))))) pa_nil))))), ?_⟩
    refine seq_op fun N hN => ?_
    walk_at "rs"
    refine ⟨_, _, ⟨rfl, rfl⟩, _, .tup ha hf.dp, by decide, iteFF (fun z => by cases z) ?_⟩
    refine ⟨_, .inr ha, _, .inl hrow, iteFF (fun z => z (by rw [List.length_map, le, lr])) (hN _ _ ?_)⟩
    clear hN N
    walk_at "rs"
    have gm : ∀ (x : V) (σ0 : L2.St) (H0 : Hp) (Q0 Q1 : L2.St → Hp → Prop), (∀ σ2 H2, Q0 σ2 H2 → Q1 σ2 H2) → gTup K 2 (gCons (gName 3) (gCons (gName 4) gNil)) x σ0 H0 Q0 → gTup K 2 (gCons (gName 3) (gCons (gName 4) gNil)) x σ0 H0 Q1 :=
      fun x σ0 H0 Q0 Q1 h ⟨a, xs, e1, e2, e3, v, r, e4, v2, r2, e5, e6, q⟩ => ⟨a, xs, e1, e2, e3, v, r, e4, v2, r2, e5, e6, h _ _ q⟩
    refine ⟨_, rfl, _, rfl, a, r, xs, Xs.map V.int, rfl, ha, hrow, fun D hD => lc_pure (walk_zipM (n := Xs.length) (by omega) (List.length_map ..)) hD (by omega) (fun _ => .bl true) (fun H2 s2 => ⟨Same.seqT s2 ha, s2.seq hrow⟩) (fun i x H2 H3 hi s2 y => ?_) gm fun H2 s2 h2 => ?_⟩
    · obtain ⟨T0, y1, y2, rfl, hT, rfl, h1, h2⟩ := y
      obtain ⟨u, f, eu, ef, hu⟩ := hf.get (n := i) (by omega)
      have e1 : y1 = .ref u := by
        have h1 : xs[i]? = some y1 := h1
        rw [eu] at h1; exact (Option.some.inj h1).symm
      subst e1
      have eX : Xs[i]? = some Xs[i] := List.getElem?_eq_getElem hi
      have e2 : y2 = .int Xs[i] := by
        have h2 : (Xs.map V.int)[i]? = some y2 := h2
        rw [List.getElem?_map, eX] at h2; exact (Option.some.inj h2).symm
      subst e2
      have s3 := Same.trans s2 (same_upd (o := .tup [.ref u, .int Xs[i]]) hT)
      refine ⟨T0, [.ref u, .int Xs[i]], rfl, .inl (.inl upd_same), rfl, .ref u, [.int Xs[i]], rfl, .int Xs[i], [], rfl, rfl, same_upd hT, rfl, fun Q2 hq => ?_⟩
      exact ⟨_, rfl, _, rfl, _, rfl, u, f, Xs[i], L, rfl, Same.seqT s3 hu, rv.2 i _ f eX ef, L0, bX _ (List.getElem_mem hi), lL, hq⟩
    · refine ⟨D, (List.range Xs.length).map fun _ => true, rfl, SqL.of (by rw [h2, List.map_map]; rfl), ?_⟩
      rw [all_map_id]
      have e : ((List.range Xs.length).all fun _ => true) = true := by simp
      rw [e]
      exact k H2 s2
/-- what the law holds of the rows: their common denominator and the parts of it -/
inductive Parts (K : PySem.W.Frag) (H : Hp) : List V → List (List Int) → Prop
  | nil : Parts K H [] []
  | cons {r : Addr} {Xs : List Int} {xs : List V} {Xss : List (List Int)} : SqL K H r (Xs.map V.int) → Parts K H xs Xss → Parts K H (.ref r :: xs) (Xs :: Xss)
theorem Parts.same {K : PySem.W.Frag} {H H' : Hp} (s : Same H H') : ∀ {xs : List V} {Xss : List (List Int)}, Parts K H xs Xss → Parts K H' xs Xss
  | _, _, .nil => .nil
  | _, _, .cons h q => .cons (s.seq h) (q.same s)
theorem Parts.len {K : PySem.W.Frag} {H : Hp} : ∀ {xs : List V} {Xss : List (List Int)}, Parts K H xs Xss → xs.length = Xss.length
  | _, _, .nil => rfl
  | _, _, .cons _ q => congrArg Nat.succ q.len
theorem Parts.get {K : PySem.W.Frag} {H : Hp} : ∀ {xs : List V} {Xss : List (List Int)} {n : Nat}, Parts K H xs Xss → n < Xss.length → ∃ a Xs, xs[n]? = some (.ref a) ∧ Xss[n]? = some Xs ∧ SqL K H a (Xs.map V.int)
  | _, _, _, .nil, h => absurd h (Nat.not_lt_zero _)
  | _, _, 0, .cons h _, _ => ⟨_, _, rfl, rfl, h⟩
  | _, _, n + 1, .cons _ q, h => by
    obtain ⟨a, f, h1, h2, h3⟩ := q.get (n := n) (Nat.lt_of_succ_lt_succ h)
    exact ⟨a, f, h1, h2, h3⟩
def StateAt (K : PySem.W.Frag) (H : Hp) (v : V) (L : Int) (Xss : List (List Int)) : Prop := ∃ (sa pa : Addr) (ps : List V), v = .ref sa ∧ SqT K H sa [.int L, .ref pa] ∧ SqL K H pa ps ∧ Parts K H ps Xss
theorem StateAt.same {K : PySem.W.Frag} {H H' : Hp} (s : Same H H') {v : V} {L : Int} {Xss : List (List Int)} : StateAt K H v L Xss → StateAt K H' v L Xss := fun ⟨sa, pa, ps, h1, h2, h3, h4⟩ => ⟨sa, pa, ps, h1, Same.seqT s h2, s.seq h3, h4.same s⟩
theorem Rows.dp {K : PySem.W.Frag} {H : Hp} {L : Int} : ∀ {xs : List V} {Xss : List (List Int)}, Rows K H L xs Xss → ∃ ds, DpAll K H xs ds
  | _, _, .nil => ⟨[], .nil⟩
  | _, _, .cons ⟨_, fs, h1, h2, _⟩ q => by
    obtain ⟨ds, hd⟩ := q.dp
    exact ⟨.tuple (fs.map fun f => .tuple [.int f.1, .int f.2]) :: ds, .cons (.tup h1 h2.dp) hd⟩
def Small (L : Int) (Xss : List (List Int)) : Prop := 0 < L ∧ L.natAbs < 2 ^ 4000 ∧ ∀ Xs ∈ Xss, Xs.length ≤ 1000 ∧ ∀ X ∈ Xs, X.natAbs < 2 ^ 4000
def sp_rowssame (K : PySem.W.Frag) : Sp := fun vs H Q _ => ∃ (a : Addr) (v : V) (xs : List V) (Xss : List (List Int)) (L : Int), vs = [.ref a, v] ∧ SqL K H a xs ∧ Rows K H L xs Xss ∧ StateAt K H v L Xss ∧ Small L Xss ∧ Xss.length ≤ 1000 ∧ ∀ H', Same H H' → Q (.bl true) H'
theorem ok__law_rows_same (T : Txt w K mg) : FnOk P w K mg base CX0 5 T.a__law_rows_same T.d__law_rows_same ["told", "state"] (sp_rowssame K) := by
  refine T.F__law_rows_same.ok sc__law_rows_same (fun vs H Q E h => ?_) (fun cdv A outer s H vs Q E hr h => ?_)
  · obtain ⟨a, v, xs, Xss, L, rfl, _⟩ := h
    rfl
  · obtain ⟨a, v, xs, Xss, L, rfl, ha, hrs, ⟨sa, pa, ps, rfl, hsa, hpa, hps⟩, ⟨L0, lL, sm⟩, lX, k⟩ := h
    have hr__law_row_same : Room 4 _ := hr
    have G__law_row_same := ok__law_row_same (P := P) (base := base) T
    have le := hrs.len
    have lp := hps.len
    obtain ⟨ds, hd⟩ := hrs.dp
    refine ⟨_, (pss_cons (ps_if (PW.pt (pw_or (pt_not (pt_val (pe_callB (call_isiDK (K := K) rfl) (by rfl) T.n_isinstance (by decide +kernel) (pa_cons (pv 0) (pa_cons (pe_bltn (v := .ty "list") (u := .type "list") (by rfl) T.n_list (by decide +kernel) rfl) pa_nil))))) (pw_or1 (pt_cmpR op_neI (pe_callB call_len_seq (by rfl) T.n_len (by decide +kernel) (pa_cons (pv 0) pa_nil)) (pe_callB call_len_seq (by rfl) T.n_len (by decide +kernel) (pa_cons (pe_ix ix_tup (pv 1) pe_int (fun _ _ => rfl)) pa_nil)) (nomark _))))) (pss_one (ps_ret pe_bl)) pss_nil)
      (pss_one (ps_ret (pe_callB (cr_all rfl) (by rfl) T.n_all (by decide +kernel) (pa_cons (pe_lc (own := [("one", 2), ("two", 3)]) (g := gTup K 2 (gCons (gName 2) (gCons (gName 3) (gNil)))) (tt := tYes) rfl sc__law_rows_same.nd (pi_zip (by rfl) T.n_zip (pa_cons (pv 0) (pa_cons (pe_ix ix_tup (pv 1) pe_int (fun _ _ => rfl)) pa_nil))) (blkOk_by (own := [("one", 2), ("two", 3)]) (N := N__law_rows_same) (sc := defScope s__law_rows_same) (by decide +kernel)) (fun _ _ _ _ _ => by exact (pg_tup rfl (pgs_cons (pg_name (i := 2) sc__law_rows_same.nd rfl (Or.inl rfl)) (pgs_cons (pg_name (i := 3) sc__law_rows_same.nd rfl (Or.inl rfl)) pgs_nil)))) (fun _ _ _ _ _ => pts_nil) (fun _ _ _ _ _ => (pe_call G__law_row_same hr__law_row_same (by rfl) T.m__law_row_same T.F__law_row_same.kp T.B__law_row_same .nil pass0 (pa_cons (pv 2) (pa_cons (pv 3) (pa_cons (pe_ix (ix_tupK (K := K) rfl) (pv 1) pe_int (fun _ _ => rfl)) pa_nil)))))) pa_nil))))), ?_⟩
    refine seq_op fun N hN => ?_
    walk_at "rs"
    refine ⟨_, _, ⟨rfl, rfl⟩, _, .lst ha hd, by decide, iteFF (fun z => by cases z) ?_⟩
    refine ⟨_, .inl ha, _, hsa, _, rfl, _, rfl, _, .inl hpa, iteFF (fun z => z (by rw [le, lp])) (hN _ _ ?_)⟩
    clear hN N
    walk_at "rs"
    have gm : ∀ (x : V) (σ0 : L2.St) (H0 : Hp) (Q0 Q1 : L2.St → Hp → Prop), (∀ σ2 H2, Q0 σ2 H2 → Q1 σ2 H2) → gTup K 2 (gCons (gName 2) (gCons (gName 3) gNil)) x σ0 H0 Q0 → gTup K 2 (gCons (gName 2) (gCons (gName 3) gNil)) x σ0 H0 Q1 :=
      fun x σ0 H0 Q0 Q1 h ⟨a, xs, e1, e2, e3, v, r, e4, v2, r2, e5, e6, q⟩ => ⟨a, xs, e1, e2, e3, v, r, e4, v2, r2, e5, e6, h _ _ q⟩
    refine ⟨_, rfl, _, rfl, sa, _, 1, _, rfl, rfl, hsa, rfl, a, pa, xs, ps, rfl, ha, hpa, fun D hD => lc_pure (walk_zip (n := Xss.length) (by omega)) hD (by omega) (fun _ => .bl true) (fun H2 s2 => ⟨s2.seq ha, s2.seq hpa⟩) (fun i x H2 H3 hi s2 y => ?_) gm fun H2 s2 h2 => ?_⟩
    · obtain ⟨T0, y1, y2, rfl, hT, rfl, h1, h2⟩ := y
      obtain ⟨u, Xs, eu, eX, hu⟩ := hrs.get (n := i) hi
      obtain ⟨r, Xs', er, eX', hr'⟩ := hps.get (n := i) hi
      have e1 : y1 = .ref u := by
        have h1 : xs[i]? = some y1 := h1
        rw [eu] at h1; exact (Option.some.inj h1).symm
      subst e1
      have e2 : y2 = .ref r := by
        have h2 : ps[i]? = some y2 := h2
        rw [er] at h2; exact (Option.some.inj h2).symm
      subst e2
      rw [eX] at eX'
      cases eX'
      obtain ⟨m1, m2⟩ := sm Xs (List.mem_of_getElem? eX)
      have s3 := Same.trans s2 (same_upd (o := .tup [.ref u, .ref r]) hT)
      refine ⟨T0, [.ref u, .ref r], rfl, .inl (.inl upd_same), rfl, .ref u, [.ref r], rfl, .ref r, [], rfl, rfl, same_upd hT, rfl, fun Q2 hq => ?_⟩
      exact ⟨_, rfl, _, rfl, _, rfl, sa, _, 0, _, rfl, rfl, Same.seqT s3 hsa, rfl, u, r, Xs, L, rfl, hu.same s3, s3.seq hr', m1, L0, lL, m2, hq⟩
    · refine ⟨D, (List.range Xss.length).map fun _ => true, rfl, SqL.of (by rw [h2, List.map_map]; rfl), ?_⟩
      rw [all_map_id]
      have e : ((List.range Xss.length).all fun _ => true) = true := by simp
      rw [e]
      exact k H2 s2
end
end LK

set_option Elab.async false
set_option linter.all false
set_option maxRecDepth 100000
namespace LK
open PySem PySem.Spec PyProof.Rows L2
local macro_rules | `(tactic| walk_at "rs") => `(tactic| simp only [cxK, cxNK, tCallZ, tAsg, tOp, rI0, rS0, rB0, rI, rU, tUn, rEq, rNe, rIxL, rIxT, rIxS, rSetL, rSlLU, rSlS, rSlU, rCatL, rCatU, rRepL, rIn, tVar, tC, gName, gSub, tIfS, tTest, tB, tAnd, tOr, tNot, tNotV, tAndV, tOrV, tIf, tCall, tCons, tNil, tCB, tDrop, tRet, tRetN, tNext, tLstU, tTupU, tM0, tM1, tPar, tPar3, tAug, ipI, tBM, tBM0, rAppend, rPop, tBreak, tCont, tChain, tSl, tPart, tNoPart, L2.start, List.map, List.length_cons, List.length_nil, List.replicate, List.cons_append, List.nil_append, List.append_nil, List.getElem?_cons_zero, List.getElem?_cons_succ, List.set_cons_zero, List.set_cons_succ, Option.some.injEq, V.int.injEq, V.ref.injEq, V.str.injEq, V.bl.injEq, exists_eq_left', exists_eq_left, exists_and_left, decide_eq_true_eq, List.cons.injEq, and_true, true_and, scal, Bool.not_eq_true', decide_eq_false_iff_not, Nat.zero_add, Nat.reduceAdd, Nat.reduceSub, reduceCtorEq, false_and, exists_false, false_or, or_false, CPow, CPowW, CMul, CDiv, Int.reduceToNat, ↓reduceIte, wipe, sw, List.nil_append, List.singleton_append])
local macro_rules | `(tactic| walk_at "st") => `(tactic| (refine seq_op fun N hN => ?_; walk_at "rs"))
local macro_rules | `(tactic| walk_at "sd") => `(tactic| first | assumption | decide | omega)
local macro_rules | `(tactic| walk_at "rd") => `(tactic| repeat (first
  | refine ⟨_, SqL.of (by assumption), ?_⟩ | refine ⟨_, SqL.of upd_same, ?_⟩ | refine ⟨_, .inl (SqL.of (by assumption)), ?_⟩ | refine ⟨_, (by assumption : _ = some (HO.lst _)), ?_⟩ | refine ⟨_, upd_same, ?_⟩
  | refine ⟨_, rfl, ?_⟩ | refine And.intro (by walk_at "sd") ?_))

theorem pi_tupK {X : Cx} {K : PySem.W.Frag} (hK : X.K = K) {tg l : Expr} {tl : TE} (hl : PE X l tl) : PI X tg l (iTup K tl) := by
  subst hK
  exact pi_tup hl
/-- the same, and the new list is there at each turn -/
theorem lc_accD {J : It} {n : Nat} {G : Hp → Prop} {Y : Nat → Hp → V → Hp → Prop} (w : Walk J n G Y) {g : TG} {te : TE} {vs : List Nat} {σ : L2.St} {H1 : Hp} {D : Addr} {Qd : Hp → Prop} (R : Nat → Hp → List V → Prop) (hD : H1 D = none) (hn : n ≤ 1000000)
    (mono : ∀ i H H' ys, Same H H' → R i H ys → R i H' ys) (up : ∀ i H ys zs o, H D = some (.lst zs) → R i H ys → R i (L2.upd H D o) ys) (r0 : R 0 (L2.upd H1 D (.lst [])) []) (hG : ∀ H, Same H1 H → G H)
    (hs : ∀ i x H H', i < n → Same H1 H → H D ≠ none → Y i H x H' → g x (wipe σ vs) H' fun σ2 H2 => Same H H2 ∧ wipe σ2 vs = wipe σ vs ∧ ∀ Q2 : V → Hp → Prop, (∀ v H3, Same H2 H3 → (∀ ys, R i H3 ys → R (i + 1) H3 (ys ++ [v])) → Q2 v H3) → te σ2 H2 Q2)
    (gm : ∀ x σ0 H0 Q0 Q1, (∀ σ2 H2, Q0 σ2 H2 → Q1 σ2 H2) → g x σ0 H0 Q0 → g x σ0 H0 Q1)
    (hq : ∀ H' ys, Same H1 H' → H' D = some (.lst ys) → ys.length = n → R n H' ys → Qd H') :
    ∃ W : Nat → Nat → Hp → Prop, (∃ m, W 0 m (L2.upd H1 D (.lst []))) ∧ ∀ i m H, W i m H →
      (J.stop i H ∧ Qd H) ∨ (J.go i H ∧ ∃ Nx : Hp → Prop, (∀ H', Nx H' → ∃ m', m' < m ∧ W (i + 1) m' H') ∧ ∀ x H', J.yld i H x H' → g x (wipe σ vs) H' fun σ2 H2 => wipe σ2 vs = wipe σ vs ∧ tYes σ2 H2 fun b H3 =>
        if b = true then te σ2 H3 fun y H4 => ∃ acc, H4 D = some (.lst acc) ∧ acc.length < sizeLine ∧ Nx (L2.upd H4 D (.lst (acc ++ [y]))) else Nx H3) := by
  have keep : ∀ {H : Hp} {o : HO}, Same H1 H → Same H1 (L2.upd H D o) := fun s a u e => by
    rw [upd_ne (ne_of_none e hD)]; exact s _ _ e
  refine lc_it w (fun i H => Same H1 H ∧ ∃ ys, H D = some (.lst ys) ∧ ys.length = i ∧ R i H ys) ⟨keep (Same.refl _), [], upd_same, rfl, r0⟩ (fun i H _ h => hG H h.1) (fun i x H H' hi ⟨s1, ys, h1, hl, hr⟩ hY => ?_) (fun H ⟨s1, ys, h1, hl, hr⟩ => hq H ys s1 h1 hl hr)
  refine gm _ _ _ _ _ (fun σ2 H2 ⟨s2, e2, kq⟩ => ⟨e2, ?_⟩) (hs i x H H' hi s1 (by rw [h1]; exact Option.some_ne_none _) hY)
  simp only [tYes, eq_self, ite_true]
  refine kq _ fun v H3 s3 st => ?_
  have s13 := Same.trans s2 s3
  have hD3 := s13 _ _ h1
  refine ⟨ys, hD3, ?_, keep (Same.trans s1 s13), ys ++ [v], upd_same, by rw [List.length_append, hl]; rfl, up _ _ _ _ _ hD3 (st ys (mono _ _ _ _ s13 hr))⟩
  rw [hl]
  exact Nat.lt_of_lt_of_le (Nat.lt_of_lt_of_le hi hn) (by decide)
/-- a comprehension over a list or a tuple, its items told by R -/
theorem lc_lt {K : PySem.W.Frag} {a : Addr} {xs : List V} {g : TG} {te tl : TE} {vs : List Nat} {σ : L2.St} {H1 : Hp} {Q : VK} (hv : ∀ Q : VK, Q (.ref a) H1 → tl σ H1 Q) (h : SqL K H1 a xs ∨ SqT K H1 a xs) (R : Addr → Nat → Hp → List V → Prop) (hn : xs.length ≤ 1000000)
    (mono : ∀ D i H H' ys, Same H H' → R D i H ys → R D i H' ys) (up : ∀ D i H ys o, R D i H ys → R D i (L2.upd H D o) ys) (r0 : ∀ D H, R D 0 H [])
    (hs : ∀ D i x H, H1 D = none → i < xs.length → Same H1 H → xs[i]? = some x → H D ≠ none → g x (wipe σ vs) H fun σ2 H2 => Same H H2 ∧ wipe σ2 vs = wipe σ vs ∧ ∀ Q2 : VK, (∀ v H3, Same H2 H3 → (∀ ys, R D i H3 ys → R D (i + 1) H3 (ys ++ [v])) → Q2 v H3) → te σ2 H2 Q2)
    (gm : ∀ x σ0 H0 Q0 Q1, (∀ σ2 H2, Q0 σ2 H2 → Q1 σ2 H2) → g x σ0 H0 Q0 → g x σ0 H0 Q1)
    (hq : ∀ D H' ys, Same H1 H' → H1 D = none → H' D = some (.lst ys) → ys.length = xs.length → R D xs.length H' ys → Q (.ref D) H') : tLc (iLT K tl) g tYes te vs σ H1 Q := by
  have core : ∀ {J : It} {G : Hp → Prop} (w : Walk J xs.length G (YAt xs)) (hG : ∀ H, Same H1 H → G H) (D : Addr) (hD : H1 D = none), _ := fun w hG D hD => lc_accD w (g := g) (te := te) (vs := vs) (σ := σ) (D := D) (Qd := fun H => Q (.ref D) H) (R D) hD hn (fun i H H' ys s p => mono D i H H' ys s p) (fun i H ys zs o hp p => up D i H ys o p) (r0 D _) hG (fun i x H H' hi s n ⟨e, hx⟩ => by
    subst e
    exact hs D i x _ hD hi s hx n) gm fun H' ys s e l p => hq D H' ys s hD e l p
  rcases h with h | h
  · exact .inl (hv _ ⟨a, rfl, ⟨xs, h⟩, fun D hD => core walk_list (fun H s => s.seq h) D hD⟩)
  · exact .inr (hv _ ⟨a, rfl, ⟨xs, h⟩, fun D hD => core walk_tup (fun H s => Same.seqT s h) D hD⟩)
theorem map_getD {α β : Type} (xs : List α) (g : α → β) {d : α} : ((List.range xs.length).map fun k => g (xs.getD k d)) = xs.map g := by
  refine List.ext_getElem (by simp) fun i h1 h2 => ?_
  have hi : i < xs.length := by simpa using h1
  simp [List.getD_eq_getElem?_getD, List.getElem?_eq_getElem hi]
/-- rows of fractions -/
inductive FRows (K : PySem.W.Frag) (H : Hp) : List V → List (List Fr) → Prop
  | nil : FRows K H [] []
  | cons {a : Addr} {xs rs : List V} {fs : List Fr} {fss : List (List Fr)} : SqT K H a xs → Frs K H xs fs → FRows K H rs fss → FRows K H (.ref a :: rs) (fs :: fss)
section
variable {K : PySem.W.Frag} {H H' : Hp}
theorem FRows.same (s : Same H H') : ∀ {xs : List V} {fss : List (List Fr)}, FRows K H xs fss → FRows K H' xs fss
  | _, _, .nil => .nil
  | _, _, .cons h h2 q => .cons (Same.seqT s h) (h2.same s) (q.same s)
theorem FRows.len : ∀ {xs : List V} {fss : List (List Fr)}, FRows K H xs fss → xs.length = fss.length
  | _, _, .nil => rfl
  | _, _, .cons _ _ q => congrArg Nat.succ q.len
theorem FRows.get : ∀ {xs : List V} {fss : List (List Fr)} {n : Nat}, FRows K H xs fss → n < fss.length → ∃ a ys fs, xs[n]? = some (.ref a) ∧ fss[n]? = some fs ∧ SqT K H a ys ∧ Frs K H ys fs
  | _, _, _, .nil, h => absurd h (Nat.not_lt_zero _)
  | _, _, 0, .cons h h2 _, _ => ⟨_, _, _, rfl, rfl, h, h2⟩
  | _, _, n + 1, .cons _ _ q, h => by
    obtain ⟨a, ys, fs, h1, h2, h3⟩ := q.get (n := n) (Nat.lt_of_succ_lt_succ h)
    exact ⟨a, ys, fs, h1, h2, h3⟩
theorem seqL_upd {a p : Addr} {xs : List V} {o : HO} {ys : List V} (n : a ≠ p) (h : SqL K H a xs) : SqL K (L2.upd H p o) a xs := by
  rcases h with (h | ⟨u, h⟩) | h
  · exact .inl (.inl (by rw [upd_ne n]; exact h))
  · exact .inl (.inr ⟨u, by rw [upd_ne n]; exact h⟩)
  · exact .inr h
theorem Parts.upd {p : Addr} {o : HO} : ∀ {xs : List V} {Xss : List (List Int)}, (∀ v ∈ xs, v ≠ .ref p) → Parts K H xs Xss → Parts K (L2.upd H p o) xs Xss
  | _, _, _, .nil => .nil
  | _, _, n, .cons h q => .cons (seqL_upd (ys := []) (fun e => n _ List.mem_cons_self (by rw [e])) h) (q.upd fun v hv => n v (List.mem_cons_of_mem _ hv))
theorem Parts.app : ∀ {xs ys : List V} {Xss Yss : List (List Int)}, Parts K H xs Xss → Parts K H ys Yss → Parts K H (xs ++ ys) (Xss ++ Yss)
  | _, _, _, _, .nil, r => r
  | _, _, _, _, .cons h q, r => .cons h (q.app r)
end
/-- the common denominator of rows -/
def rowsL (l : Int) (fss : List (List Fr)) : Int := fss.foldl (fun l fs => comI ((1, l) :: fs)) l
def prodDD : List (List Fr) → Nat
  | [] => 1
  | fs :: fss => prodD fs * prodDD fss
theorem comI_cons {l : Int} {fs : List Fr} (hl : 0 < l) (h : ∀ f ∈ fs, 1 ≤ f.2) : 0 < comI ((1, l) :: fs) ∧ l ∣ comI ((1, l) :: fs) ∧ (∀ f ∈ fs, f.2 ∣ comI ((1, l) :: fs)) ∧ (comI ((1, l) :: fs)).natAbs ≤ l.natAbs * prodD fs := by
  have h1 : ∀ f ∈ ((1, l) :: fs : List Fr), 1 ≤ f.2 := fun f hf => by
    rcases List.mem_cons.mp hf with rfl | hf
    · exact hl
    · exact h f hf
  obtain ⟨a, b, c⟩ := comI_spec h1
  exact ⟨a, b (1, l) List.mem_cons_self, fun f hf => b f (List.mem_cons_of_mem _ hf), c⟩
theorem rowsL_spec : ∀ {fss : List (List Fr)} {l : Int}, 0 < l → (∀ fs ∈ fss, ∀ f ∈ fs, 1 ≤ f.2) → 0 < rowsL l fss ∧ l ∣ rowsL l fss ∧ (∀ fs ∈ fss, ∀ f ∈ fs, f.2 ∣ rowsL l fss) ∧ (rowsL l fss).natAbs ≤ l.natAbs * prodDD fss
  | [], l, hl, _ => ⟨hl, Int.dvd_refl _, fun f hf => absurd hf (by simp), by show l.natAbs ≤ l.natAbs * 1; omega⟩
  | fs :: fss, l, hl, h => by
    obtain ⟨p, d1, d2, m⟩ := comI_cons hl (h fs List.mem_cons_self)
    obtain ⟨q, e1, e2, n⟩ := rowsL_spec (fss := fss) p fun gs hg => h gs (List.mem_cons_of_mem _ hg)
    refine ⟨q, Int.dvd_trans d1 e1, fun gs hg => ?_, ?_⟩
    · rcases List.mem_cons.mp hg with rfl | hg
      · exact fun f hf => Int.dvd_trans (d2 f hf) e1
      · exact e2 gs hg
    · refine Nat.le_trans n ?_
      show _ ≤ l.natAbs * (prodD fs * prodDD fss)
      rw [← Nat.mul_assoc]
      exact Nat.mul_le_mul_right _ m
theorem rowsL_next {l : Int} {fss : List (List Fr)} {i : Nat} {fs : List Fr} (h : fss[i]? = some fs) : rowsL l (fss.take (i + 1)) = comI ((1, rowsL l (fss.take i)) :: fs) := by
  obtain ⟨hi, rfl⟩ := List.getElem?_eq_some_iff.mp h
  unfold rowsL
  rw [← List.take_append_getElem hi, List.foldl_append]
  rfl
theorem prodDD_pos : ∀ {fss : List (List Fr)}, (∀ fs ∈ fss, ∀ f ∈ fs, 1 ≤ f.2) → 1 ≤ prodDD fss
  | [], _ => Nat.le_refl _
  | fs :: fss, h => Nat.mul_pos (prodD_pos (h fs List.mem_cons_self)) (prodDD_pos fun g hg => h g (List.mem_cons_of_mem _ hg))
theorem prodDD_take : ∀ {fss : List (List Fr)} (i : Nat), (∀ fs ∈ fss, ∀ f ∈ fs, 1 ≤ f.2) → prodDD (fss.take i) ≤ prodDD fss
  | fs, 0, h => by rw [List.take_zero]; exact prodDD_pos h
  | [], i + 1, _ => Nat.le_refl _
  | f :: fs, i + 1, h => Nat.mul_le_mul_left _ (prodDD_take i fun g hg => h g (List.mem_cons_of_mem _ hg))
theorem prodDD_step : ∀ {fss : List (List Fr)} {i : Nat} {fs : List Fr}, (∀ fs ∈ fss, ∀ f ∈ fs, 1 ≤ f.2) → fss[i]? = some fs → prodDD (fss.take i) * prodD fs ≤ prodDD fss
  | gs :: fss, 0, fs, h, e => by
    cases e
    rw [List.take_zero]
    show 1 * prodD gs ≤ prodD gs * prodDD fss
    rw [Nat.one_mul]
    exact Nat.le_mul_of_pos_right _ (prodDD_pos fun g hg => h g (List.mem_cons_of_mem _ hg))
  | gs :: fss, i + 1, fs, h, e => by
    show prodD gs * prodDD (fss.take i) * prodD fs ≤ prodD gs * prodDD fss
    rw [Nat.mul_assoc]
    exact Nat.mul_le_mul_left _ (prodDD_step (fss := fss) (i := i) (fun g hg => h g (List.mem_cons_of_mem _ hg)) e)
def partsOf (L : Int) (fss : List (List Fr)) : List (List Int) := fss.map fun fs => fs.map (num L)
def sp_state (K : PySem.W.Frag) : Sp := fun vs H Q _ => ∃ (a : Addr) (xs : List V) (fss : List (List Fr)), vs = [.ref a] ∧ (SqL K H a xs ∨ SqT K H a xs) ∧ FRows K H xs fss ∧ (∀ fs ∈ fss, ∀ f ∈ fs, 1 ≤ f.2 ∧ f.1.natAbs < 2 ^ 1000) ∧ prodDD fss < 2 ^ 1000 ∧ fss.length ≤ 1000 ∧ (∀ fs ∈ fss, fs.length ≤ 1000) ∧
  ∀ (v : V) H', Same H H' → StateAt K H' v (rowsL 1 fss) (partsOf (rowsL 1 fss) fss) → Q v H'
section
variable {P : Program} {w : World} {K : PySem.W.Frag} {mg : Str → Option Value} {base : Heap}
theorem ok__law_state (T : Txt w K mg) : FnOk P w K mg base CX0 3 T.a__law_state T.d__law_state ["rows_y"] (sp_state K) := by
  refine T.F__law_state.ok sc__law_state (fun vs H Q E h => ?_) (fun cdv A outer s H vs Q E hr h => ?_)
  · obtain ⟨a, xs, fss, rfl, _⟩ := h
    rfl
  · obtain ⟨a, xs, fss, rfl, ha, hf, hb, lp, lX, lf, k⟩ := h
    have hr__law_common : Room 2 _ := hr
    have G__law_common := ok__law_common (P := P) (base := base) T
    have le := hf.len
    have h1 : ∀ fs ∈ fss, ∀ f ∈ fs, 1 ≤ f.2 := fun fs hfs f hff => (hb fs hfs f hff).1
    refine ⟨_, (pss_cons (ps_set (i := 1) sc__law_state.nd rfl (Or.inr rfl) pe_int)
      (pss_cons (ps_for PassesOwn.never rfl (pi_lt (pv 0)) (pg_name (i := 2) sc__law_state.nd rfl (Or.inl rfl)) (pss_one (ps_set (i := 1) sc__law_state.nd rfl (Or.inr rfl) (pe_call G__law_common hr__law_common (by rfl) T.m__law_common T.F__law_common.kp T.B__law_common .nil pass0 (pa_cons (pe_op op_catL (pe_lstU (pa_cons (pe_tupU (pa_cons pe_int (pa_cons (pv 1) pa_nil))) pa_nil)) (pe_callTy call_listU (by rfl) T.n_list (by decide +kernel) (pa_cons (pv 2) pa_nil))) pa_nil)))))
      (pss_one (ps_ret (pe_tupU (pa_cons (pv 1) (pa_cons (pe_lc (own := [("row", 2)]) (g := gName 2) (tt := tYes) rfl sc__law_state.nd (pi_lt (pv 0)) (blkOk_by (own := [("row", 2)]) (N := N__law_state) (sc := defScope s__law_state) (by decide +kernel)) (fun _ _ _ _ _ => pg_name (i := 2) sc__law_state.nd rfl (Or.inl rfl)) (fun _ _ _ _ _ => pts_nil) (fun _ _ _ _ _ => (pe_lc (own := [("one", 3)]) (g := gName 3) (tt := tYes) rfl sc__law_state.nd (pi_tupK (K := K) rfl (pv 2)) (blkOk_by (own := [("one", 3)]) (N := N__law_state) (by kernel_rfl)) (fun _ _ _ _ _ => pg_name (i := 3) sc__law_state.nd rfl (Or.inl rfl)) (fun _ _ _ _ _ => pts_nil) (fun _ _ _ _ _ => (pe_op op_mulW (pe_ix (ix_tupK (K := K) rfl) (pv 3) pe_int (fun _ _ => rfl)) (pe_op op_fdivF (pv 1) (pe_ix (ix_tupK (K := K) rfl) (pv 3) pe_int (fun _ _ => rfl)))))))) pa_nil))))))), ?_⟩
    refine seq_op fun N hN => ?_
    walk_at "rs"
    refine hN _ _ ?_
    clear hN N
    refine cut_seq (fun σ H2 => ∃ x2 : Option V, σ = [some (.ref a), some (.int (rowsL 1 fss)), x2, none] ∧ Same H H2) (fun N hN => ?_) ?_
    · refine for_lt (K := K) (a := a) (xs := xs) (fun Q q => ⟨_, rfl, q⟩) ha (fun i σ H2 => ∃ x2 : Option V, σ = [some (.ref a), some (.int (rowsL 1 (fss.take i))), x2, none] ∧ Same H H2) ⟨_, rfl, Same.refl _⟩ (fun i σ H2 ⟨_, _, s⟩ => s) ?_ ?_
      · rintro i y σ H2 hi ⟨x2, rfl, s2⟩
        obtain ⟨u, ys, fs, eu, ef, hu, hys⟩ := hf.get (n := i) (by have := (List.getElem?_eq_some_iff.mp hi).1; omega)
        obtain rfl : y = .ref u := by rw [eu] at hi; exact (Option.some.inj hi).symm
        have mf := List.mem_of_getElem? ef
        have en := rowsL_next (l := 1) ef
        obtain ⟨c0, _, _, cl⟩ := rowsL_spec (l := 1) (fss := fss.take i) (by decide) fun gs hg => h1 gs (List.mem_of_mem_take hg)
        have pp : (rowsL 1 (fss.take i)).natAbs * prodD fs < 2 ^ 1000 := by
          refine Nat.lt_of_le_of_lt (Nat.le_trans (Nat.mul_le_mul_right _ cl) ?_) lp
          rw [show (1 : Int).natAbs = 1 from rfl, Nat.one_mul]
          exact prodDD_step h1 ef
        walk_at "rs"
        refine ⟨by decide, fun p1 H3 s3 _ h3 => ⟨by decide, fun p2 H4 s4 _ h4 => ⟨ys, .inr (Same.seqT (Same.trans s2 (Same.trans s3 s4)) hu), fun p3 H5 s5 _ h5 => ⟨_, s5 _ _ h4, _, h5, ?_, fun p6 H6 s6 _ h6 => ?_⟩⟩⟩⟩
        · have := hys.len
          have := lf fs mf
          exact Nat.le_trans (show _ ≤ 1000000 by simp only [List.length_cons, List.length_nil]; omega) (by decide)
        · have s56 := Same.trans s5 s6
          have s36 := Same.trans s4 s56
          refine ⟨p6, _, (1, rowsL 1 (fss.take i)) :: fs, rfl, .inl (SqL.of h6), .cons (.inl (.inl (s36 _ _ h3))) (hys.same (Same.trans s2 (Same.trans s3 s36))), fun f hf => ?_, pow_le pp (by decide), fun H7 s7 => ⟨_, ⟨by rw [en], rfl⟩, Same.trans s2 (Same.trans s3 (Same.trans s36 s7))⟩⟩
          rcases List.mem_cons.mp hf with rfl | hf
          · exact c0
          · exact h1 fs mf f hf
      · rintro σ H2 ⟨x2, rfl, s2⟩
        refine hN _ _ ⟨x2, ?_, s2⟩
        rw [le, List.take_length]
    · rintro σ H2 ⟨x2, rfl, s2⟩
      walk_at "rs"
      obtain ⟨L0, _, Ld, Ll⟩ := rowsL_spec (l := 1) (fss := fss) (by decide) h1
      have lL : (rowsL 1 fss).natAbs < 2 ^ 1000 := Nat.lt_of_le_of_lt Ll (by rw [show (1 : Int).natAbs = 1 from rfl, Nat.one_mul]; exact lp)
      generalize hL : rowsL 1 fss = L at *
      refine lc_lt (K := K) (a := a) (xs := xs) (fun Q q => ⟨_, rfl, q⟩) (ha.imp s2.seq (Same.seqT s2)) (fun D i H ys => Parts K H ys (partsOf L (fss.take i)) ∧ ∀ v ∈ ys, v ≠ .ref D) (by omega) (fun D i H H' ys s ⟨p1, p2⟩ => ⟨p1.same s, p2⟩) (fun D i H ys o ⟨p1, p2⟩ => ⟨p1.upd p2, p2⟩) (fun D H => ⟨.nil, fun v hv => absurd hv (by simp)⟩) (fun D i x H3 hD hi s3 hx nD => ?_) (fun x σ0 H0 Q0 Q1 h q => h _ _ q) fun D H3 ys s3 hD h3 hl ⟨r1, _⟩ => ?_
      · obtain ⟨u, ys, fs, eu, ef, hu, hys⟩ := hf.get (n := i) (by omega)
        obtain rfl : x = .ref u := by rw [eu] at hx; exact (Option.some.inj hx).symm
        have mf := List.mem_of_getElem? ef
        have ly := hys.len
        have s03 := Same.trans s2 s3
        refine ⟨Same.refl _, rfl, fun Q2 hq => ?_⟩
        refine ⟨_, rfl, u, rfl, ⟨ys, Same.seqT s03 hu⟩, fun D1 hD1 => lc_pure walk_tup hD1 (by have := lf fs mf; omega) (fun j => .int (num L (fs.getD j (0, 1)))) (fun H4 s4 => Same.seqT (Same.trans s03 s4) hu) (fun j y H4 H5 hj s4 yy => ?_) (fun x σ0 H0 Q0 Q1 h q => h _ _ q) fun H4 s4 h4 => hq _ _ s4 fun zs ⟨r1, r2⟩ => ⟨?_, ?_⟩⟩
        · obtain ⟨rfl, hy⟩ := yy
          obtain ⟨v, f, ev, efj, hv⟩ := hys.get (n := j) (by omega)
          obtain rfl : y = .ref v := by rw [ev] at hy; exact (Option.some.inj hy).symm
          have hv5 := Same.seqT (Same.trans s03 s4) hv
          obtain ⟨f1, f2⟩ := hb fs mf f (List.mem_of_getElem? efj)
          have fd := Ld fs mf f (List.mem_of_getElem? efj)
          have ln0 : L.natAbs ≠ 0 := by have := L0; revert this; generalize L = z; omega
          have fl : f.2.natAbs < 2 ^ 1000 := Nat.lt_of_le_of_lt (Nat.le_of_dvd (Nat.pos_of_ne_zero ln0) (Int.natAbs_dvd_natAbs.mpr fd)) lL
          have ed : L.fdiv f.2 = L / f.2 := Int.fdiv_eq_ediv_of_nonneg _ (by omega)
          have dl : (L / f.2).natAbs < 2 ^ 1000 := Nat.lt_of_le_of_lt (Int.natAbs_ediv_le_natAbs _ _) lL
          have en : num L (fs.getD j (0, 1)) = f.1 * (L / f.2) := by rw [List.getD_eq_getElem?_getD, efj]; rfl
          refine ⟨Same.refl _, rfl, fun Q3 hq3 => ?_⟩
          walk_at "rs"
          rw [en, ← ed] at hq3
          rw [← ed] at dl
          exact ⟨_, hv5, _, rfl, _, hv5, _, rfl, _, rfl, ⟨by omega, logL fl (by decide) (by decide)⟩, _, rfl, mulW (pow_le f2 (by decide)) (pow_le dl (by decide)), hq3 _ (Same.refl _)⟩
        · have e : partsOf L (fss.take (i + 1)) = partsOf L (fss.take i) ++ [fs.map (num L)] := by
            obtain ⟨hk, rfl⟩ := List.getElem?_eq_some_iff.mp ef
            unfold partsOf
            rw [← List.take_append_getElem hk, List.map_append]
            rfl
          rw [e]
          refine r1.app (.cons (SqL.of ?_) .nil)
          rw [h4, ly, map_getD fs (fun f => V.int (num L f)), List.map_map]
          rfl
        · intro v hv
          rcases List.mem_append.mp hv with hv | hv
          · exact r2 v hv
          · obtain rfl := List.mem_singleton.mp hv
            exact fun e => nD (by cases e; exact hD1)
      · refine ⟨by decide, fun p H4 s4 _ h4 => k _ _ (Same.trans s2 (Same.trans s3 s4)) ⟨p, D, ys, rfl, .inl (.inl h4), SqL.of (s4 _ _ h3), ?_⟩⟩
        rw [le, List.take_length] at r1
        exact r1.same s4
end
end LK

set_option Elab.async false
set_option linter.all false
set_option maxRecDepth 100000
namespace LK
open PySem PySem.Spec PyProof.Rows L2
local macro_rules | `(tactic| walk_at "rs") => `(tactic| simp only [cxK, cxNK, tCallZ, tAsg, tOp, rI0, rS0, rB0, rI, rU, tUn, rEq, rNe, rIxL, rIxT, rIxS, rSetL, rSlLU, rSlS, rSlU, rCatL, rCatU, rRepL, rIn, tVar, tC, gName, gSub, tIfS, tTest, tB, tAnd, tOr, tNot, tNotV, tAndV, tOrV, tIf, tCall, tCons, tNil, tCB, tDrop, tRet, tRetN, tNext, tLstU, tTupU, tM0, tM1, tPar, tPar3, tAug, ipI, tBM, tBM0, rAppend, rPop, tBreak, tCont, tChain, tSl, tPart, tNoPart, L2.start, List.map, List.length_cons, List.length_nil, List.replicate, List.cons_append, List.nil_append, List.append_nil, List.getElem?_cons_zero, List.getElem?_cons_succ, List.set_cons_zero, List.set_cons_succ, Option.some.injEq, V.int.injEq, V.ref.injEq, V.str.injEq, V.bl.injEq, exists_eq_left', exists_eq_left, exists_and_left, decide_eq_true_eq, List.cons.injEq, and_true, true_and, scal, Bool.not_eq_true', decide_eq_false_iff_not, Nat.zero_add, Nat.reduceAdd, Nat.reduceSub, reduceCtorEq, false_and, exists_false, false_or, or_false, CPow, CPowW, CMul, CDiv, Int.reduceToNat, ↓reduceIte, wipe, sw, List.nil_append, List.singleton_append])
local macro_rules | `(tactic| walk_at "st") => `(tactic| (refine seq_op fun N hN => ?_; walk_at "rs"))
local macro_rules | `(tactic| walk_at "sd") => `(tactic| first | assumption | decide | omega)
local macro_rules | `(tactic| walk_at "rd") => `(tactic| repeat (first
  | refine ⟨_, SqL.of (by assumption), ?_⟩ | refine ⟨_, SqL.of upd_same, ?_⟩ | refine ⟨_, .inl (SqL.of (by assumption)), ?_⟩ | refine ⟨_, (by assumption : _ = some (HO.lst _)), ?_⟩ | refine ⟨_, upd_same, ?_⟩
  | refine ⟨_, rfl, ?_⟩ | refine And.intro (by walk_at "sd") ?_))

/-! ### the law's own denominators of units -/
def den1 (u : Un) : List Fr := u.terms.map (·.2) ++ [u.shift]
def den2 (u : Un) : List Fr := u.giv.map (·.2)
def inner (u : Un) : Int := comI (den1 u)
def moreF (l : Int) (us : List Un) : Int := us.foldl (fun m u => comI [(1, m), (1, inner u * comI (den2 u))]) l
def prodU (u : Un) : Nat := prodD (den1 u) * prodD (den2 u)
def prodUs : List Un → Nat
  | [] => 1
  | u :: us => prodU u * prodUs us
structure UB (n : Nat) (u : Un) : Prop where
  tl : u.terms.length ≤ 100
  ter : ∀ p ∈ u.terms, p.1 < n ∧ low p.2 ∧ p.2.1.natAbs < 2 ^ 100
  sl : low u.shift
  sb : u.shift.1.natAbs < 2 ^ 100
  gl : u.giv.length ≤ 100
  giv : ∀ p ∈ u.giv, p.1 < n ∧ low p.2 ∧ p.2.1.natAbs < 2 ^ 100
  pb : prodD (den1 u) < 2 ^ 100
  qb : prodD (den2 u) < 2 ^ 100
theorem UB.d1 {n : Nat} {u : Un} (b : UB n u) : ∀ f ∈ den1 u, 1 ≤ f.2 := fun f hf => by
  rcases List.mem_append.mp hf with hf | hf
  · obtain ⟨p, hp, rfl⟩ := List.mem_map.mp hf
    exact (b.ter p hp).2.1.1
  · obtain rfl := List.mem_singleton.mp hf
    exact b.sl.1
theorem UB.d2 {n : Nat} {u : Un} (b : UB n u) : ∀ f ∈ den2 u, 1 ≤ f.2 := fun f hf => by
  obtain ⟨p, hp, rfl⟩ := List.mem_map.mp hf
  exact (b.giv p hp).2.1.1
theorem more_step {m : Int} (hm : 0 < m) {n : Nat} {u : Un} (b : UB n u) : 0 < comI [(1, m), (1, inner u * comI (den2 u))] ∧ m ∣ comI [(1, m), (1, inner u * comI (den2 u))] ∧ inner u * comI (den2 u) ∣ comI [(1, m), (1, inner u * comI (den2 u))] ∧ (comI [(1, m), (1, inner u * comI (den2 u))]).natAbs ≤ m.natAbs * prodU u ∧ prodD [(1, m), (1, inner u * comI (den2 u))] ≤ m.natAbs * prodU u := by
  obtain ⟨a1, _, a3⟩ := comI_spec b.d1
  obtain ⟨b1, _, b3⟩ := comI_spec b.d2
  have p0 : 0 < inner u * comI (den2 u) := Int.mul_pos a1 b1
  have pl : (inner u * comI (den2 u)).natAbs ≤ prodU u := by
    rw [Int.natAbs_mul]
    exact Nat.mul_le_mul a3 b3
  obtain ⟨c1, c2, c3⟩ := comI_spec (fs := [(1, m), (1, inner u * comI (den2 u))]) fun f hf => by
    simp only [List.mem_cons, List.not_mem_nil, or_false] at hf
    rcases hf with rfl | rfl
    · exact hm
    · exact p0
  have pd : prodD [(1, m), (1, inner u * comI (den2 u))] ≤ m.natAbs * prodU u := by
    show m.natAbs * ((inner u * comI (den2 u)).natAbs * 1) ≤ _
    rw [Nat.mul_one]
    exact Nat.mul_le_mul_left _ pl
  exact ⟨c1, c2 (1, m) (by simp), c2 (1, inner u * comI (den2 u)) (by simp), Nat.le_trans c3 pd, pd⟩
theorem moreF_spec {n : Nat} : ∀ {us : List Un} {m : Int}, 0 < m → (∀ u ∈ us, UB n u) → 0 < moreF m us ∧ m ∣ moreF m us ∧ (∀ u ∈ us, inner u * comI (den2 u) ∣ moreF m us) ∧ (moreF m us).natAbs ≤ m.natAbs * prodUs us
  | [], m, hm, _ => ⟨hm, Int.dvd_refl _, fun u hu => absurd hu (by simp), by show m.natAbs ≤ m.natAbs * 1; omega⟩
  | u :: us, m, hm, h => by
    obtain ⟨p, d1, d2, l, _⟩ := more_step hm (h u List.mem_cons_self)
    obtain ⟨q, e1, e2, k⟩ := moreF_spec (us := us) p fun v hv => h v (List.mem_cons_of_mem _ hv)
    refine ⟨q, Int.dvd_trans d1 e1, fun v hv => ?_, ?_⟩
    · rcases List.mem_cons.mp hv with rfl | hv
      · exact Int.dvd_trans d2 e1
      · exact e2 v hv
    · refine Nat.le_trans k ?_
      show _ ≤ m.natAbs * (prodU u * prodUs us)
      rw [← Nat.mul_assoc]
      exact Nat.mul_le_mul_right _ l
theorem moreF_next {m : Int} {us : List Un} {i : Nat} {u : Un} (h : us[i]? = some u) : moreF m (us.take (i + 1)) = comI [(1, moreF m (us.take i)), (1, inner u * comI (den2 u))] := by
  obtain ⟨hi, rfl⟩ := List.getElem?_eq_some_iff.mp h
  unfold moreF
  rw [← List.take_append_getElem hi, List.foldl_append]
  rfl
theorem prodU_pos {n : Nat} {u : Un} (b : UB n u) : 1 ≤ prodU u := Nat.mul_pos (prodD_pos b.d1) (prodD_pos b.d2)
theorem prodUs_pos {n : Nat} : ∀ {us : List Un}, (∀ u ∈ us, UB n u) → 1 ≤ prodUs us
  | [], _ => Nat.le_refl _
  | u :: us, h => Nat.mul_pos (prodU_pos (h u List.mem_cons_self)) (prodUs_pos fun v hv => h v (List.mem_cons_of_mem _ hv))
theorem prodUs_step {n : Nat} : ∀ {us : List Un} {i : Nat} {u : Un}, (∀ u ∈ us, UB n u) → us[i]? = some u → prodUs (us.take i) * prodU u ≤ prodUs us
  | v :: us, 0, u, h, e => by
    cases e
    rw [List.take_zero]
    show 1 * prodU v ≤ prodU v * prodUs us
    rw [Nat.one_mul]
    exact Nat.le_mul_of_pos_right _ (prodUs_pos fun v hv => h v (List.mem_cons_of_mem _ hv))
  | v :: us, i + 1, u, h, e => by
    show prodU v * prodUs (us.take i) * prodU u ≤ prodU v * prodUs us
    rw [Nat.mul_assoc]
    exact Nat.mul_le_mul_left _ (prodUs_step (us := us) (i := i) (fun v hv => h v (List.mem_cons_of_mem _ hv)) e)
theorem num_bound {M : Int} {f : Fr} {a b : Nat} (hM : M.natAbs < 2 ^ a) (hf : f.1.natAbs < 2 ^ b) : (num M f).natAbs < 2 ^ (b + a) := wide_lt hf (Nat.lt_of_le_of_lt (Int.natAbs_ediv_le_natAbs _ _) hM)
theorem ufit_of {n : Nat} {us : List Un} (h : ∀ u ∈ us, UB n u) (hp : prodUs us < 2 ^ 800) (hl : us.length ≤ 1000) (hg : (us.map fun u => u.giv.length).sum ≤ 600) : UsFit n inner (moreF 1 us) us := by
  obtain ⟨w0, _, wd, wl⟩ := moreF_spec (m := 1) (by decide) h
  have w1 : (moreF 1 us).natAbs < 2 ^ 800 := Nat.lt_of_le_of_lt wl (by rw [show (1 : Int).natAbs = 1 from rfl, Nat.one_mul]; exact hp)
  refine ⟨fun u hu => ?_, hl, hg, w0, w1⟩
  have b := h u hu
  obtain ⟨a1, a2, a3⟩ := comI_spec b.d1
  obtain ⟨b1, b2, b3⟩ := comI_spec b.d2
  have il : (inner u).natAbs < 2 ^ 100 := Nat.lt_of_le_of_lt a3 b.pb
  refine ⟨a1, pow_le il (by decide), w0, w1, ⟨b.tl, fun p hp => ?_⟩, b.sl, a2 _ (List.mem_append_right _ List.mem_cons_self), pow_le (num_bound il b.sb) (by decide), b.gl, fun p hp => ?_⟩
  · obtain ⟨c1, c2, c3⟩ := b.ter p hp
    exact ⟨c1, c2.1, c2.2, a2 _ (List.mem_append_left _ (List.mem_map_of_mem hp)), pow_le (num_bound il c3) (by decide)⟩
  · obtain ⟨c1, c2, c3⟩ := b.giv p hp
    exact ⟨c1, c2, Int.dvd_trans (Int.mul_dvd_mul_left _ (b2 _ (List.mem_map_of_mem hp))) (wd u hu), c3⟩
end LK

set_option Elab.async false
set_option linter.all false
set_option maxRecDepth 100000
namespace LK
open PySem PySem.Spec PyProof.Rows L2
local macro_rules | `(tactic| walk_at "rs") => `(tactic| simp only [cxK, cxNK, tCallZ, tAsg, tOp, rI0, rS0, rB0, rI, rU, tUn, rEq, rNe, rIxL, rIxT, rIxS, rSetL, rSlLU, rSlS, rSlU, rCatL, rCatU, rRepL, rIn, tVar, tC, gName, gSub, tIfS, tTest, tB, tAnd, tOr, tNot, tNotV, tAndV, tOrV, tIf, tCall, tCons, tNil, tCB, tDrop, tRet, tRetN, tNext, tLstU, tTupU, tM0, tM1, tPar, tPar3, tAug, ipI, tBM, tBM0, rAppend, rPop, tBreak, tCont, tChain, tSl, tPart, tNoPart, L2.start, List.map, List.length_cons, List.length_nil, List.replicate, List.cons_append, List.nil_append, List.append_nil, List.getElem?_cons_zero, List.getElem?_cons_succ, List.set_cons_zero, List.set_cons_succ, Option.some.injEq, V.int.injEq, V.ref.injEq, V.str.injEq, V.bl.injEq, exists_eq_left', exists_eq_left, exists_and_left, decide_eq_true_eq, List.cons.injEq, and_true, true_and, scal, Bool.not_eq_true', decide_eq_false_iff_not, Nat.zero_add, Nat.reduceAdd, Nat.reduceSub, reduceCtorEq, false_and, exists_false, false_or, or_false, CPow, CPowW, CMul, CDiv, Int.reduceToNat, ↓reduceIte, wipe, sw, List.nil_append, List.singleton_append])
local macro_rules | `(tactic| walk_at "st") => `(tactic| (refine seq_op fun N hN => ?_; walk_at "rs"))
local macro_rules | `(tactic| walk_at "sd") => `(tactic| first | assumption | decide | omega)
local macro_rules | `(tactic| walk_at "rd") => `(tactic| repeat (first
  | refine ⟨_, SqL.of (by assumption), ?_⟩ | refine ⟨_, SqL.of upd_same, ?_⟩ | refine ⟨_, .inl (SqL.of (by assumption)), ?_⟩ | refine ⟨_, (by assumption : _ = some (HO.lst _)), ?_⟩ | refine ⟨_, upd_same, ?_⟩
  | refine ⟨_, rfl, ?_⟩ | refine And.intro (by walk_at "sd") ?_))

def rGetL (K : PySem.W.Frag) : V → V → Hp → VK → Prop := fun o i H Q => ∃ (p : Addr) (xs : List V) (j : Nat) (v : V), o = .ref p ∧ i = .int (j : Int) ∧ SqL K H p xs ∧ xs[j]? = some v ∧ Q v H
theorem get_list {X : Cx} : PGet X (rGetL X.K) := by
  rintro pins s σ H o i ov iv Q I ro ri ⟨p, xs, j, v, rfl, rfl, hq, he, q⟩
  cases ro
  obtain ⟨t, rfl⟩ := ri
  obtain ⟨its, r, pl, hz⟩ := I.list hq
  obtain ⟨u, eu, ru⟩ := r.get he
  have hl := r.length
  have hn := line63
  have hj : j < xs.length := (List.getElem?_eq_some_iff.mp he).1
  exact wpAny_getItem_list pl.isList (Int.natCast_nonneg j) (by omega) (by simpa using eu) ⟨v, H, I, ru, q⟩
section
variable {P : Program} {w : World} {K : PySem.W.Frag} {mg : Str → Option Value} {base : Heap}
/-- [one[1] for one in entries] -/
theorem lc_dens {tl : TE} {i : Nat} {σ : L2.St} {H : Hp} {Q : VK} {ta : Addr} {xs : List V} {es : List (Nat × Fr)} (hi : i < σ.length) (hv : ∀ Q : VK, Q (.ref ta) H → tl σ H Q) (ht : SqT K H ta xs) (he : Ens K H xs es) (hl : es.length ≤ 100) (k : ∀ p ys H', Same H H' → H p = none → H' p = some (.lst ys) → Frs K H' ys (es.map (·.2)) → Q (.ref p) H') :
    tLc (iTup K tl) (gName i) tYes (tOp (rIxT K) (tVar i) (tC (.int 1))) [i] σ H Q := by
  have le := he.len
  refine hv _ ⟨ta, rfl, ⟨xs, ht⟩, fun D hD => lc_acc walk_tup (fun j H ys => Frs K H ys ((es.take j).map fun (p : Nat × Fr) => p.2)) hD (by omega) (fun j H H' ys s f => f.same s) (fun j H ys zs o hp f => f.upd hp) .nil (fun H' s => Same.seqT s ht) (fun j x H2 H3 hj s y => ?_) (fun x σ0 H0 Q0 Q1 h q => h _ _ q) fun H' ys s h1 h2 f => k D ys H' s hD h1 (by rw [le, List.take_length] at f; exact f)⟩
  obtain ⟨rfl, hx⟩ := y
  obtain ⟨a, u, c, f, e1, e2, h1, h2⟩ := he.get (n := j) (by omega)
  obtain rfl : x = .ref a := by rw [e1] at hx; exact (Option.some.inj hx).symm
  refine ⟨Same.refl _, ?_, fun Q2 hq => ?_⟩
  · show ((σ.set i none).set i (some _)).set i none = σ.set i none
    rw [List.set_set, List.set_set]
  · have h1' := Same.seqT s h1
    refine ⟨.ref a, ?_, a, _, 1, .ref u, rfl, rfl, h1', rfl, hq _ _ (Same.refl _) fun ys hy => ?_⟩
    · show ((σ.set i none).set i (some (.ref a)))[i]? = _
      rw [List.getElem?_set_self (by rw [List.length_set]; exact hi)]
    · obtain ⟨hk, e⟩ := List.getElem?_eq_some_iff.mp e2
      have e3 : (es.take (j + 1)).map (·.2) = (es.take j).map (·.2) ++ [f] := by
        rw [← List.take_append_getElem hk, List.map_append, e]
        rfl
      rw [e3]
      exact hy.app (.cons (Same.seqT s h2) .nil)
/-- a comprehension whose items are told by R, which holds ahead of each turn -/
theorem lc_accE {J : It} {n : Nat} {G : Hp → Prop} {Y : Nat → Hp → V → Hp → Prop} (w : Walk J n G Y) {g : TG} {te : TE} {vs : List Nat} {σ : L2.St} {H1 : Hp} {D : Addr} {Qd : Hp → Prop} (R : Nat → Hp → List V → Prop) (hD : H1 D = none) (hn : n ≤ 1000000)
    (up : ∀ i H ys o, R i H ys → R i (L2.upd H D o) ys) (r0 : ∀ H, R 0 H []) (hG : ∀ H, Same H1 H → G H)
    (hs : ∀ i x H H' ys, i < n → Same H1 H → H D = some (.lst ys) → R i H ys → Y i H x H' → g x (wipe σ vs) H' fun σ2 H2 => Same H H2 ∧ wipe σ2 vs = wipe σ vs ∧ ∀ Q2 : V → Hp → Prop, (∀ v H3, Same H2 H3 → R (i + 1) H3 (ys ++ [v]) → Q2 v H3) → te σ2 H2 Q2)
    (gm : ∀ x σ0 H0 Q0 Q1, (∀ σ2 H2, Q0 σ2 H2 → Q1 σ2 H2) → g x σ0 H0 Q0 → g x σ0 H0 Q1)
    (hq : ∀ H' ys, Same H1 H' → H' D = some (.lst ys) → ys.length = n → R n H' ys → Qd H') :
    ∃ W : Nat → Nat → Hp → Prop, (∃ m, W 0 m (L2.upd H1 D (.lst []))) ∧ ∀ i m H, W i m H →
      (J.stop i H ∧ Qd H) ∨ (J.go i H ∧ ∃ Nx : Hp → Prop, (∀ H', Nx H' → ∃ m', m' < m ∧ W (i + 1) m' H') ∧ ∀ x H', J.yld i H x H' → g x (wipe σ vs) H' fun σ2 H2 => wipe σ2 vs = wipe σ vs ∧ tYes σ2 H2 fun b H3 =>
        if b = true then te σ2 H3 fun y H4 => ∃ acc, H4 D = some (.lst acc) ∧ acc.length < sizeLine ∧ Nx (L2.upd H4 D (.lst (acc ++ [y]))) else Nx H3) := by
  have keep : ∀ {H : Hp} {o : HO}, Same H1 H → Same H1 (L2.upd H D o) := fun s a u e => by
    rw [upd_ne (ne_of_none e hD)]; exact s _ _ e
  refine lc_it w (fun i H => Same H1 H ∧ ∃ ys, H D = some (.lst ys) ∧ ys.length = i ∧ R i H ys) ⟨keep (Same.refl _), [], upd_same, rfl, r0 _⟩ (fun i H _ h => hG H h.1) (fun i x H H' hi ⟨s1, ys, h1, hl, hr⟩ hY => ?_) (fun H ⟨s1, ys, h1, hl, hr⟩ => hq H ys s1 h1 hl hr)
  refine gm _ _ _ _ _ (fun σ2 H2 ⟨s2, e2, kq⟩ => ⟨e2, ?_⟩) (hs i x H H' ys hi s1 h1 hr hY)
  simp only [tYes, eq_self, ite_true]
  refine kq _ fun v H3 s3 st => ?_
  have hD3 := Same.trans s2 s3 _ _ h1
  refine ⟨ys, hD3, ?_, keep (Same.trans s1 (Same.trans s2 s3)), ys ++ [v], upd_same, by rw [List.length_append, hl]; rfl, up _ _ _ _ st⟩
  rw [hl]
  exact Nat.lt_of_lt_of_le (Nat.lt_of_lt_of_le hi hn) (by decide)
def Sole (ms : List V) : Prop := ∀ (i j : Nat) (v : V), ms[i]? = some v → ms[j]? = some v → i = j
theorem Sole.app {ms : List V} {v : V} (h : Sole ms) (n : ∀ i : Nat, ms[i]? ≠ some v) : Sole (ms ++ [v]) := by
  intro i j u e1 e2
  rw [List.getElem?_append] at e1 e2
  split at e1
  · split at e2
    · exact h i j u e1 e2
    · obtain ⟨l, g⟩ := List.getElem?_eq_some_iff.mp e2
      have : u = v := by rw [← g]; simp
      exact absurd (this ▸ e1) (n i)
  · split at e2
    · obtain ⟨l, g⟩ := List.getElem?_eq_some_iff.mp e1
      have : u = v := by rw [← g]; simp
      exact absurd (this ▸ e2) (n j)
    · obtain ⟨l, _⟩ := List.getElem?_eq_some_iff.mp e1
      obtain ⟨l2, _⟩ := List.getElem?_eq_some_iff.mp e2
      simp at l l2
      omega
/-- the lists that `made` holds -/
structure Made (H0 H : Hp) (D : Addr) (ms : List V) (Yss : List (List Int)) : Prop where
  same : Same H0 H
  d0 : H0 D = none
  dl : H D = some (.lst ms)
  len : ms.length = Yss.length
  nd : Sole ms
  row : ∀ (j : Nat) (v : V) (Ys : List Int), ms[j]? = some v → Yss[j]? = some Ys → ∃ r, v = .ref r ∧ r ≠ D ∧ H0 r = none ∧ H r = some (.lst (Ys.map V.int))
theorem Made.upd {H0 H : Hp} {D : Addr} {ms : List V} {Yss : List (List Int)} (m : Made H0 H D ms Yss) {j : Nat} {r : Addr} {Ys : List Int} (hm : ms[j]? = some (.ref r)) (hY : Yss[j]? = some Ys) (Zs : List Int) : Made H0 (L2.upd H r (.lst (Zs.map V.int))) D ms (Yss.set j Zs) := by
  obtain ⟨r', e', n1, n2, n3⟩ := m.row j _ _ hm hY
  cases e'
  refine ⟨fun p o e => ?_, m.d0, by rw [upd_ne (Ne.symm n1)]; exact m.dl, by rw [List.length_set]; exact m.len, m.nd, fun i v Ws h1 h2 => ?_⟩
  · have n : p ≠ r := fun z => by rw [z, n2] at e; cases e
    rw [upd_ne n]; exact m.same _ _ e
  · rw [List.getElem?_set] at h2
    by_cases c : j = i
    · subst c
      rw [hm] at h1
      cases h1
      rw [if_pos rfl] at h2
      split at h2
      · cases h2
        exact ⟨r, rfl, n1, n2, upd_same⟩
      · cases h2
    · rw [if_neg c] at h2
      obtain ⟨q, e, k1, k2, k3⟩ := m.row i v Ws h1 h2
      refine ⟨q, e, k1, k2, ?_⟩
      have n : q ≠ r := fun z => by
        subst e
        rw [z] at h1
        exact c (m.nd _ _ _ hm h1)
      rw [upd_ne n]; exact k3
theorem Made.mono {H0 H H' : Hp} {D : Addr} {ms : List V} {Yss : List (List Int)} (m : Made H0 H D ms Yss) (s : Same H H') : Made H0 H' D ms Yss := ⟨Same.trans m.same s, m.d0, s _ _ m.dl, m.len, m.nd, fun j v Ys e1 e2 => by
  obtain ⟨r, k1, k2, k3, k4⟩ := m.row j v Ys e1 e2
  exact ⟨r, k1, k2, k3, s _ _ k4⟩⟩
theorem parts_of {K : PySem.W.Frag} {H : Hp} : ∀ {ms : List V} {Yss : List (List Int)}, ms.length = Yss.length → (∀ (j : Nat) (v : V) (Ys : List Int), ms[j]? = some v → Yss[j]? = some Ys → ∃ r, v = .ref r ∧ H r = some (.lst (Ys.map V.int))) → Parts K H ms Yss
  | [], [], _, _ => .nil
  | v :: ms, Ys :: Yss, hl, h => by
    obtain ⟨r, rfl, hr⟩ := h 0 v Ys rfl rfl
    exact .cons (SqL.of hr) (parts_of (by simpa using hl) fun j u Zs e1 e2 => h (j + 1) u Zs e1 e2)
  | [], _ :: _, hl, _ => by cases hl
  | _ :: _, [], hl, _ => by cases hl
/-! the rows of `made` under way -/
def rowK (L W : Int) (ws : List Un) (Xs : List Int) (k : Nat) : List Int := (bendG L W inner (ws.take k) Xs).foldl addG (Xs.map (· * W))
def rowsAt (L W : Int) (ws : List Un) (Xss : List (List Int)) (k m : Nat) : List (List Int) := (List.range Xss.length).map fun j => rowK L W ws (Xss.getD j []) (if j < m then k + 1 else k)
section
variable {L W : Int} {ws : List Un} {Xss : List (List Int)} {k m : Nat}
theorem rowsAt_0 : rowsAt L W ws Xss k 0 = Xss.map fun Xs => rowK L W ws Xs k := by
  unfold rowsAt
  simp only [Nat.not_lt_zero, if_false]
  exact map_getD Xss fun Xs => rowK L W ws Xs k
theorem rowsAt_n : rowsAt L W ws Xss k Xss.length = Xss.map fun Xs => rowK L W ws Xs (k + 1) := by
  rw [← map_getD Xss fun Xs => rowK L W ws Xs (k + 1)]
  unfold rowsAt
  refine List.map_congr_left fun j hj => ?_
  rw [if_pos (List.mem_range.mp hj)]
theorem rowsAt_get {Xs : List Int} (e : Xss[m]? = some Xs) : (rowsAt L W ws Xss k m)[m]? = some (rowK L W ws Xs k) := by
  obtain ⟨h, rfl⟩ := List.getElem?_eq_some_iff.mp e
  unfold rowsAt
  rw [List.getElem?_map, List.getElem?_range h]
  simp [List.getD_eq_getElem?_getD, e]
theorem rowsAt_set {Xs : List Int} (e : Xss[m]? = some Xs) : (rowsAt L W ws Xss k m).set m (rowK L W ws Xs (k + 1)) = rowsAt L W ws Xss k (m + 1) := by
  obtain ⟨h, rfl⟩ := List.getElem?_eq_some_iff.mp e
  unfold rowsAt
  refine List.ext_getElem (by simp) fun j h1 h2 => ?_
  rw [List.getElem_set]
  simp only [List.getElem_map, List.getElem_range]
  by_cases c : m = j
  · subst c
    rw [if_pos rfl, if_pos (Nat.lt_succ_self _), List.getD_eq_getElem?_getD, e]
    rfl
  · rw [if_neg c]
    by_cases d : j < m
    · rw [if_pos d, if_pos (by omega)]
    · rw [if_neg d, if_neg (by omega)]
theorem rowK_0 (Xs : List Int) : rowK L W ws Xs 0 = Xs.map (· * W) := rfl
theorem rowK_all (Xs : List Int) : rowK L W ws Xs ws.length = bendR L W inner ws Xs := by
  unfold rowK bendR
  rw [List.take_length]
theorem rowK_next {u : Un} (e : ws[k]? = some u) (Xs : List Int) : rowK L W ws Xs (k + 1) = (giftI L (inner u) W Xs u).foldl addG (rowK L W ws Xs k) := by
  obtain ⟨h, rfl⟩ := List.getElem?_eq_some_iff.mp e
  unfold rowK bendG
  rw [← List.take_append_getElem h, List.flatMap_append, List.flatMap_singleton, List.foldl_append]
theorem rowK_len (Xs : List Int) : (rowK L W ws Xs k).length = Xs.length := by
  unfold rowK
  rw [foldG_len, List.length_map]
end
theorem natAbs_pos {M : Int} (h : 0 < M) : 0 < M.natAbs := by omega
theorem set_self {α : Type} {l : List α} {m : Nat} {a : α} (e : l[m]? = some a) : l.set m a = l := by
  refine List.ext_getElem? fun j => ?_
  rw [List.getElem?_set]
  by_cases c : m = j
  · subst c
    rw [if_pos rfl, if_pos (List.getElem?_eq_some_iff.mp e).1, e]
  · rw [if_neg c]
/-- what is left of `inner = ..` behind its comprehension -/
theorem inner_go {n : Nat} {u : Un} {H3 : Hp} {p1 va ta sha ga : Addr} {zs : List V} {F : VK} (h1 : SqT K H3 va [.ref ta, .ref sha, .ref ga]) (q1 : H3 p1 = some (.lst zs)) (f1 : Frs K H3 zs (u.terms.map (·.2))) (h4 : Pr K H3 sha u.shift.1 u.shift.2) (b : UB n u) (k : ∀ H', Same H3 H' → F (.int (inner u)) H') :
    ∃ x, SqT K H3 va x ∧ ∃ x1, atI x 1 = some x1 ∧ 1 ≤ sizeLine ∧ ∀ (p : Addr) (H2 : Hp), Same H3 H2 → H3 p = none → H2 p = some (HO.lst [x1]) → ∃ x, H2 p1 = some (HO.lst x) ∧ ∃ x2, H2 p = some (HO.lst x2) ∧ x.length + x2.length ≤ sizeLine ∧
      ∀ (p : Addr) (H5 : Hp), Same H2 H5 → H2 p = none → H5 p = some (HO.lst (x ++ x2)) → sp_common K [V.ref p] H5 F E0 := by
  have lz := f1.len
  refine ⟨_, h1, _, rfl, by decide, fun p H2 s2 _ h2 => ⟨zs, s2 _ _ q1, _, h2, ?_, fun p5 H5 s5 _ h5 => ?_⟩⟩
  · have := b.tl
    rw [List.length_map] at lz
    exact Nat.le_trans (show _ ≤ 1000000 by simp only [List.length_cons, List.length_nil]; omega) (by decide)
  · have s25 := Same.trans s2 s5
    exact ⟨p5, _, den1 u, rfl, .inl (SqL.of h5), (f1.same s25).app (.cons (Same.seqT s25 h4) .nil), b.d1, pow_le (a := 100) b.pb (by decide), fun H' s' => k H' (Same.trans s25 s')⟩
def sp_after (K : PySem.W.Frag) : Sp := fun vs H Q _ => ∃ (sv : V) (ua : Addr) (us : List V) (ws : List Un) (Xss : List (List Int)) (n : Nat) (L : Int), vs = [sv, .ref ua] ∧ StateAt K H sv L Xss ∧ (∀ Xs ∈ Xss, Xs.length = n ∧ LimR L Xs) ∧ 0 < L ∧ L.natAbs < 2 ^ 1000 ∧ Xss.length ≤ 1000 ∧ n ≤ 1000 ∧ (SqL K H ua us ∨ SqT K H ua us) ∧ Uns K H us ws ∧ (∀ u ∈ ws, UB n u) ∧ prodUs ws < 2 ^ 800 ∧ ws.length ≤ 1000 ∧ (ws.map fun u => u.giv.length).sum ≤ 600 ∧
  ∀ (v : V) H', Same H H' → StateAt K H' v (L * moreF 1 ws) (Xss.map (bendR L (moreF 1 ws) inner ws)) → Q v H'
theorem ok__law_after_bend (T : Txt w K mg) : FnOk P w K mg base CX0 3 T.a__law_after_bend T.d__law_after_bend ["state", "units_y"] (sp_after K) := by
  refine T.F__law_after_bend.ok sc__law_after_bend (fun vs H Q E h => ?_) (fun cdv A outer s H vs Q E hr h => ?_)
  · obtain ⟨sv, ua, us, ws, Xss, n, L, rfl, _⟩ := h
    rfl
  · obtain ⟨sv, ua, us, ws, Xss, n, L, rfl, ⟨sa, pa, ps, rfl, hsa, hpa, hps⟩, lim, L0, lL, lX, ln, hua, hus, ub, pU, lw, lg, k⟩ := h
    have hr__law_common : Room 2 _ := hr
    have G__law_common := ok__law_common (P := P) (base := base) T
    have uf := ufit_of ub pU lw lg
    have lu := hus.len
    refine ⟨_, (pss_cons (ps_asg (pv 0) (pg_tup rfl (pgs_cons (pg_name (i := 2) sc__law_after_bend.nd rfl (Or.inl rfl)) (pgs_cons (pg_name (i := 3) sc__law_after_bend.nd rfl (Or.inl rfl)) pgs_nil))))
      (pss_cons (ps_set (i := 4) sc__law_after_bend.nd rfl (Or.inr rfl) pe_int)
      (pss_cons (ps_for PassesOwn.never rfl (pi_lt (pv 1)) (pg_name (i := 5) sc__law_after_bend.nd rfl (Or.inl rfl)) (pss_cons (ps_set (i := 6) sc__law_after_bend.nd rfl (Or.inl rfl) (pe_call G__law_common hr__law_common (by rfl) T.m__law_common T.F__law_common.kp T.B__law_common .nil pass0 (pa_cons (pe_op op_catL (pe_lc (own := [("one", 10)]) (g := gName 10) (tt := tYes) rfl sc__law_after_bend.nd (pi_tup (pe_ix ix_tup (pv 5) pe_int (fun _ _ => rfl))) (blkOk_by (own := [("one", 10)]) (N := N__law_after_bend) (sc := defScope s__law_after_bend) (by decide +kernel)) (fun _ _ _ _ _ => pg_name (i := 10) sc__law_after_bend.nd rfl (Or.inl rfl)) (fun _ _ _ _ _ => pts_nil) (fun _ _ _ _ _ => (pe_ix (ix_tupK (K := K) rfl) (pv 10) pe_int (fun _ _ => rfl)))) (pe_lstU (pa_cons (pe_ix ix_tup (pv 5) pe_int (fun _ _ => rfl)) pa_nil))) pa_nil)))
      (pss_one (ps_set (i := 4) sc__law_after_bend.nd rfl (Or.inr rfl) (pe_call G__law_common hr__law_common (by rfl) T.m__law_common T.F__law_common.kp T.B__law_common .nil pass0 (pa_cons (pe_lstU (pa_cons (pe_tupU (pa_cons pe_int (pa_cons (pv 4) pa_nil))) (pa_cons (pe_tupU (pa_cons pe_int (pa_cons (pe_op op_mulW (pv 6) (pe_call G__law_common hr__law_common (by rfl) T.m__law_common T.F__law_common.kp T.B__law_common .nil pass0 (pa_cons (pe_lc (own := [("one", 10)]) (g := gName 10) (tt := tYes) rfl sc__law_after_bend.nd (pi_tup (pe_ix ix_tup (pv 5) pe_int (fun _ _ => rfl))) (blkOk_by (own := [("one", 10)]) (N := N__law_after_bend) (sc := defScope s__law_after_bend) (by decide +kernel)) (fun _ _ _ _ _ => pg_name (i := 10) sc__law_after_bend.nd rfl (Or.inl rfl)) (fun _ _ _ _ _ => pts_nil) (fun _ _ _ _ _ => (pe_ix (ix_tupK (K := K) rfl) (pv 10) pe_int (fun _ _ => rfl)))) pa_nil))) pa_nil))) pa_nil))) pa_nil))))))
      (pss_cons (ps_setLc (i := 7) (own := [("row", 11)]) (g := gName 11) (tt := tYes) rfl sc__law_after_bend.nd rfl rfl (sw_true rfl rfl rfl (by decide +kernel)) (pi_list (pv 3)) (blkOk_by (own := [("row", 11)]) (N := N__law_after_bend) (sc := defScope s__law_after_bend) (by decide +kernel)) (fun _ _ _ _ _ => pg_name (i := 11) sc__law_after_bend.nd rfl (Or.inl rfl)) (fun _ _ _ _ _ => pts_nil) (fun _ _ _ _ _ => (pe_lc (own := [("one", 10)]) (g := gName 10) (tt := tYes) rfl sc__law_after_bend.nd (pi_listK (K := K) rfl (pv 11)) (blkOk_by (own := [("one", 10)]) (N := N__law_after_bend) (by kernel_rfl)) (fun _ _ _ _ _ => pg_name (i := 10) sc__law_after_bend.nd rfl (Or.inl rfl)) (fun _ _ _ _ _ => pts_nil) (fun _ _ _ _ _ => (pe_op op_mulW (pv 10) (pv 4))))))
      (pss_cons (ps_for PassesOwn.never rfl (pi_lt (pv 1)) (pg_name (i := 5) sc__law_after_bend.nd rfl (Or.inl rfl)) (pss_cons (ps_set (i := 6) sc__law_after_bend.nd rfl (Or.inl rfl) (pe_call G__law_common hr__law_common (by rfl) T.m__law_common T.F__law_common.kp T.B__law_common .nil pass0 (pa_cons (pe_op op_catL (pe_lc (own := [("one", 10)]) (g := gName 10) (tt := tYes) rfl sc__law_after_bend.nd (pi_tup (pe_ix ix_tup (pv 5) pe_int (fun _ _ => rfl))) (blkOk_by (own := [("one", 10)]) (N := N__law_after_bend) (sc := defScope s__law_after_bend) (by decide +kernel)) (fun _ _ _ _ _ => pg_name (i := 10) sc__law_after_bend.nd rfl (Or.inl rfl)) (fun _ _ _ _ _ => pts_nil) (fun _ _ _ _ _ => (pe_ix (ix_tupK (K := K) rfl) (pv 10) pe_int (fun _ _ => rfl)))) (pe_lstU (pa_cons (pe_ix ix_tup (pv 5) pe_int (fun _ _ => rfl)) pa_nil))) pa_nil)))
      (pss_one (ps_for PassesOwn.never rfl (pi_range1 (by rfl) T.n_range (pa_cons (pe_callB call_len_seq (by rfl) T.n_len (by decide +kernel) (pa_cons (pv 3) pa_nil)) pa_nil)) (pg_name (i := 8) sc__law_after_bend.nd rfl (Or.inl rfl)) (pss_cons (ps_set (i := 9) sc__law_after_bend.nd rfl (Or.inl rfl) (pe_op op_mulW (pe_op op_mulW (pe_ix ix_tup (pe_ix ix_tup (pv 5) pe_int (fun _ _ => rfl)) pe_int (fun _ _ => rfl)) (pe_op op_fdivF (pv 6) (pe_ix ix_tup (pe_ix ix_tup (pv 5) pe_int (fun _ _ => rfl)) pe_int (fun _ _ => rfl)))) (pv 2)))
      (pss_cons (ps_for PassesOwn.never rfl (pi_tup (pe_ix ix_tup (pv 5) pe_int (fun _ _ => rfl))) (pg_name (i := 10) sc__law_after_bend.nd rfl (Or.inl rfl)) (pss_one (ps_set (i := 9) sc__law_after_bend.nd rfl (Or.inl rfl) (pe_op op_add (pv 9) (pe_op op_mulW (pe_op op_mulW (pe_ix ix_list (pe_ix ix_list (pv 3) (pv 8) (fun _ _ => rfl)) (pe_ix ix_tup (pv 10) pe_int (fun _ _ => rfl)) (fun _ _ => rfl)) (pe_ix ix_tup (pe_ix ix_tup (pv 10) pe_int (fun _ _ => rfl)) pe_int (fun _ _ => rfl))) (pe_op op_fdivF (pv 6) (pe_ix ix_tup (pe_ix ix_tup (pv 10) pe_int (fun _ _ => rfl)) pe_int (fun _ _ => rfl))))))))
      (pss_one (ps_if (pt_cmpR op_gt (pv 9) pe_int (nomark _)) (pss_one (ps_for PassesOwn.never rfl (pi_tup (pe_ix ix_tup (pv 5) pe_int (fun _ _ => rfl))) (pg_name (i := 10) sc__law_after_bend.nd rfl (Or.inl rfl)) (pss_one (ps_augS (pe_ix ix_list (pv 7) (pv 8) (fun _ _ => rfl)) (pe_ix ix_tup (pv 10) pe_int (fun _ _ => rfl)) get_list (pe_op op_mulW (pe_op op_mulW (pv 9) (pe_ix ix_tup (pe_ix ix_tup (pv 10) pe_int (fun _ _ => rfl)) pe_int (fun _ _ => rfl))) (pe_op op_fdivF (pv 4) (pe_op op_mulW (pv 6) (pe_ix ix_tup (pe_ix ix_tup (pv 10) pe_int (fun _ _ => rfl)) pe_int (fun _ _ => rfl))))) ip_add set_list)))) pss_nil))))))))
      (pss_one (ps_ret (pe_tupU (pa_cons (pe_op op_mulW (pv 2) (pv 4)) (pa_cons (pv 7) pa_nil)))))))))), ?_⟩
    refine seq_op fun N hN => ?_
    walk_at "rs"
    refine ⟨_, _, rfl, hsa, rfl, ?_⟩
    unfold gCons gNil
    walk_at "rs"
    refine ⟨_, _, ⟨rfl, rfl⟩, _, _, rfl, rfl, hN _ _ ?_⟩
    clear hN N
    refine seq_op fun N hN => ?_
    walk_at "rs"
    refine hN _ _ ?_
    clear hN N
    refine cut_seq (fun σ H2 => ∃ x5 x6 : Option V, σ = [some (.ref sa), some (.ref ua), some (.int L), some (.ref pa), some (.int (moreF 1 ws)), x5, x6, none, none, none, none, none] ∧ Same H H2) (fun N hN => ?_) ?_
    · refine for_lt (K := K) (a := ua) (xs := us) (fun Q q => ⟨_, rfl, q⟩) hua (fun i σ H2 => ∃ x5 x6 : Option V, σ = [some (.ref sa), some (.ref ua), some (.int L), some (.ref pa), some (.int (moreF 1 (ws.take i))), x5, x6, none, none, none, none, none] ∧ Same H H2) ⟨_, _, rfl, Same.refl _⟩ (fun i σ H2 ⟨_, _, _, s⟩ => s) ?_ ?_
      · rintro i y σ H2 hi ⟨x5, x6, rfl, s2⟩
        obtain ⟨u, eu, hu⟩ := hus.get hi
        have b := ub u (List.mem_of_getElem? eu)
        obtain ⟨m0, _, _, ml⟩ := moreF_spec (m := 1) (us := ws.take i) (by decide) fun v hv => ub v (List.mem_of_mem_take hv)
        obtain ⟨va, ta, sha, ga, xs, ys, rfl, h1, h2, h3, h4, h5, h6⟩ := hu.same s2
        refine seq_op fun N hN => ?_
        walk_at "rs"
        refine lc_dens (K := K) (by simp) (fun Q q => ⟨_, rfl, va, _, 0, .ref ta, rfl, rfl, h1, rfl, q⟩) h2 h3 b.tl fun p1 zs H3 s3 _ q1 f1 => ?_
        walk_at "rs"
        refine inner_go (Same.seqT s3 h1) q1 f1 (Same.seqT s3 h4) b fun H4 s4 => hN _ _ ?_
        clear hN N
        have s34 := Same.trans s3 s4
        walk_at "rs"
        refine ⟨by decide, fun pt H5 s5 _ t5 => ?_⟩
        refine lc_dens (K := K) (by simp) (fun Q q => ⟨_, rfl, va, _, 2, .ref ga, rfl, rfl, Same.seqT (Same.trans s34 s5) h1, rfl, q⟩) (Same.seqT (Same.trans s34 s5) h5) (h6.same (Same.trans s34 s5)) b.gl fun p6 zs6 H6 s6 _ q6 f6 => ?_
        obtain ⟨a1, _, a3⟩ := comI_spec b.d1
        obtain ⟨b1, _, b3⟩ := comI_spec b.d2
        have il : (inner u).natAbs < 2 ^ 100 := Nat.lt_of_le_of_lt a3 b.pb
        have gl : (comI (den2 u)).natAbs < 2 ^ 100 := Nat.lt_of_le_of_lt b3 b.qb
        obtain ⟨c1, _, _, _, c5⟩ := more_step m0 b
        have pr : prodD [(1, moreF 1 (ws.take i)), (1, inner u * comI (den2 u))] < 2 ^ 4000 := by
          refine pow_le (a := 800) (Nat.lt_of_le_of_lt (Nat.le_trans c5 ?_) pU) (by decide)
          refine Nat.le_trans (Nat.mul_le_mul_right _ ml) ?_
          rw [show (1 : Int).natAbs = 1 from rfl, Nat.one_mul]
          exact prodUs_step ub eu
        refine ⟨p6, zs6, den2 u, rfl, .inl (SqL.of q6), f6, b.d2, pow_le (a := 100) b.qb (by decide), fun H7 s7 => ⟨_, rfl, mulW (pow_le il (by decide)) (pow_le gl (by decide)), by decide, fun p8 H8 s8 _ t8 => ⟨by decide, fun p9 H9 s9 _ t9 => ?_⟩⟩⟩
        have s79 := Same.trans s7 (Same.trans s8 s9)
        refine ⟨p9, _, [(1, moreF 1 (ws.take i)), (1, inner u * comI (den2 u))], rfl, .inl (SqL.of t9), .cons (.inl (.inl (s79 _ _ (s6 _ _ t5)))) (.cons (.inl (.inl (s9 _ _ t8))) .nil), fun f hf => ?_, pr, fun H10 s10 => ⟨_, _, ⟨by rw [moreF_next eu], rfl, rfl⟩, Same.trans s2 (Same.trans s34 (Same.trans s5 (Same.trans s6 (Same.trans s79 s10))))⟩⟩
        simp only [List.mem_cons, List.not_mem_nil, or_false] at hf
        rcases hf with rfl | rfl
        · exact m0
        · exact Int.mul_pos a1 b1
      · rintro σ H2 ⟨x5, x6, rfl, s2⟩
        refine hN _ _ ⟨x5, x6, ?_, s2⟩
        rw [lu, List.take_length]
    · rintro σ H2 ⟨x5, x6, rfl, s2⟩
      generalize hW : moreF 1 ws = W at *
      refine seq_op fun N hN => ?_
      walk_at "rs"
      refine ⟨_, rfl, pa, rfl, ⟨ps, s2.seq hpa⟩, fun D hD => lc_accE walk_list (fun i H ys => ys.length = i ∧ Sole ys ∧ ∀ (j : Nat) (v : V) (Ys : List Int), ys[j]? = some v → (Xss.map fun (Xs : List Int) => Xs.map (· * W))[j]? = some Ys → ∃ r, v = .ref r ∧ r ≠ D ∧ H2 r = none ∧ H r = some (.lst (Ys.map V.int))) hD (by have := hps.len; omega) (fun i H ys o ⟨p0, p1, p2⟩ => ⟨p0, p1, fun j v Ys e1 e2 => ?_⟩) (fun H => ⟨rfl, fun i j v e _ => by simp at e, fun j v Ys e1 e2 => by simp at e1⟩) (fun H s => s.seq (s2.seq hpa)) (fun i x H3 H4 ys hi s3 hD3 ⟨p0, p1, p2⟩ y => ?_) (fun x σ0 H0 Q0 Q1 h q => h _ _ q) fun H3 ms s3 h3 hl ⟨p0, p1, p2⟩ => hN _ _ ?_⟩
      · obtain ⟨r, k1, k2, k3, k4⟩ := p2 j v Ys e1 e2
        exact ⟨r, k1, k2, k3, by rw [upd_ne k2]; exact k4⟩
      · obtain ⟨rfl, hx⟩ := y
        obtain ⟨q, Xs, eq, eX, hq⟩ := hps.get (n := i) (by have := hps.len; omega)
        obtain rfl : x = .ref q := by rw [eq] at hx; exact (Option.some.inj hx).symm
        have s04 := Same.trans s2 s3
        obtain ⟨xl, xm⟩ := lim Xs (List.mem_of_getElem? eX)
        refine ⟨Same.refl _, rfl, fun Q2 hq2 => ?_⟩
        refine ⟨_, rfl, q, rfl, ⟨_, s04.seq hq⟩, fun D1 hD1 => lc_pure walk_list hD1 (by rw [List.length_map]; omega) (fun j => .int (Xs.getD j 0 * W)) (fun H5 s5 => (Same.trans s04 s5).seq hq) (fun j y H5 H6 hj s5 yy => ?_) (fun x σ0 H0 Q0 Q1 h q => h _ _ q) fun H5 s5 h5 => hq2 _ _ s5 ⟨by rw [List.length_append, p0]; rfl, p1.app ?_, fun j v Ys e1 e2 => ?_⟩⟩
        · obtain ⟨rfl, hy⟩ := yy
          rw [List.length_map] at hj
          have ej : Xs[j]? = some Xs[j] := List.getElem?_eq_getElem hj
          obtain rfl : y = .int Xs[j] := by rw [List.getElem?_map, ej] at hy; exact (Option.some.inj hy).symm
          have eg : Xs.getD j 0 = Xs[j] := by rw [List.getD_eq_getElem?_getD, ej]; rfl
          refine ⟨Same.refl _, rfl, fun Q3 hq3 => ?_⟩
          rw [eg] at hq3
          refine ⟨_, rfl, _, rfl, Xs[j], W, rfl, rfl, mulW (pow_le (xm.2.2 _ (List.getElem_mem hj)) (by decide)) (pow_le uf.W1 (by decide)), hq3 _ (Same.refl _)⟩
        · intro j e
          have lj : j < Xss.length := by
            have := (List.getElem?_eq_some_iff.mp e).1
            have := hps.len
            omega
          obtain ⟨r, k1, _, _, k4⟩ := p2 j _ _ e (by rw [List.getElem?_map, List.getElem?_eq_getElem lj]; rfl)
          cases k1
          rw [hD1] at k4
          cases k4
        · rw [List.getElem?_append] at e1
          split at e1
          · obtain ⟨r, k1, k2, k3, k4⟩ := p2 j v Ys e1 e2
            exact ⟨r, k1, k2, k3, s5 _ _ k4⟩
          · obtain ⟨l, g⟩ := List.getElem?_eq_some_iff.mp e1
            have ev : v = .ref D1 := by rw [← g]; simp
            have ej : j = i := by simp at l; omega
            subst ej
            rw [List.getElem?_map, eX] at e2
            cases e2
            refine ⟨D1, ev, (fun z => by rw [z, hD3] at hD1; cases hD1), none_of s3 hD1, ?_⟩
            rw [h5, List.length_map, map_getD Xs (fun z => V.int (z * W)), List.map_map]
            rfl
      · clear hN N
        have md : Made H2 H3 D ms (Xss.map fun (Xs : List Int) => Xs.map (· * W)) := ⟨s3, hD, h3, by rw [hl, List.length_map]; exact hps.len, p1, p2⟩
        clear p0 p1 p2 hl h3
        refine cut_seq (fun σ H4 => ∃ x5 x6 x8 x9 x10 : Option V, σ = [some (.ref sa), some (.ref ua), some (.int L), some (.ref pa), some (.int W), x5, x6, some (.ref D), x8, x9, x10, none] ∧ Made H2 H4 D ms (Xss.map (bendR L W inner ws))) (fun N hN => ?_) ?_
        · refine for_lt (K := K) (a := ua) (xs := us) (fun Q q => ⟨_, rfl, q⟩) hua (fun i σ H4 => ∃ x5 x6 x8 x9 x10 : Option V, σ = [some (.ref sa), some (.ref ua), some (.int L), some (.ref pa), some (.int W), x5, x6, some (.ref D), x8, x9, x10, none] ∧ Made H2 H4 D ms (Xss.map fun Xs => rowK L W ws Xs i)) ⟨_, _, _, _, _, rfl, md⟩ (fun i σ H4 ⟨_, _, _, _, _, _, m4⟩ => Same.trans s2 m4.same) ?_ ?_
          · rintro i y σ H4 hi ⟨x5, x6, x8, x9, x10, rfl, m4⟩
            obtain ⟨u, eu, hu⟩ := hus.get hi
            have b := ub u (List.mem_of_getElem? eu)
            have fu := uf.all u (List.mem_of_getElem? eu)
            obtain ⟨va, ta, sha, ga, xs, ys, rfl, g1, g2, g3, g4, g5, g6⟩ := id hu
            have sH := Same.trans s2 m4.same
            refine seq_op fun N hN => ?_
            walk_at "rs"
            refine lc_dens (K := K) (by simp) (fun Q q => ⟨_, rfl, va, _, 0, .ref ta, rfl, rfl, Same.seqT sH g1, rfl, q⟩) (Same.seqT sH g2) (g3.same sH) b.tl fun p1 zs H5 s5 _ q1 f1 => ?_
            walk_at "rs"
            refine inner_go (Same.seqT (Same.trans sH s5) g1) q1 f1 (Same.seqT (Same.trans sH s5) g4) b fun H6 s6 => hN _ _ ?_
            clear hN N
            have m6 := m4.mono (Same.trans s5 s6)
            have le3 := g3.len
            have le6 := g6.len
            have lp := hps.len
            walk_at "rs"
            generalize hM : inner u = M at *
            refine ⟨_, rfl, pa, rfl, ps, .inl ((Same.trans s2 m6.same).seq hpa), (ps.length : Int), rfl, by omega, by omega, for_range (lo := 0) (n := ((ps.length : Int)).toNat) (fun m σ H7 => ∃ x8 x9 x10 : Option V, σ = [some (.ref sa), some (.ref ua), some (.int L), some (.ref pa), some (.int W), some (.ref va), some (.int M), some (.ref D), x8, x9, x10, none] ∧ Made H2 H7 D ms (rowsAt L W ws Xss i m)) ⟨_, _, _, rfl, by rw [rowsAt_0]; exact m6⟩ ?_ ?_⟩
            · rintro m σ H7 hm ⟨x8, x9, x10, rfl, m7⟩
              have hm' : m < Xss.length := by omega
              obtain ⟨q, Xs, eq, eX, hq⟩ := hps.get (n := m) hm'
              obtain ⟨xl, li⟩ := lim Xs (List.mem_of_getElem? eX)
              have s7 := Same.trans s2 m7.same
              have mX := rowsAt_get (L := L) (W := W) (ws := ws) (k := i) eX
              obtain ⟨v, ev⟩ : ∃ v, ms[m]? = some v := ⟨_, List.getElem?_eq_getElem (by rw [m7.len]; unfold rowsAt; simpa using hm')⟩
              obtain ⟨r, er, r1, r2, r3⟩ := m7.row m v _ ev mX
              subst er
              have sh0 : 0 < u.shift.2 := by have := b.sl.1; omega
              have ef1 : M.fdiv u.shift.2 = M / u.shift.2 := Int.fdiv_eq_ediv_of_nonneg _ (by omega)
              have M1 := fu.M1
              have M0 := fu.M0
              have md1 : ∀ d : Int, (M / d).natAbs < 2 ^ 200 := fun d => Nat.lt_of_le_of_lt (Int.natAbs_ediv_le_natAbs _ _) M1
              have dl : ∀ d : Int, 1 ≤ d → d ∣ M → d.natAbs < 2 ^ 200 := fun d h1 hd => Nat.lt_of_le_of_lt (Nat.le_of_dvd (natAbs_pos M0) (Int.natAbs_dvd_natAbs.mpr hd)) M1
              refine seq_op fun N hN => ?_
              walk_at "rs"
              refine ⟨_, Same.seqT s7 g1, _, rfl, sha, rfl, _, Same.seqT s7 g4, _, rfl, _, Same.seqT s7 g1, _, rfl, sha, rfl, _, Same.seqT s7 g4, _, rfl, u.shift.2, rfl, ⟨by omega, logL (dl _ b.sl.1 fu.sd) (by decide) (by decide)⟩, u.shift.1, rfl, ?_, ?_, hN _ _ ?_⟩
              · rw [ef1]; exact mulW (pow_le b.sb (by decide)) (pow_le (md1 _) (by decide))
              · rw [ef1]; exact mulW (pow_le fu.sb (by decide)) (pow_le lL (by decide))
              clear hN N
              rw [ef1]
              have hz0 : u.shift.1 * (M / u.shift.2) * L = num M u.shift * L + sumE Xs M (u.terms.take 0) := by
                show _ = num M u.shift * L + 0
                rw [Int.add_zero]
                rfl
              rw [hz0]
              refine cut_seq (fun σ H8 => ∃ x10 : Option V, σ = [some (.ref sa), some (.ref ua), some (.int L), some (.ref pa), some (.int W), some (.ref va), some (.int M), some (.ref D), some (.int (0 + (m : Int))), some (.int (zI L M Xs u)), x10, none] ∧ H8 = H7) (fun N hN => ?_) ?_
              · walk_at "rs"
                refine ⟨_, rfl, va, _, 0, .ref ta, rfl, rfl, Same.seqT s7 g1, rfl, ta, rfl, ⟨xs, Same.seqT s7 g2⟩, for_tup (K := K) (a := ta) (xs := xs) (fun t σ H8 => ∃ x10 : Option V, σ = [some (.ref sa), some (.ref ua), some (.int L), some (.ref pa), some (.int W), some (.ref va), some (.int M), some (.ref D), some (.int (0 + (m : Int))), some (.int (num M u.shift * L + sumE Xs M (u.terms.take t))), x10, none] ∧ H8 = H7) ⟨_, rfl, rfl⟩ (fun t σ H8 _ ⟨_, _, e⟩ => by rw [e]; exact Same.seqT s7 g2) ?_ ?_⟩
                · rintro t y σ H8 ht ⟨x10, rfl, rfl⟩
                  obtain ⟨a1, u1, c, f, e1, e2, k1, k2⟩ := g3.get (n := t) (by have := (List.getElem?_eq_some_iff.mp ht).1; omega)
                  obtain rfl : y = .ref a1 := by rw [e1] at ht; exact (Option.some.inj ht).symm
                  obtain ⟨c1, c2, c3⟩ := b.ter _ (List.mem_of_getElem? e2)
                  obtain ⟨_, d1, d2, d3, d4⟩ := fu.terms.2 _ (List.mem_of_getElem? e2)
                  dsimp only at c1 c2 c3 d1 d2 d3 d4
                  have en := sumE_next (Xs := Xs) (M := M) e2
                  have eX2 : Xs[c]? = some (Xs.getD c 0) := by rw [List.getD_eq_getElem?_getD, List.getElem?_eq_getElem (by omega)]; rfl
                  have eV : (Xs.map V.int)[c]? = some (.int (Xs.getD c 0)) := by rw [List.getElem?_map, eX2]; rfl
                  have ef2 : M.fdiv f.2 = M / f.2 := Int.fdiv_eq_ediv_of_nonneg _ (by omega)
                  walk_at "rs"
                  have k1' := Same.seqT s7 k1
                  have k2' := Same.seqT s7 k2
                  have bX := li.2.2 _ (List.mem_of_getElem? eX2)
                  have b1 : (Xs.getD c 0 * f.1).natAbs < 2 ^ (1200 + 100) := wide_lt bX c3
                  refine ⟨_, s7.seq hpa, _, at_ofN (by omega) eq, _, k1', _, rfl, q, rfl, _, (c : Int), rfl, s7.seq hq, _, at_ofN rfl eV, _, k1', _, rfl, u1, rfl, _, k2', _, rfl, Xs.getD c 0, rfl, f.1, rfl, mulW (pow_le bX (by decide)) (pow_le c3 (by decide)), _, k1', _, rfl, u1, rfl, _, k2', _, rfl, f.2, rfl, ⟨by omega, logL (dl _ c2.1 d3) (by decide) (by decide)⟩, ?_⟩
                  rw [ef2, en]
                  refine ⟨mulW (pow_le b1 (by decide)) (pow_le (md1 _) (by decide)), ?_, _, rfl⟩
                  show _ = num M u.shift * L + (_ + Xs.getD c 0 * (f.1 * (M / f.2)))
                  rw [Int.add_assoc, Int.mul_assoc]
                · rintro σ H8 ⟨x10, rfl, rfl⟩
                  refine hN _ _ ⟨x10, ?_, rfl⟩
                  rw [le3, List.take_length]
                  rfl
              · rintro σ H8 ⟨x10', rfl, rfl⟩
                walk_at "rs"
                have fin : ∀ (x10 : Option V) (H8 : Hp) (Ys : List Int), Made H2 H8 D ms ((rowsAt L W ws Xss i m).set m Ys) → Ys = rowK L W ws Xs (i + 1) → ∃ x8 x9 y10 : Option V, ([some (.ref sa), some (.ref ua), some (.int L), some (.ref pa), some (.int W), some (.ref va), some (.int M), some (.ref D), some (.int (0 + (m : Int))), some (.int (zI L M Xs u)), x10, none] : L2.St) = [some (.ref sa), some (.ref ua), some (.int L), some (.ref pa), some (.int W), some (.ref va), some (.int M), some (.ref D), x8, x9, y10, none] ∧ Made H2 H8 D ms (rowsAt L W ws Xss i (m + 1)) := fun x10 H8 Ys h e => ⟨_, _, _, rfl, by rw [e, rowsAt_set eX] at h; exact h⟩
                have rn := rowK_next (L := L) (W := W) eu Xs
                rw [hM] at rn
                refine ite2 (fun zp => ?_) (fun zn => ?_)
                · have eg : giftI L M W Xs u = u.giv.map fun p => (p.1, gI W M (zI L M Xs u) p.2) := if_pos zp
                  rw [eg] at rn
                  refine ⟨_, rfl, va, _, 2, .ref ga, rfl, rfl, Same.seqT s7 g1, rfl, ga, rfl, ⟨ys, Same.seqT s7 g5⟩, for_tup (K := K) (a := ga) (xs := ys) (fun t σ H8 => ∃ x10 : Option V, σ = [some (.ref sa), some (.ref ua), some (.int L), some (.ref pa), some (.int W), some (.ref va), some (.int M), some (.ref D), some (.int (0 + (m : Int))), some (.int (zI L M Xs u)), x10, none] ∧ Made H2 H8 D ms ((rowsAt L W ws Xss i m).set m (((u.giv.take t).map fun p => (p.1, gI W M (zI L M Xs u) p.2)).foldl addG (rowK L W ws Xs i)))) ⟨_, rfl, ?_⟩ (fun t σ H8 _ ⟨_, _, m8⟩ => Same.seqT (Same.trans s2 m8.same) g5) ?_ ?_⟩
                  · rw [List.take_zero]
                    show Made H2 _ D ms ((rowsAt L W ws Xss i m).set m (rowK L W ws Xs i))
                    rw [set_self mX]
                    exact m7
                  · rintro t y σ H8 ht ⟨x10, rfl, m8⟩
                    obtain ⟨a1, u1, c, f, e1, e2, k1, k2⟩ := g6.get (n := t) (by have := (List.getElem?_eq_some_iff.mp ht).1; omega)
                    obtain rfl : y = .ref a1 := by rw [e1] at ht; exact (Option.some.inj ht).symm
                    obtain ⟨c1, c2, c3⟩ := b.giv _ (List.mem_of_getElem? e2)
                    obtain ⟨_, _, d3, _⟩ := fu.giv _ (List.mem_of_getElem? e2)
                    dsimp only at c1 c2 c3 d3
                    have s8 := Same.trans s2 m8.same
                    have k1' := Same.seqT s8 k1
                    have k2' := Same.seqT s8 k2
                    have lm : m < (rowsAt L W ws Xss i m).length := (List.getElem?_eq_some_iff.mp mX).1
                    obtain ⟨r', er', _, _, r8⟩ := m8.row m (.ref r) _ ev (List.getElem?_set_self lm)
                    cases er'
                    simp only [tAugS, rGetL]
                    walk_at "rs"
                    generalize hY : ((u.giv.take t).map fun p => (p.1, gI W M (zI L M Xs u) p.2)).foldl addG (rowK L W ws Xs i) = Ys at m8 r8
                    have ly : Ys.length = Xs.length := by rw [← hY, foldG_len, rowK_len]
                    have eY : (Ys.map V.int)[c]? = some (.int (Ys.getD c 0)) := by
                      rw [List.getElem?_map, List.getD_eq_getElem?_getD, List.getElem?_eq_getElem (by omega)]
                      rfl
                    have bz := zI_bound (M := M) (u := u) lL li.2.2 (fun p hp => (fu.terms.2 p hp).2.2.2.2) b.tl fu.sb
                    have W1 := uf.W1
                    have p0 : 0 < M * f.2 := Int.mul_pos M0 (by have := c2.1; omega)
                    have W0 := uf.W0
                    have pl : (M * f.2).natAbs < 2 ^ 800 := Nat.lt_of_le_of_lt (Nat.le_of_dvd (natAbs_pos W0) (Int.natAbs_dvd_natAbs.mpr d3)) W1
                    have fl : f.2.natAbs < 2 ^ 800 := Nat.lt_of_le_of_lt (Nat.le_of_dvd (natAbs_pos W0) (Int.natAbs_dvd_natAbs.mpr (Int.dvd_trans (Int.dvd_mul_left _ _) d3))) W1
                    have ef2 : W.fdiv (M * f.2) = W / (M * f.2) := Int.fdiv_eq_ediv_of_nonneg _ (by omega)
                    have wl : (W / (M * f.2)).natAbs < 2 ^ 800 := Nat.lt_of_le_of_lt (Int.natAbs_ediv_le_natAbs _ _) W1
                    have b1 : (zI L M Xs u * f.1).natAbs < 2 ^ (1501 + 100) := wide_lt bz c3
                    refine ⟨_, SqL.of m8.dl, _, at_ofN (by omega) ev, _, k1', _, rfl, r, rfl, _, c, rfl, SqL.of r8, _, eY, _, k1', _, rfl, u1, rfl, _, k2', _, rfl, f.1, rfl, mulW (pow_le bz (by decide)) (pow_le c3 (by decide)), _, k1', _, rfl, u1, rfl, _, k2', _, rfl, f.2, rfl, mulW (pow_le M1 (by decide)) (pow_le fl (by decide)), ⟨by omega, logL pl (by decide) (by decide)⟩, ?_⟩
                    rw [ef2]
                    refine ⟨mulW (pow_le b1 (by decide)) (pow_le wl (by decide)), _, rfl, r, rfl, _, (c : Int), rfl, r8, c, ixN_nat (by rw [List.length_map]; omega), ?_⟩
                    have e3 : ((u.giv.take (t + 1)).map fun p => (p.1, gI W M (zI L M Xs u) p.2)).foldl addG (rowK L W ws Xs i) = Ys.set c (Ys.getD c 0 + zI L M Xs u * f.1 * (W / (M * f.2))) := by
                      obtain ⟨hk, e⟩ := List.getElem?_eq_some_iff.mp e2
                      rw [← List.take_append_getElem hk, List.map_append, List.foldl_append, hY, e, Int.mul_assoc]
                      rfl
                    have m9 := m8.upd (j := m) ev (List.getElem?_set_self lm) (Ys.set c (Ys.getD c 0 + zI L M Xs u * f.1 * (W / (M * f.2))))
                    rw [List.set_set, List.map_set] at m9
                    rw [e3]
                    exact m9
                  · rintro σ H8 ⟨x10, rfl, m8⟩
                    rw [le6, List.take_length] at m8
                    exact fin x10 H8 _ m8 rn.symm
                · have eg : giftI L M W Xs u = [] := if_neg zn
                  rw [eg] at rn
                  obtain ⟨_, _, _, _, mm⟩ := fin x10' _ (rowK L W ws Xs i) (by rw [set_self mX]; exact m7) rn.symm
                  exact ⟨_, _, _, ⟨rfl, rfl, rfl⟩, mm⟩
            · rintro σ H7 ⟨x8, x9, x10, rfl, m7⟩
              refine ⟨_, _, _, _, _, rfl, ?_⟩
              have e : ((ps.length : Int)).toNat = Xss.length := by omega
              rw [e, rowsAt_n] at m7
              exact m7
          · rintro σ H4 ⟨x5, x6, x8, x9, x10, rfl, m4⟩
            refine hN _ _ ⟨x5, x6, x8, x9, x10, rfl, ?_⟩
            rw [lu] at m4
            simpa only [rowK_all] using m4
        · rintro σ H4 ⟨x5, x6, x8, x9, x10, rfl, m4⟩
          walk_at "rs"
          refine ⟨mulW (pow_le lL (by decide)) (pow_le uf.W1 (by decide)), by decide, fun p H5 s5 _ h5 => k _ _ (Same.trans s2 (Same.trans m4.same s5)) ⟨p, D, ms, rfl, .inl (.inl h5), SqL.of (s5 _ _ m4.dl), ?_⟩⟩
          exact parts_of m4.len fun j v Ys e1 e2 => by
            obtain ⟨r, k1, _, _, k4⟩ := m4.row j v Ys e1 e2
            exact ⟨r, k1, s5 _ _ k4⟩
end
end LK

set_option Elab.async false
set_option linter.all false
set_option maxRecDepth 100000
namespace LK
open PySem PySem.Spec PyProof.Rows L2
local macro_rules | `(tactic| walk_at "rs") => `(tactic| simp only [cxK, cxNK, tCallZ, tAsg, tOp, rI0, rS0, rB0, rI, rU, tUn, rEq, rNe, rIxL, rIxT, rIxS, rSetL, rSlLU, rSlS, rSlU, rCatL, rCatU, rRepL, rIn, tVar, tC, gName, gSub, tIfS, tTest, tB, tAnd, tOr, tNot, tNotV, tAndV, tOrV, tIf, tCall, tCons, tNil, tCB, tDrop, tRet, tRetN, tNext, tLstU, tTupU, tM0, tM1, tPar, tPar3, tAug, ipI, tBM, tBM0, rAppend, rPop, tBreak, tCont, tChain, tSl, tPart, tNoPart, L2.start, List.map, List.length_cons, List.length_nil, List.replicate, List.cons_append, List.nil_append, List.append_nil, List.getElem?_cons_zero, List.getElem?_cons_succ, List.set_cons_zero, List.set_cons_succ, Option.some.injEq, V.int.injEq, V.ref.injEq, V.str.injEq, V.bl.injEq, exists_eq_left', exists_eq_left, exists_and_left, decide_eq_true_eq, List.cons.injEq, and_true, true_and, scal, Bool.not_eq_true', decide_eq_false_iff_not, Nat.zero_add, Nat.reduceAdd, Nat.reduceSub, reduceCtorEq, false_and, exists_false, false_or, or_false, CPow, CPowW, CMul, CDiv, Int.reduceToNat, ↓reduceIte, wipe, sw, List.nil_append, List.singleton_append])
local macro_rules | `(tactic| walk_at "st") => `(tactic| (refine seq_op fun N hN => ?_; walk_at "rs"))
local macro_rules | `(tactic| walk_at "sd") => `(tactic| first | assumption | decide | omega)
local macro_rules | `(tactic| walk_at "rd") => `(tactic| repeat (first
  | refine ⟨_, SqL.of (by assumption), ?_⟩ | refine ⟨_, SqL.of upd_same, ?_⟩ | refine ⟨_, .inl (SqL.of (by assumption)), ?_⟩ | refine ⟨_, (by assumption : _ = some (HO.lst _)), ?_⟩ | refine ⟨_, upd_same, ?_⟩
  | refine ⟨_, rfl, ?_⟩ | refine And.intro (by walk_at "sd") ?_))

theorem Ens.kp {K : PySem.W.Frag} {N : Nat} {H H' : Hp} {b c : Addr} (B : Bag N H b c) (k : Kp b H H') : ∀ {xs : List V} {es : List (Nat × Fr)}, Ens K H xs es → Ens K H' xs es
  | _, _, .nil => .nil
  | _, _, .cons h h2 q => .cons (seqT_kp B k h) (seqT_kp B k h2) (q.kp B k)
theorem Frs.kp {K : PySem.W.Frag} {N : Nat} {H H' : Hp} {b c : Addr} (B : Bag N H b c) (k : Kp b H H') : ∀ {xs : List V} {fs : List Fr}, Frs K H xs fs → Frs K H' xs fs
  | _, _, .nil => .nil
  | _, _, .cons h q => .cons (seqT_kp B k h) (q.kp B k)
theorem Kp.upd2 {b p : Addr} {H H' : Hp} {o : HO} (k : Kp b H H') (h : H p = none) : Kp b H (L2.upd H' p o) := fun a u e => by
  obtain ⟨n1, e1⟩ := hb_some e
  have n : a ≠ p := fun z => by rw [z, h] at e1; cases e1
  rw [hb_ne n1, upd_ne n]
  have := k a u e
  rw [hb_ne n1] at this
  exact this
theorem Kp.get {b p : Addr} {H H' : Hp} {o : HO} (k : Kp b H H') (n : p ≠ b) (h : H p = some o) : H' p = some o := k.hd h n
section
variable {P : Program} {w : World} {K : PySem.W.Frag} {mg : Str → Option Value} {base : Heap}
def sp_lights (K : PySem.W.Frag) : Sp := fun vs H Q _ => ∃ (b c : Addr) (N : Nat) (n : Int), vs = [.ref b, .int 1, .int n, .int 3] ∧ Bag (N + 16) H b c ∧ 0 < n ∧ n < 1000 ∧
  ∀ (p : Addr) (xs : List V) (es : List (Nat × Fr)) H', Bag N H' b c → Kp b H H' → H p = none → H' p = some (.lst xs) → Ens K H' xs es → es.length ≤ 3 → (∀ q ∈ es, (q.1 : Int) < n ∧ okB 2000 97 q.2) → Q (.ref p) H'
theorem ok__law_lights (T : Txt w K mg) : FnOk P w K mg base CX0 4 T.a__law_lights T.d__law_lights ["bag", "many", "width", "most"] (sp_lights K) := by
  refine T.F__law_lights.ok sc__law_lights (fun vs H Q E h => ?_) (fun cdv A outer s H vs Q E hr h => ?_)
  · obtain ⟨b, c, N, n, rfl, _⟩ := h
    rfl
  · obtain ⟨b, c, N0, n, rfl, B, n0, n1, k⟩ := h
    have hr__law_draw : Room 1 _ := hr.mono (by decide)
    have G__law_draw := ok__law_draw (P := P) (base := base) T
    have hr__law_light : Room 3 _ := hr
    have G__law_light := ok__law_light (P := P) (base := base) T
    refine ⟨_, (pss_cons (ps_set (i := 4) sc__law_lights.nd rfl (Or.inl rfl) (pe_lstU pa_nil))
      (pss_cons (ps_for PassesOwn.never rfl (pi_range1 (by rfl) T.n_range (pa_cons (pe_call G__law_draw hr__law_draw (by rfl) T.m__law_draw T.F__law_draw.kp T.B__law_draw .nil pass0 (pa_cons (pv 0) (pa_cons (pe_op op_add (pv 3) pe_int) pa_nil))) pa_nil)) (pg_name (i := 5) sc__law_lights.nd rfl (Or.inl rfl)) (pss_one (ps_expr (pe_bm PySem.F.plainAttrs_list PySem.F.slot_list_append PySem.F.type_list_append mt_append (pv 4) (pa_cons (pe_op op_catU (pe_callTy call_tupleN (by rfl) T.n_tuple (by decide +kernel) (pa_cons (pe_lc (own := [("j", 6)]) (g := gName 6) (tt := tYes) rfl sc__law_lights.nd (pi_range1 (by rfl) T.n_range (pa_cons (pv 1) pa_nil)) (blkOk_by (own := [("j", 6)]) (N := N__law_lights) (sc := defScope s__law_lights) (by decide +kernel)) (fun _ _ _ _ _ => pg_name (i := 6) sc__law_lights.nd rfl (Or.inl rfl)) (fun _ _ _ _ _ => pts_nil) (fun _ _ _ _ _ => (pe_call G__law_draw hr__law_draw (by rfl) T.m__law_draw T.F__law_draw.kp T.B__law_draw .nil pass0 (pa_cons (pv 0) (pa_cons (pv 2) pa_nil))))) pa_nil)) (pe_tupU (pa_cons (pe_call G__law_light hr__law_light (by rfl) T.m__law_light T.F__law_light.kp T.B__law_light .nil pass0 (pa_cons (pv 0) pa_nil)) pa_nil))) pa_nil)))))
      (pss_one (ps_ret (pv 4))))), ?_⟩
    refine seq_op fun N hN => ?_
    walk_at "rs"
    refine ⟨by decide, fun p H1 s1 p0 p1 => hN _ _ ?_⟩
    clear hN N
    have B1 := B.same s1
    have pb := new_ne B p0
    refine cut_seq (fun σ H2 => ∃ (x5 x6 : Option V) (xs : List V) (es : List (Nat × Fr)), σ = [some (.ref b), some (.int 1), some (.int n), some (.int 3), some (.ref p), x5, x6] ∧ Bag N0 H2 b c ∧ Kp b H H2 ∧ H2 p = some (.lst xs) ∧ Ens K H2 xs es ∧ es.length ≤ 3 ∧ ∀ q ∈ es, (q.1 : Int) < n ∧ okB 2000 97 q.2) (fun N hN => ?_) ?_
    · walk_at "rs"
      refine ⟨_, rfl, _, rfl, 3, 1, rfl, rfl, b, c, 3 + 1, N0 + 15, rfl, B1, by decide, by decide, fun r H2 r0 r1 B2 K2 => ⟨r, rfl, by omega, by omega, for_range (lo := 0) (n := r.toNat) (fun i σ H3 => ∃ (x5 x6 : Option V) (xs : List V) (es : List (Nat × Fr)), σ = [some (.ref b), some (.int 1), some (.int n), some (.int 3), some (.ref p), x5, x6] ∧ Bag (N0 + (15 - 5 * i)) H3 b c ∧ Kp b H H3 ∧ H3 p = some (.lst xs) ∧ Ens K H3 xs es ∧ es.length = i ∧ ∀ q ∈ es, (q.1 : Int) < n ∧ okB 2000 97 q.2) ⟨_, _, [], [], rfl, B2, Same.trans (Kp.of s1) K2, K2.get pb p1, .nil, rfl, fun q hq => absurd hq (by simp)⟩ ?_ ?_⟩⟩
      · rintro i σ H3 hi ⟨x5, x6, xs, es, rfl, B3, K3, h3, he, hl, hw⟩
        have hi3 : i < 3 := by omega
        walk_at "rs"
        have B3' : Bag ((N0 + (15 - 5 * (i + 1)) + 4) + (1 : Int).toNat * 1) H3 b c := B3.le (show _ + 1 ≤ _ by omega)
        refine ⟨.inl ⟨rfl, _, SqL.of h3⟩, ⟨_, rfl, 1, rfl, by decide, by decide, fun D hD => lc_draw (n := (1 : Int).toNat) walk_range (fun _ v => ∃ j : Nat, v = V.int (j : Int) ∧ (j : Int) < n) (fun _ _ _ _ h => h) hD B3' (by decide) (fun _ _ _ _ y => y.1) (fun _ _ => trivial) (fun x H4 M K4 B4 Q2 hq => ?_) fun H4 ys B4 K4 hD4 hl4 hy4 => ?_⟩⟩
        · exact ⟨_, rfl, _, rfl, b, c, n, M, rfl, B4, n0, by omega, fun r1 H5 r10 r11 B5 K5 => hq _ _ B5 K5 ⟨r1.toNat, by rw [Int.toNat_of_nonneg r10], by rw [Int.toNat_of_nonneg r10]; exact r11⟩⟩
        · obtain ⟨v, rfl⟩ : ∃ v, ys = [v] := List.length_eq_one_iff.mp hl4
          obtain ⟨j, rfl, jn⟩ := hy4 v List.mem_cons_self
          refine ⟨D, rfl, _, SqL.of hD4, fun q5 H5 s5 q50 q51 => ⟨b, c, N0 + (15 - 5 * (i + 1)), rfl, B4.same s5, fun t f H6 okf t0 t1 B6 K6 => ⟨by decide, fun p7 H7 s7 _ h7 => ?_⟩⟩⟩
          have B5 := B4.same s5
          have q5b := new_ne B4 q50
          have h36 := K6.get (new_ne B4 q50) q51
          refine ⟨_, .inl (.inl (s7 _ _ h36)), _, .inl (.inl h7), (show 1 + 1 ≤ sizeLine by decide), fun q8 H8 s8 h8 => ?_⟩
          have K38 : Kp b H3 H8 := Same.trans K4 (Same.trans (Kp.of s5) (Same.trans K6 (Same.trans (Kp.of s7) (Kp.of s8))))
          have h38 := K38.get pb h3
          have pc : c ≠ p := fun e => by
            obtain ⟨xc, ec⟩ := B.at2
            rw [← e, ec] at p0; cases p0
          have B8 := ((B6.same s7).same s8).upd (o := .lst (xs ++ [.ref q8])) (Ne.symm pb) pc
          have he8 := he.kp B3 K38
          have tb8 : Pr K H8 t f.1 f.2 := .inl (.inl (s8 _ _ (s7 _ _ t1)))
          refine ⟨xs, h38, ?_, _, _, ⟨rfl, rfl⟩, B8, Kp.upd2 (Same.trans K3 K38) p0, _, upd_same, es ++ [(j, f)], (he8.upd h38).app (.cons (seqT_upd h38 h8) (seqT_upd h38 tb8) .nil), by rw [List.length_append, hl]; rfl, fun q hq => ?_⟩
          · have := he.len
            exact Nat.lt_of_le_of_lt (show _ ≤ 1000000 by omega) (by decide)
          · rcases List.mem_append.mp hq with hq | hq
            · exact hw q hq
            · obtain rfl := List.mem_singleton.mp hq
              exact ⟨jn, okf⟩
      · rintro σ H3 ⟨x5, x6, xs, es, rfl, B3, K3, h3, he, hl, hw⟩
        exact hN _ _ ⟨_, _, xs, es, rfl, B3.le (by omega), K3, h3, he, by omega, hw⟩
    · rintro σ H2 ⟨x5, x6, xs, es, rfl, B2, K2, h2, h3, h4, h5⟩
      walk_at "rs"
      exact k p xs es H2 B2 K2 p0 h2 h3 h4 h5
end
end LK

set_option Elab.async false
set_option linter.all false
set_option maxRecDepth 100000
namespace LK
open PySem PySem.Spec PyProof.Rows L2
local macro_rules | `(tactic| walk_at "rs") => `(tactic| simp only [cxK, cxNK, tCallZ, tAsg, tOp, rI0, rS0, rB0, rI, rU, tUn, rEq, rNe, rIxL, rIxT, rIxS, rSetL, rSlLU, rSlS, rSlU, rCatL, rCatU, rRepL, rIn, tVar, tC, gName, gSub, tIfS, tTest, tB, tAnd, tOr, tNot, tNotV, tAndV, tOrV, tIf, tCall, tCons, tNil, tCB, tDrop, tRet, tRetN, tNext, tLstU, tTupU, tM0, tM1, tPar, tPar3, tAug, ipI, tBM, tBM0, rAppend, rPop, tBreak, tCont, tChain, tSl, tPart, tNoPart, L2.start, List.map, List.length_cons, List.length_nil, List.replicate, List.cons_append, List.nil_append, List.append_nil, List.getElem?_cons_zero, List.getElem?_cons_succ, List.set_cons_zero, List.set_cons_succ, Option.some.injEq, V.int.injEq, V.ref.injEq, V.str.injEq, V.bl.injEq, exists_eq_left', exists_eq_left, exists_and_left, decide_eq_true_eq, List.cons.injEq, and_true, true_and, scal, Bool.not_eq_true', decide_eq_false_iff_not, Nat.zero_add, Nat.reduceAdd, Nat.reduceSub, reduceCtorEq, false_and, exists_false, false_or, or_false, CPow, CPowW, CMul, CDiv, Int.reduceToNat, ↓reduceIte, wipe, sw, List.nil_append, List.singleton_append])
local macro_rules | `(tactic| walk_at "st") => `(tactic| (refine seq_op fun N hN => ?_; walk_at "rs"))
local macro_rules | `(tactic| walk_at "sd") => `(tactic| first | assumption | decide | omega)
local macro_rules | `(tactic| walk_at "rd") => `(tactic| repeat (first
  | refine ⟨_, SqL.of (by assumption), ?_⟩ | refine ⟨_, SqL.of upd_same, ?_⟩ | refine ⟨_, .inl (SqL.of (by assumption)), ?_⟩ | refine ⟨_, (by assumption : _ = some (HO.lst _)), ?_⟩ | refine ⟨_, upd_same, ?_⟩
  | refine ⟨_, rfl, ?_⟩ | refine And.intro (by walk_at "sd") ?_))

theorem okB_b {M L : Nat} {f : Fr} {m l : Nat} (h : okB M L f) (hM : M < 2 ^ m) (hL : L < 2 ^ l) : f.1.natAbs < 2 ^ m ∧ f.2.natAbs < 2 ^ l := ⟨Nat.lt_of_le_of_lt h.2.2.1 hM, Nat.lt_of_le_of_lt h.2.2.2 hL⟩
section
variable {P : Program} {w : World} {K : PySem.W.Frag} {mg : Str → Option Value} {base : Heap}
def sp_value (K : PySem.W.Frag) : Sp := fun vs H Q _ => ∃ (u ta z : Addr) (gv : V) (r : Addr) (xs rs : List V) (es : List (Nat × Fr)) (fs : List Fr), vs = [.ref u, .ref r] ∧ SqT K H u [.ref ta, .ref z, gv] ∧ SqL K H ta xs ∧ Ens K H xs es ∧ Pr K H z 0 1 ∧ es.length ≤ 3 ∧ (∀ q ∈ es, q.1 < fs.length ∧ okB 2000 97 q.2) ∧ SqT K H r rs ∧ Frs K H rs fs ∧ (∀ f ∈ fs, okB 1000000000000000000 1000000000000000000 f) ∧
  ∀ (t : Addr) (f : Fr) H', Same H H' → Pr K H' t f.1 f.2 → 1 ≤ f.2 → f.1.natAbs < 2 ^ 301 → f.2.natAbs < 2 ^ 301 → Q (.ref t) H'
theorem ok__law_value (T : Txt w K mg) : FnOk P w K mg base CX0 4 T.a__law_value T.d__law_value ["unit", "row"] (sp_value K) := by
  refine T.F__law_value.ok sc__law_value (fun vs H Q E h => ?_) (fun cdv A outer s H vs Q E hr h => ?_)
  · obtain ⟨u, ta, z, gv, r, xs, rs, es, fs, rfl, _⟩ := h
    rfl
  · obtain ⟨u, ta, z, gv, r, xs, rs, es, fs, rfl, hu, ht, he, hz, l3, hw, hrr, hf, bf, k⟩ := h
    have hr__law_plus : Room 3 _ := hr
    have G__law_plus := ok__law_plus (P := P) (base := base) T
    have hr__law_low : Room 2 _ := hr.mono (by decide)
    have G__law_low := ok__law_low (P := P) (base := base) T
    have le := he.len
    have lf := hf.len
    refine ⟨_, (pss_cons (ps_set (i := 2) sc__law_value.nd rfl (Or.inl rfl) (pe_ix ix_tup (pv 0) pe_int (fun _ _ => rfl)))
      (pss_cons (ps_for PassesOwn.never rfl (pi_list (pe_ix ix_tup (pv 0) pe_int (fun _ _ => rfl))) (pg_name (i := 3) sc__law_value.nd rfl (Or.inl rfl)) (pss_cons (ps_set (i := 4) sc__law_value.nd rfl (Or.inl rfl) (pe_ix ix_tup (pv 1) (pe_ix ix_tup (pv 3) pe_int (fun _ _ => rfl)) (fun _ _ => rfl)))
      (pss_one (ps_set (i := 2) sc__law_value.nd rfl (Or.inl rfl) (pe_call G__law_plus hr__law_plus (by rfl) T.m__law_plus T.F__law_plus.kp T.B__law_plus .nil pass0 (pa_cons (pv 2) (pa_cons (pe_call G__law_low hr__law_low (by rfl) T.m__law_low T.F__law_low.kp T.B__law_low .nil pass0 (pa_cons (pe_op op_mulW (pe_ix ix_tup (pv 4) pe_int (fun _ _ => rfl)) (pe_ix ix_tup (pe_ix ix_tup (pv 3) pe_int (fun _ _ => rfl)) pe_int (fun _ _ => rfl))) (pa_cons (pe_op op_mulW (pe_ix ix_tup (pv 4) pe_int (fun _ _ => rfl)) (pe_ix ix_tup (pe_ix ix_tup (pv 3) pe_int (fun _ _ => rfl)) pe_int (fun _ _ => rfl))) pa_nil))) pa_nil)))))))
      (pss_one (ps_ret (pv 2))))), ?_⟩
    refine seq_op fun N hN => ?_
    walk_at "rs"
    refine ⟨_, hu, _, rfl, hN _ _ ?_⟩
    clear hN N
    refine cut_seq (fun σ H2 => ∃ (t : Addr) (f : Fr) (x3 x4 : Option V), σ = [some (.ref u), some (.ref r), some (.ref t), x3, x4] ∧ Same H H2 ∧ Pr K H2 t f.1 f.2 ∧ 1 ≤ f.2 ∧ f.1.natAbs < 2 ^ 301 ∧ f.2.natAbs < 2 ^ 301) (fun N hN => ?_) ?_
    · walk_at "rs"
      refine ⟨_, rfl, u, _, 0, .ref ta, rfl, rfl, hu, rfl, ta, rfl, ⟨xs, ht⟩, for_list (K := K) (a := ta) (xs := xs) (fun i σ H2 => ∃ (t : Addr) (f : Fr) (x3 x4 : Option V), σ = [some (.ref u), some (.ref r), some (.ref t), x3, x4] ∧ Same H H2 ∧ Pr K H2 t f.1 f.2 ∧ 1 ≤ f.2 ∧ f.1.natAbs < 2 ^ (100 * i + 1) ∧ f.2.natAbs < 2 ^ (100 * i + 1)) ⟨z, (0, 1), _, _, rfl, Same.refl _, hz, by decide, by decide, by decide⟩ (fun i σ H2 _ ⟨_, _, _, _, _, s2, _⟩ => s2.seq ht) ?_ ?_⟩
      · rintro i y σ H2 hi ⟨t, f, x3, x4, rfl, s2, h2, f2, b1, b2⟩
        obtain ⟨a1, u1, c, g, e1, e2, k1, k2⟩ := he.get (n := i) (by have := (List.getElem?_eq_some_iff.mp hi).1; omega)
        have i3 : i < 3 := by have := (List.getElem?_eq_some_iff.mp hi).1; omega
        obtain rfl : y = .ref a1 := by rw [e1] at hi; exact (Option.some.inj hi).symm
        obtain ⟨cf, og⟩ := hw _ (List.mem_of_getElem? e2)
        dsimp only at cf og
        obtain ⟨xa, x, ex, ex2, kx⟩ := hf.get (n := c) cf
        have ox := bf x (List.mem_of_getElem? ex2)
        refine seq_op fun N hN => ?_
        walk_at "rs"
        refine ⟨_, Same.seqT s2 k1, _, rfl, _, (c : Int), rfl, Same.seqT s2 hrr, _, at_ofN rfl ex, hN _ _ ?_⟩
        clear hN N
        have k1' := Same.seqT s2 k1
        have k2' := Same.seqT s2 k2
        have kx' := Same.seqT s2 kx
        obtain ⟨x1, x2⟩ := okB_b (m := 60) (l := 60) ox (by decide) (by decide)
        obtain ⟨g1, g2⟩ := okB_b (m := 11) (l := 7) og (by decide) (by decide)
        walk_at "rs"
        refine ⟨_, kx', _, rfl, _, k1', _, rfl, u1, rfl, _, k2', _, rfl, x.1, rfl, g.1, rfl, mulW (pow_le x1 (by decide)) (pow_le g1 (by decide)), _, kx', _, rfl, _, k1', _, rfl, u1, rfl, _, k2', _, rfl, x.2, rfl, g.2, rfl, mulW (pow_le x2 (by decide)) (pow_le g2 (by decide)), ?_⟩
        have n1 : (x.1 * g.1).natAbs < 2 ^ (60 + 11) := wide_lt x1 g1
        have n2 : (x.2 * g.2).natAbs < 2 ^ (60 + 7) := wide_lt x2 g2
        have q0 : x.2 * g.2 ≠ 0 := Int.mul_ne_zero (by have := ox.1; omega) (by have := og.1; omega)
        obtain ⟨_, _, w1, _, w3, w4, _⟩ := fr_spec (x.1 * g.1) q0
        refine low_at (M := 1) (L := 1) q0 (pow_le n1 (by decide)) (pow_le n2 (by decide)) fun t5 H5 s5 _ h5 => ?_
        generalize frP (x.1 * g.1) (x.2 * g.2) = gp at h5 w3
        generalize frQ (x.1 * g.1) (x.2 * g.2) = gq at h5 w1 w4
        have p1 : gp.natAbs < 2 ^ 71 := Nat.lt_of_le_of_lt w3 n1
        have p2 : gq.natAbs < 2 ^ 67 := Nat.lt_of_le_of_lt w4 n2
        have q1 : f.2 * gq ≠ 0 := Int.mul_ne_zero (by omega) (by omega)
        obtain ⟨_, _, v1, _, v3, v4, _⟩ := fr_spec (f.1 * gq + gp * f.2) q1
        have m1 : (f.1 * gq).natAbs < 2 ^ (100 * i + 1 + 67) := wide_lt b1 p2
        have m2 : (gp * f.2).natAbs < 2 ^ (71 + (100 * i + 1)) := wide_lt p1 b2
        have m3 : (f.1 * gq + gp * f.2).natAbs < 2 ^ (100 * (i + 1)) := pow_le (two_add (pow_le (b := 100 * i + 72) m1 (by omega)) (pow_le m2 (by omega))) (by omega)
        have m4 : (f.2 * gq).natAbs < 2 ^ (100 * i + 1 + 67) := wide_lt b2 p2
        refine ⟨t, t5, f.1, f.2, gp, gq, rfl, Same.seqT s5 h2, .inl (.inl h5), pow_le b1 (by omega), pow_le b2 (by omega), pow_le p1 (by decide), pow_le p2 (by decide), q1, fun t6 H6 s6 _ h6 => ⟨t6, (frP (f.1 * gq + gp * f.2) (f.2 * gq), frQ (f.1 * gq + gp * f.2) (f.2 * gq)), _, _, ⟨rfl, rfl, rfl⟩, Same.trans s2 (Same.trans s5 s6), .inl (.inl h6), v1, pow_le (Nat.lt_of_le_of_lt v3 m3) (by omega), pow_le (Nat.lt_of_le_of_lt v4 m4) (by omega)⟩⟩
      · rintro σ H2 ⟨t, f, x3, x4, rfl, s2, h2, f2, b1, b2⟩
        exact hN _ _ ⟨t, f, _, _, rfl, s2, h2, f2, pow_le b1 (by omega), pow_le b2 (by omega)⟩
    · rintro σ H2 ⟨t, f, x3, x4, rfl, s2, h2, f2, b1, b2⟩
      walk_at "rs"
      exact k t f H2 s2 h2 f2 b1 b2
end
end LK

set_option Elab.async false
set_option linter.all false
set_option maxRecDepth 100000
namespace LK
open PySem PySem.Spec PyProof.Rows L2
local macro_rules | `(tactic| walk_at "rs") => `(tactic| simp only [cxK, cxNK, tCallZ, tAsg, tOp, rI0, rS0, rB0, rI, rU, tUn, rEq, rNe, rIxL, rIxT, rIxS, rSetL, rSlLU, rSlS, rSlU, rCatL, rCatU, rRepL, rIn, tVar, tC, gName, gSub, tIfS, tTest, tB, tAnd, tOr, tNot, tNotV, tAndV, tOrV, tIf, tCall, tCons, tNil, tCB, tDrop, tRet, tRetN, tNext, tLstU, tTupU, tM0, tM1, tPar, tPar3, tAug, ipI, tBM, tBM0, rAppend, rPop, tBreak, tCont, tChain, tSl, tPart, tNoPart, L2.start, List.map, List.length_cons, List.length_nil, List.replicate, List.cons_append, List.nil_append, List.append_nil, List.getElem?_cons_zero, List.getElem?_cons_succ, List.set_cons_zero, List.set_cons_succ, Option.some.injEq, V.int.injEq, V.ref.injEq, V.str.injEq, V.bl.injEq, exists_eq_left', exists_eq_left, exists_and_left, decide_eq_true_eq, List.cons.injEq, and_true, true_and, scal, Bool.not_eq_true', decide_eq_false_iff_not, Nat.zero_add, Nat.reduceAdd, Nat.reduceSub, reduceCtorEq, false_and, exists_false, false_or, or_false, CPow, CPowW, CMul, CDiv, Int.reduceToNat, ↓reduceIte, wipe, sw, List.nil_append, List.singleton_append])
local macro_rules | `(tactic| walk_at "st") => `(tactic| (refine seq_op fun N hN => ?_; walk_at "rs"))
local macro_rules | `(tactic| walk_at "sd") => `(tactic| first | assumption | decide | omega)
local macro_rules | `(tactic| walk_at "rd") => `(tactic| repeat (first
  | refine ⟨_, SqL.of (by assumption), ?_⟩ | refine ⟨_, SqL.of upd_same, ?_⟩ | refine ⟨_, .inl (SqL.of (by assumption)), ?_⟩ | refine ⟨_, (by assumption : _ = some (HO.lst _)), ?_⟩ | refine ⟨_, upd_same, ?_⟩
  | refine ⟨_, rfl, ?_⟩ | refine And.intro (by walk_at "sd") ?_))

theorem FRows.kp {K : PySem.W.Frag} {N : Nat} {H H' : Hp} {b c : Addr} (B : Bag N H b c) (k : Kp b H H') : ∀ {xs : List V} {fss : List (List Fr)}, FRows K H xs fss → FRows K H' xs fss
  | _, _, .nil => .nil
  | _, _, .cons h h2 q => .cons (seqT_kp B k h) (h2.kp B k) (q.kp B k)
theorem FRows.mem {K : PySem.W.Frag} {H : Hp} {xs : List V} {fss : List (List Fr)} (f : FRows K H xs fss) {y : V} (h : y ∈ xs) : ∃ a ys fs, y = .ref a ∧ fs ∈ fss ∧ SqT K H a ys ∧ Frs K H ys fs := by
  obtain ⟨n, hn⟩ := List.getElem?_of_mem h
  have l := (List.getElem?_eq_some_iff.mp hn).1
  obtain ⟨a, ys, fs, e1, e2, e3, e4⟩ := f.get (n := n) (by rw [← f.len]; exact l)
  rw [hn] at e1
  exact ⟨a, ys, fs, Option.some.inj e1, List.mem_of_getElem? e2, e3, e4⟩
theorem near_num {v w m n : Int} (h1 : v.natAbs < 100000000) (h2 : 1 ≤ w) (h3 : w < 100000000) (h4 : m.natAbs ≤ 1) (h5 : 1 ≤ n) (h6 : n ≤ 1000000000) : (-v * n + m * w).natAbs ≤ 1000000000000000000 ∧ (w * n).natAbs ≤ 100000000000000000 := by
  have a : (v * n).natAbs ≤ 100000000 * 1000000000 := by
    rw [Int.natAbs_mul]
    exact Nat.mul_le_mul (by omega) (by omega)
  have b : (m * w).natAbs ≤ 1 * 100000000 := by
    rw [Int.natAbs_mul]
    exact Nat.mul_le_mul h4 (by omega)
  have c : (w * n).natAbs ≤ 100000000 * 1000000000 := by
    rw [Int.natAbs_mul]
    exact Nat.mul_le_mul (by omega) (by omega)
  rw [Int.neg_mul]
  constructor
  · generalize v * n = x at a
    generalize m * w = y at b
    omega
  · generalize w * n = x at c
    omega
/-- what a drawn unit keeps -/
structure UG (n : Nat) (u : Un) : Prop where
  ub : UB n u
  pu : prodU u < 2 ^ 100
  gl : u.giv.length ≤ 3
  tl : u.terms.length ≤ 3
  tf : ∀ p ∈ u.terms, p.2.1.natAbs ≤ 2000
  gf : ∀ p ∈ u.giv, p.2.1.natAbs ≤ 2000
  sf : u.shift.1.natAbs ≤ 1000000000000000000
theorem prodD_le {B : Nat} : ∀ {fs : List Fr}, (∀ f ∈ fs, f.2.natAbs ≤ B) → prodD fs ≤ B ^ fs.length
  | [], _ => Nat.le_refl _
  | f :: fs, h => by
    rw [List.length_cons, Nat.pow_succ', ]
    exact Nat.mul_le_mul (h f List.mem_cons_self) (prodD_le fun g hg => h g (List.mem_cons_of_mem _ hg))
theorem prodD_3 {es : List (Nat × Fr)} {n : Int} (l : es.length ≤ 3) (h : ∀ q ∈ es, (q.1 : Int) < n ∧ okB 2000 97 q.2) : prodD (es.map (·.2)) ≤ 97 ^ 3 := by
  refine Nat.le_trans (prodD_le (B := 97) fun f hf => ?_) (Nat.pow_le_pow_right (by decide) (by rw [List.length_map]; exact l))
  obtain ⟨q, hq, rfl⟩ := List.mem_map.mp hf
  exact (h q hq).2.2.2.2
theorem ug_of {n : Nat} {ts gs : List (Nat × Fr)} {sh : Fr} (t3 : ts.length ≤ 3) (g3 : gs.length ≤ 3) (ht : ∀ q ∈ ts, (q.1 : Int) < (n : Int) ∧ okB 2000 97 q.2) (hg : ∀ q ∈ gs, (q.1 : Int) < (n : Int) ∧ okB 2000 97 q.2) (hs : okB 1000000000000000000 100000000000000000 sh) : UG n ⟨ts, sh, gs⟩ := by
  have pt := prodD_3 t3 ht
  have pg := prodD_3 g3 hg
  have e1 : prodD (den1 ⟨ts, sh, gs⟩) ≤ 97 ^ 3 * 100000000000000000 := by
    unfold den1
    rw [prodD_app]
    refine Nat.mul_le_mul pt ?_
    show sh.2.natAbs * 1 ≤ _
    rw [Nat.mul_one]
    exact hs.2.2.2
  have e2 : prodD (den2 ⟨ts, sh, gs⟩) ≤ 97 ^ 3 := pg
  refine ⟨⟨Nat.le_trans t3 (by decide), fun p hp => ?_, ⟨hs.1, hs.2.1⟩, Nat.lt_of_le_of_lt hs.2.2.1 (by decide), Nat.le_trans g3 (by decide), fun p hp => ?_, Nat.lt_of_le_of_lt e1 (by decide), Nat.lt_of_le_of_lt e2 (by decide)⟩, Nat.lt_of_le_of_lt (Nat.mul_le_mul e1 e2) (by decide), g3, t3, fun p hp => (ht p hp).2.2.2.1, fun p hp => (hg p hp).2.2.2.1, hs.2.2.1⟩
  · obtain ⟨a, o1, o2, o3, _⟩ := ht p hp
    exact ⟨by omega, ⟨o1, o2⟩, Nat.lt_of_le_of_lt o3 (by decide)⟩
  · obtain ⟨a, o1, o2, o3, _⟩ := hg p hp
    exact ⟨by omega, ⟨o1, o2⟩, Nat.lt_of_le_of_lt o3 (by decide)⟩
section
variable {P : Program} {w : World} {K : PySem.W.Frag} {mg : Str → Option Value} {base : Heap}
def RowsG (n : Nat) (fss : List (List Fr)) : Prop := ∀ fs ∈ fss, fs.length = n ∧ ∀ f ∈ fs, okB 1000000000000000000 1000000000000000000 f
def sp_unit (K : PySem.W.Frag) : Sp := fun vs H Q _ => ∃ (b c ra : Addr) (N n : Nat) (rs : List V) (fss : List (List Fr)), vs = [.ref b, .ref ra, .int (n : Int)] ∧ Bag (N + 39) H b c ∧ 0 < n ∧ n < 1000 ∧ ra ≠ b ∧ H ra = some (.lst rs) ∧ FRows K H rs fss ∧ RowsG n fss ∧ fss ≠ [] ∧ fss.length ≤ 1000 ∧
  ∀ (v : V) (u : Un) H', Bag N H' b c → Kp b H H' → UnitAt K H' v u → UG n u → Q v H'
theorem ok__law_unit (T : Txt w K mg) : FnOk P w K mg base CX0 5 T.a__law_unit T.d__law_unit ["bag", "rows_y", "width"] (sp_unit K) := by
  refine T.F__law_unit.ok sc__law_unit (fun vs H Q E h => ?_) (fun cdv A outer s H vs Q E hr h => ?_)
  · obtain ⟨b, c, ra, N, n, rs, fss, rfl, _⟩ := h
    rfl
  · obtain ⟨b, c, ra, N0, n, rs, fss, rfl, B, n0, n1, rb, hra, hrs, rg, ne, lfs, k⟩ := h
    have hr__law_draw : Room 1 _ := hr.mono (by decide)
    have G__law_draw := ok__law_draw (P := P) (base := base) T
    have hr__law_of : Room 2 _ := hr.mono (by decide)
    have G__law_of := ok__law_of (P := P) (base := base) T
    have hr__law_light : Room 3 _ := hr.mono (by decide)
    have G__law_light := ok__law_light (P := P) (base := base) T
    have hr__law_plus : Room 3 _ := hr.mono (by decide)
    have G__law_plus := ok__law_plus (P := P) (base := base) T
    have hr__law_lights : Room 4 _ := hr
    have G__law_lights := ok__law_lights (P := P) (base := base) T
    have hr__law_value : Room 4 _ := hr
    have G__law_value := ok__law_value (P := P) (base := base) T
    refine ⟨_, (pss_cons (ps_set (i := 3) sc__law_unit.nd rfl (Or.inl rfl) (pe_call G__law_lights hr__law_lights (by rfl) T.m__law_lights T.F__law_lights.kp T.B__law_lights .nil pass0 (pa_cons (pv 0) (pa_cons pe_int (pa_cons (pv 2) (pa_cons pe_int pa_nil))))))
      (pss_cons (ps_set (i := 4) sc__law_unit.nd rfl (Or.inl rfl) (pe_call G__law_lights hr__law_lights (by rfl) T.m__law_lights T.F__law_lights.kp T.B__law_lights .nil pass0 (pa_cons (pv 0) (pa_cons pe_int (pa_cons (pv 2) (pa_cons pe_int pa_nil))))))
      (pss_cons (ps_set (i := 5) sc__law_unit.nd rfl (Or.inl rfl) (pe_call G__law_light hr__law_light (by rfl) T.m__law_light T.F__law_light.kp T.B__law_light .nil pass0 (pa_cons (pv 0) pa_nil)))
      (pss_cons (ps_if (pt_cmpR op_eqI (pe_call G__law_draw hr__law_draw (by rfl) T.m__law_draw T.F__law_draw.kp T.B__law_draw .nil pass0 (pa_cons (pv 0) (pa_cons pe_int pa_nil))) pe_int (nomark _)) (pss_cons (ps_set (i := 6) sc__law_unit.nd rfl (Or.inl rfl) (pe_call G__law_value hr__law_value (by rfl) T.m__law_value T.F__law_value.kp T.B__law_value .nil pass0 (pa_cons (pe_tupU (pa_cons (pv 3) (pa_cons (pe_tupU (pa_cons pe_int (pa_cons pe_int pa_nil))) (pa_cons (pv 4) pa_nil)))) (pa_cons (pe_call G__law_of hr__law_of (by rfl) T.m__law_of T.F__law_of.kp T.B__law_of .nil pass0 (pa_cons (pv 0) (pa_cons (pv 1) pa_nil))) pa_nil))))
      (pss_one (ps_if (PW.pt (pw_and (pt_cmpR op_lt (pe_callB call_abs (by rfl) T.n_abs (by decide +kernel) (pa_cons (pe_ix ix_tup (pv 6) pe_int (fun _ _ => rfl)) pa_nil)) (pe_op op_pow pe_int pe_int) (nomark _)) (pw_and1 (pt_cmpR op_lt (pe_ix ix_tup (pv 6) pe_int (fun _ _ => rfl)) (pe_op op_pow pe_int pe_int) (nomark _))))) (pss_cons (ps_set (i := 7) sc__law_unit.nd rfl (Or.inl rfl) (pe_ix ix_list (pe_lstU (pa_cons (pe_tupU (pa_cons pe_int (pa_cons pe_int pa_nil))) (pa_cons (pe_tupU (pa_cons pe_int (pa_cons pe_int pa_nil))) (pa_cons (pe_tupU (pa_cons pe_int (pa_cons (pe_op op_pow pe_int pe_int) pa_nil))) (pa_cons (pe_tupU (pa_cons (pe_un un_neg pe_int) (pa_cons (pe_op op_pow pe_int pe_int) pa_nil))) pa_nil))))) (pe_call G__law_draw hr__law_draw (by rfl) T.m__law_draw T.F__law_draw.kp T.B__law_draw .nil pass0 (pa_cons (pv 0) (pa_cons pe_int pa_nil))) (fun _ _ => rfl)))
      (pss_one (ps_set (i := 5) sc__law_unit.nd rfl (Or.inl rfl) (pe_call G__law_plus hr__law_plus (by rfl) T.m__law_plus T.F__law_plus.kp T.B__law_plus .nil pass0 (pa_cons (pe_tupU (pa_cons (pe_un un_neg (pe_ix ix_tup (pv 6) pe_int (fun _ _ => rfl))) (pa_cons (pe_ix ix_tup (pv 6) pe_int (fun _ _ => rfl)) pa_nil))) (pa_cons (pv 7) pa_nil)))))) pss_nil))) pss_nil)
      (pss_one (ps_ret (pe_tupU (pa_cons (pe_callTy call_tupleN (by rfl) T.n_tuple (by decide +kernel) (pa_cons (pv 3) pa_nil)) (pa_cons (pv 5) (pa_cons (pe_callTy call_tupleN (by rfl) T.n_tuple (by decide +kernel) (pa_cons (pv 4) pa_nil)) pa_nil)))))))))), ?_⟩
    refine seq_op fun N hN => ?_
    walk_at "rs"
    refine ⟨b, c, N0 + 23, n, rfl, B, by omega, by omega, fun p1 xs1 ts H1 B1 K1 p10 p11 e1 l1 w1 => hN _ _ ?_⟩
    clear hN N
    refine seq_op fun N hN => ?_
    walk_at "rs"
    refine ⟨b, c, N0 + 7, n, rfl, B1, by omega, by omega, fun p2 xs2 gs H2 B2 K2 p20 p21 e2 l2 w2 => hN _ _ ?_⟩
    clear hN N
    refine seq_op fun N hN => ?_
    walk_at "rs"
    refine ⟨b, c, N0 + 3, rfl, B2, fun s1 f1 H3 o1 s10 s11 B3 K3 => hN _ _ ?_⟩
    clear hN N
    have p1b := new_ne B p10
    have p2b := new_ne B1 p20
    refine cut_seq (fun σ H4 => ∃ (sa : Addr) (f : Fr) (x6 x7 : Option V), σ = [some (.ref b), some (.ref ra), some (.int (n : Int)), some (.ref p1), some (.ref p2), some (.ref sa), x6, x7] ∧ Bag N0 H4 b c ∧ Kp b H3 H4 ∧ Pr K H4 sa f.1 f.2 ∧ okB 1000000000000000000 100000000000000000 f) (fun N hN => ?_) ?_
    · walk_at "rs"
      refine ⟨b, c, 2, N0 + 2, rfl, B3, by decide, by decide, fun r4 H4 r40 r41 B4 K4 => ⟨r4, rfl, ite2 (fun _ => ?_) (fun _ => ?_)⟩⟩
      · refine seq_op fun N1 hN1 => ?_
        walk_at "rs"
        refine ⟨by decide, fun z5 H5 t5 z50 z51 => ⟨by decide, fun u6 H6 t6 u60 u61 => ?_⟩⟩
        have B6 : Bag (N0 + 1 + 1) H6 b c := (B4.same t5).same t6
        have K46 : Kp b H4 H6 := Kp.of (Same.trans t5 t6)
        have K16 : Kp b H1 H6 := Same.trans K2 (Same.trans K3 (Same.trans K4 K46))
        have K06 : Kp b H H6 := Same.trans K1 K16
        have lrs := hrs.len
        refine of_lst B6 (K06.get rb hra) rb (fun e => ne (List.eq_nil_of_length_eq_zero (by rw [← lrs, e]; rfl))) (by omega) fun y H7 hy B7 K7 => ?_
        obtain ⟨ya, yys, yfs, rfl, my, hya, hyf⟩ := (hrs.kp B (Same.trans K06 K7)).mem hy
        obtain ⟨yl, yb⟩ := rg yfs my
        have K17 := Same.trans K16 K7
        refine ⟨u6, p1, z5, .ref p2, ya, xs1, yys, ts, yfs, rfl, seqT_kp B6 K7 (.inl (.inl u61)), SqL.of (Kp.get K17 p1b p11), e1.kp B1 K17, seqT_kp B6 K7 (.inl (.inl (t6 _ _ z51))), l1, fun q hq => ⟨by have := (w1 q hq).1; omega, (w1 q hq).2⟩, hya, hyf, yb, fun v8 f8 H8 s8 h8 d8 b81 b82 => hN1 _ _ ?_⟩
        clear hN1 N1
        have B8 := B7.same s8
        have K48 : Kp b H4 H8 := Same.trans K46 (Same.trans K7 (Kp.of s8))
        walk_at "rs"
        have old : ∀ x7 : Option V, N [some (V.ref b), some (V.ref ra), some (V.int (n : Int)), some (V.ref p1), some (V.ref p2), some (V.ref s1), some (V.ref v8), x7] H8 := fun x7 => hN _ _ ⟨s1, f1, _, _, rfl, B8.le (by omega), Same.trans K4 K48, seqT_kp B4 K48 (seqT_kp B3 K4 (.inl (.inl s11))), o1.1, o1.2.1, Nat.le_trans o1.2.2.1 (by decide), Nat.le_trans o1.2.2.2 (by decide)⟩
        refine ⟨_, h8, _, rfl, _, rfl, by decide, ite2 (fun c1 => ⟨_, h8, _, rfl, by decide, _, rfl, ite2 (fun c2 => ?_) (fun _ => old _)⟩) (fun _ => old _)⟩
        refine seq_op fun N2 hN2 => ?_
        walk_at "rs"
        refine ⟨by decide, fun a0 G0 y0 _ z0 => ⟨by decide, fun a1 G1 y1 _ z1 => ⟨by decide, by decide, fun a2 G2 y2 _ z2 => ⟨by decide, by decide, fun a3 G3 y3 _ z3 => ⟨by decide, fun a4 G4 y4 a40 z4 => ⟨b, c, 4, N0, rfl, (((((B8.le (show N0 + 1 ≤ N0 + 1 by omega)).same y0).same y1).same y2).same y3).same y4, by decide, by decide, fun r G5 r0 r1 B5 K5 => ?_⟩⟩⟩⟩⟩⟩
        have yy : Same H8 G4 := Same.trans y0 (Same.trans y1 (Same.trans y2 (Same.trans y3 y4)))
        have BG4 : Bag (N0 + 1) G4 b c := (B8.le (show N0 + 1 ≤ N0 + 1 by omega)).same yy
        have a4b : a4 ≠ b := new_ne ((((B8.same y0).same y1).same y2).same y3) a40
        have w0 : Pr K G5 a0 0 1 := seqT_kp BG4 K5 (.inl (.inl (y4 _ _ (y3 _ _ (y2 _ _ (y1 _ _ z0))))))
        have w1' : Pr K G5 a1 0 1 := seqT_kp BG4 K5 (.inl (.inl (y4 _ _ (y3 _ _ (y2 _ _ z1)))))
        have w2' : Pr K G5 a2 1 (10 ^ 9) := seqT_kp BG4 K5 (.inl (.inl (y4 _ _ (y3 _ _ z2))))
        have w3' : Pr K G5 a3 (-1) (10 ^ 9) := seqT_kp BG4 K5 (.inl (.inl (y4 _ _ z3)))
        have g4 : SqL K G5 a4 [.ref a0, .ref a1, .ref a2, .ref a3] := SqL.of (Kp.get K5 a4b z4)
        obtain ⟨na, m1, m2, at4, wm, hm1, hm2, hm3⟩ : ∃ (na : Addr) (m1 m2 : Int), atI [V.ref a0, .ref a1, .ref a2, .ref a3] r = some (.ref na) ∧ Pr K G5 na m1 m2 ∧ m1.natAbs ≤ 1 ∧ 1 ≤ m2 ∧ m2 ≤ 1000000000 := by
          have : r = 0 ∨ r = 1 ∨ r = 2 ∨ r = 3 := by omega
          rcases this with rfl | rfl | rfl | rfl
          · exact ⟨a0, 0, 1, rfl, w0, by decide, by decide, by decide⟩
          · exact ⟨a1, 0, 1, rfl, w1', by decide, by decide, by decide⟩
          · exact ⟨a2, 1, 10 ^ 9, rfl, w2', by decide, by decide, by decide⟩
          · exact ⟨a3, -1, 10 ^ 9, rfl, w3', by decide, by decide, by decide⟩
        refine ⟨_, r, rfl, g4, _, at4, hN2 _ _ ?_⟩
        clear hN2 N2
        have K85 : Kp b H8 G5 := Same.trans (Kp.of yy) K5
        have h85 := seqT_kp B8 K85 h8
        have v1 : f8.1.natAbs < 100000000 := by
          have e : ((10 : Int) ^ 8) = 100000000 := by decide
          rw [e] at c1
          split at c1 <;> omega
        have v2 : f8.2 < 100000000 := by
          have e : ((10 : Int) ^ 8) = 100000000 := by decide
          rw [e] at c2
          exact c2
        walk_at "rs"
        have q0 : f8.2 * m2 ≠ 0 := Int.mul_ne_zero (by omega) (by omega)
        have nb := near_num v1 d8 v2 hm1 hm2 hm3
        refine ⟨_, h85, _, rfl, _, rfl, _, h85, _, rfl, by decide, fun a6 G6 y6 _ z6 => ⟨a6, na, -f8.1, f8.2, m1, m2, rfl, .inl (.inl z6), Same.seqT y6 wm, pow_le (a := 64) (by omega) (by decide), pow_le (a := 64) (by omega) (by decide), pow_le (a := 64) (by omega) (by decide), pow_le (a := 64) (by omega) (by decide), q0, fun a7 G7 y7 _ z7 => hN _ _ ⟨a7, (frP (-f8.1 * m2 + m1 * f8.2) (f8.2 * m2), frQ (-f8.1 * m2 + m1 * f8.2) (f8.2 * m2)), _, _, rfl, (B5.same y6).same y7, Same.trans K4 (Same.trans K48 (Same.trans K85 (Kp.of (Same.trans y6 y7)))), .inl (.inl z7), okB_low q0 nb.1 nb.2⟩⟩⟩
      · refine hN _ _ ⟨s1, f1, _, _, rfl, B4.le (by omega), K4, seqT_kp B3 K4 (.inl (.inl s11)), o1.1, o1.2.1, Nat.le_trans o1.2.2.1 (by decide), Nat.le_trans o1.2.2.2 (by decide)⟩
    · rintro σ H4 ⟨sa, f, x6, x7, rfl, B4, K4, h4, o4⟩
      walk_at "rs"
      have K14 : Kp b H1 H4 := Same.trans K2 (Same.trans K3 K4)
      have K24 : Kp b H2 H4 := Same.trans K3 K4
      refine ⟨_, SqL.of (K14.get p1b p11), fun q5 H5 t5 _ q51 => ⟨_, SqL.of (t5 _ _ (K24.get p2b p21)), fun q6 H6 t6 _ q61 => ⟨by decide, fun p7 H7 t7 _ p71 => ?_⟩⟩⟩
      have s47 := Same.trans t5 (Same.trans t6 t7)
      refine k _ ⟨ts, f, gs⟩ H7 (B4.same s47) (Same.trans K1 (Same.trans K14 (Kp.of s47))) ⟨p7, q5, sa, q6, xs1, xs2, rfl, .inl (.inl p71), .inl (.inl (t7 _ _ (t6 _ _ q51))), (e1.kp B1 K14).same s47, Same.seqT s47 h4, .inl (.inl (t7 _ _ q61)), (e2.kp B2 K24).same s47⟩ (ug_of l1 l2 w1 w2 o4)
end
end LK

set_option Elab.async false
set_option linter.all false
set_option maxRecDepth 100000
namespace LK
open PySem PySem.Spec PyProof.Rows L2
local macro_rules | `(tactic| walk_at "rs") => `(tactic| simp only [cxK, cxNK, tCallZ, tAsg, tOp, rI0, rS0, rB0, rI, rU, tUn, rEq, rNe, rIxL, rIxT, rIxS, rSetL, rSlLU, rSlS, rSlU, rCatL, rCatU, rRepL, rIn, tVar, tC, gName, gSub, tIfS, tTest, tB, tAnd, tOr, tNot, tNotV, tAndV, tOrV, tIf, tCall, tCons, tNil, tCB, tDrop, tRet, tRetN, tNext, tLstU, tTupU, tM0, tM1, tPar, tPar3, tAug, ipI, tBM, tBM0, rAppend, rPop, tBreak, tCont, tChain, tSl, tPart, tNoPart, L2.start, List.map, List.length_cons, List.length_nil, List.replicate, List.cons_append, List.nil_append, List.append_nil, List.getElem?_cons_zero, List.getElem?_cons_succ, List.set_cons_zero, List.set_cons_succ, Option.some.injEq, V.int.injEq, V.ref.injEq, V.str.injEq, V.bl.injEq, exists_eq_left', exists_eq_left, exists_and_left, decide_eq_true_eq, List.cons.injEq, and_true, true_and, scal, Bool.not_eq_true', decide_eq_false_iff_not, Nat.zero_add, Nat.reduceAdd, Nat.reduceSub, reduceCtorEq, false_and, exists_false, false_or, or_false, CPow, CPowW, CMul, CDiv, Int.reduceToNat, ↓reduceIte, wipe, sw, List.nil_append, List.singleton_append])
local macro_rules | `(tactic| walk_at "st") => `(tactic| (refine seq_op fun N hN => ?_; walk_at "rs"))
local macro_rules | `(tactic| walk_at "sd") => `(tactic| first | assumption | decide | omega)
local macro_rules | `(tactic| walk_at "rd") => `(tactic| repeat (first
  | refine ⟨_, SqL.of (by assumption), ?_⟩ | refine ⟨_, SqL.of upd_same, ?_⟩ | refine ⟨_, .inl (SqL.of (by assumption)), ?_⟩ | refine ⟨_, (by assumption : _ = some (HO.lst _)), ?_⟩ | refine ⟨_, upd_same, ?_⟩
  | refine ⟨_, rfl, ?_⟩ | refine And.intro (by walk_at "sd") ?_))

section
variable {P : Program} {w : World} {K : PySem.W.Frag} {mg : Str → Option Value} {base : Heap}
/-- the columns that the units read hold the same in both rows -/
def Free (ws : List Un) (fs gs : List Fr) : Prop := ∀ u ∈ ws, ∀ q ∈ u.terms, fs.getD q.1 (0, 1) = gs.getD q.1 (0, 1)
def sp_free (K : PySem.W.Frag) : Sp := fun vs H Q _ => ∃ (sa r ch : Addr) (us rs cs : List V) (ws : List Un) (fs gs : List Fr), vs = [.ref sa, .ref r, .ref ch] ∧ (SqL K H sa us ∨ SqT K H sa us) ∧ Uns K H us ws ∧ SqT K H r rs ∧ Frs K H rs fs ∧ SqT K H ch cs ∧ Frs K H cs gs ∧ fs.length = gs.length ∧ (∀ u ∈ ws, ∀ q ∈ u.terms, q.1 < fs.length) ∧
  ∀ (t : Bool) H', Same H H' → (t = true → Free ws fs gs) → Q (.bl t) H'
theorem ok__law_free (T : Txt w K mg) : FnOk P w K mg base CX0 1 T.a__law_free T.d__law_free ["second", "row", "changed"] (sp_free K) := by
  refine T.F__law_free.ok sc__law_free (fun vs H Q E h => ?_) (fun cdv A outer s H vs Q E hr h => ?_)
  · obtain ⟨sa, r, ch, us, rs, cs, ws, fs, gs, rfl, _⟩ := h
    rfl
  · obtain ⟨sa, r, ch, us, rs, cs, ws, fs, gs, rfl, hsa, hus, hrr, hf, hch, hg, le, hc, k⟩ := h
    have lu := hus.len
    have l1 := hf.len
    have l2 := hg.len
    refine ⟨_, (pss_cons (ps_for PassesOwn.never rfl (pi_lt (pv 0)) (pg_name (i := 3) sc__law_free.nd rfl (Or.inl rfl)) (pss_one (ps_for PassesOwn.never rfl (pi_tup (pe_ix ix_tup (pv 3) pe_int (fun _ _ => rfl))) (pg_name (i := 4) sc__law_free.nd rfl (Or.inl rfl)) (pss_one (ps_if (pt_cmpR (op_neD hr.units) (pe_ix ix_tup (pv 1) (pe_ix ix_tup (pv 4) pe_int (fun _ _ => rfl)) (fun _ _ => rfl)) (pe_ix ix_tup (pv 2) (pe_ix ix_tup (pv 4) pe_int (fun _ _ => rfl)) (fun _ _ => rfl)) (nomark _)) (pss_one (ps_ret pe_bl)) pss_nil)))))
      (pss_one (ps_ret pe_bl))), ?_⟩
    refine cut_seq (fun σ H2 => H2 = H ∧ Free ws fs gs) (fun N hN => ?_) ?_
    · refine for_lt (K := K) (a := sa) (xs := us) (fun Q q => ⟨_, rfl, q⟩) hsa (fun i σ H2 => ∃ x3 x4 : Option V, σ = [some (.ref sa), some (.ref r), some (.ref ch), x3, x4] ∧ H2 = H ∧ Free (ws.take i) fs gs) ⟨_, _, rfl, rfl, fun u hu => absurd hu (by simp)⟩ (fun i σ H2 ⟨_, _, _, e, _⟩ => by rw [e]; exact Same.refl _) ?_ ?_
      · rintro i y σ H2 hi ⟨x3, x4, rfl, rfl, fr⟩
        obtain ⟨u, eu, hu⟩ := hus.get hi
        obtain ⟨va, ta, sha, ga, xs, ys, rfl, g1, g2, g3, g4, g5, g6⟩ := id hu
        have hcu := hc u (List.mem_of_getElem? eu)
        have l3 := g3.len
        refine ⟨_, rfl, va, _, 0, .ref ta, rfl, rfl, g1, rfl, ta, rfl, ⟨xs, g2⟩, for_tup (K := K) (a := ta) (xs := xs) (fun t σ H8 => ∃ x4 : Option V, σ = [some (.ref sa), some (.ref r), some (.ref ch), some (.ref va), x4] ∧ H8 = H2 ∧ ∀ q ∈ u.terms.take t, fs.getD q.1 (0, 1) = gs.getD q.1 (0, 1)) ⟨_, rfl, rfl, fun q hq => absurd hq (by simp)⟩ (fun t σ H8 _ ⟨_, _, e, _⟩ => by rw [e]; exact g2) ?_ ?_⟩
        · rintro t y σ H8 ht ⟨x4, rfl, rfl, ft⟩
          obtain ⟨a1, u1, c, f, e1, e2, k1, k2⟩ := g3.get (n := t) (by have := (List.getElem?_eq_some_iff.mp ht).1; omega)
          obtain rfl : y = .ref a1 := by rw [e1] at ht; exact (Option.some.inj ht).symm
          have cc := hcu _ (List.mem_of_getElem? e2)
          dsimp only at cc
          obtain ⟨xa, x, ex, ex2, kx⟩ := hf.get (n := c) cc
          obtain ⟨za, z, ez, ez2, kz⟩ := hg.get (n := c) (by omega)
          walk_at "rs"
          refine ⟨_, k1, _, rfl, _, (c : Int), rfl, hrr, _, at_ofN rfl ex, _, k1, _, rfl, _, (c : Int), rfl, hch, _, at_ofN rfl ez, ?_⟩
          refine ⟨.tuple [.int x.1, .int x.2], .tuple [.int z.1, .int z.2], dp_pair kx, dp_pair kz, by rfl, by rfl, _, rfl, ?_⟩
          rw [eqv_pair]
          refine ite2 (fun _ => k false _ (Same.refl _) fun e => by cases e) (fun nz => ⟨rfl, fun q hq => ?_⟩)
          obtain ⟨hk, e⟩ := List.getElem?_eq_some_iff.mp e2
          rw [← List.take_append_getElem hk, e] at hq
          rcases List.mem_append.mp hq with hq | hq
          · exact ft q hq
          · obtain rfl := List.mem_singleton.mp hq
            rw [List.getD_eq_getElem?_getD, List.getD_eq_getElem?_getD, ex2, ez2]
            have hz : (decide (x.1 = z.1) && decide (x.2 = z.2)) = true := by
              cases e1 : (decide (x.1 = z.1) && decide (x.2 = z.2)) with
              | true => rfl
              | false => exact absurd (by rw [e1]; rfl) nz
            rw [Bool.and_eq_true, decide_eq_true_iff, decide_eq_true_iff] at hz
            exact Prod.ext hz.1 hz.2
        · rintro σ H8 ⟨x4, rfl, rfl, ft⟩
          refine ⟨_, _, rfl, rfl, fun v hv => ?_⟩
          obtain ⟨hk, e⟩ := List.getElem?_eq_some_iff.mp eu
          rw [← List.take_append_getElem hk, e] at hv
          rcases List.mem_append.mp hv with hv | hv
          · exact fr v hv
          · obtain rfl := List.mem_singleton.mp hv
            rw [l3, List.take_length] at ft
            exact ft
      · rintro σ H2 ⟨x3, x4, rfl, rfl, fr⟩
        rw [lu, List.take_length] at fr
        exact hN _ _ ⟨rfl, fr⟩
    · rintro σ H2 ⟨rfl, fr⟩
      walk_at "rs"
      exact k true _ (Same.refl _) fun _ => fr
end
end LK

set_option Elab.async false
set_option linter.all false
set_option maxRecDepth 100000
namespace LK
open PySem PySem.Spec PyProof.Rows L2
local macro_rules | `(tactic| walk_at "rs") => `(tactic| simp only [cxK, cxNK, tCallZ, tAsg, tOp, rI0, rS0, rB0, rI, rU, tUn, rEq, rNe, rIxL, rIxT, rIxS, rSetL, rSlLU, rSlS, rSlU, rCatL, rCatU, rRepL, rIn, tVar, tC, gName, gSub, tIfS, tTest, tB, tAnd, tOr, tNot, tNotV, tAndV, tOrV, tIf, tCall, tCons, tNil, tCB, tDrop, tRet, tRetN, tNext, tLstU, tTupU, tM0, tM1, tPar, tPar3, tAug, ipI, tBM, tBM0, rAppend, rPop, tBreak, tCont, tChain, tSl, tPart, tNoPart, L2.start, List.map, List.length_cons, List.length_nil, List.replicate, List.cons_append, List.nil_append, List.append_nil, List.getElem?_cons_zero, List.getElem?_cons_succ, List.set_cons_zero, List.set_cons_succ, Option.some.injEq, V.int.injEq, V.ref.injEq, V.str.injEq, V.bl.injEq, exists_eq_left', exists_eq_left, exists_and_left, decide_eq_true_eq, List.cons.injEq, and_true, true_and, scal, Bool.not_eq_true', decide_eq_false_iff_not, Nat.zero_add, Nat.reduceAdd, Nat.reduceSub, reduceCtorEq, false_and, exists_false, false_or, or_false, CPow, CPowW, CMul, CDiv, Int.reduceToNat, ↓reduceIte, wipe, sw, List.nil_append, List.singleton_append])
local macro_rules | `(tactic| walk_at "st") => `(tactic| (refine seq_op fun N hN => ?_; walk_at "rs"))
local macro_rules | `(tactic| walk_at "sd") => `(tactic| first | assumption | decide | omega)
local macro_rules | `(tactic| walk_at "rd") => `(tactic| repeat (first
  | refine ⟨_, SqL.of (by assumption), ?_⟩ | refine ⟨_, SqL.of upd_same, ?_⟩ | refine ⟨_, .inl (SqL.of (by assumption)), ?_⟩ | refine ⟨_, (by assumption : _ = some (HO.lst _)), ?_⟩ | refine ⟨_, upd_same, ?_⟩
  | refine ⟨_, rfl, ?_⟩ | refine And.intro (by walk_at "sd") ?_))

/-! ### the order of units, of terms and of givings means nothing -/
theorem lcI_dvd {a d m : Int} (ha : 0 < a) (h1 : a ∣ m) (h2 : d ∣ m) : lcI a d ∣ m := by
  unfold lcI
  obtain ⟨a', ea⟩ := Nat.gcd_dvd_left a.natAbs d.natAbs
  have g0 : 0 < Nat.gcd a.natAbs d.natAbs := Nat.gcd_pos_of_pos_left _ (by omega)
  have l : Nat.lcm a.natAbs d.natAbs = a' * d.natAbs := by
    unfold Nat.lcm
    conv => lhs; rw [show a.natAbs * d.natAbs = Nat.gcd a.natAbs d.natAbs * (a' * d.natAbs) by rw [← Nat.mul_assoc, ← ea]]
    exact Nat.mul_div_cancel_left _ g0
  have e : a.fdiv ((Nat.gcd a.natAbs d.natAbs : Nat) : Int) = (a' : Int) := by
    have ea2 : a = ((Nat.gcd a.natAbs d.natAbs : Nat) : Int) * (a' : Int) := by rw [← Int.natCast_mul, ← ea]; omega
    conv => lhs; lhs; rw [ea2]
    rw [Int.fdiv_eq_ediv_of_nonneg _ (by omega), Int.mul_ediv_cancel_left _ (by omega)]
  rw [e]
  refine Int.natAbs_dvd_natAbs.mp ?_
  rw [Int.natAbs_mul]
  show a' * d.natAbs ∣ _
  rw [← l]
  exact Nat.lcm_dvd (Int.natAbs_dvd_natAbs.mpr h1) (Int.natAbs_dvd_natAbs.mpr h2)
theorem comF_dvd : ∀ {fs : List Fr} {a m : Int}, 0 < a → (∀ f ∈ fs, 1 ≤ f.2) → a ∣ m → (∀ f ∈ fs, f.2 ∣ m) → comF a fs ∣ m
  | [], _, _, _, _, h, _ => h
  | f :: fs, a, m, ha, h1, h, hf => show comF (lcI a f.2) fs ∣ m from comF_dvd (fs := fs) (a := lcI a f.2) (lcI_spec ha (h1 f List.mem_cons_self)).1 (fun g hg => h1 g (List.mem_cons_of_mem _ hg)) (lcI_dvd ha h (hf f List.mem_cons_self)) fun g hg => hf g (List.mem_cons_of_mem _ hg)
theorem comI_dvd {fs : List Fr} {m : Int} (h1 : ∀ f ∈ fs, 1 ≤ f.2) (h : ∀ f ∈ fs, f.2 ∣ m) : comI fs ∣ m := comF_dvd (by decide) h1 (Int.one_dvd _) h
theorem comI_eq {fs gs : List Fr} (h1 : ∀ f ∈ fs, 1 ≤ f.2) (e : ∀ f, f ∈ fs ↔ f ∈ gs) : comI fs = comI gs := by
  have h2 : ∀ f ∈ gs, 1 ≤ f.2 := fun f hf => h1 f ((e f).mpr hf)
  obtain ⟨a0, a1, _⟩ := comI_spec h1
  obtain ⟨b0, b1, _⟩ := comI_spec h2
  exact Int.dvd_antisymm (by omega) (by omega) (comI_dvd h1 fun f hf => b1 f ((e f).mp hf)) (comI_dvd h2 fun f hf => a1 f ((e f).mpr hf))
/-- what a list of gifts adds to a column -/
def colS : List (Nat × Int) → Nat → Int
  | [], _ => 0
  | p :: gi, c => (if p.1 = c then p.2 else 0) + colS gi c
theorem colS_app : ∀ (gi gj : List (Nat × Int)) (c : Nat), colS (gi ++ gj) c = colS gi c + colS gj c
  | [], gj, c => by show colS gj c = 0 + _; omega
  | p :: gi, gj, c => by
    show (if p.1 = c then p.2 else 0) + colS (gi ++ gj) c = (if p.1 = c then p.2 else 0) + colS gi c + colS gj c
    rw [colS_app gi gj c]
    omega
theorem addG_get {Xs : List Int} {p : Nat × Int} {c : Nat} (h : c < Xs.length) : (addG Xs p).getD c 0 = Xs.getD c 0 + if p.1 = c then p.2 else 0 := by
  unfold addG
  rw [List.getD_eq_getElem?_getD, List.getElem?_set]
  by_cases e : p.1 = c
  · rw [if_pos e, if_pos e]
    subst e
    rw [if_pos h]
    rfl
  · rw [if_neg e, if_neg e, List.getD_eq_getElem?_getD, Int.add_zero]
theorem foldG_get : ∀ {gi : List (Nat × Int)} {Xs : List Int} {c : Nat}, c < Xs.length → (gi.foldl addG Xs).getD c 0 = Xs.getD c 0 + colS gi c
  | [], Xs, c, _ => by show Xs.getD c 0 = _ + 0; omega
  | p :: gi, Xs, c, h => by
    show ((gi.foldl addG (addG Xs p))).getD c 0 = _ + ((if p.1 = c then p.2 else 0) + colS gi c)
    rw [foldG_get (by rw [addG_len]; exact h), addG_get h]
    omega
theorem foldG_ext {gi gj : List (Nat × Int)} {Xs : List Int} (e : ∀ c, colS gi c = colS gj c) : gi.foldl addG Xs = gj.foldl addG Xs := by
  refine List.ext_getElem (by rw [foldG_len, foldG_len]) fun c h1 h2 => ?_
  have hc : c < Xs.length := by rw [foldG_len] at h1; exact h1
  have a := foldG_get (gi := gi) hc
  have b := foldG_get (gi := gj) hc
  rw [e c, ← b, List.getD_eq_getElem?_getD, List.getD_eq_getElem?_getD, List.getElem?_eq_getElem h1, List.getElem?_eq_getElem h2] at a
  exact a
theorem sumE_rev (Xs : List Int) (M : Int) (es : List (Nat × Fr)) : sumE Xs M es.reverse = sumE Xs M es := by
  unfold sumE
  rw [List.map_reverse, List.sum_reverse]
theorem colS_none : ∀ {gi : List (Nat × Int)} {c : Nat}, colS ([] : List (Nat × Int)) c = 0 := rfl
/-! a unit in parts -/
/-- gifts of a unit by its value z -/
def giftZ (M W z : Int) (gv : List (Nat × Fr)) : List (Nat × Int) := if 0 < z then gv.map fun p => (p.1, gI W M z p.2) else []
theorem giftZ_app (M W z : Int) (gv hv : List (Nat × Fr)) : giftZ M W z (gv ++ hv) = giftZ M W z gv ++ giftZ M W z hv := by
  unfold giftZ
  split
  · exact List.map_append
  · rfl
theorem giftI_eq (L M W : Int) (Xs : List Int) (u : Un) : giftI L M W Xs u = giftZ M W (zI L M Xs u) u.giv := rfl
def part3 (u : Un) (at_ : Nat) : List Un := [⟨u.terms, u.shift, u.giv.drop at_⟩, ⟨u.terms.reverse, u.shift, u.giv.take at_⟩, ⟨u.terms, u.shift, []⟩]
theorem den1_rev {n : Nat} {u : Un} (b : UB n u) (gv : List (Nat × Fr)) : inner ⟨u.terms.reverse, u.shift, gv⟩ = inner u := by
  have b1 := b.d1
  unfold inner
  refine (comI_eq b1 fun f => ?_).symm
  unfold den1
  simp only [List.mem_append, List.mem_map, List.mem_reverse]
theorem zI_rev (L M : Int) (Xs : List Int) (u : Un) (gv : List (Nat × Fr)) : zI L M Xs ⟨u.terms.reverse, u.shift, gv⟩ = zI L M Xs u := by
  unfold zI
  rw [sumE_rev]
theorem part3_col {n : Nat} {u : Un} (b : UB n u) (L W : Int) (Xs : List Int) (k c : Nat) : colS (bendG L W inner (part3 u k) Xs) c = colS (giftI L (inner u) W Xs u) c := by
  have e1 : inner ⟨u.terms, u.shift, u.giv.drop k⟩ = inner u := rfl
  have e3 : inner ⟨u.terms, u.shift, []⟩ = inner u := rfl
  have e2 := den1_rev b (u.giv.take k)
  unfold bendG part3
  simp only [List.flatMap_cons, List.flatMap_nil, List.append_nil, giftI_eq, e1, e2, e3, zI_rev]
  have z1 : zI L (inner u) Xs ⟨u.terms, u.shift, u.giv.drop k⟩ = zI L (inner u) Xs u := rfl
  have z3 : zI L (inner u) Xs ⟨u.terms, u.shift, []⟩ = zI L (inner u) Xs u := rfl
  rw [z1, z3]
  have en : giftZ (inner u) W (zI L (inner u) Xs u) [] = [] := by unfold giftZ; split <;> rfl
  rw [en, List.append_nil, colS_app, Int.add_comm, ← colS_app, ← giftZ_app, List.take_append_drop]
/-- units parted, in any order of the units from the last to the first -/
def parts3 : List Un → List Nat → List Un
  | u :: us, k :: ks => part3 u k ++ parts3 us ks
  | _, _ => []
theorem bendG_app (L W : Int) (M : Un → Int) (us vs : List Un) (Xs : List Int) : bendG L W M (us ++ vs) Xs = bendG L W M us Xs ++ bendG L W M vs Xs := List.flatMap_append
theorem parts3_col {n : Nat} : ∀ {us : List Un} {ks : List Nat}, (∀ u ∈ us, UB n u) → us.length = ks.length → ∀ (L W : Int) (Xs : List Int) (c : Nat), colS (bendG L W inner (parts3 us ks) Xs) c = colS (bendG L W inner us Xs) c
  | [], [], _, _, _, _, _, _ => rfl
  | u :: us, k :: ks, h, hl, L, W, Xs, c => by
    have ih := parts3_col (us := us) (ks := ks) (fun v hv => h v (List.mem_cons_of_mem _ hv)) (by simpa using hl) L W Xs c
    show colS (bendG L W inner (part3 u k ++ parts3 us ks) Xs) c = colS (giftI L (inner u) W Xs u ++ bendG L W inner us Xs) c
    rw [bendG_app, colS_app, colS_app, ih, part3_col (h u List.mem_cons_self)]
  | [], _ :: _, _, hl, _, _, _, _ => by cases hl
  | _ :: _, [], _, hl, _, _, _, _ => by cases hl
theorem bendG_rev (L W : Int) (M : Un → Int) (Xs : List Int) (c : Nat) : ∀ us : List Un, colS (bendG L W M us.reverse Xs) c = colS (bendG L W M us Xs) c
  | [] => rfl
  | u :: us => by
    have ih := bendG_rev L W M Xs c us
    rw [List.reverse_cons, bendG_app, colS_app, ih, Int.add_comm]
    have e : bendG L W M [u] Xs = giftI L (M u) W Xs u := by unfold bendG; rw [List.flatMap_singleton]
    rw [e, ← colS_app]
    rfl
/-- parted units bend as the units do -/
theorem parted_bend {n : Nat} {us : List Un} {ks : List Nat} (h : ∀ u ∈ us, UB n u) (hl : us.length = ks.length) (L W : Int) (Xs : List Int) : bendR L W inner (parts3 us.reverse ks) Xs = bendR L W inner us Xs := by
  unfold bendR
  refine foldG_ext fun c => ?_
  rw [parts3_col (fun u hu => h u (List.mem_reverse.mp hu)) (by rw [List.length_reverse]; exact hl), bendG_rev]
end LK

set_option Elab.async false
set_option linter.all false
set_option maxRecDepth 100000
namespace LK
open PySem PySem.Spec PyProof.Rows L2
local macro_rules | `(tactic| walk_at "rs") => `(tactic| simp only [cxK, cxNK, tCallZ, tAsg, tOp, rI0, rS0, rB0, rI, rU, tUn, rEq, rNe, rIxL, rIxT, rIxS, rSetL, rSlLU, rSlS, rSlU, rCatL, rCatU, rRepL, rIn, tVar, tC, gName, gSub, tIfS, tTest, tB, tAnd, tOr, tNot, tNotV, tAndV, tOrV, tIf, tCall, tCons, tNil, tCB, tDrop, tRet, tRetN, tNext, tLstU, tTupU, tM0, tM1, tPar, tPar3, tAug, ipI, tBM, tBM0, rAppend, rPop, tBreak, tCont, tChain, tSl, tPart, tNoPart, L2.start, List.map, List.length_cons, List.length_nil, List.replicate, List.cons_append, List.nil_append, List.append_nil, List.getElem?_cons_zero, List.getElem?_cons_succ, List.set_cons_zero, List.set_cons_succ, Option.some.injEq, V.int.injEq, V.ref.injEq, V.str.injEq, V.bl.injEq, exists_eq_left', exists_eq_left, exists_and_left, decide_eq_true_eq, List.cons.injEq, and_true, true_and, scal, Bool.not_eq_true', decide_eq_false_iff_not, Nat.zero_add, Nat.reduceAdd, Nat.reduceSub, reduceCtorEq, false_and, exists_false, false_or, or_false, CPow, CPowW, CMul, CDiv, Int.reduceToNat, ↓reduceIte, wipe, sw, List.nil_append, List.singleton_append])
local macro_rules | `(tactic| walk_at "st") => `(tactic| (refine seq_op fun N hN => ?_; walk_at "rs"))
local macro_rules | `(tactic| walk_at "sd") => `(tactic| first | assumption | decide | omega)
local macro_rules | `(tactic| walk_at "rd") => `(tactic| repeat (first
  | refine ⟨_, SqL.of (by assumption), ?_⟩ | refine ⟨_, SqL.of upd_same, ?_⟩ | refine ⟨_, .inl (SqL.of (by assumption)), ?_⟩ | refine ⟨_, (by assumption : _ = some (HO.lst _)), ?_⟩ | refine ⟨_, upd_same, ?_⟩
  | refine ⟨_, rfl, ?_⟩ | refine And.intro (by walk_at "sd") ?_))

/-! ### a bend in two parts -/
theorem gI_scale {W V M Z : Int} {f : Fr} (hM : 0 < M) (hf : 1 ≤ f.2) (h1 : M * f.2 ∣ W) (h2 : M * f.2 ∣ V) : gI W M Z f * V = gI V M Z f * W := by
  obtain ⟨a, rfl⟩ := h1
  obtain ⟨b, rfl⟩ := h2
  have n : M * f.2 ≠ 0 := Int.mul_ne_zero (by omega) (by omega)
  unfold gI
  rw [Int.mul_ediv_cancel_left _ n, Int.mul_ediv_cancel_left _ n]
  simp only [Int.mul_assoc, Int.mul_comm, Int.mul_left_comm]
theorem gI_z {W M Z k : Int} {f : Fr} : gI W M (Z * k) f = gI W M Z f * k := by
  unfold gI
  simp only [Int.mul_assoc, Int.mul_comm, Int.mul_left_comm]
def DivU (M W : Int) (gv : List (Nat × Fr)) : Prop := 0 < M ∧ ∀ p ∈ gv, 1 ≤ p.2.2 ∧ M * p.2.2 ∣ W
theorem giftZ_scale {W V M Z : Int} (c : Nat) : ∀ {gv : List (Nat × Fr)}, DivU M W gv → DivU M V gv → colS (giftZ M W Z gv) c * V = colS (giftZ M V Z gv) c * W := by
  intro gv h1 h2
  unfold giftZ
  by_cases z : 0 < Z
  · rw [if_pos z, if_pos z]
    induction gv with
    | nil => show (0 : Int) * V = 0 * W; rw [Int.zero_mul, Int.zero_mul]
    | cons p gv ih =>
      have ih := ih ⟨h1.1, fun q hq => h1.2 q (List.mem_cons_of_mem _ hq)⟩ ⟨h2.1, fun q hq => h2.2 q (List.mem_cons_of_mem _ hq)⟩
      obtain ⟨a1, a2⟩ := h1.2 p List.mem_cons_self
      obtain ⟨_, b2⟩ := h2.2 p List.mem_cons_self
      show ((if p.1 = c then gI W M Z p.2 else 0) + colS (gv.map fun p => (p.1, gI W M Z p.2)) c) * V = ((if p.1 = c then gI V M Z p.2 else 0) + colS (gv.map fun p => (p.1, gI V M Z p.2)) c) * W
      rw [Int.add_mul, Int.add_mul, ih]
      by_cases e : p.1 = c
      · rw [if_pos e, if_pos e, gI_scale h1.1 a1 a2 b2]
      · rw [if_neg e, if_neg e, Int.zero_mul, Int.zero_mul]
  · rw [if_neg z, if_neg z]
    show (0 : Int) * V = 0 * W
    rw [Int.zero_mul, Int.zero_mul]
theorem giftZ_z {W M Z k : Int} (hk : 0 < k) (c : Nat) (gv : List (Nat × Fr)) : colS (giftZ M W (Z * k) gv) c = colS (giftZ M W Z gv) c * k := by
  unfold giftZ
  have e : 0 < Z * k ↔ 0 < Z := ⟨fun h => Int.pos_of_mul_pos_left h hk, fun h => Int.mul_pos h hk⟩
  by_cases z : 0 < Z
  · rw [if_pos z, if_pos (e.mpr z)]
    induction gv with
    | nil => show (0 : Int) = 0 * k; rw [Int.zero_mul]
    | cons p gv ih =>
      show (if p.1 = c then gI W M (Z * k) p.2 else 0) + colS (gv.map fun p => (p.1, gI W M (Z * k) p.2)) c = ((if p.1 = c then gI W M Z p.2 else 0) + colS (gv.map fun p => (p.1, gI W M Z p.2)) c) * k
      rw [ih, Int.add_mul, gI_z]
      by_cases e : p.1 = c
      · rw [if_pos e, if_pos e]
      · rw [if_neg e, if_neg e, Int.zero_mul]
  · rw [if_neg z, if_neg fun h => z (e.mp h)]
    show (0 : Int) = 0 * k
    rw [Int.zero_mul]
theorem UFit.divU {n : Nat} {M W : Int} {u : Un} (f : UFit n M W u) : DivU M W u.giv := ⟨f.M0, fun p hp => ⟨(f.giv p hp).2.1.1, (f.giv p hp).2.2.1⟩⟩
theorem bendG_cons (L W : Int) (M : Un → Int) (u : Un) (us : List Un) (Xs : List Int) : bendG L W M (u :: us) Xs = giftI L (M u) W Xs u ++ bendG L W M us Xs := by
  unfold bendG
  rw [List.flatMap_cons]
theorem bendG_scale {n : Nat} {L W V : Int} {M : Un → Int} {Xs : List Int} (c : Nat) : ∀ {us : List Un}, (∀ u ∈ us, UFit n (M u) W u) → (∀ u ∈ us, UFit n (M u) V u) → colS (bendG L W M us Xs) c * V = colS (bendG L V M us Xs) c * W
  | [], _, _ => by show (0 : Int) * V = 0 * W; rw [Int.zero_mul, Int.zero_mul]
  | u :: us, h1, h2 => by
    have ih := bendG_scale (L := L) (Xs := Xs) c (us := us) (fun v hv => h1 v (List.mem_cons_of_mem _ hv)) fun v hv => h2 v (List.mem_cons_of_mem _ hv)
    have d1 := (h1 u List.mem_cons_self).divU
    have d2 := (h2 u List.mem_cons_self).divU
    rw [bendG_cons, bendG_cons, colS_app, colS_app, Int.add_mul, Int.add_mul, ih, giftI_eq, giftI_eq, giftZ_scale c d1 d2]
/-- the columns that are read are k times what they were: so is the bend's gift -/
theorem sumE_free {Xs Ys : List Int} {k M : Int} : ∀ {es : List (Nat × Fr)}, (∀ p ∈ es, Ys.getD p.1 0 = Xs.getD p.1 0 * k) → sumE Ys M es = sumE Xs M es * k
  | [], _ => by show (0 : Int) = 0 * k; rw [Int.zero_mul]
  | p :: es, h => by
    have ih := sumE_free (M := M) (es := es) fun q hq => h q (List.mem_cons_of_mem _ hq)
    show Ys.getD p.1 0 * num M p.2 + sumE Ys M es = (Xs.getD p.1 0 * num M p.2 + sumE Xs M es) * k
    rw [ih, h p List.mem_cons_self, Int.add_mul]
    simp only [Int.mul_assoc, Int.mul_comm, Int.mul_left_comm]
theorem zI_free {L M k : Int} {Xs Ys : List Int} {u : Un} (h : ∀ p ∈ u.terms, Ys.getD p.1 0 = Xs.getD p.1 0 * k) : zI (L * k) M Ys u = zI L M Xs u * k := by
  unfold zI
  rw [sumE_free h, Int.add_mul]
  simp only [Int.mul_assoc]
theorem bendG_free {L W k : Int} {M : Un → Int} {Xs Ys : List Int} (hk : 0 < k) (c : Nat) : ∀ {us : List Un}, (∀ u ∈ us, ∀ p ∈ u.terms, Ys.getD p.1 0 = Xs.getD p.1 0 * k) → colS (bendG (L * k) W M us Ys) c = colS (bendG L W M us Xs) c * k
  | [], _ => by show (0 : Int) = 0 * k; rw [Int.zero_mul]
  | u :: us, h => by
    have ih := bendG_free (L := L) (W := W) (M := M) hk c (us := us) fun v hv => h v (List.mem_cons_of_mem _ hv)
    rw [bendG_cons, bendG_cons, colS_app, colS_app, ih, giftI_eq, giftI_eq, zI_free (h u List.mem_cons_self), giftZ_z hk, Int.add_mul]
theorem bendR_get {L W : Int} {M : Un → Int} {us : List Un} {Xs : List Int} {c : Nat} (h : c < Xs.length) : (bendR L W M us Xs).getD c 0 = Xs.getD c 0 * W + colS (bendG L W M us Xs) c := by
  unfold bendR
  rw [foldG_get (by rw [List.length_map]; exact h), List.getD_eq_getElem?_getD, List.getElem?_map, List.getD_eq_getElem?_getD, List.getElem?_eq_getElem h]
  rfl
/-- all at once, or in two parts of which the second reads nothing that the first has changed -/
theorem bend_two {n : Nat} {L W W1 W2 : Int} {M : Un → Int} {us vs : List Un} {Xs : List Int} (h0 : ∀ u ∈ us ++ vs, UFit n (M u) W u) (h1 : ∀ u ∈ us, UFit n (M u) W1 u) (h2 : ∀ u ∈ vs, UFit n (M u) W2 u) (w1 : 0 < W1)
    (hf : ∀ u ∈ vs, ∀ p ∈ u.terms, (bendR L W1 M us Xs).getD p.1 0 = Xs.getD p.1 0 * W1) {c : Nat} (hc : c < Xs.length) :
    (bendR L W M (us ++ vs) Xs).getD c 0 * (W1 * W2) = (bendR (L * W1) W2 M vs (bendR L W1 M us Xs)).getD c 0 * W := by
  rw [bendR_get hc, bendR_get (by rw [bendR_len]; exact hc), bendR_get hc, bendG_app, colS_app, bendG_free w1 c hf]
  have a := bendG_scale (L := L) (Xs := Xs) c (fun u hu => h0 u (List.mem_append_left _ hu)) h1
  have b := bendG_scale (L := L) (Xs := Xs) c (fun u hu => h0 u (List.mem_append_right _ hu)) h2
  generalize colS (bendG L W M us Xs) c = A at *
  generalize colS (bendG L W1 M us Xs) c = A1 at *
  generalize colS (bendG L W M vs Xs) c = B at *
  generalize colS (bendG L W2 M vs Xs) c = B2 at *
  generalize Xs.getD c 0 = X
  have e1 : (X * W + (A + B)) * (W1 * W2) = X * W * W1 * W2 + (A * W1) * W2 + (B * W2) * W1 := by
    simp only [Int.add_mul, Int.mul_add, Int.mul_assoc, Int.mul_comm, Int.mul_left_comm, Int.add_assoc]
  have e2 : ((X * W1 + A1) * W2 + B2 * W1) * W = X * W * W1 * W2 + (A1 * W) * W2 + (B2 * W) * W1 := by
    simp only [Int.add_mul, Int.mul_add, Int.mul_assoc, Int.mul_comm, Int.mul_left_comm, Int.add_assoc]
  rw [e1, e2, a, b]
end LK

set_option Elab.async false
set_option linter.all false
set_option maxRecDepth 100000
namespace LK
open PySem PySem.Spec PyProof.Rows L2
local macro_rules | `(tactic| walk_at "rs") => `(tactic| simp only [cxK, cxNK, tCallZ, tAsg, tOp, rI0, rS0, rB0, rI, rU, tUn, rEq, rNe, rIxL, rIxT, rIxS, rSetL, rSlLU, rSlS, rSlU, rCatL, rCatU, rRepL, rIn, tVar, tC, gName, gSub, tIfS, tTest, tB, tAnd, tOr, tNot, tNotV, tAndV, tOrV, tIf, tCall, tCons, tNil, tCB, tDrop, tRet, tRetN, tNext, tLstU, tTupU, tM0, tM1, tPar, tPar3, tAug, ipI, tBM, tBM0, rAppend, rPop, tBreak, tCont, tChain, tSl, tPart, tNoPart, L2.start, List.map, List.length_cons, List.length_nil, List.replicate, List.cons_append, List.nil_append, List.append_nil, List.getElem?_cons_zero, List.getElem?_cons_succ, List.set_cons_zero, List.set_cons_succ, Option.some.injEq, V.int.injEq, V.ref.injEq, V.str.injEq, V.bl.injEq, exists_eq_left', exists_eq_left, exists_and_left, decide_eq_true_eq, List.cons.injEq, and_true, true_and, scal, Bool.not_eq_true', decide_eq_false_iff_not, Nat.zero_add, Nat.reduceAdd, Nat.reduceSub, reduceCtorEq, false_and, exists_false, false_or, or_false, CPow, CPowW, CMul, CDiv, Int.reduceToNat, ↓reduceIte, wipe, sw, List.nil_append, List.singleton_append])
local macro_rules | `(tactic| walk_at "st") => `(tactic| (refine seq_op fun N hN => ?_; walk_at "rs"))
local macro_rules | `(tactic| walk_at "sd") => `(tactic| first | assumption | decide | omega)
local macro_rules | `(tactic| walk_at "rd") => `(tactic| repeat (first
  | refine ⟨_, SqL.of (by assumption), ?_⟩ | refine ⟨_, SqL.of upd_same, ?_⟩ | refine ⟨_, .inl (SqL.of (by assumption)), ?_⟩ | refine ⟨_, (by assumption : _ = some (HO.lst _)), ?_⟩ | refine ⟨_, upd_same, ?_⟩
  | refine ⟨_, rfl, ?_⟩ | refine And.intro (by walk_at "sd") ?_))

theorem dp_kitD {K : PySem.W.Frag} {H : Hp} {v : V} {d : PyData} (h : Dp K H v d) : PySem.W.kitOne K (.type (tyN d)) (.type "dict") = some false := by
  refine kit_ty ?_
  cases h <;> (simp only [tyN]; decide +kernel)
theorem call_isiDT3 {X : Cx} : CallR X (.builtin "isinstance") (fun xs H Q => ∃ x tp d, xs = [x, .ref tp] ∧ H tp = some (.tup [.ty "list", .ty "tuple", .ty "dict"]) ∧ Dp X.K H x d ∧ Q (.bl (isTy "list" d || isTy "tuple" d)) H) := cr_imp call_isiT fun xs H Q h => by
  obtain ⟨x, tp, d, rfl, ht, hd, q⟩ := h
  refine ⟨x, tp, _, .type (tyN d), [.type "list", .type "tuple", .type "dict"], _, rfl, ht, .cons (.ty _) (.cons (.ty _) (.cons (.ty _) .nil)), dp_ty hd, ?_, q⟩
  have h1 := dp_kit hd (T := "list") (by simp)
  have h2 := dp_kit hd (T := "tuple") (by simp)
  have h3 := dp_kitD hd
  unfold PySem.W.kitAny PySem.W.kitAny PySem.W.kitAny PySem.W.kitAny
  rw [h1, h2, h3]
  cases isTy "list" d <;> cases isTy "tuple" d <;> rfl
theorem dep_tup (ds : List PyData) : dep (.tuple ds) = depAll ds + 1 := rfl
theorem dep_lst (ds : List PyData) : dep (.list ds) = depAll ds + 1 := rfl
theorem depAll_get : ∀ {ds : List PyData} {i : Nat} {d : PyData}, ds[i]? = some d → dep d ≤ depAll ds
  | [], _, _, e => by simp at e
  | a :: r, 0, _, e => by simp at e; subst e; exact Nat.le_max_left _ _
  | a :: r, i + 1, _, e => Nat.le_trans (depAll_get (ds := r) (i := i) (by simpa using e)) (Nat.le_max_right _ _)
theorem dpa_get4 {K : PySem.W.Frag} {H : Hp} : ∀ {vs : List V} {ds : List PyData} {i : Nat} {v : V}, DpAll K H vs ds → vs[i]? = some v → ∃ d, ds[i]? = some d ∧ Dp K H v d
  | _, _, _, _, .nil, e => by simp at e
  | _, _, 0, _, .cons r _, e => by simp at e; subst e; exact ⟨_, rfl, r⟩
  | _, _, i + 1, _, .cons _ t, e => by
    obtain ⟨d, h1, h2⟩ := dpa_get4 (i := i) t (by simpa using e)
    exact ⟨d, by simpa using h1, h2⟩
theorem dpa_len4 {K : PySem.W.Frag} {H : Hp} : ∀ {vs : List V} {ds : List PyData}, DpAll K H vs ds → vs.length = ds.length
  | _, _, .nil => rfl
  | _, _, .cons _ t => by simp [dpa_len4 t]
theorem ok_get4 : ∀ {ds : List PyData} {i : Nat} {d : PyData}, okAll ds = true → ds[i]? = some d → okD d = true
  | [], _, _, _, e => by simp at e
  | a :: r, 0, _, h, e => by
    simp at e; subst e
    unfold okAll at h; rw [Bool.and_eq_true] at h; exact h.1
  | a :: r, i + 1, _, h, e => by
    unfold okAll at h; rw [Bool.and_eq_true] at h
    exact ok_get4 (i := i) h.2 (by simpa using e)
theorem isTy_leaf {d : PyData} (h1 : ∀ ds, d ≠ .list ds) (h2 : ∀ ds, d ≠ .tuple ds) : isTy "list" d = false ∧ isTy "tuple" d = false := by
  cases d <;> simp [isTy] <;> first | exact absurd rfl (h1 _) | exact absurd rfl (h2 _)
theorem walk_zipT {K : PySem.W.Frag} {a b : Addr} {xs ys : List V} {n : Nat} (hx : xs.length = n) (hy : ys.length = n) : Walk (RZ.ItzT K a b) n (fun H => SqT K H a xs ∧ SqT K H b ys) (YPair (fun i => xs[i]?) (fun i => ys[i]?)) := by
  refine ⟨fun i _ hi q => ?_, fun _ q => ⟨xs, ys, q.1, q.2, by omega⟩, fun i H v H' _ q y => ?_⟩
  · have h1 : i < xs.length := by omega
    have h2 : i < ys.length := by omega
    exact ⟨xs, ys, xs[i], ys[i], q.1, q.2, by simp [h1], by simp [h2]⟩
  · obtain ⟨T, x, z, h1, h2, h3, h4, h5⟩ := y
    exact ⟨T, x, z, h1, h2, h3, h4 xs q.1, h5 ys q.2⟩
section
variable {P : Program} {w : World} {K : PySem.W.Frag} {mg : Str → Option Value} {base : Heap}
theorem like_step (T : Txt w K mg) (n : Nat) (ih : ∀ m, m + 1 = n → FnOk P w K mg base CX0 (m + 1) T.a__law_like T.d__law_like ["found", "due"] (sp__law_like K m)) : FnOk P w K mg base CX0 (n + 1) T.a__law_like T.d__law_like ["found", "due"] (sp__law_like K n) := by
  refine T.F__law_like.ok sc__law_like (fun vs H Q E h => ?_) (fun cdv A outer s H vs Q E hr h => ?_)
  · obtain ⟨v, u, d, rfl, _⟩ := h
    rfl
  · obtain ⟨v, u, d, rfl, hv, hu, hok, hdep, k⟩ := h
    have leaf : isTy "list" d = false ∧ isTy "tuple" d = false ∨ (∃ ds, (d = .list ds ∨ d = .tuple ds)) := by
      cases d <;> first | exact .inr ⟨_, .inl rfl⟩ | exact .inr ⟨_, .inr rfl⟩ | exact .inl ⟨rfl, rfl⟩
    rcases leaf with ⟨el, et⟩ | ⟨ds, hds⟩
    · refine ⟨_, (pss_cons (ps_if (pt_val (pe_callB call_isiDT (by rfl) T.n_isinstance (by decide +kernel) (pa_cons (pv 1) (pa_cons (pe_tupU (pa_cons (pe_bltn (v := .ty "list") (u := .type "list") (by rfl) T.n_list (by decide +kernel) rfl) (pa_cons (pe_bltn (v := .ty "tuple") (u := .type "tuple") (by rfl) T.n_tuple (by decide +kernel) rfl) pa_nil))) pa_nil)))) pss_never pss_nil) (pss_cons (ps_if (PW.pt (pw_or (pt_cmpR op_isN (pv 1) pe_non (nomark _)) (pw_or1 (pt_cmpR op_isN (pv 0) pe_non (nomark _))))) (pss_one (ps_ret (pe_and (pe_cmpR op_isN (pv 1) pe_non (nomark _)) (pe_one (pe_cmpR op_isN (pv 0) pe_non (nomark _)))))) pss_nil)
      (pss_cons (ps_if (PW.pt (pw_or (pt_val (pe_callB call_isiDT3 (by rfl) T.n_isinstance (by decide +kernel) (pa_cons (pv 0) (pa_cons (pe_tupU (pa_cons (pe_bltn (v := .ty "list") (u := .type "list") (by rfl) T.n_list (by decide +kernel) rfl) (pa_cons (pe_bltn (v := .ty "tuple") (u := .type "tuple") (by rfl) T.n_tuple (by decide +kernel) rfl) (pa_cons (pe_bltn (v := .ty "dict") (u := .type "dict") (by rfl) T.n_dict (by decide +kernel) rfl) pa_nil)))) pa_nil)))) (pw_or1 (pt_cmpR op_neB (pe_callB (call_isiDK (K := K) rfl) (by rfl) T.n_isinstance (by decide +kernel) (pa_cons (pv 0) (pa_cons (pe_bltn (v := .ty "bool") (u := .type "bool") (by rfl) T.n_bool (by decide +kernel) rfl) pa_nil))) (pe_callB (call_isiDK (K := K) rfl) (by rfl) T.n_isinstance (by decide +kernel) (pa_cons (pv 1) (pa_cons (pe_bltn (v := .ty "bool") (u := .type "bool") (by rfl) T.n_bool (by decide +kernel) rfl) pa_nil))) (nomark _))))) (pss_one (ps_ret pe_bl)) pss_nil)
      (pss_cons (ps_if (PW.pt (pw_or (pt_cmpR op_neB (pe_callB (call_isiDK (K := K) rfl) (by rfl) T.n_isinstance (by decide +kernel) (pa_cons (pv 0) (pa_cons (pe_bltn (v := .ty "str") (u := .type "str") (by rfl) T.n_str (by decide +kernel) rfl) pa_nil))) (pe_callB (call_isiDK (K := K) rfl) (by rfl) T.n_isinstance (by decide +kernel) (pa_cons (pv 1) (pa_cons (pe_bltn (v := .ty "str") (u := .type "str") (by rfl) T.n_str (by decide +kernel) rfl) pa_nil))) (nomark _)) (pw_or1 (pt_cmpR op_neB (pe_callB (call_isiDK (K := K) rfl) (by rfl) T.n_isinstance (by decide +kernel) (pa_cons (pv 0) (pa_cons (pe_bltn (v := .ty "int") (u := .type "int") (by rfl) T.n_int (by decide +kernel) rfl) pa_nil))) (pe_callB (call_isiDK (K := K) rfl) (by rfl) T.n_isinstance (by decide +kernel) (pa_cons (pv 1) (pa_cons (pe_bltn (v := .ty "int") (u := .type "int") (by rfl) T.n_int (by decide +kernel) rfl) pa_nil))) (nomark _))))) (pss_one (ps_ret pe_bl)) pss_nil)
      (pss_one (ps_ret (pe_cmpR op_eq (pv 0) (pv 1) (nomark _)))))))), ?_⟩
      refine seq_op fun N hN => ?_
      walk_at "rs"
      refine ⟨by decide, fun p H1 s1 h0 h1 => ⟨_, p, ⟨rfl, rfl⟩, h1, _, dp_same s1 hu, iteFF (by rw [el, et]; decide) (hN _ _ ?_)⟩⟩
      clear hN N h1
      have hv1 := dp_same s1 hv
      have hu1 := dp_same s1 hu
      have k1 := fun H' (s : Same H1 H') => k H' (Same.trans s1 s)
      refine seq_op fun N hN => ?_
      walk_at "rs"
      by_cases cn : d = .none
      · subst cn
        cases hu
        cases hv
        exact iteTT rfl (iteTT rfl (k1 H1 (Same.refl _)))
      · have vn : v ≠ .non := fun e => by subst e; cases hv; exact cn rfl
        have un : u ≠ .non := fun e => by subst e; cases hu; exact cn rfl
        refine iteFF un (iteFF vn (hN _ _ ?_))
        clear hN N
        refine seq_op fun N hN => ?_
        walk_at "rs"
        refine ⟨by decide, fun p2 H2 s2 h02 h12 => ⟨_, p2, ⟨rfl, rfl⟩, h12, _, dp_same s2 hv1, iteFF (by rw [el, et]; decide) ?_⟩⟩
        refine ⟨_, "bool", ⟨rfl, rfl⟩, _, dp_same s2 hv1, by simp, _, "bool", ⟨rfl, rfl⟩, _, dp_same s2 hu1, by simp, iteFF (by simp) (hN _ _ ?_)⟩
        clear hN N
        refine seq_op fun N hN => ?_
        walk_at "rs"
        refine ⟨_, "str", ⟨rfl, rfl⟩, _, dp_same s2 hv1, by simp, _, "str", ⟨rfl, rfl⟩, _, dp_same s2 hu1, by simp, iteFF (by simp) ?_⟩
        refine ⟨_, "int", ⟨rfl, rfl⟩, _, dp_same s2 hv1, by simp, _, "int", ⟨rfl, rfl⟩, _, dp_same s2 hu1, by simp, iteFF (by simp) (hN _ _ ?_)⟩
        clear hN N
        walk_at "rs"
        have kk := k1 H2 s2
        have fin : scal v u = true ∧ Q (.bl (decide (v = u))) H2 := by
          cases hv with
          | non => exact absurd rfl cn
          | bl b => cases hu; exact ⟨rfl, by rw [decide_eq_true rfl]; exact kk⟩
          | int b => cases hu; exact ⟨rfl, by rw [decide_eq_true rfl]; exact kk⟩
          | str b => cases hu; exact ⟨rfl, by rw [decide_eq_true rfl]; exact kk⟩
          | lst _ _ => simp [isTy] at el
          | tup _ _ => simp [isTy] at et
        exact fin
    · obtain ⟨m, rfl⟩ : ∃ m, n = m + 1 := by
        rcases hds with rfl | rfl
        · rw [dep_lst] at hdep; exact ⟨n - 1, by omega⟩
        · rw [dep_tup] at hdep; exact ⟨n - 1, by omega⟩
      have hr__law_like : Room (m + 1) _ := hr
      have G__law_like := ih m rfl
      have hdm : depAll ds ≤ m := by
        rcases hds with rfl | rfl
        · rw [dep_lst] at hdep; omega
        · rw [dep_tup] at hdep; omega
      refine ⟨_, (pss_cons (ps_if (pt_val (pe_callB call_isiDT (by rfl) T.n_isinstance (by decide +kernel) (pa_cons (pv 1) (pa_cons (pe_tupU (pa_cons (pe_bltn (v := .ty "list") (u := .type "list") (by rfl) T.n_list (by decide +kernel) rfl) (pa_cons (pe_bltn (v := .ty "tuple") (u := .type "tuple") (by rfl) T.n_tuple (by decide +kernel) rfl) pa_nil))) pa_nil)))) (pss_cons (ps_if (PW.pt (pw_or (pt_cmpR op_neB (pe_callB (call_isiDK (K := K) rfl) (by rfl) T.n_isinstance (by decide +kernel) (pa_cons (pv 0) (pa_cons (pe_bltn (v := .ty "list") (u := .type "list") (by rfl) T.n_list (by decide +kernel) rfl) pa_nil))) (pe_callB (call_isiDK (K := K) rfl) (by rfl) T.n_isinstance (by decide +kernel) (pa_cons (pv 1) (pa_cons (pe_bltn (v := .ty "list") (u := .type "list") (by rfl) T.n_list (by decide +kernel) rfl) pa_nil))) (nomark _)) (pw_or1 (pt_cmpR op_neB (pe_callB (call_isiDK (K := K) rfl) (by rfl) T.n_isinstance (by decide +kernel) (pa_cons (pv 0) (pa_cons (pe_bltn (v := .ty "tuple") (u := .type "tuple") (by rfl) T.n_tuple (by decide +kernel) rfl) pa_nil))) (pe_callB (call_isiDK (K := K) rfl) (by rfl) T.n_isinstance (by decide +kernel) (pa_cons (pv 1) (pa_cons (pe_bltn (v := .ty "tuple") (u := .type "tuple") (by rfl) T.n_tuple (by decide +kernel) rfl) pa_nil))) (nomark _))))) (pss_one (ps_ret pe_bl)) pss_nil)
      (pss_one (ps_ret (pe_and (pe_cmpR op_eqI (pe_callB call_lenD (by rfl) T.n_len (by decide +kernel) (pa_cons (pv 0) pa_nil)) (pe_callB call_lenD (by rfl) T.n_len (by decide +kernel) (pa_cons (pv 1) pa_nil)) (nomark _)) (pe_one (pe_callB (cr_all rfl) (by rfl) T.n_all (by decide +kernel) (pa_cons (pe_lc (own := [("one", 2), ("two", 3)]) (g := gTup K 2 (gCons (gName 2) (gCons (gName 3) (gNil)))) (tt := tYes) rfl sc__law_like.nd (RZ.pi_zipA (by rfl) T.n_zip (pa_cons (pv 0) (pa_cons (pv 1) pa_nil))) (blkOk_by (own := [("one", 2), ("two", 3)]) (N := N__law_like) (sc := defScope s__law_like) (by decide +kernel)) (fun _ _ _ _ _ => by exact (pg_tup rfl (pgs_cons (pg_name (i := 2) sc__law_like.nd rfl (Or.inl rfl)) (pgs_cons (pg_name (i := 3) sc__law_like.nd rfl (Or.inl rfl)) pgs_nil)))) (fun _ _ _ _ _ => pts_nil) (fun _ _ _ _ _ => (pe_call G__law_like hr__law_like (by rfl) T.m__law_like T.F__law_like.kp T.B__law_like .nil pass0 (pa_cons (pv 2) (pa_cons (pv 3) pa_nil))))) pa_nil))))))) pss_nil) pss_never), ?_⟩
      refine seq_op fun N hN => ?_
      clear hN
      walk_at "rs"
      refine ⟨by decide, fun p H1 s1 h0 h1 => ⟨_, p, ⟨rfl, rfl⟩, h1, _, dp_same s1 hu, iteTT (by rcases hds with rfl | rfl <;> simp [isTy]) ?_⟩⟩
      clear h1
      have hv1 := dp_same s1 hv
      have hu1 := dp_same s1 hu
      have k1 := fun H' (s : Same H1 H') => k H' (Same.trans s1 s)
      refine seq_op fun N2 hN2 => ?_
      walk_at "rs"
      refine ⟨_, "list", ⟨rfl, rfl⟩, _, hv1, by simp, _, "list", ⟨rfl, rfl⟩, _, hu1, by simp, iteFF (by simp) ?_⟩
      refine ⟨_, "tuple", ⟨rfl, rfl⟩, _, hv1, by simp, _, "tuple", ⟨rfl, rfl⟩, _, hu1, by simp, iteFF (by simp) (hN2 _ _ ?_)⟩
      clear hN2 N2
      walk_at "rs"
      have gm : ∀ (x : V) (σ0 : L2.St) (H0 : Hp) (Q0 Q1 : L2.St → Hp → Prop), (∀ σ2 H2, Q0 σ2 H2 → Q1 σ2 H2) → gTup K 2 (gCons (gName 2) (gCons (gName 3) gNil)) x σ0 H0 Q0 → gTup K 2 (gCons (gName 2) (gCons (gName 3) gNil)) x σ0 H0 Q1 :=
        fun x σ0 H0 Q0 Q1 h ⟨a, xs, e1, e2, e3, v, r, e4, v2, r2, e5, e6, q⟩ => ⟨a, xs, e1, e2, e3, v, r, e4, v2, r2, e5, e6, h _ _ q⟩
      have turn : ∀ {xs ys : List V} (hx : DpAll K H1 xs ds) (hy : DpAll K H1 ys ds) (i : Nat) (x : V) (H2 H' : Hp), Same H1 H2 → YPair (fun i => xs[i]?) (fun i => ys[i]?) i H2 x H' →
          gTup K 2 (gCons (gName 2) (gCons (gName 3) gNil)) x (wipe [some v, some u, none, none] [2, 3]) H' fun σ2 H3 => Same H2 H3 ∧ wipe σ2 [2, 3] = wipe [some v, some u, none, none] [2, 3] ∧ ∀ Q2 : V → Hp → Prop, (∀ H4, Same H3 H4 → Q2 (.bl true) H4) → tCall (sp__law_like K m) [] E0 (tCons (tVar 2) (tCons (tVar 3) tNil)) σ2 H3 Q2 := by
        rintro xs ys hx hy i x H2 H' s2 ⟨T0, y1, y2, rfl, hT, rfl, h1, h2⟩
        obtain ⟨d1, e1, hd1⟩ := dpa_get4 hx h1
        obtain ⟨d2, e2, hd2⟩ := dpa_get4 hy h2
        rw [e1] at e2
        cases e2
        have s3 := Same.trans s2 (same_upd (o := .tup [y1, y2]) hT)
        refine ⟨T0, [y1, y2], rfl, .inl (.inl upd_same), rfl, y1, [y2], rfl, y2, [], rfl, rfl, same_upd hT, rfl, fun Q2 hq => ?_⟩
        refine ⟨_, rfl, _, rfl, y1, y2, d1, rfl, dp_same s3 hd1, dp_same s3 hd2, ?_, Nat.le_trans (depAll_get e1) hdm, hq⟩
        refine ok_get4 ?_ e1
        rcases hds with rfl | rfl
        · exact (okD_lst.mp hok).2
        · exact (okD_tup.mp hok).2
      have fin : ∀ {D : Addr} {H' : Hp} {n : Nat}, Same H1 H' → H' D = some (.lst ((List.range n).map fun _ => V.bl true)) → rAll K [V.ref D] H' Q := by
        intro D H' n s h
        refine ⟨D, (List.range n).map fun _ => true, rfl, SqL.of (by rw [h, List.map_map]; rfl), ?_⟩
        rw [all_map_id]
        have e : ((List.range n).all fun _ => true) = true := by simp
        rw [e]
        exact k1 H' s
      refine ⟨_, hv1, .inl ⟨ds, hds, _, hu1, .inl ⟨ds, hds, iteTT rfl ?_⟩⟩⟩
      rcases hds with rfl | rfl
      · cases hv1 with
        | @lst a xs _ ha hda =>
          cases hu1 with
          | @lst b ys _ hb hdb =>
            have lx := dpa_len4 hda
            have ly := dpa_len4 hdb
            have small : ds.length ≤ 1000000 := Nat.le_trans (okD_lst.mp hok).1 (by decide)
            exact ⟨_, rfl, _, rfl, a, b, xs, ys, rfl, .inl ⟨ha, hb, fun D hD => lc_pure (walk_zip (n := ds.length) (by omega)) hD small (fun _ => .bl true) (fun H s => ⟨Same.seq s ha, Same.seq s hb⟩) (fun i x H2 H' _ s2 y => turn hda hdb i x H2 H' s2 y) gm fun H' s h => fin s h⟩⟩
      · cases hv1 with
        | @tup a xs _ ha hda =>
          cases hu1 with
          | @tup b ys _ hb hdb =>
            have lx := dpa_len4 hda
            have ly := dpa_len4 hdb
            have small : ds.length ≤ 1000000 := Nat.le_trans (okD_tup.mp hok).1 (by decide)
            exact ⟨_, rfl, _, rfl, a, b, xs, ys, rfl, .inr ⟨ha, hb, fun D hD => lc_pure (walk_zipT (n := ds.length) lx ly) hD small (fun _ => .bl true) (fun H s => ⟨Same.seqT s ha, Same.seqT s hb⟩) (fun i x H2 H' _ s2 y => turn hda hdb i x H2 H' s2 y) gm fun H' s h => fin s h⟩⟩
theorem ok__law_like (T : Txt w K mg) : ∀ n : Nat, FnOk P w K mg base CX0 (n + 1) T.a__law_like T.d__law_like ["found", "due"] (sp__law_like K n) := by
  intro n
  induction n with
  | zero => exact like_step T 0 fun m e => by omega
  | succ n ih =>
    refine like_step T (n + 1) fun m e => ?_
    obtain rfl : m = n := by omega
    exact ih
end
end LK

set_option Elab.async false
set_option linter.all false
set_option maxRecDepth 100000
namespace LK
open PySem PySem.Spec PyProof.Rows L2
local macro_rules | `(tactic| walk_at "rs") => `(tactic| simp only [cxK, cxNK, tCallZ, tAsg, tOp, rI0, rS0, rB0, rI, rU, tUn, rEq, rNe, rIxL, rIxT, rIxS, rSetL, rSlLU, rSlS, rSlU, rCatL, rCatU, rRepL, rIn, tVar, tC, gName, gSub, tIfS, tTest, tB, tAnd, tOr, tNot, tNotV, tAndV, tOrV, tIf, tCall, tCons, tNil, tCB, tDrop, tRet, tRetN, tNext, tLstU, tTupU, tM0, tM1, tPar, tPar3, tAug, ipI, tBM, tBM0, rAppend, rPop, tBreak, tCont, tChain, tSl, tPart, tNoPart, L2.start, List.map, List.length_cons, List.length_nil, List.replicate, List.cons_append, List.nil_append, List.append_nil, List.getElem?_cons_zero, List.getElem?_cons_succ, List.set_cons_zero, List.set_cons_succ, Option.some.injEq, V.int.injEq, V.ref.injEq, V.str.injEq, V.bl.injEq, exists_eq_left', exists_eq_left, exists_and_left, decide_eq_true_eq, List.cons.injEq, and_true, true_and, scal, Bool.not_eq_true', decide_eq_false_iff_not, Nat.zero_add, Nat.reduceAdd, Nat.reduceSub, reduceCtorEq, false_and, exists_false, false_or, or_false, CPow, CPowW, CMul, CDiv, Int.reduceToNat, ↓reduceIte, wipe, sw, List.nil_append, List.singleton_append])
local macro_rules | `(tactic| walk_at "st") => `(tactic| (refine seq_op fun N hN => ?_; walk_at "rs"))
local macro_rules | `(tactic| walk_at "sd") => `(tactic| first | assumption | decide | omega)
local macro_rules | `(tactic| walk_at "rd") => `(tactic| repeat (first
  | refine ⟨_, SqL.of (by assumption), ?_⟩ | refine ⟨_, SqL.of upd_same, ?_⟩ | refine ⟨_, .inl (SqL.of (by assumption)), ?_⟩ | refine ⟨_, (by assumption : _ = some (HO.lst _)), ?_⟩ | refine ⟨_, upd_same, ?_⟩
  | refine ⟨_, rfl, ?_⟩ | refine And.intro (by walk_at "sd") ?_))

theorem call_tupleNK {X : Cx} {K : PySem.W.Frag} (hK : X.K = K) : CallR X (.type "tuple") (fun xs H Q => ∃ p ys, xs = [.ref p] ∧ SqL K H p ys ∧ ∀ q H', Same H H' → H q = none → H' q = some (.tup ys) → Q (.ref q) H') := by
  subst hK
  exact call_tupleN
section
variable {P : Program} {w : World} {K : PySem.W.Frag} {mg : Str → Option Value} {base : Heap}
/-- a comprehension that draws, its items told by R -/
theorem lc_bagK {J : It} {n k N : Nat} {G : Hp → Prop} {Y : Nat → Hp → V → Hp → Prop} (w : Walk J n G Y) {te : TE} {i0 : Nat} {σ : L2.St} {H1 : Hp} {D b c : Addr} {Qd : Hp → Prop} (hD : H1 D = none) (hB : Bag (N + n * k) H1 b c) (hn : n ≤ 1000000) (R : Hp → List V → Prop)
    (keepK : ∀ M G G' ys, Bag M G b c → Kp b G G' → R G ys → R G' ys) (up : ∀ H ys zs o, H D = some (.lst zs) → R H ys → R (L2.upd H D o) ys) (r0 : ∀ H, R H []) (hY : ∀ k H x H', Y k H x H' → H' = H) (hG : ∀ H, Kp b H1 H → G H)
    (hs : ∀ x H M, Kp b H1 H → Bag (M + k) H b c → ∀ Q2 : V → Hp → Prop, (∀ v H3, Bag M H3 b c → Kp b H H3 → (∀ ys, R H3 ys → R H3 (ys ++ [v])) → Q2 v H3) → te ((wipe σ [i0]).set i0 (some x)) H Q2)
    (hq : ∀ H' ys, Bag N H' b c → Kp b H1 H' → H' D = some (.lst ys) → ys.length = n → R H' ys → Qd H') :
    ∃ W : Nat → Nat → Hp → Prop, (∃ m, W 0 m (L2.upd H1 D (.lst []))) ∧ ∀ i m H, W i m H →
      (J.stop i H ∧ Qd H) ∨ (J.go i H ∧ ∃ Nx : Hp → Prop, (∀ H', Nx H' → ∃ m', m' < m ∧ W (i + 1) m' H') ∧ ∀ x H', J.yld i H x H' → gName i0 x (wipe σ [i0]) H' fun σ2 H2 => wipe σ2 [i0] = wipe σ [i0] ∧ tYes σ2 H2 fun b H3 =>
        if b = true then te σ2 H3 fun y H4 => ∃ acc, H4 D = some (.lst acc) ∧ acc.length < sizeLine ∧ Nx (L2.upd H4 D (.lst (acc ++ [y]))) else Nx H3) := by
  obtain ⟨xb, eb⟩ := hB.at
  obtain ⟨xc, ec⟩ := hB.at2
  have nbD : b ≠ D := fun e => by rw [← e, eb] at hD; cases hD
  have ncD : c ≠ D := fun e => by rw [← e, ec] at hD; cases hD
  refine lc_it w (fun i H => Kp b H1 H ∧ Bag (N + (n - i) * k) H b c ∧ ∃ ys, H D = some (.lst ys) ∧ ys.length = i ∧ R H ys) ⟨Kp.upd2 (Kp.refl _ _) hD, hB.upd nbD ncD, [], upd_same, rfl, r0 _⟩ (fun i H _ h => hG H h.1) (fun i x H H' hi ⟨s1, B1, ys, h1, hl, hp⟩ y => ?_) (fun H ⟨s1, B1, ys, h1, hl, hp⟩ => hq H ys (B1.le (Nat.le_add_right _ _)) s1 h1 hl hp)
  obtain rfl := hY _ _ _ _ y
  refine ⟨?_, ?_⟩
  · show ((σ.set i0 none).set i0 (some x)).set i0 none = σ.set i0 none
    rw [List.set_set, List.set_set]
  · have B1' : Bag (N + (n - (i + 1)) * k + k) H' b c := B1.le (by
      have e : n - i = (n - (i + 1)) + 1 := by omega
      rw [e, Nat.add_mul, Nat.one_mul, Nat.add_assoc]; exact Nat.le_refl _)
    simp only [tYes, eq_self, ite_true]
    refine hs x H' _ s1 B1' _ fun v H3 B3 k3 st => ?_
    have hD3 := k3.hd h1 nbD.symm
    refine ⟨ys, hD3, ?_, Kp.upd2 (Same.trans s1 k3) hD, B3.upd nbD ncD, ys ++ [v], upd_same, by rw [List.length_append, hl]; rfl, up _ _ _ _ hD3 (st ys (keepK _ _ _ _ B1' k3 hp))⟩
    rw [hl]
    exact Nat.lt_of_lt_of_le (Nat.lt_of_lt_of_le hi hn) (by decide)
theorem UnitAt.kp {K : PySem.W.Frag} {N : Nat} {H H' : Hp} {b c : Addr} (B : Bag N H b c) (k : Kp b H H') {v : V} {u : Un} : UnitAt K H v u → UnitAt K H' v u := fun ⟨ua, ta, sa, ga, xs, ys, h1, h2, h3, h4, h5, h6, h7⟩ => ⟨ua, ta, sa, ga, xs, ys, h1, seqT_kp B k h2, seqT_kp B k h3, h4.kp B k, seqT_kp B k h5, seqT_kp B k h6, h7.kp B k⟩
theorem UnitAt.upd {K : PySem.W.Frag} {H : Hp} {p : Addr} {zs : List V} {o : HO} (hp : H p = some (.lst zs)) {v : V} {u : Un} : UnitAt K H v u → UnitAt K (L2.upd H p o) v u := fun ⟨ua, ta, sa, ga, xs, ys, h1, h2, h3, h4, h5, h6, h7⟩ => ⟨ua, ta, sa, ga, xs, ys, h1, seqT_upd hp h2, seqT_upd hp h3, h4.upd hp, seqT_upd hp h5, seqT_upd hp h6, h7.upd hp⟩
theorem Uns.kp {K : PySem.W.Frag} {N : Nat} {H H' : Hp} {b c : Addr} (B : Bag N H b c) (k : Kp b H H') : ∀ {xs : List V} {us : List Un}, Uns K H xs us → Uns K H' xs us
  | _, _, .nil => .nil
  | _, _, .cons h q => .cons (h.kp B k) (q.kp B k)
theorem Uns.upd {K : PySem.W.Frag} {H : Hp} {p : Addr} {zs : List V} {o : HO} (hp : H p = some (.lst zs)) : ∀ {xs : List V} {us : List Un}, Uns K H xs us → Uns K (L2.upd H p o) xs us
  | _, _, .nil => .nil
  | _, _, .cons h q => .cons (h.upd hp) (q.upd hp)
def UnsG (K : PySem.W.Frag) (n : Nat) (H : Hp) (ys : List V) : Prop := ∃ us, Uns K H ys us ∧ ∀ u ∈ us, UG n u
/-- a drawn row, as it stands in G -/
def RowD (K : PySem.W.Frag) (n : Nat) (G : Hp) (v : V) : Prop := ∃ a ys fs, v = .ref a ∧ SqT K G a ys ∧ Frs K G ys fs ∧ fs.length = n ∧ ∀ f ∈ fs, okB 2000 97 f
theorem rowD_mono {K : PySem.W.Frag} {n : Nat} (G G' : Hp) (v : V) (s : Same G G') : RowD K n G v → RowD K n G' v := fun ⟨a, ys, fs, h1, h2, h3, h4⟩ => ⟨a, ys, fs, h1, Same.seqT s h2, h3.same s, h4⟩
def FrD (K : PySem.W.Frag) (G : Hp) (v : V) : Prop := ∃ (t : Addr) (f : Fr), v = .ref t ∧ Pr K G t f.1 f.2 ∧ okB 2000 97 f
theorem frD_mono {K : PySem.W.Frag} (G G' : Hp) (v : V) (s : Same G G') : FrD K G v → FrD K G' v := fun ⟨t, f, h1, h2, h3⟩ => ⟨t, f, h1, Same.seqT s h2, h3⟩
theorem frD_all {K : PySem.W.Frag} {G : Hp} : ∀ {ys : List V}, (∀ v ∈ ys, FrD K G v) → ∃ fs, Frs K G ys fs ∧ ∀ f ∈ fs, okB 2000 97 f
  | [], _ => ⟨[], .nil, fun f hf => absurd hf (by simp)⟩
  | v :: ys, h => by
    obtain ⟨t, f, rfl, h2, h3⟩ := h v List.mem_cons_self
    obtain ⟨fs, g1, g2⟩ := frD_all (ys := ys) fun u hu => h u (List.mem_cons_of_mem _ hu)
    refine ⟨f :: fs, .cons h2 g1, fun g hg => ?_⟩
    rcases List.mem_cons.mp hg with rfl | hg
    · exact h3
    · exact g2 g hg
theorem rowD_all {K : PySem.W.Frag} {n : Nat} {G : Hp} : ∀ {ys : List V}, (∀ v ∈ ys, RowD K n G v) → ∃ fss, FRows K G ys fss ∧ ∀ fs ∈ fss, fs.length = n ∧ ∀ f ∈ fs, okB 2000 97 f
  | [], _ => ⟨[], .nil, fun f hf => absurd hf (by simp)⟩
  | v :: ys, h => by
    obtain ⟨a, zs, fs, rfl, h2, h3, h4⟩ := h v List.mem_cons_self
    obtain ⟨fss, g1, g2⟩ := rowD_all (ys := ys) fun u hu => h u (List.mem_cons_of_mem _ hu)
    refine ⟨fs :: fss, .cons h2 h3 g1, fun g hg => ?_⟩
    rcases List.mem_cons.mp hg with rfl | hg
    · exact h4
    · exact g2 g hg
theorem prodDD_le {B : Nat} : ∀ {fss : List (List Fr)}, (∀ fs ∈ fss, prodD fs ≤ B) → prodDD fss ≤ B ^ fss.length
  | [], _ => Nat.le_refl _
  | fs :: fss, h => by
    rw [List.length_cons, Nat.pow_succ']
    exact Nat.mul_le_mul (h fs List.mem_cons_self) (prodDD_le fun g hg => h g (List.mem_cons_of_mem _ hg))
theorem rows_prod {n : Nat} {fss : List (List Fr)} (h : ∀ fs ∈ fss, fs.length = n ∧ ∀ f ∈ fs, okB 2000 97 f) (l : fss.length ≤ 9) (hn : n ≤ 5) : prodDD fss ≤ 97 ^ 45 := by
  have a : prodDD fss ≤ (97 ^ 5) ^ fss.length := prodDD_le fun fs hf => by
    refine Nat.le_trans (prodD_le (B := 97) fun f hff => ((h fs hf).2 f hff).2.2.2) ?_
    rw [(h fs hf).1]
    exact Nat.pow_le_pow_right (by decide) hn
  refine Nat.le_trans a ?_
  rw [show 97 ^ 45 = (97 ^ 5) ^ 9 by decide]
  exact Nat.pow_le_pow_right (by decide) l
theorem prodUs_le {B : Nat} : ∀ {us : List Un}, (∀ u ∈ us, prodU u ≤ B) → prodUs us ≤ B ^ us.length
  | [], _ => Nat.le_refl _
  | u :: us, h => by
    rw [List.length_cons, Nat.pow_succ']
    exact Nat.mul_le_mul (h u List.mem_cons_self) (prodUs_le fun v hv => h v (List.mem_cons_of_mem _ hv))
theorem sumG_le : ∀ {us : List Un}, (∀ u ∈ us, u.giv.length ≤ 3) → (us.map fun u => u.giv.length).sum ≤ 3 * us.length
  | [], _ => Nat.le_refl _
  | u :: us, h => by
    have a := h u List.mem_cons_self
    have b := sumG_le (us := us) fun v hv => h v (List.mem_cons_of_mem _ hv)
    rw [List.map_cons, List.sum_cons, List.length_cons]
    omega
theorem rows_of {K : PySem.W.Frag} {H : Hp} {L : Int} : ∀ {rs : List V} {fss : List (List Fr)}, FRows K H rs fss → (∀ fs ∈ fss, ∀ f ∈ fs, low f ∧ f.2 ∣ L) → Rows K H L rs (partsOf L fss)
  | _, _, .nil, _ => .nil
  | _, _, .cons (fs := fs) h1 h2 q, h => .cons ⟨_, fs, h1, h2, by rw [List.length_map], fun i X f e1 e2 => by
      rw [List.getElem?_map, e2] at e1
      cases e1
      obtain ⟨⟨a, b⟩, c⟩ := h fs List.mem_cons_self f (List.mem_of_getElem? e2)
      exact num_va a b c⟩ (rows_of q fun g hg => h g (List.mem_cons_of_mem _ hg))
/-- a list that is not of the bag's form stays over draws -/
theorem seqL_kp {K : PySem.W.Frag} {N : Nat} {H H' : Hp} {b c q : Addr} {xs : List V} (B : Bag N H b c) (k : Kp b H H') (n : ∀ (p : Addr) (i : Int) (ys : List V), xs ≠ .ref p :: .int i :: ys) (h : SqL K H q xs) : SqL K H' q xs := by
  obtain ⟨cells, i, g, m, d, hb1, _⟩ := B
  rcases h with (h | ⟨u, h⟩) | h
  · have ne : q ≠ b := fun e => by
      rw [e, hb1] at h
      cases h
      exact n _ _ _ rfl
    exact .inl (.inl (k.hd h ne))
  · have ne : q ≠ b := fun e => by rw [e, hb1] at h; cases h
    exact .inl (.inr ⟨u, k.hd h ne⟩)
  · exact .inr h
theorem Parts.kp {K : PySem.W.Frag} {N : Nat} {H H' : Hp} {b c : Addr} (B : Bag N H b c) (k : Kp b H H') : ∀ {xs : List V} {Xss : List (List Int)}, Parts K H xs Xss → Parts K H' xs Xss
  | _, _, .nil => .nil
  | _, _, .cons (Xs := Xs) h q => .cons (seqL_kp B k (fun p i ys e => by cases Xs <;> cases e) h) (q.kp B k)
theorem StateAt.kp {K : PySem.W.Frag} {N : Nat} {H H' : Hp} {b c : Addr} (B : Bag N H b c) (k : Kp b H H') {v : V} {L : Int} {Xss : List (List Int)} : StateAt K H v L Xss → StateAt K H' v L Xss := fun ⟨sa, pa, ps, h1, h2, h3, h4⟩ => ⟨sa, pa, ps, h1, seqT_kp B k h2, seqL_kp B k (fun p i ys e => by
  subst e
  cases h4 with
  | cons _ q => cases q) h3, h4.kp B k⟩
/-- rows as data -/
def dRow (fs : List Fr) : PyData := .tuple (fs.map fun f => .tuple [.int f.1, .int f.2])
def dRows (fss : List (List Fr)) : PyData := .list (fss.map dRow)
theorem ok_all {ds : List PyData} (h : ∀ d ∈ ds, okD d = true) : okAll ds = true := by
  induction ds with
  | nil => rfl
  | cons d ds ih =>
    show (okD d && okAll ds) = true
    rw [h d List.mem_cons_self, ih fun e he => h e (List.mem_cons_of_mem _ he)]
    rfl
theorem dep_all {n : Nat} {ds : List PyData} (h : ∀ d ∈ ds, dep d ≤ n) : depAll ds ≤ n := by
  induction ds with
  | nil => exact Nat.zero_le _
  | cons d ds ih => exact Nat.max_le.mpr ⟨h d List.mem_cons_self, ih fun e he => h e (List.mem_cons_of_mem _ he)⟩
theorem okD_row {fs : List Fr} (l : fs.length ≤ 1000) : okD (dRow fs) = true ∧ dep (dRow fs) ≤ 2 := by
  constructor
  · refine okD_tup.mpr ⟨by rw [List.length_map]; omega, ok_all fun d hd => ?_⟩
    obtain ⟨f, _, rfl⟩ := List.mem_map.mp hd
    rfl
  · refine Nat.succ_le_succ (dep_all fun d hd => ?_)
    obtain ⟨f, _, rfl⟩ := List.mem_map.mp hd
    exact Nat.le_refl 1
theorem okD_rows {fss : List (List Fr)} (l : fss.length ≤ 1000) (h : ∀ fs ∈ fss, fs.length ≤ 1000) : okD (dRows fss) = true ∧ dep (dRows fss) ≤ 4 := by
  constructor
  · refine okD_lst.mpr ⟨by rw [List.length_map]; omega, ok_all fun d hd => ?_⟩
    obtain ⟨fs, hf, rfl⟩ := List.mem_map.mp hd
    exact (okD_row (h fs hf)).1
  · refine Nat.succ_le_succ (dep_all fun d hd => ?_)
    obtain ⟨fs, hf, rfl⟩ := List.mem_map.mp hd
    exact Nat.le_trans (okD_row (h fs hf)).2 (by decide)
theorem FRows.dp {K : PySem.W.Frag} {H : Hp} : ∀ {xs : List V} {fss : List (List Fr)}, FRows K H xs fss → DpAll K H xs (fss.map dRow)
  | _, _, .nil => .nil
  | _, _, .cons h h2 q => .cons (.tup h h2.dp) q.dp

end
theorem Ens.take {K : PySem.W.Frag} {H : Hp} : ∀ {xs : List V} {es : List (Nat × Fr)} (n : Nat), Ens K H xs es → Ens K H (xs.take n) (es.take n)
  | _, _, 0, _ => .nil
  | _, _, _ + 1, .nil => .nil
  | _, _, n + 1, .cons h h2 q => .cons h h2 (q.take n)
theorem Ens.drop {K : PySem.W.Frag} {H : Hp} : ∀ {xs : List V} {es : List (Nat × Fr)} (n : Nat), Ens K H xs es → Ens K H (xs.drop n) (es.drop n)
  | _, _, 0, h => h
  | _, _, _ + 1, .nil => .nil
  | _, _, n + 1, .cons _ _ q => q.drop n
theorem Ens.rev {K : PySem.W.Frag} {H : Hp} : ∀ {xs : List V} {es : List (Nat × Fr)}, Ens K H xs es → Ens K H xs.reverse es.reverse
  | _, _, .nil => .nil
  | _, _, .cons h h2 q => by rw [List.reverse_cons, List.reverse_cons]; exact q.rev.app (.cons h h2 .nil)
theorem Uns.rev {K : PySem.W.Frag} {H : Hp} : ∀ {xs : List V} {us : List Un}, Uns K H xs us → Uns K H xs.reverse us.reverse
  | _, _, .nil => .nil
  | _, _, .cons h q => by rw [List.reverse_cons, List.reverse_cons]; exact q.rev.app (.cons h .nil)
theorem parts3_snoc : ∀ {us : List Un} {ks : List Nat} {u : Un} {k : Nat}, us.length = ks.length → parts3 (us ++ [u]) (ks ++ [k]) = parts3 us ks ++ part3 u k
  | [], [], u, k, _ => by show part3 u k ++ [] = [] ++ part3 u k; rw [List.append_nil, List.nil_append]
  | a :: us, b :: ks, u, k, h => by
    show part3 a b ++ parts3 (us ++ [u]) (ks ++ [k]) = (part3 a b ++ parts3 us ks) ++ part3 u k
    rw [parts3_snoc (by simpa using h), List.append_assoc]
  | [], _ :: _, _, _, h => by cases h
  | _ :: _, [], _, _, h => by cases h
theorem parts3_len : ∀ {us : List Un} {ks : List Nat}, us.length = ks.length → (parts3 us ks).length = 3 * us.length
  | [], [], _ => rfl
  | a :: us, b :: ks, h => by
    show (part3 a b ++ parts3 us ks).length = _
    rw [List.length_append, parts3_len (by simpa using h), List.length_cons]
    show 3 + 3 * us.length = _
    omega
  | [], _ :: _, h => by cases h
  | _ :: _, [], h => by cases h
theorem parts3_mem : ∀ {us : List Un} {ks : List Nat} {v : Un}, v ∈ parts3 us ks → ∃ u ∈ us, ∃ k, v ∈ part3 u k
  | a :: us, b :: ks, v, h => by
    rcases List.mem_append.mp (show v ∈ part3 a b ++ parts3 us ks from h) with h | h
    · exact ⟨a, List.mem_cons_self, b, h⟩
    · obtain ⟨u, hu, k, hk⟩ := parts3_mem h
      exact ⟨u, List.mem_cons_of_mem _ hu, k, hk⟩
  | [], _, _, h => by cases h
  | _ :: _, [], _, h => by cases h
theorem part3_fit {n : Nat} {W : Int} {u v : Un} {k : Nat} (b : UB n u) (f : UFit n (inner u) W u) (h : v ∈ part3 u k) : UFit n (inner v) W v := by
  unfold part3 at h
  simp only [List.mem_cons, List.not_mem_nil, or_false] at h
  rcases h with rfl | rfl | rfl
  · exact ⟨f.M0, f.M1, f.W0, f.W1, f.terms, f.sl, f.sd, f.sb, by
      show (u.giv.drop k).length ≤ 100
      have := f.gl
      rw [List.length_drop]; omega, fun p hp => f.giv p (List.mem_of_mem_drop hp)⟩
  · have e : inner ⟨u.terms.reverse, u.shift, u.giv.take k⟩ = inner u := den1_rev b _
    refine ⟨by rw [e]; exact f.M0, by rw [e]; exact f.M1, f.W0, f.W1, ?_, f.sl, by rw [e]; exact f.sd, by rw [e]; exact f.sb, by
      show (u.giv.take k).length ≤ 100
      have := f.gl
      rw [List.length_take]; omega, fun p hp => ?_⟩
    · rw [e]
      exact ⟨by show u.terms.reverse.length ≤ 100; rw [List.length_reverse]; exact f.terms.1, fun p hp => f.terms.2 p (List.mem_reverse.mp hp)⟩
    · rw [e]
      exact f.giv p (List.mem_of_mem_take hp)
  · exact ⟨f.M0, f.M1, f.W0, f.W1, f.terms, f.sl, f.sd, f.sb, Nat.zero_le _, fun p hp => by cases hp⟩
theorem parts3_fit {n : Nat} {W : Int} {us : List Un} {ks : List Nat} (h : ∀ u ∈ us, UB n u) (uf : ∀ u ∈ us, UFit n (inner u) W u) (l : us.length = ks.length) (l6 : us.length ≤ 6) (g3 : ∀ u ∈ us, u.giv.length ≤ 3) (w0 : 0 < W) (w1 : W.natAbs < 2 ^ 800) : UsFit n inner W (parts3 us ks) := by
  have pl := parts3_len l
  refine ⟨fun v hv => ?_, by omega, ?_, w0, w1⟩
  · obtain ⟨u, hu, k, hk⟩ := parts3_mem hv
    exact part3_fit (h u hu) (uf u hu) hk
  · refine Nat.le_trans (sumG_le fun v hv => ?_) (show 3 * (parts3 us ks).length ≤ 600 by omega)
    obtain ⟨u, hu, k, hk⟩ := parts3_mem hv
    have := g3 u hu
    unfold part3 at hk
    simp only [List.mem_cons, List.not_mem_nil, or_false] at hk
    rcases hk with rfl | rfl | rfl
    · show (u.giv.drop k).length ≤ 3
      rw [List.length_drop]; omega
    · show (u.giv.take k).length ≤ 3
      rw [List.length_take]; omega
    · exact Nat.zero_le _
theorem RowV.uniq {L : Int} {Xs : List Int} {fs gs : List Fr} (hL : 0 < L) (h : RowV L Xs fs) (h' : RowV L Xs gs) : fs = gs := by
  refine List.ext_getElem (by rw [← h.1, h'.1]) fun i h1 h2 => ?_
  have hi : i < Xs.length := by rw [h.1]; exact h1
  exact Va.uniq hL (h.2 i Xs[i] fs[i] (List.getElem?_eq_getElem hi) (List.getElem?_eq_getElem h1)) (h'.2 i Xs[i] gs[i] (List.getElem?_eq_getElem hi) (List.getElem?_eq_getElem h2))
/-- rows of the same parts are the same fractions -/
theorem Rows.two {K : PySem.W.Frag} {H H' : Hp} {L : Int} (hL : 0 < L) : ∀ {xs ys : List V} {Xss : List (List Int)}, Rows K H L xs Xss → Rows K H' L ys Xss → ∃ fss, FRows K H xs fss ∧ FRows K H' ys fss ∧ fss.length = Xss.length ∧ ∀ fs ∈ fss, ∃ Xs ∈ Xss, Xs.length = fs.length
  | _, _, _, .nil, .nil => ⟨[], .nil, .nil, rfl, fun fs h => absurd h (by simp)⟩
  | _, _, _, .cons ⟨as, fs, h1, h2, h3⟩ q, .cons ⟨bs, gs, g1, g2, g3⟩ r => by
    obtain ⟨fss, a, b, c, d⟩ := Rows.two hL q r
    obtain rfl := h3.uniq hL g3
    refine ⟨fs :: fss, .cons h1 h2 a, .cons g1 g2 b, congrArg Nat.succ c, fun ks hk => ?_⟩
    rcases List.mem_cons.mp hk with rfl | hk
    · exact ⟨_, List.mem_cons_self, h3.1⟩
    · obtain ⟨Xs, hX, e⟩ := d ks hk
      exact ⟨Xs, List.mem_cons_of_mem _ hX, e⟩
/-! bounds of a bend's rows -/
theorem sum_lim {A B : Nat} {Xs : List Int} {M : Int} (hX : ∀ X ∈ Xs, X.natAbs < 2 ^ A) : ∀ {es : List (Nat × Fr)}, (∀ p ∈ es, (num M p.2).natAbs < 2 ^ B) → (sumE Xs M es).natAbs < 2 ^ (A + B + es.length)
  | [], _ => Nat.two_pow_pos _
  | p :: es, h => by
    have g : (Xs.getD p.1 0).natAbs < 2 ^ A := by
      rw [List.getD_eq_getElem?_getD]
      cases e : Xs[p.1]? with
      | none => exact Nat.two_pow_pos _
      | some X => exact hX X (List.mem_of_getElem? e)
    have ih := sum_lim (A := A) (B := B) hX (es := es) fun q hq => h q (List.mem_cons_of_mem _ hq)
    have a : (Xs.getD p.1 0 * num M p.2).natAbs < 2 ^ (A + B) := wide_lt g (h p List.mem_cons_self)
    show (Xs.getD p.1 0 * num M p.2 + sumE Xs M es).natAbs < _
    have := two_add (pow_le a (b := A + B + es.length) (by omega)) ih
    rw [List.length_cons, ← Nat.add_assoc]
    exact this
theorem gI_lim {W M Z : Int} {f : Fr} {a b c : Nat} (hZ : Z.natAbs < 2 ^ a) (hf : f.1.natAbs < 2 ^ b) (hW : W.natAbs < 2 ^ c) : (gI W M Z f).natAbs < 2 ^ (a + (b + c)) := wide_lt hZ (wide_lt hf (Nat.lt_of_le_of_lt (Int.natAbs_ediv_le_natAbs _ _) hW))
theorem inner_lim {n : Nat} {u : Un} (g : UG n u) : (inner u).natAbs < 2 ^ 100 := by
  obtain ⟨a1, _, a3⟩ := comI_spec g.ub.d1
  exact Nat.lt_of_le_of_lt a3 g.ub.pb
theorem zI_lim {n : Nat} {L : Int} {Xs : List Int} {u : Un} (g : UG n u) (lL : L.natAbs < 2 ^ 391) (hX : ∀ X ∈ Xs, X.natAbs < 2 ^ 451) : (zI L (inner u) Xs u).natAbs < 2 ^ 566 := by
  have il := inner_lim g
  have a : (num (inner u) u.shift * L).natAbs < 2 ^ (60 + 100 + 391) := wide_lt (num_bound il (Nat.lt_of_le_of_lt g.sf (by decide))) lL
  have b := sum_lim (A := 451) (B := 11 + 100) hX (es := u.terms) fun p hp => num_bound il (Nat.lt_of_le_of_lt (g.tf p hp) (by decide))
  have l := g.tl
  exact two_add (a := 565) (pow_le a (by decide)) (pow_le b (by omega))
theorem bend_lim {n : Nat} {L W : Int} {us : List Un} {Xs : List Int} (lL : L.natAbs < 2 ^ 391) (hX : ∀ X ∈ Xs, X.natAbs < 2 ^ 451) (hg : ∀ u ∈ us, UG n u) (l6 : us.length ≤ 6) (hW : W.natAbs < 2 ^ 601) : ∀ X ∈ bendR L W inner us Xs, X.natAbs < 2 ^ 1200 := by
  intro X hx
  have gl := bendG_len L W inner Xs us
  have gs : (us.map fun u => u.giv.length).sum ≤ 3 * us.length := sumG_le fun u hu => (hg u hu).gl
  have := foldG_bound (k := 1178) (i := 1178) (gi := bendG L W inner us Xs) (Xs := Xs.map (· * W)) (Nat.le_refl _) (fun X hX' => by
    obtain ⟨Z, hZ, rfl⟩ := List.mem_map.mp hX'
    exact pow_le (wide_lt (hX Z hZ) hW) (by decide)) (fun p hp => by
    obtain ⟨u, hu, hp⟩ := List.mem_flatMap.mp hp
    unfold giftI at hp
    split at hp
    · obtain ⟨q, hq, rfl⟩ := List.mem_map.mp hp
      exact pow_le (gI_lim (zI_lim (hg u hu) lL hX) (b := 11) (Nat.lt_of_le_of_lt ((hg u hu).gf q hq) (by decide)) hW) (by decide)
    · cases hp) X hx
  exact pow_le this (by omega)
theorem prodDD_set {B C : Nat} (hC : 1 ≤ C) : ∀ {fss : List (List Fr)} {k : Nat} {g : List Fr}, (∀ fs ∈ fss, prodD fs ≤ B) → prodD g ≤ B * C → prodDD (fss.set k g) ≤ B ^ fss.length * C
  | [], _, _, _, _ => by show 1 ≤ 1 * C; omega
  | fs :: fss, 0, g, h, hg => by
    show prodD g * prodDD fss ≤ _
    rw [List.length_cons, Nat.pow_succ', Nat.mul_assoc, Nat.mul_comm (B ^ fss.length) C, ← Nat.mul_assoc]
    exact Nat.mul_le_mul hg (prodDD_le fun f hf => h f (List.mem_cons_of_mem _ hf))
  | fs :: fss, k + 1, g, h, hg => by
    show prodD fs * prodDD (fss.set k g) ≤ _
    rw [List.length_cons, Nat.pow_succ', Nat.mul_assoc]
    exact Nat.mul_le_mul (h fs List.mem_cons_self) (prodDD_set hC (fun f hf => h f (List.mem_cons_of_mem _ hf)) hg)
theorem FRows.upd2 {K : PySem.W.Frag} {H : Hp} {p : Addr} {zs : List V} {o : HO} (hp : H p = some (.lst zs)) : ∀ {xs : List V} {fss : List (List Fr)}, FRows K H xs fss → FRows K (L2.upd H p o) xs fss
  | _, _, .nil => .nil
  | _, _, .cons h h2 q => .cons (seqT_upd hp h) (h2.upd hp) (q.upd2 hp)
theorem FRows.set {K : PySem.W.Frag} {H : Hp} {a : Addr} {ys : List V} {fs : List Fr} (h1 : SqT K H a ys) (h2 : Frs K H ys fs) : ∀ {xs : List V} {fss : List (List Fr)} (k : Nat), FRows K H xs fss → FRows K H (xs.set k (.ref a)) (fss.set k fs)
  | _, _, _, .nil => .nil
  | _, _, 0, .cons _ _ q => .cons h1 h2 q
  | _, _, k + 1, .cons g1 g2 q => .cons g1 g2 (q.set h1 h2 k)
end LK

set_option Elab.async false
set_option linter.all false
set_option maxRecDepth 100000
namespace LK
open PySem PySem.Spec PyProof.Rows L2
local macro_rules | `(tactic| walk_at "rs") => `(tactic| simp only [cxK, cxNK, tCallZ, tAsg, tOp, rI0, rS0, rB0, rI, rU, tUn, rEq, rNe, rIxL, rIxT, rIxS, rSetL, rSlLU, rSlS, rSlU, rCatL, rCatU, rRepL, rIn, tVar, tC, gName, gSub, tIfS, tTest, tB, tAnd, tOr, tNot, tNotV, tAndV, tOrV, tIf, tCall, tCons, tNil, tCB, tDrop, tRet, tRetN, tNext, tLstU, tTupU, tM0, tM1, tPar, tPar3, tAug, ipI, tBM, tBM0, rAppend, rPop, tBreak, tCont, tChain, tSl, tPart, tNoPart, L2.start, List.map, List.length_cons, List.length_nil, List.replicate, List.cons_append, List.nil_append, List.append_nil, List.getElem?_cons_zero, List.getElem?_cons_succ, List.set_cons_zero, List.set_cons_succ, Option.some.injEq, V.int.injEq, V.ref.injEq, V.str.injEq, V.bl.injEq, exists_eq_left', exists_eq_left, exists_and_left, decide_eq_true_eq, List.cons.injEq, and_true, true_and, scal, Bool.not_eq_true', decide_eq_false_iff_not, Nat.zero_add, Nat.reduceAdd, Nat.reduceSub, reduceCtorEq, false_and, exists_false, false_or, or_false, CPow, CPowW, CMul, CDiv, Int.reduceToNat, ↓reduceIte, wipe, sw, List.nil_append, List.singleton_append])
local macro_rules | `(tactic| walk_at "st") => `(tactic| (refine seq_op fun N hN => ?_; walk_at "rs"))
local macro_rules | `(tactic| walk_at "sd") => `(tactic| first | assumption | decide | omega)
local macro_rules | `(tactic| walk_at "rd") => `(tactic| repeat (first
  | refine ⟨_, SqL.of (by assumption), ?_⟩ | refine ⟨_, SqL.of upd_same, ?_⟩ | refine ⟨_, .inl (SqL.of (by assumption)), ?_⟩ | refine ⟨_, (by assumption : _ = some (HO.lst _)), ?_⟩ | refine ⟨_, upd_same, ?_⟩
  | refine ⟨_, rfl, ?_⟩ | refine And.intro (by walk_at "sd") ?_))

section
variable {P : Program} {w : World} {K : PySem.W.Frag} {mg : Str → Option Value} {base : Heap}
def sp_law (K : PySem.W.Frag) : Sp := fun vs H Q _ => ∃ (a : Addr) (ns : List Int), vs = [.ref a] ∧ SqL K H a (ns.map V.int) ∧ ns.length ≤ 63 ∧ ∀ H', Q (.bl true) H'
abbrev cxLaw (P : Program) (w : World) (K : PySem.W.Frag) (mg : Str → Option Value) (base : Heap) (f : Addr) (cdv : Value) (A : Around) (outer : List Env) (s : Shared) (H : Hp) (E : XK) : Cx := (cxOf CX0 P w K mg base N_law "law" (defScope s_law) f cdv A outer s H E).nox
theorem RowOk.kp {K : PySem.W.Frag} {N : Nat} {H H' : Hp} {b c a : Addr} {L : Int} {Xs : List Int} (B : Bag N H b c) (k : Kp b H H') : RowOk K H a L Xs → RowOk K H' a L Xs := fun ⟨xs, fs, h1, h2, h3⟩ => ⟨xs, fs, seqT_kp B k h1, h2.kp B k, h3⟩
theorem Rows.kp {K : PySem.W.Frag} {N : Nat} {H H' : Hp} {b c : Addr} {L : Int} (B : Bag N H b c) (k : Kp b H H') : ∀ {xs : List V} {Xss : List (List Int)}, Rows K H L xs Xss → Rows K H' L xs Xss
  | _, _, .nil => .nil
  | _, _, .cons h q => .cons (h.kp B k) (q.kp B k)
/-- what is known behind the first bend -/
structure Kn (K : PySem.W.Frag) (H : Hp) (b D D2 hd kp : Addr) (sv : V) (n : Nat) (rs zs ts : List V) (fss : List (List Fr)) (us : List Un) (L W : Int) : Prop where
  n2 : 2 ≤ n
  n5 : n ≤ 5
  hD : H D = some (.lst rs)
  hh : H hd = some (.lst rs)
  hU : H D2 = some (.lst zs)
  hk : H kp = some (.lst ts)
  nD : D ≠ b
  nh : hd ≠ b
  nU : D2 ≠ b
  nk : kp ≠ b
  fr : FRows K H rs fss
  rg : RowsG n fss
  l9 : fss.length ≤ 9
  un : Uns K H zs us
  ug : ∀ u ∈ us, UG n u
  l6 : us.length ≤ 6
  st : StateAt K H sv L (partsOf L fss)
  ks : Rows K H (L * W) ts ((partsOf L fss).map (bendR L W inner us))
  eW : moreF 1 us = W
  L0 : 0 < L
  lL : L.natAbs < 2 ^ 391
  Ld : ∀ fs ∈ fss, ∀ f ∈ fs, f.2 ∣ L
namespace Kn
variable {H H' : Hp} {b D D2 hd kp : Addr} {sv : V} {n : Nat} {rs zs ts : List V} {fss : List (List Fr)} {us : List Un} {L W : Int}
theorem same (q : Kn K H b D D2 hd kp sv n rs zs ts fss us L W) (s : Same H H') : Kn K H' b D D2 hd kp sv n rs zs ts fss us L W :=
  ⟨q.n2, q.n5, s _ _ q.hD, s _ _ q.hh, s _ _ q.hU, s _ _ q.hk, q.nD, q.nh, q.nU, q.nk, q.fr.same s, q.rg, q.l9, q.un.same s, q.ug, q.l6, q.st.same s, q.ks.same s, q.eW, q.L0, q.lL, q.Ld⟩
theorem bag {N : Nat} {c : Addr} (q : Kn K H b D D2 hd kp sv n rs zs ts fss us L W) (B : Bag N H b c) (k : Kp b H H') : Kn K H' b D D2 hd kp sv n rs zs ts fss us L W :=
  ⟨q.n2, q.n5, Kp.get k q.nD q.hD, Kp.get k q.nh q.hh, Kp.get k q.nU q.hU, Kp.get k q.nk q.hk, q.nD, q.nh, q.nU, q.nk, q.fr.kp B k, q.rg, q.l9, q.un.kp B k, q.ug, q.l6, q.st.kp B k, q.ks.kp B k, q.eW, q.L0, q.lL, q.Ld⟩
theorem lim (q : Kn K H b D D2 hd kp sv n rs zs ts fss us L W) : ∀ Xs ∈ partsOf L fss, Xs.length = n ∧ ∀ X ∈ Xs, X.natAbs < 2 ^ 451 := fun Xs hX => by
  obtain ⟨fs, hfs, rfl⟩ := List.mem_map.mp hX
  refine ⟨by rw [List.length_map]; exact (q.rg fs hfs).1, fun X hx => ?_⟩
  obtain ⟨f, hf, rfl⟩ := List.mem_map.mp hx
  exact num_bound (a := 391) (b := 60) q.lL (Nat.lt_of_le_of_lt ((q.rg fs hfs).2 f hf).2.2.1 (by decide))
theorem limB (q : Kn K H b D D2 hd kp sv n rs zs ts fss us L W) : ∀ Xs ∈ partsOf L fss, Xs.length = n ∧ LimR L Xs := fun Xs hX => ⟨(q.lim Xs hX).1, q.L0, pow_le q.lL (by decide), fun X hx => pow_le ((q.lim Xs hX).2 X hx) (by decide)⟩
theorem rows (q : Kn K H b D D2 hd kp sv n rs zs ts fss us L W) : Rows K H L rs (partsOf L fss) := rows_of q.fr fun fs hfs f hf => by
  obtain ⟨o1, o2, _⟩ := (q.rg fs hfs).2 f hf
  exact ⟨⟨o1, o2⟩, q.Ld fs hfs f hf⟩
theorem lp (q : Kn K H b D D2 hd kp sv n rs zs ts fss us L W) : (partsOf L fss).length ≤ 9 := by
  have := q.l9
  unfold partsOf
  rw [List.length_map]; exact this
theorem ub (q : Kn K H b D D2 hd kp sv n rs zs ts fss us L W) : ∀ u ∈ us, UB n u := fun u hu => (q.ug u hu).ub
/-- some of the units fit -/
theorem fit (q : Kn K H b D D2 hd kp sv n rs zs ts fss us L W) {vs : List Un} (hv : ∀ u ∈ vs, u ∈ us) (lv : vs.length ≤ us.length) : UsFit n inner (moreF 1 vs) vs ∧ prodUs vs < 2 ^ 601 ∧ (vs.map fun u => u.giv.length).sum ≤ 18 ∧ (moreF 1 vs).natAbs < 2 ^ 601 := by
  have l6 := q.l6
  have ub' : ∀ u ∈ vs, UB n u := fun u hu => q.ub u (hv u hu)
  have pU : prodUs vs < 2 ^ 601 := Nat.lt_of_le_of_lt (prodUs_le fun u hu => Nat.le_of_lt (q.ug u (hv u hu)).pu) (Nat.lt_of_le_of_lt (Nat.pow_le_pow_right (by decide) (show vs.length ≤ 6 by omega)) (by decide))
  have gU : (vs.map fun u => u.giv.length).sum ≤ 18 := Nat.le_trans (sumG_le fun u hu => (q.ug u (hv u hu)).gl) (by omega)
  refine ⟨ufit_of ub' (pow_le pU (by decide)) (by omega) (by omega), pU, gU, ?_⟩
  obtain ⟨_, _, _, wl⟩ := moreF_spec (m := 1) (us := vs) (by decide) ub'
  exact Nat.lt_of_le_of_lt wl (by rw [show (1 : Int).natAbs = 1 from rfl, Nat.one_mul]; exact pU)
end Kn
theorem small_bend {n : Nat} {L W : Int} {us : List Un} {Xss : List (List Int)} (h : ∀ Xs ∈ Xss, Xs.length = n ∧ LimR L Xs) (L0 : 0 < L) (lL : L.natAbs < 2 ^ 1000) (uf : UsFit n inner W us) (ln : n ≤ 1000) : Small (L * W) (Xss.map (bendR L W inner us)) := by
  refine ⟨Int.mul_pos L0 uf.W0, pow_le (wide_lt lL uf.W1) (by decide), fun Ys hY => ?_⟩
  obtain ⟨Xs, hX, rfl⟩ := List.mem_map.mp hY
  obtain ⟨ln', li⟩ := h Xs hX
  refine ⟨by rw [bendR_len]; omega, fun X hx => ?_⟩
  have gl := bendG_len L W inner Xs us
  have uf' : UsFit Xs.length inner W us := by rw [ln']; exact uf
  have gv := uf.giv
  have := foldG_bound (Nat.le_refl 2500) (fun X hX => by
    obtain ⟨Z, hZ, rfl⟩ := List.mem_map.mp hX
    exact pow_le (a := 2000) (wide_lt (li.2.2 Z hZ) uf.W1) (by decide)) (fun p hp => (bendG_ok li uf' p hp).2) X hx
  exact pow_le this (by omega)
theorem rows_two {L W W1 W2 : Int} {Vs Zs : List Int} {fs gs : List Fr} (L0 : 0 < L) (w : 0 < W) (w1 : 0 < W1) (w2 : 0 < W2) (h : RowV (L * W) Vs fs) (g : RowV (L * W1 * W2) Zs gs) (ln : Vs.length = Zs.length) (e : ∀ c, c < Vs.length → Vs.getD c 0 * (W1 * W2) = Zs.getD c 0 * W) : gs = fs := by
  refine List.ext_getElem (by rw [← g.1, ← h.1, ln]) fun c h1 h2 => ?_
  have hc : c < Vs.length := by rw [h.1]; exact h2
  have hz : c < Zs.length := by rw [← ln]; exact hc
  have a := (h.2 c Vs[c] fs[c] (List.getElem?_eq_getElem _) (List.getElem?_eq_getElem _)).scale (W1 * W2)
  have b := (g.2 c Zs[c] gs[c] (List.getElem?_eq_getElem _) (List.getElem?_eq_getElem _)).scale W
  have e' := e c hc
  rw [List.getD_eq_getElem?_getD, List.getD_eq_getElem?_getD, List.getElem?_eq_getElem hc, List.getElem?_eq_getElem hz] at e'
  have eL : L * W1 * W2 * W = L * W * (W1 * W2) := by ac_rfl
  rw [eL, show Zs[c] * W = Vs[c] * (W1 * W2) from e'.symm] at b
  exact Va.uniq (Int.mul_pos (Int.mul_pos L0 w) (Int.mul_pos w1 w2)) b a
theorem free_at {L W1 : Int} {Xs Ys : List Int} {fs gs : List Fr} {c : Nat} (h : RowV L Xs fs) (g : RowV (L * W1) Ys gs) (hc : c < Xs.length) (hl : Xs.length = Ys.length) (e : fs.getD c (0, 1) = gs.getD c (0, 1)) : Ys.getD c 0 = Xs.getD c 0 * W1 := by
  have hy : c < Ys.length := by rw [← hl]; exact hc
  have hf : c < fs.length := by rw [← h.1]; exact hc
  have hg : c < gs.length := by rw [← g.1]; exact hy
  have a := (h.2 c Xs[c] fs[c] (List.getElem?_eq_getElem _) (List.getElem?_eq_getElem _)).scale W1
  have b := g.2 c Ys[c] gs[c] (List.getElem?_eq_getElem _) (List.getElem?_eq_getElem _)
  rw [List.getD_eq_getElem?_getD, List.getD_eq_getElem?_getD, List.getElem?_eq_getElem hf, List.getElem?_eq_getElem hg] at e
  have e : fs[c] = gs[c] := e
  rw [e] at a
  rw [List.getD_eq_getElem?_getD, List.getD_eq_getElem?_getD, List.getElem?_eq_getElem hc, List.getElem?_eq_getElem hy]
  show Ys[c] = Xs[c] * W1
  have q : 1 ≤ gs[c].2 := b.1
  exact Int.eq_of_mul_eq_mul_right (by omega) (b.2.2.symm.trans a.2.2)
theorem fit_nil {n : Nat} : UsFit n inner 1 [] := ⟨fun u hu => absurd hu (by simp), Nat.zero_le _, Nat.zero_le _, by decide, Nat.one_lt_two_pow (by decide)⟩
theorem bend_nil {L : Int} {Xss : List (List Int)} : Xss.map (bendR L 1 inner []) = Xss := by
  have e : ∀ Xs : List Int, bendR L 1 inner [] Xs = Xs := fun Xs => by
    show Xs.map (· * 1) = Xs
    simp
  rw [show (bendR L 1 inner []) = id from funext e, List.map_id]
theorem law16 (T : Txt w K mg) {cdv : Value} {A : Around} {outer : List Env} {s : Shared} {H0 : Hp} {E : XK} (hr : Room 7 (A.deeper (envOfC "law" (defScope s_law) s.heap.objs.size T.a_law cdv))) : ∃ t, PSs (cxLaw P w K mg base T.a_law cdv A outer s H0 E) ((defBody s_law).drop 16) t ∧
    ∀ (D : Ends) (σ : L2.St) (H : Hp) (b c D1 D2 hd kp : Addr) (sv : V) (n : Nat) (rs zs ts : List V) (fss : List (List Fr)) (us : List Un) (L W : Int) (x0 x4 x5 x8 x10 x12 x13 x14 : Option V), (∀ H', D.rt (.bl true) H') →
      σ = [x0, some (.ref b), some (.int (n : Int)), some (.ref D1), x4, x5, some (.ref D2), some sv, x8, some (.ref hd), x10, some (.ref kp), x12, x13, x14, none, none, none] → Bag 40000 H b c → Kn K H b D1 D2 hd kp sv n rs zs ts fss us L W → t D σ H := by
  have hr__law_draw : Room 1 _ := hr.mono (by decide)
  have G__law_draw := ok__law_draw (P := P) (base := base) T
  have hr__law_after_bend : Room 3 _ := hr.mono (by decide)
  have G__law_after_bend := ok__law_after_bend (P := P) (base := base) T
  have hr_bend_done : Room 7 _ := hr
  have G_bend_done := ok_bend_done (P := P) (base := base) T
  have hr__law_rows_same : Room 5 _ := hr.mono (by decide)
  have G__law_rows_same := ok__law_rows_same (P := P) (base := base) T
  have hr__law_free : Room 1 _ := hr.mono (by decide)
  have G__law_free := ok__law_free (P := P) (base := base) T
  have hr__law_like : Room 5 _ := hr.mono (by decide)
  have G__law_like := ok__law_like (P := P) (base := base) T 4
  refine ⟨_, (pss_cons (ps_set (i := 15) sc_law.nd rfl (Or.inl rfl) (pe_call G__law_draw hr__law_draw (by rfl) T.m__law_draw T.F__law_draw.kp T.B__law_draw .nil pass0 (pa_cons (pv 1) (pa_cons (pe_op op_add (pe_callB call_len_seq (by rfl) T.n_len (by decide +kernel) (pa_cons (pv 6) pa_nil)) pe_int) pa_nil))))
      (pss_cons (ps_set (i := 16) sc_law.nd rfl (Or.inl rfl) (pe_call G_bend_done hr_bend_done (by rfl) T.m_bend_done T.F_bend_done.kp T.B_bend_done .nil pass0 (pa_cons (pv 9) (pa_cons (pe_slice sl_listU (pv 6) po_none (po_some (pv 15))) pa_nil))))
      (pss_cons (ps_if (pt_not (pt_val (pe_call G__law_rows_same hr__law_rows_same (by rfl) T.m__law_rows_same T.F__law_rows_same.kp T.B__law_rows_same .nil pass0 (pa_cons (pv 16) (pa_cons (pe_call G__law_after_bend hr__law_after_bend (by rfl) T.m__law_after_bend T.F__law_after_bend.kp T.B__law_after_bend .nil pass0 (pa_cons (pv 7) (pa_cons (pe_slice sl_listU (pv 6) po_none (po_some (pv 15))) pa_nil))) pa_nil))))) (pss_one (ps_ret pe_bl)) pss_nil)
      (pss_cons (ps_set (i := 17) sc_law.nd rfl (Or.inl rfl) (pe_call G_bend_done hr_bend_done (by rfl) T.m_bend_done T.F_bend_done.kp T.B_bend_done .nil pass0 (pa_cons (pv 16) (pa_cons (pe_slice sl_listU (pv 6) (po_some (pv 15)) po_none) pa_nil))))
      (pss_cons (ps_if (pt_not (pt_val (pe_call G__law_rows_same hr__law_rows_same (by rfl) T.m__law_rows_same T.F__law_rows_same.kp T.B__law_rows_same .nil pass0 (pa_cons (pv 17) (pa_cons (pe_call G__law_after_bend hr__law_after_bend (by rfl) T.m__law_after_bend T.F__law_after_bend.kp T.B__law_after_bend .nil pass0 (pa_cons (pe_call G__law_after_bend hr__law_after_bend (by rfl) T.m__law_after_bend T.F__law_after_bend.kp T.B__law_after_bend .nil pass0 (pa_cons (pv 7) (pa_cons (pe_slice sl_listU (pv 6) po_none (po_some (pv 15))) pa_nil))) (pa_cons (pe_slice sl_listU (pv 6) (po_some (pv 15)) po_none) pa_nil))) pa_nil))))) (pss_one (ps_ret pe_bl)) pss_nil)
      (pss_cons (ps_for PassesOwn.never rfl (pi_range1 (by rfl) T.n_range (pa_cons (pe_callB call_len_seq (by rfl) T.n_len (by decide +kernel) (pa_cons (pv 3) pa_nil)) pa_nil)) (pg_name (i := 4) sc_law.nd rfl (Or.inl rfl)) (pss_one (ps_if (PW.pt (pw_and (pt_val (pe_call G__law_free hr__law_free (by rfl) T.m__law_free T.F__law_free.kp T.B__law_free .nil pass0 (pa_cons (pe_slice sl_listU (pv 6) (po_some (pv 15)) po_none) (pa_cons (pe_ix ix_list (pv 3) (pv 4) (fun _ _ => rfl)) (pa_cons (pe_ix ix_list (pv 16) (pv 4) (fun _ _ => rfl)) pa_nil))))) (pw_and1 (pt_not (pt_val (pe_call G__law_like hr__law_like (by rfl) T.m__law_like T.F__law_like.kp T.B__law_like .nil pass0 (pa_cons (pe_ix ix_list (pv 17) (pv 4) (fun _ _ => rfl)) (pa_cons (pe_ix ix_list (pv 11) (pv 4) (fun _ _ => rfl)) pa_nil)))))))) (pss_one (ps_ret pe_bl)) pss_nil)))
      (pss_one (ps_ret (pe_and (pe_call G__law_rows_same hr__law_rows_same (by rfl) T.m__law_rows_same T.F__law_rows_same.kp T.B__law_rows_same .nil pass0 (pa_cons (pe_call G_bend_done hr_bend_done (by rfl) T.m_bend_done T.F_bend_done.kp T.B_bend_done .nil pass0 (pa_cons (pv 9) (pa_cons (pe_tupU pa_nil) pa_nil))) (pa_cons (pv 7) pa_nil))) (pe_one (pe_call G__law_like hr__law_like (by rfl) T.m__law_like T.F__law_like.kp T.B__law_like .nil pass0 (pa_cons (pe_call G_bend_done hr_bend_done (by rfl) T.m_bend_done T.F_bend_done.kp T.B_bend_done .nil pass0 (pa_cons (pv 9) (pa_cons (pv 6) pa_nil))) (pa_cons (pv 11) pa_nil))))))))))))), ?_⟩
  rintro D σ H b c D1 D2 hd kp sv n rs zs ts fss us L W x0 x4 x5 x8 x10 x12 x13 x14 k rfl B q
  refine seq_op fun N hN => ?_
  walk_at "rs"
  have lz := q.un.len
  have l6 := q.l6
  refine ⟨zs, .inl (SqL.of q.hU), b, c, _, 39999, rfl, B, by omega, by omega, fun r H1 r0 r1 B1 K1 => hN _ _ ?_⟩
  clear hN N
  replace q := q.bag B K1
  clear B K1
  obtain ⟨k0, rfl⟩ : ∃ k0 : Nat, r = (k0 : Int) := ⟨r.toNat, by omega⟩
  refine seq_op fun N hN => ?_
  walk_at "rs"
  refine ⟨zs, SqL.of q.hU, fun p2 H2 s2 p20 p21 => ?_⟩
  rw [cutV_take] at p21
  replace q := q.same s2
  have B2 := B1.same s2
  obtain ⟨f1, pU1, g1, w1⟩ := q.fit (vs := us.take k0) (fun u hu => List.mem_of_mem_take hu) (by rw [List.length_take]; omega)
  obtain ⟨f2, pU2, g2, w2⟩ := q.fit (vs := us.drop k0) (fun u hu => List.mem_of_mem_drop hu) (by rw [List.length_drop]; omega)
  have l1 : (us.take k0).length ≤ 6 := by rw [List.length_take]; omega
  have l2 : (us.drop k0).length ≤ 6 := by rw [List.length_drop]; omega
  have n5 := q.n5
  have lp := q.lp
  have plen : (partsOf L fss).length = fss.length := by unfold partsOf; rw [List.length_map]
  generalize hW1 : moreF 1 (us.take k0) = W1 at *
  generalize hW2 : moreF 1 (us.drop k0) = W2 at *
  refine ⟨hd, p2, rs, zs.take k0, partsOf L fss, us.take k0, n, L, W1, inner, rfl, .inl (SqL.of q.hh), q.rows, q.limB, by omega, .inl (SqL.of p21), q.un.take k0, f1, fun m ms H3 s3 m0 m1 rm => hN _ _ ?_⟩
  clear hN N
  replace q := q.same s3
  have B3 := B2.same s3
  refine seq_op fun N hN => ?_
  walk_at "rs"
  refine ⟨zs, SqL.of q.hU, fun p4 H4 s4 p40 p41 => ?_⟩
  rw [cutV_take] at p41
  replace q := q.same s4
  refine ⟨sv, p4, zs.take k0, us.take k0, partsOf L fss, n, L, rfl, q.st, q.limB, q.L0, pow_le q.lL (by decide), by omega, by omega, .inl (SqL.of p41), q.un.take k0, fun u hu => q.ub u (List.mem_of_mem_take hu), pow_le pU1 (by decide), by omega, by omega, fun dv H5 s5 st5 => ?_⟩
  rw [hW1] at st5
  replace q := q.same s5
  have s35 := Same.trans s4 s5
  have rm5 := rm.same s35
  have sm1 : Small (L * W1) ((partsOf L fss).map (bendR L W1 inner (us.take k0))) := small_bend q.limB q.L0 (pow_le q.lL (by decide)) f1 (by omega)
  refine ⟨m, dv, ms, _, L * W1, rfl, SqL.of (s35 _ _ m1), rm5, st5, sm1, by rw [List.length_map]; omega, fun H6 s6 => ⟨true, rfl, iteFF (fun z => by cases z) (hN _ _ ?_)⟩⟩
  clear hN N
  replace q := q.same s6
  have m6 := s6 _ _ (s35 _ _ m1)
  have rm6 := rm5.same s6
  have B6 := ((B3.same s4).same s5).same s6
  clear s35 rm5 rm m1 s4 s5 s6 st5 s2 s3
  refine seq_op fun N hN => ?_
  walk_at "rs"
  have lim1 : ∀ Ys ∈ (partsOf L fss).map (bendR L W1 inner (us.take k0)), Ys.length = n ∧ LimR (L * W1) Ys := fun Ys hY => by
    obtain ⟨Xs, hX, rfl⟩ := List.mem_map.mp hY
    exact ⟨by rw [bendR_len]; exact (q.lim Xs hX).1, Int.mul_pos q.L0 f1.W0, pow_le (wide_lt q.lL w1) (by decide), bend_lim q.lL (q.lim Xs hX).2 (fun u hu => q.ug u (List.mem_of_mem_take hu)) l1 w1⟩
  have L10 : 0 < L * W1 := Int.mul_pos q.L0 f1.W0
  have lL1 : (L * W1).natAbs < 2 ^ 1000 := pow_le (wide_lt q.lL w1) (by decide)
  refine ⟨zs, SqL.of q.hU, fun p7 H7 s7 p70 p71 => ?_⟩
  rw [cutV_drop] at p71
  replace q := q.same s7
  refine ⟨m, p7, ms, zs.drop k0, _, us.drop k0, n, L * W1, W2, inner, rfl, .inl (SqL.of (s7 _ _ m6)), rm6.same s7, lim1, by rw [List.length_map]; omega, .inl (SqL.of p71), q.un.drop k0, f2, fun e es H8 s8 e0 e1 re => hN _ _ ?_⟩
  clear hN N
  replace q := q.same s8
  have m8 := s8 _ _ (s7 _ _ m6)
  have rm8 := (rm6.same s7).same s8
  have B8 := (B6.same s7).same s8
  clear m6 rm6 B6
  refine seq_op fun N hN => ?_
  walk_at "rs"
  refine ⟨zs, SqL.of q.hU, fun p9 H9 s9 p90 p91 => ?_⟩
  rw [cutV_take] at p91
  replace q := q.same s9
  refine ⟨sv, p9, zs.take k0, us.take k0, partsOf L fss, n, L, rfl, q.st, q.limB, q.L0, pow_le q.lL (by decide), by omega, by omega, .inl (SqL.of p91), q.un.take k0, fun u hu => q.ub u (List.mem_of_mem_take hu), pow_le pU1 (by decide), by omega, by omega, fun dv H10 s10 st10 => ?_⟩
  rw [hW1] at st10
  replace q := q.same s10
  refine ⟨zs, SqL.of q.hU, fun p11 H11 s11 p110 p111 => ?_⟩
  rw [cutV_drop] at p111
  replace q := q.same s11
  refine ⟨dv, p11, zs.drop k0, us.drop k0, _, n, L * W1, rfl, st10.same s11, lim1, L10, lL1, by rw [List.length_map]; omega, by omega, .inl (SqL.of p111), q.un.drop k0, fun u hu => q.ub u (List.mem_of_mem_drop hu), pow_le pU2 (by decide), by omega, by omega, fun dv2 H12 s12 st12 => ?_⟩
  rw [hW2] at st12
  replace q := q.same s12
  have s812 := Same.trans s9 (Same.trans s10 (Same.trans s11 s12))
  refine ⟨e, dv2, es, _, L * W1 * W2, rfl, SqL.of (s812 _ _ e1), re.same s812, st12, small_bend lim1 L10 lL1 f2 (by omega), by rw [List.length_map, List.length_map]; omega, fun H13 s13 => ⟨true, rfl, iteFF (fun z => by cases z) (hN _ _ ?_)⟩⟩
  clear hN N
  have s813 := Same.trans s812 s13
  replace q := q.same s13
  have m13 := s813 _ _ m8
  have rm13 := rm8.same s813
  have e13 := s813 _ _ e1
  have re13 := re.same s813
  have B13 := B8.same s813
  clear s9 s10 s11 s12 s13 s812 s813 st10 st12 m8 rm8 e1 re B8 p91 p111 p71
  refine cut_seq (fun σ H => (∃ x4 x16 x17 : Option V, σ = [x0, some (.ref b), some (.int (n : Int)), some (.ref D1), x4, x5, some (.ref D2), some sv, x8, some (.ref hd), x10, some (.ref kp), x12, x13, x14, some (.int (k0 : Int)), x16, x17]) ∧ Same H13 H) (fun N hN => ?_) ?_
  · walk_at "rs"
    have lr := q.fr.len
    have l9 := q.l9
    refine ⟨_, rfl, D1, rfl, rs, .inl (SqL.of q.hD), (rs.length : Int), rfl, by omega, by omega, for_range (lo := 0) (n := ((rs.length : Int)).toNat) (fun i σ H => (∃ x4 x16 x17 : Option V, σ = [x0, some (.ref b), some (.int (n : Int)), some (.ref D1), x4, x5, some (.ref D2), some sv, x8, some (.ref hd), x10, some (.ref kp), x12, x13, x14, some (.int (k0 : Int)), x16, x17] ∧ x16 = some (.ref m) ∧ x17 = some (.ref e)) ∧ Same H13 H) ⟨⟨x4, _, _, rfl, rfl, rfl⟩, Same.refl _⟩ ?_ ?_⟩
    · rintro i σ H hi ⟨⟨x4, _, _, rfl, rfl, rfl⟩, sH⟩
      walk_at "rs"
      have q' := q.same sH
      have hi' : i < fss.length := by omega
      obtain ⟨a1, xs1, fs, e1, e2, h1, h2⟩ := q'.fr.get hi'
      have eX : (partsOf L fss)[i]? = some (fs.map (num L)) := by unfold partsOf; rw [List.getElem?_map, e2]; rfl
      have hfs := q.rg fs (List.mem_of_getElem? e2)
      have v1 : RowV L (fs.map (num L)) fs := ⟨List.length_map .., fun j X f ej ef => by
        rw [List.getElem?_map, ef] at ej
        cases ej
        obtain ⟨o1, o2, _⟩ := hfs.2 f (List.mem_of_getElem? ef)
        exact num_va o1 o2 (q.Ld fs (List.mem_of_getElem? e2) f (List.mem_of_getElem? ef))⟩
      obtain ⟨a2, Ys, e3, e4, xs2, gs, g1, g2, v2⟩ := (rm13.same sH).get (n := i) (by rw [List.length_map]; omega)
      rw [List.getElem?_map, eX] at e4
      obtain rfl : bendR L W1 inner (us.take k0) (fs.map (num L)) = Ys := Option.some.inj e4
      obtain ⟨a3, Zs, e5, e6, xs3, hs, i1, i2, v3⟩ := (re13.same sH).get (n := i) (by rw [List.length_map, List.length_map]; omega)
      rw [List.getElem?_map, List.getElem?_map, eX] at e6
      obtain rfl : bendR (L * W1) W2 inner (us.drop k0) (bendR L W1 inner (us.take k0) (fs.map (num L))) = Zs := Option.some.inj e6
      obtain ⟨a4, Vs, e7, e8, xs4, ks, j1, j2, v4⟩ := q'.ks.get (n := i) (by rw [List.length_map]; omega)
      rw [List.getElem?_map, eX] at e8
      obtain rfl : bendR L W inner us (fs.map (num L)) = Vs := Option.some.inj e8
      have lfs : (fs.map (num L)).length = n := by rw [List.length_map]; exact hfs.1
      refine ⟨zs, SqL.of q'.hU, fun p14 H14 s14 p140 p141 => ?_⟩
      rw [cutV_drop] at p141
      have q'' := q'.same s14
      refine ⟨rs, SqL.of q''.hD, _, at_ofN (Int.zero_add _) e1, ms, SqL.of (s14 _ _ (sH _ _ m13)), _, at_ofN (Int.zero_add _) e3, p14, a1, a2, zs.drop k0, xs1, xs2, us.drop k0, fs, gs, rfl, .inl (SqL.of p141), q''.un.drop k0, Same.seqT s14 h1, h2.same s14, Same.seqT s14 g1, g2.same s14, ?_, fun u hu p hp => ?_, fun t H15 s15 free => ⟨t, rfl, ite2 (fun ht => ?_) (fun _ => ⟨⟨_, _, _, ⟨rfl, rfl, rfl⟩, rfl, rfl⟩, Same.trans sH (Same.trans s14 s15)⟩)⟩⟩
      · rw [← v2.1, bendR_len, List.length_map]
      · rw [hfs.1]
        exact ((q.ub u (List.mem_of_mem_drop hu)).ter p hp).1
      · have fr := free ht
        have same : hs = ks := by
          refine rows_two q.L0 (by rw [← q.eW]; exact (q.fit (fun u h => h) (Nat.le_refl _)).1.W0) f1.W0 f2.W0 v4 v3 (by rw [bendR_len, bendR_len, bendR_len]) fun c hc => ?_
          rw [bendR_len] at hc
          have h0 := (q.fit (vs := us) (fun u h => h) (Nat.le_refl _)).1
          rw [q.eW] at h0
          have two := bend_two (n := n) (L := L) (W := W) (W1 := W1) (W2 := W2) (M := inner) (us := us.take k0) (vs := us.drop k0) (Xs := fs.map (num L)) (by rw [List.take_append_drop]; exact h0.all) f1.all f2.all f1.W0 (fun u hu p hp => ?_) hc
          · rw [List.take_append_drop] at two
            exact two
          · refine free_at v1 v2 ?_ (by rw [bendR_len]) (fr u hu p hp)
            rw [lfs]
            exact ((q.ub u (List.mem_of_mem_drop hu)).ter p hp).1
        subst same
        have s315 := Same.trans s14 s15
        have okd := okD_row (fs := hs) (by rw [← v3.1, bendR_len, bendR_len, lfs]; omega)
        refine ⟨es, SqL.of (s315 _ _ (sH _ _ e13)), _, at_ofN (Int.zero_add _) e5, ts, SqL.of (s315 _ _ q'.hk), _, at_ofN (Int.zero_add _) e7, .ref a3, .ref a4, dRow hs, rfl, .tup (Same.seqT s315 i1) (i2.same s315).dp, .tup (Same.seqT s315 j1) (j2.same s315).dp, okd.1, Nat.le_trans okd.2 (by decide), fun H16 s16 => ⟨true, rfl, iteFF (fun z => by cases z) ⟨⟨_, _, _, ⟨rfl, rfl, rfl⟩, rfl, rfl⟩, Same.trans sH (Same.trans s315 s16)⟩⟩⟩
    · rintro σ H ⟨⟨x4, _, _, rfl, rfl, rfl⟩, sH⟩
      exact hN _ _ ⟨⟨_, _, _, rfl⟩, sH⟩
  · rintro σ H ⟨⟨x4, x16, x17, rfl⟩, sH⟩
    walk_at "rs"
    have q' := q.same sH
    refine ⟨Nat.zero_le _, fun p17 H17 s17 p170 p171 => ?_⟩
    have q17 := q'.same s17
    refine ⟨hd, p17, rs, [], partsOf L fss, [], n, L, 1, inner, rfl, .inl (SqL.of q17.hh), q17.rows, q17.limB, by omega, .inr (.inl (.inl p171)), .nil, fit_nil, fun t18 ts18 H18 s18 t180 t181 r18 => ?_⟩
    rw [bend_nil, Int.mul_one] at r18
    have q18 := q17.same s18
    have sm : Small L (partsOf L fss) := ⟨q.L0, pow_le q.lL (by decide), fun Xs hX => ⟨by have := (q.lim Xs hX).1; omega, fun X hx => pow_le ((q.lim Xs hX).2 X hx) (by decide)⟩⟩
    refine ⟨t18, sv, ts18, partsOf L fss, L, rfl, SqL.of t181, r18, q18.st, sm, by omega, fun H19 s19 => ⟨true, rfl, iteTT rfl ?_⟩⟩
    have q19 := q18.same s19
    have h0 := (q.fit (vs := us) (fun u h => h) (Nat.le_refl _)).1
    rw [q.eW] at h0
    refine ⟨hd, D2, rs, zs, partsOf L fss, us, n, L, W, inner, rfl, .inl (SqL.of q19.hh), q19.rows, q19.limB, by omega, .inl (SqL.of q19.hU), q19.un, h0, fun t20 ts20 H20 s20 t200 t201 r20 => ?_⟩
    have q20 := q19.same s20
    obtain ⟨fss2, d1, d2, d3, d4⟩ := Rows.two (Int.mul_pos q.L0 h0.W0) r20 q20.ks
    obtain ⟨ok1, ok2⟩ := okD_rows (fss := fss2) (by rw [d3, List.length_map]; omega) fun fs hfs => by
      obtain ⟨Ys, hY, e⟩ := d4 fs hfs
      obtain ⟨Xs, hX, rfl⟩ := List.mem_map.mp hY
      rw [← e, bendR_len, (q.lim Xs hX).1]
      omega
    exact ⟨.ref t20, .ref kp, dRows fss2, rfl, .lst (SqL.of t201) d1.dp, .lst (SqL.of q20.hk) d2.dp, ok1, ok2, fun H21 s21 => k H21⟩
end
end LK

set_option Elab.async false
set_option linter.all false
set_option maxRecDepth 100000
namespace LK
open PySem PySem.Spec PyProof.Rows L2
local macro_rules | `(tactic| walk_at "rs") => `(tactic| simp only [cxK, cxNK, tCallZ, tAsg, tOp, rI0, rS0, rB0, rI, rU, tUn, rEq, rNe, rIxL, rIxT, rIxS, rSetL, rSlLU, rSlS, rSlU, rCatL, rCatU, rRepL, rIn, tVar, tC, gName, gSub, tIfS, tTest, tB, tAnd, tOr, tNot, tNotV, tAndV, tOrV, tIf, tCall, tCons, tNil, tCB, tDrop, tRet, tRetN, tNext, tLstU, tTupU, tM0, tM1, tPar, tPar3, tAug, ipI, tBM, tBM0, rAppend, rPop, tBreak, tCont, tChain, tSl, tPart, tNoPart, L2.start, List.map, List.length_cons, List.length_nil, List.replicate, List.cons_append, List.nil_append, List.append_nil, List.getElem?_cons_zero, List.getElem?_cons_succ, List.set_cons_zero, List.set_cons_succ, Option.some.injEq, V.int.injEq, V.ref.injEq, V.str.injEq, V.bl.injEq, exists_eq_left', exists_eq_left, exists_and_left, decide_eq_true_eq, List.cons.injEq, and_true, true_and, scal, Bool.not_eq_true', decide_eq_false_iff_not, Nat.zero_add, Nat.reduceAdd, Nat.reduceSub, reduceCtorEq, false_and, exists_false, false_or, or_false, CPow, CPowW, CMul, CDiv, Int.reduceToNat, ↓reduceIte, wipe, sw, List.nil_append, List.singleton_append])
local macro_rules | `(tactic| walk_at "st") => `(tactic| (refine seq_op fun N hN => ?_; walk_at "rs"))
local macro_rules | `(tactic| walk_at "sd") => `(tactic| first | assumption | decide | omega)
local macro_rules | `(tactic| walk_at "rd") => `(tactic| repeat (first
  | refine ⟨_, SqL.of (by assumption), ?_⟩ | refine ⟨_, SqL.of upd_same, ?_⟩ | refine ⟨_, .inl (SqL.of (by assumption)), ?_⟩ | refine ⟨_, (by assumption : _ = some (HO.lst _)), ?_⟩ | refine ⟨_, upd_same, ?_⟩
  | refine ⟨_, rfl, ?_⟩ | refine And.intro (by walk_at "sd") ?_))

section
variable {P : Program} {w : World} {K : PySem.W.Frag} {mg : Str → Option Value} {base : Heap}
theorem law13 (T : Txt w K mg) {cdv : Value} {A : Around} {outer : List Env} {s : Shared} {H0 : Hp} {E : XK} (hr : Room 7 (A.deeper (envOfC "law" (defScope s_law) s.heap.objs.size T.a_law cdv))) : ∃ t, PSs (cxLaw P w K mg base T.a_law cdv A outer s H0 E) ((defBody s_law).drop 13) t ∧
    ∀ (D : Ends) (σ : L2.St) (H : Hp) (b c D1 D2 hd kp : Addr) (sv : V) (n : Nat) (rs zs ts : List V) (fss : List (List Fr)) (us : List Un) (L W : Int) (x0 x4 x5 x8 x10 : Option V), (∀ H', D.rt (.bl true) H') →
      σ = [x0, some (.ref b), some (.int (n : Int)), some (.ref D1), x4, x5, some (.ref D2), some sv, x8, some (.ref hd), x10, some (.ref kp), none, none, none, none, none, none] → Bag 60000 H b c → Kn K H b D1 D2 hd kp sv n rs zs ts fss us L W → t D σ H := by
  obtain ⟨t16, h16, go16⟩ := law16 (P := P) (base := base) (outer := outer) (H0 := H0) (E := E) T hr
  have hr__law_draw : Room 1 _ := hr.mono (by decide)
  have G__law_draw := ok__law_draw (P := P) (base := base) T
  have hr_bend_done : Room 7 _ := hr
  have G_bend_done := ok_bend_done (P := P) (base := base) T
  have hr__law_like : Room 5 _ := hr.mono (by decide)
  have G__law_like := ok__law_like (P := P) (base := base) T 4
  refine ⟨_, (pss_cons (ps_set (i := 12) sc_law.nd rfl (Or.inl rfl) (pe_lstU pa_nil))
      (pss_cons (ps_for PassesOwn.never rfl (pi_list (pe_revL (pv 6))) (pg_name (i := 13) sc_law.nd rfl (Or.inl rfl)) (pss_cons (ps_set (i := 14) sc_law.nd rfl (Or.inl rfl) (pe_call G__law_draw hr__law_draw (by rfl) T.m__law_draw T.F__law_draw.kp T.B__law_draw .nil pass0 (pa_cons (pv 1) (pa_cons (pe_op op_add (pe_callB call_len_seq (by rfl) T.n_len (by decide +kernel) (pa_cons (pe_ix ix_tup (pv 13) pe_int (fun _ _ => rfl)) pa_nil)) pe_int) pa_nil))))
      (pss_one (ps_set (i := 12) sc_law.nd rfl (Or.inl rfl) (pe_op op_catL (pv 12) (pe_lstU (pa_cons (pe_tupU (pa_cons (pe_ix ix_tup (pv 13) pe_int (fun _ _ => rfl)) (pa_cons (pe_ix ix_tup (pv 13) pe_int (fun _ _ => rfl)) (pa_cons (pe_slice sl_tupU (pe_ix ix_tup (pv 13) pe_int (fun _ _ => rfl)) (po_some (pv 14)) po_none) pa_nil)))) (pa_cons (pe_tupU (pa_cons (pe_revT (pe_ix ix_tup (pv 13) pe_int (fun _ _ => rfl))) (pa_cons (pe_ix ix_tup (pv 13) pe_int (fun _ _ => rfl)) (pa_cons (pe_slice sl_tupU (pe_ix ix_tup (pv 13) pe_int (fun _ _ => rfl)) po_none (po_some (pv 14))) pa_nil)))) (pa_cons (pe_tupU (pa_cons (pe_ix ix_tup (pv 13) pe_int (fun _ _ => rfl)) (pa_cons (pe_ix ix_tup (pv 13) pe_int (fun _ _ => rfl)) (pa_cons (pe_tupU pa_nil) pa_nil)))) pa_nil)))))))))
      (pss_cons (ps_if (pt_not (pt_val (pe_call G__law_like hr__law_like (by rfl) T.m__law_like T.F__law_like.kp T.B__law_like .nil pass0 (pa_cons (pe_call G_bend_done hr_bend_done (by rfl) T.m_bend_done T.F_bend_done.kp T.B_bend_done .nil pass0 (pa_cons (pe_callTy call_tupleN (by rfl) T.n_tuple (by decide +kernel) (pa_cons (pv 3) pa_nil)) (pa_cons (pe_callTy call_tupleN (by rfl) T.n_tuple (by decide +kernel) (pa_cons (pv 12) pa_nil)) pa_nil))) (pa_cons (pv 11) pa_nil))))) (pss_one (ps_ret pe_bl)) pss_nil)
      h16))), ?_⟩
  rintro D σ H b c D1 D2 hd kp sv n rs zs ts fss us L W x0 x4 x5 x8 x10 k rfl B q
  have lz := q.un.len
  have l6 := q.l6
  refine seq_op fun N hN => ?_
  walk_at "rs"
  refine ⟨Nat.zero_le _, fun P0 H1 s1 P00 P01 => hN _ _ ?_⟩
  clear hN N
  have P0b : P0 ≠ b := new_ne B P00
  replace q := q.same s1
  replace B := B.same s1
  refine cut_seq (fun σ H => ∃ (x13 x14 : Option V) (pa : Addr) (ps : List V) (ks : List Nat), σ = [x0, some (.ref b), some (.int (n : Int)), some (.ref D1), x4, x5, some (.ref D2), some sv, x8, some (.ref hd), x10, some (.ref kp), some (.ref pa), x13, x14, none, none, none] ∧ Bag 50000 H b c ∧ Kn K H b D1 D2 hd kp sv n rs zs ts fss us L W ∧ H pa = some (.lst ps) ∧ Uns K H ps (parts3 us.reverse ks) ∧ us.length = ks.length) (fun N hN => ?_) ?_
  · refine ⟨_, rfl, D2, zs, rfl, SqL.of q.hU, fun R R0 => ⟨R, rfl, ⟨zs.reverse, SqL.of upd_same⟩, ?_⟩⟩
    have s2 : Same H1 (L2.upd H1 R (.lst zs.reverse)) := same_upd R0
    have R1 : (L2.upd H1 R (.lst zs.reverse)) R = some (.lst zs.reverse) := upd_same
    generalize L2.upd H1 R (.lst zs.reverse) = H2 at *
    have Rb : R ≠ b := new_ne B R0
    replace q := q.same s2
    have hp2 := s2 _ _ P01
    replace B := B.same s2
    refine for_list (K := K) (a := R) (xs := zs.reverse) (fun i σ H => ∃ (x13 x14 : Option V) (pa : Addr) (ps : List V) (ks : List Nat), σ = [x0, some (.ref b), some (.int (n : Int)), some (.ref D1), x4, x5, some (.ref D2), some sv, x8, some (.ref hd), x10, some (.ref kp), some (.ref pa), x13, x14, none, none, none] ∧ Bag (50000 + (zs.length - i)) H b c ∧ Kn K H b D1 D2 hd kp sv n rs zs ts fss us L W ∧ H R = some (.lst zs.reverse) ∧ H pa = some (.lst ps) ∧ pa ≠ b ∧ Uns K H ps (parts3 (us.reverse.take i) ks) ∧ ks.length = i ∧ i ≤ zs.length) ⟨_, _, P0, [], [], rfl, B.le (by omega), q, R1, hp2, P0b, .nil, rfl, Nat.zero_le _⟩ (fun i σ H _ ⟨_, _, _, _, _, _, _, _, h, _⟩ => SqL.of h) ?_ ?_
    · rintro i y σ H hi ⟨x13, x14, pa, ps, ks, rfl, B, q, hR, hpa, pab, hu, lk, il⟩
      obtain ⟨u, eu, ua, ta, sa, ga, xs, ys, rfl, g1, g2, g3, g4, g5, g6⟩ := q.un.rev.get hi
      have hz : i < zs.length := by
        have := (List.getElem?_eq_some_iff.mp hi).1
        rw [List.length_reverse] at this
        exact this
      refine seq_op fun N hN => ?_
      walk_at "rs"
      have ly := g6.len
      have gl3 := (q.ug u (List.mem_reverse.mp (List.mem_of_getElem? eu))).gl
      refine ⟨_, g1, _, rfl, ga, rfl, ys, .inr g5, b, c, _, 50000 + (zs.length - (i + 1)), rfl, B.le (by omega), by omega, by omega, fun r H1 r0 r1 B1 K1 => hN _ _ ?_⟩
      clear hN N
      obtain ⟨at0, rfl⟩ : ∃ at0 : Nat, r = (at0 : Int) := ⟨r.toNat, by omega⟩
      replace q := q.bag B K1
      replace hR := Kp.get K1 Rb hR
      replace hpa := Kp.get K1 pab hpa
      replace hu := hu.kp B K1
      replace g1 := seqT_kp B K1 g1
      replace g2 := seqT_kp B K1 g2
      replace g3 := g3.kp B K1
      replace g4 : Pr K H1 sa u.shift.1 u.shift.2 := seqT_kp B K1 g4
      replace g5 := seqT_kp B K1 g5
      replace g6 := g6.kp B K1
      clear B K1
      walk_at "rs"
      refine ⟨_, g1, _, rfl, _, g1, _, rfl, _, g1, _, rfl, ga, rfl, ys, g5, fun c1 J1 u1 hc1 => ⟨by decide, fun p1 J2 u2 n1 t1 => ?_⟩⟩
      have v2 := Same.trans u1 u2
      refine ⟨_, rfl, ua, _, 0, .ref ta, rfl, rfl, Same.seqT v2 g1, rfl, ta, xs, rfl, Same.seqT v2 g2, fun p2 J3 u3 n2 t2 => ?_⟩
      have v3 := Same.trans v2 u3
      refine ⟨_, Same.seqT v3 g1, _, rfl, _, Same.seqT v3 g1, _, rfl, ga, rfl, ys, Same.seqT v3 g5, fun c2 J4 u4 hc2 => ⟨by decide, fun p3 J5 u5 n3 t3 => ?_⟩⟩
      have v5 := Same.trans v3 (Same.trans u4 u5)
      refine ⟨_, Same.seqT v5 g1, _, rfl, _, Same.seqT v5 g1, _, rfl, Nat.zero_le _, fun p4 J6 u6 n4 t4 => ⟨by decide, fun p5 J7 u7 n5 t5 => ⟨by decide, fun p6 J8 u8 n6 t6 => ?_⟩⟩⟩
      have v8 := Same.trans v5 (Same.trans u6 (Same.trans u7 u8))
      have lu3 := hu.len
      have lp3 := parts3_len (us := us.reverse.take i) (ks := ks) (by rw [List.length_take, List.length_reverse]; omega)
      rw [List.length_take, List.length_reverse] at lp3
      refine ⟨ps, v8 _ _ hpa, _, t6, Nat.le_trans (show ps.length + 3 ≤ 1000 by omega) (by decide), fun p7 J9 u9 n7 t7 => ?_⟩
      have v9 := Same.trans v8 u9
      have P7b : p7 ≠ b := new_ne (B1.same v8) n7
      rw [cutV_drop] at hc1
      rw [cutV_take] at hc2
      have w2 := Same.trans u3 (Same.trans u4 (Same.trans u5 (Same.trans u6 (Same.trans u7 (Same.trans u8 u9)))))
      have w5 := Same.trans u6 (Same.trans u7 (Same.trans u8 u9))
      have e3 : parts3 (us.reverse.take (i + 1)) (ks ++ [at0]) = parts3 (us.reverse.take i) ks ++ part3 u at0 := by
        obtain ⟨hk, e⟩ := List.getElem?_eq_some_iff.mp eu
        rw [← List.take_append_getElem hk, e, parts3_snoc (by rw [List.length_take, List.length_reverse]; omega)]
      refine ⟨_, _, p7, ⟨rfl, rfl, rfl⟩, (B1.same v9).le (by omega), q.same v9, v9 _ _ hR, _, t7, P7b, ks ++ [at0], ?_, by rw [List.length_append, lk]; rfl, by omega⟩
      rw [e3]
      refine (hu.same v9).app ?_
      refine .cons ⟨p1, ta, sa, c1, xs, ys.drop at0, rfl, .inl (.inl (w2 _ _ t1)), Same.seqT v9 g2, g3.same v9, Same.seqT v9 g4, Same.seqT (Same.trans u2 w2) hc1, (g6.drop at0).same v9⟩ ?_
      refine .cons ⟨p3, p2, sa, c2, xs.reverse, ys.take at0, rfl, .inl (.inl (w5 _ _ t3)), .inl (.inl ((Same.trans (Same.trans u4 u5) w5) _ _ t2)), g3.rev.same v9, Same.seqT v9 g4, Same.seqT (Same.trans u5 w5) hc2, (g6.take at0).same v9⟩ ?_
      exact .cons ⟨p5, ta, sa, p4, xs, [], rfl, .inl (.inl (Same.trans u8 u9 _ _ t5)), Same.seqT v9 g2, g3.same v9, Same.seqT v9 g4, .inl (.inl (Same.trans u7 (Same.trans u8 u9) _ _ t4)), .nil⟩ .nil
    · rintro σ H ⟨x13, x14, pa, ps, ks, rfl, B, q, hR, hpa, pab, hu, lk, _⟩
      rw [List.length_reverse] at lk B hu
      rw [List.take_of_length_le (by rw [List.length_reverse]; omega)] at hu
      exact hN _ _ ⟨_, _, _, _, _, rfl, B.le (by omega), q, hpa, hu, by omega⟩
  · rintro σ H ⟨x13, x14, pa, ps, ks, rfl, B, q, hpa, hu, lk⟩
    refine seq_op fun N hN => ?_
    walk_at "rs"
    have n5 := q.n5
    have l9 := q.l9
    have plen : (partsOf L fss).length = fss.length := by unfold partsOf; rw [List.length_map]
    refine ⟨rs, SqL.of q.hD, fun q1 J1 u1 n1 t1 => ⟨ps, SqL.of (u1 _ _ hpa), fun q2 J2 u2 n2 t2 => ?_⟩⟩
    have v2 := Same.trans u1 u2
    have qq := q.same v2
    have h0 := (q.fit (vs := us) (fun u h => h) (Nat.le_refl _)).1
    rw [q.eW] at h0
    have pf := parts3_fit (n := n) (W := W) (us := us.reverse) (ks := ks) (fun u hu => q.ub u (List.mem_reverse.mp hu)) (fun u hu => h0.all u (List.mem_reverse.mp hu)) (by rw [List.length_reverse]; omega) (by rw [List.length_reverse]; omega) (fun u hu => (q.ug u (List.mem_reverse.mp hu)).gl) h0.W0 h0.W1
    refine ⟨q1, q2, rs, ps, partsOf L fss, parts3 us.reverse ks, n, L, W, inner, rfl, .inr (.inl (.inl (u2 _ _ t1))), qq.rows, qq.limB, by omega, .inr (.inl (.inl t2)), hu.same v2, pf, fun t ts2 J3 u3 n3 t3 r3 => ?_⟩
    have e3 : (partsOf L fss).map (bendR L W inner (parts3 us.reverse ks)) = (partsOf L fss).map (bendR L W inner us) := List.map_congr_left fun Xs _ => parted_bend q.ub lk L W Xs
    rw [e3] at r3
    have q3 := qq.same u3
    obtain ⟨fss2, d1, d2, d3, d4⟩ := Rows.two (Int.mul_pos q.L0 h0.W0) r3 q3.ks
    obtain ⟨ok1, ok2⟩ := okD_rows (fss := fss2) (by rw [d3, List.length_map]; omega) fun fs hfs => by
      obtain ⟨Ys, hY, e⟩ := d4 fs hfs
      obtain ⟨Xs, hX, rfl⟩ := List.mem_map.mp hY
      rw [← e, bendR_len, (q.lim Xs hX).1]
      omega
    refine ⟨.ref t, .ref kp, dRows fss2, rfl, .lst (SqL.of t3) d1.dp, .lst (SqL.of q3.hk) d2.dp, ok1, ok2, fun J4 u4 => ⟨true, rfl, iteFF (fun z => by cases z) (hN _ _ ?_)⟩⟩
    exact go16 D _ J4 b c D1 D2 hd kp sv n rs zs ts fss us L W _ _ _ _ _ _ _ _ k rfl ((B.same (Same.trans v2 (Same.trans u3 u4))).le (by omega)) (q3.same u4)
end
end LK

set_option Elab.async false
set_option linter.all false
set_option maxRecDepth 100000
namespace LK
open PySem PySem.Spec PyProof.Rows L2
local macro_rules | `(tactic| walk_at "rs") => `(tactic| simp only [cxK, cxNK, tCallZ, tAsg, tOp, rI0, rS0, rB0, rI, rU, tUn, rEq, rNe, rIxL, rIxT, rIxS, rSetL, rSlLU, rSlS, rSlU, rCatL, rCatU, rRepL, rIn, tVar, tC, gName, gSub, tIfS, tTest, tB, tAnd, tOr, tNot, tNotV, tAndV, tOrV, tIf, tCall, tCons, tNil, tCB, tDrop, tRet, tRetN, tNext, tLstU, tTupU, tM0, tM1, tPar, tPar3, tAug, ipI, tBM, tBM0, rAppend, rPop, tBreak, tCont, tChain, tSl, tPart, tNoPart, L2.start, List.map, List.length_cons, List.length_nil, List.replicate, List.cons_append, List.nil_append, List.append_nil, List.getElem?_cons_zero, List.getElem?_cons_succ, List.set_cons_zero, List.set_cons_succ, Option.some.injEq, V.int.injEq, V.ref.injEq, V.str.injEq, V.bl.injEq, exists_eq_left', exists_eq_left, exists_and_left, decide_eq_true_eq, List.cons.injEq, and_true, true_and, scal, Bool.not_eq_true', decide_eq_false_iff_not, Nat.zero_add, Nat.reduceAdd, Nat.reduceSub, reduceCtorEq, false_and, exists_false, false_or, or_false, CPow, CPowW, CMul, CDiv, Int.reduceToNat, ↓reduceIte, wipe, sw, List.nil_append, List.singleton_append])
local macro_rules | `(tactic| walk_at "st") => `(tactic| (refine seq_op fun N hN => ?_; walk_at "rs"))
local macro_rules | `(tactic| walk_at "sd") => `(tactic| first | assumption | decide | omega)
local macro_rules | `(tactic| walk_at "rd") => `(tactic| repeat (first
  | refine ⟨_, SqL.of (by assumption), ?_⟩ | refine ⟨_, SqL.of upd_same, ?_⟩ | refine ⟨_, .inl (SqL.of (by assumption)), ?_⟩ | refine ⟨_, (by assumption : _ = some (HO.lst _)), ?_⟩ | refine ⟨_, upd_same, ?_⟩
  | refine ⟨_, rfl, ?_⟩ | refine And.intro (by walk_at "sd") ?_))

section
variable {P : Program} {w : World} {K : PySem.W.Frag} {mg : Str → Option Value} {base : Heap}
theorem ok_law (T : Txt w K mg) : FnOk P w K mg base CX0 8 T.a_law T.d_law ["script"] (sp_law K) := by
  refine T.F_law.ok sc_law (fun vs H Q E h => ?_) (fun cdv A outer s H vs Q E hr h => ?_)
  · obtain ⟨a, ns, rfl, _⟩ := h
    rfl
  · obtain ⟨a, ns, rfl, ha, l63, k⟩ := h
    have hr__law_bag : Room 1 _ := hr.mono (by decide)
    have G__law_bag := ok__law_bag (P := P) (base := base) T
    have hr__law_draw : Room 1 _ := hr.mono (by decide)
    have G__law_draw := ok__law_draw (P := P) (base := base) T
    have hr__law_light : Room 3 _ := hr.mono (by decide)
    have G__law_light := ok__law_light (P := P) (base := base) T
    have hr__law_factor : Room 3 _ := hr.mono (by decide)
    have G__law_factor := ok__law_factor (P := P) (base := base) T
    have hr__law_unit : Room 5 _ := hr.mono (by decide)
    have G__law_unit := ok__law_unit (P := P) (base := base) T
    have hr__law_state : Room 3 _ := hr.mono (by decide)
    have G__law_state := ok__law_state (P := P) (base := base) T
    have hr__law_after_bend : Room 3 _ := hr.mono (by decide)
    have G__law_after_bend := ok__law_after_bend (P := P) (base := base) T
    have hr_bend_done : Room 7 _ := hr
    have G_bend_done := ok_bend_done (P := P) (base := base) T
    have hr__law_rows_same : Room 5 _ := hr.mono (by decide)
    have G__law_rows_same := ok__law_rows_same (P := P) (base := base) T
    have hr__law_free : Room 1 _ := hr.mono (by decide)
    have G__law_free := ok__law_free (P := P) (base := base) T
    have hr__law_like : Room 5 _ := hr.mono (by decide)
    have G__law_like := ok__law_like (P := P) (base := base) T 4
    obtain ⟨t13, h13, go13⟩ := law13 (P := P) (base := base) (outer := outer) (H0 := H) (E := E) T hr
    refine ⟨_, (pss_cons (ps_set (i := 1) sc_law.nd rfl (Or.inr rfl) (pe_call G__law_bag hr__law_bag (by rfl) T.m__law_bag T.F__law_bag.kp T.B__law_bag .nil pass0 (pa_cons (pv 0) pa_nil)))
      (pss_cons (ps_set (i := 2) sc_law.nd rfl (Or.inr rfl) (pe_op op_add pe_int (pe_call G__law_draw hr__law_draw (by rfl) T.m__law_draw T.F__law_draw.kp T.B__law_draw .nil pass0 (pa_cons (pv 1) (pa_cons pe_int pa_nil)))))
      (pss_cons (ps_set (i := 3) sc_law.nd rfl (Or.inr rfl) (pe_lc (own := [("k", 4)]) (g := gName 4) (tt := tYes) rfl sc_law.nd (pi_range1 (by rfl) T.n_range (pa_cons (pe_op op_add pe_int (pe_call G__law_draw hr__law_draw (by rfl) T.m__law_draw T.F__law_draw.kp T.B__law_draw .nil pass0 (pa_cons (pv 1) (pa_cons pe_int pa_nil)))) pa_nil)) (blkOk_by (own := [("k", 4)]) (N := N_law) (sc := defScope s_law) (by decide +kernel)) (fun _ _ _ _ _ => pg_name (i := 4) sc_law.nd rfl (Or.inl rfl)) (fun _ _ _ _ _ => pts_nil) (fun _ _ _ _ _ => (pe_callTy (call_tupleNK (K := K) rfl) (by rfl) T.n_tuple (by decide +kernel) (pa_cons (pe_lc (own := [("j", 5)]) (g := gName 5) (tt := tYes) rfl sc_law.nd (pi_range1 (by rfl) T.n_range (pa_cons (pv 2) pa_nil)) (blkOk_by (own := [("j", 5)]) (N := N_law) (by kernel_rfl)) (fun _ _ _ _ _ => pg_name (i := 5) sc_law.nd rfl (Or.inl rfl)) (fun _ _ _ _ _ => pts_nil) (fun _ _ _ _ _ => (pe_call G__law_light hr__law_light (by rfl) T.m__law_light T.F__law_light.kp T.B__law_light .nil pass0 (pa_cons (pv 1) pa_nil)))) pa_nil)))))
      (pss_cons (ps_if (pt_cmpR op_eqI (pe_call G__law_draw hr__law_draw (by rfl) T.m__law_draw T.F__law_draw.kp T.B__law_draw .nil pass0 (pa_cons (pv 1) (pa_cons pe_int pa_nil))) pe_int (nomark _)) (pss_cons (ps_par (i := 4) (j := 5) (by rfl) sc_law.nd rfl rfl (by decide) rfl rfl (pa_cons (pe_call G__law_draw hr__law_draw (by rfl) T.m__law_draw T.F__law_draw.kp T.B__law_draw .nil pass0 (pa_cons (pv 1) (pa_cons (pe_callB call_len_seq (by rfl) T.n_len (by decide +kernel) (pa_cons (pv 3) pa_nil)) pa_nil))) (pa_cons (pe_call G__law_draw hr__law_draw (by rfl) T.m__law_draw T.F__law_draw.kp T.B__law_draw .nil pass0 (pa_cons (pv 1) (pa_cons (pv 2) pa_nil))) pa_nil)) (by rfl))
      (pss_one (ps_asg (pe_op op_catU (pe_op op_catU (pe_slice sl_tupU (pe_ix ix_list (pv 3) (pv 4) (fun _ _ => rfl)) po_none (po_some (pv 5))) (pe_tupU (pa_cons (pe_call G__law_factor hr__law_factor (by rfl) T.m__law_factor T.F__law_factor.kp T.B__law_factor .nil pass0 (pa_cons (pv 1) pa_nil)) pa_nil))) (pe_slice sl_tupU (pe_ix ix_list (pv 3) (pv 4) (fun _ _ => rfl)) (po_some (pe_op op_add (pv 5) pe_int)) po_none)) (pg_sub (pv 3) (pv 4) set_list)))) pss_nil)
      (pss_cons (ps_setLc (i := 6) (own := [("k", 4)]) (g := gName 4) (tt := tYes) rfl sc_law.nd rfl rfl (sw_true rfl rfl rfl (by decide +kernel)) (pi_range1 (by rfl) T.n_range (pa_cons (pe_op op_add pe_int (pe_call G__law_draw hr__law_draw (by rfl) T.m__law_draw T.F__law_draw.kp T.B__law_draw .nil pass0 (pa_cons (pv 1) (pa_cons pe_int pa_nil)))) pa_nil)) (blkOk_by (own := [("k", 4)]) (N := N_law) (sc := defScope s_law) (by decide +kernel)) (fun _ _ _ _ _ => pg_name (i := 4) sc_law.nd rfl (Or.inl rfl)) (fun _ _ _ _ _ => pts_nil) (fun _ _ _ _ _ => (pe_call G__law_unit hr__law_unit (by rfl) T.m__law_unit T.F__law_unit.kp T.B__law_unit .nil pass0 (pa_cons (pv 1) (pa_cons (pv 3) (pa_cons (pv 2) pa_nil))))))
      (pss_cons (ps_set (i := 7) sc_law.nd rfl (Or.inl rfl) (pe_call G__law_state hr__law_state (by rfl) T.m__law_state T.F__law_state.kp T.B__law_state .nil pass0 (pa_cons (pv 3) pa_nil)))
      (pss_cons (ps_set (i := 8) sc_law.nd rfl (Or.inl rfl) (pe_call G__law_after_bend hr__law_after_bend (by rfl) T.m__law_after_bend T.F__law_after_bend.kp T.B__law_after_bend .nil pass0 (pa_cons (pv 7) (pa_cons (pv 6) pa_nil))))
      (pss_cons (ps_set (i := 9) sc_law.nd rfl (Or.inl rfl) (pe_callTy call_listU (by rfl) T.n_list (by decide +kernel) (pa_cons (pv 3) pa_nil)))
      (pss_cons (ps_set (i := 10) sc_law.nd rfl (Or.inl rfl) (pe_ifExp (pt_cmpR op_eqI (pe_call G__law_draw hr__law_draw (by rfl) T.m__law_draw T.F__law_draw.kp T.B__law_draw .nil pass0 (pa_cons (pv 1) (pa_cons pe_int pa_nil))) pe_int (nomark _)) (pe_callZ (g := fun ws => ws) (gV := fun zs => zs) G_bend_done hr_bend_done (by rfl) T.m_bend_done T.F_bend_done.kp T.Z_bend_done pass0 (pk_cons (pv 9) (pk_cons (pv 6) pk_nil))) (pe_call G_bend_done hr_bend_done (by rfl) T.m_bend_done T.F_bend_done.kp T.B_bend_done .nil pass0 (pa_cons (pv 9) (pa_cons (pv 6) pa_nil)))))
      (pss_cons (ps_if (PW.pt (pw_or (pt_not (pt_val (pe_call G__law_rows_same hr__law_rows_same (by rfl) T.m__law_rows_same T.F__law_rows_same.kp T.B__law_rows_same .nil pass0 (pa_cons (pv 10) (pa_cons (pv 8) pa_nil))))) (pw_or1 (pt_not (pt_val (pe_call G__law_like hr__law_like (by rfl) T.m__law_like T.F__law_like.kp T.B__law_like .nil pass0 (pa_cons (pv 9) (pa_cons (pv 3) pa_nil)))))))) (pss_one (ps_ret pe_bl)) pss_nil)
      (pss_cons (ps_set (i := 11) sc_law.nd rfl (Or.inl rfl) (pe_callTy call_listU (by rfl) T.n_list (by decide +kernel) (pa_cons (pv 10) pa_nil)))
      (pss_cons (ps_expr (pe_bm0 PySem.F.plainAttrs_list PySem.F.slot_list_reverse PySem.F.type_list_reverse mt_reverse (pv 10)))
      (pss_cons (ps_expr (pe_bm PySem.F.plainAttrs_list PySem.F.slot_list_append PySem.F.type_list_append mt_append (pv 10) (pa_cons pe_non pa_nil)))
      h13))))))))))))), ?_⟩
    refine seq_op fun N hN => ?_
    walk_at "rs"
    refine ⟨a, ns, rfl, ha, l63, fun b c H1 s1 B1 b0 => hN _ _ ?_⟩
    clear hN N
    refine seq_op fun N hN => ?_
    walk_at "rs"
    refine ⟨b, c, 4, 1099511627775, rfl, B1, by decide, by decide, fun r H2 r0 r1 B2 K2 => ⟨r, rfl, hN _ _ ?_⟩⟩
    clear hN N
    obtain ⟨n, en, n2, n5⟩ : ∃ n : Nat, 2 + r = (n : Int) ∧ 2 ≤ n ∧ n ≤ 5 := ⟨(2 + r).toNat, by omega, by omega, by omega⟩
    rw [en]
    refine seq_op fun N hN => ?_
    walk_at "rs"
    refine ⟨_, rfl, b, c, 9, 100000, rfl, B2.le (by decide), by decide, by decide, fun r3 H3 r30 r31 B3 K3 => ⟨1, r3, rfl, rfl, 1 + r3, rfl, by omega, by omega, fun D hD => lc_draw (n := (1 + r3).toNat) (k := 20) (N := 90000) (b := b) (c := c) walk_range (RowD K n) (rowD_mono) hD (B3.le (by omega)) (by omega) (fun _ _ _ _ y => y.1) (fun _ _ => trivial) (fun x H4 M K4 B4 Q2 hq => ?_) fun H4 ys B4 K4 hD4 hl4 hy4 => hN _ _ ?_⟩⟩
    · have B4' : Bag (M + (20 - 4 * n) + (n : Int).toNat * 4) H4 b c := B4.le (by omega)
      refine ⟨_, rfl, (n : Int), rfl, by omega, by omega, fun D2 hD2 => lc_draw (n := (n : Int).toNat) walk_range (FrD K) frD_mono hD2 B4' (by omega) (fun _ _ _ _ y => y.1) (fun _ _ => trivial) (fun x H5 M5 K5 B5 Q3 hq3 => ⟨_, rfl, b, c, M5, rfl, B5, fun t f H6 okf t0 t1 B6 K6 => hq3 _ _ B6 K6 ⟨t, f, rfl, .inl (.inl (nw_of t0 t1)), okf⟩⟩) fun H5 zs B5 K5 hD5 hl5 hz5 => ?_⟩
      obtain ⟨fs, g1, g2⟩ := frD_all hz5
      refine ⟨D2, rfl, zs, SqL.of hD5, fun q H6 s6 q0 q1 => hq _ H6 ((B5.same s6).le (by omega)) (Same.trans K5 (Kp.of s6)) ⟨q, zs, fs, rfl, .inl (.inl (nw_of (Kp.bn K5 B5.at.choose_spec q0) q1)), ?_, ?_, g2⟩⟩
      · refine (g1.same (nw_anti (H0 := H4) fun u e => ?_)).same (nw_same fun u o _ e => s6 _ _ e)
        unfold L2.upd at e
        split at e
        · cases e
        · exact e
      · have := g1.len
        omega
    clear hN N
    have Db : D ≠ b := new_ne B3 hD
    obtain ⟨fss, fr, gd⟩ := rowD_all (n := n) (fun v hv => rowD_mono _ _ _ (nw_le _ _) (hy4 v hv))
    have lf := fr.len
    have pd : prodDD fss ≤ 97 ^ 45 := rows_prod gd (by omega) n5
    refine cut_seq (fun σ H5 => ∃ (x4 x5 : Option V) (rs : List V) (fss : List (List Fr)), σ = [some (.ref a), some (.ref b), some (.int (n : Int)), some (.ref D), x4, x5, none, none, none, none, none, none, none, none, none, none, none, none] ∧ Bag 80000 H5 b c ∧ H5 D = some (.lst rs) ∧ FRows K H5 rs fss ∧ RowsG n fss ∧ prodDD fss < 2 ^ 391 ∧ fss ≠ [] ∧ fss.length ≤ 9) (fun N hN => ?_) ?_
    · have rg : RowsG n fss := fun fs hfs => ⟨(gd fs hfs).1, fun f hf => by
        obtain ⟨o1, o2, o3, o4⟩ := (gd fs hfs).2 f hf
        exact ⟨o1, o2, Nat.le_trans o3 (by decide), Nat.le_trans o4 (by decide)⟩⟩
      have nf : fss ≠ [] := fun e => by rw [e] at lf; rw [List.length_nil] at lf; omega
      walk_at "rs"
      refine ⟨b, c, 6, 89999, rfl, B4, by decide, by decide, fun r5 H5 r50 r51 B5 K5 => ⟨r5, rfl, ite2 (fun _ => ?_) (fun _ => ?_)⟩⟩
      · refine seq_op fun N1 hN1 => ?_
        walk_at "rs"
        refine ⟨ys, .inl (SqL.of (Kp.get K5 Db hD4)), b, c, _, 89998, rfl, B5, by omega, by omega, fun rk H6 rk0 rk1 B6 K6 => ⟨b, c, _, 89997, rfl, B6, by omega, by omega, fun rj H7 rj0 rj1 B7 K7 => ⟨_, _, ⟨rfl, rfl⟩, hN1 _ _ ?_⟩⟩⟩
        clear hN1 N1
        obtain ⟨k1, rfl⟩ : ∃ k1 : Nat, rk = (k1 : Int) := ⟨rk.toNat, by omega⟩
        obtain ⟨j1, rfl⟩ : ∃ j1 : Nat, rj = (j1 : Int) := ⟨rj.toNat, by omega⟩
        walk_at "rs"
        have K47 := Same.trans K5 (Same.trans K6 K7)
        have fr7 := fr.kp B4 K47
        have hD7 := Kp.get K47 Db hD4
        obtain ⟨ra, rys, fs, e1, e2, hs, hf⟩ := fr7.get (n := k1) (by omega)
        have B7 : Bag 89997 H7 b c := B7
        have gfs := gd fs (List.mem_of_getElem? e2)
        have lrys := hf.len
        refine ⟨ys, SqL.of hD7, _, at_ofN rfl e1, ra, rfl, rys, hs, fun q1 H8 s8 hq1 => ⟨b, c, 80000, rfl, (B7.same s8).le (by omega), fun tf f H9 okf tf0 tf1 B9 K9 => ⟨by decide, fun p2 H10 s10 p20 p21 => ?_⟩⟩⟩
        have B8 := B7.same s8
        have hD10 := s10 _ _ (Kp.get K9 Db (s8 _ _ hD7))
        have hs10 := Same.seqT s10 (seqT_kp B8 K9 (Same.seqT s8 hs))
        have hf10 := ((hf.same s8).kp B8 K9).same s10
        have hq10 := Same.seqT s10 (seqT_kp B8 K9 hq1)
        have fr10 := ((fr7.same s8).kp B8 K9).same s10
        have tf10 := s10 _ _ tf1
        rw [cutV_take] at hq10
        have lcut : (rys.take j1).length ≤ 5 := by rw [List.length_take]; omega
        refine ⟨_, hq10, _, .inl (.inl p21), Nat.le_trans (show (rys.take j1).length + 1 ≤ 10 by omega) (by decide), fun q3 H11 s11 hq3 => ⟨ys, SqL.of (s11 _ _ hD10), _, at_ofN rfl e1, ra, rfl, rys, Same.seqT s11 hs10, fun q4 H12 s12 hq4 => ?_⟩⟩
        rw [show ((j1 : Int) + 1) = ((j1 + 1 : Nat) : Int) by omega, cutV_drop] at hq4
        have lcut2 : (rys.drop (j1 + 1)).length ≤ 5 := by rw [List.length_drop]; omega
        refine ⟨_, Same.seqT s12 hq3, _, hq4, Nat.le_trans (show _ ≤ 20 by rw [List.length_append]; simp only [List.length_cons, List.length_nil]; omega) (by decide), fun q5 H13 s13 hq5 => ?_⟩
        have s1013 := Same.trans s11 (Same.trans s12 s13)
        have hD13 := s1013 _ _ hD10
        obtain ⟨xc, ec⟩ := B3.at2
        have ncD : c ≠ D := fun e => by rw [← e, ec] at hD; cases hD
        have lfs : fs.length = n := gfs.1
        have hq1 := (((hf10.take j1).app (Frs.one (f := f) (.inl (.inl tf10)))).app (hf10.drop (j1 + 1))).same s1013
        have p97 : prodD (fs.take j1 ++ fs.drop (j1 + 1)) ≤ 97 ^ 5 := by
          refine Nat.le_trans (prodD_le (B := 97) fun g hg => ?_) (Nat.pow_le_pow_right (by decide) (?_ : _ ≤ 5))
          · rcases List.mem_append.mp hg with hg | hg
            · exact (gfs.2 g (List.mem_of_mem_take hg)).2.2.2
            · exact (gfs.2 g (List.mem_of_mem_drop hg)).2.2.2
          · rw [List.length_append, List.length_take, List.length_drop]; omega
        have pg : prodD (fs.take j1 ++ [f] ++ fs.drop (j1 + 1)) ≤ 97 ^ 5 * 1000000000000000000 := by
          rw [prodD_app] at p97
          rw [prodD_app, prodD_app]
          show prodD (fs.take j1) * (f.2.natAbs * 1) * prodD (fs.drop (j1 + 1)) ≤ _
          rw [Nat.mul_one, Nat.mul_assoc, Nat.mul_comm f.2.natAbs, ← Nat.mul_assoc]
          exact Nat.mul_le_mul p97 okf.2.2.2
        have pset := prodDD_set (B := 97 ^ 5) (C := 1000000000000000000) (by decide) (fss := fss) (k := k1) (fun gs hgs => by
          refine Nat.le_trans (prodD_le (B := 97) fun g hg => ((gd gs hgs).2 g hg).2.2.2) (Nat.pow_le_pow_right (by decide) ?_)
          rw [(gd gs hgs).1]
          exact n5) pg
        refine ⟨ys, hD13, k1, ixN_nat (by omega), hN _ _ ⟨_, _, _, fss.set k1 (fs.take j1 ++ [f] ++ fs.drop (j1 + 1)), rfl, ((((B9.same s10).same s1013).le (by omega)).upd Db.symm ncD), upd_same, FRows.set (seqT_upd hD13 hq5) (hq1.upd hD13) k1 ((fr10.same s1013).upd2 hD13), fun gs hgs => ?_, Nat.lt_of_le_of_lt (Nat.le_trans pset (Nat.mul_le_mul_right _ (Nat.pow_le_pow_right (by decide) (show fss.length ≤ 9 by omega)))) (by decide), fun e => nf (List.length_eq_zero_iff.mp (by rw [← List.length_set (i := k1) (a := fs.take j1 ++ [f] ++ fs.drop (j1 + 1)), e]; rfl)), by rw [List.length_set]; omega⟩⟩
        rcases List.mem_or_eq_of_mem_set hgs with hgs | rfl
        · exact rg gs hgs
        · refine ⟨by rw [List.length_append, List.length_append, List.length_take, List.length_drop]; simp only [List.length_cons, List.length_nil]; omega, fun g hg => ?_⟩
          have rfs := rg fs (List.mem_of_getElem? e2)
          rcases List.mem_append.mp hg with hg | hg
          · rcases List.mem_append.mp hg with hg | hg
            · exact rfs.2 g (List.mem_of_mem_take hg)
            · obtain rfl := List.mem_singleton.mp hg
              exact okf
          · exact rfs.2 g (List.mem_of_mem_drop hg)
      · exact hN _ _ ⟨_, _, ys, fss, rfl, B5.le (by decide), Kp.get K5 Db hD4, fr.kp B4 K5, rg, Nat.lt_of_le_of_lt pd (by decide), nf, by omega⟩
    · rintro σ H5 ⟨x4, x5, rs, fss, rfl, B5, hD5, fr5, rg, pd, nf, l9⟩
      refine seq_op fun N hN => ?_
      walk_at "rs"
      refine ⟨_, rfl, b, c, 6, 79999, rfl, B5, by decide, by decide, fun r6 H6 r60 r61 B6 K6 => ⟨1, r6, rfl, rfl, 1 + r6, rfl, by omega, by omega, fun D2 hD2 => lc_bagK (n := (1 + r6).toNat) (k := 39) (N := 70000) (b := b) (c := c) walk_range hD2 (B6.le (by omega)) (by omega) (UnsG K n) (fun M G G' ys B k ⟨us, h1, h2⟩ => ⟨us, h1.kp B k, h2⟩) (fun H ys zs o hp ⟨us, h1, h2⟩ => ⟨us, h1.upd hp, h2⟩) (fun H => ⟨[], .nil, fun u hu => absurd hu (by simp)⟩) (fun _ _ _ _ y => y.1) (fun _ _ => trivial) (fun x H7 M K7 B7 Q2 hq => ?_) fun H7 zs B7 K7 hD7 hl7 hu7 => hN _ _ ?_⟩⟩
      · have K57 : Kp b H5 H7 := Same.trans K6 K7
        exact ⟨_, rfl, _, rfl, _, rfl, b, c, D, M, n, rs, fss, rfl, B7, by omega, by omega, Db, Kp.get K57 Db hD5, fr5.kp B5 K57, rg, nf, by omega, fun v u H8 B8 K8 h8 g8 => hq v H8 B8 K8 fun ys ⟨us, h1, h2⟩ => ⟨us ++ [u], h1.app (.cons h8 .nil), fun w hw => by
          rcases List.mem_append.mp hw with hw | hw
          · exact h2 w hw
          · obtain rfl := List.mem_singleton.mp hw
            exact g8⟩⟩
      clear hN N
      obtain ⟨us, hus, ug⟩ := hu7
      have K57 : Kp b H5 H7 := Same.trans K6 K7
      have hD7' : H7 D = some (.lst rs) := Kp.get K57 Db hD5
      have fr7 := fr5.kp B5 K57
      have D2b : D2 ≠ b := new_ne B6 hD2
      have lus := hus.len
      have lus6 : us.length ≤ 6 := by omega
      have rl := fr7.len
      have bnd : ∀ fs ∈ fss, ∀ f ∈ fs, 1 ≤ f.2 ∧ f.1.natAbs < 2 ^ 60 := fun fs hfs f hf => by
        obtain ⟨o1, _, o3, _⟩ := (rg fs hfs).2 f hf
        exact ⟨o1, Nat.lt_of_le_of_lt o3 (by decide)⟩
      refine seq_op fun N hN => ?_
      walk_at "rs"
      refine ⟨D, rs, fss, rfl, .inl (SqL.of hD7'), fr7, fun fs hfs f hf => ⟨(bnd fs hfs f hf).1, pow_le (bnd fs hfs f hf).2 (by decide)⟩, pow_le pd (by decide), by omega, fun fs hfs => by have := (rg fs hfs).1; omega, fun sv H8 s8 st8 => hN _ _ ?_⟩
      clear hN N
      have h1 : ∀ fs ∈ fss, ∀ f ∈ fs, 1 ≤ f.2 := fun fs hfs f hf => (bnd fs hfs f hf).1
      obtain ⟨L0, _, Ld, Ll⟩ := rowsL_spec (l := 1) (fss := fss) (by decide) h1
      have lL : (rowsL 1 fss).natAbs < 2 ^ 391 := Nat.lt_of_le_of_lt Ll (by rw [show (1 : Int).natAbs = 1 from rfl, Nat.one_mul]; exact pd)
      generalize hL : rowsL 1 fss = L at *
      have lim : ∀ Xs ∈ partsOf L fss, Xs.length = n ∧ ∀ X ∈ Xs, X.natAbs < 2 ^ 451 := fun Xs hX => by
        obtain ⟨fs, hfs, rfl⟩ := List.mem_map.mp hX
        refine ⟨by rw [List.length_map]; exact (rg fs hfs).1, fun X hx => ?_⟩
        obtain ⟨f, hf, rfl⟩ := List.mem_map.mp hx
        exact num_bound (a := 391) (b := 60) lL (bnd fs hfs f hf).2
      have ub : ∀ u ∈ us, UB n u := fun u hu => (ug u hu).ub
      refine seq_op fun N hN => ?_
      walk_at "rs"
      have pU : prodUs us < 2 ^ 601 := Nat.lt_of_le_of_lt (prodUs_le fun u hu => Nat.le_of_lt (ug u hu).pu) (Nat.lt_of_le_of_lt (Nat.pow_le_pow_right (by decide) lus6) (by decide))
      have gU : (us.map fun u => u.giv.length).sum ≤ 18 := Nat.le_trans (sumG_le fun u hu => (ug u hu).gl) (by omega)
      refine ⟨sv, D2, zs, us, partsOf L fss, n, L, rfl, st8, fun Xs hX => ⟨(lim Xs hX).1, L0, pow_le lL (by decide), fun X hx => pow_le ((lim Xs hX).2 X hx) (by decide)⟩, L0, pow_le lL (by decide), by unfold partsOf; rw [List.length_map]; omega, by omega, .inl (SqL.of (s8 _ _ hD7)), hus.same s8, ub, pow_le pU (by decide), by omega, by omega, fun dv H9 s9 st9 => hN _ _ ?_⟩
      clear hN N
      have uf := ufit_of ub (pow_le pU (by decide)) (by omega) (by omega)
      generalize hW : moreF 1 us = W at *
      refine seq_op fun N hN => ?_
      walk_at "rs"
      refine ⟨rs, .inl (SqL.of (s9 _ _ (s8 _ _ hD7'))), fun hd H10 s10 hd0 hd1 => hN _ _ ?_⟩
      clear hN N
      have B10 := ((B7.same s8).same s9).same s10
      have s710 := Same.trans s8 (Same.trans s9 s10)
      have hdb : hd ≠ b := new_ne ((B7.same s8).same s9) hd0
      refine seq_op fun N hN => ?_
      walk_at "rs"
      refine ⟨b, c, 4, 69999, rfl, B10, by decide, by decide, fun r11 H11 _ _ B11 K11 => ⟨r11, rfl, ?_⟩⟩
      have K711 : Kp b H7 H11 := Same.trans (Kp.of s710) K11
      have rows11 : Rows K H11 L rs (partsOf L fss) := rows_of (fr7.kp B7 K711) fun fs hfs f hf => by
        obtain ⟨o1, o2, _⟩ := (rg fs hfs).2 f hf
        exact ⟨⟨o1, o2⟩, Ld fs hfs f hf⟩
      have hd11 := Kp.get K11 hdb hd1
      have lp : (partsOf L fss).length = fss.length := by unfold partsOf; rw [List.length_map]
      have limB : ∀ Xs ∈ partsOf L fss, Xs.length = n ∧ LimR L Xs := fun Xs hX => ⟨(lim Xs hX).1, L0, pow_le lL (by decide), fun X hx => pow_le ((lim Xs hX).2 X hx) (by decide)⟩
      have bend : sp_bend K [V.ref hd, V.ref D2] H11 (fun x H1 => N [some (V.ref a), some (V.ref b), some (V.int (n : Int)), some (V.ref D), x4, x5, some (V.ref D2), some sv, some dv, some (V.ref hd), some x, none, none, none, none, none, none, none] H1) E0 :=
        ⟨hd, D2, rs, zs, partsOf L fss, us, n, L, W, inner, rfl, .inl (SqL.of hd11), rows11, limB, by omega, .inl (SqL.of (Kp.get K711 D2b hD7)), hus.kp B7 K711, uf, fun t ts H12 s12 t0 t1 rows12 => hN _ _ ?_⟩
      · exact ite2 (fun _ => bend) (fun _ => bend)
      clear hN N
      have st12 := (StateAt.kp B10 K11 (st9.same s10)).same s12
      refine seq_op fun N hN => ?_
      walk_at "rs"
      have B11' := B11.same s12
      have fr12 : FRows K H12 rs fss := (fr7.kp B7 K711).same s12
      have hD12 : H12 D = some (.lst rs) := s12 _ _ (Kp.get K711 Db hD7')
      have hd12 := s12 _ _ hd11
      have W0 := uf.W0
      have W1 := uf.W1
      have small : Small (L * W) ((partsOf L fss).map (bendR L W inner us)) := by
        refine ⟨Int.mul_pos L0 W0, pow_le (wide_lt lL W1) (by decide), fun Ys hY => ?_⟩
        obtain ⟨Xs, hX, rfl⟩ := List.mem_map.mp hY
        obtain ⟨ln, li⟩ := limB Xs hX
        refine ⟨by rw [bendR_len]; omega, fun X hx => ?_⟩
        have gl := bendG_len L W inner Xs us
        have uf' : UsFit Xs.length inner W us := by rw [ln]; exact uf
        have := foldG_bound (Nat.le_refl 2500) (fun X hX => by
          obtain ⟨Z, hZ, rfl⟩ := List.mem_map.mp hX
          exact pow_le (a := 2000) (wide_lt (li.2.2 Z hZ) W1) (by decide)) (fun p hp => (bendG_ok li uf' p hp).2) X hx
        exact pow_le this (by omega)
      obtain ⟨ok1, ok2⟩ := okD_rows (fss := fss) (by omega) fun fs hfs => by have := (rg fs hfs).1; omega
      refine ⟨t, dv, ts, _, L * W, rfl, SqL.of t1, rows12, st12, small, by rw [List.length_map]; omega, fun H13 s13 => ⟨true, rfl, iteFF (fun z => by cases z) ⟨.ref hd, .ref D, dRows fss, rfl, .lst (SqL.of (s13 _ _ hd12)) (fr12.same s13).dp, .lst (SqL.of (s13 _ _ hD12)) (fr12.same s13).dp, ok1, ok2, fun H14 s14 => ⟨true, rfl, iteFF (fun z => by cases z) (hN _ _ ?_)⟩⟩⟩⟩
      clear hN N
      have s124 := Same.trans s13 s14
      have t14 := s124 _ _ t1
      have tb : t ≠ b := new_ne B11 t0
      refine seq_op fun N hN => ?_
      walk_at "rs"
      refine ⟨ts, .inl (SqL.of t14), fun kp H15 s15 kp0 kp1 => hN _ _ ?_⟩
      clear hN N
      have kt : kp ≠ t := fun e => by rw [e, t14] at kp0; cases kp0
      have t15 := s15 _ _ t14
      refine seq_op fun N hN => ?_
      walk_at "rs"
      refine ⟨.inl ⟨rfl, _, SqL.of t15⟩, t, ts, rfl, rfl, t15, hN _ _ ?_⟩
      clear hN N
      refine seq_op fun N hN => ?_
      walk_at "rs"
      refine ⟨.inl ⟨rfl, _, SqL.of upd_same⟩, _, upd_same, by
        rw [List.length_reverse, rows12.len, List.length_map]
        exact Nat.lt_of_le_of_lt (show _ ≤ 9 by omega) (by decide), hN _ _ ?_⟩
      clear hN N
      have sE : Same H11 (L2.upd (L2.upd H15 t (.lst ts.reverse)) t (.lst (ts.reverse ++ [V.non]))) := fun p o e => by
        have nt : p ≠ t := fun z => by rw [z, t0] at e; cases e
        rw [upd_ne nt, upd_ne nt]
        exact s15 _ _ (s124 _ _ (s12 _ _ e))
      have kpE : (L2.upd (L2.upd H15 t (.lst ts.reverse)) t (.lst (ts.reverse ++ [V.non]))) kp = some (.lst ts) := by rw [upd_ne kt, upd_ne kt]; exact kp1
      have rE := (((rows12.same s124).same s15).upd t15 (o := .lst ts.reverse)).upd upd_same (o := .lst (ts.reverse ++ [V.non]))
      generalize (L2.upd (L2.upd H15 t (.lst ts.reverse)) t (.lst (ts.reverse ++ [V.non]))) = HE at *
      have kpb : kp ≠ b := fun e => by
        have := (B11'.same s124)
        exact new_ne this kp0 e
      refine go13 _ _ HE b c D D2 hd kp sv n rs zs ts fss us L W _ _ _ _ _ k rfl ((B11.same sE).le (by omega)) ⟨n2, n5, sE _ _ (Kp.get K711 Db hD7'), sE _ _ hd11, sE _ _ (Kp.get K711 D2b hD7), kpE, Db, hdb, D2b, kpb, (fr7.kp B7 K711).same sE, rg, l9, (hus.kp B7 K711).same sE, ug, lus6, ?_, rE, hW, L0, lL, Ld⟩
      exact ((st8.same s9).same s10 |>.kp B10 K11).same sE
end
end LK

set_option Elab.async false
set_option linter.all false
set_option maxRecDepth 100000
namespace LK
open PySem PySem.Spec PyProof.Rows L2
local macro_rules | `(tactic| walk_at "rs") => `(tactic| simp only [cxK, cxNK, tCallZ, tAsg, tOp, rI0, rS0, rB0, rI, rU, tUn, rEq, rNe, rIxL, rIxT, rIxS, rSetL, rSlLU, rSlS, rSlU, rCatL, rCatU, rRepL, rIn, tVar, tC, gName, gSub, tIfS, tTest, tB, tAnd, tOr, tNot, tNotV, tAndV, tOrV, tIf, tCall, tCons, tNil, tCB, tDrop, tRet, tRetN, tNext, tLstU, tTupU, tM0, tM1, tPar, tPar3, tAug, ipI, tBM, tBM0, rAppend, rPop, tBreak, tCont, tChain, tSl, tPart, tNoPart, L2.start, List.map, List.length_cons, List.length_nil, List.replicate, List.cons_append, List.nil_append, List.append_nil, List.getElem?_cons_zero, List.getElem?_cons_succ, List.set_cons_zero, List.set_cons_succ, Option.some.injEq, V.int.injEq, V.ref.injEq, V.str.injEq, V.bl.injEq, exists_eq_left', exists_eq_left, exists_and_left, decide_eq_true_eq, List.cons.injEq, and_true, true_and, scal, Bool.not_eq_true', decide_eq_false_iff_not, Nat.zero_add, Nat.reduceAdd, Nat.reduceSub, reduceCtorEq, false_and, exists_false, false_or, or_false, CPow, CPowW, CMul, CDiv, Int.reduceToNat, ↓reduceIte, wipe, sw, List.nil_append, List.singleton_append])
local macro_rules | `(tactic| walk_at "st") => `(tactic| (refine seq_op fun N hN => ?_; walk_at "rs"))
local macro_rules | `(tactic| walk_at "sd") => `(tactic| first | assumption | decide | omega)
local macro_rules | `(tactic| walk_at "rd") => `(tactic| repeat (first
  | refine ⟨_, SqL.of (by assumption), ?_⟩ | refine ⟨_, SqL.of upd_same, ?_⟩ | refine ⟨_, .inl (SqL.of (by assumption)), ?_⟩ | refine ⟨_, (by assumption : _ = some (HO.lst _)), ?_⟩ | refine ⟨_, upd_same, ?_⟩
  | refine ⟨_, rfl, ?_⟩ | refine And.intro (by walk_at "sd") ?_))
/-! ### what the head tells, as Bools -/
def oexB (K : PySem.W.Frag) (C : Addr) : Bool := (match K.lookup C with
  | some ⟨.type c, _, .cls cd, sl⟩ => (match cd.mro, sl.toList with
    | .ref C' :: bm, [_, _, _, _, some (.builtin n), _] => decide (c = "type") && (decide (C' = C) && (decide (n = "ValueError.__new__") && (!cd.hasDel && (cd.hasDict && PySem.HandSPX.refsVE bm))))
    | _, _ => false)
  | _ => false) && (He.eqO (PySem.W.findIn K (.ref C) "__setattr__") (some (some (.builtin "object.__setattr__"))) && (decide (PySem.W.subIn K (.ref C) (.type "BaseException") = some true) && (decide (PySem.W.typeIn K (.ref C) = some (.type "type")) && PySem.W.keepIn K (.ref C))))
theorem oexB_ok {K : PySem.W.Frag} {C : Addr} (h : oexB K C = true) : OexC K C := by
  obtain ⟨h1, h2⟩ := He.ba h
  obtain ⟨h3, h4⟩ := He.ba h2
  obtain ⟨h5, h6⟩ := He.ba h4
  obtain ⟨h7, h8⟩ := He.ba h6
  refine ⟨?_, He.eqO_ok h3, of_decide_eq_true h5, of_decide_eq_true h7, h8⟩
  cases e : K.lookup C with
  | none => rw [e] at h1; cases h1
  | some ob =>
    obtain ⟨oc, od, dt, osl⟩ := ob
    rw [e] at h1
    cases oc with
    | type c =>
      cases dt with
      | cls cd =>
        obtain ⟨nm, bs, mro, ns, qn, hd, sn, sb, ab, col, del⟩ := cd
        dsimp only at h1
        split at h1
        · rename_i xl C' bm k0 k1 k2 k3 n k5 es
          obtain ⟨a1, b1⟩ := He.ba h1
          obtain ⟨a2, b2⟩ := He.ba b1
          obtain ⟨a3, b3⟩ := He.ba b2
          obtain ⟨a4, b4⟩ := He.ba b3
          obtain ⟨a5, a6⟩ := He.ba b4
          have ec : c = "type" := of_decide_eq_true a1
          have eC : C' = C := of_decide_eq_true a2
          have en : n = "ValueError.__new__" := of_decide_eq_true a3
          have ed : del = false := by cases del with
            | false => rfl
            | true => cases a4
          have eh : hd = true := a5
          have eo : osl = #[k0, k1, k2, k3, some (.builtin n), k5] := by
            have := congrArg List.toArray es
            simpa using this
          subst ec eC en ed eh eo
          exact ⟨nm, qn, ns, bs, bm, sn, sb, ab, col, od, k0, k1, k2, k3, k5, rfl, a6⟩
        · cases h1
      | _ => cases h1
    | _ => cases dt <;> cases h1
def bvC (K : PySem.W.Frag) : Addr := He.ga K "BadValue"
def bvI (K : PySem.W.Frag) : Addr := He.fAd K ("BadValue", some "__init__")
def exB (K : PySem.W.Frag) : Bool := oexB K (bvC K) && (He.eqO (PySem.W.nsIn K mainGlobals "gcd") (some (some (.builtin "math.gcd"))) && (decide (PySem.W.typeIn K (.ref (bvI K)) = some (.type "function")) && (He.eqO (PySem.W.findIn K (.ref (bvC K)) "__init__") (some (some (.ref (bvI K)))) && (He.tupB K "ZERO" [.int 0, .int 1]))))
def dInit : He.DefD := ⟨("BadValue", some "__init__"), "__init__", "BadValue.__init__", defArgs s_BadValue, defBody s_BadValue, defScope s_BadValue, [], []⟩
def D_is_number : He.DefD := ⟨("is_number", none), "is_number", "is_number", defArgs s_is_number, defBody s_is_number, defScope s_is_number, [], []⟩
def D_fraction : He.DefD := ⟨("fraction", none), "fraction", "fraction", defArgs s_fraction, defBody s_fraction, defScope s_fraction, [.int 1], []⟩
def D_plus : He.DefD := ⟨("plus", none), "plus", "plus", defArgs s_plus, defBody s_plus, defScope s_plus, [], []⟩
def D_times : He.DefD := ⟨("times", none), "times", "times", defArgs s_times, defBody s_times, defScope s_times, [], []⟩
def D_below : He.DefD := ⟨("below", none), "below", "below", defArgs s_below, defBody s_below, defScope s_below, [], []⟩
def D_row_with : He.DefD := ⟨("row_with", none), "row_with", "row_with", defArgs s_row_with, defBody s_row_with, defScope s_row_with, [], []⟩
def D_sum_of : He.DefD := ⟨("sum_of", none), "sum_of", "sum_of", defArgs s_sum_of, defBody s_sum_of, defScope s_sum_of, [], []⟩
def D_unit_gifts : He.DefD := ⟨("unit_gifts", none), "unit_gifts", "unit_gifts", defArgs s_unit_gifts, defBody s_unit_gifts, defScope s_unit_gifts, [], []⟩
def D_bend_done : He.DefD := ⟨("bend_done", none), "bend_done", "bend_done", defArgs s_bend_done, defBody s_bend_done, defScope s_bend_done, [], []⟩
def D__law_bag : He.DefD := ⟨("_law_bag", none), "_law_bag", "_law_bag", defArgs s__law_bag, defBody s__law_bag, defScope s__law_bag, [], []⟩
def D__law_draw : He.DefD := ⟨("_law_draw", none), "_law_draw", "_law_draw", defArgs s__law_draw, defBody s__law_draw, defScope s__law_draw, [], []⟩
def D__law_of : He.DefD := ⟨("_law_of", none), "_law_of", "_law_of", defArgs s__law_of, defBody s__law_of, defScope s__law_of, [], []⟩
def D__law_like : He.DefD := ⟨("_law_like", none), "_law_like", "_law_like", defArgs s__law_like, defBody s__law_like, defScope s__law_like, [], []⟩
def D__law_gcd : He.DefD := ⟨("_law_gcd", none), "_law_gcd", "_law_gcd", defArgs s__law_gcd, defBody s__law_gcd, defScope s__law_gcd, [], []⟩
def D__law_low : He.DefD := ⟨("_law_low", none), "_law_low", "_law_low", defArgs s__law_low, defBody s__law_low, defScope s__law_low, [], []⟩
def D__law_plus : He.DefD := ⟨("_law_plus", none), "_law_plus", "_law_plus", defArgs s__law_plus, defBody s__law_plus, defScope s__law_plus, [], []⟩
def D__law_great : He.DefD := ⟨("_law_great", none), "_law_great", "_law_great", defArgs s__law_great, defBody s__law_great, defScope s__law_great, [], []⟩
def D__law_factor : He.DefD := ⟨("_law_factor", none), "_law_factor", "_law_factor", defArgs s__law_factor, defBody s__law_factor, defScope s__law_factor, [], []⟩
def D__law_number : He.DefD := ⟨("_law_number", none), "_law_number", "_law_number", defArgs s__law_number, defBody s__law_number, defScope s__law_number, [], []⟩
def D__law_is_fraction : He.DefD := ⟨("_law_is_fraction", none), "_law_is_fraction", "_law_is_fraction", defArgs s__law_is_fraction, defBody s__law_is_fraction, defScope s__law_is_fraction, [], []⟩
def D__law_common : He.DefD := ⟨("_law_common", none), "_law_common", "_law_common", defArgs s__law_common, defBody s__law_common, defScope s__law_common, [], []⟩
def D__law_state : He.DefD := ⟨("_law_state", none), "_law_state", "_law_state", defArgs s__law_state, defBody s__law_state, defScope s__law_state, [], []⟩
def D__law_after_bend : He.DefD := ⟨("_law_after_bend", none), "_law_after_bend", "_law_after_bend", defArgs s__law_after_bend, defBody s__law_after_bend, defScope s__law_after_bend, [], []⟩
def D__law_same : He.DefD := ⟨("_law_same", none), "_law_same", "_law_same", defArgs s__law_same, defBody s__law_same, defScope s__law_same, [], []⟩
def D__law_row_same : He.DefD := ⟨("_law_row_same", none), "_law_row_same", "_law_row_same", defArgs s__law_row_same, defBody s__law_row_same, defScope s__law_row_same, [], []⟩
def D__law_rows_same : He.DefD := ⟨("_law_rows_same", none), "_law_rows_same", "_law_rows_same", defArgs s__law_rows_same, defBody s__law_rows_same, defScope s__law_rows_same, [], []⟩
def D__law_light : He.DefD := ⟨("_law_light", none), "_law_light", "_law_light", defArgs s__law_light, defBody s__law_light, defScope s__law_light, [], []⟩
def D__law_lights : He.DefD := ⟨("_law_lights", none), "_law_lights", "_law_lights", defArgs s__law_lights, defBody s__law_lights, defScope s__law_lights, [], []⟩
def D__law_value : He.DefD := ⟨("_law_value", none), "_law_value", "_law_value", defArgs s__law_value, defBody s__law_value, defScope s__law_value, [], []⟩
def D__law_unit : He.DefD := ⟨("_law_unit", none), "_law_unit", "_law_unit", defArgs s__law_unit, defBody s__law_unit, defScope s__law_unit, [], []⟩
def D__law_free : He.DefD := ⟨("_law_free", none), "_law_free", "_law_free", defArgs s__law_free, defBody s__law_free, defScope s__law_free, [], []⟩
def D_law : He.DefD := ⟨("law", none), "law", "law", defArgs s_law, defBody s_law, defScope s_law, [], []⟩
def fnL : List He.DefD := [dInit, D_is_number, D_fraction, D_plus, D_times, D_below, D_row_with, D_sum_of, D_unit_gifts, D_bend_done, D__law_bag, D__law_draw, D__law_of, D__law_like, D__law_gcd, D__law_low, D__law_plus, D__law_great, D__law_factor, D__law_number, D__law_is_fraction, D__law_common, D__law_state, D__law_after_bend, D__law_same, D__law_row_same, D__law_rows_same, D__law_light, D__law_lights, D__law_value, D__law_unit, D__law_free, D_law]
def faL : List He.Fa := [.free "len", .free "int", .free "list", .free "tuple", .free "bool", .free "str", .free "dict", .free "isinstance", .free "all", .free "range", .free "zip", .free "abs", .glo "ZERO", .glo "BadValue", .glo "is_number", .glo "fraction", .glo "plus", .glo "times", .glo "below", .glo "row_with", .glo "sum_of", .glo "unit_gifts", .glo "bend_done", .glo "_law_bag", .glo "_law_draw", .glo "_law_of", .glo "_law_like", .glo "_law_gcd", .glo "_law_low", .glo "_law_plus", .glo "_law_great", .glo "_law_factor", .glo "_law_number", .glo "_law_is_fraction", .glo "_law_common", .glo "_law_state", .glo "_law_after_bend", .glo "_law_same", .glo "_law_row_same", .glo "_law_rows_same", .glo "_law_light", .glo "_law_lights", .glo "_law_value", .glo "_law_unit", .glo "_law_free", .glo "law", .noat "BadValue" "value", .noat "BadValue" "code"]
theorem fun_ofD {K : PySem.W.Frag} {x q : Str} {st : Stmt} {f : Addr} {fd : FuncData} {kws : List (Str × V)} (F : FunD K x q (defArgs st) (defBody st) (defScope st) [] kws f fd) : Fun K x q st f fd := by
  obtain ⟨oc, od, dV, kV, doc, pm, an, cdv, ct, osl, rfl, lk, hcd, hD, _⟩ := F.ex
  rcases hD with ⟨_, rfl⟩ | ⟨e, _⟩
  · exact ⟨⟨oc, od, kV, doc, pm, an, cdv, ct, osl, rfl, lk, hcd⟩, F.kp⟩
  · exact absurd rfl e
set_option maxHeartbeats 0 in
theorem facts {P : Program} {w : World} {K : PySem.W.Frag} {h : Heap} {mg : Str → Option Value} {f : Addr} (X : K.In h) (G : h.Ns mainGlobals mg) (hfa : mg ("law" : Str) = some (.ref f)) (c : He.SaysX faL fnL [] [] exB w h K) :
    ∃ (fd : FuncData) (cs : List (Addr × Addr)) (sp : Sp), (∀ p ∈ cs, h.get? p.2 = some { cls := .none, data := .fields #[] }) ∧ (∀ p ∈ cs, K.lookup p.2 = none) ∧ (∀ p ∈ cs, PySem.W.CodeHd h p.1 p.2) ∧ (∀ (s : Shared) (u : Value), BindsTo s fd ⟨[u], []⟩ [("script", u)]) ∧
      (∀ (H : Hp) (a : Addr) (ns : List Int), ns.length ≤ 63 → (∀ z ∈ ns, Builtin.Int.intBits z ≤ 1048576) → (∀ p ∈ cs, H p.2 = some (.tbl #[])) → SqL K H a (ns.map V.int) → sp [.ref a] H (fun v _ => v = .bl true) fun _ _ _ => False) ∧
      ∀ base : Heap, K.In base → base.Ns mainGlobals mg → (∀ p ∈ cs, LamX.TabB base mg p.1 p.2) → FnOk P w K mg base CX0 8 f fd ["script"] sp := by
  have d := c.t.d
  have ex := c.more
  obtain ⟨e1, ex⟩ := He.ba ex
  obtain ⟨e2, ex⟩ := He.ba ex
  obtain ⟨e3, ex⟩ := He.ba ex
  obtain ⟨e4, ex⟩ := He.ba ex
  have e5 := ex
  obtain ⟨d_init, FD_init⟩ := d.def_ 0 (d := dInit) rfl
  obtain ⟨d_is_number, FD_is_number⟩ := d.def_ 1 (d := D_is_number) rfl
  obtain ⟨d_fraction, FD_fraction⟩ := d.def_ 2 (d := D_fraction) rfl
  obtain ⟨d_plus, FD_plus⟩ := d.def_ 3 (d := D_plus) rfl
  obtain ⟨d_times, FD_times⟩ := d.def_ 4 (d := D_times) rfl
  obtain ⟨d_below, FD_below⟩ := d.def_ 5 (d := D_below) rfl
  obtain ⟨d_row_with, FD_row_with⟩ := d.def_ 6 (d := D_row_with) rfl
  obtain ⟨d_sum_of, FD_sum_of⟩ := d.def_ 7 (d := D_sum_of) rfl
  obtain ⟨d_unit_gifts, FD_unit_gifts⟩ := d.def_ 8 (d := D_unit_gifts) rfl
  obtain ⟨d_bend_done, FD_bend_done⟩ := d.def_ 9 (d := D_bend_done) rfl
  obtain ⟨d__law_bag, FD__law_bag⟩ := d.def_ 10 (d := D__law_bag) rfl
  obtain ⟨d__law_draw, FD__law_draw⟩ := d.def_ 11 (d := D__law_draw) rfl
  obtain ⟨d__law_of, FD__law_of⟩ := d.def_ 12 (d := D__law_of) rfl
  obtain ⟨d__law_like, FD__law_like⟩ := d.def_ 13 (d := D__law_like) rfl
  obtain ⟨d__law_gcd, FD__law_gcd⟩ := d.def_ 14 (d := D__law_gcd) rfl
  obtain ⟨d__law_low, FD__law_low⟩ := d.def_ 15 (d := D__law_low) rfl
  obtain ⟨d__law_plus, FD__law_plus⟩ := d.def_ 16 (d := D__law_plus) rfl
  obtain ⟨d__law_great, FD__law_great⟩ := d.def_ 17 (d := D__law_great) rfl
  obtain ⟨d__law_factor, FD__law_factor⟩ := d.def_ 18 (d := D__law_factor) rfl
  obtain ⟨d__law_number, FD__law_number⟩ := d.def_ 19 (d := D__law_number) rfl
  obtain ⟨d__law_is_fraction, FD__law_is_fraction⟩ := d.def_ 20 (d := D__law_is_fraction) rfl
  obtain ⟨d__law_common, FD__law_common⟩ := d.def_ 21 (d := D__law_common) rfl
  obtain ⟨d__law_state, FD__law_state⟩ := d.def_ 22 (d := D__law_state) rfl
  obtain ⟨d__law_after_bend, FD__law_after_bend⟩ := d.def_ 23 (d := D__law_after_bend) rfl
  obtain ⟨d__law_same, FD__law_same⟩ := d.def_ 24 (d := D__law_same) rfl
  obtain ⟨d__law_row_same, FD__law_row_same⟩ := d.def_ 25 (d := D__law_row_same) rfl
  obtain ⟨d__law_rows_same, FD__law_rows_same⟩ := d.def_ 26 (d := D__law_rows_same) rfl
  obtain ⟨d__law_light, FD__law_light⟩ := d.def_ 27 (d := D__law_light) rfl
  obtain ⟨d__law_lights, FD__law_lights⟩ := d.def_ 28 (d := D__law_lights) rfl
  obtain ⟨d__law_value, FD__law_value⟩ := d.def_ 29 (d := D__law_value) rfl
  obtain ⟨d__law_unit, FD__law_unit⟩ := d.def_ 30 (d := D__law_unit) rfl
  obtain ⟨d__law_free, FD__law_free⟩ := d.def_ 31 (d := D__law_free) rfl
  obtain ⟨d_law, FD_law⟩ := d.def_ 32 (d := D_law) rfl
  have F_init : Fun K "__init__" "BadValue.__init__" s_BadValue (bvI K) d_init := fun_ofD FD_init
  have F_is_number : Fun K "is_number" "is_number" s_is_number (He.ga K "is_number") d_is_number := fun_ofD FD_is_number
  have F_plus : Fun K "plus" "plus" s_plus (He.ga K "plus") d_plus := fun_ofD FD_plus
  have F_times : Fun K "times" "times" s_times (He.ga K "times") d_times := fun_ofD FD_times
  have F_below : Fun K "below" "below" s_below (He.ga K "below") d_below := fun_ofD FD_below
  have F_row_with : Fun K "row_with" "row_with" s_row_with (He.ga K "row_with") d_row_with := fun_ofD FD_row_with
  have F_sum_of : Fun K "sum_of" "sum_of" s_sum_of (He.ga K "sum_of") d_sum_of := fun_ofD FD_sum_of
  have F_unit_gifts : Fun K "unit_gifts" "unit_gifts" s_unit_gifts (He.ga K "unit_gifts") d_unit_gifts := fun_ofD FD_unit_gifts
  have F_bend_done : Fun K "bend_done" "bend_done" s_bend_done (He.ga K "bend_done") d_bend_done := fun_ofD FD_bend_done
  have F__law_bag : Fun K "_law_bag" "_law_bag" s__law_bag (He.ga K "_law_bag") d__law_bag := fun_ofD FD__law_bag
  have F__law_draw : Fun K "_law_draw" "_law_draw" s__law_draw (He.ga K "_law_draw") d__law_draw := fun_ofD FD__law_draw
  have F__law_of : Fun K "_law_of" "_law_of" s__law_of (He.ga K "_law_of") d__law_of := fun_ofD FD__law_of
  have F__law_like : Fun K "_law_like" "_law_like" s__law_like (He.ga K "_law_like") d__law_like := fun_ofD FD__law_like
  have F__law_gcd : Fun K "_law_gcd" "_law_gcd" s__law_gcd (He.ga K "_law_gcd") d__law_gcd := fun_ofD FD__law_gcd
  have F__law_low : Fun K "_law_low" "_law_low" s__law_low (He.ga K "_law_low") d__law_low := fun_ofD FD__law_low
  have F__law_plus : Fun K "_law_plus" "_law_plus" s__law_plus (He.ga K "_law_plus") d__law_plus := fun_ofD FD__law_plus
  have F__law_great : Fun K "_law_great" "_law_great" s__law_great (He.ga K "_law_great") d__law_great := fun_ofD FD__law_great
  have F__law_factor : Fun K "_law_factor" "_law_factor" s__law_factor (He.ga K "_law_factor") d__law_factor := fun_ofD FD__law_factor
  have F__law_number : Fun K "_law_number" "_law_number" s__law_number (He.ga K "_law_number") d__law_number := fun_ofD FD__law_number
  have F__law_is_fraction : Fun K "_law_is_fraction" "_law_is_fraction" s__law_is_fraction (He.ga K "_law_is_fraction") d__law_is_fraction := fun_ofD FD__law_is_fraction
  have F__law_common : Fun K "_law_common" "_law_common" s__law_common (He.ga K "_law_common") d__law_common := fun_ofD FD__law_common
  have F__law_state : Fun K "_law_state" "_law_state" s__law_state (He.ga K "_law_state") d__law_state := fun_ofD FD__law_state
  have F__law_after_bend : Fun K "_law_after_bend" "_law_after_bend" s__law_after_bend (He.ga K "_law_after_bend") d__law_after_bend := fun_ofD FD__law_after_bend
  have F__law_same : Fun K "_law_same" "_law_same" s__law_same (He.ga K "_law_same") d__law_same := fun_ofD FD__law_same
  have F__law_row_same : Fun K "_law_row_same" "_law_row_same" s__law_row_same (He.ga K "_law_row_same") d__law_row_same := fun_ofD FD__law_row_same
  have F__law_rows_same : Fun K "_law_rows_same" "_law_rows_same" s__law_rows_same (He.ga K "_law_rows_same") d__law_rows_same := fun_ofD FD__law_rows_same
  have F__law_light : Fun K "_law_light" "_law_light" s__law_light (He.ga K "_law_light") d__law_light := fun_ofD FD__law_light
  have F__law_lights : Fun K "_law_lights" "_law_lights" s__law_lights (He.ga K "_law_lights") d__law_lights := fun_ofD FD__law_lights
  have F__law_value : Fun K "_law_value" "_law_value" s__law_value (He.ga K "_law_value") d__law_value := fun_ofD FD__law_value
  have F__law_unit : Fun K "_law_unit" "_law_unit" s__law_unit (He.ga K "_law_unit") d__law_unit := fun_ofD FD__law_unit
  have F__law_free : Fun K "_law_free" "_law_free" s__law_free (He.ga K "_law_free") d__law_free := fun_ofD FD__law_free
  have F_law : Fun K "law" "law" s_law (He.ga K "law") d_law := fun_ofD FD_law
  have b_init := F_init.binds (ps := ["self", "value"]) fun _ _ _ _ _ _ us hl => match us, hl with | [_, _], _ => rfl
  have b_is_number := F_is_number.binds (ps := ["value"]) fun _ _ _ _ _ _ us hl => match us, hl with | [_], _ => rfl
  have b_plus := F_plus.binds (ps := ["a", "b"]) fun _ _ _ _ _ _ us hl => match us, hl with | [_, _], _ => rfl
  have b_times := F_times.binds (ps := ["a", "b"]) fun _ _ _ _ _ _ us hl => match us, hl with | [_, _], _ => rfl
  have b_below := F_below.binds (ps := ["a", "b"]) fun _ _ _ _ _ _ us hl => match us, hl with | [_, _], _ => rfl
  have b_row_with := F_row_with.binds (ps := ["row", "gifts"]) fun _ _ _ _ _ _ us hl => match us, hl with | [_, _], _ => rfl
  have b_sum_of := F_sum_of.binds (ps := ["row", "entries"]) fun _ _ _ _ _ _ us hl => match us, hl with | [_, _], _ => rfl
  have b_unit_gifts := F_unit_gifts.binds (ps := ["row", "unit"]) fun _ _ _ _ _ _ us hl => match us, hl with | [_, _], _ => rfl
  have b_bend_done := F_bend_done.binds (ps := ["rows", "units"]) fun _ _ _ _ _ _ us hl => match us, hl with | [_, _], _ => rfl
  have b__law_bag := F__law_bag.binds (ps := ["script"]) fun _ _ _ _ _ _ us hl => match us, hl with | [_], _ => rfl
  have b__law_draw := F__law_draw.binds (ps := ["bag", "many"]) fun _ _ _ _ _ _ us hl => match us, hl with | [_, _], _ => rfl
  have b__law_of := F__law_of.binds (ps := ["bag", "things"]) fun _ _ _ _ _ _ us hl => match us, hl with | [_, _], _ => rfl
  have b__law_like := F__law_like.binds (ps := ["found", "due"]) fun _ _ _ _ _ _ us hl => match us, hl with | [_, _], _ => rfl
  have b__law_gcd := F__law_gcd.binds (ps := ["a", "b"]) fun _ _ _ _ _ _ us hl => match us, hl with | [_, _], _ => rfl
  have b__law_low := F__law_low.binds (ps := ["p", "q"]) fun _ _ _ _ _ _ us hl => match us, hl with | [_, _], _ => rfl
  have b__law_plus := F__law_plus.binds (ps := ["a", "b"]) fun _ _ _ _ _ _ us hl => match us, hl with | [_, _], _ => rfl
  have b__law_great := F__law_great.binds (ps := ["bag"]) fun _ _ _ _ _ _ us hl => match us, hl with | [_], _ => rfl
  have b__law_factor := F__law_factor.binds (ps := ["bag"]) fun _ _ _ _ _ _ us hl => match us, hl with | [_], _ => rfl
  have b__law_number := F__law_number.binds (ps := ["x"]) fun _ _ _ _ _ _ us hl => match us, hl with | [_], _ => rfl
  have b__law_is_fraction := F__law_is_fraction.binds (ps := ["x"]) fun _ _ _ _ _ _ us hl => match us, hl with | [_], _ => rfl
  have b__law_common := F__law_common.binds (ps := ["parts"]) fun _ _ _ _ _ _ us hl => match us, hl with | [_], _ => rfl
  have b__law_state := F__law_state.binds (ps := ["rows_y"]) fun _ _ _ _ _ _ us hl => match us, hl with | [_], _ => rfl
  have b__law_after_bend := F__law_after_bend.binds (ps := ["state", "units_y"]) fun _ _ _ _ _ _ us hl => match us, hl with | [_, _], _ => rfl
  have b__law_same := F__law_same.binds (ps := ["told", "upper", "lower"]) fun _ _ _ _ _ _ us hl => match us, hl with | [_, _, _], _ => rfl
  have b__law_row_same := F__law_row_same.binds (ps := ["told", "row", "lower"]) fun _ _ _ _ _ _ us hl => match us, hl with | [_, _, _], _ => rfl
  have b__law_rows_same := F__law_rows_same.binds (ps := ["told", "state"]) fun _ _ _ _ _ _ us hl => match us, hl with | [_, _], _ => rfl
  have b__law_light := F__law_light.binds (ps := ["bag"]) fun _ _ _ _ _ _ us hl => match us, hl with | [_], _ => rfl
  have b__law_lights := F__law_lights.binds (ps := ["bag", "many", "width", "most"]) fun _ _ _ _ _ _ us hl => match us, hl with | [_, _, _, _], _ => rfl
  have b__law_value := F__law_value.binds (ps := ["unit", "row"]) fun _ _ _ _ _ _ us hl => match us, hl with | [_, _], _ => rfl
  have b__law_unit := F__law_unit.binds (ps := ["bag", "rows_y", "width"]) fun _ _ _ _ _ _ us hl => match us, hl with | [_, _, _], _ => rfl
  have b__law_free := F__law_free.binds (ps := ["second", "row", "changed"]) fun _ _ _ _ _ _ us hl => match us, hl with | [_, _, _], _ => rfl
  have b_law := F_law.binds (ps := ["script"]) fun _ _ _ _ _ _ us hl => match us, hl with | [_], _ => rfl
  have b_fraction : Binds K d_fraction ["p", "q"] [] := by
    obtain ⟨ds, hv, hb⟩ := FunD.binds1 (ps := ["p", "q"]) FD_fraction 2 1 (List.cons_ne_nil _ _) rfl fun _ _ _ _ _ _ _ us its h1 h2 => match us, its, h1, h2 with | [_, _], [_], _, _ => ⟨_, rfl, rfl⟩
    cases hv
    exact hb
  have dfl_fraction : ∃ ds, Vals [.int 1] ds ∧ Binds K d_fraction ["p", "q"] ds := FunD.binds1 (ps := ["p", "q"]) FD_fraction 1 0 (List.cons_ne_nil _ _) rfl fun _ _ _ _ _ _ _ us its h1 h2 => match us, its, h1, h2 with | [_], [_], _, _ => ⟨_, rfl, rfl⟩
  have z_bend_done : KBn K d_bend_done ["rows", "units"] 0 ["rows", "units"] (fun _ ws => ws) (fun _ zs => zs) := kb_of F_bend_done (n := 0) (ks := ["rows", "units"]) (ps := ["rows", "units"]) (fun _ ws => ws) (fun _ h => h) fun _ _ _ _ _ _ us ws h1 h2 => match us, ws, h1, h2 with | [], [_, _], _, _ => rfl
  let T : Txt w K mg := {
    n_len := He.free_ok X G (d.fact 0 (f := .free "len") rfl)
    n_int := He.free_ok X G (d.fact 1 (f := .free "int") rfl)
    n_list := He.free_ok X G (d.fact 2 (f := .free "list") rfl)
    n_tuple := He.free_ok X G (d.fact 3 (f := .free "tuple") rfl)
    n_bool := He.free_ok X G (d.fact 4 (f := .free "bool") rfl)
    n_str := He.free_ok X G (d.fact 5 (f := .free "str") rfl)
    n_dict := He.free_ok X G (d.fact 6 (f := .free "dict") rfl)
    n_isinstance := He.free_ok X G (d.fact 7 (f := .free "isinstance") rfl)
    n_all := He.free_ok X G (d.fact 8 (f := .free "all") rfl)
    n_range := He.free_ok X G (d.fact 9 (f := .free "range") rfl)
    n_zip := He.free_ok X G (d.fact 10 (f := .free "zip") rfl)
    n_abs := He.free_ok X G (d.fact 11 (f := .free "abs") rfl)
    m_gcd := PySem.W.mg_of X G (He.eqO_ok e2)
    a_ZERO := He.ga K "ZERO"
    m_ZERO := He.glo_ok X G (d.fact 12 (f := .glo "ZERO") rfl)
    s_ZERO := fun H => He.tupB_ok e5 H
    C_BadValue := bvC K
    f_BadValue := bvI K
    d_BadValue := d_init
    m_BadValue := He.glo_ok X G (d.fact 13 (f := .glo "BadValue") rfl)
    X_BadValue := oexB_ok e1
    i_BadValue := He.eqO_ok e4
    t_BadValue := of_decide_eq_true e3
    F_BadValue := F_init
    B_BadValue__init := b_init
    v_BadValue := He.noat_ok (d.fact 46 (f := .noat "BadValue" "value") rfl)
    c_BadValue := He.noat_ok (d.fact 47 (f := .noat "BadValue" "code") rfl)
    a_is_number := He.ga K "is_number"
    d_is_number := d_is_number
    F_is_number := F_is_number
    m_is_number := He.glo_ok X G (d.fact 14 (f := .glo "is_number") rfl)
    B_is_number := b_is_number
    a_fraction := He.ga K "fraction"
    d_fraction := d_fraction
    F_fraction := FD_fraction
    m_fraction := He.glo_ok X G (d.fact 15 (f := .glo "fraction") rfl)
    B_fraction := b_fraction
    a_plus := He.ga K "plus"
    d_plus := d_plus
    F_plus := F_plus
    m_plus := He.glo_ok X G (d.fact 16 (f := .glo "plus") rfl)
    B_plus := b_plus
    a_times := He.ga K "times"
    d_times := d_times
    F_times := F_times
    m_times := He.glo_ok X G (d.fact 17 (f := .glo "times") rfl)
    B_times := b_times
    a_below := He.ga K "below"
    d_below := d_below
    F_below := F_below
    m_below := He.glo_ok X G (d.fact 18 (f := .glo "below") rfl)
    B_below := b_below
    a_row_with := He.ga K "row_with"
    d_row_with := d_row_with
    F_row_with := F_row_with
    m_row_with := He.glo_ok X G (d.fact 19 (f := .glo "row_with") rfl)
    B_row_with := b_row_with
    a_sum_of := He.ga K "sum_of"
    d_sum_of := d_sum_of
    F_sum_of := F_sum_of
    m_sum_of := He.glo_ok X G (d.fact 20 (f := .glo "sum_of") rfl)
    B_sum_of := b_sum_of
    a_unit_gifts := He.ga K "unit_gifts"
    d_unit_gifts := d_unit_gifts
    F_unit_gifts := F_unit_gifts
    m_unit_gifts := He.glo_ok X G (d.fact 21 (f := .glo "unit_gifts") rfl)
    B_unit_gifts := b_unit_gifts
    a_bend_done := He.ga K "bend_done"
    d_bend_done := d_bend_done
    F_bend_done := F_bend_done
    m_bend_done := He.glo_ok X G (d.fact 22 (f := .glo "bend_done") rfl)
    B_bend_done := b_bend_done
    a__law_bag := He.ga K "_law_bag"
    d__law_bag := d__law_bag
    F__law_bag := F__law_bag
    m__law_bag := He.glo_ok X G (d.fact 23 (f := .glo "_law_bag") rfl)
    B__law_bag := b__law_bag
    a__law_draw := He.ga K "_law_draw"
    d__law_draw := d__law_draw
    F__law_draw := F__law_draw
    m__law_draw := He.glo_ok X G (d.fact 24 (f := .glo "_law_draw") rfl)
    B__law_draw := b__law_draw
    a__law_of := He.ga K "_law_of"
    d__law_of := d__law_of
    F__law_of := F__law_of
    m__law_of := He.glo_ok X G (d.fact 25 (f := .glo "_law_of") rfl)
    B__law_of := b__law_of
    a__law_like := He.ga K "_law_like"
    d__law_like := d__law_like
    F__law_like := F__law_like
    m__law_like := He.glo_ok X G (d.fact 26 (f := .glo "_law_like") rfl)
    B__law_like := b__law_like
    a__law_gcd := He.ga K "_law_gcd"
    d__law_gcd := d__law_gcd
    F__law_gcd := F__law_gcd
    m__law_gcd := He.glo_ok X G (d.fact 27 (f := .glo "_law_gcd") rfl)
    B__law_gcd := b__law_gcd
    a__law_low := He.ga K "_law_low"
    d__law_low := d__law_low
    F__law_low := F__law_low
    m__law_low := He.glo_ok X G (d.fact 28 (f := .glo "_law_low") rfl)
    B__law_low := b__law_low
    a__law_plus := He.ga K "_law_plus"
    d__law_plus := d__law_plus
    F__law_plus := F__law_plus
    m__law_plus := He.glo_ok X G (d.fact 29 (f := .glo "_law_plus") rfl)
    B__law_plus := b__law_plus
    a__law_great := He.ga K "_law_great"
    d__law_great := d__law_great
    F__law_great := F__law_great
    m__law_great := He.glo_ok X G (d.fact 30 (f := .glo "_law_great") rfl)
    B__law_great := b__law_great
    a__law_factor := He.ga K "_law_factor"
    d__law_factor := d__law_factor
    F__law_factor := F__law_factor
    m__law_factor := He.glo_ok X G (d.fact 31 (f := .glo "_law_factor") rfl)
    B__law_factor := b__law_factor
    a__law_number := He.ga K "_law_number"
    d__law_number := d__law_number
    F__law_number := F__law_number
    m__law_number := He.glo_ok X G (d.fact 32 (f := .glo "_law_number") rfl)
    B__law_number := b__law_number
    a__law_is_fraction := He.ga K "_law_is_fraction"
    d__law_is_fraction := d__law_is_fraction
    F__law_is_fraction := F__law_is_fraction
    m__law_is_fraction := He.glo_ok X G (d.fact 33 (f := .glo "_law_is_fraction") rfl)
    B__law_is_fraction := b__law_is_fraction
    a__law_common := He.ga K "_law_common"
    d__law_common := d__law_common
    F__law_common := F__law_common
    m__law_common := He.glo_ok X G (d.fact 34 (f := .glo "_law_common") rfl)
    B__law_common := b__law_common
    a__law_state := He.ga K "_law_state"
    d__law_state := d__law_state
    F__law_state := F__law_state
    m__law_state := He.glo_ok X G (d.fact 35 (f := .glo "_law_state") rfl)
    B__law_state := b__law_state
    a__law_after_bend := He.ga K "_law_after_bend"
    d__law_after_bend := d__law_after_bend
    F__law_after_bend := F__law_after_bend
    m__law_after_bend := He.glo_ok X G (d.fact 36 (f := .glo "_law_after_bend") rfl)
    B__law_after_bend := b__law_after_bend
    a__law_same := He.ga K "_law_same"
    d__law_same := d__law_same
    F__law_same := F__law_same
    m__law_same := He.glo_ok X G (d.fact 37 (f := .glo "_law_same") rfl)
    B__law_same := b__law_same
    a__law_row_same := He.ga K "_law_row_same"
    d__law_row_same := d__law_row_same
    F__law_row_same := F__law_row_same
    m__law_row_same := He.glo_ok X G (d.fact 38 (f := .glo "_law_row_same") rfl)
    B__law_row_same := b__law_row_same
    a__law_rows_same := He.ga K "_law_rows_same"
    d__law_rows_same := d__law_rows_same
    F__law_rows_same := F__law_rows_same
    m__law_rows_same := He.glo_ok X G (d.fact 39 (f := .glo "_law_rows_same") rfl)
    B__law_rows_same := b__law_rows_same
    a__law_light := He.ga K "_law_light"
    d__law_light := d__law_light
    F__law_light := F__law_light
    m__law_light := He.glo_ok X G (d.fact 40 (f := .glo "_law_light") rfl)
    B__law_light := b__law_light
    a__law_lights := He.ga K "_law_lights"
    d__law_lights := d__law_lights
    F__law_lights := F__law_lights
    m__law_lights := He.glo_ok X G (d.fact 41 (f := .glo "_law_lights") rfl)
    B__law_lights := b__law_lights
    a__law_value := He.ga K "_law_value"
    d__law_value := d__law_value
    F__law_value := F__law_value
    m__law_value := He.glo_ok X G (d.fact 42 (f := .glo "_law_value") rfl)
    B__law_value := b__law_value
    a__law_unit := He.ga K "_law_unit"
    d__law_unit := d__law_unit
    F__law_unit := F__law_unit
    m__law_unit := He.glo_ok X G (d.fact 43 (f := .glo "_law_unit") rfl)
    B__law_unit := b__law_unit
    a__law_free := He.ga K "_law_free"
    d__law_free := d__law_free
    F__law_free := F__law_free
    m__law_free := He.glo_ok X G (d.fact 44 (f := .glo "_law_free") rfl)
    B__law_free := b__law_free
    a_law := He.ga K "law"
    d_law := d_law
    F_law := F_law
    m_law := He.glo_ok X G (d.fact 45 (f := .glo "law") rfl)
    B_law := b_law
    Z_bend_done := z_bend_done
  }
  have ef : f = He.ga K "law" := by
    have e := hfa.symm.trans T.m_law
    cases e
    rfl
  refine ⟨d_law, [], sp_law K, fun p hp => absurd hp (by simp), fun p hp => absurd hp (by simp), fun p hp => absurd hp (by simp), fun s u => FunD.bindsA (ps := ["script"]) FD_law (fun _ _ _ _ _ _ us hl => match us, hl with | [_], _ => rfl) s [u] rfl, fun H a ns hl _ hT hS => ⟨a, ns, rfl, hS, hl, fun _ => rfl⟩, fun base _ _ hB => ?_⟩
  rw [ef]
  exact ok_law (P := P) (base := base) T
/-! ### the head's run -/
abbrev R : PySem.W.OpenRow := PySem.W.OpenLaw.row PySem.Challenge.rw_lookingnets_k19_bends_read_before
abbrev hk : PySem.W.Hook := He.hookX 6 faL fnL [] [] exB
def ob (s : PySem.W.SharedT) : He.AlX := He.obsX 6 faL fnL [] [] exB (HandSHeadRun.getT s)
theorem ob_eq (s : PySem.W.SharedT) : ob s = hk.obs s.abs := He.obsX_eq (HandSHeadRun.getT_eq s)
def loose : List Str := (["NetError", "BadValue", "ZERO", "is_number", "fraction", "plus", "times", "below", "row_with", "sum_of", "unit_gifts", "bend_done", "_law_bag", "_law_draw", "_law_of", "_law_like"] : List Str) ++ (["_law_gcd", "_law_low", "_law_plus", "_law_great", "_law_factor", "_law_number", "_law_is_fraction", "_law_common", "_law_state", "_law_after_bend", "_law_same", "_law_row_same", "_law_rows_same", "_law_light", "_law_lights", "_law_value"] : List Str) ++ (["_law_unit", "_law_free"] : List Str)
set_option maxHeartbeats 0 in
theorem run (w : World) : HandSHeadRun.RunEqI R (PySem.W.view R.prog [0, 39]) hk ob 20000 loose w := by
  unfold HandSHeadRun.RunEqI
  kernel_rfl
end LK

open PySem PySem.W PySem.Calls PyProof.Rows
set_option maxRecDepth 100000 in
set_option maxHeartbeats 0 in
theorem PySem.Challenge.cw_lookingnets_k19_bends_read_before_holds : PySem.Challenge.rw_lookingnets_k19_bends_read_before.Holds := by
  w_on; o_law
  refine HandSHeadRun.head_imp (r := OpenLaw.row PySem.Challenge.rw_lookingnets_k19_bends_read_before) (q := view (OpenLaw.row PySem.Challenge.rw_lookingnets_k19_bends_read_before).prog [0, 39]) (H := LK.hk) (ob := LK.ob) (M := 20000) (loose := LK.loose) (d := HandSHeadRun.topDef (OpenLaw.row PySem.Challenge.rw_lookingnets_k19_bends_read_before).prog 39) (kwd := []) LK.ob_eq
    LK.run (by kernel_rfl) (by kernel_rfl) (by kernel_rfl) (by rfl) (by first | assumption | decide +kernel) (by decide +kernel) ⟨rfl, rfl, rfl, rfl, rfl, by decide +kernel⟩ ?hw ?hc
  case hw => w_witness2
  case hc =>
    refine LamX.walk_ofTsE (l := PySem.Challenge.rw_lookingnets_k19_bends_read_before) (n := 63) (k := 8) (x := "script") (CX := fun _ => L2.CX0) rfl (by decide) (by kernel_rfl) ⟨rfl, by decide, by decide⟩ ?F (fun _ _ _ _ _ z => z)
    intro w mg fa h Y G hmg0
    obtain ⟨K, KX, c⟩ := Y
    have hmg : mg ("law" : PySem.Str) = some (.ref fa) := by
      have e : (HandSHeadRun.topDef (OpenLaw.row PySem.Challenge.rw_lookingnets_k19_bends_read_before).prog 39).name = ("law" : PySem.Str) := by kernel_rfl
      rw [← e]
      exact hmg0
    exact ⟨K, KX, LK.facts KX G hmg c⟩
