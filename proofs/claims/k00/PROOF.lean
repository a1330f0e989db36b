import PyProof.Rows.All
import Wide.All
import OpenK.AllK
import Wide.FinOn
import HandS.ForMost
import HandS.IsInst
import HandS.Zip
import HandS.TupAny
import HandS.Style
import HandS.More
import HandS.Defaults
import HandS.Walk
import KE.GoesMore
import HandS.Deep
import HandS.ExcInit
import KE.KExcInit
import PyProof.ExcBaseAll.LookupError
import HandS.ExcField
import HandS.MakeKw
import KE.KExcIs
import HandS.HotCalls
import HandS.Wide
import HandS.WordsExc
import HandS.Lambda
import HandS.Text
import HandS.StrMore
import PyProof.ExcBaseAll.RuntimeError
import PyProof.ExcBaseAll.IndexError
import HandS.HeadHook4
import HandS.HeadWalk
import HandS.Head2
import HandS.Head3
import PySem.Challenge.RW_lookingnets_k00_errors_told
set_option Elab.async false
set_option linter.all false
set_option maxRecDepth 100000
namespace LK
open PySem PySem.Spec PyProof.Rows L2
/-! ### heaps but for one object -/
def hb (H : Hp) (b : Addr) : Hp := fun a => if a = b then none else H a
theorem hb_ne {H : Hp} {a b : Addr} (h : a ≠ b) : hb H b a = H a := if_neg h
theorem hb_same {H : Hp} {b : Addr} : hb H b b = none := if_pos rfl
theorem hb_some {H : Hp} {a b : Addr} {o : HO} (h : hb H b a = some o) : a ≠ b ∧ H a = some o := by
  unfold hb at h
  split at h
  · cases h
  · exact ⟨by assumption, h⟩
theorem hb_le (H : Hp) (b : Addr) : Same (hb H b) H := fun _ _ h => (hb_some h).2
/-- all but b stays -/
abbrev Kp (b : Addr) (H H' : Hp) : Prop := Same (hb H b) (hb H' b)
theorem Kp.of {b : Addr} {H H' : Hp} (s : Same H H') : Kp b H H' := fun a o h => by
  obtain ⟨h1, h2⟩ := hb_some h
  rw [hb_ne h1]
  exact s _ _ h2
theorem Kp.refl (b : Addr) (H : Hp) : Kp b H H := Same.refl _
theorem Kp.upd {b : Addr} {H : Hp} {o : HO} : Kp b H (upd H b o) := fun a u h => by
  obtain ⟨h1, h2⟩ := hb_some h
  rw [hb_ne h1, upd_ne h1]
  exact h2
theorem Kp.hd {b a : Addr} {H H' : Hp} {o : HO} (k : Kp b H H') (h : H a = some o) (n : a ≠ b) : H' a = some o := (hb_some (k a o (by rw [hb_ne n]; exact h))).2
/-- a new object -/
theorem al {H : Hp} {R : Addr → Hp → Prop} {o : HO} (h : ∀ p H1, Same H H1 → H1 p = some o → H p = none → R p H1) : ∀ p, H p = none → R p (upd H p o) := fun p hp =>
  h p _ (fun a u e => by rw [upd_ne (ne_of_none e hp)]; exact e) upd_same hp
theorem same_upd {H : Hp} {p : Addr} {o : HO} (hp : H p = none) : Same H (upd H p o) := fun a u e => by rw [upd_ne (ne_of_none e hp)]; exact e
theorem at_ofN {α : Type} {xs : List α} {z : Int} {j : Nat} {v : α} (e : z = (j : Int)) (h : xs[j]? = some v) : atI xs z = some v := by
  subst e
  exact atI_nat h
/-! ### the bag of a law -/
def Bag (H : Hp) (b c : Addr) : Prop := ∃ (cells : List Int) (i g m n : Int), H b = some (.lst [.ref c, .int i, .int g, .int m, .int n]) ∧ H c = some (.lst (cells.map V.int)) ∧ c ≠ b ∧ 0 ≤ i ∧ 0 ≤ m ∧ m < 2147483579
theorem Bag.same {H H' : Hp} {b c : Addr} (B : Bag H b c) (s : Same H H') : Bag H' b c := by
  obtain ⟨cells, i, g, m, n, h1, h2, h3⟩ := B
  exact ⟨cells, i, g, m, n, s _ _ h1, s _ _ h2, h3⟩
theorem Bag.at {H : Hp} {b c : Addr} (B : Bag H b c) : ∃ xs, H b = some (.lst xs) := by
  obtain ⟨cells, i, g, m, n, h1, _⟩ := B
  exact ⟨_, h1⟩
theorem Bag.at2 {H : Hp} {b c : Addr} (B : Bag H b c) : ∃ xs, H c = some (.lst xs) := by
  obtain ⟨cells, i, g, m, n, h1, h2, _⟩ := B
  exact ⟨_, h2⟩
/-- another object is stored -/
theorem Bag.upd {H : Hp} {b c p : Addr} {o : HO} (B : Bag H b c) (n1 : b ≠ p) (n2 : c ≠ p) : Bag (upd H p o) b c := by
  obtain ⟨cells, i, g, m, n, h1, h2, h3⟩ := B
  exact ⟨cells, i, g, m, n, by rw [upd_ne n1]; exact h1, by rw [upd_ne n2]; exact h2, h3⟩
/-- a new object beside a bag -/
theorem alB {H : Hp} {R : Addr → Hp → Prop} {o : HO} {b c : Addr} (B : Bag H b c) (h : ∀ p H1, Kp b H H1 → Bag H1 b c → hb H1 b p = some o → Same H H1 → H p = none → R p H1) : ∀ p, H p = none → R p (upd H p o) :=
  al fun p H1 s h1 h0 => h p H1 (Kp.of s) (B.same s) (by
    have n : p ≠ b := fun e => by
      obtain ⟨xs, q⟩ := B.at
      rw [e, q] at h0; cases h0
    rw [hb_ne n]; exact h1) s h0
/-! ### data -/
theorem Same.seqT {K : PySem.W.Frag} {H H' : Hp} {a : Addr} {xs : List V} (e : Same H H') (h : SqT K H a xs) : SqT K H' a xs := by
  rcases h with (h | ⟨o, h⟩) | h
  · exact .inl (.inl (e _ _ h))
  · exact .inl (.inr ⟨o, e _ _ h⟩)
  · exact .inr h
mutual
theorem dp_same {K : PySem.W.Frag} {H H' : Hp} (e : Same H H') : ∀ {d : PyData} {v : V}, Dp K H v d → Dp K H' v d
  | .none, _, h => by cases h; exact .non
  | .bool _, _, h => by cases h; exact .bl _
  | .int _, _, h => by cases h; exact .int _
  | .str _, _, h => by cases h; exact .str _
  | .list ds, _, h => by cases h with | lst a b => exact .lst (L2.Same.seq e a) (dpa_same e b)
  | .tuple ds, _, h => by cases h with | tup a b => exact .tup (Same.seqT e a) (dpa_same e b)
  | .dict _, _, h => by cases h
theorem dpa_same {K : PySem.W.Frag} {H H' : Hp} (e : Same H H') : ∀ {ds : List PyData} {vs : List V}, DpAll K H vs ds → DpAll K H' vs ds
  | [], _, h => by cases h; exact .nil
  | _ :: _, _, h => by cases h with | cons a b => exact .cons (dp_same e a) (dpa_same e b)
end
end LK
namespace LK
open PySem PySem.Spec PyProof.Rows L2
section
variable {CX : CXT} {P : Program} {w : World} {K : PySem.W.Frag} {mg : Str → Option Value} {base : Heap} {N : List Str} {q : Str} {sc : Scope} {f : Addr} {cd : Value} {A : Around} {outer : List Env} {s : Shared} {H : Hp} {E : XK}
theorem cxK : (cxOf CX P w K mg base N q sc f cd A outer s H E).K = K := rfl
theorem cxNK : (cxOf CX P w K mg base N q sc f cd A outer s H E).nox.K = K := rfl
theorem cxW : (cxOf CX P w K mg base N q sc f cd A outer s H E).w = w := rfl
end
theorem cut_seq {t u : TS} {D : Ends} {σ : L2.St} {H : Hp} (Mid : L2.St → Hp → Prop) (h1 : ∀ N : L2.St → Hp → Prop, (∀ σ' H', Mid σ' H' → N σ' H') → t { D with nx := N } σ H) (h2 : ∀ σ' H', Mid σ' H' → u D σ' H') : tSeq t u D σ H := h1 _ h2
end LK
namespace LK
open PySem PySem.Spec PyProof.Rows L2
theorem seq_op {t u : TS} {D : Ends} {σ : L2.St} {H : Hp} (h : ∀ N : L2.St → Hp → Prop, (∀ σ' H', u D σ' H' → N σ' H') → t { D with nx := N } σ H) : tSeq t u D σ H := h _ fun _ _ z => z
end LK
namespace LK
open PySem PySem.Spec PyProof.Rows L2
section
variable {X : Cx}
theorem opr_imp {f : Value → Value → Sem Value} {r r' : R2} (h : OpR X f r) (i : ∀ x y H Q, r' x y H Q → r x y H Q) : OpR X f r' := fun pins s σ H x y v u Q I rx ry q => h pins s σ H x y v u Q I rx ry (i _ _ _ _ q)
theorem cr_imp {f : Value} {r r' : List V → Hp → VK → Prop} (h : CallR X f r) (i : ∀ x H Q, r' x H Q → r x H Q) : CallR X f r' := fun pins s σ H xs us Q I rx q => h pins s σ H xs us Q I rx (i _ _ _ q)
theorem op_eqI : OpR X (compareOp .Eq) (rI0 fun i j => .bl (decide (i = j))) := opr_imp op_eq fun x y H Q h => by
  obtain ⟨i, j, rfl, rfl, q⟩ := h
  refine ⟨rfl, ?_⟩
  rw [L2.dec_int, Bool.beq_eq_decide_eq]; exact q
theorem op_neI : OpR X (compareOp .NotEq) (rI0 fun i j => .bl (!decide (i = j))) := opr_imp op_ne fun x y H Q h => by
  obtain ⟨i, j, rfl, rfl, q⟩ := h
  refine ⟨rfl, ?_⟩
  rw [L2.dec_int, Bool.beq_eq_decide_eq]; exact q
def rS0 (g : Str → Str → V) : R2 := fun x y H Q => ∃ i j, x = .str i ∧ y = .str j ∧ Q (g i j) H
theorem op_eqS : OpR X (compareOp .Eq) (rS0 fun i j => .bl (decide (i = j))) := opr_imp op_eq fun x y H Q h => by
  obtain ⟨i, j, rfl, rfl, q⟩ := h
  refine ⟨rfl, ?_⟩
  have e : decide (V.str i = V.str j) = decide (i = j) := by
    by_cases c : i = j
    · subst c; simp
    · rw [decide_eq_false c, decide_eq_false (fun z => c (V.str.inj z))]
  rw [e]; exact q
theorem op_neS : OpR X (compareOp .NotEq) (rS0 fun i j => .bl (!decide (i = j))) := opr_imp op_ne fun x y H Q h => by
  obtain ⟨i, j, rfl, rfl, q⟩ := h
  refine ⟨rfl, ?_⟩
  have e : decide (V.str i = V.str j) = decide (i = j) := by
    by_cases c : i = j
    · subst c; simp
    · rw [decide_eq_false c, decide_eq_false (fun z => c (V.str.inj z))]
  rw [e]; exact q
def rB0 (g : Bool → Bool → V) : R2 := fun x y H Q => ∃ i j, x = .bl i ∧ y = .bl j ∧ Q (g i j) H
theorem op_eqB : OpR X (compareOp .Eq) (rB0 fun i j => .bl (i == j)) := opr_imp op_eq fun x y H Q h => by
  obtain ⟨i, j, rfl, rfl, q⟩ := h
  refine ⟨rfl, ?_⟩
  rw [L2.dec_bl]; exact q
theorem op_neB : OpR X (compareOp .NotEq) (rB0 fun i j => .bl (!(i == j))) := opr_imp op_ne fun x y H Q h => by
  obtain ⟨i, j, rfl, rfl, q⟩ := h
  refine ⟨rfl, ?_⟩
  rw [L2.dec_bl]; exact q
/-- int(n) of an int -/
theorem call_intI : CallR X (.type "int") (fun xs H Q => ∃ i, xs = [.int i] ∧ Q (.int i) H) := cr_imp call_int1 fun xs H Q h => .inl h
end
end LK
namespace LK
open PySem PySem.Spec PyProof.Rows L2
/-! ### isinstance of data -/
def tyN : PyData → String
  | .none => "NoneType" | .bool _ => "bool" | .int _ => "int" | .str _ => "str" | .list _ => "list" | .tuple _ => "tuple" | .dict _ => "dict"
def isTy (T : String) : PyData → Bool
  | .none => false | .bool _ => T == "bool" || T == "int" | .int _ => T == "int" | .str _ => T == "str" | .list _ => T == "list" | .tuple _ => T == "tuple" | .dict _ => false
theorem dp_ty {K : PySem.W.Frag} {H : Hp} {v : V} {d : PyData} (h : Dp K H v d) : TyX K H v (.type (tyN d)) := by
  cases h with
  | non => exact .base .non
  | bl b => exact .base (.bl b)
  | int i => exact .base (.int i)
  | str x => exact .base (.str x)
  | lst hs _ =>
    rcases hs with (h | ⟨o, h⟩) | ⟨o, its, n, h1, h2, _⟩
    · exact .base (.lst h)
    · exact .base (.frz h)
    · exact .kList h1 h2
  | tup hs _ =>
    rcases hs with (h | ⟨o, h⟩) | ⟨o, its, n, h1, h2, _⟩
    · exact .base (.tup h)
    · exact .fTuple h
    · exact .kTuple h1 h2
theorem dp_kit {K : PySem.W.Frag} {H : Hp} {v : V} {d : PyData} (h : Dp K H v d) {T : String} (hT : T ∈ ["str", "int", "bool", "list", "tuple"]) : PySem.W.kitOne K (.type (tyN d)) (.type T) = some (isTy T d) := by
  refine kit_ty ?_
  simp only [List.mem_cons, List.mem_nil_iff, or_false] at hT
  cases h <;> rcases hT with rfl | rfl | rfl | rfl | rfl <;> (simp only [tyN, isTy]; decide +kernel)
section
variable {X : Cx}
theorem call_isiD : CallR X (.builtin "isinstance") (fun xs H Q => ∃ x T d, xs = [x, .ty T] ∧ Dp X.K H x d ∧ T ∈ ["str", "int", "bool", "list", "tuple"] ∧ Q (.bl (isTy T d)) H) := cr_imp call_isi fun xs H Q h => by
  obtain ⟨x, T, d, rfl, hd, hT, q⟩ := h
  exact ⟨x, .ty T, _, _, _, rfl, .ty T, dp_ty hd, dp_kit hd hT, q⟩
theorem call_isiDT : CallR X (.builtin "isinstance") (fun xs H Q => ∃ x tp d, xs = [x, .ref tp] ∧ H tp = some (.tup [.ty "list", .ty "tuple"]) ∧ Dp X.K H x d ∧ Q (.bl (isTy "list" d || isTy "tuple" d)) H) := cr_imp call_isiT fun xs H Q h => by
  obtain ⟨x, tp, d, rfl, ht, hd, q⟩ := h
  refine ⟨x, tp, _, .type (tyN d), [.type "list", .type "tuple"], _, rfl, ht, .cons (.ty _) (.cons (.ty _) .nil), dp_ty hd, ?_, q⟩
  have h1 := dp_kit hd (T := "list") (by simp)
  have h2 := dp_kit hd (T := "tuple") (by simp)
  unfold PySem.W.kitAny PySem.W.kitAny PySem.W.kitAny
  rw [h1, h2]
  cases isTy "list" d <;> cases isTy "tuple" d <;> rfl
/-- len of data -/
theorem call_lenD : CallR X (.builtin "len") (fun xs H Q => ∃ x d, xs = [x] ∧ Dp X.K H x d ∧ ((∃ ds, (d = .list ds ∨ d = .tuple ds) ∧ Q (.int ds.length) H) ∨ ∃ z, d = .str z ∧ z.length ≤ sizeLine ∧ Q (.int z.length) H)) := cr_imp call_len fun xs H Q h => by
  obtain ⟨x, d, rfl, hd, ⟨ds, e, q⟩ | ⟨z, rfl, hz, q⟩⟩ := h
  · have ln : ∀ {vs : List V} {es : List PyData}, DpAll X.K H vs es → vs.length = es.length := by
      intro vs es h
      induction es generalizing vs with
      | nil => cases h; rfl
      | cons a r ih => cases h with | cons _ h2 => simp [ih h2]
    rcases e with rfl | rfl
    · cases hd with
      | lst hs ha => exact ⟨_, ds.length, rfl, .inl ⟨_, hs, (ln ha).symm⟩, q⟩
    · cases hd with
      | tup hs ha => exact ⟨_, ds.length, rfl, .inr ⟨_, hs, (ln ha).symm⟩, q⟩
  · cases hd
    exact ⟨_, z.length, rfl, ⟨hz, rfl⟩, q⟩
/-- t[lo:hi] of a tuple: some tuple of that content -/
def rSlU (K : PySem.W.Frag) : V → Option Int → Option Int → Hp → VK → Prop := fun x lo hi H Q => ∃ a xs, x = .ref a ∧ SqT K H a xs ∧ ∀ q H', Same H H' → SqT K H' q (cutV xs lo hi) → Q (.ref q) H'
theorem sl_tupU : SlR X (rSlU X.K) := by
  intro pins s σ H x v vl vu lo hi sl Q I rx hs pl pu h
  obtain ⟨a, xs, rfl, hx, q⟩ := h
  refine sl_tupA pins s σ H _ v vl vu lo hi sl Q I rx hs pl pu ⟨a, xs, rfl, hx, fun hw => q a H (Same.refl H) ?_, fun hw p hp => q p _ (fun b o e => ?_) (.inl (.inl upd_same))⟩
  · have e : cutV xs lo hi = xs := by
      unfold cutV
      rw [hw.1, hw.2]
      simp
    rw [e]; exact hx
  · rw [upd_ne (ne_of_none e hp)]; exact e
def rCatU (K : PySem.W.Frag) : R2 := fun x y H Q => ∃ a b xs ys, x = .ref a ∧ y = .ref b ∧ SqT K H a xs ∧ SqT K H b ys ∧ xs.length + ys.length ≤ sizeLine ∧ ∀ q H', Same H H' → SqT K H' q (xs ++ ys) → Q (.ref q) H'
theorem op_catU : OpR X (binaryOp .Add) (rCatU X.K) := opr_imp op_catA fun x y H Q h => by
  obtain ⟨a, b, xs, ys, rfl, rfl, ha, hb, hz, q⟩ := h
  refine ⟨a, b, xs, ys, rfl, rfl, ha, hb, hz, fun e => q b H (Same.refl H) ?_, fun _ e => q a H (Same.refl H) ?_, fun _ _ p hp => q p _ (fun c o e => ?_) (.inl (.inl upd_same))⟩
  · subst e; exact hb
  · subst e; rw [List.append_nil]; exact ha
  · rw [upd_ne (ne_of_none e hp)]; exact e
/-- tuple(x) of a list or tuple -/
theorem call_tupleU : CallR X (.type "tuple") (fun xs H Q => ∃ p ys, xs = [.ref p] ∧ (SqL X.K H p ys ∨ SqT X.K H p ys) ∧ ∀ q H', Same H H' → SqT X.K H' q ys → Q (.ref q) H') := cr_imp call_tuple_of fun xs H Q h => by
  obtain ⟨p, ys, rfl, h, q⟩ := h
  refine ⟨p, ys, rfl, ?_⟩
  rcases h with h | h
  · exact .inl ⟨h, fun l hl => q l _ (fun c o e => by rw [upd_ne (ne_of_none e hl)]; exact e) (.inl (.inl upd_same))⟩
  · exact .inr ⟨h, q p H (Same.refl H) h⟩
end
/-! ### calls by keywords alone -/
def tCallZ (m : Nat) (sp : Sp) (gV : List V → List V) (E : XK) (tk : TA) : TE := fun σ H Q => tk σ H fun zs H2 => zs.length = m ∧ sp (gV zs) H2 Q E
section
variable {X : Cx} {CX : CXT} {k : Nat} {f : Addr} {fd : FuncData} {ps ks : List Str} {sp : Sp} {E : XK} {x : Str} {p pos : Pos} {kws : List Keyword} {tk : TA} {g : List Value → List Value} {gV : List V → List V}
/-- f(k = v, ..) -/
theorem pe_callZ (F : FnOk X.prog X.w X.K X.mg X.base CX k f fd ps sp) (hr : Room k X.A) (hg : Gl X x) (hm : X.mg x = some (.ref f)) (hk : PySem.W.keepIn X.K (.ref f) = true) (hb : KBn X.K fd ps 0 ks (fun _ ws => g ws) (fun _ zs => gV zs)) (hx : Passes CX X E)
    (hkw : PK X kws tk) (hall : (backToKw pos (keywordEach kws X.env)).all (·.1.isSome) = true := by rfl) (hks : (backToKw pos (keywordEach kws X.env)).filterMap (·.1) = ks := by rfl)
    (hdb : (x == ("__debug__" : Str)) = false := by decide)
    (hpl : ((backTo pos (starEach [] X.env)).any (·.1) || (backToKw pos (keywordEach kws X.env)).any (·.1.isNone)) = false := by rfl) :
    PE X (.Call (.Name x p) [] kws pos) (tCallZ ks.length sp gV E tk) := by
  refine ⟨fun pins s σ H Q I h => ?_⟩
  refine wpAny_Call_Name_kw (ld_glob I hg hm ?_ hdb)
  refine PySem.W.callWith_KW0 (h₀ := X.base) I.ok.mod.kin hk hall (thn (hkw.run pos pins s σ H _ I h) fun ws s2 ⟨zs, H2, I2, rz, l2, q2⟩ => ⟨I2.kIn, ?_⟩) hpl
  rw [hks]
  exact run_fnN F hr hb hx I2 .nil rz rfl l2 q2
end
theorem kb_of {K : PySem.W.Frag} {x qual : Str} {st : Stmt} {f : Addr} {fd : FuncData} {ps : List Str} (F : Fun K x qual st f fd) {n : Nat} {ks : List Str} (g : {α : Type} → List α → List α → List α)
    (hrel : ∀ {vs zs : List V} {us ws : List Value}, Vals vs us → Vals zs ws → Vals (g vs zs) (g us ws))
    (h : ∀ (kV doc pm : Value) (an : Option Addr) (cdv ct : Value) (us ws : List Value), us.length = n → ws.length = ks.length → bindArgs (PySem.W.fnOf x qual (defArgs st) (defBody st) (defScope st) .none kV doc pm an cdv ct) ⟨us, ks.zip ws⟩ = pure (ps.zip (g us ws))) : KBn K fd ps n ks (fun us ws => g us ws) (fun vs zs => g vs zs) := by
  obtain ⟨oc, od, kV, doc, pm, an, cdv, ct, osl, rfl, lk, hcd⟩ := F.ex
  exact ⟨fun s us ws _ l1 l2 => .of_eq (h kV doc pm an cdv ct us ws l1 l2), hrel⟩
end LK

namespace LK
open PySem PySem.Spec PyProof.Rows L2
/-! ### t[::-1] of a tuple -/
theorem fm_map {α β : Type} {f : α → Option β} {g : α → β} : ∀ {l : List α}, (∀ m ∈ l, f m = some (g m)) → l.filterMap f = l.map g
  | [], _ => rfl
  | a :: l, h => by
    rw [List.filterMap_cons, h a List.mem_cons_self]
    exact congrArg (g a :: ·) (fm_map fun m hm => h m (List.mem_cons_of_mem _ hm))
theorem rev_pick (xs : Array Value) : ((List.range xs.size).filterMap fun (m : Nat) => xs[(((xs.size : Int) - 1) + (m : Int) * (-1)).toNat]?).toArray = xs.toList.reverse.toArray := by
  have e : ((List.range xs.size).filterMap fun (m : Nat) => xs[(((xs.size : Int) - 1) + (m : Int) * (-1)).toNat]?) = xs.toList.reverse := by
    have h : ∀ m ∈ List.range xs.size, (xs[(((xs.size : Int) - 1) + (m : Int) * (-1)).toNat]?) = some (xs.toList.reverse.getD m .none) := by
      intro m hm
      have hm := List.mem_range.mp hm
      have e1 : (((xs.size : Int) - 1) + (m : Int) * (-1)).toNat = xs.size - 1 - m := by omega
      rw [e1, List.getD_eq_getElem?_getD, List.getElem?_reverse (by simpa using hm)]
      rw [Array.getElem?_eq_getElem (by omega), Array.length_toList, List.getElem?_eq_getElem (by rw [Array.length_toList]; omega)]
      rfl
    rw [fm_map h]
    refine List.ext_getElem? fun i => ?_
    rw [List.getElem?_map]
    by_cases hi : i < xs.size
    · rw [List.getElem?_range hi, List.getElem?_eq_getElem (by simpa using hi)]
      simp [List.getElem?_eq_getElem, hi]
    · rw [List.getElem?_eq_none (by simpa using hi), List.getElem?_eq_none (by simpa using hi)]
      rfl
  rw [e]
section
variable {prog : Program} {w : World} {A : Around} {E : Value → Shared → Prop} {s : Shared}
theorem sliceApplied_rev {sl : Addr} {vl vu vs : Value} {n : Nat} {Q : Int × Int × Nat → Shared → Prop} (hs : s.heap.IsSliceOf sl vl vu vs) (pl : IsPart vl none) (pu : IsPart vu none) (ps : IsPart vs (some (-1)))
    (h : Q ((n : Int) - 1, -1, n) s) : wpAny (model prog w) A (Builtin.Slice.sliceApplied (.ref sl) (pure (n : Int))) Q E s := by
  obtain ⟨os, hos, hcs, hds⟩ := id hs
  unfold Builtin.Slice.sliceApplied Builtin.Slice.sliceFields
  refine wpAny_bind (wpAny_bind (wpAny_field hos hds (x := vl) rfl (wpAny_bind (wpAny_field hos hds (x := vu) rfl (wpAny_bind (wpAny_field hos hds (x := vs) rfl (wpAny_pure ?_)))))))
  refine wpAny_bind (HT.slicePart_ ps ?_)
  show wpAny _ _ (if ((-1 : Int) == 0) = true then _ else _) _ _ s
  rw [if_neg (by decide)]
  refine wpAny_bind (HT.slicePart_ pl (wpAny_bind (HT.slicePart_ pu (wpAny_bind (wpAny_pure ?_)))))
  show wpAny _ _ (match Builtin.Slice.sliceAdjust none none (-1) (n : Int) with | (lo, hi) => pure (lo, (-1 : Int), Builtin.Slice.slicePlaces lo hi (-1))) _ _ s
  have e1 : Builtin.Slice.sliceAdjust none none (-1) (n : Int) = ((n : Int) - 1, -1) := rfl
  rw [e1]
  show wpAny _ _ (pure ((n : Int) - 1, (-1 : Int), Builtin.Slice.slicePlaces ((n : Int) - 1) (-1) (-1))) _ _ s
  have e2 : Builtin.Slice.slicePlaces ((n : Int) - 1) (-1) (-1) = n := by
    unfold Builtin.Slice.slicePlaces
    rw [if_neg (by decide)]
    by_cases c : n = 0
    · subst c; rfl
    · rw [if_pos (by omega)]
      show (((n : Int) - 1 - -1 - 1) / 1 + 1).toNat = n
      rw [Int.ediv_one]; omega
  rw [e2]
  exact wpAny_pure h
theorem getItem_tuple_rev {t sl : Addr} {items : Array Value} {vl vu vs : Value} {Q : Value → Shared → Prop} (ht : IsTup s.heap t items) (hs : s.heap.IsSliceOf sl vl vu vs) (pl : IsPart vl none) (pu : IsPart vu none) (ps : IsPart vs (some (-1)))
    (h : Q (.ref s.heap.objs.size) { s with heap := s.heap.push { cls := .type "tuple", data := .seq items.toList.reverse.toArray } })
    (hsz : items.size ≤ sizeLine) : wpAny (model prog w) A (getItem (.ref t) (.ref sl)) Q E s := by
  have htake : sizeOk (.seq items.toList.reverse.toArray) := by
    show items.toList.reverse.toArray.size ≤ sizeLine
    simpa using hsz
  obtain ⟨os, hos, hcs, hds⟩ := id hs
  have hTs : s.TypeIs (.ref sl) "slice" := ⟨os, hos, hcs⟩
  unfold getItem
  try with_reducible refine wpAny_holding ?_
  first | refine wpAny_bind (wpAny_pure ?_) | skip
  refine wpAny_bind (wpAny_sequenceKey ht.typeIs (by decide) ?_)
  refine wpAny_bind (wpAny_callSpecial?_slot (name := Str.ofString "__getitem__") ht.typeIs PyProof.Rows.slot_tuple_getitem
    (wpAny_call_entry PyProof.Rows.slot_tuple_getitem ht.typeIs PyProof.Rows.entry_tuple_getitem ?_ (PyProof.Rows.args_tuple_getitem _ _)))
  show wpAny _ _ (Builtin.Tuple.tupleItemsOf (.ref t) >>= _) _ _ s
  refine wpAny_bind (PyProof.Rows.tupleItemsOf_ ht ?_)
  refine wpAny_bind (wpAny_typeOf hTs ?_)
  rw [if_pos (by decide)]
  refine wpAny_bind (sliceApplied_rev hs pl pu ps ?_)
  have hno : ¬ ((((items.size : Int) - 1) == 0 && (-1 : Int) == 1 && items.size == items.size) = true) := by
    intro q
    rw [Bool.and_eq_true, Bool.and_eq_true] at q
    exact absurd (eq_of_beq q.1.2) (by decide)
  show wpAny _ _ (if (((items.size : Int) - 1) == 0 && (-1 : Int) == 1 && items.size == items.size) = true then _ else _) _ _ s
  rw [if_neg hno, rev_pick]
  first
    | exact wpAny_bind (m := Builtin.Tuple.tupleExact _) (wpAny_newObj_type (wpAny_pure ⟨_, rfl, wpAny_pure h⟩) htake)
    | exact wpAny_bind (m := Builtin.Tuple.tupleExact _) (wpAny_newObj_type (wpAny_bind (wpAny_pure (wpAny_pure ⟨_, rfl, wpAny_pure h⟩))) htake)
    | exact wpAny_bind (wpAny_bind (m := Builtin.Tuple.tupleExact _) (wpAny_newObj_type (wpAny_pure (wpAny_pure ⟨_, rfl, wpAny_pure h⟩)) htake))
    | exact wpAny_bind (wpAny_bind (m := Builtin.Tuple.tupleExact _) (wpAny_newObj_type (wpAny_pure ⟨_, rfl, wpAny_pure h⟩) htake))
end
section
variable {X : Cx}
def tRevT (K : PySem.W.Frag) (te : TE) : TE := fun σ H Q => te σ H fun x H1 => ∃ a xs, x = .ref a ∧ SqT K H1 a xs ∧ ∀ p H2, Same H1 H2 → H1 p = none → H2 p = some (.tup xs.reverse) → Q (.ref p) H2
theorem pe_revT {e : Expr} {te : TE} {k : Nat} {p1 p2 p3 pos : Pos} (he : PE X e te) : PE X (.Subscript e (.Slice none none (some (.UnaryOp .USub (.Constant (.int 1) k p1) p2)) p3) pos) (tRevT X.K te) := by
  refine ⟨fun pins s σ H Q I h => ?_⟩
  refine Subscript_ (thn (he.run pins s σ H _ I h) fun v s1 ⟨x, H1, I1, r1, q1⟩ => ?_)
  obtain ⟨a, xs, ex, hx, q⟩ := q1
  subst ex
  cases r1
  have hst : PO X (some (.UnaryOp .USub (.Constant (.int 1) k p1) p2)) (tPart (tUn (rU fun i => .int (-i)) (tC (.int 1)))) := po_some (pe_un un_neg pe_int)
  refine wpAny_Slice (thn (po_none.run pins s1 σ H1 (fun o H2 => o = none ∧ H2 = H1) I1 ⟨rfl, rfl⟩) fun vl s2 ⟨l, H2, I2, pl, el, e2⟩ => ?_)
  subst el e2
  refine thn (po_none.run pins s2 σ H2 (fun o H3 => o = none ∧ H3 = H2) I2 ⟨rfl, rfl⟩) fun vu s3 ⟨u, H3, I3, pu, eu, e3⟩ => ?_
  subst eu e3
  refine thn (hst.run pins s3 σ H3 (fun o H4 => o = some (-1) ∧ H4 = H3) I3 ⟨1, rfl, -1, rfl, rfl, rfl⟩) fun vs s4 ⟨o, H4, I4, ps, eo, e4⟩ => ?_
  subst eo e4
  have I5 : Inv X pins σ H4 { s4 with heap := s4.heap.push { cls := .type "slice", data := .fields #[vl, vu, vs] } } := I4.kept (t' := s4.toks) fun b ob q => Heap.get?_push_of_some _ q
  obtain ⟨its, r, ht, hz⟩ := I5.tuple hx
  have hlen := r.length
  show wpAny (model X.prog X.w) X.A (subscriptTail e (.Slice none none (some (.UnaryOp .USub (.Constant (.int 1) k p1) p2)) p3) (.ref a) (.ref s4.heap.objs.size)) (EP X pins σ Q) X.xe { s4 with heap := s4.heap.push { cls := .type "slice", data := .fields #[vl, vu, vs] } }
  refine tail_any (ops := [.ref a, .ref s4.heap.objs.size]) ht.typeIs (PyProof.Rows.slot_tuple_getitem.lookup) ?_ (by with_unfolding_all rfl)
  refine getItem_tuple_rev ht (Heap.IsSliceOf.new _ vl vu vs) pl pu ps ?_ (by rw [List.size_toArray]; omega)
  refine ⟨.ref _, _, I5.laid (t' := s4.toks) (o := .tup xs.reverse) (fun b ob q => Heap.get?_push_of_some _ q) (Nat.le_refl _) ?_, rfl, q _ _ (same_upd (I5.hok.fresh (Nat.le_refl _))) (I5.hok.fresh (Nat.le_refl _)) upd_same⟩
  exact ⟨by rw [List.length_reverse]; exact hz, _, r.reverse, IsTup.new _ _⟩
end
end LK
namespace LK
open PySem PySem.Spec PyProof.Rows L2
/-! ### d.get(k) of a written dict with text keys -/
section
variable {X : Cx} {d : Addr} {es : Array DictEntry} {n : Nat} {o e : Expr} {apos cpos : Pos} {td ty : TE}
def tWget (K : PySem.W.Frag) (d : Addr) (td ty : TE) : TE := fun σ H Q => td σ H fun x H1 => x = .ref d ∧ ty σ H1 fun y H2 => ∃ (z : Str) (r : Option Value) (v : V), y = .str z ∧ PySem.W.nsIn K d z = some r ∧ RelV v (r.getD .none) ∧ Q v H2
theorem pe_wget (D : KDict X.K X.w d es n) (ho : PE X o td) (he : PE X e ty) (hbase : attributeBase o "get" X.env (eval o X.env) = eval o X.env := by rfl)
    (hfew : ((backTo cpos (starEach [e] X.env)).all (fun x => !x.1) && (backToKw cpos (keywordEach [] X.env)).all (fun x => x.1.isSome)
    && decide (([e] : List Expr).length + ([] : List Keyword).length + (if ([] : List Keyword).isEmpty then 0 else 1) < 30)) = true := by rfl)
    (hline : (apos.endLine == cpos.line) = true := by rfl) (htr : backTo cpos (starEach [e] X.env) = [(false, eval e X.env)] := by rfl) : PE X (.Call (.Attribute o "get" apos) [e] [] cpos) (tWget X.K d td ty) := by
  refine ⟨fun pins s σ H Q I h => ?_⟩
  refine wpAny_Call_method hbase hfew hline PySem.F.plainAttrs_dict PySem.F.slot_dict_get PySem.F.type_dict_get (thn (ho.run pins s σ H _ I h) fun u s1 ⟨x, H1, I1, rx, ex, q1⟩ => ?_)
  subst ex
  obtain rfl : u = Value.ref d := rx
  have ob := I1.kIn _ _ D.at_
  refine ⟨kd_type D I1, fun b q => ?_, ?_⟩
  · cases q
    exact ⟨_, ob, rfl⟩
  rw [htr]
  refine Calls.callWith_builtin rfl (Calls.evalArgs_plain (Calls.spliced_cons (thn (he.run pins s1 σ H1 _ I1 q1) fun iv s2 ⟨y, H2, I2, ry, z, r, v, ey, hn, rv, q2⟩ => Calls.spliced_nil ?_)))
  subst ey
  obtain ⟨t, rfl⟩ := ry
  refine call_meetsIn PySem.F.slot_dict_get (kd_type D I2) PySem.F.entry_dict_get (PySem.F.args_dict_get_2 _ _) (meets_dict_get (strKind X.prog X.w) d (PySem.strKind_is X.prog X.w z t) D.low)
    ⟨_, PySem.W.mapOf_K (prog := X.prog) I2.kIn D.at_ D.lit, v, H2, I2.tok _, ?_, q2⟩
  rw [PySem.W.find_K D.at_ hn]
  exact rv
end
end LK
namespace LK
open PySem PySem.Spec PyProof.Rows L2
/-! ### comprehensions without tests -/
/-- what is new since H -/
def nw (H H' : Hp) : Hp := fun a => if H a = none then H' a else none
theorem nw_some {H H' : Hp} {a : Addr} {o : HO} (h : nw H H' a = some o) : H a = none ∧ H' a = some o := by
  unfold nw at h
  split at h
  · exact ⟨by assumption, h⟩
  · cases h
theorem nw_of {H H' : Hp} {a : Addr} {o : HO} (h0 : H a = none) (h : H' a = some o) : nw H H' a = some o := by
  unfold nw
  rw [if_pos h0]; exact h
theorem nw_le (H H' : Hp) : Same (nw H H') H' := fun _ _ h => (nw_some h).2
theorem nw_hb {H H' : Hp} {b : Addr} {o : HO} (h : H b = some o) : Same (nw H H') (hb H' b) := fun a u e => by
  obtain ⟨h1, h2⟩ := nw_some e
  have n : a ≠ b := fun q => by rw [q, h] at h1; cases h1
  rw [hb_ne n]; exact h2
/-- new since a later heap is new since an earlier one -/
theorem nw_anti {H0 H H' : Hp} (d : ∀ a, H a = none → H0 a = none) : Same (nw H H') (nw H0 H') := fun a u e => by
  obtain ⟨h1, h2⟩ := nw_some e
  exact nw_of (d a h1) h2
theorem nw_same {H H' H'' : Hp} (s : ∀ a o, H a = none → H' a = some o → H'' a = some o) : Same (nw H H') (nw H H'') := fun a u e => by
  obtain ⟨h1, h2⟩ := nw_some e
  exact nw_of h1 (s _ _ h1 h2)
theorem Kp.dom {b : Addr} {H H' : Hp} {o : HO} (k : Kp b H H') (hb' : H' b = some o) : ∀ a, H' a = none → H a = none := fun a h => by
  cases q : H a with
  | none => rfl
  | some u =>
    by_cases e : a = b
    · subst e; rw [hb'] at h; cases h
    · rw [k.hd q e] at h; cases h
theorem Same.dom {H H' : Hp} (k : Same H H') : ∀ a, H' a = none → H a = none := fun a h => k.free h

/-- a pure one -/
theorem lc_pure {J : It} {n : Nat} {G : Hp → Prop} {Y : Nat → Hp → V → Hp → Prop} (w : Walk J n G Y) {g : TG} {te : TE} {vs : List Nat} {σ : L2.St} {H1 : Hp} {D : Addr} {Qd : Hp → Prop} (hD : H1 D = none) (hn : n ≤ 1000000) (y : Nat → V)
    (hG : ∀ H, Same H1 H → G H)
    (hs : ∀ i x H H', i < n → Same H1 H → Y i H x H' → g x (wipe σ vs) H' fun σ2 H2 => Same H H2 ∧ wipe σ2 vs = wipe σ vs ∧ ∀ Q2 : V → Hp → Prop, (∀ H3, Same H2 H3 → Q2 (y i) H3) → te σ2 H2 Q2)
    (gm : ∀ x σ0 H0 Q0 Q1, (∀ σ2 H2, Q0 σ2 H2 → Q1 σ2 H2) → g x σ0 H0 Q0 → g x σ0 H0 Q1)
    (hq : ∀ H', Same H1 H' → H' D = some (.lst ((List.range n).map y)) → Qd H') :
    ∃ W : Nat → Nat → Hp → Prop, (∃ m, W 0 m (upd H1 D (.lst []))) ∧ ∀ i m H, W i m H →
      (J.stop i H ∧ Qd H) ∨ (J.go i H ∧ ∃ Nx : Hp → Prop, (∀ H', Nx H' → ∃ m', m' < m ∧ W (i + 1) m' H') ∧ ∀ x H', J.yld i H x H' → g x (wipe σ vs) H' fun σ2 H2 => wipe σ2 vs = wipe σ vs ∧ tYes σ2 H2 fun b H3 =>
        if b = true then te σ2 H3 fun y H4 => ∃ acc, H4 D = some (.lst acc) ∧ acc.length < sizeLine ∧ Nx (upd H4 D (.lst (acc ++ [y]))) else Nx H3) := by
  have up : ∀ {H : Hp} {o : HO}, Same H1 H → Same H1 (upd H D o) := fun s a u e => by
    rw [upd_ne (ne_of_none e hD)]; exact s _ _ e
  refine lc_it w (fun i H => Same H1 H ∧ H D = some (.lst ((List.range i).map y))) ⟨up (Same.refl _), upd_same⟩ (fun i H _ h => hG H h.1) (fun i x H H' hi ⟨s1, h1⟩ hY => ?_) (fun H h => hq H h.1 h.2)
  refine gm _ _ _ _ _ (fun σ2 H2 ⟨s2, e2, k⟩ => ⟨e2, ?_⟩) (hs i x H H' hi s1 hY)
  simp only [tYes, eq_self, ite_true]
  refine k _ fun H3 s3 => ⟨_, s3 _ _ (s2 _ _ h1), ?_, up (Same.trans (Same.trans s1 s2) s3), ?_⟩
  · rw [List.length_map, List.length_range]
    exact Nat.lt_of_lt_of_le (Nat.lt_of_lt_of_le hi hn) (by decide)
  · rw [upd_same, List.range_succ, List.map_append]
    rfl
/-- one that draws from a bag -/
theorem lc_bag {J : It} {n : Nat} {G : Hp → Prop} {Y : Nat → Hp → V → Hp → Prop} (w : Walk J n G Y) {g : TG} {te : TE} {vs : List Nat} {σ : L2.St} {H1 : Hp} {D b c : Addr} {Qd : Hp → Prop} (hD : H1 D = none) (hB : Bag H1 b c) (hn : n ≤ 1000000) (Φ : Hp → V → Prop) (mono : ∀ G G' v, Same G G' → Φ G v → Φ G' v)
    (hG : ∀ H, Kp b H1 H → G H)
    (hs : ∀ i x H H', i < n → Kp b H1 H → Bag H b c → Y i H x H' → g x (wipe σ vs) H' fun σ2 H2 => Same H H2 ∧ wipe σ2 vs = wipe σ vs ∧ ∀ Q2 : V → Hp → Prop, (∀ v H3, Bag H3 b c → Kp b H2 H3 → Φ (nw H2 H3) v → Q2 v H3) → te σ2 H2 Q2)
    (gm : ∀ x σ0 H0 Q0 Q1, (∀ σ2 H2, Q0 σ2 H2 → Q1 σ2 H2) → g x σ0 H0 Q0 → g x σ0 H0 Q1)
    (hq : ∀ H' ys, Bag H' b c → Kp b H1 H' → H' D = some (.lst ys) → ys.length = n → (∀ v ∈ ys, Φ (nw (upd H1 D (.lst [])) H') v) → Qd H') :
    ∃ W : Nat → Nat → Hp → Prop, (∃ m, W 0 m (upd H1 D (.lst []))) ∧ ∀ i m H, W i m H →
      (J.stop i H ∧ Qd H) ∨ (J.go i H ∧ ∃ Nx : Hp → Prop, (∀ H', Nx H' → ∃ m', m' < m ∧ W (i + 1) m' H') ∧ ∀ x H', J.yld i H x H' → g x (wipe σ vs) H' fun σ2 H2 => wipe σ2 vs = wipe σ vs ∧ tYes σ2 H2 fun b H3 =>
        if b = true then te σ2 H3 fun y H4 => ∃ acc, H4 D = some (.lst acc) ∧ acc.length < sizeLine ∧ Nx (upd H4 D (.lst (acc ++ [y]))) else Nx H3) := by
  obtain ⟨xb, eb⟩ := hB.at
  obtain ⟨xc, ec⟩ := hB.at2
  have nbD : b ≠ D := fun e => by rw [← e, eb] at hD; cases hD
  have ncD : c ≠ D := fun e => by rw [← e, ec] at hD; cases hD
  have up : ∀ {H : Hp} {o : HO}, Kp b H1 H → Kp b H1 (upd H D o) := fun s a u e => by
    obtain ⟨h1, h2⟩ := hb_some e
    rw [hb_ne h1, upd_ne (ne_of_none h2 hD)]
    exact s.hd h2 h1
  refine lc_it w (fun i H => Kp b H1 H ∧ Bag H b c ∧ ∃ ys, H D = some (.lst ys) ∧ ys.length = i ∧ ∀ v ∈ ys, Φ (nw (upd H1 D (.lst [])) H) v) ⟨up (Kp.refl _ _), hB.upd nbD ncD, [], upd_same, rfl, fun v hv => absurd hv (by simp)⟩ (fun i H _ h => hG H h.1) (fun i x H H' hi ⟨s1, B1, ys, h1, hl, hp⟩ hY => ?_) (fun H ⟨s1, B1, ys, h1, hl, hp⟩ => hq H ys B1 s1 h1 hl hp)
  refine gm _ _ _ _ _ (fun σ2 H2 ⟨s2, e2, k⟩ => ⟨e2, ?_⟩) (hs i x H H' hi s1 B1 hY)
  simp only [tYes, eq_self, ite_true]
  have B2 := B1.same s2
  refine k _ fun v H3 B3 k3 hv => ⟨ys, k3.hd (s2 _ _ h1) nbD.symm, ?_, up (Same.trans (Same.trans s1 (Kp.of s2)) k3), B3.upd nbD ncD, ys ++ [v], upd_same, by rw [List.length_append, hl]; rfl, fun u hu => ?_⟩
  · rw [hl]
    exact Nat.lt_of_lt_of_le (Nat.lt_of_lt_of_le hi hn) (by decide)
  · have kk : ∀ a o, upd H1 D (.lst []) a = none → H3 a = some o → upd H3 D (.lst (ys ++ [v])) a = some o := fun a o q e => by
      have n : a ≠ D := fun z => by rw [z, upd_same] at q; cases q
      rw [upd_ne n]; exact e
    rcases List.mem_append.mp hu with hu | hu
    · refine mono _ _ _ (fun a o e => ?_) (hp u hu)
      obtain ⟨q1, q2⟩ := nw_some e
      have n : a ≠ b := fun z => by rw [z, upd_ne nbD, eb] at q1; cases q1
      exact nw_of q1 (kk _ _ q1 (k3.hd (s2 _ _ q2) n))
    · obtain rfl : u = v := by simpa using hu
      refine mono _ _ _ (fun a o e => ?_) hv
      obtain ⟨q1, q2⟩ := nw_some e
      have d1 : upd H1 D (.lst []) a = none := by
        by_cases n : a = D
        · rw [n, s2 _ _ h1] at q1; cases q1
        · rw [upd_ne n]
          exact Kp.dom (Same.trans s1 (Kp.of s2)) (B2.at.choose_spec) a q1
      exact nw_of d1 (kk _ _ d1 q2)
end LK
namespace LK
open PySem PySem.Spec PyProof.Rows L2
theorem cutV_take (xs : List V) (k : Nat) : cutV xs none (some (k : Int)) = xs.take k := by
  unfold cutV HT.sIx
  simp only [List.drop_zero, Nat.sub_zero]
  by_cases h : (k : Int) < 0
  · omega
  · rw [if_neg h]
    have e : ((k : Int)).toNat = k := Int.toNat_natCast k
    by_cases c : k ≤ xs.length
    · congr 1
      omega
    · rw [List.take_of_length_le (by omega), List.take_of_length_le (by omega)]
theorem cutV_drop (xs : List V) (k : Nat) : cutV xs (some (k : Int)) none = xs.drop k := by
  unfold cutV
  rw [HT.sIx_nat, HT.sIx_none]
  by_cases c : k ≤ xs.length
  · rw [Nat.min_eq_left c, List.take_of_length_le (by simp)]
  · rw [Nat.min_eq_right (by omega), List.drop_eq_nil_of_le (by omega), List.drop_eq_nil_of_le (by omega)]
    simp
end LK
namespace LK
open PySem PySem.Spec PyProof.Rows L2
/-! ### new objects, the heap behind them by a name -/
section
variable {X : Cx} {es : List Expr} {t : TA} {pos : Pos}
def tTupU (t : TA) : TE := fun σ H Q => t σ H fun xs H1 => xs.length ≤ sizeLine ∧ ∀ p H2, Same H1 H2 → H1 p = none → H2 p = some (.tup xs) → Q (.ref p) H2
def tLstU (t : TA) : TE := fun σ H Q => t σ H fun xs H1 => xs.length ≤ sizeLine ∧ ∀ p H2, Same H1 H2 → H1 p = none → H2 p = some (.lst xs) → Q (.ref p) H2
theorem pe_tupU {x1} (h : PA X es t) : PE X (.Tuple es x1 pos) (tTupU t) := by
  refine ⟨fun pins s σ H Q I hq => ?_⟩
  refine wpAny_Tuple_spliced (thn (h.run pos pins s σ H _ I hq) fun us s1 ⟨xs, H1, I1, r, z, q⟩ => ⟨by rw [← r.length]; exact z, ?_⟩)
  have hf : H1 s1.heap.objs.size = none := I1.hok.fresh (Nat.le_refl _)
  refine ⟨.ref s1.heap.objs.size, L2.upd H1 s1.heap.objs.size (.tup xs), I1.laid (t' := s1.toks) (fun b u e => Heap.get?_push_of_some _ e) (Nat.le_refl _) ?_, rfl, q _ _ (same_upd hf) hf upd_same⟩
  exact ⟨z, us, r, ⟨_, Heap.get?_push_size _ rfl, rfl, _, rfl⟩⟩
theorem pe_lstU (h : PA X es t) : PE X (.List es pos) (tLstU t) := by
  refine ⟨fun pins s σ H Q I hq => ?_⟩
  refine wpAny_List_spliced (thn (h.run pos pins s σ H _ I hq) fun us s1 ⟨xs, H1, I1, r, z, q⟩ => ⟨by rw [← r.length]; exact z, ?_⟩)
  have hf : H1 s1.heap.objs.size = none := I1.hok.fresh (Nat.le_refl _)
  refine ⟨.ref s1.heap.objs.size, L2.upd H1 s1.heap.objs.size (.lst xs), I1.laid (t' := s1.toks) (fun b u e => Heap.get?_push_of_some _ e) (Nat.le_refl _) ?_, rfl, q _ _ (same_upd hf) hf upd_same⟩
  exact ⟨z, us, 0, r, Heap.get?_push_size _ rfl⟩
def rSlLU (K : PySem.W.Frag) : V → Option Int → Option Int → Hp → VK → Prop := fun x lo hi H Q => ∃ a xs, x = .ref a ∧ SqL K H a xs ∧ ∀ p H2, Same H H2 → H p = none → H2 p = some (.lst (cutV xs lo hi)) → Q (.ref p) H2
theorem sl_listU : SlR X (rSlLU X.K) := by
  intro pins s σ H x v vl vu lo hi sl Q I rx hs pl pu h
  obtain ⟨a, xs, rfl, hx, q⟩ := h
  exact sl_list pins s σ H _ v vl vu lo hi sl Q I rx hs pl pu ⟨a, xs, rfl, hx, fun p hp => q p _ (same_upd hp) hp upd_same⟩
theorem call_listU : CallR X (.type "list") (fun xs H Q => ∃ p ys, xs = [.ref p] ∧ (SqL X.K H p ys ∨ SqT X.K H p ys) ∧ ∀ l H2, Same H H2 → H l = none → H2 l = some (.lst ys) → Q (.ref l) H2) := cr_imp call_list_of fun xs H Q h => by
  obtain ⟨p, ys, rfl, h, q⟩ := h
  exact ⟨p, ys, rfl, h, fun l hl => q l _ (same_upd hl) hl upd_same⟩
def rCatL : R2 := fun x y H Q => ∃ l b xs zs, x = .ref l ∧ y = .ref b ∧ H l = some (.lst xs) ∧ H b = some (.lst zs) ∧ xs.length + zs.length ≤ sizeLine ∧ ∀ p H2, Same H H2 → H p = none → H2 p = some (.lst (xs ++ zs)) → Q (.ref p) H2
theorem op_catL : OpR X (binaryOp .Add) rCatL := opr_imp op_cat fun x y H Q h => by
  obtain ⟨l, b, xs, zs, rfl, rfl, h1, h2, hz, q⟩ := h
  exact ⟨l, b, xs, zs, rfl, rfl, h1, h2, hz, fun p hp => q p _ (same_upd hp) hp upd_same⟩
def rRepL : R2 := fun x y H Q => ∃ l k xs, x = .ref l ∧ y = .int k ∧ H l = some (.lst xs) ∧ -(2 ^ 63) ≤ k ∧ k < 2 ^ 63 ∧ xs.length * k.toNat ≤ sizeLine ∧ ∀ p H2, Same H H2 → H p = none → H2 p = some (.lst (List.replicate k.toNat xs).flatten) → Q (.ref p) H2
theorem op_repL : OpR X (binaryOp .Mult) rRepL := opr_imp op_rep fun x y H Q h => by
  obtain ⟨l, k, xs, rfl, rfl, h1, h2, h3, hz, q⟩ := h
  exact ⟨l, k, xs, rfl, rfl, h1, h2, h3, hz, fun p hp => q p _ (same_upd hp) hp upd_same⟩
end
end LK
namespace LK
open PySem PySem.Spec PyProof.Rows L2
/-- [f(x) for x in ..], the items known -/
theorem lc_map {J : It} {n : Nat} {G : Hp → Prop} {Y : Nat → Hp → V → Hp → Prop} (w : Walk J n G Y) {te : TE} {i : Nat} {σ : L2.St} {H1 : Hp} {D : Addr} {Qd : Hp → Prop} (xs : List V) (f : V → V) (hD : H1 D = none) (hn : n ≤ 1000000) (hx : xs.length = n)
    (hY : ∀ k H x H', k < n → Y k H x H' → H' = H ∧ xs[k]? = some x) (hG : ∀ H, Same H1 H → G H)
    (hs : ∀ x H, x ∈ xs → Same H1 H → ∀ Q2 : V → Hp → Prop, (∀ H3, Same H H3 → Q2 (f x) H3) → te ((wipe σ [i]).set i (some x)) H Q2)
    (hq : ∀ H', Same H1 H' → H' D = some (.lst (xs.map f)) → Qd H') :
    ∃ W : Nat → Nat → Hp → Prop, (∃ m, W 0 m (L2.upd H1 D (.lst []))) ∧ ∀ i' m H, W i' m H →
      (J.stop i' H ∧ Qd H) ∨ (J.go i' H ∧ ∃ Nx : Hp → Prop, (∀ H', Nx H' → ∃ m', m' < m ∧ W (i' + 1) m' H') ∧ ∀ x H', J.yld i' H x H' → gName i x (wipe σ [i]) H' fun σ2 H2 => wipe σ2 [i] = wipe σ [i] ∧ tYes σ2 H2 fun b H3 =>
        if b = true then te σ2 H3 fun y H4 => ∃ acc, H4 D = some (.lst acc) ∧ acc.length < sizeLine ∧ Nx (L2.upd H4 D (.lst (acc ++ [y]))) else Nx H3) := by
  have e : (List.range n).map (fun k => f (xs.getD k .non)) = xs.map f := by
    refine List.ext_getElem? fun k => ?_
    rw [List.getElem?_map, List.getElem?_map]
    by_cases hk : k < n
    · rw [List.getElem?_range hk, List.getElem?_eq_getElem (by omega)]
      simp [List.getD_eq_getElem?_getD, List.getElem?_eq_getElem (show k < xs.length by omega)]
    · rw [List.getElem?_eq_none (by simpa using hk), List.getElem?_eq_none (by omega)]
      rfl
  refine lc_pure w hD hn (fun k => f (xs.getD k .non)) hG (fun k x H H' hk s1 y => ?_) (fun x σ0 H0 Q0 Q1 h q => h _ _ q) (fun H' s h => hq H' s (by rw [← e]; exact h))
  obtain ⟨rfl, hx2⟩ := hY _ _ _ _ hk y
  refine ⟨Same.refl _, ?_, fun Q2 h2 => hs x H' (List.mem_of_getElem? hx2) s1 Q2 fun H3 s3 => ?_⟩
  · show ((σ.set i none).set i (some x)).set i none = σ.set i none
    rw [List.set_set, List.set_set]
  · have e2 : xs.getD k .non = x := by rw [List.getD_eq_getElem?_getD, hx2]; rfl
    have := h2 H3 s3
    rw [e2] at this
    exact this
/-- the same, drawing from a bag -/
theorem lc_draw {J : It} {n : Nat} {G : Hp → Prop} {Y : Nat → Hp → V → Hp → Prop} (w : Walk J n G Y) {te : TE} {i : Nat} {σ : L2.St} {H1 : Hp} {D b c : Addr} {Qd : Hp → Prop} (Φ : Hp → V → Prop) (mono : ∀ G G' v, Same G G' → Φ G v → Φ G' v) (hD : H1 D = none) (hB : Bag H1 b c) (hn : n ≤ 1000000)
    (hY : ∀ k H x H', Y k H x H' → H' = H) (hG : ∀ H, Kp b H1 H → G H)
    (hs : ∀ x H, Kp b H1 H → Bag H b c → ∀ Q2 : V → Hp → Prop, (∀ v H3, Bag H3 b c → Kp b H H3 → Φ (nw H H3) v → Q2 v H3) → te ((wipe σ [i]).set i (some x)) H Q2)
    (hq : ∀ H' ys, Bag H' b c → Kp b H1 H' → H' D = some (.lst ys) → ys.length = n → (∀ v ∈ ys, Φ (nw (L2.upd H1 D (.lst [])) H') v) → Qd H') :
    ∃ W : Nat → Nat → Hp → Prop, (∃ m, W 0 m (L2.upd H1 D (.lst []))) ∧ ∀ i' m H, W i' m H →
      (J.stop i' H ∧ Qd H) ∨ (J.go i' H ∧ ∃ Nx : Hp → Prop, (∀ H', Nx H' → ∃ m', m' < m ∧ W (i' + 1) m' H') ∧ ∀ x H', J.yld i' H x H' → gName i x (wipe σ [i]) H' fun σ2 H2 => wipe σ2 [i] = wipe σ [i] ∧ tYes σ2 H2 fun b H3 =>
        if b = true then te σ2 H3 fun y H4 => ∃ acc, H4 D = some (.lst acc) ∧ acc.length < sizeLine ∧ Nx (L2.upd H4 D (.lst (acc ++ [y]))) else Nx H3) := by
  refine lc_bag w hD hB hn Φ mono hG (fun k x H H' hk s1 B1 y => ?_) (fun x σ0 H0 Q0 Q1 h q => h _ _ q) hq
  have e := hY _ _ _ _ y
  subst e
  refine ⟨Same.refl _, ?_, fun Q2 h2 => hs x H' s1 B1 Q2 h2⟩
  show ((σ.set i none).set i (some x)).set i none = σ.set i none
  rw [List.set_set, List.set_set]
def signsV (z : Str) : List V := z.cps.toList.map fun c => V.str ⟨#[c]⟩
theorem signsV_at {z : Str} : ∀ (k : Nat) (H : Hp) (x : V) (H' : Hp), (H' = H ∧ ∃ c, z.cps[k]? = some c ∧ x = V.str ⟨#[c]⟩) → H' = H ∧ (signsV z)[k]? = some x := by
  rintro k H x H' ⟨rfl, c, h, rfl⟩
  refine ⟨rfl, ?_⟩
  unfold signsV
  rw [List.getElem?_map, Array.getElem?_toList, h]
  rfl
theorem signsV_length (z : Str) : (signsV z).length = z.cps.size := by simp [signsV]
theorem all_map_id {α : Type} (p : α → Bool) (l : List α) : (l.map p).all id = l.all p := by
  rw [List.all_map]; rfl
end LK
namespace LK
open PySem PySem.Spec PyProof.Rows L2
/-- [p(c) for c in z], z a text -/
theorem lc_signs {z : Str} {te : TE} {i : Nat} {σ : L2.St} {H1 : Hp} {D : Addr} {Qd : Hp → Prop} (p : Nat → Bool) (hD : H1 D = none) (hz : z.length ≤ 1000000)
    (hs : ∀ c H, c ∈ z.cps.toList → Same H1 H → ∀ Q2 : V → Hp → Prop, (∀ H3, Same H H3 → Q2 (.bl (p c)) H3) → te ((wipe σ [i]).set i (some (.str ⟨#[c]⟩))) H Q2)
    (hq : ∀ H', Same H1 H' → H' D = some (.lst ((z.cps.toList.map p).map V.bl)) → Qd H') :
    ∃ W : Nat → Nat → Hp → Prop, (∃ m, W 0 m (L2.upd H1 D (.lst []))) ∧ ∀ i' m H, W i' m H →
      ((Its z).stop i' H ∧ Qd H) ∨ ((Its z).go i' H ∧ ∃ Nx : Hp → Prop, (∀ H', Nx H' → ∃ m', m' < m ∧ W (i' + 1) m' H') ∧ ∀ x H', (Its z).yld i' H x H' → gName i x (wipe σ [i]) H' fun σ2 H2 => wipe σ2 [i] = wipe σ [i] ∧ tYes σ2 H2 fun b H3 =>
        if b = true then te σ2 H3 fun y H4 => ∃ acc, H4 D = some (.lst acc) ∧ acc.length < sizeLine ∧ Nx (L2.upd H4 D (.lst (acc ++ [y]))) else Nx H3) := by
  refine lc_map walk_str (signsV z) (fun v => match v with | .str y => .bl (p (y.cps.toList.headD 0)) | _ => .non) hD hz (signsV_length z) (fun k H x H' _ y => signsV_at k H x H' y) (fun _ _ => trivial) (fun x H hx s1 Q2 h2 => ?_) (fun H' s h => hq H' s ?_)
  · obtain ⟨c, hc, rfl⟩ := List.mem_map.mp hx
    exact hs c H hc s1 Q2 h2
  · rw [h]
    unfold signsV
    rw [List.map_map, List.map_map]
    rfl
theorem starts_minus {z : Str} (h : Txt.startswith z "-" = true) : ∃ r, z.cps.toList = 45 :: r := by
  have h2 : PySem.StrLaws.At z "-" z.length 0 := by
    unfold Txt.startswith at h
    rw [Bool.and_eq_true] at h
    exact ⟨of_decide_eq_true h.1, h.2⟩
  have e : TL.tl "-" = [45] := by decide +kernel
  have q := (TL.at_iff (by rw [e]; simp) 0).mp h2
  rw [e, List.drop_zero] at q
  unfold TL.pre at q
  have q2 : z.cps.toList.take 1 = [45] := eq_of_beq q
  cases hz : z.cps.toList with
  | nil => rw [hz] at q2; simp at q2
  | cons c r => rw [hz] at q2; simp at q2; rw [q2]; exact ⟨r, rfl⟩
theorem cutS_tail (z : Str) : (cutS z (some 1) none).cps.toList = z.cps.toList.drop 1 := by
  unfold cutS
  have e1 := HT.sIx_nat z.length 0 1
  have l : z.length = z.cps.toList.length := by rw [Array.length_toList]; rfl
  show ((z.cps.toList.drop (HT.sIx z.length 0 (some ((1 : Nat) : Int)))).take (HT.sIx z.length z.length none - HT.sIx z.length 0 (some ((1 : Nat) : Int)))) = _
  rw [e1, HT.sIx_none]
  by_cases c : 1 ≤ z.length
  · rw [Nat.min_eq_left c, List.take_of_length_le (by rw [List.length_drop]; omega)]
  · rw [List.drop_eq_nil_of_le (by omega), List.drop_eq_nil_of_le (by omega)]
    simp
theorem len_cps (z : Str) : z.cps.toList.length = z.length := by rw [Array.length_toList]; rfl
end LK
namespace LK
theorem iteTT {c A B : Prop} [Decidable c] (hc : c) (h : A) : if c then A else B := by rw [if_pos hc]; exact h
theorem iteFF {c A B : Prop} [Decidable c] (hc : ¬ c) (h : B) : if c then A else B := by rw [if_neg hc]; exact h
end LK
namespace LK
open PySem PySem.Spec PyProof.Rows L2
theorem str_append (a b : Str) : (a ++ b).cps.toList = a.cps.toList ++ b.cps.toList := by
  show (a.cps ++ b.cps).toList = _
  exact Array.toList_append
theorem str_append_len (a b : Str) : (a ++ b).length = a.length + b.length := by
  rw [← len_cps, str_append, List.length_append, len_cps, len_cps]
theorem cutS_tail_len (z : Str) : (cutS z (some 1) none).length = z.length - 1 := by
  rw [← len_cps, cutS_tail, List.length_drop, len_cps]
theorem cutS_len (z : Str) (lo hi : Option Int) : (cutS z lo hi).length ≤ z.length := by
  rw [← len_cps, ← len_cps z]
  unfold cutS
  show (List.take _ (List.drop _ _)).length ≤ _
  rw [List.length_take, List.length_drop]
  omega
end LK
namespace LK
open PySem PySem.Spec PyProof.Rows L2
/-- [f(k) for k in range(n)] -/
theorem lc_rng {lo : Int} {n : Nat} {te : TE} {i : Nat} {σ : L2.St} {H1 : Hp} {D : Addr} {Qd : Hp → Prop} (f : Int → V) (hD : H1 D = none) (hn : n ≤ 1000000)
    (hs : ∀ (k : Nat) H, k < n → Same H1 H → ∀ Q2 : V → Hp → Prop, (∀ H3, Same H H3 → Q2 (f (lo + (k : Int))) H3) → te ((wipe σ [i]).set i (some (.int (lo + (k : Int))))) H Q2)
    (hq : ∀ H', Same H1 H' → H' D = some (.lst ((List.range n).map fun (k : Nat) => f (lo + (k : Int)))) → Qd H') :
    ∃ W : Nat → Nat → Hp → Prop, (∃ m, W 0 m (L2.upd H1 D (.lst []))) ∧ ∀ i' m H, W i' m H →
      ((Itr lo n).stop i' H ∧ Qd H) ∨ ((Itr lo n).go i' H ∧ ∃ Nx : Hp → Prop, (∀ H', Nx H' → ∃ m', m' < m ∧ W (i' + 1) m' H') ∧ ∀ x H', (Itr lo n).yld i' H x H' → gName i x (wipe σ [i]) H' fun σ2 H2 => wipe σ2 [i] = wipe σ [i] ∧ tYes σ2 H2 fun b H3 =>
        if b = true then te σ2 H3 fun y H4 => ∃ acc, H4 D = some (.lst acc) ∧ acc.length < sizeLine ∧ Nx (L2.upd H4 D (.lst (acc ++ [y]))) else Nx H3) := by
  refine lc_map walk_range ((List.range n).map fun (k : Nat) => V.int (lo + (k : Int))) (fun v => match v with | .int j => f j | _ => .non) hD hn (by rw [List.length_map, List.length_range]) (fun k H x H' hk y => ?_) (fun _ _ => trivial) (fun x H hx s1 Q2 h2 => ?_) (fun H' s h => hq H' s ?_)
  · refine ⟨y.1, ?_⟩
    rw [List.getElem?_map, List.getElem?_range hk, y.2]
    rfl
  · obtain ⟨k, hk, rfl⟩ := List.mem_map.mp hx
    exact hs k H (List.mem_range.mp hk) s1 Q2 h2
  · rw [h, List.map_map]
    rfl
end LK
namespace LK
open PySem PySem.Spec PyProof.Rows L2
section
variable {X : Cx} {K : PySem.W.Frag}
theorem call_isiDK (hK : X.K = K) : CallR X (.builtin "isinstance") (fun xs H Q => ∃ x T d, xs = [x, .ty T] ∧ Dp K H x d ∧ T ∈ ["str", "int", "bool", "list", "tuple"] ∧ Q (.bl (isTy T d)) H) := by
  subst hK
  exact call_isiD
end
end LK
namespace LK
open PySem PySem.Spec PyProof.Rows L2
section
variable {X : Cx}
/-- tuple(x) of a list: a new tuple -/
theorem call_tupleN : CallR X (.type "tuple") (fun xs H Q => ∃ p ys, xs = [.ref p] ∧ SqL X.K H p ys ∧ ∀ q H', Same H H' → H q = none → H' q = some (.tup ys) → Q (.ref q) H') := cr_imp call_tuple_of fun xs H Q h => by
  obtain ⟨p, ys, rfl, h, q⟩ := h
  exact ⟨p, ys, rfl, .inl ⟨h, fun l hl => q l _ (same_upd hl) hl upd_same⟩⟩
end
theorem strs_of {m : Nat} : ∀ {l : List V}, (∀ v ∈ l, ∃ z, v = V.str z ∧ z.length ≤ m) → ∃ zs : List Str, l = zs.map V.str ∧ ∀ z ∈ zs, z.length ≤ m
  | [], _ => ⟨[], rfl, fun z h => absurd h (by simp)⟩
  | v :: l, h => by
    obtain ⟨z, rfl, hz⟩ := h v List.mem_cons_self
    obtain ⟨zs, rfl, hzs⟩ := strs_of (l := l) fun v hv => h v (List.mem_cons_of_mem _ hv)
    refine ⟨z :: zs, rfl, fun y hy => ?_⟩
    rcases List.mem_cons.mp hy with rfl | hy
    · exact hz
    · exact hzs y hy
theorem sum_le {m : Nat} : ∀ {zs : List Str}, (∀ z ∈ zs, z.length ≤ m) → (zs.map (·.length)).sum ≤ zs.length * m
  | [], _ => by simp
  | z :: zs, h => by
    rw [List.map_cons, List.sum_cons, List.length_cons, Nat.succ_mul]
    have h1 := h z List.mem_cons_self
    have h2 := sum_le (zs := zs) fun y hy => h y (List.mem_cons_of_mem _ hy)
    omega
end LK
namespace LK
open PySem PySem.Spec PyProof.Rows L2
theorem joinL_len (S : List Nat) : ∀ ps : List (List Nat), (TL.joinL S ps).length ≤ (ps.map List.length).sum + ps.length * S.length
  | [] => by simp [TL.joinL]
  | [p] => by simp [TL.joinL]
  | p :: q :: r => by
    have ih := joinL_len S (q :: r)
    show (p ++ (S ++ TL.joinL S (q :: r))).length ≤ _
    rw [List.length_append, List.length_append, List.map_cons, List.sum_cons, List.length_cons, Nat.succ_mul]
    omega
theorem join_len (y : Str) (zs : List Str) : (Txt.join y zs).length ≤ (zs.map (·.length)).sum + zs.length * y.length := by
  rw [TL.join_eq, ← len_cps]
  have e := TL.tl_join y zs
  show (TL.tl (Str.join y zs)).length ≤ _
  rw [e]
  refine Nat.le_trans (joinL_len _ _) ?_
  rw [List.map_map, List.length_map]
  have e1 : ((zs.map (List.length ∘ TL.tl))) = zs.map (·.length) := List.map_congr_left fun z _ => len_cps z
  rw [e1]
  show _ + zs.length * (y.cps.toList).length ≤ _
  rw [len_cps]
  exact Nat.le_refl _
/-- the list that lc_draw has made, as texts -/
theorem kp_new {b c : Addr} {H H1 : Hp} (B : Bag H b c) (s : Same H H1) : Kp b H H1 ∧ Bag H1 b c := ⟨Kp.of s, B.same s⟩
theorem hb_new {b c p : Addr} {H H1 : Hp} {o : HO} (B : Bag H b c) (h0 : H p = none) (h1 : H1 p = some o) : hb H1 b p = some o := by
  have n : p ≠ b := fun e => by
    obtain ⟨xs, q⟩ := B.at
    rw [e, q] at h0; cases h0
  rw [hb_ne n]; exact h1
end LK
namespace LK
open PySem PySem.Spec PyProof.Rows L2
def isIntV : V → Bool
  | .int _ => true
  | _ => false
theorem ints_of {l : List V} (h : l.all isIntV = true) : ∀ y ∈ l, ∃ i, y = V.int i := fun y hy => by
  have q := List.all_eq_true.mp h y hy
  cases y <;> first | exact ⟨_, rfl⟩ | simp [isIntV] at q
end LK
namespace LK
open PySem PySem.Spec PyProof.Rows L2
theorem nx_op {t : TS} {D : Ends} {σ : L2.St} {H : Hp} (h : ∀ N : L2.St → Hp → Prop, (∀ σ' H', D.nx σ' H' → N σ' H') → t { D with nx := N } σ H) : t D σ H := h D.nx fun _ _ z => z
/-- a test that changes nothing and whose answer does not matter -/
theorem if_any {c : TT} {t u : TS} {D : Ends} {σ : L2.St} {H : Hp} (hc : ∀ K : Bool → Hp → Prop, (∀ b, K b H) → c σ H K) (hA : t D σ H) (hB : u D σ H) : tIfS c t u D σ H := hc _ fun b => by
  cases b
  · exact iteFF (by decide) hB
  · exact iteTT rfl hA
end LK
namespace LK
open PySem PySem.Spec PyProof.Rows L2
theorem if_anyS {c : TT} {t u : TS} {D : Ends} {σ : L2.St} {H : Hp} (hc : ∀ K : Bool → Hp → Prop, (∀ b H1, Same H H1 → K b H1) → c σ H K) (hA : ∀ H1, Same H H1 → t D σ H1) (hB : ∀ H1, Same H H1 → u D σ H1) : tIfS c t u D σ H := hc _ fun b H1 s => by
  cases b
  · exact iteFF (by decide) (hB H1 s)
  · exact iteTT rfl (hA H1 s)
end LK
namespace LK
open PySem PySem.Spec PyProof.Rows L2
theorem if_of {c : TT} {t u : TS} {D : Ends} {σ : L2.St} {H : Hp} (R : Bool → Prop) (hc : ∀ K : Bool → Hp → Prop, (∀ b H1, R b → Same H H1 → K b H1) → c σ H K) (hA : ∀ H1, R true → Same H H1 → t D σ H1) (hB : ∀ H1, R false → Same H H1 → u D σ H1) : tIfS c t u D σ H := hc _ fun b H1 r s => by
  cases b
  · exact iteFF (by decide) (hB H1 r s)
  · exact iteTT rfl (hA H1 r s)
end LK

set_option Elab.async false
set_option linter.all false
set_option maxRecDepth 100000
namespace PySem
open Sem (wp)
open AutoSeq1 (wpAny_loadPart')
/-! ### enumerate of a tuple -/
theorem meets_enumerate_newT (l : Addr) (items : Array Value) (n : Nat) (dct : Option Addr) (sl : Array (Option Value)) :
    Meets (Builtin.«enumerate.__new__» ⟨[.type "enumerate", .ref l], []⟩) (fun _ R s => s.heap.get? l = some { cls := .type "tuple", dict := dct, data := .seq items n, slots := sl } ∧
      R (.ok (.ret (.ref (s.heap.push { cls := .type "tuple_iterator", data := .fields #[.ref l, .int 0 0] }).objs.size)))
        { s with heap := (s.heap.push { cls := .type "tuple_iterator", data := .fields #[.ref l, .int 0 0] }).push { cls := .type "enumerate", data := .fields #[.none, .bool false, .ref s.heap.objs.size, rawInt 0, .none, .none] } }) :=
  .of_wp fun prog w A R s h => by
    obtain ⟨hp, g, d, tk, os⟩ := s; obtain ⟨hl, h⟩ := h
    have hsub := sub_enumerate
    have hL : Heap.IsTuple (Shared.heap ⟨hp, g, d, tk, os⟩) l items := ⟨_, hl, rfl, n, rfl⟩
    wp_walk using wpAny_loadPart' hl
    refine wpAny_stack_any fun st => wpAny_pure ?_
    split
    · rename_i c _ _ _ _ _
      cases (c == Value.type "enumerate")
      · wp_walk using wpAny_loadPart' hl, wpAny_pyIter_tuple hL
        exact ⟨_, rfl, h⟩
      · wp_walk using wpAny_loadPart' hl, wpAny_pyIter_tuple hL
        exact ⟨_, rfl, h⟩
    · wp_walk using wpAny_loadPart' hl, wpAny_pyIter_tuple hL
      exact ⟨_, rfl, h⟩
theorem call_enumerate_tuple {prog : Program} {w : World} {A : Around} {E : Value → Shared → Prop} {s : Shared} {l : Addr} {items : Array Value} {Q : Value → Shared → Prop} (hL : s.heap.IsTuple l items)
    (h : ∀ h', IsEnum h' (s.heap.objs.size + 1) s.heap.objs.size 0 .none → h'.IsTupleIter s.heap.objs.size l 0 → h'.objs.size = s.heap.objs.size + 2 →
      (∀ b o, s.heap.get? b = some o → h'.get? b = some o) → Q (.ref (s.heap.objs.size + 1)) { s with heap := h' }) :
    wpAny (model prog w) A (call (.type "enumerate") [.ref l]) Q E s := by
  obtain ⟨⟨c, dct, dt, sl⟩, hl, hc, n, hd⟩ := hL
  replace hc : c = .type "tuple" := hc
  replace hd : dt = .seq items n := hd
  subst hc hd
  refine callType_new F.called_enumerate (by decide) (F.typeCall_enumerate_1 _) (F.newCall_enumerate_1 _) (fun obj => F.args_object_init_2 obj _) F.entry_enumerate_new
    (meets_enumerate_newT l items n dct sl) ⟨hl, ?_⟩
  have hz : (s.heap.push { cls := .type "tuple_iterator", data := .fields #[.ref l, .int 0 0] }).objs.size = s.heap.objs.size + 1 := Heap.size_push ..
  show _ ∧ _
  rw [hz]
  have he : IsEnum ((s.heap.push { cls := .type "tuple_iterator", data := .fields #[.ref l, .int 0 0] }).push
      { cls := .type "enumerate", data := .fields #[.none, .bool false, .ref s.heap.objs.size, rawInt 0, .none, .none] }) (s.heap.objs.size + 1) s.heap.objs.size 0 .none := by
    have := Heap.get?_push_size (s.heap.push { cls := .type "tuple_iterator", data := .fields #[.ref l, .int 0 0] })
      (o := { cls := .type "enumerate", data := .fields #[.none, .bool false, .ref s.heap.objs.size, rawInt 0, .none, .none] }) rfl
    rw [hz] at this; exact this
  refine ⟨⟨_, he, rfl⟩, h _ he ⟨_, Heap.get?_push_of_some _ (Heap.get?_push_size _ rfl), rfl, rfl⟩ (by rw [Heap.size_push, hz]) fun b o x => Heap.get?_push_of_some _ (Heap.get?_push_of_some _ x)⟩
end PySem
namespace LK
open PySem PySem.Spec PyProof.Rows L2
def Itet (K : PySem.W.Frag) (a : Addr) : It :=
  ⟨fun i H => ∃ (xs : List V) (x : V), SqT K H a xs ∧ xs[i]? = some x, fun i H v H' => ∃ T x, v = .ref T ∧ H T = none ∧ H' = L2.upd H T (.tup [.int (i : Nat), x]) ∧ ∀ xs, SqT K H a xs → xs[i]? = some x, fun i H => ∃ xs : List V, SqT K H a xs ∧ xs.length ≤ i⟩
theorem turn_enumT {P : Program} {w : World} {K : PySem.W.Frag} {elts : List Expr} {kk : Nat} {tpos : Pos} (a e it : Addr) :
    Turn P w K (.Tuple elts kk tpos) (Itet K a) [e, it] e (fun i h => (∃ old, IsEnum h e it ((i : Nat) : Int) old) ∧ h.IsTupleIter it a i ∧ e ≠ it ∧ a ≠ it ∧ a ≠ e) where
  mem := by simp
  obj := fun i h st b hb => by
    obtain ⟨⟨old, he⟩, ⟨o, ho, hc, hd⟩, _⟩ := st
    have e' : b = e ∨ b = it := by simpa using hb
    rcases e' with z | z
    · rw [z]; exact ⟨_, he, fun v q => nomatch q⟩
    · rw [z]; exact ⟨o, ho, fun v q => by rw [hd] at q; cases q⟩
  keep := fun i h h' st k => let ⟨⟨old, he⟩, hi, hne⟩ := st; ⟨⟨old, k e (by simp) _ he⟩, hi.at fun o q => k it (by simp) o q, hne⟩
  item := by
    intro X hP hw hK hc i pins s σ H E I hf st hg
    subst hP hw hK
    obtain ⟨⟨old, he⟩, hit, hne, hai, hae⟩ := st
    obtain ⟨xs, x, hq, hx⟩ := hg
    obtain ⟨its, rv, p, hz⟩ := I.tuple hq
    obtain ⟨u, hu, ru⟩ := rv.get hx
    have hel : e < s.heap.objs.size := Heap.lt_size he
    have hil : it < s.heap.objs.size := by obtain ⟨_, q, _⟩ := hit; exact Heap.lt_size q
    have hil2 : i < its.toArray.size := by
      have := (List.getElem?_eq_some_iff.mp hu).1
      simpa using this
    refine wpAny_pyNext_enum_itemD (Draws.tuple (A := X.A.in1) (I.ok.hd hc) it a hai its.toArray) he ⟨hit, p⟩ hil2 hne (by simp [hne, hae.symm]) fun y h' tk hy ho hit' hT hsz hk => ?_
    have hy : its.toArray[i]? = some y := hy
    rw [show its.toArray[i]? = some u by simpa using hu] at hy
    cases hy
    obtain ⟨hit1, _⟩ := hit'
    refine ⟨_, rfl, wpAny_letOwnedTupleGo_enum (s := { s with heap := h', toks := tk + 1 }) ho fun h'' he' sb => ?_⟩
    have hT2 : h''.get? s.heap.objs.size = some { cls := .type "tuple", data := .seq #[.int i tk, u] } := (sb.2 _ (Nat.ne_of_gt hel)).trans hT
    have new : ObjOk X.prog X.w (L2.upd H s.heap.objs.size (.tup [.int (i : Nat), x])) h'' s.heap.objs.size (.tup [.int (i : Nat), x]) :=
      ⟨by show 2 ≤ sizeLine; decide, [.int i tk, u], .cons ⟨_, rfl⟩ (.cons ru .nil), ⟨_, hT2, rfl, _, rfl⟩⟩
    have I1 : Inv X pins σ (L2.upd H s.heap.objs.size (.tup [.int (i : Nat), x])) { s with heap := h'', toks := tk + 1 } :=
      I.turnedNew (ch := [e, it]) (fun b ob hb q => (sb.2 b (fun z => hb (by simp [z]))).trans (hk b ob (fun z => hb (by simp [z])) (fun z => hb (by simp [z])) q)) hf (Nat.le_refl _) new
    refine ⟨.ref s.heap.objs.size, _, I1, rfl, ⟨_, x, rfl, I.hok.fresh (Nat.le_refl _), rfl, fun ys hy => by rw [I.tuple_inj hy hq]; exact hx⟩, ⟨⟨u, ?_⟩, hit1.at fun o q => (sb.2 it (Ne.symm hne)).trans q, hne, hai, hae⟩, fun b hb => ?_⟩
    · have e1 : ((i + 1 : Nat) : Int) = (i : Int) + 1 := by omega
      rw [e1]; exact he'
    · have hb' : b < s.heap.objs.size := by
        have e' : b = e ∨ b = it := by simpa using hb
        rcases e' with z | z
        · rw [z]; exact hel
        · rw [z]; exact hil
      rw [upd_ne (Nat.ne_of_lt hb')]
      exact (hf b hb).1
  done := by
    intro X hP hw hK hc i pins s σ H E I hf st hg
    subst hP hw hK
    obtain ⟨⟨old, he⟩, hit, hne, hai, hae⟩ := st
    obtain ⟨xs, hq, hx⟩ := hg
    obtain ⟨its, rv, p, hz⟩ := I.tuple hq
    obtain ⟨f0, f1, f2, f3, f4, f5⟩ := hf it (by simp)
    have hl := rv.length
    have hn : its.toArray[i]? = none := by simp; omega
    have hT : s.TypeIs (.ref e) "enumerate" := ⟨_, he, rfl⟩
    unfold pyNext
    refine wpAny_bind (wpAny_attempt (wpAny_callSpecial?_slot (name := Str.ofString "__next__") hT PySem.F.slot_enumerate_next
      (wpAny_call_entry PySem.F.slot_enumerate_next hT PySem.F.entry_enumerate_next ?_ (PySem.F.args_enumerate_next_1 _))))
    show wpAny _ _ (field (.ref e) 2 >>= _) _ _ _
    refine wpAny_bind (wpAny_field he rfl (x := .ref it) rfl ?_)
    refine wpAny_bind (RZ.nextOf_tuple_end (I.ok.hd hc) hit p hn fun h' x eb hx' => ?_)
    obtain ⟨o, ho, hc'⟩ := hx'
    refine wpAny_bind (wpAny_isInstance (T := "StopIteration") (b := true) ⟨o, ho, hc'⟩ isSubtype_stop ?_)
    exact wpAny_pure ⟨rfl, I.turned (t' := s.toks) (fun b o hb q => eb b o hb q) f0 f1 f3 f4 f5⟩
  self := fun A i s Q E st h => let ⟨⟨_, he⟩, _⟩ := st; wpAny_pyIter_enum he h
def iEnumT (K : PySem.W.Frag) (ta : TA) : TI := fun σ H R => ta σ H fun vs H1 => ∃ a xs, vs = [.ref a] ∧ SqT K H1 a xs ∧ R (Itet K a) H1
theorem pi_enumT {X : Cx} {e : Expr} {ta : TA} {p pos tpos : Pos} {elts : List Expr} {kk : Nat} (hg : Gl X "enumerate") (hm : X.mg "enumerate" = none) (ha : PA X [e] ta) (hs : starEach [e] X.env = [(false, eval e X.env)] := by rfl) :
    PI X (.Tuple elts kk tpos) (.Call (.Name "enumerate" p) [e] [] pos) (iEnumT X.K ta) := by
  refine ⟨fun pins s σ H R I h => ?_⟩
  refine Call_ (ld_blt I hg hm boot_enumerate (PyProof.Rows.callWith_type1 (thn (ha.run pos pins s σ H _ I h) fun us s1 ⟨vs, H1, I1, r1, q1⟩ => ?_) hs rfl))
  obtain ⟨a, xs, ex, hq, q⟩ := q1
  subst ex
  cases r1 with
  | cons r rr =>
    cases rr
    cases r
    obtain ⟨its, rv, p', hz⟩ := I1.tuple hq
    have al : a < s1.heap.objs.size := by obtain ⟨_, q, _⟩ := id p'; exact Heap.lt_size q
    refine call_enumerate_tuple p' fun h' he hit hsz hk => wpAny_pyIter_enum he ?_
    have I2 : Inv X pins σ H1 { s1 with heap := h' } := I1.kept (t' := s1.toks) hk
    refine ⟨s1.heap.objs.size + 1, [s1.heap.objs.size + 1, s1.heap.objs.size], _, _, H1, rfl, I2, turn_enumT a (s1.heap.objs.size + 1) s1.heap.objs.size, ⟨⟨.none, he⟩, hit, Nat.succ_ne_self _, Nat.ne_of_lt al, Nat.ne_of_lt (Nat.lt_succ_of_lt al)⟩, fun b hb => ?_, q⟩
    have e' : b = s1.heap.objs.size + 1 ∨ b = s1.heap.objs.size := by simpa using hb
    have hle : s1.heap.objs.size ≤ b := by
      rcases e' with z | z
      · rw [z]; exact Nat.le_add_right _ _
      · rw [z]; exact Nat.le_refl _
    exact I1.fpOk hle (I1.hok.fresh hle)
/-- of a list or a tuple -/
def iEnumLT (K : PySem.W.Frag) (ta : TA) : TI := fun σ H R => iEnum K ta σ H R ∨ iEnumT K ta σ H R
theorem pi_enumLT {X : Cx} {e : Expr} {ta : TA} {p pos tpos : Pos} {elts : List Expr} {kk : Nat} (hg : Gl X "enumerate") (hm : X.mg "enumerate" = none) (ha : PA X [e] ta) (hs : starEach [e] X.env = [(false, eval e X.env)] := by rfl) :
    PI X (.Tuple elts kk tpos) (.Call (.Name "enumerate" p) [e] [] pos) (iEnumLT X.K ta) :=
  ⟨fun pins s σ H R I h => h.elim ((pi_enum hg hm ha hs).run pins s σ H R I) ((pi_enumT hg hm ha hs).run pins s σ H R I)⟩
theorem pi_enumK {X : Cx} {K : PySem.W.Frag} (hK : X.K = K) {e : Expr} {ta : TA} {p pos tpos : Pos} {elts : List Expr} {kk : Nat} (hg : Gl X "enumerate") (hm : X.mg "enumerate" = none) (ha : PA X [e] ta) (hs : starEach [e] X.env = [(false, eval e X.env)] := by rfl) :
    PI X (.Tuple elts kk tpos) (.Call (.Name "enumerate" p) [e] [] pos) (iEnum K ta) := by subst hK; exact pi_enum hg hm ha hs
theorem walk_enumT {K : PySem.W.Frag} {a : Addr} {xs : List V} : Walk (Itet K a) xs.length (fun H => SqT K H a xs) (YPair (fun i => some (.int (i : Nat))) (fun i => xs[i]?)) := by
  refine ⟨fun i _ hi q => ⟨xs, xs[i], q, by simp [hi]⟩, fun _ q => ⟨xs, q, Nat.le_refl _⟩, fun i H v H' _ q y => ?_⟩
  obtain ⟨T, x, h1, h2, h3, h4⟩ := y
  exact ⟨T, _, x, h1, h2, h3, rfl, h4 xs q⟩
end LK

set_option Elab.async false
set_option linter.all false
set_option maxRecDepth 100000
namespace LK
open PySem PySem.Spec PyProof.Rows L2
/-! ### zip of a tuple and a list: two sources of any kind -/
structure Src (p : Program) (w : World) (it l : Addr) (It : Nat → Heap → Prop) (Con : Array Value → Heap → Prop) : Prop where
  mvI : ∀ {i : Nat} {h g : Heap}, It i h → (∀ o, h.get? it = some o → g.get? it = some o) → It i g
  mvC : ∀ {xs : Array Value} {h g : Heap}, Con xs h → (∀ o, h.get? l = some o → g.get? l = some o) → Con xs g
  fld : ∀ {i : Nat} {h : Heap}, It i h → ∃ o fs, h.get? it = some o ∧ o.data = .fields fs
  more : ∀ {A : Around} {E : Value → Shared → Prop} {s : Shared} {i : Nat} {xs : Array Value} {x : Value} {Q : Value → Shared → Prop}, It i s.heap → Con xs s.heap → xs[i]? = some x →
    (∀ g, It (i + 1) g → Heap.SameBut it s.heap g → Q x { s with heap := g }) → wpAny (model p w) A (Builtin.SmallTypes.nextOf (.ref it)) Q E s
  over : ∀ {A : Around} {E : Value → Shared → Prop} {s : Shared} {i : Nat} {xs : Array Value} {Q : Value → Shared → Prop}, A.handled = none → It i s.heap → Con xs s.heap → xs[i]? = none →
    (∀ g e, Heap.ExtBut it s.heap g → (∃ o, g.get? e = some o ∧ o.cls = .type "StopIteration") → E (.ref e) { s with heap := g }) → wpAny (model p w) A (Builtin.SmallTypes.nextOf (.ref it)) Q E s
theorem src_tup (p : Program) (w : World) (it l : Addr) : Src p w it l (fun i h => h.IsTupleIter it l i) (fun xs h => h.IsTuple l xs) where
  mvI := fun a b => a.at b
  mvC := fun a b => a.at b
  fld := fun ⟨o, e, _, d⟩ => ⟨o, _, e, d⟩
  more := fun a b c k => RZ.nextOf_tuple_item a b c k
  over := fun a b c d k => RZ.nextOf_tuple_end a b c d k
theorem src_lst (p : Program) (w : World) (it l : Addr) : Src p w it l (fun i h => h.IsListIter it l i) (fun xs h => h.IsList l xs) where
  mvI := fun a b => a.at b
  mvC := fun a b => a.at b
  fld := fun ⟨o, e, _, d⟩ => ⟨o, _, e, d⟩
  more := fun a b c k => wpAny_nextOf_list_item a b c k
  over := fun a b c d k => wpAny_nextOf_list_end a b c d k
/-- all that a zip holds, at one point of time -/
structure ZS (z TI TO i1 i2 : Addr) (I1 I2 : Nat → Heap → Prop) (C1 C2 : Array Value → Heap → Prop) (xs ys : Array Value) (h : Heap) (f a b : Value) (k1 k2 : Nat) : Prop where
  oz : IsZip h z TI TO f
  ti : IsPair h TI (.ref i1) (.ref i2)
  tt : IsPair h TO a b
  j1 : I1 k1 h
  j2 : I2 k2 h
  c1 : C1 xs h
  c2 : C2 ys h
section
variable {prog : Program} {w : World} {A : Around} {E : Value → Shared → Prop} {s : Shared} {z TI TO i1 i2 l1 l2 : Addr} {I1 I2 : Nat → Heap → Prop} {C1 C2 : Array Value → Heap → Prop} {xs ys : Array Value} {f a b : Value} {k1 k2 : Nat} {h g : Heap}
theorem ZS.atZ (D : ZipApart z TI TO i1 i2 l1 l2) (S1 : Src prog w i1 l1 I1 C1) (S2 : Src prog w i2 l2 I2 C2) (q : ZS z TI TO i1 i2 I1 I2 C1 C2 xs ys h f a b k1 k2) (e : Heap.ExtBut z h g) {f' : Value} (n : IsZip g z TI TO f') : ZS z TI TO i1 i2 I1 I2 C1 C2 xs ys g f' a b k1 k2 :=
  ⟨n, e _ _ D.TIz q.ti, e _ _ D.TOz q.tt, S1.mvI q.j1 fun o => e _ o D.i1z, S2.mvI q.j2 fun o => e _ o D.i2z, S1.mvC q.c1 fun o => e _ o D.l1z, S2.mvC q.c2 fun o => e _ o D.l2z⟩
theorem ZS.atO (D : ZipApart z TI TO i1 i2 l1 l2) (S1 : Src prog w i1 l1 I1 C1) (S2 : Src prog w i2 l2 I2 C2) (q : ZS z TI TO i1 i2 I1 I2 C1 C2 xs ys h f a b k1 k2) (e : Heap.ExtBut TO h g) {a' b' : Value} (n : IsPair g TO a' b') : ZS z TI TO i1 i2 I1 I2 C1 C2 xs ys g f a' b' k1 k2 :=
  ⟨e _ _ D.TOz.symm q.oz, e _ _ D.TITO q.ti, n, S1.mvI q.j1 fun o => e _ o D.TOi1.symm, S2.mvI q.j2 fun o => e _ o D.TOi2.symm, S1.mvC q.c1 fun o => e _ o D.l1TO, S2.mvC q.c2 fun o => e _ o D.l2TO⟩
theorem ZS.at1 (D : ZipApart z TI TO i1 i2 l1 l2) (S1 : Src prog w i1 l1 I1 C1) (S2 : Src prog w i2 l2 I2 C2) (q : ZS z TI TO i1 i2 I1 I2 C1 C2 xs ys h f a b k1 k2) (e : Heap.ExtBut i1 h g) {k : Nat} (n : I1 k g) : ZS z TI TO i1 i2 I1 I2 C1 C2 xs ys g f a b k k2 :=
  ⟨e _ _ D.i1z.symm q.oz, e _ _ D.TIi1 q.ti, e _ _ D.TOi1 q.tt, n, S2.mvI q.j2 fun o => e _ o D.i12.symm, S1.mvC q.c1 fun o => e _ o D.l1i1, S2.mvC q.c2 fun o => e _ o D.l2i1⟩
theorem ZS.at2 (D : ZipApart z TI TO i1 i2 l1 l2) (S1 : Src prog w i1 l1 I1 C1) (S2 : Src prog w i2 l2 I2 C2) (q : ZS z TI TO i1 i2 I1 I2 C1 C2 xs ys h f a b k1 k2) (e : Heap.ExtBut i2 h g) {k : Nat} (n : I2 k g) : ZS z TI TO i1 i2 I1 I2 C1 C2 xs ys g f a b k1 k :=
  ⟨e _ _ D.i2z.symm q.oz, e _ _ D.TIi2 q.ti, e _ _ D.TOi2 q.tt, S1.mvI q.j1 fun o => e _ o D.i12, n, S1.mvC q.c1 fun o => e _ o D.l1i2, S2.mvC q.c2 fun o => e _ o D.l2i2⟩
/-- what lies beside the zip stays -/
def Stay (z TO i1 i2 : Addr) (h g : Heap) : Prop := ∀ c o, c ≠ z → c ≠ TO → c ≠ i1 → c ≠ i2 → h.get? c = some o → g.get? c = some o
theorem Stay.tr {h1 h2 h3 : Heap} (p : Stay z TO i1 i2 h1 h2) (q : Stay z TO i1 i2 h2 h3) : Stay z TO i1 i2 h1 h3 := fun c o n1 n2 n3 n4 e => q c o n1 n2 n3 n4 (p c o n1 n2 n3 n4 e)
theorem Stay.zz (e : Heap.ExtBut z h g) : Stay z TO i1 i2 h g := fun c o n1 _ _ _ => e c o n1
theorem Stay.o (e : Heap.ExtBut TO h g) : Stay z TO i1 i2 h g := fun c o _ n2 _ _ => e c o n2
theorem Stay.i (e : Heap.ExtBut i1 h g) : Stay z TO i1 i2 h g := fun c o _ _ n3 _ => e c o n3
theorem Stay.j (e : Heap.ExtBut i2 h g) : Stay z TO i1 i2 h g := fun c o _ _ _ n4 => e c o n4
theorem zm_item {x y : Value} {Q : Value → Shared → Prop} (D : ZipApart z TI TO i1 i2 l1 l2) (S1 : Src prog w i1 l1 I1 C1) (S2 : Src prog w i2 l2 I2 C2) (q0 : ZS z TI TO i1 i2 I1 I2 C1 C2 xs ys s.heap .none a b k1 k2) (hx : xs[k1]? = some x) (hy : ys[k2]? = some y)
    (k : ∀ g, ZS z TI TO i1 i2 I1 I2 C1 C2 xs ys g (rawInt s.heap.objs.size) x y (k1 + 1) (k2 + 1) → IsPair g s.heap.objs.size x y → g.objs.size = s.heap.objs.size + 1 → Stay z TO i1 i2 s.heap g → Q (.ref s.heap.objs.size) { s with heap := g }) :
    wpAny (model prog w) A (Builtin.«zip.__next__» ⟨[.ref z], []⟩) (fun r s' => ∃ v, r = .done (.ret v) ∧ Q v s') E s := by
  have oz := q0.oz
  show wpAny (model prog w) _ (field (.ref z) 2 >>= _) _ E _
  refine wpAny_bind (wpAny_field oz rfl (x := .bool false) rfl ?_)
  show wpAny (model prog w) _ (field (.ref z) 3 >>= _) _ E _
  refine wpAny_bind (wpAny_field oz rfl (x := .ref TI) rfl (wpAny_bind (wpAny_seqItems q0.ti rfl ?_)))
  show wpAny (model prog w) _ (Builtin.SmallTypes.ownedTupleIsFree (.ref z) >>= _) _ E _; unfold Builtin.SmallTypes.ownedTupleIsFree
  refine wpAny_bind (wpAny_bind (wpAny_field oz rfl (x := .none) rfl (wpAny_pure ?_)))
  simp only [if_true]
  refine wpAny_bind (wpAny_rule (wpAny_bind (wpAny_field oz rfl (x := .ref TO) rfl (wpAny_bind (wpAny_setField_rec oz (by simp) fun g1 z1 e1 => ?_)))))
  have q1 := q0.atZ D S1 S2 e1.extBut (f' := .ellipsis) z1
  have t1 : Stay z TO i1 i2 s.heap g1 := .zz e1.extBut
  simp only [List.forIn_cons, List.forIn_nil, List.zipIdx_cons, List.zipIdx_nil]
  refine wpAny_bind (wpAny_bind (wpAny_bind (wpAny_onRaise ?_)))
  show wpAny (model prog w) _ (Builtin.SmallTypes.nextOf (.ref i1) >>= _) _ _ _
  refine wpAny_bind (S1.more q1.j1 q1.c1 hx fun g2 n2 e2 => wpAny_pure ?_)
  have q2 := q1.at1 D S1 S2 e2.extBut n2
  have t2 := t1.tr (.i e2.extBut)
  refine wpAny_bind (wpAny_seqItems q2.tt rfl (wpAny_bind (wpAny_updateSeq_pair q2.tt fun g3 n3 e3 => ?_)))
  have q3 := q2.atO D S1 S2 e3.extBut (a' := x) (b' := b) n3
  have t3 := t2.tr (.o e3.extBut)
  refine wpAny_bind (wpAny_letGo (wpAny_pure (wpAny_bind (wpAny_bind (wpAny_onRaise ?_)))))
  show wpAny (model prog w) _ (Builtin.SmallTypes.nextOf (.ref i2) >>= _) _ _ _
  refine wpAny_bind (S2.more q3.j2 q3.c2 hy fun g4 n4 e4 => wpAny_pure ?_)
  have q4 := q3.at2 D S1 S2 e4.extBut n4
  have t4 := t3.tr (.j e4.extBut)
  refine wpAny_bind (wpAny_seqItems q4.tt rfl (wpAny_bind (wpAny_updateSeq_pair q4.tt fun g5 n5 e5 => ?_)))
  have q5 := q4.atO D S1 S2 e5.extBut (a' := x) (b' := y) n5
  have t5 := t4.tr (.o e5.extBut)
  have sz : g5.objs.size = s.heap.objs.size := by rw [e5.1, e4.1, e3.1, e2.1, e1.1]
  refine wpAny_bind (wpAny_letGo (wpAny_pure (wpAny_pure (wpAny_bind (wpAny_seqItems q5.tt rfl (wpAny_bind (wpAny_newTuple ?_)))))))
  show wpAny (model prog w) _ (Builtin.SmallTypes.ownedTupleHandOut (.ref z) (.ref g5.objs.size) >>= _) _ E _; unfold Builtin.SmallTypes.ownedTupleHandOut
  have pz : IsZip (g5.push { cls := .type "tuple", data := .seq #[x, y] }) z TI TO .ellipsis := Heap.get?_push_of_some _ q5.oz
  refine wpAny_bind (wpAny_bind (wpAny_setField_rec pz (by simp) fun g7 z7 e7 => ?_))
  have z7' : IsZip g7 z TI TO (rawInt g5.objs.size) := z7
  refine wpAny_setField_rec z7' (by simp) fun g8 z8 e8 => ?_
  have z8' : IsZip g8 z TI TO (rawInt g5.objs.size) := z8
  have e58 : Heap.ExtBut z g5 g8 := fun c o n e => e8.extBut _ _ n (e7.extBut _ _ n (Heap.get?_push_of_some _ e))
  have q8 := q5.atZ D S1 S2 e58 z8'
  have nz : g5.objs.size ≠ z := Nat.ne_of_gt (Heap.lt_size q5.oz)
  have p8 : IsPair g8 g5.objs.size x y := e8.extBut _ _ nz (e7.extBut _ _ nz (Heap.get?_push_size _ rfl))
  have s8 : g8.objs.size = g5.objs.size + 1 := by rw [e8.1, e7.1, Heap.size_push]
  refine wpAny_pure ⟨.ref g5.objs.size, rfl, ?_⟩
  rw [sz] at q8 p8 s8 ⊢
  exact k g8 q8 p8 s8 (t5.tr (.zz e58))
/-- the last turn: one of the two has no more -/
theorem zm_end {Q : Fin → Shared → Prop} (hh : A.handled = none) (D : ZipApart z TI TO i1 i2 l1 l2) (S1 : Src prog w i1 l1 I1 C1) (S2 : Src prog w i2 l2 I2 C2) (q0 : ZS z TI TO i1 i2 I1 I2 C1 C2 xs ys s.heap .none a b k1 k2) (he : xs[k1]? = none ∨ ys[k2]? = none)
    (k : ∀ g e, Stay z TO i1 i2 s.heap g → (∃ o, g.get? e = some o ∧ o.cls = .type "StopIteration") → E (.ref e) { s with heap := g }) : wpAny (model prog w) A (Builtin.«zip.__next__» ⟨[.ref z], []⟩) Q E s := by
  have oz := q0.oz
  show wpAny (model prog w) _ (field (.ref z) 2 >>= _) _ E _
  refine wpAny_bind (wpAny_field oz rfl (x := .bool false) rfl ?_)
  show wpAny (model prog w) _ (field (.ref z) 3 >>= _) _ E _
  refine wpAny_bind (wpAny_field oz rfl (x := .ref TI) rfl (wpAny_bind (wpAny_seqItems q0.ti rfl ?_)))
  show wpAny (model prog w) _ (Builtin.SmallTypes.ownedTupleIsFree (.ref z) >>= _) _ E _; unfold Builtin.SmallTypes.ownedTupleIsFree
  refine wpAny_bind (wpAny_bind (wpAny_field oz rfl (x := .none) rfl (wpAny_pure ?_)))
  simp only [if_true]
  refine wpAny_bind (wpAny_rule (wpAny_bind (wpAny_field oz rfl (x := .ref TO) rfl (wpAny_bind (wpAny_setField_rec oz (by simp) fun g1 z1 e1 => ?_)))))
  have q1 := q0.atZ D S1 S2 e1.extBut (f' := .ellipsis) z1
  have t1 : Stay z TO i1 i2 s.heap g1 := .zz e1.extBut
  have fin : ∀ {g2 : Heap} {e : Addr}, IsZip g2 z TI TO .ellipsis → Stay z TO i1 i2 s.heap g2 → (∃ o, g2.get? e = some o ∧ o.cls = .type "StopIteration") → ∀ g3, Heap.SameBut z g2 g3 → E (.ref e) { s with heap := g3 } := fun z2 t2 ⟨o, h1, h2⟩ g3 e3 =>
    k _ _ (t2.tr (.zz e3.extBut)) ⟨o, e3.extBut _ _ (fun n => by subst n; rw [z2] at h1; cases h1; simp at h2) h1, h2⟩
  simp only [List.forIn_cons, List.forIn_nil, List.zipIdx_cons, List.zipIdx_nil]
  refine wpAny_bind (wpAny_bind (wpAny_bind (wpAny_onRaise ?_)))
  show wpAny (model prog w) _ (Builtin.SmallTypes.nextOf (.ref i1) >>= _) _ _ _
  by_cases hx : xs[k1]? = none
  · refine wpAny_bind (S1.over hh q1.j1 q1.c1 hx fun g2 e e2 so => ?_)
    have z2 := e2 _ _ D.i1z.symm q1.oz
    exact wpAny_setField_rec z2 (by simp) fun g3 _ e3 => fin z2 (t1.tr (.i e2)) so g3 e3
  · obtain ⟨x, hx1⟩ := Option.ne_none_iff_exists'.mp hx
    have hy := he.resolve_left hx
    refine wpAny_bind (S1.more q1.j1 q1.c1 hx1 fun g2 n2 e2 => wpAny_pure ?_)
    have q2 := q1.at1 D S1 S2 e2.extBut n2
    refine wpAny_bind (wpAny_seqItems q2.tt rfl (wpAny_bind (wpAny_updateSeq_pair q2.tt fun g3 n3 e3 => ?_)))
    have q3 := q2.atO D S1 S2 e3.extBut (a' := x) (b' := b) n3
    refine wpAny_bind (wpAny_letGo (wpAny_pure (wpAny_bind (wpAny_bind (wpAny_onRaise ?_)))))
    show wpAny (model prog w) _ (Builtin.SmallTypes.nextOf (.ref i2) >>= _) _ _ _
    refine wpAny_bind (S2.over hh q3.j2 q3.c2 hy fun g4 e e4 so => ?_)
    have z4 := e4 _ _ D.i2z.symm q3.oz
    exact wpAny_setField_rec z4 (by simp) fun g5 _ e5 => fin z4 (((t1.tr (.i e2.extBut)).tr (.o e3.extBut)).tr (.j e4)) so g5 e5
theorem zm_next {x y : Value} {Q : Option Value → Shared → Prop} (D : ZipApart z TI TO i1 i2 l1 l2) (S1 : Src prog w i1 l1 I1 C1) (S2 : Src prog w i2 l2 I2 C2) (q0 : ZS z TI TO i1 i2 I1 I2 C1 C2 xs ys s.heap .none a b k1 k2) (hx : xs[k1]? = some x) (hy : ys[k2]? = some y)
    (k : ∀ g, ZS z TI TO i1 i2 I1 I2 C1 C2 xs ys g (rawInt s.heap.objs.size) x y (k1 + 1) (k2 + 1) → IsPair g s.heap.objs.size x y → g.objs.size = s.heap.objs.size + 1 → Stay z TO i1 i2 s.heap g → Q (some (.ref s.heap.objs.size)) { s with heap := g }) : wpAny (model prog w) A (pyNext (.ref z)) Q E s := by
  have ty : s.TypeIs (.ref z) "zip" := ⟨_, q0.oz, rfl⟩
  unfold pyNext
  exact wpAny_bind (wpAny_attempt (wpAny_callSpecial?_slot (name := Str.ofString "__next__") ty F.slot_zip_next (wpAny_call_entry F.slot_zip_next ty F.entry_zip_next (zm_item D S1 S2 q0 hx hy fun g p1 p2 p3 p4 => wpAny_pure (k g p1 p2 p3 p4)) (F.args_zip_next_1 _))))
theorem zm_stop {Q : Option Value → Shared → Prop} (hh : A.handled = none) (D : ZipApart z TI TO i1 i2 l1 l2) (S1 : Src prog w i1 l1 I1 C1) (S2 : Src prog w i2 l2 I2 C2) (q0 : ZS z TI TO i1 i2 I1 I2 C1 C2 xs ys s.heap .none a b k1 k2) (he : xs[k1]? = none ∨ ys[k2]? = none)
    (k : ∀ g, Stay z TO i1 i2 s.heap g → Q none { s with heap := g }) : wpAny (model prog w) A (pyNext (.ref z)) Q E s := by
  have ty : s.TypeIs (.ref z) "zip" := ⟨_, q0.oz, rfl⟩
  unfold pyNext
  refine wpAny_bind (wpAny_attempt (wpAny_callSpecial?_slot (name := Str.ofString "__next__") ty F.slot_zip_next (wpAny_call_entry F.slot_zip_next ty F.entry_zip_next (zm_end hh D S1 S2 q0 he fun g e st so => ?_) (F.args_zip_next_1 _))))
  obtain ⟨o, h1, h2⟩ := so
  exact wpAny_bind (wpAny_isInstance (T := "StopIteration") (b := true) ⟨o, h1, h2⟩ isSubtype_stop (wpAny_pure (k _ st)))
end
/-- the five new objects of zip(tuple, list) -/
def zp1 (h : Heap) (l1 : Addr) : Heap := h.push { cls := .type "tuple_iterator", data := .fields #[.ref l1, .int 0 0] }
def zp2 (h : Heap) (l1 l2 : Addr) : Heap := (zp1 h l1).push { cls := .type "list_iterator", data := .fields #[.ref l2, .int 0 0] }
def zp3 (h : Heap) (l1 l2 : Addr) : Heap := (zp2 h l1 l2).push { cls := .type "tuple", data := .seq #[.ref h.objs.size, .ref (zp1 h l1).objs.size] }
def zp4 (h : Heap) (l1 l2 : Addr) : Heap := (zp3 h l1 l2).push { cls := .type "tuple", data := .seq #[.none, .none] }
def zp5 (h : Heap) (l1 l2 : Addr) : Heap := (zp4 h l1 l2).push { cls := .type "zip", data := .fields #[.none, .bool false, .bool false, .ref (zp2 h l1 l2).objs.size, .ref (zp3 h l1 l2).objs.size] }
theorem zp_new (l1 l2 : Addr) (xs ys : Array Value) : Meets (Builtin.«zip.__new__» ⟨[.type "zip", .ref l1, .ref l2], []⟩) fun _ R s => s.heap.IsTuple l1 xs ∧ s.heap.IsList l2 ys ∧ R (.ok (.ret (.ref (zp4 s.heap l1 l2).objs.size))) { s with heap := zp5 s.heap l1 l2 } :=
  .of_wp fun pr wd ar R s h => by
    obtain ⟨hp, gl, dd, tk, os⟩ := s
    obtain ⟨h1, h2, h⟩ := h
    have hsub := sub_zip
    have t1 : Heap.IsTuple (Shared.heap ⟨hp, gl, dd, tk, os⟩) l1 xs := h1
    have t2 : Heap.IsList (Shared.heap ⟨hp.push { cls := .type "tuple_iterator", data := .fields #[.ref l1, .int 0 0] }, gl, dd, tk, os⟩) l2 ys := Heap.IsList.push h2 _
    wp_walk using wpAny_pyIter_tuple t1, wpAny_pyIter_list t2
    exact ⟨_, rfl, h⟩
section
variable {prog : Program} {w : World} {s : Shared} {A : Around} {E : Value → Shared → Prop}
theorem call_zipM {l1 l2 : Addr} {xs ys : Array Value} {Q : Value → Shared → Prop} (h1 : s.heap.IsTuple l1 xs) (h2 : s.heap.IsList l2 ys)
    (k : ∀ g, IsZip g (s.heap.objs.size + 4) (s.heap.objs.size + 2) (s.heap.objs.size + 3) .none → IsPair g (s.heap.objs.size + 2) (.ref s.heap.objs.size) (.ref (s.heap.objs.size + 1)) → IsPair g (s.heap.objs.size + 3) .none .none →
      g.IsTupleIter s.heap.objs.size l1 0 → g.IsListIter (s.heap.objs.size + 1) l2 0 → (∀ c o, s.heap.get? c = some o → g.get? c = some o) → Q (.ref (s.heap.objs.size + 4)) { s with heap := g }) : wpAny (model prog w) A (call (.type "zip") [.ref l1, .ref l2]) Q E s := by
  refine callType_new F.called_zip (by decide) (F.typeCall_zip_2 _ _) (F.newCall_zip_2 _ _) (fun obj => F.args_object_init_3 obj _ _) F.entry_zip_new (zp_new l1 l2 xs ys) ⟨h1, h2, ?_⟩
  have n1 : (zp1 s.heap l1).objs.size = s.heap.objs.size + 1 := Heap.size_push _ _
  have n2 : (zp2 s.heap l1 l2).objs.size = s.heap.objs.size + 2 := (Heap.size_push _ _).trans (by rw [n1])
  have n3 : (zp3 s.heap l1 l2).objs.size = s.heap.objs.size + 3 := (Heap.size_push _ _).trans (by rw [n2])
  have n4 : (zp4 s.heap l1 l2).objs.size = s.heap.objs.size + 4 := (Heap.size_push _ _).trans (by rw [n3])
  have m5 : IsZip (zp5 s.heap l1 l2) (zp4 s.heap l1 l2).objs.size (zp2 s.heap l1 l2).objs.size (zp3 s.heap l1 l2).objs.size .none := Heap.get?_push_size _ rfl
  have m4 : IsPair (zp5 s.heap l1 l2) (zp3 s.heap l1 l2).objs.size .none .none := Heap.get?_push_of_some _ (Heap.get?_push_size _ rfl)
  have m3 : IsPair (zp5 s.heap l1 l2) (zp2 s.heap l1 l2).objs.size (.ref s.heap.objs.size) (.ref (zp1 s.heap l1).objs.size) := Heap.get?_push_of_some _ (Heap.get?_push_of_some _ (Heap.get?_push_size _ rfl))
  have m2 : (zp5 s.heap l1 l2).IsListIter (zp1 s.heap l1).objs.size l2 0 := ⟨_, Heap.get?_push_of_some _ (Heap.get?_push_of_some _ (Heap.get?_push_of_some _ (Heap.get?_push_size _ rfl))), rfl, rfl⟩
  have m1 : (zp5 s.heap l1 l2).IsTupleIter s.heap.objs.size l1 0 := ⟨_, Heap.get?_push_of_some _ (Heap.get?_push_of_some _ (Heap.get?_push_of_some _ (Heap.get?_push_of_some _ (Heap.get?_push_size _ rfl)))), rfl, rfl⟩
  have m0 : ∀ c o, s.heap.get? c = some o → (zp5 s.heap l1 l2).get? c = some o := fun c o e => Heap.get?_push_of_some _ (Heap.get?_push_of_some _ (Heap.get?_push_of_some _ (Heap.get?_push_of_some _ (Heap.get?_push_of_some _ e))))
  rw [n2, n3, n4] at m5
  rw [n3] at m4
  rw [n2, n1] at m3
  rw [n1] at m2
  show _ ∧ _
  rw [n4]
  exact ⟨⟨_, m5, rfl⟩, k _ m5 m3 m4 m1 m2 m0⟩
end
def ItzM (K : PySem.W.Frag) (a b : Addr) : It where
  go := fun i H => ∃ (xs ys : List V) (x y : V), SqT K H a xs ∧ SqL K H b ys ∧ xs[i]? = some x ∧ ys[i]? = some y
  yld := fun i H v H' => ∃ T x y, v = .ref T ∧ H T = none ∧ H' = L2.upd H T (.tup [x, y]) ∧ (∀ xs, SqT K H a xs → xs[i]? = some x) ∧ ∀ ys, SqL K H b ys → ys[i]? = some y
  stop := fun i H => ∃ xs ys : List V, SqT K H a xs ∧ SqL K H b ys ∧ (xs.length ≤ i ∨ ys.length ≤ i)
def tnM (z TI TO i1 i2 a b : Addr) (i : Nat) (h : Heap) : Prop := ∃ x y, IsZip h z TI TO .none ∧ IsPair h TI (.ref i1) (.ref i2) ∧ IsPair h TO x y ∧ h.IsTupleIter i1 a i ∧ h.IsListIter i2 b i
theorem turn_zipM {P : Program} {w : World} {K : PySem.W.Frag} {elts : List Expr} {kk : Nat} {tpos : Pos} {a b z TI TO i1 i2 : Addr} (D : ZipApart z TI TO i1 i2 a b) : Turn P w K (.Tuple elts kk tpos) (ItzM K a b) [z, TI, TO, i1, i2] z (tnM z TI TO i1 i2 a b) where
  mem := List.mem_cons_self
  obj := fun i h ⟨x, y, h1, h2, h3, h4, h5⟩ c hc => by
    obtain ⟨o4, f4, e4, d4⟩ := (src_tup P w i1 a).fld h4
    obtain ⟨o5, f5, e5, d5⟩ := (src_lst P w i2 b).fld h5
    simp only [List.mem_cons, List.not_mem_nil, or_false] at hc
    rcases hc with rfl | rfl | rfl | rfl | rfl
    · exact ⟨_, h1, fun v q => nomatch q⟩
    · exact ⟨_, h2, fun v q => nomatch q⟩
    · exact ⟨_, h3, fun v q => nomatch q⟩
    · exact ⟨o4, e4, fun v q => by rw [d4] at q; cases q⟩
    · exact ⟨o5, e5, fun v q => by rw [d5] at q; cases q⟩
  keep := fun i h g ⟨x, y, h1, h2, h3, h4, h5⟩ k => ⟨x, y, k z (by simp) _ h1, k TI (by simp) _ h2, k TO (by simp) _ h3, (src_tup P w i1 a).mvI h4 fun o => k i1 (by simp) o, (src_lst P w i2 b).mvI h5 fun o => k i2 (by simp) o⟩
  item := by
    rintro X rfl rfl rfl hc i pins s σ H E I hf ⟨x0, y0, h1, h2, h3, h4, h5⟩ ⟨xs, ys, x, y, qx, qy, ex, ey⟩
    obtain ⟨its, rv, p, _⟩ := I.tuple qx
    obtain ⟨jts, rw', p', _⟩ := I.list qy
    obtain ⟨u, eu, ru⟩ := rv.get ex
    obtain ⟨v, ev, rvv⟩ := rw'.get ey
    refine zm_next D (src_tup X.prog X.w i1 a) (src_lst X.prog X.w i2 b) ⟨h1, h2, h3, h4, h5, (show s.heap.IsTuple a its.toArray from p), p'.isList⟩ (x := u) (y := v) (by simpa using eu) (by simpa using ev) fun g q pp sz st => ⟨_, rfl, wpAny_letOwnedTupleGo_zip (s := { s with heap := g }) q.oz fun g2 z2 e2 => ?_⟩
    have q2 := q.atZ D (src_tup X.prog X.w i1 a) (src_lst X.prog X.w i2 b) e2.extBut z2
    have nz : s.heap.objs.size ≠ z := Nat.ne_of_gt (Heap.lt_size h1)
    have pp2 : IsPair g2 s.heap.objs.size u v := e2.extBut _ _ nz pp
    have ok : ObjOk X.prog X.w (L2.upd H s.heap.objs.size (.tup [x, y])) g2 s.heap.objs.size (.tup [x, y]) := ⟨by show 2 ≤ sizeLine; decide, [u, v], .cons ru (.cons rvv .nil), ⟨_, pp2, rfl, _, rfl⟩⟩
    have st2 : Stay z TO i1 i2 s.heap g2 := st.tr (.zz e2.extBut)
    have I2 : Inv X pins σ (L2.upd H s.heap.objs.size (.tup [x, y])) { s with heap := g2 } := I.turnedNew (t' := s.toks) (ch := [z, TI, TO, i1, i2]) (fun c o hb e => st2 c o (fun n => hb (by simp [n])) (fun n => hb (by simp [n])) (fun n => hb (by simp [n])) (fun n => hb (by simp [n])) e) hf (Nat.le_refl _) ok
    refine ⟨.ref s.heap.objs.size, _, I2, rfl, ⟨_, x, y, rfl, I.hok.fresh (Nat.le_refl _), rfl, fun l hl => by rw [I.tuple_inj hl qx]; exact ex, fun l hl => by rw [I.list_inj hl qy]; exact ey⟩, ⟨u, v, q2.oz, q2.ti, q2.tt, q2.j1, q2.j2⟩, fun c hcm => ?_⟩
    have lt : c < s.heap.objs.size := by
      obtain ⟨o4, _, e4, _⟩ := (src_tup X.prog X.w i1 a).fld h4
      obtain ⟨o5, _, e5, _⟩ := (src_lst X.prog X.w i2 b).fld h5
      have m := hcm
      simp only [List.mem_cons, List.not_mem_nil, or_false] at m
      rcases m with rfl | rfl | rfl | rfl | rfl
      · exact Heap.lt_size h1
      · exact Heap.lt_size h2
      · exact Heap.lt_size h3
      · exact Heap.lt_size e4
      · exact Heap.lt_size e5
    rw [upd_ne (Nat.ne_of_lt lt)]
    exact (hf c hcm).1
  done := by
    rintro X rfl rfl rfl hc i pins s σ H E I hf ⟨x0, y0, h1, h2, h3, h4, h5⟩ ⟨xs, ys, qx, qy, he⟩
    obtain ⟨its, rv, p, _⟩ := I.tuple qx
    obtain ⟨jts, rw', p', _⟩ := I.list qy
    have l1 := rv.length
    have l2 := rw'.length
    refine zm_stop (I.ok.hd hc) D (src_tup X.prog X.w i1 a) (src_lst X.prog X.w i2 b) ⟨h1, h2, h3, h4, h5, (show s.heap.IsTuple a its.toArray from p), p'.isList⟩ (he.imp (fun l => by simp; omega) fun l => by simp; omega) fun g st => ⟨rfl, I.turnedL (t' := s.toks) (ch := [z, TI, TO, i1, i2]) (fun c o hb e => st c o (fun n => hb (by simp [n])) (fun n => hb (by simp [n])) (fun n => hb (by simp [n])) (fun n => hb (by simp [n])) e) hf⟩
  self := fun A i s Q E ⟨_, _, h1, _⟩ k => wpAny_pyIter_zip h1 k
def iZipM (K : PySem.W.Frag) (ta : TA) : TI := fun σ H R => ta σ H fun vs H1 => ∃ a b xs ys, vs = [.ref a, .ref b] ∧ SqT K H1 a xs ∧ SqL K H1 b ys ∧ R (ItzM K a b) H1
theorem pi_zipM {X : Cx} {e e2 : Expr} {ta : TA} {p pos tpos : Pos} {elts : List Expr} {kk : Nat} (hg : Gl X "zip") (hm : X.mg "zip" = none) (ha : PA X [e, e2] ta) (hs : starEach [e, e2] X.env = (false, eval e X.env) :: starEach [e2] X.env := by rfl) (hpl : (backTo pos (starEach [e2] X.env)).any (·.1) = false := by rfl) :
    PI X (.Tuple elts kk tpos) (.Call (.Name "zip" p) [e, e2] [] pos) (iZipM X.K ta) := by
  refine ⟨fun pins s σ H R I h => Call_ (ld_blt I hg hm PyProof.Rows.boot_zip (PyProof.Rows.callWith_type1 (thn (ha.run pos pins s σ H _ I h) fun us s1 ⟨vs, H1, I1, r1, a, b, xs, ys, ex, qx, qy, q⟩ => ?_) hs hpl))⟩
  subst ex
  obtain _ | ⟨r, r'⟩ := r1
  obtain _ | ⟨r2, r''⟩ := r'
  cases r''
  cases r
  cases r2
  obtain ⟨its, rv, p1, _⟩ := I1.tuple qx
  obtain ⟨jts, rw', p2, _⟩ := I1.list qy
  obtain ⟨o1, ho1, _⟩ := id p1
  refine call_zipM (show s1.heap.IsTuple a its.toArray from p1) p2.isList fun g z1 z2 z3 z4 z5 k => wpAny_pyIter_zip z1 ?_
  have I2 : Inv X pins σ H1 { s1 with heap := g } := I1.kept (t' := s1.toks) k
  refine ⟨s1.heap.objs.size + 4, [s1.heap.objs.size + 4, s1.heap.objs.size + 2, s1.heap.objs.size + 3, s1.heap.objs.size, s1.heap.objs.size + 1], _, _, H1, rfl, I2, turn_zipM (PySem.W.ktu_apart s1.heap.objs.size a b (Heap.lt_size ho1) p2.lt), ⟨_, _, z1, z2, z3, z4, z5⟩, fun c hc => ?_, q⟩
  have le : s1.heap.objs.size ≤ c := by
    simp only [List.mem_cons, List.not_mem_nil, or_false] at hc
    rcases hc with rfl | rfl | rfl | rfl | rfl
    · exact Nat.le_add_right _ _
    · exact Nat.le_add_right _ _
    · exact Nat.le_add_right _ _
    · exact Nat.le_refl _
    · exact Nat.le_add_right _ _
  exact I1.fpOk le (I1.hok.fresh le)
theorem walk_zipM {K : PySem.W.Frag} {a b : Addr} {xs ys : List V} {n : Nat} (hx : xs.length = n) (hy : ys.length = n) : Walk (ItzM K a b) n (fun H => SqT K H a xs ∧ SqL K H b ys) (YPair (fun i => xs[i]?) fun i => ys[i]?) where
  goes := fun i _ hi q => ⟨xs, ys, xs[i]'(by omega), ys[i]'(by omega), q.1, q.2, List.getElem?_eq_getElem _, List.getElem?_eq_getElem _⟩
  stops := fun _ q => ⟨xs, ys, q.1, q.2, .inl (by omega)⟩
  yields := fun i H v H' _ q ⟨T, x, y, h1, h2, h3, h4, h5⟩ => ⟨T, x, y, h1, h2, h3, h4 xs q.1, h5 ys q.2⟩
end LK

set_option Elab.async false
set_option linter.all false
set_option maxRecDepth 100000
namespace LK
open PySem PySem.Spec PyProof.Rows L2
/-! ### rules with K in the place of X.K -/
section
variable {X : Cx} {K : PySem.W.Frag}
/-- of a list or a tuple -/
def rIxLT (K : PySem.W.Frag) : R2 := fun x y H Q => ∃ p xs i z, x = .ref p ∧ y = .int i ∧ (SqL K H p xs ∨ SqT K H p xs) ∧ atI xs i = some z ∧ Q z H
theorem ix_lt : IxR X (rIxLT X.K) := by
  intro value slice pins s σ H x y v u Q I rx ry h hs
  obtain ⟨p, xs, i, z, e1, e2, hq | hq, he, q⟩ := h
  · exact ix_list value slice pins s σ H x y v u Q I rx ry ⟨p, xs, i, z, e1, e2, hq, he, q⟩ hs
  · exact ix_tup value slice pins s σ H x y v u Q I rx ry ⟨p, xs, i, z, e1, e2, hq, he, q⟩ hs
theorem ix_ltK (hK : X.K = K) : IxR X (rIxLT K) := by subst hK; exact ix_lt
theorem ix_listK (hK : X.K = K) : IxR X (rIxL K) := by subst hK; exact ix_list
theorem ix_tupK (hK : X.K = K) : IxR X (rIxT K) := by subst hK; exact ix_tup
theorem sl_tupUK (hK : X.K = K) : SlR X (rSlU K) := by subst hK; exact sl_tupU
theorem sl_listUK (hK : X.K = K) : SlR X (rSlLU K) := by subst hK; exact sl_listU
theorem op_catUK (hK : X.K = K) : OpR X (binaryOp .Add) (rCatU K) := by subst hK; exact op_catU
theorem op_eqDK (hK : X.K = K) (hu : X.A.units + 64 < cLine) : OpR X (compareOp .Eq) (rEqD K) := by subst hK; exact op_eqD hu
theorem op_neDK (hK : X.K = K) (hu : X.A.units + 64 < cLine) : OpR X (compareOp .NotEq) (rNeD K) := by subst hK; exact op_neD hu
theorem call_tupleNK (hK : X.K = K) : CallR X (.type "tuple") (fun xs H Q => ∃ p ys, xs = [.ref p] ∧ SqL K H p ys ∧ ∀ q H', Same H H' → H q = none → H' q = some (.tup ys) → Q (.ref q) H') := by subst hK; exact call_tupleN
theorem call_tupleUK (hK : X.K = K) : CallR X (.type "tuple") (fun xs H Q => ∃ p ys, xs = [.ref p] ∧ (SqL K H p ys ∨ SqT K H p ys) ∧ ∀ q H', Same H H' → SqT K H' q ys → Q (.ref q) H') := by subst hK; exact call_tupleU
theorem call_listUK (hK : X.K = K) : CallR X (.type "list") (fun xs H Q => ∃ p ys, xs = [.ref p] ∧ (SqL K H p ys ∨ SqT K H p ys) ∧ ∀ l H2, Same H H2 → H l = none → H2 l = some (.lst ys) → Q (.ref l) H2) := by subst hK; exact call_listU
theorem call_len_seqK (hK : X.K = K) : CallR X (.builtin "len") (fun xs H Q => ∃ p ys, xs = [.ref p] ∧ (SqL K H p ys ∨ SqT K H p ys) ∧ Q (.int ys.length) H) := by subst hK; exact call_len_seq
theorem cr_sumK (hK : X.K = K) (hc : X.calm = true) : CallR X (.builtin "sum") (rSum K) := by subst hK; exact cr_sum hc
theorem cr_maxK (hK : X.K = K) (hc : X.calm = true) : CallR X (.builtin "max") (rMax K) := by subst hK; exact cr_max hc
theorem cr_allK (hK : X.K = K) (hc : X.calm = true) : CallR X (.builtin "all") (rAll K) := by subst hK; exact cr_all hc
theorem pi_listK (hK : X.K = K) {tg l : Expr} {tl : TE} (hl : PE X l tl) : PI X tg l (iList K tl) := by subst hK; exact pi_list hl
theorem pi_tupK (hK : X.K = K) {tg l : Expr} {tl : TE} (hl : PE X l tl) : PI X tg l (iTup K tl) := by subst hK; exact pi_tup hl
def iLT (K : PySem.W.Frag) (tl : TE) : TI := fun σ H R => iList K tl σ H R ∨ iTup K tl σ H R
theorem pi_lt {tg l : Expr} {tl : TE} (hl : PE X l tl) : PI X tg l (iLT X.K tl) :=
  ⟨fun pins s σ H R I h => h.elim ((pi_list hl).run pins s σ H R I) ((pi_tup hl).run pins s σ H R I)⟩
theorem pi_ltK (hK : X.K = K) {tg l : Expr} {tl : TE} (hl : PE X l tl) : PI X tg l (iLT K tl) := by subst hK; exact pi_lt hl
end
end LK

set_option Elab.async false
set_option linter.all false
set_option maxRecDepth 100000
set_option maxHeartbeats 4000000
/-! ### fields of an own exception whose row of bases ends in tl -/
namespace LK
open PySem PySem.W PySem.Calls PyProof.Rows PySem.HandSPX Builtin Builtin.ObjectAttr
/-- own classes, then tl -/
def Refs (tl l : List Value) : Prop := ∃ cs : List Addr, l = cs.map Value.ref ++ tl
theorem Refs.cons {tl l : List Value} (h : Refs tl l) (C : Addr) : Refs tl (.ref C :: l) := by
  obtain ⟨cs, rfl⟩ := h
  exact ⟨C :: cs, rfl⟩
theorem Refs.contains {tl l : List Value} (h : Refs tl l) (X : String) : l.contains (.type X) = tl.contains (.type X) := by
  obtain ⟨cs, rfl⟩ := h
  induction cs with
  | nil => rfl
  | cons c cs ih => simpa [List.contains_cons] using ih
theorem Refs.passes {tl l : List Value} (h : Refs tl l) {self : Value} (p : refuseLoop self "__setattr__" tl = pure ()) : refuseLoop self "__setattr__" l = pure () := by
  obtain ⟨cs, rfl⟩ := h
  induction cs with
  | nil => exact p
  | cons c cs ih => exact (refuseLoop_ref self "__setattr__" c _).trans ih
theorem Refs.full {tl l : List Value} (h : Refs tl l) (n : tl.isEmpty = false) : l.isEmpty = false := by
  obtain ⟨cs, rfl⟩ := h
  cases cs with
  | nil => exact n
  | cons _ _ => rfl
section
variable {prog : Program} {w : World} {A : Around} {R : Result → Shared → Prop} {hp : Heap} {g : Array GenState} {d : Drawn} {t : Nat} {os : OsState}
/-- object.__setattr__ on it comes to the storing in its own dict -/
theorem store_own {B : String} {tl : List Value} (SF : StoreFacts B tl "object.__setattr__" "object") (tn : tl.isEmpty = false) (to : tl.contains (.type "object") = true) {K : W.Frag} {name : Str} {tk : Tok} {v : Value} {x C : Addr} {od : Option Obj} {ox : Obj} {cd : ClassData}
    (X : K.In hp) (I : W.InstAt hp x ox C od) (hcd : W.clsIn K C = some cd) (hm : Refs tl cd.mro) (ha : W.findIn K (.ref C) name = some none)
    (hq : wpAny (model prog w) A.in1 (storeInOwnDict (.ref x) (.ref C) (.str name tk) name v false) (fun fin s' => match fin with | .done f => R (.ok f) s' | .again c' => c'.quiet = true ∧ codeAny (model prog w) A c' R s') (fun e s' => R (.error e) s') ⟨hp, g, d, t, os⟩) :
    codeAny (model prog w) A (.call (.builtin "object.__setattr__") ⟨[.ref x, .str name tk, v], []⟩) R ⟨hp, g, d, t, os⟩ := by
  have Fo := F.store_object
  have inMro : W.mroIn K C (.type "object") = some true := by
    unfold W.mroIn
    rw [hcd, Option.bind_some, if_neg (by rw [hm.full tn]; decide), hm.contains, to]
  have isObj : W.Looks (model prog w) hp (isInstance (.ref x) (.type "object")) true := I.type.andThen (W.looks_mroIn X inMro)
  have look : W.Looks (model prog w) hp (mroOf (.ref C)) cd.mro := (W.looks_clsIn X hcd).andThen .now
  have taker : W.Looks (model prog w) hp (storeTaker? none) none := .now
  refine codeAny_call_builtin Fo.slot.plain Fo.entry (W.check_slot (M := model prog w) (s := ⟨hp, g, d, t, os⟩) (i := "object.__setattr__") (owner := "object") (n := "__setattr__") (self := .ref x) (rest := [.str name tk, v]) (kw := []) Fo.kind Fo.split isObj (Fo.args _ _ _) ?_)
  rw [W.osa_eq, refuse_eq]
  refine wpAny_bind (wpAny_bind (I.type.at (wpAny_bind (look.at ?_))))
  rw [hm.passes (SF.passes _)]
  exact wpAny_pure (wpAny_bind (I.type.at (wpAny_bind ((W.looks_findIn X ha).at (wpAny_bind (taker.at hq))))))
/-- the first field: a new dict -/
theorem put_new {K : W.Frag} {name : Str} {tk : Tok} {v : Value} {x C : Addr} {fv : Array Value} {cd : ClassData} {Q : Fin → Shared → Prop} {E : Value → Shared → Prop} (X : K.In hp) (hx : hp.get? x = some { cls := .ref C, data := .fields fv }) (hcd : W.clsIn K C = some cd) (hh : cd.hasDict = true)
    (hq : ∀ h' tk' dx, (∀ b o, b ≠ x → hp.get? b = some o → h'.get? b = some o) → hp.objs.size ≤ dx → dx ≠ x → h'.get? x = some { cls := .ref C, dict := some dx, data := .fields fv } → h'.Ns1 dx (fun y => if y = name then some v else none) → Q (.done (.ret .none)) ⟨h', g, d, tk', os⟩) :
    wpAny (model prog w) A (storeInOwnDict (.ref x) (.ref C) (.str name tk) name v false) Q E ⟨hp, g, d, t, os⟩ := by
  have far : x ≠ hp.objs.size := Nat.ne_of_lt (Heap.lt_size hx)
  have cls : W.Looks (model prog w) hp (classData C) cd := W.looks_clsIn X hcd
  cases cd with | mk c1 c2 c3 c4 c5 c6 c7 c8 c9 c10 c11 =>
  cases (show c6 = true from hh)
  unfold storeInOwnDict ownDictForStores
  repeat (first | with_reducible refine HandSPX.store_in_new ?_ ?_ | with_reducible refine wpAny_loadPart_at hx ?_ | with_reducible refine cls.at ?_ | wp_step)
  · exact ⟨_, #[], _, Eq.trans (Heap.get?_update_ne _ _ _ _ far.symm) (Heap.get?_push_at rfl rfl), rfl, (fun e he => by simp at he), fun _ => rfl⟩
  · intro h' tk' ns same
    have keepx := Heap.get?_push_of_some { cls := .type "dict", data := .dict #[] } hx
    have kept : ∀ b o, b ≠ x → hp.get? b = some o → h'.get? b = some o := fun b o nb e => by
      rw [same.2 b (Nat.ne_of_lt (Heap.lt_size e)), Heap.get?_update_ne _ _ _ _ nb]
      exact Heap.get?_push_of_some _ e
    exact hq h' tk' hp.objs.size kept (Nat.le_refl _) far.symm ((same.2 x far).trans (Heap.get?_update_self _ keepx rfl)) ns
/-- a further one -/
theorem put_old {K : W.Frag} {name : Str} {tk : Tok} {v : Value} {x C dx : Addr} {fv : Array Value} {cd : ClassData} {m0 : Str → Option Value} {nl : List Str} {Q : Fin → Shared → Prop} {E : Value → Shared → Prop} (X : K.In hp) (hx : hp.get? x = some { cls := .ref C, dict := some dx, data := .fields fv }) (hns : hp.Ns1 dx m0) (hw : Within m0 nl) (hz : nl.length ≤ 1000) (hcd : W.clsIn K C = some cd) (hh : cd.hasDict = true)
    (hq : ∀ h' tk', (∀ b o, b ≠ dx → hp.get? b = some o → h'.get? b = some o) → h'.Ns1 dx (fun y => if y = name then some v else m0 y) → Q (.done (.ret .none)) ⟨h', g, d, tk', os⟩) :
    wpAny (model prog w) A (storeInOwnDict (.ref x) (.ref C) (.str name tk) name v false) Q E ⟨hp, g, d, t, os⟩ := by
  have cls : W.Looks (model prog w) hp (classData C) cd := W.looks_clsIn X hcd
  cases cd with | mk c1 c2 c3 c4 c5 c6 c7 c8 c9 c10 c11 =>
  cases (show c6 = true from hh)
  unfold storeInOwnDict ownDictForStores
  repeat (first | with_reducible refine OEX.store_in_old hns hw hz ?_ | with_reducible refine wpAny_loadPart_at hx ?_ | with_reducible refine cls.at ?_ | wp_step)
  exact fun h' tk' ns same => hq h' tk' (fun b o nb e => (same.2 b nb).trans e) ns
end
end LK

set_option Elab.async false
set_option linter.all false
set_option maxRecDepth 100000
set_option maxHeartbeats 4000000
namespace LK
open PySem PySem.Spec PyProof.Rows L2
/-- what the head tells of an own exception class, its row of bases ending in tl -/
structure OexM (K : PySem.W.Frag) (C : Addr) (newId : String) (tl : List Value) : Prop where
  cls : ∃ nm q N bs bm sn sub ab col dd k0 k1 k2 k3 k5, K.lookup C = some (excClassObj nm q C N bs bm true sn sub ab col dd k0 k1 k2 k3 k5 newId) ∧ Refs tl bm
  sa : PySem.W.findIn K (.ref C) "__setattr__" = some (some (.builtin "object.__setattr__"))
  exC : PySem.W.subIn K (.ref C) (.type "BaseException") = some true
  tyC : PySem.W.typeIn K (.ref C) = some (.type "type")
  kC : PySem.W.keepIn K (.ref C) = true
/-- what a base itself has -/
structure Base (B newId initId : String) (tl : List Value) : Prop where
  ex : ExcBaseFacts B newId initId tl
  st : StoreFacts B tl "object.__setattr__" "object"
  ne : tl.isEmpty = false
  ob : tl.contains (.type "object") = true
abbrev leTail : List Value := [.type "LookupError", .type "Exception", .type "BaseException", .type "object"]
theorem baseLE : Base "LookupError" "LookupError.__new__" "LookupError.__init__" leTail := ⟨PySem.F.excBase_LookupError, PySem.F.store_LookupError, rfl, by decide +kernel⟩
theorem OexM.cdata {K : PySem.W.Frag} {C : Addr} {newId : String} {tl : List Value} (T : OexM K C newId tl) : ∃ cd, PySem.W.clsIn K C = some cd ∧ cd.hasDict = true ∧ Refs tl cd.mro := by
  obtain ⟨nm, q, N, bs, bm, sn, sub, ab, col, dd, k0, k1, k2, k3, k5, hC, hbm⟩ := T.cls
  refine ⟨_, by unfold PySem.W.clsIn; rw [hC] <;> rfl, rfl, hbm.cons C⟩
section
variable {X : Cx} {pins : List (Addr × Obj)} {σ : L2.St} {H : Hp} {s : Shared} {a C dx : Addr} {f : Str} {y : V} {u : Value} {fs : List (Str × V)} {Q : Unit → Shared → Prop} {E : Value → Shared → Prop} {A : Around} {B newId initId : String} {tl : List Value}
theorem set_new (F : Base B newId initId tl) (T : OexM X.K C newId tl) (I : Inv X pins σ H s) (e : H a = some (exo a C none)) (hno : PySem.W.findIn X.K (.ref C) f = some none) (ry : RelV y u)
    (h : ∀ dx s', H dx = none → dx ≠ a → Inv X pins σ (L2.upd (L2.upd H dx (exd dx [(f, y)])) a (exo a C (some dx))) s' → Q () s') : wpAny (model X.prog X.w) A (setAttr (.ref a) f u) Q E s := by
  obtain ⟨cd, hcl, hd, hm⟩ := T.cdata
  obtain ⟨t1, ho⟩ := exo_at I.hok e
  obtain ⟨hp, g, d, t, os⟩ := s
  have J : PySem.W.InstAt hp a { cls := .ref C, dict := none, data := .fields #[.ref t1, .none, .none, .none, .bool false, .none] } C none := ⟨ho, rfl, rfl, trivial⟩
  refine PySem.W.set_plain I.kIn J T.sa (store_own F.st F.ne F.ob I.kIn J hcl hm hno (put_new I.kIn ho hcl hd fun h' tk' dx kept fresh nx at_ ns => ?_))
  have hnd : H dx = none := I.hok.fresh fresh
  have off : ∀ {b : Addr} {o : Obj}, hp.get? b = some o → b ≠ dx := fun {b o} q => Nat.ne_of_lt (Nat.lt_of_lt_of_le (Heap.lt_size q) fresh)
  have nota : ∀ {b : Addr}, H b = none → b ≠ a := fun {b} n z => by rw [z, e] at n; cases n
  have through : ∀ {b : Addr} {o : HO}, H b = some o → o ≠ exo a C none → L2.upd (L2.upd H dx (exd dx [(f, y)])) a (exo a C (some dx)) b = some o := fun {b o} q ne => by
    rw [upd_ne (at_ne e q ne.symm), upd_ne (ne_of_none q hnd)]
    exact q
  have U : Un X.fs [] H (L2.upd (L2.upd H dx (exd dx [(f, y)])) a (exo a C (some dx))) hp h' := {
    keep := fun b o q n _ _ => kept b o (nota n) q
    slot := fun b o q n _ _ => ⟨o.slots, kept b o (nota n) q⟩
    free := fun b o q n _ => (upd_ne (nota n)).trans ((upd_ne (off q)).trans n)
    there := fun b o q _ => if hb : b = a then ⟨_, hb ▸ at_⟩ else ⟨o, kept b o hb q⟩
    tups := fun b xs q => through q fun z => exo_tup z.symm
    frzs := fun b o v q => through q fun z => exo_frz z.symm
    tbls := fun b ps q => ⟨#[], by rw [through q fun z => exo_tbl z.symm]; simp⟩ }
  refine h dx _ hnd nx (I.un (t' := tk') U fun b o q => ?_)
  by_cases hb : b = a
  · rw [hb, upd_same] at q
    rw [hb]
    cases q
    exact exo_ok at_
  · rw [upd_ne hb] at q
    by_cases hx : b = dx
    · rw [hx, upd_same] at q
      rw [hx]
      cases q
      exact exd_ok ns (relO_put (fs := []) ry fun g => True.intro)
    · rw [upd_ne hx] at q
      refine (I.hok b o q).stay (fun c v hc z => kept c v ?_ z) (fun c hc => through hc fun z => exo_own z.symm) (fun c xs hc => through hc fun z => exo_tup z.symm)
      rcases hc with rfl | hc
      · exact hb
      · exact at_ne e hc exo_own
theorem set_old (F : Base B newId initId tl) (T : OexM X.K C newId tl) (I : Inv X pins σ H s) (e : H a = some (exo a C (some dx))) (ed : H dx = some (exd dx fs)) (hl : fs.length ≤ 900) (hno : PySem.W.findIn X.K (.ref C) f = some none) (ry : RelV y u)
    (h : ∀ s', Inv X pins σ (L2.upd H dx (exd dx ((f, y) :: fs))) s' → Q () s') : wpAny (model X.prog X.w) A (setAttr (.ref a) f u) Q E s := by
  obtain ⟨cd, hcl, hd, hm⟩ := T.cdata
  obtain ⟨t1, ho⟩ := exo_at I.hok e
  obtain ⟨mA, hns, rel⟩ := exd_at I.hok ed
  have hw := within_of rel
  obtain ⟨hp, g, d, t, os⟩ := s
  obtain ⟨oD, _, _, hoD, _⟩ := hns.count hw
  have J : PySem.W.InstAt hp a { cls := .ref C, dict := some dx, data := .fields #[.ref t1, .none, .none, .none, .bool false, .none] } C (some oD) := ⟨ho, rfl, rfl, hoD⟩
  refine PySem.W.set_plain I.kIn J T.sa (store_own F.st F.ne F.ob I.kIn J hcl hm hno (put_old I.kIn ho hns hw (by rw [List.length_map]; omega) hcl hd fun h' tk' kept ns => h _ ?_))
  obtain ⟨o2, es, ep, at2, r2⟩ := id ns
  exact I.write (t' := tk') (x := dx) (e := dx) (o := exd dx ((f, y) :: fs)) (by rw [ed]; exact True.intro) (.inl rfl) kept ⟨o2, at2⟩ (exd_ok ns (relO_put ry rel))
end
/-- self.f = e -/
def tOstM (K : PySem.W.Frag) (newId : String) (tl : List Value) (f : Str) (to te : TE) : TS := fun D σ H => te σ H fun y H1 => to σ H1 fun x H2 => ∃ a C : Addr, x = .ref a ∧ OexM K C newId tl ∧ PySem.W.findIn K (.ref C) f = some none ∧
  ((H2 a = some (exo a C none) ∧ ∀ dx, H2 dx = none → dx ≠ a → D.nx σ (L2.upd (L2.upd H2 dx (exd dx [(f, y)])) a (exo a C (some dx)))) ∨
    ∃ (dx : Addr) (fs : List (Str × V)), H2 a = some (exo a C (some dx)) ∧ H2 dx = some (exd dx fs) ∧ fs.length ≤ 900 ∧ D.nx σ (L2.upd H2 dx (exd dx ((f, y) :: fs))))
section
variable {X : Cx} {o e : Expr} {es : List Expr} {to te : TE} {ta : TA} {f : Str} {p p' p1 p2 pos : Pos} {B newId initId : String} {tl : List Value}
theorem ps_ostM (F : Base B newId initId tl) (ho : PE X o to) (he : PE X e te) (hs : swapsWith e (some (.Attribute o f p')) pos.line X.env = pure false := by rfl) : PS X (.Assign [.Attribute o f p'] e pos) (tOstM X.K newId tl f to te) := by
  refine ⟨fun pins s σ H D I h => plainObj_wpAny_Assign_Attribute (thn (he.run pins s σ H _ I h) fun v s1 q => ?_) hs⟩
  obtain ⟨y, H1, I1, r1, q1⟩ := q
  refine thn (ho.run pins s1 σ H1 _ I1 q1) fun u s2 q => ?_
  obtain ⟨x, H2, I2, r2, a, C, rfl, T, hno, q⟩ := q
  cases (show u = Value.ref a from r2)
  rcases q with ⟨ea, q⟩ | ⟨dx, fs, ea, ed, hl, q⟩
  · exact set_new F T I2 ea hno r1 fun dx s' n ne J => ⟨σ, _, J, q dx n ne⟩
  · exact set_old F T I2 ea ed hl hno r1 fun s' J => ⟨σ, _, J, q⟩
/-- C(e, ..) of such a class, C's own __init__ keeping sp -/
theorem pmk_oexM (F : Base B newId initId tl) {CX : CXT} {x : Str} {C fI : Addr} {k : Nat} {fd : FuncData} {ps : List Str} {sp : Sp} {ds : List Value} {dvs : List V} (T : OexM X.K C newId tl) (iC : PySem.W.findIn X.K (.ref C) "__init__" = some (some (.ref fI))) (tI : PySem.W.typeIn X.K (.ref fI) = some (.type "function"))
    (F1 : FnOk X.prog X.w X.K X.mg X.base CX k fI fd ps sp) (hr : Room (k + 1) X.A) (hb : Binds X.K fd ps ds) (hd : Vals dvs ds) (hx : Passes CX X (fun _ _ _ => False)) (hg : Gl X x) (hm : X.mg x = some (.ref C)) (ha : PA X (e :: es) ta)
    (hdb : (x == ("__debug__" : Str)) = false := by decide) (he : starEach (e :: es) X.env = (false, eval e X.env) :: starEach es X.env := by rfl) (hpl : (backTo pos (starEach es X.env)).any (·.1) = false := by rfl) :
    PMk X (.Call (.Name x p) (e :: es) [] pos) (tMkO C sp dvs ta) := by
  intro pins s σ H Q I h
  obtain ⟨nm, q, N, bs, bm, sn, sub, ab, col, dd, k0, k1, k2, k3, k5, hC, hbm⟩ := T.cls
  refine wpAny_Call_Name_kw (ld_glob I hg hm ?_ hdb)
  refine PySem.W.callWith_K (h₀ := X.base) I.ok.mod.kin T.kC (thn (ha.run pos pins s σ H _ I h) fun us s1 q1 => ?_) he hpl
  obtain ⟨vs, H1, I1, r1, hz, q1⟩ := q1
  refine ⟨I1.kIn, ?_⟩
  show wpAny _ _ (call (.ref C) us) _ _ _
  obtain ⟨hp, g, dr, tk, os⟩ := s1
  generalize hA : hp.objs.size + 1 = a at *
  have hsz : hp.objs.size ≤ a := by rw [← hA]; exact Nat.le_succ _
  have hq := q1 a (I1.hok.fresh hsz)
  have at_ : ((hp.push (PySem.W.kdv_tup us)).push (PySem.HandSPX.excO C hp.objs.size)).get? a = some (PySem.HandSPX.excO C hp.objs.size) := by rw [← hA]; heap_get
  have I2 : Inv X pins σ (L2.upd H1 a (exo a C none)) ⟨(hp.push (PySem.W.kdv_tup us)).push (PySem.HandSPX.excO C hp.objs.size), g, dr, tk, os⟩ :=
    I1.laid (t' := tk) (a := a) (o := exo a C none) (fun b o e => Heap.get?_push_of_some _ (Heap.get?_push_of_some _ e)) hsz (exo_ok at_)
  have r2 : Vals (V.ref a :: (vs ++ dvs)) (Value.ref a :: (us ++ ds)) := .cons rfl (r1.append hd)
  have many : us.length ≤ sizeLine := by
    have l := Paired.length r1
    have b : (1000 : Nat) ≤ sizeLine := by decide
    omega
  have run := F1.run _ X.stack _ _ ⟨Value.ref a :: us, []⟩ (Value.ref a :: (us ++ ds)) _ _ (fun _ _ _ => False) (hr.make C us []) (I2.env0.make C us []) (hb _ (Value.ref a :: us) I2.kIn (r2.length.symm.trans (F1.len _ _ _ _ hq))) r2 hq
  subst hA
  refine wpAny_call (PySem.HandSPX.call_own F.ex (fun Y => hbm.contains Y) (I1.kIn _ _ hC) (PySem.W.looks_findIn I1.kIn iC) (fun self => PySem.W.bind_fn I1.kIn self tI) many (codeAny_mono run fun r s' hq' => ?_))
  match r, hq' with
  | .error er, z => exact hx pins σ _ _ er s' I2 z
  | .ok .next, z => exact z.elim
  | .ok .brk, z => exact z.elim
  | .ok .cont, z => exact z.elim
  | .ok (.ret u), ⟨v, H2, os2, bare2, un2, hok2, rv, ev, d, fs, ea, ed, hd1, q2⟩ =>
    subst ev
    exact ⟨rv, mk_end (raises_own T.exC T.tyC) I1 hsz (fun b o e => Heap.get?_push_of_some _ (Heap.get?_push_of_some _ e)) un2 hok2 os2 bare2 ea ed hd1 q2⟩
end
end LK

set_option Elab.async false
set_option linter.all false
set_option maxRecDepth 100000
set_option maxHeartbeats 4000000
/-! ### own exceptions as values: made with keywords, held at the heap -/
namespace LK
open PySem PySem.W PySem.Calls PyProof.Rows PySem.HandSPX Builtin Builtin.ObjectAttr
section
variable {prog : Program} {w : World} {A : Around} {E : Value → Shared → Prop} {R : Result → Shared → Prop} {hp : Heap} {gs : Array GenState} {dr : Drawn} {tk : Nat} {os : OsState}
variable {nm q : Str} {C N : Addr} {bs bm tl : List Value} {sn : List Str} {sub : List Value} {ab : Bool} {col : Option Bool} {dd : Option Addr} {k0 k1 k2 k3 k5 : Option Value} {B newId initId : String} {us : List Value} {kws : List (Str × Value)} {fI : Addr}
theorem checks_new (F : ExcBaseFacts B newId initId tl) (same : ∀ Y : String, bm.contains (.type Y) = tl.contains (.type Y)) {Q : Unit → Shared → Prop}
    (hC : hp.get? C = some (excClassObj nm q C N bs bm true sn sub ab col dd k0 k1 k2 k3 k5 newId)) (done : Q () ⟨hp, gs, dr, tk, os⟩) :
    wpAny (model prog w) A (checkBuiltinCall newId ⟨.ref C :: us, kws⟩) Q E ⟨hp, gs, dr, tk, os⟩ := by
  have own : (Value.ref C :: bm).contains (.type B) = true := by
    rw [List.contains_cons, same, F.hasB]
    exact Bool.or_true _
  have st := F.noStar
  simp only [checkBuiltinCall, F.newKind, F.newSplit, F.newRow]
  repeat (first
    | refine wpAny_loadPart_at hC ?_
    | (refine wpAny_isSubtype_exc hC ?_; rw [own])
    | refine wpAny_staticBase_exc hC ?_
    | refine wpAny_madeBy_exc hC ?_
    | simp only [bne_self_eq_false, Bool.false_eq_true, if_false]
    | wp_step)
  exact done
theorem makes_new (F : ExcBaseFacts B newId initId tl) (same : ∀ Y : String, bm.contains (.type Y) = tl.contains (.type Y)) (hC : hp.get? C = some (excClassObj nm q C N bs bm true sn sub ab col dd k0 k1 k2 k3 k5 newId)) (few : us.length ≤ sizeLine)
    (done : R (.ok (.ret (.ref (hp.objs.size + 1)))) ⟨(hp.push (W.kdv_tup us)).push (excO C hp.objs.size), gs, dr, tk, os⟩) :
    codeAny (model prog w) A (.builtin newId ⟨.ref C :: us, kws⟩) R ⟨hp, gs, dr, tk, os⟩ := by
  have en := F.ends
  have c1 : (Value.ref C :: bm).contains (.type B) = true := by
    rw [List.contains_cons, same, F.hasB]
    exact Bool.or_true _
  have c2 : (Value.ref C :: bm).contains (.type "AttributeError") = false := by
    rw [List.contains_cons, same, F.noAttr]
    rfl
  have c3 : (Value.ref C :: bm).contains (.type "NameError") = false := by
    rw [List.contains_cons, same, F.noName]
    rfl
  refine codeAny_builtinAt F.entry ?_
  unfold Builtin.«BaseException.__new__»
  refine PySem.wpAt_bind ?_
  show PySem.wpAt _ _ _ (stack >>= _) _ _ _
  refine PySem.wpAt_bind (PySem.wpAt_stack fun _ _ => PySem.wpAt_of_wpAny ?_)
  wp_walk
  refine PySem.wpAt_of_wpAny ?_
  rw [F.owner]
  repeat (first
    | with_reducible refine wpAny_madeHere_exc F.canon hC ?_
    | with_reducible refine wpAny_loadPart_at hC ?_
    | (with_reducible refine wpAny_isSubtype_exc hC ?_; first | rw [c1] | rw [c2] | rw [c3])
    | wp_step)
  show R _ _
  rw [Heap.size_push]
  exact done
theorem type_makes (F : ExcBaseFacts B newId initId tl) (same : ∀ Y : String, bm.contains (.type Y) = tl.contains (.type Y)) {Q : Fin → Shared → Prop} (hC : hp.get? C = some (excClassObj nm q C N bs bm true sn sub ab col dd k0 k1 k2 k3 k5 newId))
    (li : W.Looks (model prog w) hp (typeLookup (.ref C) "__init__") (some (.ref fI))) (lb : ∀ self, W.Looks (model prog w) hp (bindSpecial (.ref fI) self) (.ref fI, [self])) (few : us.length ≤ sizeLine)
    (done : codeAny (model prog w) A (.call (.ref fI) ⟨.ref (hp.objs.size + 1) :: us, kws⟩)
      (fun r s' => match r with | .ok (.ret v) => v = .none ∧ Q (.done (.ret (.ref (hp.objs.size + 1)))) s' | .ok _ => False | .error e => E e s')
      ⟨(hp.push (W.kdv_tup us)).push (excO C hp.objs.size), gs, dr, tk, os⟩) :
    wpAny (model prog w) A (Builtin.«type.__call__» ⟨.ref C :: us, kws⟩) Q E ⟨hp, gs, dr, tk, os⟩ := by
  repeat (first
    | with_reducible refine wpAny_loadPart_at hC ?_
    | with_reducible refine wpAny_madeBy_exc hC ?_
    | wp_step)
  refine codeAny_call_builtin_code (Code.quiet_builtin _ F.quiet) (checks_new F same hC ?_)
  refine makes_new F same hC few ?_
  show wpAny _ _ _ _ _ _
  have up : ∀ b o, hp.get? b = some o → ((hp.push (W.kdv_tup us)).push (excO C hp.objs.size)).get? b = some o := fun b o z => Heap.get?_push_of_some _ (Heap.get?_push_of_some _ z)
  have hC2 := up _ _ hC
  have at_ : ((hp.push (W.kdv_tup us)).push (excO C hp.objs.size)).get? (hp.objs.size + 1) = some (excO C hp.objs.size) := by heap_get
  have itself : (Value.ref C :: bm).contains (.ref C) = true := by simp
  unfold isInstance
  repeat (first
    | with_reducible refine wpAny_loadPart_at at_ ?_
    | (with_reducible refine wpAny_isSubtype_exc hC2 ?_; rw [itself])
    | wp_step)
  show wpAny _ _ (typeLookup (.ref C) _) _ _ _
  refine (li.keeps up).at ?_
  refine wpAny_holding (wpAny_bind (((lb (.ref (hp.objs.size + 1))).keeps up).at ?_))
  refine wpAny_bind (wpAny_call (codeAny_mono done fun r s' z => ?_))
  match r, z with
  | .error e, z => exact z
  | .ok .next, z => exact z.elim
  | .ok .brk, z => exact z.elim
  | .ok .cont, z => exact z.elim
  | .ok (.ret v), ⟨ev, z⟩ =>
    subst ev
    first
      | exact wpAny_pure (wpAny_pure z)
      | (wp_walk; exact z)
theorem call_makes (F : ExcBaseFacts B newId initId tl) (same : ∀ Y : String, bm.contains (.type Y) = tl.contains (.type Y)) (hC : hp.get? C = some (excClassObj nm q C N bs bm true sn sub ab col dd k0 k1 k2 k3 k5 newId))
    (li : W.Looks (model prog w) hp (typeLookup (.ref C) "__init__") (some (.ref fI))) (lb : ∀ self, W.Looks (model prog w) hp (bindSpecial (.ref fI) self) (.ref fI, [self])) (few : us.length ≤ sizeLine)
    (done : codeAny (model prog w) (A.under (.builtin "type.__call__" ⟨.ref C :: us, kws⟩)) (.call (.ref fI) ⟨.ref (hp.objs.size + 1) :: us, kws⟩) (W.InitBack (hp.objs.size + 1) R)
      ⟨(hp.push (W.kdv_tup us)).push (excO C hp.objs.size), gs, dr, tk, os⟩) :
    codeAny (model prog w) A (.call (.ref C) ⟨us, kws⟩) R ⟨hp, gs, dr, tk, os⟩ := by
  have l1 := tc_lookup
  have l2 := tc_bind (.ref C)
  have ty : (⟨hp, gs, dr, tk, os⟩ : Shared).TypeIs (.ref C) "type" := ⟨_, hC, rfl⟩
  refine codeAny_of_tree ?_
  show wpAny _ _ (callAny (.ref C) _) _ _ _
  repeat (any_goals (first
    | assumption
    | with_reducible refine wpAny_loadPart_at hC ?_
    | wp_step))
  refine ⟨rfl, codeAny_call_builtin_at (Code.quiet_builtin _ (by decide +kernel)) entry_typeCall (wpAny_check_type_call_sub hC (type_makes F same hC li lb few ?_))⟩
  refine codeAny_mono done fun r s' z => ?_
  match r, z with
  | .error e, z => exact z
  | .ok .next, z => exact z
  | .ok .brk, z => exact z
  | .ok .cont, z => exact z
  | .ok (.ret v), z => exact z
end
end LK

set_option Elab.async false
set_option linter.all false
set_option maxRecDepth 100000
set_option maxHeartbeats 4000000
namespace LK
open PySem PySem.Spec PyProof.Rows L2
/-! ### an exception's class, as isinstance asks for it -/
structure IsxC (K : PySem.W.Frag) (C : Addr) : Prop where
  cl : (PySem.W.clsIn K C).isSome = true
  ga : PySem.W.findIn K (.ref C) "__getattribute__" = some (some (.builtin "BaseException.__getattribute__"))
  gt : PySem.W.findIn K (.ref C) "__getattr__" = some none
  sub : PySem.W.subIn K (.ref C) (.type "BaseException") = some true
  ha : PySem.W.findIn K (.ref C) "__class__" = some (some (.builtin "object.__class__"))
  hn : PySem.W.specialIn K (.builtin "object.__class__") "__get__" = some (some (.builtin "getset_descriptor.__get__"))
  tk : PySem.W.takesIn K (.builtin "object.__class__") = some true
  hm : PySem.W.mroIn K C (.type "object") = some true
/-! ### an exception object that is held -/
def pinO (a : Addr) (oe : Obj) : HO := .ext fun h => h.get? a = some oe
theorem pinO_ok {P : Program} {w : World} {H : Hp} {h : Heap} {a : Addr} {oe : Obj} (e : h.get? a = some oe) : ObjOk P w H h a (pinO a oe) := ⟨e, ⟨oe, e⟩, fun _ _ q k => k _ q⟩
theorem pinO_at {P : Program} {w : World} {H : Hp} {h : Heap} {a : Addr} {oe : Obj} (hok : HOk P w H h) (e : H a = some (pinO a oe)) : h.get? a = some oe := by
  have x : ObjOk P w H h a (.ext fun h => h.get? a = some oe) := hok a _ e
  exact x.1
/-- at a: an exception of the class C with the fields fs -/
def Err (H : Hp) (a C : Addr) (fs : List (Str × V)) : Prop := ∃ oe vs d, H a = some (pinO a oe) ∧ oe.cls = .ref C ∧ oe.dict = some d ∧ oe.data = .fields vs ∧ H d = some (.xd fs)
theorem Err.same {H H' : Hp} {a C : Addr} {fs : List (Str × V)} (e : Err H a C fs) (s : Same H H') : Err H' a C fs := by
  obtain ⟨oe, vs, d, h1, h2, h3, h4, h5⟩ := e
  exact ⟨oe, vs, d, s _ _ h1, h2, h3, h4, s _ _ h5⟩
/-- a context in which Z tells of exceptions -/
def HasE (X : Cx) (Z : Hp → Addr → Addr → List (Str × V) → Prop) : Prop := ∀ {pins σ H s a C fs}, Inv X pins σ H s → Z H a C fs → ∃ oe vs d, s.heap.get? a = some oe ∧ oe.cls = .ref C ∧ oe.dict = some d ∧ oe.data = .fields vs ∧ H d = some (.xd fs)
theorem hasE_err {X : Cx} : HasE X Err := fun {pins σ H s a C fs} I e => by
  obtain ⟨oe, vs, d, h1, h2, h3, h4, h5⟩ := e
  exact ⟨oe, vs, d, pinO_at I.hok h1, h2, h3, h4, h5⟩
/-- the exception that is pinned -/
def PinE (p : Addr × Obj) (H : Hp) (a C : Addr) (fs : List (Str × V)) : Prop := a = p.1 ∧ ∃ vs d, p.2.cls = .ref C ∧ p.2.dict = some d ∧ p.2.data = .fields vs ∧ H d = some (.xd fs)
theorem hasE_pin {X : Cx} {p : Addr × Obj} (hp : p ∈ X.pn) : HasE X (PinE p) := fun {pins σ H s a C fs} I e => by
  obtain ⟨rfl, vs, d, h2, h3, h4, h5⟩ := e
  exact ⟨p.2, vs, d, (I.pin p (List.mem_append_left _ hp)).1, h2, h3, h4, h5⟩
/-- the exception of a suite, by its class and dict -/
def PinZ (a0 : Addr) (cls : Value) (d : Option Addr) (H : Hp) (a C : Addr) (fs : List (Str × V)) : Prop := a = a0 ∧ cls = .ref C ∧ ∃ dd, d = some dd ∧ H dd = some (.xd fs)
theorem PinZ.pin {a0 : Addr} {cls : Value} {d : Option Addr} {oe : Obj} (hz : Zc cls d oe) (hf : ∃ vs, oe.data = .fields vs) {H : Hp} {a C : Addr} {fs : List (Str × V)} (e : PinZ a0 cls d H a C fs) : PinE (a0, oe) H a C fs := by
  obtain ⟨rfl, rfl, dd, rfl, h⟩ := e
  obtain ⟨vs, hv⟩ := hf
  exact ⟨rfl, vs, dd, hz.1, hz.2, hv, h⟩
theorem hasE_suite {X : Cx} {a0 : Addr} {cls : Value} {d : Option Addr} {oe : Obj} {pn : List (Addr × Obj)} (hz : Zc cls d oe) (hf : ∃ vs, oe.data = .fields vs) : HasE (X.suite a0 ((a0, oe) :: pn)) (PinZ a0 cls d) := fun {pins σ H s a C fs} I e => hasE_pin (p := (a0, oe)) List.mem_cons_self I (e.pin hz hf)
theorem inst_of {X : Cx} {pins : List (Addr × Obj)} {σ : L2.St} {H : Hp} {s : Shared} {a C : Addr} {fs : List (Str × V)} {Z : Hp → Addr → Addr → List (Str × V) → Prop} (hz : HasE X Z) (I : Inv X pins σ H s) (e : Z H a C fs) :
    ∃ oe od, PySem.W.InstAt s.heap a oe C (some od) ∧ ∀ n v, fs.lookup n = some v → ∃ u, PySem.W.lookIn n od = some (some u) ∧ L2.RelV v u := by
  obtain ⟨oe, vs, d, h1, h2, h3, h4, h5⟩ := hz I e
  have hx : ObjOk X.prog X.w H s.heap d (.xd fs) := I.hok d _ h5
  obtain ⟨mA, hns, hr⟩ := hx
  obtain ⟨od, ho, hl⟩ := lookIn_ns hns
  refine ⟨oe, od, ⟨h1, h2, by unfold PySem.W.notCls; rw [h4] <;> rfl, by rw [h3]; exact ho⟩, fun n v l => ?_⟩
  obtain ⟨u, hu, ru⟩ := RelO.some_of (v := v) (o := mA n) (by rw [← l]; exact hr n)
  exact ⟨u, (hl n).trans (congrArg some hu), ru⟩
def tEf (K : PySem.W.Frag) (Z : Hp → Addr → Addr → List (Str × V) → Prop) (n : Str) (te : TE) : TE := fun σ H Q => te σ H fun x H1 => ∃ (a C : Addr) (fs : List (Str × V)) (v : V), x = .ref a ∧ Z H1 a C fs ∧ XfC K C ∧ PySem.W.findIn K (.ref C) n = some none ∧ fs.lookup n = some v ∧ Q v H1
/-- e.f, e an exception that is held or pinned -/
theorem pe_errF {X : Cx} {Z : Hp → Addr → Addr → List (Str × V) → Prop} (hz : HasE X Z) {e : Expr} {te : TE} {pos : Pos} {n : Str} (he : PE X e te) (hb : attributeBase e n X.env (eval e X.env) = eval e X.env := by rfl) : PE X (.Attribute e n pos) (tEf X.K Z n te) := by
  refine ⟨fun pins s σ H Q I h => attr_of hb (thn (he.run pins s σ H _ I h) fun u s1 hh => ?_)⟩
  obtain ⟨x, H1, I1, rx, a, C, fs, v, rfl, ea, T, hno, l, q⟩ := hh
  cases (show u = Value.ref a from rx)
  obtain ⟨oe, od, J, lk⟩ := inst_of hz I1 ea
  obtain ⟨u, hu, ru⟩ := lk _ _ l
  exact HandSPX.exc_get I1.kIn J T.ga T.gg T.exC (PySem.W.findObj_own T.hdC hno rfl hu) (handed_of ru) ⟨v, H1, I1.tok _, ru, q⟩
def rIsEr (K : PySem.W.Frag) (Z : Hp → Addr → Addr → List (Str × V) → Prop) : List V → Hp → VK → Prop := fun xs H Q => ∃ (a C : Addr) (fs : List (Str × V)) (c : V) (cv : Value) (b : Bool), xs = [.ref a, c] ∧ Z H a C fs ∧ IsxC K C ∧ (∀ u, L2.RelV c u → u = cv) ∧ PySem.W.kitOne K (.ref C) cv = some b ∧ Q (.bl b) H
/-- isinstance(e, c) -/
theorem call_isEr {X : Cx} {Z : Hp → Addr → Addr → List (Str × V) → Prop} (hz : HasE X Z) : CallR X (.builtin "isinstance") (rIsEr X.K Z) := by
  intro pins s σ H xs us Q I r h
  obtain ⟨a, C, fs, c, cv, b, rfl, ea, T, hcv, hk, q⟩ := h
  cases r with
  | cons rx rr =>
    cases rr with
    | cons rt rr =>
      cases rr
      cases rx
      cases hcv _ rt
      obtain ⟨oe, od, J, _⟩ := inst_of hz I ea
      exact PySem.W.kia_one (PySem.W.kitx_exc T.cl T.ga T.gt T.sub T.ha T.hn T.tk T.hm) I.kIn J hk (fun z => nomatch z) fun tk => ⟨.bl b, H, I.kept (t' := tk) fun _ _ z => z, rfl, q⟩
/-! ### C(..) as a value -/
/-- what stands behind the own __init__ -/
def Back (a C : Addr) (Q : VK) : VK := fun v H2 => v = .non ∧ ∃ (d : Addr) (fs : List (Str × V)), H2 a = some (exo a C (some d)) ∧ H2 d = some (exd d fs) ∧ ∀ H3, (∀ b, b ≠ a → b ≠ d → H3 b = H2 b) → Err H3 a C fs → Q (.ref a) H3
def tExV (C : Addr) (n m : Nat) (sp : Sp) (gV : List V → List V → List V) (t tk : TA) : TE := fun σ H Q => t σ H fun vs H1 => tk σ H1 fun zs H2 => vs.length = n ∧ zs.length = m ∧ n ≤ 1000 ∧ ∀ a, H2 a = none → sp (gV (.ref a :: vs) zs) (L2.upd H2 a (exo a C none)) (Back a C Q) (fun _ _ _ => False)
/-- the call, the values known -/
structure ExcDef (X : Cx) (CX : CXT) (B newId initId : String) (tl : List Value) (x : Str) (C fI : Addr) (k : Nat) (fd : FuncData) (ps : List Str) (sp : Sp) : Prop where
  F : Base B newId initId tl
  T : OexM X.K C newId tl
  iC : PySem.W.findIn X.K (.ref C) "__init__" = some (some (.ref fI))
  tI : PySem.W.typeIn X.K (.ref fI) = some (.type "function")
  F1 : FnOk X.prog X.w X.K X.mg X.base CX k fI fd ps sp
  hr : Room (k + 1) X.A
  hx : Passes CX X (fun _ _ _ => False)
  hg : Gl X x
  hm : X.mg x = some (.ref C)
section
variable {X : Cx} {CX : CXT} {B newId initId : String} {tl : List Value} {x : Str} {C fI : Addr} {k n : Nat} {fd : FuncData} {ps ks : List Str} {sp : Sp} {g : List Value → List Value → List Value} {gV : List V → List V → List V}
theorem exo_ext {a C : Addr} {d : Option Addr} : ∃ φ, exo a C d = .ext φ := ⟨_, rfl⟩
theorem exd_ext {d : Addr} {fs : List (Str × V)} : ∃ φ, exd d fs = .ext φ := ⟨_, rfl⟩
theorem run_excV (D : ExcDef X CX B newId initId tl x C fI k fd ps sp) (hb : KBn X.K fd ps (n + 1) ks g gV) {pins : List (Addr × Obj)} {σ : L2.St} {H : Hp} {s : Shared} {Q : VK} {us ws : List Value} {vs zs : List V} (I : Inv X pins σ H s) (r : Vals vs us) (rz : Vals zs ws) (l1 : vs.length = n) (l2 : zs.length = ks.length) (few : n ≤ 1000)
    (h : ∀ a, H a = none → sp (gV (.ref a :: vs) zs) (L2.upd H a (exo a C none)) (Back a C Q) (fun _ _ _ => False)) : wpAny (model X.prog X.w) X.A (call (.ref C) us (ks.zip ws)) (EP X pins σ Q) X.xe s := by
  obtain ⟨nm, q, N, bs, bm, sn, sub, ab, col, dd, k0, k1, k2, k3, k5, hC, hbm⟩ := D.T.cls
  obtain ⟨hp, gs, dr, tk, os⟩ := s
  generalize hA : hp.objs.size + 1 = a at *
  have hsz : hp.objs.size ≤ a := by rw [← hA]; exact Nat.le_succ _
  have hq := h a (I.hok.fresh hsz)
  have at_ : ((hp.push (PySem.W.kdv_tup us)).push (PySem.HandSPX.excO C hp.objs.size)).get? a = some (PySem.HandSPX.excO C hp.objs.size) := by rw [← hA]; heap_get
  have I2 : Inv X pins σ (L2.upd H a (exo a C none)) ⟨(hp.push (PySem.W.kdv_tup us)).push (PySem.HandSPX.excO C hp.objs.size), gs, dr, tk, os⟩ :=
    I.laid (t' := tk) (a := a) (o := exo a C none) (fun b o e => Heap.get?_push_of_some _ (Heap.get?_push_of_some _ e)) hsz (exo_ok at_)
  have r1 : Vals (V.ref a :: vs) (Value.ref a :: us) := .cons rfl r
  have r2 := hb.rel r1 rz
  have many : us.length ≤ sizeLine := by
    have l := Paired.length r
    have b : (1000 : Nat) ≤ sizeLine := by decide
    omega
  have run := D.F1.run _ X.stack _ _ ⟨Value.ref a :: us, ks.zip ws⟩ (g (Value.ref a :: us) ws) _ _ (fun _ _ _ => False) (D.hr.make C us (ks.zip ws)) (I2.env0.make C us (ks.zip ws)) (hb.to _ (Value.ref a :: us) ws I2.kIn (r1.length.symm.trans (congrArg Nat.succ l1)) (rz.length.symm.trans l2)) r2 hq
  subst hA
  refine wpAny_call (call_makes D.F.ex (fun Y => hbm.contains Y) (I.kIn _ _ hC) (PySem.W.looks_findIn I.kIn D.iC) (fun self => PySem.W.bind_fn I.kIn self D.tI) many (codeAny_mono run fun r s' hq' => ?_))
  match r, hq' with
  | .error er, z => exact D.hx pins σ _ _ er s' I2 z
  | .ok .next, z => exact z.elim
  | .ok .brk, z => exact z.elim
  | .ok .cont, z => exact z.elim
  | .ok (.ret u), hq' =>
    obtain ⟨v, H2, J, rv, rfl, d, fs, ea, ed, q2⟩ := I2.after hq'
    refine ⟨rv, ?_⟩
    obtain ⟨oe, ov, hoe, o1, o2, o3⟩ : ∃ oe ov, s'.heap.get? (hp.objs.size + 1) = some oe ∧ oe.cls = .ref C ∧ oe.dict = some d ∧ oe.data = .fields ov := by
      obtain ⟨t0, h0⟩ := exo_at J.hok ea
      exact ⟨_, _, h0, rfl, rfl, rfl⟩
    have nda : d ≠ hp.objs.size + 1 := fun z => by
      obtain ⟨mA, ⟨o, es, ep, e1, e2, _⟩, _⟩ := exd_at J.hok ed
      rw [z, hoe] at e1
      cases e1
      rw [o3] at e2
      cases e2
    have J1 := J.write (t' := s'.toks) (x := hp.objs.size + 1) (e := hp.objs.size + 1) (h' := s'.heap) (o := pinO (hp.objs.size + 1) oe) (by rw [ea]; exact True.intro) (.inl rfl) (fun _ _ _ z => z) ⟨_, hoe⟩ (pinO_ok hoe)
    have ed1 : (L2.upd H2 (hp.objs.size + 1) (pinO (hp.objs.size + 1) oe)) d = some (exd d fs) := (upd_ne nda).trans ed
    obtain ⟨mA, hns, rel⟩ := exd_at J1.hok ed1
    obtain ⟨_, es2, ep2, at2, r3⟩ := id hns
    have J2 := J1.write (t' := s'.toks) (x := d) (e := d) (h' := s'.heap) (o := .xd fs) (by rw [ed1]; exact True.intro) (.inl rfl) (fun _ _ _ z => z) ⟨_, at2⟩ ⟨mA, hns, rel⟩
    refine ⟨.ref (hp.objs.size + 1), _, J2, rfl, q2 _ (fun b n1 n2 => ?_) ⟨oe, ov, d, ?_, o1, o2, o3, upd_same⟩⟩
    · rw [upd_ne n2, upd_ne n1]
    · rw [upd_ne nda.symm, upd_same]
variable {e : Expr} {es : List Expr} {kws : List Keyword} {t tk : TA} {p pos : Pos}
/-- C(e, ..) -/
theorem pe_exV (D : ExcDef X CX B newId initId tl x C fI k fd ps sp) (hb : KBn X.K fd ps (n + 1) [] g gV) (ha : PA X (e :: es) t)
    (hdb : (x == ("__debug__" : Str)) = false := by decide) (he : starEach (e :: es) X.env = (false, eval e X.env) :: starEach es X.env := by rfl) (hpl : (backTo pos (starEach es X.env)).any (·.1) = false := by rfl) :
    PE X (.Call (.Name x p) (e :: es) [] pos) (tExV C n 0 sp gV t tNil) := by
  refine ⟨fun pins s σ H Q I h => ?_⟩
  refine wpAny_Call_Name_kw (ld_glob I D.hg D.hm ?_ hdb)
  refine PySem.W.callWith_K (h₀ := X.base) I.ok.mod.kin D.T.kC (thn (ha.run pos pins s σ H _ I h) fun us s1 ⟨vs, H1, I1, r1, l1, l2, few, q⟩ => ⟨I1.kIn, ?_⟩) he hpl
  exact run_excV (ws := []) D hb I1 r1 .nil l1 l2 few q
/-- C() -/
theorem pe_exV0 (D : ExcDef X CX B newId initId tl x C fI k fd ps sp) (hb : KBn X.K fd ps 1 [] g gV) (hdb : (x == ("__debug__" : Str)) = false := by decide) : PE X (.Call (.Name x p) [] [] pos) (tExV C 0 0 sp gV tNil tNil) := by
  refine ⟨fun pins s σ H Q I h => ?_⟩
  refine wpAny_Call_Name_kw (ld_glob I D.hg D.hm ?_ hdb)
  obtain ⟨l1, l2, few, q⟩ := h
  exact PySem.W.callWith_K0 I.kIn D.T.kC (run_excV (us := []) (ws := []) D hb I .nil .nil l1 l2 few q)
/-- C(k = v, ..) -/
theorem pe_exVZ (D : ExcDef X CX B newId initId tl x C fI k fd ps sp) (hb : KBn X.K fd ps 1 ks g gV) (hkw : PK X kws tk) (hall : (backToKw pos (keywordEach kws X.env)).all (·.1.isSome) = true := by rfl) (hks : (backToKw pos (keywordEach kws X.env)).filterMap (·.1) = ks := by rfl)
    (hdb : (x == ("__debug__" : Str)) = false := by decide) (hpl : ((backTo pos (starEach [] X.env)).any (·.1) || (backToKw pos (keywordEach kws X.env)).any (·.1.isNone)) = false := by rfl) :
    PE X (.Call (.Name x p) [] kws pos) (tExV C 0 ks.length sp gV tNil tk) := by
  refine ⟨fun pins s σ H Q I h => ?_⟩
  refine wpAny_Call_Name_kw (ld_glob I D.hg D.hm ?_ hdb)
  refine PySem.W.callWith_KW0 (h₀ := X.base) I.ok.mod.kin D.T.kC hall (thn (hkw.run pos pins s σ H _ I h) fun ws s2 ⟨zs, H2, I2, rz, l1, l2, few, q⟩ => ⟨I2.kIn, ?_⟩) hpl
  rw [hks]
  exact run_excV D hb I2 .nil rz l1 l2 few q
/-- C(e, .., k = v, ..) -/
theorem pe_exVN (D : ExcDef X CX B newId initId tl x C fI k fd ps sp) (hb : KBn X.K fd ps (n + 1) ks g gV) (ha : PA X (e :: es) t) (hkw : PK X kws tk) (hall : (backToKw pos (keywordEach kws X.env)).all (·.1.isSome) = true := by rfl) (hks : (backToKw pos (keywordEach kws X.env)).filterMap (·.1) = ks := by rfl)
    (hdb : (x == ("__debug__" : Str)) = false := by decide) (he : starEach (e :: es) X.env = (false, eval e X.env) :: starEach es X.env := by rfl) (hpl : ((backTo pos (starEach (e :: es) X.env)).any (·.1) || (backToKw pos (keywordEach kws X.env)).any (·.1.isNone)) = false := by rfl) :
    PE X (.Call (.Name x p) (e :: es) kws pos) (tExV C n ks.length sp gV t tk) := by
  refine ⟨fun pins s σ H Q I h => ?_⟩
  refine wpAny_Call_Name_kw (ld_glob I D.hg D.hm ?_ hdb)
  refine PySem.W.callWith_KW (h₀ := X.base) I.ok.mod.kin D.T.kC hall (thn (ha.run pos pins s σ H _ I h) fun us s1 ⟨vs, H1, I1, r, q⟩ => ?_) hpl he
  refine thn (hkw.run pos pins s1 σ H1 _ I1 q) fun ws s2 ⟨zs, H2, I2, rz, l1, l2, few, q2⟩ => ⟨I2.kIn, ?_⟩
  rw [hks]
  exact run_excV D hb I2 r rz l1 l2 few q2
end
end LK

set_option Elab.async false
set_option linter.all false
set_option maxRecDepth 100000
set_option maxHeartbeats 4000000
namespace LK
open PySem PySem.Spec PyProof.Rows L2
open L2H (RoomH PinOk cxH inv_startH roomH_of)
/-! ### a def that is handed the exception of the caller's suite -/
structure FnE (P : Program) (w : World) (K : PySem.W.Frag) (mg : Str → Option Value) (base : Heap) (k : Nat) (f : Addr) (fd : FuncData) (ps : List Str) (sp : Addr × Obj → Sp) : Prop where
  len : ∀ p vs H Q E, sp p vs H Q E → vs.length = ps.length
  run : ∀ (A : Around) (outer : List Env) (s : Shared) (H : Hp) (args : Args) (us : List Value) (vs : List V) (Q : VK) (E : XK) (p : Addr × Obj), RoomH k A → PinOk outer H s p → Env0 P w K mg base A outer s H → BindsTo s fd args (ps.zip us) → Vals vs us → sp p vs H Q E →
    codeAny (model P w) A (.call (.ref f) args) (CR CX0 outer P w H s Q E) s
theorem Fun.okE {P : Program} {w : World} {K : PySem.W.Frag} {mg : Str → Option Value} {base : Heap} {x qual : Str} {st : Stmt} {f : Addr} {fd : FuncData} {N ps : List Str} {k : Nat} {sp : Addr × Obj → Sp} (F : Fun K x qual st f fd) (S : FnScope N ps (defScope st))
    (len : ∀ p vs H Q E, sp p vs H Q E → vs.length = ps.length)
    (hbody : ∀ (cdv : Value) (A : Around) (outer : List Env) (s : Shared) (H : Hp) (vs : List V) (Q : VK) (E : XK) (p : Addr × Obj), sp p vs H Q E →
      ∃ t, PSs (cxH CX0 P w K mg base N qual (defScope st) f cdv A outer s H E p) (defBody st) t ∧ t { nx := fun _ H' => Q .non H', rt := Q } (L2.start N vs) H) : FnE P w K mg base (k + 1) f fd ps sp := by
  obtain ⟨oc, od, kV, doc, pm, an, cdv, ct, osl, rfl, lk, hcd⟩ := F.ex
  refine ⟨len, fun A outer s H args us vs Q E p hr hpin e0 hb r hsp => ?_⟩
  have many := len _ _ _ _ _ hsp
  have inS : K.In s.heap := e0.mod.kin.keeps fun b o z => (e0.bs b o z).1
  have free := e0.mod.nolimit.keeps fun b o z => (e0.bs b o z).1
  refine codeAny_call_function hr.depth (inS _ _ lk) rfl S.co S.gen rfl (PySem.W.codeRec_of inS hcd) (hb _ _ _ _ ?_)
  refine wpAny_newFunctionEnv_cells S.kind (fun y hy => ?_) fun env he s1 x => ?_
  · obtain ⟨n, v⟩ := y
    exact (S.par n (List.of_mem_zip hy).1).imp id fun q => ⟨q, PySem.W.cellsFrom_some _ _ _ (.inl q)⟩
  subst he
  refine ⟨free.keeps x.toInCall.keep, codeAny_func ?_⟩
  obtain ⟨t, ht, hq⟩ := hbody cdv A outer s H vs Q E p hsp
  have I : Inv (cxH CX0 P w K mg base N qual (defScope st) f cdv A outer s H E p) [] (L2.start N vs) H s1 := inv_startH S hpin e0 many r x
  refine wpAny_mono (ht.run [] s1 (L2.start N vs) H _ I hq) (fun fl s' hs => ?_) fun e s' hs => hs
  match fl, hs with
  | .ret u, ⟨v, σ', H', J, rv, q⟩ => exact ⟨v, H', J.os, J.bare, J.base, J.hok, rv, q⟩
  | .next, ⟨σ', H', J, q⟩ => exact ⟨.non, H', J.os, J.bare, J.base, J.hok, rfl, q⟩
  | .brk, ⟨_, _, _, q⟩ => exact q.elim
  | .cont, ⟨_, _, _, q⟩ => exact q.elim
/-- f(e, ..) in a suite, one of the values is the exception p -/
theorem pe_callE {X : Cx} {k : Nat} {f : Addr} {fd : FuncData} {ps : List Str} {sp : Addr × Obj → Sp} {sp' : Sp} {E : XK} {x : Str} {np pos : Pos} {e : Expr} {es : List Expr} {t : TA} {p : Addr × Obj} (imp : ∀ vs H Q E, sp' vs H Q E → sp p vs H Q E) (F : FnE X.prog X.w X.K X.mg X.base k f fd ps sp) (hr : RoomH k X.A) (hp : p ∈ X.pn) (hg : Gl X x) (hm : X.mg x = some (.ref f))
    (hk : PySem.W.keepIn X.K (.ref f) = true) (hb : Binds X.K fd ps []) (ha : PA X (e :: es) t) (hdb : (x == ("__debug__" : Str)) = false := by decide) (he : starEach (e :: es) X.env = (false, eval e X.env) :: starEach es X.env := by rfl) (hpl : (backTo pos (starEach es X.env)).any (·.1) = false := by rfl) :
    PE X (.Call (.Name x np) (e :: es) [] pos) (tCall sp' [] E t) := by
  refine ⟨fun pins s σ H Q I h => ?_⟩
  refine wpAny_Call_Name_kw (ld_glob I hg hm ?_ hdb)
  refine PySem.W.callWith_K (h₀ := X.base) I.ok.mod.kin hk (thn (ha.run pos pins s σ H _ I h) fun us s1 ⟨vs, H1, I1, r, q⟩ => ⟨I1.kIn, ?_⟩) he hpl
  have q2 : sp' (vs ++ []) H1 Q E := q
  rw [List.append_nil] at q2
  replace q := imp _ _ _ _ q2
  have many : us.length = ps.length := r.length.symm.trans (F.len _ _ _ _ _ q)
  have b := hb s1 us I1.kIn (by rw [List.append_nil]; exact many)
  rw [List.append_nil] at b
  have P1 := I1.pin p (List.mem_append_left _ hp)
  have hpin : PinOk X.stack H1 s1 p := ⟨P1.1, P1.2.1, fun z => (List.mem_cons.mp (I1.stkSub p.1 z)).elim P1.2.2.1 P1.2.2.2.1, P1.2.2.2.2⟩
  refine wpAny_call (codeAny_mono (F.run X.A X.stack s1 H1 ⟨us, []⟩ us vs Q E p hr hpin I1.env0 b r q) fun r s' hq => ?_)
  match r, hq with
  | .error _, z => exact z.elim
  | .ok (.ret _), z => exact I1.after z
  | .ok .next, z => exact z.elim
  | .ok .brk, z => exact z.elim
  | .ok .cont, z => exact z.elim
/-! ### several except clauses that name the exception -/
abbrev Suites := List (Value × (Addr → Value → Option Addr → TS))
def offD (i : Nat) (D : Ends) : Ends := { nx := fun σ H => D.nx (σ.set i none) H, rt := D.rt, bk := fun σ H => D.bk (σ.set i none) H, ct := fun σ H => D.ct (σ.set i none) H }
def wSuites (K : PySem.W.Frag) (Wout : WX) (D : Ends) (i : Nat) : Suites → WX
  | [] => Wout
  | (c, ts) :: r => fun cls d σ H => ∃ b, PySem.W.exmOne K cls c = some b ∧ (b = false → wSuites K Wout D i r cls d σ H) ∧ (b = true → ∀ a, H a = none → ts a cls d (offD i D) (σ.set i (some (.ref a))) H)
inductive SuitesOk (X : Cx) (n : Str) : List ExceptHandler → Suites → Prop
  | nil : SuitesOk X n [] []
  | cons {x : Str} {c : Value} {ts : Addr → Value → Option Addr → TS} {b₀ : Stmt} {suite : List Stmt} {np hpos : Pos} {hds : List ExceptHandler} {l : Suites} (named : Names X x c)
      (body : ∀ (a : Addr) (oe : Obj) (cls : Value) (d : Option Addr) (pn : List (Addr × Obj)), Zc cls d oe → (∃ vs, oe.data = .fields vs) → PSs (X.suite a ((a, oe) :: pn)) (b₀ :: suite) (ts a cls d)) (rest : SuitesOk X n hds l) :
      SuitesOk X n (.ExceptHandler (some (.Name x np)) (some n) (b₀ :: suite) hpos :: hds) ((c, ts) :: l)
section
variable {X : Cx} {n : Str} {i : Nat} {body : List Stmt} {h₀ : ExceptHandler} {hds : List ExceptHandler} {l : Suites} {pos : Pos} {tb : WX → TS} {Wout : WX}
theorem ps_try_suites (hs : X.stack = X.env :: X.outer) (hf : X.env.frame = some X.env.locals) (hN : X.N.Nodup) (hi : X.N[i]? = some n) (hln : X.env.kindOf n = some .local) (tk : Takes X Wout)
    (hb : ∀ (W : WX) (pn : List (Addr × Obj)) (xe : Value → Shared → Prop), Takes (X.tr pn xe) W → PSs (X.tr pn xe) body (tb W)) (hh : SuitesOk X n (h₀ :: hds) l) :
    PS X (.Try body (h₀ :: hds) [] [] pos) (fun D σ H => tb (wSuites X.K Wout D i l) D σ H) := by
  refine ⟨fun pins s σ H D I h => ?_⟩
  have ok := I.ok
  have fr1 : X.A.frames = some (X.env :: X.outer) := by rw [ok.frames, hs]
  refine wpAny_Try_except ?_
  refine wpAny_mono ((hb (wSuites X.K Wout D i l) (X.pn ++ pins) _ (fun u s' xx => ?_)).run [] s σ H D (I.toTry (fun e s₁ => wpAny (model X.prog X.w) X.A (noteFrame e X.env) (fun _ s₂ => wpAny (model X.prog X.w) X.A (setFlight e none) (fun _ s₃ =>
    wpAny (model X.prog X.w) X.A (handleBy e X.env (h₀ :: hds)) (SP X pins D) X.xe s₃) X.xe s₂) X.xe s₁)) h) (fun f s1 hsp => ?_) (fun e s1 he => he)
  · obtain ⟨a, B, sI, pins', σ', H', cls, d, rfl, J', nb, up, sky, na, os, ag, wish⟩ := xx
    have J : Inv X pins σ' H' sI := J'.ofTry ok
    have sky2 : Sky B (X.env :: X.outer) a (Zc cls d) X.env.locals s'.heap := by rw [← hs]; exact sky
    show wpAny (model X.prog X.w) X.A (noteFrame (.ref a) X.env) _ _ _
    refine Sky.land Zc.steady fr1 hf sky2 fun h3 fl3 up3 => ?_
    have J3 : Inv X pins σ' H' { s' with heap := h3 } := J.landed nb fl3.1 (up.trans up3) os ag
    obtain ⟨oe3, vs3, he3, hz3, hd3⟩ := fl3.there
    have off : a ∉ frs (X.env :: X.outer) := fun hm => by
      obtain ⟨_, o', e', hnf⟩ := fl3.2.2.1.mem hm
      rw [he3] at e'
      cases e'
      exact hnf _ hd3
    have nL : a ≠ X.env.locals := fun z => off (List.mem_filterMap.mpr ⟨X.env, List.mem_cons_self, by rw [hf, z]⟩)
    have nF : a ∉ X.fs := fun hm => by
      obtain ⟨e, m, q⟩ := List.mem_filterMap.mp hm
      exact off (List.mem_filterMap.mpr ⟨e, List.mem_cons_of_mem _ m, q⟩)
    have S3 := J3.suite he3 hd3 na nL nF
    have LT : PySem.W.Looks (model X.prog X.w) h3 (typeOf (.ref a)) cls := fun A Q E s k q => wpAny_typeOf_ref (k _ _ he3) (by rw [hz3.1]; exact q)
    have go : ∀ {hs2 : List ExceptHandler} {l2 : Suites}, SuitesOk X n hs2 l2 → wSuites X.K Wout D i l2 cls d σ' H' → wpAny (model X.prog X.w) X.A (handleBy (.ref a) X.env hs2) (SP X pins D) X.xe { s' with heap := h3 } := by
      intro hs2 l2 hk
      induction hk with
      | nil =>
        intro wish
        refine wpAny_handleBy_nil ?_
        obtain ⟨k1, k2, k3, oe, vs, T, oT, ts', he, hz, hd, h1, hr⟩ := id fl3
        unfold PySem.passOn
        refine wpAny_bind (wpAny_field he hd h1 ?_)
        rw [if_neg (show ¬ ((Value.ref T == Value.none) = true) from by simp)]
        have fin : wpAny (model X.prog X.w) X.A (setFlight (.ref a) X.env.frame) (fun _ s4 => wpAny (model X.prog X.w) X.A (throw (.ref a) : Sem Flow) (SP X pins D) X.xe s4) X.xe { s' with heap := h3 } := by
          rw [hf]
          exact HandSPX.setFlight_upZ fl3 fun h4 hh4 up4 => wpAny_throw (tk _ _ ⟨a, B, sI, pins, σ', H', cls, d, rfl, J, nb, (up.trans up3).trans up4, .inr (.inr (by rw [hs]; exact hh4)), na, os, ag, wish⟩)
        first
          | exact wpAny_bind (wpAny_pure (wpAny_bind fin))
          | exact wpAny_bind fin
      | @cons x c ts b₀ suite np hpos hs3 l3 named body rest ih =>
        intro wish
        obtain ⟨b, hb1, hno, hyes⟩ := wish
        have LM := PySem.W.exm_one (M := model X.prog X.w) (J3.kIn) LT hb1
        refine wpAny_handleBy_cons (codeAny_handlers_test ?_) (by intro q; cases q)
        have test : ∀ {Q : Value → Shared → Prop} {E : Value → Shared → Prop}, Q c { s' with heap := h3 } → wpAny (model X.prog X.w) (X.A.mark (some (.ref a))) (eval (.Name x np) X.env) Q E { s' with heap := h3 } := fun {Q E} q => by
          obtain ⟨hg, hdbg, hm | ⟨hm, hv, hnn⟩⟩ := named
          · exact ld_glob (X := X.suite a ((a, oe3) :: (X.pn ++ pins))) S3 hg hm q hdbg
          · exact ld_blt (X := X.suite a ((a, oe3) :: (X.pn ++ pins))) S3 hg hm hv q hnn hdbg
        refine test (LM.here ?_)
        match b, hno, hyes with
        | false, hno, _ =>
          show wpAny _ X.A (handleBy (.ref a) X.env hs3) _ _ _
          exact ih (hno rfl)
        | true, _, hyes =>
          refine codeAny_handlers_suite_as ?_
          refine HandSPX.lands_againZ fl3 fun h4 fl4 up4 => ?_
          obtain ⟨oe4, vs4, he4, hz4, hd4⟩ := fl4.there
          have J4 : Inv X pins σ' H' { s' with heap := h4 } := J.landed nb fl4.1 ((up.trans up3).trans up4) os ag
          refine store_ok (X := X.suite a ((a, oe4) :: (X.pn ++ pins))) (v := .ref a) (J4.suite he4 hd4 na nL nF) hN hi (.inl hln) rfl (fun s5 S5 => ?_) (.inr hln)
          refine wpAny_mono ((body a oe4 cls d (X.pn ++ pins) hz4 ⟨_, hd4⟩).run [] s5 _ H' _ S5 (hyes rfl a na)) (fun f s6 hsp => ?_) (fun _ _ z => False.elim z)
          have leave : ∀ {σ6 : L2.St} {H6 : Hp} {Q : Shared → Prop}, Inv (X.suite a ((a, oe4) :: (X.pn ++ pins))) [] σ6 H6 s6 → (∀ s7, Inv X pins (σ6.set i none) H6 s7 → Q s7) →
              wpAny (model X.prog X.w) X.A (do bindName X.env n .none; unbindBehindTheSuite X.env n hpos) (fun _ s7 => Q s7) X.xe s6 := fun {σ6 H6 Q} S6 hq => gone_ok (S6.unsuite ok) hN hi hln hq
          match f, hsp with
          | .next, ⟨_, _, S6, q6⟩ => exact leave S6 fun s7 J7 => ⟨_, _, J7, q6⟩
          | .brk, ⟨_, _, S6, q6⟩ => exact leave S6 fun s7 J7 => ⟨_, _, J7, q6⟩
          | .cont, ⟨_, _, S6, q6⟩ => exact leave S6 fun s7 J7 => ⟨_, _, J7, q6⟩
          | .ret u, ⟨_, _, _, S6, r6, q6⟩ => exact leave S6 fun s7 J7 => ⟨_, _, _, J7, r6, q6⟩
    exact go hh wish
  · match f, hsp with
    | .next, ⟨_, _, J2, q⟩ => exact wpAny_execs_nil ⟨_, _, J2.ofTry ok, q⟩
    | .brk, ⟨_, _, J2, q⟩ => exact ⟨_, _, J2.ofTry ok, q⟩
    | .cont, ⟨_, _, J2, q⟩ => exact ⟨_, _, J2.ofTry ok, q⟩
    | .ret u, ⟨_, _, _, J2, r, q⟩ => exact ⟨_, _, _, J2.ofTry ok, r, q⟩
end
/-! ### raise C() -/
def tMkO0 (C : Addr) (sp : Sp) : L2.St → Hp → XK → Prop := fun _ H Q => ∀ a, H a = none → sp [.ref a] (L2.upd H a (exo a C none))
  (fun v H2 => v = .non ∧ ∃ (d : Addr) (fs : List (Str × V)), H2 a = some (exo a C (some d)) ∧ H2 d = some (exd d fs) ∧ H d = none ∧ Q (.ref C) (some d) (L2.upd (del H2 a) d (.xd fs))) (fun _ _ _ => False)
theorem pmk_ex0 {X : Cx} {CX : CXT} {B newId initId : String} {tl : List Value} {x : Str} {C fI : Addr} {k : Nat} {fd : FuncData} {ps : List Str} {sp : Sp} {p pos : Pos} (D : ExcDef X CX B newId initId tl x C fI k fd ps sp) (hb : Binds X.K fd ps []) (hdb : (x == ("__debug__" : Str)) = false := by decide) :
    PMk X (.Call (.Name x p) [] [] pos) (tMkO0 C sp) := by
  intro pins s σ H Q I h
  obtain ⟨nm, q, N, bs, bm, sn, sub, ab, col, dd, k0, k1, k2, k3, k5, hC, hbm⟩ := D.T.cls
  refine wpAny_Call_Name_kw (ld_glob I D.hg D.hm ?_ hdb)
  refine PySem.W.callWith_K0 I.kIn D.T.kC ?_
  show wpAny _ _ (call (.ref C) []) _ _ _
  obtain ⟨hp, g, dr, tk, os⟩ := s
  generalize hA : hp.objs.size + 1 = a at *
  have hsz : hp.objs.size ≤ a := by rw [← hA]; exact Nat.le_succ _
  have hq := h a (I.hok.fresh hsz)
  have at_ : ((hp.push (PySem.W.kdv_tup [])).push (PySem.HandSPX.excO C hp.objs.size)).get? a = some (PySem.HandSPX.excO C hp.objs.size) := by rw [← hA]; heap_get
  have I2 : Inv X pins σ (L2.upd H a (exo a C none)) ⟨(hp.push (PySem.W.kdv_tup [])).push (PySem.HandSPX.excO C hp.objs.size), g, dr, tk, os⟩ :=
    I.laid (t' := tk) (a := a) (o := exo a C none) (fun b o e => Heap.get?_push_of_some _ (Heap.get?_push_of_some _ e)) hsz (exo_ok at_)
  have r2 : Vals [V.ref a] [Value.ref a] := .cons rfl .nil
  have b := hb _ [Value.ref a] I2.kIn (r2.length.symm.trans (D.F1.len _ _ _ _ hq))
  have run := D.F1.run _ X.stack _ _ ⟨[Value.ref a], []⟩ [Value.ref a] _ _ (fun _ _ _ => False) (D.hr.make C [] []) (I2.env0.make C [] []) b r2 hq
  subst hA
  refine wpAny_call (PySem.HandSPX.call_own D.F.ex (fun Y => hbm.contains Y) (I.kIn _ _ hC) (PySem.W.looks_findIn I.kIn D.iC) (fun self => PySem.W.bind_fn I.kIn self D.tI) (Nat.zero_le _) (codeAny_mono run fun r s' hq' => ?_))
  match r, hq' with
  | .error er, z => exact D.hx pins σ _ _ er s' I2 z
  | .ok .next, z => exact z.elim
  | .ok .brk, z => exact z.elim
  | .ok .cont, z => exact z.elim
  | .ok (.ret u), ⟨v, H2, os2, bare2, un2, hok2, rv, ev, d, fs, ea, ed, hd1, q2⟩ =>
    subst ev
    exact ⟨rv, mk_end (raises_own D.T.exC D.T.tyC) I hsz (fun b o e => Heap.get?_push_of_some _ (Heap.get?_push_of_some _ e)) un2 hok2 os2 bare2 ea ed hd1 q2⟩
end LK

set_option Elab.async false
set_option linter.all false
set_option maxRecDepth 100000
namespace LK
open PySem PySem.Spec PyProof.Rows L2
def top (i : Nat) : Stmt := PySem.Challenge.pw_lookingnets_k00_errors_told.main.body.getD i (.Pass ⟨0, 0, 0, 0⟩)
local macro_rules | `(tactic| walk_at "rs") => `(tactic| simp only [cxK, cxNK, tCallZ, tAsg, tOp, rI0, rS0, rB0, rI, rU, tUn, rEq, rNe, rIxL, rIxT, rIxS, rSetL, rSlLU, rSlS, rSlU, rCatL, rCatU, rRepL, rIn, tVar, tC, gName, gSub, tIfS, tTest, tB, tAnd, tOr, tNot, tNotV, tAndV, tOrV, tIf, tCall, tCons, tNil, tCB, tDrop, tRet, tRetN, tNext, tLstU, tTupU, tM0, tM1, tPar, tPar3, tAug, ipI, tBM, tBM0, rAppend, rPop, tBreak, tCont, tChain, tSl, tPart, tNoPart, L2.start, List.map, List.length_cons, List.length_nil, List.replicate, List.cons_append, List.nil_append, List.append_nil, List.getElem?_cons_zero, List.getElem?_cons_succ, List.set_cons_zero, List.set_cons_succ, Option.some.injEq, V.int.injEq, V.ref.injEq, V.str.injEq, V.bl.injEq, exists_eq_left', exists_eq_left, exists_and_left, decide_eq_true_eq, List.cons.injEq, and_true, true_and, scal, tExV, tEf, rIsEr, tDGet2, rIxLT, Bool.not_eq_true', decide_eq_false_iff_not, Nat.zero_add, Nat.reduceAdd, Nat.reduceSub, reduceCtorEq, false_and, exists_false, false_or, or_false, CPow, CMul, CDiv, Int.reduceToNat, ↓reduceIte, wipe, sw, List.nil_append, List.singleton_append])
local macro_rules | `(tactic| walk_at "st") => `(tactic| (refine seq_op fun N hN => ?_; walk_at "rs"))
local macro_rules | `(tactic| walk_at "sd") => `(tactic| first | assumption | decide | omega)
local macro_rules | `(tactic| walk_at "rd") => `(tactic| repeat (first
  | refine ⟨_, SqL.of (by assumption), ?_⟩ | refine ⟨_, SqL.of upd_same, ?_⟩ | refine ⟨_, .inl (SqL.of (by assumption)), ?_⟩ | refine ⟨_, (by assumption : _ = some (HO.lst _)), ?_⟩ | refine ⟨_, upd_same, ?_⟩
  | refine ⟨_, rfl, ?_⟩ | refine And.intro (by walk_at "sd") ?_))

abbrev s_BadValue : Stmt := inClass (top 4) 0
abbrev N_BadValue : List Str := ["self", "value"]
theorem sc_BadValue : FnScope N_BadValue ["self", "value"] (defScope s_BadValue) := ⟨rfl, rfl, rfl, by decide +kernel, rfl, by decide +kernel, by decide +kernel⟩
abbrev s_BadLine : Stmt := inClass (top 5) 0
abbrev N_BadLine : List Str := ["self", "line", "why"]
theorem sc_BadLine : FnScope N_BadLine ["self", "line", "why"] (defScope s_BadLine) := ⟨rfl, rfl, rfl, by decide +kernel, rfl, by decide +kernel, by decide +kernel⟩
abbrev s_NoText : Stmt := inClass (top 6) 0
abbrev N_NoText : List Str := ["self", "at"]
theorem sc_NoText : FnScope N_NoText ["self", "at"] (defScope s_NoText) := ⟨rfl, rfl, rfl, by decide +kernel, rfl, by decide +kernel, by decide +kernel⟩
abbrev s_TooLong : Stmt := inClass (top 7) 0
abbrev N_TooLong : List Str := ["self", "length"]
theorem sc_TooLong : FnScope N_TooLong ["self", "length"] (defScope s_TooLong) := ⟨rfl, rfl, rfl, by decide +kernel, rfl, by decide +kernel, by decide +kernel⟩
abbrev s_BadNet : Stmt := inClass (top 8) 0
abbrev N_BadNet : List Str := ["self", "where"]
theorem sc_BadNet : FnScope N_BadNet ["self", "where"] (defScope s_BadNet) := ⟨rfl, rfl, rfl, by decide +kernel, rfl, by decide +kernel, by decide +kernel⟩
abbrev s_BadText : Stmt := inClass (top 9) 0
abbrev N_BadText : List Str := ["self", "line"]
theorem sc_BadText : FnScope N_BadText ["self", "line"] (defScope s_BadText) := ⟨rfl, rfl, rfl, by decide +kernel, rfl, by decide +kernel, by decide +kernel⟩
abbrev s_BadChart : Stmt := inClass (top 10) 0
abbrev N_BadChart : List Str := ["self", "where"]
theorem sc_BadChart : FnScope N_BadChart ["self", "where"] (defScope s_BadChart) := ⟨rfl, rfl, rfl, by decide +kernel, rfl, by decide +kernel, by decide +kernel⟩
abbrev s_Broken : Stmt := inClass (top 11) 0
abbrev N_Broken : List Str := ["self", "line", "word"]
theorem sc_Broken : FnScope N_Broken ["self", "line", "word"] (defScope s_Broken) := ⟨rfl, rfl, rfl, by decide +kernel, rfl, by decide +kernel, by decide +kernel⟩
abbrev s_BadChange : Stmt := inClass (top 12) 0
abbrev N_BadChange : List Str := ["self", "what"]
theorem sc_BadChange : FnScope N_BadChange ["self", "what"] (defScope s_BadChange) := ⟨rfl, rfl, rfl, by decide +kernel, rfl, by decide +kernel, by decide +kernel⟩
abbrev s_BadPair : Stmt := inClass (top 13) 0
abbrev N_BadPair : List Str := ["self", "what"]
theorem sc_BadPair : FnScope N_BadPair ["self", "what"] (defScope s_BadPair) := ⟨rfl, rfl, rfl, by decide +kernel, rfl, by decide +kernel, by decide +kernel⟩
abbrev s_BadDeed : Stmt := inClass (top 14) 0
abbrev N_BadDeed : List Str := ["self", "at"]
theorem sc_BadDeed : FnScope N_BadDeed ["self", "at"] (defScope s_BadDeed) := ⟨rfl, rfl, rfl, by decide +kernel, rfl, by decide +kernel, by decide +kernel⟩
abbrev s_Twice : Stmt := inClass (top 15) 0
abbrev N_Twice : List Str := ["self", "name"]
theorem sc_Twice : FnScope N_Twice ["self", "name"] (defScope s_Twice) := ⟨rfl, rfl, rfl, by decide +kernel, rfl, by decide +kernel, by decide +kernel⟩
abbrev s_NoName : Stmt := inClass (top 16) 0
abbrev N_NoName : List Str := ["self", "name"]
theorem sc_NoName : FnScope N_NoName ["self", "name"] (defScope s_NoName) := ⟨rfl, rfl, rfl, by decide +kernel, rfl, by decide +kernel, by decide +kernel⟩
abbrev s_TooMany : Stmt := inClass (top 17) 0
abbrev N_TooMany : List Str := ["self", "what", "count"]
theorem sc_TooMany : FnScope N_TooMany ["self", "what", "count"] (defScope s_TooMany) := ⟨rfl, rfl, rfl, by decide +kernel, rfl, by decide +kernel, by decide +kernel⟩
abbrev s_NothingLeft : Stmt := inClass (top 18) 0
abbrev N_NothingLeft : List Str := ["self"]
theorem sc_NothingLeft : FnScope N_NothingLeft ["self"] (defScope s_NothingLeft) := ⟨rfl, rfl, rfl, by decide +kernel, rfl, by decide +kernel, by decide +kernel⟩

abbrev s__law_bag : Stmt := top 20
abbrev N__law_bag : List Str := ["script", "mixed", "cell"]
theorem sc__law_bag : FnScope N__law_bag ["script"] (defScope s__law_bag) := ⟨rfl, rfl, rfl, by decide +kernel, rfl, by decide +kernel, by decide +kernel⟩

abbrev s__law_draw : Stmt := top 21
abbrev N__law_draw : List Str := ["bag", "size", "cell", "digit"]
theorem sc__law_draw : FnScope N__law_draw ["bag", "size"] (defScope s__law_draw) := ⟨rfl, rfl, rfl, by decide +kernel, rfl, by decide +kernel, by decide +kernel⟩

abbrev s__law_of : Stmt := top 22
abbrev N__law_of : List Str := ["bag", "things"]
theorem sc__law_of : FnScope N__law_of ["bag", "things"] (defScope s__law_of) := ⟨rfl, rfl, rfl, by decide +kernel, rfl, by decide +kernel, by decide +kernel⟩

abbrev s__law_like : Stmt := top 23
abbrev N__law_like : List Str := ["got", "due", "one", "two"]
theorem sc__law_like : FnScope N__law_like ["got", "due"] (defScope s__law_like) := ⟨rfl, rfl, rfl, by decide +kernel, rfl, by decide +kernel, by decide +kernel⟩

abbrev s__law_any : Stmt := top 24
abbrev N__law_any : List Str := ["bag", "deep", "way", "far", "some", "k"]
theorem sc__law_any : FnScope N__law_any ["bag", "deep"] (defScope s__law_any) := ⟨rfl, rfl, rfl, by decide +kernel, rfl, by decide +kernel, by decide +kernel⟩

abbrev s__law_one : Stmt := top 25
abbrev N__law_one : List Str := ["pick", "one", "way"]
theorem sc__law_one : FnScope N__law_one ["pick", "one", "way"] (defScope s__law_one) := ⟨rfl, rfl, rfl, by decide +kernel, rfl, by decide +kernel, by decide +kernel⟩

abbrev s__law_made : Stmt := top 26
abbrev N__law_made : List Str := ["pick", "one", "two", "way"]
theorem sc__law_made : FnScope N__law_made ["pick", "one", "two", "way"] (defScope s__law_made) := ⟨rfl, rfl, rfl, by decide +kernel, rfl, by decide +kernel, by decide +kernel⟩

abbrev s__law_held : Stmt := top 27
abbrev N__law_held : List Str := ["pick", "error"]
theorem sc__law_held : FnScope N__law_held ["pick", "error"] (defScope s__law_held) := ⟨rfl, rfl, rfl, by decide +kernel, rfl, by decide +kernel, by decide +kernel⟩

abbrev s__law_kinds : Stmt := top 28
abbrev N__law_kinds : List Str := ["error", "some", "pair"]
theorem sc__law_kinds : FnScope N__law_kinds ["error"] (defScope s__law_kinds) := ⟨rfl, rfl, rfl, by decide +kernel, rfl, by decide +kernel, by decide +kernel⟩

abbrev s__law_raise : Stmt := top 29
abbrev N__law_raise : List Str := ["pick", "one", "two"]
theorem sc__law_raise : FnScope N__law_raise ["pick", "one", "two"] (defScope s__law_raise) := ⟨rfl, rfl, rfl, by decide +kernel, rfl, by decide +kernel, by decide +kernel⟩

abbrev s__law_above : Stmt := top 30
abbrev N__law_above : List Str := ["pick", "some"]
theorem sc__law_above : FnScope N__law_above ["pick"] (defScope s__law_above) := ⟨rfl, rfl, rfl, by decide +kernel, rfl, by decide +kernel, by decide +kernel⟩

abbrev s__law_due : Stmt := top 31
abbrev N__law_due : List Str := ["pick", "tops"]
theorem sc__law_due : FnScope N__law_due ["pick"] (defScope s__law_due) := ⟨rfl, rfl, rfl, by decide +kernel, rfl, by decide +kernel, by decide +kernel⟩

abbrev s__law_caught : Stmt := top 32
abbrev N__law_caught : List Str := ["pick", "one", "two", "error"]
theorem sc__law_caught : FnScope N__law_caught ["pick", "one", "two"] (defScope s__law_caught) := ⟨rfl, rfl, rfl, by decide +kernel, rfl, by decide +kernel, by decide +kernel⟩

abbrev s__law_thing : Stmt := top 33
abbrev N__law_thing : List Str := ["bag", "way", "some"]
theorem sc__law_thing : FnScope N__law_thing ["bag"] (defScope s__law_thing) := ⟨rfl, rfl, rfl, by decide +kernel, rfl, by decide +kernel, by decide +kernel⟩

abbrev s__law_so : Stmt := top 34
abbrev N__law_so : List Str := ["bag", "pick", "wide", "pairs", "errors", "k", "pair"]
theorem sc__law_so : FnScope N__law_so ["bag", "pick"] (defScope s__law_so) := ⟨rfl, rfl, rfl, by decide +kernel, rfl, by decide +kernel, by decide +kernel⟩

abbrev s_law : Stmt := top 35
abbrev N_law : List Str := ["script", "bag", "every", "k"]
theorem sc_law : FnScope N_law ["script"] (defScope s_law) := ⟨rfl, rfl, rfl, by decide +kernel, rfl, by decide +kernel, by decide +kernel⟩

mutual
def okD : PyData → Bool
  | .none => true | .bool _ => true | .int i => decide (i.natAbs < 2 ^ 4000)
  | .str z => decide (z.length ≤ 100000)
  | .list ds => decide (ds.length ≤ 100000) && okAll ds
  | .tuple ds => decide (ds.length ≤ 100000) && okAll ds
  | .dict _ => false
def okAll : List PyData → Bool
  | [] => true
  | d :: ds => okD d && okAll ds
end
theorem okD_tup {ds : List PyData} : okD (.tuple ds) = true ↔ ds.length ≤ 100000 ∧ okAll ds = true := by
  show (decide (ds.length ≤ 100000) && okAll ds) = true ↔ _
  rw [Bool.and_eq_true, decide_eq_true_iff]
theorem okD_lst {ds : List PyData} : okD (.list ds) = true ↔ ds.length ≤ 100000 ∧ okAll ds = true := by
  show (decide (ds.length ≤ 100000) && okAll ds) = true ↔ _
  rw [Bool.and_eq_true, decide_eq_true_iff]
mutual
def dep : PyData → Nat
  | .none => 0 | .bool _ => 0 | .int _ => 0 | .str _ => 0
  | .list ds => depAll ds + 1
  | .tuple ds => depAll ds + 1
  | .dict _ => 0
def depAll : List PyData → Nat
  | [] => 0
  | d :: ds => max (dep d) (depAll ds)
end
def spP (K : PySem.W.Frag) (F : PyData → V) : Sp := fun vs H Q _ => ∃ v d, vs = [v] ∧ Dp K H v d ∧ okD d = true ∧ ∀ H', Same H H' → Q (F d) H'
def SeqV (K : PySem.W.Frag) (G : Hp) (x : V) (ys : List V) : Prop := (∃ p, x = .ref p ∧ SqL K G p ys) ∨ (∃ p, x = .ref p ∧ SqT K G p ys) ∨ ∃ z, x = .str z ∧ z.length ≤ 100000 ∧ ys = z.cps.toList.map fun c => V.str ⟨#[c]⟩
def sp__law_bag (K : PySem.W.Frag) : Sp := fun vs H Q _ => ∃ (a : Addr) (ns : List Int), vs = [.ref a] ∧ SqL K H a (ns.map V.int) ∧ ns.length ≤ 63 ∧ ∀ b c H', Same H H' → Bag H' b c → H b = none → Q (.ref b) H'
def sp__law_draw : Sp := fun vs H Q _ => ∃ (b c : Addr) (n : Int), vs = [.ref b, .int n] ∧ Bag H b c ∧ 0 < n ∧ n < 1073741824 ∧ ∀ (r : Int) H', 0 ≤ r → r < n → Bag H' b c → Kp b H H' → Q (.int r) H'
def sp__law_of (K : PySem.W.Frag) : Sp := fun vs H Q _ => ∃ (b c : Addr) (x : V) (ys : List V), vs = [.ref b, x] ∧ Bag H b c ∧ SeqV K H x ys ∧ SeqV K (hb H b) x ys ∧ ys ≠ [] ∧ ys.length ≤ 1000000 ∧ ∀ y H', y ∈ ys → Bag H' b c → Kp b H H' → Q y H'
def sp__law_like (K : PySem.W.Frag) (n : Nat) : Sp := fun vs H Q _ => ∃ v u d, vs = [v, u] ∧ Dp K H v d ∧ Dp K H u d ∧ okD d = true ∧ dep d ≤ n ∧ ∀ H', Same H H' → Q (.bl true) H'
def sp__law_any (K : PySem.W.Frag) (n : Nat) : Sp := fun vs H Q _ => ∃ (b c : Addr) (k : Int), vs = [.ref b, .int k] ∧ Bag H b c ∧ k ≤ n ∧ ∀ v d H', Bag H' b c → Kp b H H' → Dp K (nw H H') v d → okD d = true → dep d ≤ n → Q v H'
/-- two keywords in the other order -/
def sw {α : Type} : List α → List α
  | [x, y] => [y, x]
  | l => l
theorem sw_rel : ∀ {zs : List V} {ws : List Value}, Vals zs ws → Vals (sw zs) (sw ws)
  | _, _, .nil => .nil
  | _, _, .cons a .nil => .cons a .nil
  | _, _, .cons a (.cons b .nil) => .cons b (.cons a .nil)
  | _, _, .cons a (.cons b (.cons c r)) => .cons a (.cons b (.cons c r))
/-! ### the own classes -/
abbrev tailVE : List Value := [.type "ValueError", .type "Exception", .type "BaseException", .type "object"]
abbrev tailLE : List Value := leTail
abbrev tailRE : List Value := [.type "RuntimeError", .type "Exception", .type "BaseException", .type "object"]
abbrev tailIE : List Value := [.type "IndexError", .type "LookupError", .type "Exception", .type "BaseException", .type "object"]
theorem baseVE : Base "ValueError" "ValueError.__new__" "ValueError.__init__" tailVE := ⟨PySem.F.excBase_ValueError, PySem.F.store_ValueError, rfl, by decide +kernel⟩
theorem baseRE : Base "RuntimeError" "RuntimeError.__new__" "RuntimeError.__init__" tailRE := ⟨PySem.F.excBase_RuntimeError, PySem.F.store_RuntimeError, rfl, by decide +kernel⟩
theorem baseIE : Base "IndexError" "IndexError.__new__" "IndexError.__init__" tailIE := ⟨PySem.F.excBase_IndexError, PySem.F.store_IndexError, rfl, by decide +kernel⟩
/-- what is said of an own class: its name, place, fields, the class above, the names that isinstance affirms -/
structure Kd where
  nm : Str
  C : Addr
  ps : List Str
  ab : Str
  due : List Str
  row : List Bool
  exm : List Bool
def Kd.fs (k : Kd) (ws : List V) : List (Str × V) := ("code", .str k.nm) :: (k.ps.zip ws).reverse
def Kd.held (k : Kd) (ws : List V) : List V := ws.take k.ps.length
def kds (A : Str → Addr) : List Kd := [
  ⟨"BadValue", A "BadValue", ["value"], "NetError", ["BadValue", "NetError", "ValueError"], [true, false, false, false, false, false, false, false, false, false, false, false, false, false, false, true, false, false, true, false, false, false, false, false], [true, false, false, false]⟩,
  ⟨"BadLine", A "BadLine", ["line", "why"], "NetError", ["BadLine", "NetError", "ValueError"], [false, true, false, false, false, false, false, false, false, false, false, false, false, false, false, true, false, false, true, false, false, false, false, false], [true, false, false, false]⟩,
  ⟨"NoText", A "NoText", ["at"], "NetError", ["NoText", "NetError", "ValueError"], [false, false, true, false, false, false, false, false, false, false, false, false, false, false, false, true, false, false, true, false, false, false, false, false], [true, false, false, false]⟩,
  ⟨"TooLong", A "TooLong", ["length"], "NetError", ["TooLong", "NetError", "ValueError"], [false, false, false, true, false, false, false, false, false, false, false, false, false, false, false, true, false, false, true, false, false, false, false, false], [true, false, false, false]⟩,
  ⟨"BadNet", A "BadNet", ["where"], "NetError", ["BadNet", "NetError", "ValueError"], [false, false, false, false, true, false, false, false, false, false, false, false, false, false, false, true, false, false, true, false, false, false, false, false], [true, false, false, false]⟩,
  ⟨"BadText", A "BadText", ["line"], "NetError", ["BadText", "NetError", "ValueError"], [false, false, false, false, false, true, false, false, false, false, false, false, false, false, false, true, false, false, true, false, false, false, false, false], [true, false, false, false]⟩,
  ⟨"BadChart", A "BadChart", ["where"], "NetError", ["BadChart", "NetError", "ValueError"], [false, false, false, false, false, false, true, false, false, false, false, false, false, false, false, true, false, false, true, false, false, false, false, false], [true, false, false, false]⟩,
  ⟨"Broken", A "Broken", ["line", "word"], "NetError", ["Broken", "NetError", "ValueError"], [false, false, false, false, false, false, false, true, false, false, false, false, false, false, false, true, false, false, true, false, false, false, false, false], [true, false, false, false]⟩,
  ⟨"BadChange", A "BadChange", ["what"], "NetError", ["BadChange", "NetError", "ValueError"], [false, false, false, false, false, false, false, false, true, false, false, false, false, false, false, true, false, false, true, false, false, false, false, false], [true, false, false, false]⟩,
  ⟨"BadPair", A "BadPair", ["what"], "NetError", ["BadPair", "NetError", "ValueError"], [false, false, false, false, false, false, false, false, false, true, false, false, false, false, false, true, false, false, true, false, false, false, false, false], [true, false, false, false]⟩,
  ⟨"BadDeed", A "BadDeed", ["at"], "NetError", ["BadDeed", "NetError", "ValueError"], [false, false, false, false, false, false, false, false, false, false, true, false, false, false, false, true, false, false, true, false, false, false, false, false], [true, false, false, false]⟩,
  ⟨"Twice", A "Twice", ["name"], "NetError", ["Twice", "NetError", "ValueError"], [false, false, false, false, false, false, false, false, false, false, false, true, false, false, false, true, false, false, true, false, false, false, false, false], [true, false, false, false]⟩,
  ⟨"NoName", A "NoName", ["name"], "Missing", ["NoName", "Missing", "LookupError"], [false, false, false, false, false, false, false, false, false, false, false, false, true, false, false, false, true, false, false, true, false, false, false, false], [false, true, false, false]⟩,
  ⟨"TooMany", A "TooMany", ["what", "count"], "Full", ["TooMany", "Full", "RuntimeError"], [false, false, false, false, false, false, false, false, false, false, false, false, false, true, false, false, false, true, false, false, true, false, false, false], [false, false, true, false]⟩,
  ⟨"NothingLeft", A "NothingLeft", [], "", ["NothingLeft", "LookupError", "IndexError"], [false, false, false, false, false, false, false, false, false, false, false, false, false, false, true, false, false, false, false, true, false, true, false, false], [false, false, false, true]⟩]
def kd_BadValue (A : Str → Addr) : Kd := ⟨"BadValue", A "BadValue", ["value"], "NetError", ["BadValue", "NetError", "ValueError"], [true, false, false, false, false, false, false, false, false, false, false, false, false, false, false, true, false, false, true, false, false, false, false, false], [true, false, false, false]⟩
def kd_BadLine (A : Str → Addr) : Kd := ⟨"BadLine", A "BadLine", ["line", "why"], "NetError", ["BadLine", "NetError", "ValueError"], [false, true, false, false, false, false, false, false, false, false, false, false, false, false, false, true, false, false, true, false, false, false, false, false], [true, false, false, false]⟩
def kd_NoText (A : Str → Addr) : Kd := ⟨"NoText", A "NoText", ["at"], "NetError", ["NoText", "NetError", "ValueError"], [false, false, true, false, false, false, false, false, false, false, false, false, false, false, false, true, false, false, true, false, false, false, false, false], [true, false, false, false]⟩
def kd_TooLong (A : Str → Addr) : Kd := ⟨"TooLong", A "TooLong", ["length"], "NetError", ["TooLong", "NetError", "ValueError"], [false, false, false, true, false, false, false, false, false, false, false, false, false, false, false, true, false, false, true, false, false, false, false, false], [true, false, false, false]⟩
def kd_BadNet (A : Str → Addr) : Kd := ⟨"BadNet", A "BadNet", ["where"], "NetError", ["BadNet", "NetError", "ValueError"], [false, false, false, false, true, false, false, false, false, false, false, false, false, false, false, true, false, false, true, false, false, false, false, false], [true, false, false, false]⟩
def kd_BadText (A : Str → Addr) : Kd := ⟨"BadText", A "BadText", ["line"], "NetError", ["BadText", "NetError", "ValueError"], [false, false, false, false, false, true, false, false, false, false, false, false, false, false, false, true, false, false, true, false, false, false, false, false], [true, false, false, false]⟩
def kd_BadChart (A : Str → Addr) : Kd := ⟨"BadChart", A "BadChart", ["where"], "NetError", ["BadChart", "NetError", "ValueError"], [false, false, false, false, false, false, true, false, false, false, false, false, false, false, false, true, false, false, true, false, false, false, false, false], [true, false, false, false]⟩
def kd_Broken (A : Str → Addr) : Kd := ⟨"Broken", A "Broken", ["line", "word"], "NetError", ["Broken", "NetError", "ValueError"], [false, false, false, false, false, false, false, true, false, false, false, false, false, false, false, true, false, false, true, false, false, false, false, false], [true, false, false, false]⟩
def kd_BadChange (A : Str → Addr) : Kd := ⟨"BadChange", A "BadChange", ["what"], "NetError", ["BadChange", "NetError", "ValueError"], [false, false, false, false, false, false, false, false, true, false, false, false, false, false, false, true, false, false, true, false, false, false, false, false], [true, false, false, false]⟩
def kd_BadPair (A : Str → Addr) : Kd := ⟨"BadPair", A "BadPair", ["what"], "NetError", ["BadPair", "NetError", "ValueError"], [false, false, false, false, false, false, false, false, false, true, false, false, false, false, false, true, false, false, true, false, false, false, false, false], [true, false, false, false]⟩
def kd_BadDeed (A : Str → Addr) : Kd := ⟨"BadDeed", A "BadDeed", ["at"], "NetError", ["BadDeed", "NetError", "ValueError"], [false, false, false, false, false, false, false, false, false, false, true, false, false, false, false, true, false, false, true, false, false, false, false, false], [true, false, false, false]⟩
def kd_Twice (A : Str → Addr) : Kd := ⟨"Twice", A "Twice", ["name"], "NetError", ["Twice", "NetError", "ValueError"], [false, false, false, false, false, false, false, false, false, false, false, true, false, false, false, true, false, false, true, false, false, false, false, false], [true, false, false, false]⟩
def kd_NoName (A : Str → Addr) : Kd := ⟨"NoName", A "NoName", ["name"], "Missing", ["NoName", "Missing", "LookupError"], [false, false, false, false, false, false, false, false, false, false, false, false, true, false, false, false, true, false, false, true, false, false, false, false], [false, true, false, false]⟩
def kd_TooMany (A : Str → Addr) : Kd := ⟨"TooMany", A "TooMany", ["what", "count"], "Full", ["TooMany", "Full", "RuntimeError"], [false, false, false, false, false, false, false, false, false, false, false, false, false, true, false, false, false, true, false, false, true, false, false, false], [false, false, true, false]⟩
def kd_NothingLeft (A : Str → Addr) : Kd := ⟨"NothingLeft", A "NothingLeft", [], "", ["NothingLeft", "LookupError", "IndexError"], [false, false, false, false, false, false, false, false, false, false, false, false, false, false, true, false, false, false, false, true, false, true, false, false], [false, false, false, true]⟩
def kindN : List Str := ["BadValue", "BadLine", "NoText", "TooLong", "BadNet", "BadText", "BadChart", "Broken", "BadChange", "BadPair", "BadDeed", "Twice", "NoName", "TooMany", "NothingLeft", "NetError", "Missing", "Full", "ValueError", "LookupError", "RuntimeError", "IndexError", "KeyError", "ArithmeticError"]
def kindV (A : Str → Addr) : List Value := [.ref (A "BadValue"), .ref (A "BadLine"), .ref (A "NoText"), .ref (A "TooLong"), .ref (A "BadNet"), .ref (A "BadText"), .ref (A "BadChart"), .ref (A "Broken"), .ref (A "BadChange"), .ref (A "BadPair"), .ref (A "BadDeed"), .ref (A "Twice"), .ref (A "NoName"), .ref (A "TooMany"), .ref (A "NothingLeft"), .ref (A "NetError"), .ref (A "Missing"), .ref (A "Full"), .type "ValueError", .type "LookupError", .type "RuntimeError", .type "IndexError", .type "KeyError", .type "ArithmeticError"]
def exmV (A : Str → Addr) : List Value := [.ref (A "NetError"), .ref (A "Missing"), .ref (A "Full"), .ref (A "NothingLeft")]

structure Uni (K : PySem.W.Frag) (A : Str → Addr) (k : Kd) : Prop where
  xf : XfC K k.C
  ix : IsxC K k.C
  nc : PySem.W.findIn K (.ref k.C) "code" = some none
  nf : ∀ f ∈ k.ps, PySem.W.findIn K (.ref k.C) f = some none
  kit : (kindV A).map (PySem.W.kitOne K (.ref k.C)) = k.row.map some
  exm : (exmV A).map (PySem.W.exmOne K (.ref k.C)) = k.exm.map some
theorem kin_BadValue {A : Str → Addr} : kd_BadValue A ∈ kds A := by simp [kds, kd_BadValue]
theorem kin_BadLine {A : Str → Addr} : kd_BadLine A ∈ kds A := by simp [kds, kd_BadLine]
theorem kin_NoText {A : Str → Addr} : kd_NoText A ∈ kds A := by simp [kds, kd_NoText]
theorem kin_TooLong {A : Str → Addr} : kd_TooLong A ∈ kds A := by simp [kds, kd_TooLong]
theorem kin_BadNet {A : Str → Addr} : kd_BadNet A ∈ kds A := by simp [kds, kd_BadNet]
theorem kin_BadText {A : Str → Addr} : kd_BadText A ∈ kds A := by simp [kds, kd_BadText]
theorem kin_BadChart {A : Str → Addr} : kd_BadChart A ∈ kds A := by simp [kds, kd_BadChart]
theorem kin_Broken {A : Str → Addr} : kd_Broken A ∈ kds A := by simp [kds, kd_Broken]
theorem kin_BadChange {A : Str → Addr} : kd_BadChange A ∈ kds A := by simp [kds, kd_BadChange]
theorem kin_BadPair {A : Str → Addr} : kd_BadPair A ∈ kds A := by simp [kds, kd_BadPair]
theorem kin_BadDeed {A : Str → Addr} : kd_BadDeed A ∈ kds A := by simp [kds, kd_BadDeed]
theorem kin_Twice {A : Str → Addr} : kd_Twice A ∈ kds A := by simp [kds, kd_Twice]
theorem kin_NoName {A : Str → Addr} : kd_NoName A ∈ kds A := by simp [kds, kd_NoName]
theorem kin_TooMany {A : Str → Addr} : kd_TooMany A ∈ kds A := by simp [kds, kd_TooMany]
theorem kin_NothingLeft {A : Str → Addr} : kd_NothingLeft A ∈ kds A := by simp [kds, kd_NothingLeft]
def pickL : List Str := ["BadValue", "BadLine", "NoText", "TooLong", "BadNet", "BadText", "BadChart", "Broken", "BadChange", "BadPair", "BadDeed", "Twice", "NoName", "TooMany", "NothingLeft"]
theorem picks {A : Str → Addr} : (kds A).map Kd.nm = pickL := rfl
theorem nodup_inj {α β : Type} {f : α → β} : ∀ {l : List α} {x y : α}, (l.map f).Nodup → x ∈ l → y ∈ l → f x = f y → x = y
  | [], _, _, _, h, _, _ => absurd h (by simp)
  | a :: l, x, y, n, hx, hy, e => by
    rw [List.map_cons, List.nodup_cons] at n
    rcases List.mem_cons.mp hx with hx | hx
    · rcases List.mem_cons.mp hy with hy | hy
      · rw [hx, hy]
      · exact absurd (List.mem_map.mpr ⟨y, hy, by rw [← e, hx]⟩) n.1
    · rcases List.mem_cons.mp hy with hy | hy
      · exact absurd (List.mem_map.mpr ⟨x, hx, by rw [e, hy]⟩) n.1
      · exact nodup_inj n.2 hx hy e
theorem kd_of {A : Str → Addr} {k k' : Kd} (h : k ∈ kds A) (h' : k' ∈ kds A) (e : k.nm = k'.nm) : k = k' := nodup_inj (by rw [picks]; decide +kernel) h h' e

/-! ### an exception under way -/
structure Made (H : Hp) (a C dx : Addr) (fs : List (Str × V)) (H' : Hp) : Prop where
  oth : ∀ b, b ≠ a → b ≠ dx → H' b = H b
  at_ : H' a = some (exo a C (some dx))
  atd : H' dx = some (exd dx fs)
theorem made1 {H : Hp} {a C dx : Addr} {fs : List (Str × V)} (ne : dx ≠ a) : Made H a C dx fs (L2.upd (L2.upd H dx (exd dx fs)) a (exo a C (some dx))) :=
  ⟨fun b n1 n2 => by rw [upd_ne n1, upd_ne n2], upd_same, by rw [upd_ne ne, upd_same]⟩
theorem Made.more {H H1 : Hp} {a C dx : Addr} {fs : List (Str × V)} {f : Str} {y : V} (m : Made H a C dx fs H1) (ne : dx ≠ a) : Made H a C dx ((f, y) :: fs) (L2.upd H1 dx (exd dx ((f, y) :: fs))) :=
  ⟨fun b n1 n2 => by rw [upd_ne n2]; exact m.oth b n1 n2, by rw [upd_ne ne.symm]; exact m.at_, upd_same⟩
def spInit (C : Addr) (nm : Str) (ps : List Str) : Sp := fun vs H Q _ => ∃ (a : Addr) (ws : List V), vs = .ref a :: ws ∧ ws.length = ps.length ∧ H a = some (exo a C none) ∧
  ∀ d H', H d = none → d ≠ a → (∀ b, b ≠ a → b ≠ d → H' b = H b) → H' a = some (exo a C (some d)) → H' d = some (exd d (("code", .str nm) :: (ps.zip ws).reverse)) → Q .non H'
theorem args0 {ws : List V} (h : ws.length = 0) : ws = [] := List.length_eq_zero_iff.mp h
theorem args1 {ws : List V} (h : ws.length = 1) : ∃ x, ws = [x] := match ws, h with | [x], _ => ⟨x, rfl⟩
theorem args2 {ws : List V} (h : ws.length = 2) : ∃ x y, ws = [x, y] := match ws, h with | [x, y], _ => ⟨x, y, rfl⟩
theorem init0 {H : Hp} {a C dx : Addr} {nm : Str} {Q : VK} (hdx : H dx = none) (ne : dx ≠ a) (k : ∀ d H', H d = none → d ≠ a → (∀ b, b ≠ a → b ≠ d → H' b = H b) → H' a = some (exo a C (some d)) → H' d = some (exd d [("code", .str nm)]) → Q .non H') :
    Q .non (L2.upd (L2.upd H dx (exd dx [("code", .str nm)])) a (exo a C (some dx))) := k dx _ hdx ne (made1 (C := C) ne).oth (made1 ne).at_ (made1 ne).atd
/-- the new exception -/
theorem made_of {Q : VK} {H : Hp} {C : Addr} {nm : Str} {ps : List Str} {ws : List V} {E : XK} (hl : ws.length = ps.length) (h : ∀ a H', Same H H' → H a = none → Err H' a C (("code", .str nm) :: (ps.zip ws).reverse) → Q (.ref a) H') :
    ∀ a, H a = none → spInit C nm ps (.ref a :: ws) (L2.upd H a (exo a C none)) (Back a C Q) E := by
  intro a ha
  refine ⟨a, ws, rfl, hl, upd_same, fun d H' hd hda k h1 h2 => ⟨rfl, d, _, h1, h2, fun H3 k3 e => h a H3 (fun b o q => ?_) ha e⟩⟩
  rw [upd_ne hda] at hd
  have n1 : b ≠ a := fun z => by rw [z, ha] at q; cases q
  have n2 : b ≠ d := fun z => by rw [z, hd] at q; cases q
  rw [k3 b n1 n2, k b n1 n2, upd_ne n1]
  exact q
/-- the new exception, raised -/
theorem raised_of {Qx : XK} {H : Hp} {C : Addr} {nm : Str} {ps : List Str} {ws : List V} {E : XK} (hl : ws.length = ps.length) (h : ∀ d H', Same H H' → H d = none → H' d = some (.xd (("code", .str nm) :: (ps.zip ws).reverse)) → Qx (.ref C) (some d) H') :
    ∀ a, H a = none → spInit C nm ps (.ref a :: ws) (L2.upd H a (exo a C none)) (fun v2 H2 => v2 = .non ∧ ∃ (d : Addr) (fs : List (Str × V)), H2 a = some (exo a C (some d)) ∧ H2 d = some (exd d fs) ∧ H d = none ∧ Qx (.ref C) (some d) (L2.upd (del H2 a) d (.xd fs))) E := by
  intro a ha
  refine ⟨a, ws, rfl, hl, upd_same, fun d H' hd hda k h1 h2 => ?_⟩
  rw [upd_ne hda] at hd
  refine ⟨rfl, d, _, h1, h2, hd, h d _ (fun b o q => ?_) hd upd_same⟩
  have n1 : b ≠ a := fun z => by rw [z, ha] at q; cases q
  have n2 : b ≠ d := fun z => by rw [z, hd] at q; cases q
  rw [upd_ne n2, del_ne n1, k b n1 n2, upd_ne n1]
  exact q
set_option maxHeartbeats 0 in
structure Txt (w : World) (K : PySem.W.Frag) (mg : Str → Option Value) where
  n_len : mg "len" = none
  n_int : mg "int" = none
  n_str : mg "str" = none
  n_list : mg "list" = none
  n_tuple : mg "tuple" = none
  n_bool : mg "bool" = none
  n_isinstance : mg "isinstance" = none
  n_all : mg "all" = none
  n_range : mg "range" = none
  n_zip : mg "zip" = none
  n_ValueError : mg "ValueError" = none
  n_LookupError : mg "LookupError" = none
  n_RuntimeError : mg "RuntimeError" = none
  n_IndexError : mg "IndexError" = none
  n_KeyError : mg "KeyError" = none
  n_ArithmeticError : mg "ArithmeticError" = none
  cA : Str → Addr
  m_NetError : mg "NetError" = some (.ref (cA "NetError"))
  m_Missing : mg "Missing" = some (.ref (cA "Missing"))
  m_Full : mg "Full" = some (.ref (cA "Full"))
  m_BadValue : mg "BadValue" = some (.ref (cA "BadValue"))
  f_BadValue : Addr
  d_BadValue : FuncData
  X_BadValue : OexM K (cA "BadValue") "ValueError.__new__" tailVE
  i_BadValue : PySem.W.findIn K (.ref (cA "BadValue")) "__init__" = some (some (.ref f_BadValue))
  t_BadValue : PySem.W.typeIn K (.ref f_BadValue) = some (.type "function")
  F_BadValue : Fun K "__init__" "BadValue.__init__" s_BadValue f_BadValue d_BadValue
  B_BadValue__init : Binds K d_BadValue ["self", "value"] []
  p_BadValue : KBn K d_BadValue ["self", "value"] 2 [] (fun us ws => us ++ ws) (fun vs zs => vs ++ zs)
  z_BadValue : KBn K d_BadValue ["self", "value"] 1 ["value"] (fun us ws => us ++ ws) (fun vs zs => vs ++ zs)
  m_BadLine : mg "BadLine" = some (.ref (cA "BadLine"))
  f_BadLine : Addr
  d_BadLine : FuncData
  X_BadLine : OexM K (cA "BadLine") "ValueError.__new__" tailVE
  i_BadLine : PySem.W.findIn K (.ref (cA "BadLine")) "__init__" = some (some (.ref f_BadLine))
  t_BadLine : PySem.W.typeIn K (.ref f_BadLine) = some (.type "function")
  F_BadLine : Fun K "__init__" "BadLine.__init__" s_BadLine f_BadLine d_BadLine
  B_BadLine__init : Binds K d_BadLine ["self", "line", "why"] []
  p_BadLine : KBn K d_BadLine ["self", "line", "why"] 3 [] (fun us ws => us ++ ws) (fun vs zs => vs ++ zs)
  z_BadLine : KBn K d_BadLine ["self", "line", "why"] 1 ["line", "why"] (fun us ws => us ++ ws) (fun vs zs => vs ++ zs)
  w_BadLine : KBn K d_BadLine ["self", "line", "why"] 1 ["why", "line"] (fun us ws => us ++ sw ws) (fun vs zs => vs ++ sw zs)
  x_BadLine : KBn K d_BadLine ["self", "line", "why"] 2 ["why"] (fun us ws => us ++ ws) (fun vs zs => vs ++ zs)
  m_NoText : mg "NoText" = some (.ref (cA "NoText"))
  f_NoText : Addr
  d_NoText : FuncData
  X_NoText : OexM K (cA "NoText") "ValueError.__new__" tailVE
  i_NoText : PySem.W.findIn K (.ref (cA "NoText")) "__init__" = some (some (.ref f_NoText))
  t_NoText : PySem.W.typeIn K (.ref f_NoText) = some (.type "function")
  F_NoText : Fun K "__init__" "NoText.__init__" s_NoText f_NoText d_NoText
  B_NoText__init : Binds K d_NoText ["self", "at"] []
  p_NoText : KBn K d_NoText ["self", "at"] 2 [] (fun us ws => us ++ ws) (fun vs zs => vs ++ zs)
  z_NoText : KBn K d_NoText ["self", "at"] 1 ["at"] (fun us ws => us ++ ws) (fun vs zs => vs ++ zs)
  m_TooLong : mg "TooLong" = some (.ref (cA "TooLong"))
  f_TooLong : Addr
  d_TooLong : FuncData
  X_TooLong : OexM K (cA "TooLong") "ValueError.__new__" tailVE
  i_TooLong : PySem.W.findIn K (.ref (cA "TooLong")) "__init__" = some (some (.ref f_TooLong))
  t_TooLong : PySem.W.typeIn K (.ref f_TooLong) = some (.type "function")
  F_TooLong : Fun K "__init__" "TooLong.__init__" s_TooLong f_TooLong d_TooLong
  B_TooLong__init : Binds K d_TooLong ["self", "length"] []
  p_TooLong : KBn K d_TooLong ["self", "length"] 2 [] (fun us ws => us ++ ws) (fun vs zs => vs ++ zs)
  z_TooLong : KBn K d_TooLong ["self", "length"] 1 ["length"] (fun us ws => us ++ ws) (fun vs zs => vs ++ zs)
  m_BadNet : mg "BadNet" = some (.ref (cA "BadNet"))
  f_BadNet : Addr
  d_BadNet : FuncData
  X_BadNet : OexM K (cA "BadNet") "ValueError.__new__" tailVE
  i_BadNet : PySem.W.findIn K (.ref (cA "BadNet")) "__init__" = some (some (.ref f_BadNet))
  t_BadNet : PySem.W.typeIn K (.ref f_BadNet) = some (.type "function")
  F_BadNet : Fun K "__init__" "BadNet.__init__" s_BadNet f_BadNet d_BadNet
  B_BadNet__init : Binds K d_BadNet ["self", "where"] []
  p_BadNet : KBn K d_BadNet ["self", "where"] 2 [] (fun us ws => us ++ ws) (fun vs zs => vs ++ zs)
  z_BadNet : KBn K d_BadNet ["self", "where"] 1 ["where"] (fun us ws => us ++ ws) (fun vs zs => vs ++ zs)
  m_BadText : mg "BadText" = some (.ref (cA "BadText"))
  f_BadText : Addr
  d_BadText : FuncData
  X_BadText : OexM K (cA "BadText") "ValueError.__new__" tailVE
  i_BadText : PySem.W.findIn K (.ref (cA "BadText")) "__init__" = some (some (.ref f_BadText))
  t_BadText : PySem.W.typeIn K (.ref f_BadText) = some (.type "function")
  F_BadText : Fun K "__init__" "BadText.__init__" s_BadText f_BadText d_BadText
  B_BadText__init : Binds K d_BadText ["self", "line"] []
  p_BadText : KBn K d_BadText ["self", "line"] 2 [] (fun us ws => us ++ ws) (fun vs zs => vs ++ zs)
  z_BadText : KBn K d_BadText ["self", "line"] 1 ["line"] (fun us ws => us ++ ws) (fun vs zs => vs ++ zs)
  m_BadChart : mg "BadChart" = some (.ref (cA "BadChart"))
  f_BadChart : Addr
  d_BadChart : FuncData
  X_BadChart : OexM K (cA "BadChart") "ValueError.__new__" tailVE
  i_BadChart : PySem.W.findIn K (.ref (cA "BadChart")) "__init__" = some (some (.ref f_BadChart))
  t_BadChart : PySem.W.typeIn K (.ref f_BadChart) = some (.type "function")
  F_BadChart : Fun K "__init__" "BadChart.__init__" s_BadChart f_BadChart d_BadChart
  B_BadChart__init : Binds K d_BadChart ["self", "where"] []
  p_BadChart : KBn K d_BadChart ["self", "where"] 2 [] (fun us ws => us ++ ws) (fun vs zs => vs ++ zs)
  z_BadChart : KBn K d_BadChart ["self", "where"] 1 ["where"] (fun us ws => us ++ ws) (fun vs zs => vs ++ zs)
  m_Broken : mg "Broken" = some (.ref (cA "Broken"))
  f_Broken : Addr
  d_Broken : FuncData
  X_Broken : OexM K (cA "Broken") "ValueError.__new__" tailVE
  i_Broken : PySem.W.findIn K (.ref (cA "Broken")) "__init__" = some (some (.ref f_Broken))
  t_Broken : PySem.W.typeIn K (.ref f_Broken) = some (.type "function")
  F_Broken : Fun K "__init__" "Broken.__init__" s_Broken f_Broken d_Broken
  B_Broken__init : Binds K d_Broken ["self", "line", "word"] []
  p_Broken : KBn K d_Broken ["self", "line", "word"] 3 [] (fun us ws => us ++ ws) (fun vs zs => vs ++ zs)
  z_Broken : KBn K d_Broken ["self", "line", "word"] 1 ["line", "word"] (fun us ws => us ++ ws) (fun vs zs => vs ++ zs)
  w_Broken : KBn K d_Broken ["self", "line", "word"] 1 ["word", "line"] (fun us ws => us ++ sw ws) (fun vs zs => vs ++ sw zs)
  x_Broken : KBn K d_Broken ["self", "line", "word"] 2 ["word"] (fun us ws => us ++ ws) (fun vs zs => vs ++ zs)
  m_BadChange : mg "BadChange" = some (.ref (cA "BadChange"))
  f_BadChange : Addr
  d_BadChange : FuncData
  X_BadChange : OexM K (cA "BadChange") "ValueError.__new__" tailVE
  i_BadChange : PySem.W.findIn K (.ref (cA "BadChange")) "__init__" = some (some (.ref f_BadChange))
  t_BadChange : PySem.W.typeIn K (.ref f_BadChange) = some (.type "function")
  F_BadChange : Fun K "__init__" "BadChange.__init__" s_BadChange f_BadChange d_BadChange
  B_BadChange__init : Binds K d_BadChange ["self", "what"] []
  p_BadChange : KBn K d_BadChange ["self", "what"] 2 [] (fun us ws => us ++ ws) (fun vs zs => vs ++ zs)
  z_BadChange : KBn K d_BadChange ["self", "what"] 1 ["what"] (fun us ws => us ++ ws) (fun vs zs => vs ++ zs)
  m_BadPair : mg "BadPair" = some (.ref (cA "BadPair"))
  f_BadPair : Addr
  d_BadPair : FuncData
  X_BadPair : OexM K (cA "BadPair") "ValueError.__new__" tailVE
  i_BadPair : PySem.W.findIn K (.ref (cA "BadPair")) "__init__" = some (some (.ref f_BadPair))
  t_BadPair : PySem.W.typeIn K (.ref f_BadPair) = some (.type "function")
  F_BadPair : Fun K "__init__" "BadPair.__init__" s_BadPair f_BadPair d_BadPair
  B_BadPair__init : Binds K d_BadPair ["self", "what"] []
  p_BadPair : KBn K d_BadPair ["self", "what"] 2 [] (fun us ws => us ++ ws) (fun vs zs => vs ++ zs)
  z_BadPair : KBn K d_BadPair ["self", "what"] 1 ["what"] (fun us ws => us ++ ws) (fun vs zs => vs ++ zs)
  m_BadDeed : mg "BadDeed" = some (.ref (cA "BadDeed"))
  f_BadDeed : Addr
  d_BadDeed : FuncData
  X_BadDeed : OexM K (cA "BadDeed") "ValueError.__new__" tailVE
  i_BadDeed : PySem.W.findIn K (.ref (cA "BadDeed")) "__init__" = some (some (.ref f_BadDeed))
  t_BadDeed : PySem.W.typeIn K (.ref f_BadDeed) = some (.type "function")
  F_BadDeed : Fun K "__init__" "BadDeed.__init__" s_BadDeed f_BadDeed d_BadDeed
  B_BadDeed__init : Binds K d_BadDeed ["self", "at"] []
  p_BadDeed : KBn K d_BadDeed ["self", "at"] 2 [] (fun us ws => us ++ ws) (fun vs zs => vs ++ zs)
  z_BadDeed : KBn K d_BadDeed ["self", "at"] 1 ["at"] (fun us ws => us ++ ws) (fun vs zs => vs ++ zs)
  m_Twice : mg "Twice" = some (.ref (cA "Twice"))
  f_Twice : Addr
  d_Twice : FuncData
  X_Twice : OexM K (cA "Twice") "ValueError.__new__" tailVE
  i_Twice : PySem.W.findIn K (.ref (cA "Twice")) "__init__" = some (some (.ref f_Twice))
  t_Twice : PySem.W.typeIn K (.ref f_Twice) = some (.type "function")
  F_Twice : Fun K "__init__" "Twice.__init__" s_Twice f_Twice d_Twice
  B_Twice__init : Binds K d_Twice ["self", "name"] []
  p_Twice : KBn K d_Twice ["self", "name"] 2 [] (fun us ws => us ++ ws) (fun vs zs => vs ++ zs)
  z_Twice : KBn K d_Twice ["self", "name"] 1 ["name"] (fun us ws => us ++ ws) (fun vs zs => vs ++ zs)
  m_NoName : mg "NoName" = some (.ref (cA "NoName"))
  f_NoName : Addr
  d_NoName : FuncData
  X_NoName : OexM K (cA "NoName") "LookupError.__new__" tailLE
  i_NoName : PySem.W.findIn K (.ref (cA "NoName")) "__init__" = some (some (.ref f_NoName))
  t_NoName : PySem.W.typeIn K (.ref f_NoName) = some (.type "function")
  F_NoName : Fun K "__init__" "NoName.__init__" s_NoName f_NoName d_NoName
  B_NoName__init : Binds K d_NoName ["self", "name"] []
  p_NoName : KBn K d_NoName ["self", "name"] 2 [] (fun us ws => us ++ ws) (fun vs zs => vs ++ zs)
  z_NoName : KBn K d_NoName ["self", "name"] 1 ["name"] (fun us ws => us ++ ws) (fun vs zs => vs ++ zs)
  m_TooMany : mg "TooMany" = some (.ref (cA "TooMany"))
  f_TooMany : Addr
  d_TooMany : FuncData
  X_TooMany : OexM K (cA "TooMany") "RuntimeError.__new__" tailRE
  i_TooMany : PySem.W.findIn K (.ref (cA "TooMany")) "__init__" = some (some (.ref f_TooMany))
  t_TooMany : PySem.W.typeIn K (.ref f_TooMany) = some (.type "function")
  F_TooMany : Fun K "__init__" "TooMany.__init__" s_TooMany f_TooMany d_TooMany
  B_TooMany__init : Binds K d_TooMany ["self", "what", "count"] []
  p_TooMany : KBn K d_TooMany ["self", "what", "count"] 3 [] (fun us ws => us ++ ws) (fun vs zs => vs ++ zs)
  z_TooMany : KBn K d_TooMany ["self", "what", "count"] 1 ["what", "count"] (fun us ws => us ++ ws) (fun vs zs => vs ++ zs)
  w_TooMany : KBn K d_TooMany ["self", "what", "count"] 1 ["count", "what"] (fun us ws => us ++ sw ws) (fun vs zs => vs ++ sw zs)
  x_TooMany : KBn K d_TooMany ["self", "what", "count"] 2 ["count"] (fun us ws => us ++ ws) (fun vs zs => vs ++ zs)
  m_NothingLeft : mg "NothingLeft" = some (.ref (cA "NothingLeft"))
  f_NothingLeft : Addr
  d_NothingLeft : FuncData
  X_NothingLeft : OexM K (cA "NothingLeft") "IndexError.__new__" tailIE
  i_NothingLeft : PySem.W.findIn K (.ref (cA "NothingLeft")) "__init__" = some (some (.ref f_NothingLeft))
  t_NothingLeft : PySem.W.typeIn K (.ref f_NothingLeft) = some (.type "function")
  F_NothingLeft : Fun K "__init__" "NothingLeft.__init__" s_NothingLeft f_NothingLeft d_NothingLeft
  B_NothingLeft__init : Binds K d_NothingLeft ["self"] []
  p_NothingLeft : KBn K d_NothingLeft ["self"] 1 [] (fun us ws => us ++ ws) (fun vs zs => vs ++ zs)
  U : ∀ k ∈ kds cA, Uni K cA k
  a__law_bag : Addr
  d__law_bag : FuncData
  F__law_bag : Fun K "_law_bag" "_law_bag" s__law_bag a__law_bag d__law_bag
  m__law_bag : mg "_law_bag" = some (.ref a__law_bag)
  B__law_bag : Binds K d__law_bag ["script"] []
  a__law_draw : Addr
  d__law_draw : FuncData
  F__law_draw : Fun K "_law_draw" "_law_draw" s__law_draw a__law_draw d__law_draw
  m__law_draw : mg "_law_draw" = some (.ref a__law_draw)
  B__law_draw : Binds K d__law_draw ["bag", "size"] []
  a__law_of : Addr
  d__law_of : FuncData
  F__law_of : Fun K "_law_of" "_law_of" s__law_of a__law_of d__law_of
  m__law_of : mg "_law_of" = some (.ref a__law_of)
  B__law_of : Binds K d__law_of ["bag", "things"] []
  a__law_like : Addr
  d__law_like : FuncData
  F__law_like : Fun K "_law_like" "_law_like" s__law_like a__law_like d__law_like
  m__law_like : mg "_law_like" = some (.ref a__law_like)
  B__law_like : Binds K d__law_like ["got", "due"] []
  a__law_any : Addr
  d__law_any : FuncData
  F__law_any : Fun K "_law_any" "_law_any" s__law_any a__law_any d__law_any
  m__law_any : mg "_law_any" = some (.ref a__law_any)
  B__law_any : Binds K d__law_any ["bag", "deep"] []
  a__law_one : Addr
  d__law_one : FuncData
  F__law_one : Fun K "_law_one" "_law_one" s__law_one a__law_one d__law_one
  m__law_one : mg "_law_one" = some (.ref a__law_one)
  B__law_one : Binds K d__law_one ["pick", "one", "way"] []
  a__law_made : Addr
  d__law_made : FuncData
  F__law_made : Fun K "_law_made" "_law_made" s__law_made a__law_made d__law_made
  m__law_made : mg "_law_made" = some (.ref a__law_made)
  B__law_made : Binds K d__law_made ["pick", "one", "two", "way"] []
  a__law_held : Addr
  d__law_held : FuncData
  F__law_held : Fun K "_law_held" "_law_held" s__law_held a__law_held d__law_held
  m__law_held : mg "_law_held" = some (.ref a__law_held)
  B__law_held : Binds K d__law_held ["pick", "error"] []
  a__law_kinds : Addr
  d__law_kinds : FuncData
  F__law_kinds : Fun K "_law_kinds" "_law_kinds" s__law_kinds a__law_kinds d__law_kinds
  m__law_kinds : mg "_law_kinds" = some (.ref a__law_kinds)
  B__law_kinds : Binds K d__law_kinds ["error"] []
  a__law_raise : Addr
  d__law_raise : FuncData
  F__law_raise : Fun K "_law_raise" "_law_raise" s__law_raise a__law_raise d__law_raise
  m__law_raise : mg "_law_raise" = some (.ref a__law_raise)
  B__law_raise : Binds K d__law_raise ["pick", "one", "two"] []
  a__law_above : Addr
  d__law_above : FuncData
  F__law_above : Fun K "_law_above" "_law_above" s__law_above a__law_above d__law_above
  m__law_above : mg "_law_above" = some (.ref a__law_above)
  B__law_above : Binds K d__law_above ["pick"] []
  a__law_due : Addr
  d__law_due : FuncData
  F__law_due : Fun K "_law_due" "_law_due" s__law_due a__law_due d__law_due
  m__law_due : mg "_law_due" = some (.ref a__law_due)
  B__law_due : Binds K d__law_due ["pick"] []
  a__law_caught : Addr
  d__law_caught : FuncData
  F__law_caught : Fun K "_law_caught" "_law_caught" s__law_caught a__law_caught d__law_caught
  m__law_caught : mg "_law_caught" = some (.ref a__law_caught)
  B__law_caught : Binds K d__law_caught ["pick", "one", "two"] []
  a__law_thing : Addr
  d__law_thing : FuncData
  F__law_thing : Fun K "_law_thing" "_law_thing" s__law_thing a__law_thing d__law_thing
  m__law_thing : mg "_law_thing" = some (.ref a__law_thing)
  B__law_thing : Binds K d__law_thing ["bag"] []
  a__law_so : Addr
  d__law_so : FuncData
  F__law_so : Fun K "_law_so" "_law_so" s__law_so a__law_so d__law_so
  m__law_so : mg "_law_so" = some (.ref a__law_so)
  B__law_so : Binds K d__law_so ["bag", "pick"] []
  a_law : Addr
  d_law : FuncData
  F_law : Fun K "law" "law" s_law a_law d_law
  m_law : mg "law" = some (.ref a_law)
  B_law : Binds K d_law ["script"] []

end LK

set_option Elab.async false
set_option linter.all false
set_option maxRecDepth 100000
namespace LK
open PySem PySem.Spec PyProof.Rows L2
local macro_rules | `(tactic| walk_at "rs") => `(tactic| simp only [cxK, cxNK, tCallZ, tAsg, tOp, rI0, rS0, rB0, rI, rU, tUn, rEq, rNe, rIxL, rIxT, rIxS, rSetL, rSlLU, rSlS, rSlU, rCatL, rCatU, rRepL, rIn, tVar, tC, gName, gSub, tIfS, tTest, tB, tAnd, tOr, tNot, tNotV, tAndV, tOrV, tIf, tCall, tCons, tNil, tCB, tDrop, tRet, tRetN, tNext, tLstU, tTupU, tM0, tM1, tPar, tPar3, tAug, ipI, tBM, tBM0, rAppend, rPop, tBreak, tCont, tChain, tSl, tPart, tNoPart, L2.start, List.map, List.length_cons, List.length_nil, List.replicate, List.cons_append, List.nil_append, List.append_nil, List.getElem?_cons_zero, List.getElem?_cons_succ, List.set_cons_zero, List.set_cons_succ, Option.some.injEq, V.int.injEq, V.ref.injEq, V.str.injEq, V.bl.injEq, exists_eq_left', exists_eq_left, exists_and_left, decide_eq_true_eq, List.cons.injEq, and_true, true_and, scal, tExV, tEf, rIsEr, tDGet2, rIxLT, Bool.not_eq_true', decide_eq_false_iff_not, Nat.zero_add, Nat.reduceAdd, Nat.reduceSub, reduceCtorEq, false_and, exists_false, false_or, or_false, CPow, CMul, CDiv, Int.reduceToNat, ↓reduceIte, wipe, sw, List.nil_append, List.singleton_append])
local macro_rules | `(tactic| walk_at "st") => `(tactic| (refine seq_op fun N hN => ?_; walk_at "rs"))
local macro_rules | `(tactic| walk_at "sd") => `(tactic| first | assumption | decide | omega)
local macro_rules | `(tactic| walk_at "rd") => `(tactic| repeat (first
  | refine ⟨_, SqL.of (by assumption), ?_⟩ | refine ⟨_, SqL.of upd_same, ?_⟩ | refine ⟨_, .inl (SqL.of (by assumption)), ?_⟩ | refine ⟨_, (by assumption : _ = some (HO.lst _)), ?_⟩ | refine ⟨_, upd_same, ?_⟩
  | refine ⟨_, rfl, ?_⟩ | refine And.intro (by walk_at "sd") ?_))

section
variable {P : Program} {w : World} {K : PySem.W.Frag} {mg : Str → Option Value} {base : Heap}
theorem ok_BadValue (T : Txt w K mg) : FnOk P w K mg base CX0 1 T.f_BadValue T.d_BadValue ["self", "value"] (spInit (T.cA "BadValue") "BadValue" ["value"]) := by
  refine T.F_BadValue.ok sc_BadValue (fun vs H Q E h => ?_) (fun cdv A outer s H vs Q E hr h => ?_)
  · obtain ⟨a, ws, rfl, hl, _⟩ := h
    exact congrArg Nat.succ hl
  · obtain ⟨a, ws, rfl, hl, ha, k⟩ := h
    obtain ⟨x0, rfl⟩ := args1 hl
    have Uc := T.U (kd_BadValue T.cA) kin_BadValue
    refine ⟨_, (pss_cons (ps_ostM baseVE (pv 0) (pv 1)) (pss_one (ps_ostM baseVE (pv 0) pe_str))), ?_⟩
    refine seq_op fun N hN => ?_
    unfold tOstM
    walk_at "rs"
    refine ⟨T.cA "BadValue", T.X_BadValue, (Uc.nf "value" (by show ("value" : Str) ∈ (["value"] : List Str); simp)), .inl ⟨ha, fun dx hdx ne => hN _ _ ?_⟩⟩
    clear hN N
    have I1 : Made H a (T.cA "BadValue") dx [("value", x0)] (L2.upd (L2.upd H dx (exd dx [("value", x0)])) a (exo a (T.cA "BadValue") (some dx))) := made1 ne
    generalize (L2.upd (L2.upd H dx (exd dx [("value", x0)])) a (exo a (T.cA "BadValue") (some dx))) = H1 at I1 ⊢
    unfold tOstM
    walk_at "rs"
    exact ⟨T.cA "BadValue", T.X_BadValue, Uc.nc, .inr ⟨dx, I1.at_, [("value", x0)], I1.atd, by simp, k dx _ hdx ne (I1.more ne).oth (I1.more ne).at_ (I1.more ne).atd⟩⟩
theorem ok_BadLine (T : Txt w K mg) : FnOk P w K mg base CX0 1 T.f_BadLine T.d_BadLine ["self", "line", "why"] (spInit (T.cA "BadLine") "BadLine" ["line", "why"]) := by
  refine T.F_BadLine.ok sc_BadLine (fun vs H Q E h => ?_) (fun cdv A outer s H vs Q E hr h => ?_)
  · obtain ⟨a, ws, rfl, hl, _⟩ := h
    exact congrArg Nat.succ hl
  · obtain ⟨a, ws, rfl, hl, ha, k⟩ := h
    obtain ⟨x0, x1, rfl⟩ := args2 hl
    have Uc := T.U (kd_BadLine T.cA) kin_BadLine
    refine ⟨_, (pss_cons (ps_ostM baseVE (pv 0) (pv 1)) (pss_cons (ps_ostM baseVE (pv 0) (pv 2)) (pss_one (ps_ostM baseVE (pv 0) pe_str)))), ?_⟩
    refine seq_op fun N hN => ?_
    unfold tOstM
    walk_at "rs"
    refine ⟨T.cA "BadLine", T.X_BadLine, (Uc.nf "line" (by show ("line" : Str) ∈ (["line", "why"] : List Str); simp)), .inl ⟨ha, fun dx hdx ne => hN _ _ ?_⟩⟩
    clear hN N
    have I1 : Made H a (T.cA "BadLine") dx [("line", x0)] (L2.upd (L2.upd H dx (exd dx [("line", x0)])) a (exo a (T.cA "BadLine") (some dx))) := made1 ne
    generalize (L2.upd (L2.upd H dx (exd dx [("line", x0)])) a (exo a (T.cA "BadLine") (some dx))) = H1 at I1 ⊢
    refine seq_op fun N hN => ?_
    unfold tOstM
    walk_at "rs"
    refine ⟨T.cA "BadLine", T.X_BadLine, (Uc.nf "why" (by show ("why" : Str) ∈ (["line", "why"] : List Str); simp)), .inr ⟨dx, I1.at_, [("line", x0)], I1.atd, by simp, hN _ _ ?_⟩⟩
    clear hN N
    have I2 := I1.more (f := "why") (y := x1) ne
    generalize (L2.upd H1 dx (exd dx (("why", x1) :: [("line", x0)]))) = H2 at I2 ⊢
    unfold tOstM
    walk_at "rs"
    exact ⟨T.cA "BadLine", T.X_BadLine, Uc.nc, .inr ⟨dx, I2.at_, [("why", x1), ("line", x0)], I2.atd, by simp, k dx _ hdx ne (I2.more ne).oth (I2.more ne).at_ (I2.more ne).atd⟩⟩
theorem ok_NoText (T : Txt w K mg) : FnOk P w K mg base CX0 1 T.f_NoText T.d_NoText ["self", "at"] (spInit (T.cA "NoText") "NoText" ["at"]) := by
  refine T.F_NoText.ok sc_NoText (fun vs H Q E h => ?_) (fun cdv A outer s H vs Q E hr h => ?_)
  · obtain ⟨a, ws, rfl, hl, _⟩ := h
    exact congrArg Nat.succ hl
  · obtain ⟨a, ws, rfl, hl, ha, k⟩ := h
    obtain ⟨x0, rfl⟩ := args1 hl
    have Uc := T.U (kd_NoText T.cA) kin_NoText
    refine ⟨_, (pss_cons (ps_ostM baseVE (pv 0) (pv 1)) (pss_one (ps_ostM baseVE (pv 0) pe_str))), ?_⟩
    refine seq_op fun N hN => ?_
    unfold tOstM
    walk_at "rs"
    refine ⟨T.cA "NoText", T.X_NoText, (Uc.nf "at" (by show ("at" : Str) ∈ (["at"] : List Str); simp)), .inl ⟨ha, fun dx hdx ne => hN _ _ ?_⟩⟩
    clear hN N
    have I1 : Made H a (T.cA "NoText") dx [("at", x0)] (L2.upd (L2.upd H dx (exd dx [("at", x0)])) a (exo a (T.cA "NoText") (some dx))) := made1 ne
    generalize (L2.upd (L2.upd H dx (exd dx [("at", x0)])) a (exo a (T.cA "NoText") (some dx))) = H1 at I1 ⊢
    unfold tOstM
    walk_at "rs"
    exact ⟨T.cA "NoText", T.X_NoText, Uc.nc, .inr ⟨dx, I1.at_, [("at", x0)], I1.atd, by simp, k dx _ hdx ne (I1.more ne).oth (I1.more ne).at_ (I1.more ne).atd⟩⟩
theorem ok_TooLong (T : Txt w K mg) : FnOk P w K mg base CX0 1 T.f_TooLong T.d_TooLong ["self", "length"] (spInit (T.cA "TooLong") "TooLong" ["length"]) := by
  refine T.F_TooLong.ok sc_TooLong (fun vs H Q E h => ?_) (fun cdv A outer s H vs Q E hr h => ?_)
  · obtain ⟨a, ws, rfl, hl, _⟩ := h
    exact congrArg Nat.succ hl
  · obtain ⟨a, ws, rfl, hl, ha, k⟩ := h
    obtain ⟨x0, rfl⟩ := args1 hl
    have Uc := T.U (kd_TooLong T.cA) kin_TooLong
    refine ⟨_, (pss_cons (ps_ostM baseVE (pv 0) (pv 1)) (pss_one (ps_ostM baseVE (pv 0) pe_str))), ?_⟩
    refine seq_op fun N hN => ?_
    unfold tOstM
    walk_at "rs"
    refine ⟨T.cA "TooLong", T.X_TooLong, (Uc.nf "length" (by show ("length" : Str) ∈ (["length"] : List Str); simp)), .inl ⟨ha, fun dx hdx ne => hN _ _ ?_⟩⟩
    clear hN N
    have I1 : Made H a (T.cA "TooLong") dx [("length", x0)] (L2.upd (L2.upd H dx (exd dx [("length", x0)])) a (exo a (T.cA "TooLong") (some dx))) := made1 ne
    generalize (L2.upd (L2.upd H dx (exd dx [("length", x0)])) a (exo a (T.cA "TooLong") (some dx))) = H1 at I1 ⊢
    unfold tOstM
    walk_at "rs"
    exact ⟨T.cA "TooLong", T.X_TooLong, Uc.nc, .inr ⟨dx, I1.at_, [("length", x0)], I1.atd, by simp, k dx _ hdx ne (I1.more ne).oth (I1.more ne).at_ (I1.more ne).atd⟩⟩
theorem ok_BadNet (T : Txt w K mg) : FnOk P w K mg base CX0 1 T.f_BadNet T.d_BadNet ["self", "where"] (spInit (T.cA "BadNet") "BadNet" ["where"]) := by
  refine T.F_BadNet.ok sc_BadNet (fun vs H Q E h => ?_) (fun cdv A outer s H vs Q E hr h => ?_)
  · obtain ⟨a, ws, rfl, hl, _⟩ := h
    exact congrArg Nat.succ hl
  · obtain ⟨a, ws, rfl, hl, ha, k⟩ := h
    obtain ⟨x0, rfl⟩ := args1 hl
    have Uc := T.U (kd_BadNet T.cA) kin_BadNet
    refine ⟨_, (pss_cons (ps_ostM baseVE (pv 0) (pv 1)) (pss_one (ps_ostM baseVE (pv 0) pe_str))), ?_⟩
    refine seq_op fun N hN => ?_
    unfold tOstM
    walk_at "rs"
    refine ⟨T.cA "BadNet", T.X_BadNet, (Uc.nf "where" (by show ("where" : Str) ∈ (["where"] : List Str); simp)), .inl ⟨ha, fun dx hdx ne => hN _ _ ?_⟩⟩
    clear hN N
    have I1 : Made H a (T.cA "BadNet") dx [("where", x0)] (L2.upd (L2.upd H dx (exd dx [("where", x0)])) a (exo a (T.cA "BadNet") (some dx))) := made1 ne
    generalize (L2.upd (L2.upd H dx (exd dx [("where", x0)])) a (exo a (T.cA "BadNet") (some dx))) = H1 at I1 ⊢
    unfold tOstM
    walk_at "rs"
    exact ⟨T.cA "BadNet", T.X_BadNet, Uc.nc, .inr ⟨dx, I1.at_, [("where", x0)], I1.atd, by simp, k dx _ hdx ne (I1.more ne).oth (I1.more ne).at_ (I1.more ne).atd⟩⟩
theorem ok_BadText (T : Txt w K mg) : FnOk P w K mg base CX0 1 T.f_BadText T.d_BadText ["self", "line"] (spInit (T.cA "BadText") "BadText" ["line"]) := by
  refine T.F_BadText.ok sc_BadText (fun vs H Q E h => ?_) (fun cdv A outer s H vs Q E hr h => ?_)
  · obtain ⟨a, ws, rfl, hl, _⟩ := h
    exact congrArg Nat.succ hl
  · obtain ⟨a, ws, rfl, hl, ha, k⟩ := h
    obtain ⟨x0, rfl⟩ := args1 hl
    have Uc := T.U (kd_BadText T.cA) kin_BadText
    refine ⟨_, (pss_cons (ps_ostM baseVE (pv 0) (pv 1)) (pss_one (ps_ostM baseVE (pv 0) pe_str))), ?_⟩
    refine seq_op fun N hN => ?_
    unfold tOstM
    walk_at "rs"
    refine ⟨T.cA "BadText", T.X_BadText, (Uc.nf "line" (by show ("line" : Str) ∈ (["line"] : List Str); simp)), .inl ⟨ha, fun dx hdx ne => hN _ _ ?_⟩⟩
    clear hN N
    have I1 : Made H a (T.cA "BadText") dx [("line", x0)] (L2.upd (L2.upd H dx (exd dx [("line", x0)])) a (exo a (T.cA "BadText") (some dx))) := made1 ne
    generalize (L2.upd (L2.upd H dx (exd dx [("line", x0)])) a (exo a (T.cA "BadText") (some dx))) = H1 at I1 ⊢
    unfold tOstM
    walk_at "rs"
    exact ⟨T.cA "BadText", T.X_BadText, Uc.nc, .inr ⟨dx, I1.at_, [("line", x0)], I1.atd, by simp, k dx _ hdx ne (I1.more ne).oth (I1.more ne).at_ (I1.more ne).atd⟩⟩
theorem ok_BadChart (T : Txt w K mg) : FnOk P w K mg base CX0 1 T.f_BadChart T.d_BadChart ["self", "where"] (spInit (T.cA "BadChart") "BadChart" ["where"]) := by
  refine T.F_BadChart.ok sc_BadChart (fun vs H Q E h => ?_) (fun cdv A outer s H vs Q E hr h => ?_)
  · obtain ⟨a, ws, rfl, hl, _⟩ := h
    exact congrArg Nat.succ hl
  · obtain ⟨a, ws, rfl, hl, ha, k⟩ := h
    obtain ⟨x0, rfl⟩ := args1 hl
    have Uc := T.U (kd_BadChart T.cA) kin_BadChart
    refine ⟨_, (pss_cons (ps_ostM baseVE (pv 0) (pv 1)) (pss_one (ps_ostM baseVE (pv 0) pe_str))), ?_⟩
    refine seq_op fun N hN => ?_
    unfold tOstM
    walk_at "rs"
    refine ⟨T.cA "BadChart", T.X_BadChart, (Uc.nf "where" (by show ("where" : Str) ∈ (["where"] : List Str); simp)), .inl ⟨ha, fun dx hdx ne => hN _ _ ?_⟩⟩
    clear hN N
    have I1 : Made H a (T.cA "BadChart") dx [("where", x0)] (L2.upd (L2.upd H dx (exd dx [("where", x0)])) a (exo a (T.cA "BadChart") (some dx))) := made1 ne
    generalize (L2.upd (L2.upd H dx (exd dx [("where", x0)])) a (exo a (T.cA "BadChart") (some dx))) = H1 at I1 ⊢
    unfold tOstM
    walk_at "rs"
    exact ⟨T.cA "BadChart", T.X_BadChart, Uc.nc, .inr ⟨dx, I1.at_, [("where", x0)], I1.atd, by simp, k dx _ hdx ne (I1.more ne).oth (I1.more ne).at_ (I1.more ne).atd⟩⟩
theorem ok_Broken (T : Txt w K mg) : FnOk P w K mg base CX0 1 T.f_Broken T.d_Broken ["self", "line", "word"] (spInit (T.cA "Broken") "Broken" ["line", "word"]) := by
  refine T.F_Broken.ok sc_Broken (fun vs H Q E h => ?_) (fun cdv A outer s H vs Q E hr h => ?_)
  · obtain ⟨a, ws, rfl, hl, _⟩ := h
    exact congrArg Nat.succ hl
  · obtain ⟨a, ws, rfl, hl, ha, k⟩ := h
    obtain ⟨x0, x1, rfl⟩ := args2 hl
    have Uc := T.U (kd_Broken T.cA) kin_Broken
    refine ⟨_, (pss_cons (ps_ostM baseVE (pv 0) (pv 1)) (pss_cons (ps_ostM baseVE (pv 0) (pv 2)) (pss_one (ps_ostM baseVE (pv 0) pe_str)))), ?_⟩
    refine seq_op fun N hN => ?_
    unfold tOstM
    walk_at "rs"
    refine ⟨T.cA "Broken", T.X_Broken, (Uc.nf "line" (by show ("line" : Str) ∈ (["line", "word"] : List Str); simp)), .inl ⟨ha, fun dx hdx ne => hN _ _ ?_⟩⟩
    clear hN N
    have I1 : Made H a (T.cA "Broken") dx [("line", x0)] (L2.upd (L2.upd H dx (exd dx [("line", x0)])) a (exo a (T.cA "Broken") (some dx))) := made1 ne
    generalize (L2.upd (L2.upd H dx (exd dx [("line", x0)])) a (exo a (T.cA "Broken") (some dx))) = H1 at I1 ⊢
    refine seq_op fun N hN => ?_
    unfold tOstM
    walk_at "rs"
    refine ⟨T.cA "Broken", T.X_Broken, (Uc.nf "word" (by show ("word" : Str) ∈ (["line", "word"] : List Str); simp)), .inr ⟨dx, I1.at_, [("line", x0)], I1.atd, by simp, hN _ _ ?_⟩⟩
    clear hN N
    have I2 := I1.more (f := "word") (y := x1) ne
    generalize (L2.upd H1 dx (exd dx (("word", x1) :: [("line", x0)]))) = H2 at I2 ⊢
    unfold tOstM
    walk_at "rs"
    exact ⟨T.cA "Broken", T.X_Broken, Uc.nc, .inr ⟨dx, I2.at_, [("word", x1), ("line", x0)], I2.atd, by simp, k dx _ hdx ne (I2.more ne).oth (I2.more ne).at_ (I2.more ne).atd⟩⟩
theorem ok_BadChange (T : Txt w K mg) : FnOk P w K mg base CX0 1 T.f_BadChange T.d_BadChange ["self", "what"] (spInit (T.cA "BadChange") "BadChange" ["what"]) := by
  refine T.F_BadChange.ok sc_BadChange (fun vs H Q E h => ?_) (fun cdv A outer s H vs Q E hr h => ?_)
  · obtain ⟨a, ws, rfl, hl, _⟩ := h
    exact congrArg Nat.succ hl
  · obtain ⟨a, ws, rfl, hl, ha, k⟩ := h
    obtain ⟨x0, rfl⟩ := args1 hl
    have Uc := T.U (kd_BadChange T.cA) kin_BadChange
    refine ⟨_, (pss_cons (ps_ostM baseVE (pv 0) (pv 1)) (pss_one (ps_ostM baseVE (pv 0) pe_str))), ?_⟩
    refine seq_op fun N hN => ?_
    unfold tOstM
    walk_at "rs"
    refine ⟨T.cA "BadChange", T.X_BadChange, (Uc.nf "what" (by show ("what" : Str) ∈ (["what"] : List Str); simp)), .inl ⟨ha, fun dx hdx ne => hN _ _ ?_⟩⟩
    clear hN N
    have I1 : Made H a (T.cA "BadChange") dx [("what", x0)] (L2.upd (L2.upd H dx (exd dx [("what", x0)])) a (exo a (T.cA "BadChange") (some dx))) := made1 ne
    generalize (L2.upd (L2.upd H dx (exd dx [("what", x0)])) a (exo a (T.cA "BadChange") (some dx))) = H1 at I1 ⊢
    unfold tOstM
    walk_at "rs"
    exact ⟨T.cA "BadChange", T.X_BadChange, Uc.nc, .inr ⟨dx, I1.at_, [("what", x0)], I1.atd, by simp, k dx _ hdx ne (I1.more ne).oth (I1.more ne).at_ (I1.more ne).atd⟩⟩
theorem ok_BadPair (T : Txt w K mg) : FnOk P w K mg base CX0 1 T.f_BadPair T.d_BadPair ["self", "what"] (spInit (T.cA "BadPair") "BadPair" ["what"]) := by
  refine T.F_BadPair.ok sc_BadPair (fun vs H Q E h => ?_) (fun cdv A outer s H vs Q E hr h => ?_)
  · obtain ⟨a, ws, rfl, hl, _⟩ := h
    exact congrArg Nat.succ hl
  · obtain ⟨a, ws, rfl, hl, ha, k⟩ := h
    obtain ⟨x0, rfl⟩ := args1 hl
    have Uc := T.U (kd_BadPair T.cA) kin_BadPair
    refine ⟨_, (pss_cons (ps_ostM baseVE (pv 0) (pv 1)) (pss_one (ps_ostM baseVE (pv 0) pe_str))), ?_⟩
    refine seq_op fun N hN => ?_
    unfold tOstM
    walk_at "rs"
    refine ⟨T.cA "BadPair", T.X_BadPair, (Uc.nf "what" (by show ("what" : Str) ∈ (["what"] : List Str); simp)), .inl ⟨ha, fun dx hdx ne => hN _ _ ?_⟩⟩
    clear hN N
    have I1 : Made H a (T.cA "BadPair") dx [("what", x0)] (L2.upd (L2.upd H dx (exd dx [("what", x0)])) a (exo a (T.cA "BadPair") (some dx))) := made1 ne
    generalize (L2.upd (L2.upd H dx (exd dx [("what", x0)])) a (exo a (T.cA "BadPair") (some dx))) = H1 at I1 ⊢
    unfold tOstM
    walk_at "rs"
    exact ⟨T.cA "BadPair", T.X_BadPair, Uc.nc, .inr ⟨dx, I1.at_, [("what", x0)], I1.atd, by simp, k dx _ hdx ne (I1.more ne).oth (I1.more ne).at_ (I1.more ne).atd⟩⟩
theorem ok_BadDeed (T : Txt w K mg) : FnOk P w K mg base CX0 1 T.f_BadDeed T.d_BadDeed ["self", "at"] (spInit (T.cA "BadDeed") "BadDeed" ["at"]) := by
  refine T.F_BadDeed.ok sc_BadDeed (fun vs H Q E h => ?_) (fun cdv A outer s H vs Q E hr h => ?_)
  · obtain ⟨a, ws, rfl, hl, _⟩ := h
    exact congrArg Nat.succ hl
  · obtain ⟨a, ws, rfl, hl, ha, k⟩ := h
    obtain ⟨x0, rfl⟩ := args1 hl
    have Uc := T.U (kd_BadDeed T.cA) kin_BadDeed
    refine ⟨_, (pss_cons (ps_ostM baseVE (pv 0) (pv 1)) (pss_one (ps_ostM baseVE (pv 0) pe_str))), ?_⟩
    refine seq_op fun N hN => ?_
    unfold tOstM
    walk_at "rs"
    refine ⟨T.cA "BadDeed", T.X_BadDeed, (Uc.nf "at" (by show ("at" : Str) ∈ (["at"] : List Str); simp)), .inl ⟨ha, fun dx hdx ne => hN _ _ ?_⟩⟩
    clear hN N
    have I1 : Made H a (T.cA "BadDeed") dx [("at", x0)] (L2.upd (L2.upd H dx (exd dx [("at", x0)])) a (exo a (T.cA "BadDeed") (some dx))) := made1 ne
    generalize (L2.upd (L2.upd H dx (exd dx [("at", x0)])) a (exo a (T.cA "BadDeed") (some dx))) = H1 at I1 ⊢
    unfold tOstM
    walk_at "rs"
    exact ⟨T.cA "BadDeed", T.X_BadDeed, Uc.nc, .inr ⟨dx, I1.at_, [("at", x0)], I1.atd, by simp, k dx _ hdx ne (I1.more ne).oth (I1.more ne).at_ (I1.more ne).atd⟩⟩
theorem ok_Twice (T : Txt w K mg) : FnOk P w K mg base CX0 1 T.f_Twice T.d_Twice ["self", "name"] (spInit (T.cA "Twice") "Twice" ["name"]) := by
  refine T.F_Twice.ok sc_Twice (fun vs H Q E h => ?_) (fun cdv A outer s H vs Q E hr h => ?_)
  · obtain ⟨a, ws, rfl, hl, _⟩ := h
    exact congrArg Nat.succ hl
  · obtain ⟨a, ws, rfl, hl, ha, k⟩ := h
    obtain ⟨x0, rfl⟩ := args1 hl
    have Uc := T.U (kd_Twice T.cA) kin_Twice
    refine ⟨_, (pss_cons (ps_ostM baseVE (pv 0) (pv 1)) (pss_one (ps_ostM baseVE (pv 0) pe_str))), ?_⟩
    refine seq_op fun N hN => ?_
    unfold tOstM
    walk_at "rs"
    refine ⟨T.cA "Twice", T.X_Twice, (Uc.nf "name" (by show ("name" : Str) ∈ (["name"] : List Str); simp)), .inl ⟨ha, fun dx hdx ne => hN _ _ ?_⟩⟩
    clear hN N
    have I1 : Made H a (T.cA "Twice") dx [("name", x0)] (L2.upd (L2.upd H dx (exd dx [("name", x0)])) a (exo a (T.cA "Twice") (some dx))) := made1 ne
    generalize (L2.upd (L2.upd H dx (exd dx [("name", x0)])) a (exo a (T.cA "Twice") (some dx))) = H1 at I1 ⊢
    unfold tOstM
    walk_at "rs"
    exact ⟨T.cA "Twice", T.X_Twice, Uc.nc, .inr ⟨dx, I1.at_, [("name", x0)], I1.atd, by simp, k dx _ hdx ne (I1.more ne).oth (I1.more ne).at_ (I1.more ne).atd⟩⟩
theorem ok_NoName (T : Txt w K mg) : FnOk P w K mg base CX0 1 T.f_NoName T.d_NoName ["self", "name"] (spInit (T.cA "NoName") "NoName" ["name"]) := by
  refine T.F_NoName.ok sc_NoName (fun vs H Q E h => ?_) (fun cdv A outer s H vs Q E hr h => ?_)
  · obtain ⟨a, ws, rfl, hl, _⟩ := h
    exact congrArg Nat.succ hl
  · obtain ⟨a, ws, rfl, hl, ha, k⟩ := h
    obtain ⟨x0, rfl⟩ := args1 hl
    have Uc := T.U (kd_NoName T.cA) kin_NoName
    refine ⟨_, (pss_cons (ps_ostM baseLE (pv 0) (pv 1)) (pss_one (ps_ostM baseLE (pv 0) pe_str))), ?_⟩
    refine seq_op fun N hN => ?_
    unfold tOstM
    walk_at "rs"
    refine ⟨T.cA "NoName", T.X_NoName, (Uc.nf "name" (by show ("name" : Str) ∈ (["name"] : List Str); simp)), .inl ⟨ha, fun dx hdx ne => hN _ _ ?_⟩⟩
    clear hN N
    have I1 : Made H a (T.cA "NoName") dx [("name", x0)] (L2.upd (L2.upd H dx (exd dx [("name", x0)])) a (exo a (T.cA "NoName") (some dx))) := made1 ne
    generalize (L2.upd (L2.upd H dx (exd dx [("name", x0)])) a (exo a (T.cA "NoName") (some dx))) = H1 at I1 ⊢
    unfold tOstM
    walk_at "rs"
    exact ⟨T.cA "NoName", T.X_NoName, Uc.nc, .inr ⟨dx, I1.at_, [("name", x0)], I1.atd, by simp, k dx _ hdx ne (I1.more ne).oth (I1.more ne).at_ (I1.more ne).atd⟩⟩
theorem ok_TooMany (T : Txt w K mg) : FnOk P w K mg base CX0 1 T.f_TooMany T.d_TooMany ["self", "what", "count"] (spInit (T.cA "TooMany") "TooMany" ["what", "count"]) := by
  refine T.F_TooMany.ok sc_TooMany (fun vs H Q E h => ?_) (fun cdv A outer s H vs Q E hr h => ?_)
  · obtain ⟨a, ws, rfl, hl, _⟩ := h
    exact congrArg Nat.succ hl
  · obtain ⟨a, ws, rfl, hl, ha, k⟩ := h
    obtain ⟨x0, x1, rfl⟩ := args2 hl
    have Uc := T.U (kd_TooMany T.cA) kin_TooMany
    refine ⟨_, (pss_cons (ps_ostM baseRE (pv 0) (pv 1)) (pss_cons (ps_ostM baseRE (pv 0) (pv 2)) (pss_one (ps_ostM baseRE (pv 0) pe_str)))), ?_⟩
    refine seq_op fun N hN => ?_
    unfold tOstM
    walk_at "rs"
    refine ⟨T.cA "TooMany", T.X_TooMany, (Uc.nf "what" (by show ("what" : Str) ∈ (["what", "count"] : List Str); simp)), .inl ⟨ha, fun dx hdx ne => hN _ _ ?_⟩⟩
    clear hN N
    have I1 : Made H a (T.cA "TooMany") dx [("what", x0)] (L2.upd (L2.upd H dx (exd dx [("what", x0)])) a (exo a (T.cA "TooMany") (some dx))) := made1 ne
    generalize (L2.upd (L2.upd H dx (exd dx [("what", x0)])) a (exo a (T.cA "TooMany") (some dx))) = H1 at I1 ⊢
    refine seq_op fun N hN => ?_
    unfold tOstM
    walk_at "rs"
    refine ⟨T.cA "TooMany", T.X_TooMany, (Uc.nf "count" (by show ("count" : Str) ∈ (["what", "count"] : List Str); simp)), .inr ⟨dx, I1.at_, [("what", x0)], I1.atd, by simp, hN _ _ ?_⟩⟩
    clear hN N
    have I2 := I1.more (f := "count") (y := x1) ne
    generalize (L2.upd H1 dx (exd dx (("count", x1) :: [("what", x0)]))) = H2 at I2 ⊢
    unfold tOstM
    walk_at "rs"
    exact ⟨T.cA "TooMany", T.X_TooMany, Uc.nc, .inr ⟨dx, I2.at_, [("count", x1), ("what", x0)], I2.atd, by simp, k dx _ hdx ne (I2.more ne).oth (I2.more ne).at_ (I2.more ne).atd⟩⟩
theorem ok_NothingLeft (T : Txt w K mg) : FnOk P w K mg base CX0 1 T.f_NothingLeft T.d_NothingLeft ["self"] (spInit (T.cA "NothingLeft") "NothingLeft" []) := by
  refine T.F_NothingLeft.ok sc_NothingLeft (fun vs H Q E h => ?_) (fun cdv A outer s H vs Q E hr h => ?_)
  · obtain ⟨a, ws, rfl, hl, _⟩ := h
    exact congrArg Nat.succ hl
  · obtain ⟨a, ws, rfl, hl, ha, k⟩ := h
    obtain rfl := args0 hl
    have Uc := T.U (kd_NothingLeft T.cA) kin_NothingLeft
    refine ⟨_, (pss_one (ps_ostM baseIE (pv 0) pe_str)), ?_⟩
    unfold tOstM
    walk_at "rs"
    exact ⟨T.cA "NothingLeft", T.X_NothingLeft, Uc.nc, .inl ⟨ha, fun dx hdx ne => init0 hdx ne k⟩⟩
theorem xd_BadValue {X : Cx} (T : Txt X.w X.K X.mg) (hr : Room 2 X.A) (hg : Gl X "BadValue") : ExcDef X CX0 "ValueError" "ValueError.__new__" "ValueError.__init__" tailVE "BadValue" (T.cA "BadValue") T.f_BadValue 1 T.d_BadValue ["self", "value"] (spInit (T.cA "BadValue") "BadValue" ["value"]) := ⟨baseVE, T.X_BadValue, T.i_BadValue, T.t_BadValue, ok_BadValue T, hr, pass0, hg, T.m_BadValue⟩
theorem xd_BadLine {X : Cx} (T : Txt X.w X.K X.mg) (hr : Room 2 X.A) (hg : Gl X "BadLine") : ExcDef X CX0 "ValueError" "ValueError.__new__" "ValueError.__init__" tailVE "BadLine" (T.cA "BadLine") T.f_BadLine 1 T.d_BadLine ["self", "line", "why"] (spInit (T.cA "BadLine") "BadLine" ["line", "why"]) := ⟨baseVE, T.X_BadLine, T.i_BadLine, T.t_BadLine, ok_BadLine T, hr, pass0, hg, T.m_BadLine⟩
theorem xd_NoText {X : Cx} (T : Txt X.w X.K X.mg) (hr : Room 2 X.A) (hg : Gl X "NoText") : ExcDef X CX0 "ValueError" "ValueError.__new__" "ValueError.__init__" tailVE "NoText" (T.cA "NoText") T.f_NoText 1 T.d_NoText ["self", "at"] (spInit (T.cA "NoText") "NoText" ["at"]) := ⟨baseVE, T.X_NoText, T.i_NoText, T.t_NoText, ok_NoText T, hr, pass0, hg, T.m_NoText⟩
theorem xd_TooLong {X : Cx} (T : Txt X.w X.K X.mg) (hr : Room 2 X.A) (hg : Gl X "TooLong") : ExcDef X CX0 "ValueError" "ValueError.__new__" "ValueError.__init__" tailVE "TooLong" (T.cA "TooLong") T.f_TooLong 1 T.d_TooLong ["self", "length"] (spInit (T.cA "TooLong") "TooLong" ["length"]) := ⟨baseVE, T.X_TooLong, T.i_TooLong, T.t_TooLong, ok_TooLong T, hr, pass0, hg, T.m_TooLong⟩
theorem xd_BadNet {X : Cx} (T : Txt X.w X.K X.mg) (hr : Room 2 X.A) (hg : Gl X "BadNet") : ExcDef X CX0 "ValueError" "ValueError.__new__" "ValueError.__init__" tailVE "BadNet" (T.cA "BadNet") T.f_BadNet 1 T.d_BadNet ["self", "where"] (spInit (T.cA "BadNet") "BadNet" ["where"]) := ⟨baseVE, T.X_BadNet, T.i_BadNet, T.t_BadNet, ok_BadNet T, hr, pass0, hg, T.m_BadNet⟩
theorem xd_BadText {X : Cx} (T : Txt X.w X.K X.mg) (hr : Room 2 X.A) (hg : Gl X "BadText") : ExcDef X CX0 "ValueError" "ValueError.__new__" "ValueError.__init__" tailVE "BadText" (T.cA "BadText") T.f_BadText 1 T.d_BadText ["self", "line"] (spInit (T.cA "BadText") "BadText" ["line"]) := ⟨baseVE, T.X_BadText, T.i_BadText, T.t_BadText, ok_BadText T, hr, pass0, hg, T.m_BadText⟩
theorem xd_BadChart {X : Cx} (T : Txt X.w X.K X.mg) (hr : Room 2 X.A) (hg : Gl X "BadChart") : ExcDef X CX0 "ValueError" "ValueError.__new__" "ValueError.__init__" tailVE "BadChart" (T.cA "BadChart") T.f_BadChart 1 T.d_BadChart ["self", "where"] (spInit (T.cA "BadChart") "BadChart" ["where"]) := ⟨baseVE, T.X_BadChart, T.i_BadChart, T.t_BadChart, ok_BadChart T, hr, pass0, hg, T.m_BadChart⟩
theorem xd_Broken {X : Cx} (T : Txt X.w X.K X.mg) (hr : Room 2 X.A) (hg : Gl X "Broken") : ExcDef X CX0 "ValueError" "ValueError.__new__" "ValueError.__init__" tailVE "Broken" (T.cA "Broken") T.f_Broken 1 T.d_Broken ["self", "line", "word"] (spInit (T.cA "Broken") "Broken" ["line", "word"]) := ⟨baseVE, T.X_Broken, T.i_Broken, T.t_Broken, ok_Broken T, hr, pass0, hg, T.m_Broken⟩
theorem xd_BadChange {X : Cx} (T : Txt X.w X.K X.mg) (hr : Room 2 X.A) (hg : Gl X "BadChange") : ExcDef X CX0 "ValueError" "ValueError.__new__" "ValueError.__init__" tailVE "BadChange" (T.cA "BadChange") T.f_BadChange 1 T.d_BadChange ["self", "what"] (spInit (T.cA "BadChange") "BadChange" ["what"]) := ⟨baseVE, T.X_BadChange, T.i_BadChange, T.t_BadChange, ok_BadChange T, hr, pass0, hg, T.m_BadChange⟩
theorem xd_BadPair {X : Cx} (T : Txt X.w X.K X.mg) (hr : Room 2 X.A) (hg : Gl X "BadPair") : ExcDef X CX0 "ValueError" "ValueError.__new__" "ValueError.__init__" tailVE "BadPair" (T.cA "BadPair") T.f_BadPair 1 T.d_BadPair ["self", "what"] (spInit (T.cA "BadPair") "BadPair" ["what"]) := ⟨baseVE, T.X_BadPair, T.i_BadPair, T.t_BadPair, ok_BadPair T, hr, pass0, hg, T.m_BadPair⟩
theorem xd_BadDeed {X : Cx} (T : Txt X.w X.K X.mg) (hr : Room 2 X.A) (hg : Gl X "BadDeed") : ExcDef X CX0 "ValueError" "ValueError.__new__" "ValueError.__init__" tailVE "BadDeed" (T.cA "BadDeed") T.f_BadDeed 1 T.d_BadDeed ["self", "at"] (spInit (T.cA "BadDeed") "BadDeed" ["at"]) := ⟨baseVE, T.X_BadDeed, T.i_BadDeed, T.t_BadDeed, ok_BadDeed T, hr, pass0, hg, T.m_BadDeed⟩
theorem xd_Twice {X : Cx} (T : Txt X.w X.K X.mg) (hr : Room 2 X.A) (hg : Gl X "Twice") : ExcDef X CX0 "ValueError" "ValueError.__new__" "ValueError.__init__" tailVE "Twice" (T.cA "Twice") T.f_Twice 1 T.d_Twice ["self", "name"] (spInit (T.cA "Twice") "Twice" ["name"]) := ⟨baseVE, T.X_Twice, T.i_Twice, T.t_Twice, ok_Twice T, hr, pass0, hg, T.m_Twice⟩
theorem xd_NoName {X : Cx} (T : Txt X.w X.K X.mg) (hr : Room 2 X.A) (hg : Gl X "NoName") : ExcDef X CX0 "LookupError" "LookupError.__new__" "LookupError.__init__" tailLE "NoName" (T.cA "NoName") T.f_NoName 1 T.d_NoName ["self", "name"] (spInit (T.cA "NoName") "NoName" ["name"]) := ⟨baseLE, T.X_NoName, T.i_NoName, T.t_NoName, ok_NoName T, hr, pass0, hg, T.m_NoName⟩
theorem xd_TooMany {X : Cx} (T : Txt X.w X.K X.mg) (hr : Room 2 X.A) (hg : Gl X "TooMany") : ExcDef X CX0 "RuntimeError" "RuntimeError.__new__" "RuntimeError.__init__" tailRE "TooMany" (T.cA "TooMany") T.f_TooMany 1 T.d_TooMany ["self", "what", "count"] (spInit (T.cA "TooMany") "TooMany" ["what", "count"]) := ⟨baseRE, T.X_TooMany, T.i_TooMany, T.t_TooMany, ok_TooMany T, hr, pass0, hg, T.m_TooMany⟩
theorem xd_NothingLeft {X : Cx} (T : Txt X.w X.K X.mg) (hr : Room 2 X.A) (hg : Gl X "NothingLeft") : ExcDef X CX0 "IndexError" "IndexError.__new__" "IndexError.__init__" tailIE "NothingLeft" (T.cA "NothingLeft") T.f_NothingLeft 1 T.d_NothingLeft ["self"] (spInit (T.cA "NothingLeft") "NothingLeft" []) := ⟨baseIE, T.X_NothingLeft, T.i_NothingLeft, T.t_NothingLeft, ok_NothingLeft T, hr, pass0, hg, T.m_NothingLeft⟩

end
end LK

set_option Elab.async false
set_option linter.all false
set_option maxRecDepth 100000
namespace LK
open PySem PySem.Spec PyProof.Rows L2
local macro_rules | `(tactic| walk_at "rs") => `(tactic| simp only [cxK, cxNK, tCallZ, tAsg, tOp, rI0, rS0, rB0, rI, rU, tUn, rEq, rNe, rIxL, rIxT, rIxS, rSetL, rSlLU, rSlS, rSlU, rCatL, rCatU, rRepL, rIn, tVar, tC, gName, gSub, tIfS, tTest, tB, tAnd, tOr, tNot, tNotV, tAndV, tOrV, tIf, tCall, tCons, tNil, tCB, tDrop, tRet, tRetN, tNext, tLstU, tTupU, tM0, tM1, tPar, tPar3, tAug, ipI, tBM, tBM0, rAppend, rPop, tBreak, tCont, tChain, tSl, tPart, tNoPart, L2.start, List.map, List.length_cons, List.length_nil, List.replicate, List.cons_append, List.nil_append, List.append_nil, List.getElem?_cons_zero, List.getElem?_cons_succ, List.set_cons_zero, List.set_cons_succ, Option.some.injEq, V.int.injEq, V.ref.injEq, V.str.injEq, V.bl.injEq, exists_eq_left', exists_eq_left, exists_and_left, decide_eq_true_eq, List.cons.injEq, and_true, true_and, scal, tExV, tEf, rIsEr, tDGet2, rIxLT, Bool.not_eq_true', decide_eq_false_iff_not, Nat.zero_add, Nat.reduceAdd, Nat.reduceSub, reduceCtorEq, false_and, exists_false, false_or, or_false, CPow, CMul, CDiv, Int.reduceToNat, ↓reduceIte, wipe, sw, List.nil_append, List.singleton_append])
local macro_rules | `(tactic| walk_at "st") => `(tactic| (refine seq_op fun N hN => ?_; walk_at "rs"))
local macro_rules | `(tactic| walk_at "sd") => `(tactic| first | assumption | decide | omega)
local macro_rules | `(tactic| walk_at "rd") => `(tactic| repeat (first
  | refine ⟨_, SqL.of (by assumption), ?_⟩ | refine ⟨_, SqL.of upd_same, ?_⟩ | refine ⟨_, .inl (SqL.of (by assumption)), ?_⟩ | refine ⟨_, (by assumption : _ = some (HO.lst _)), ?_⟩ | refine ⟨_, upd_same, ?_⟩
  | refine ⟨_, rfl, ?_⟩ | refine And.intro (by walk_at "sd") ?_))

section
variable {P : Program} {w : World} {K : PySem.W.Frag} {mg : Str → Option Value} {base : Heap}
theorem ok__law_draw (T : Txt w K mg) : FnOk P w K mg base CX0 1 T.a__law_draw T.d__law_draw ["bag", "size"] sp__law_draw := by
  refine T.F__law_draw.ok sc__law_draw (fun vs H Q E h => ?_) (fun cdv A outer s H vs Q E hr h => ?_)
  · obtain ⟨b, c, n, rfl, _⟩ := h
    rfl
  · obtain ⟨b, c, n, rfl, ⟨cells, i, g, m, d, hB, hC, ncb, hi, hm, hm2⟩, n0, n1, k⟩ := h
    refine ⟨_, (pss_cons (ps_asg (pe_op op_add (pe_ix ix_list (pv 0) pe_int (fun _ _ => rfl)) pe_int) (pg_sub (pv 0) pe_int set_list))
      (pss_cons (ps_if (PW.pt (pw_and (pt_cmpR op_eqI (pe_ix ix_list (pv 0) pe_int (fun _ _ => rfl)) pe_int (nomark _)) (pw_and1 (pt_cmpR op_lt (pe_ix ix_list (pv 0) pe_int (fun _ _ => rfl)) (pe_callB call_len_seq (by rfl) T.n_len (by decide +kernel) (pa_cons (pe_ix ix_list (pv 0) pe_int (fun _ _ => rfl)) pa_nil)) (nomark _))))) (pss_cons (ps_set (i := 2) sc__law_draw.nd rfl (Or.inl rfl) (pe_ix ix_list (pe_ix ix_list (pv 0) pe_int (fun _ _ => rfl)) (pe_ix ix_list (pv 0) pe_int (fun _ _ => rfl)) (fun _ _ => rfl)))
      (pss_cons (ps_asg (pe_op op_add (pe_ix ix_list (pv 0) pe_int (fun _ _ => rfl)) pe_int) (pg_sub (pv 0) pe_int set_list))
      (pss_one (ps_if (pt_cmpR op_ge (pv 2) (pe_op op_pow pe_int pe_int) (nomark _)) (pss_one (ps_asg (pv 2) (pg_sub (pv 0) pe_int set_list))) (pss_one (ps_asg (pe_op op_mod (pe_callTy call_intI (by rfl) T.n_int (by decide +kernel) (pa_cons (pe_op op_add (pe_op op_add (pe_op op_mul (pe_ix ix_list (pv 0) pe_int (fun _ _ => rfl)) pe_int) (pe_op op_mul (pe_op op_mod (pe_callTy call_intI (by rfl) T.n_int (by decide +kernel) (pa_cons (pv 2) pa_nil)) pe_int) pe_int)) pe_int) pa_nil)) pe_int) (pg_sub (pv 0) pe_int set_list))))))) pss_nil)
      (pss_cons (ps_if (pt_cmpR op_gt (pe_ix ix_list (pv 0) pe_int (fun _ _ => rfl)) pe_int (nomark _)) (pss_cons (ps_set (i := 3) sc__law_draw.nd rfl (Or.inl rfl) (pe_op op_mod (pe_callTy call_intI (by rfl) T.n_int (by decide +kernel) (pa_cons (pe_ix ix_list (pv 0) pe_int (fun _ _ => rfl)) pa_nil)) (pv 1)))
      (pss_cons (ps_asg (pe_op op_fdiv (pe_ix ix_list (pv 0) pe_int (fun _ _ => rfl)) (pv 1)) (pg_sub (pv 0) pe_int set_list))
      (pss_one (ps_ret (pv 3))))) pss_nil)
      (pss_cons (ps_asg (pe_op op_mod (pe_callTy call_intI (by rfl) T.n_int (by decide +kernel) (pa_cons (pe_op op_add (pe_op op_add (pe_op op_pow (pe_ix ix_list (pv 0) pe_int (fun _ _ => rfl)) pe_int) (pe_op op_mul (pe_ix ix_list (pv 0) pe_int (fun _ _ => rfl)) pe_int)) pe_int) pa_nil)) pe_int) (pg_sub (pv 0) pe_int set_list))
      (pss_one (ps_ret (pe_op op_mod (pe_callTy call_intI (by rfl) T.n_int (by decide +kernel) (pa_cons (pe_op op_add (pe_op op_fdiv (pe_ix ix_list (pv 0) pe_int (fun _ _ => rfl)) pe_int) (pe_op op_mul (pe_op op_mod (pe_callTy call_intI (by rfl) T.n_int (by decide +kernel) (pa_cons (pe_ix ix_list (pv 0) pe_int (fun _ _ => rfl)) pa_nil)) pe_int) pe_int)) pa_nil)) (pv 1)))))))), ?_⟩
    -- bag[4] = bag[4] + 1
    refine seq_op fun N hN => ?_
    walk_at "rs"
    refine ⟨_, SqL.of hB, _, rfl, _, rfl, _, hB, _, rfl, ?_⟩
    refine hN _ _ ?_
    clear hN N
    -- if bag[2] == 0 and bag[1] < len(bag[0]): ..
    have B1 : Bag (upd H b (.lst [.ref c, .int i, .int g, .int m, .int (d + 1)])) b c := ⟨cells, i, g, m, d + 1, upd_same, by rw [upd_ne ncb]; exact hC, ncb, hi, hm, hm2⟩
    have K1 : Kp b H (upd H b (.lst [.ref c, .int i, .int g, .int m, .int (d + 1)])) := Kp.upd
    show tSeq _ _ _ _ (upd H b (.lst [.ref c, .int i, .int g, .int m, .int (d + 1)]))
    generalize upd H b (.lst [.ref c, .int i, .int g, .int m, .int (d + 1)]) = H1 at B1 K1 ⊢
    clear hB hC ncb hi hm hm2 i g m d cells
    refine cut_seq (fun σ H2 => ∃ x, σ = [some (.ref b), some (.int n), x, none] ∧ Bag H2 b c ∧ Kp b H H2) (fun N hN => ?_) ?_
    · obtain ⟨cells, i, g, m, d, hB, hC, ncb, hi, hm, hm2⟩ := id B1
      walk_at "rs"
      refine ⟨_, SqL.of hB, _, rfl, _, rfl, ite2 (fun z => ?_) (fun _ => hN _ _ ⟨_, rfl, B1, K1⟩)⟩
      refine ⟨_, SqL.of hB, _, rfl, _, SqL.of hB, _, rfl, _, rfl, _, .inl (SqL.of hC), _, rfl, ite2 (fun zl => ?_) (fun _ => hN _ _ ⟨_, rfl, B1, K1⟩)⟩
      -- cell = bag[0][bag[1]]
      rw [List.length_map] at zl
      obtain ⟨cl, hcl⟩ : ∃ cl, cells[i.toNat]? = some cl := ⟨cells[i.toNat]'(by omega), List.getElem?_eq_getElem _⟩
      refine seq_op fun N2 hN2 => ?_
      walk_at "rs"
      walk_at "rd"
      refine ⟨_, _, rfl, SqL.of hC, _, at_of (j := i.toNat) (v := .int cl) (by omega) (by rw [List.getElem?_map, hcl] <;> rfl), hN2 _ _ ?_⟩
      clear hN2 N2
      -- bag[1] = bag[1] + 1
      refine seq_op fun N2 hN2 => ?_
      walk_at "rs"
      walk_at "rd"
      refine hN2 _ _ ?_
      clear hN2 N2
      -- if cell >= 10 ** 18: bag[2] = cell else: ..
      walk_at "rs"
      refine ⟨by decide, ite2 (fun _ => ?_) (fun _ => ?_)⟩
      · refine ⟨_, upd_same, _, rfl, hN _ _ ⟨_, rfl, ?_, ?_⟩⟩
        · exact ⟨cells, i + 1, cl, m, d, upd_same, by rw [upd_ne ncb, upd_ne ncb]; exact hC, ncb, by omega, hm, hm2⟩
        · exact K1.trans (Kp.upd.trans Kp.upd)
      · walk_at "rd"
        refine hN _ _ ⟨_, rfl, ?_, ?_⟩
        · exact ⟨cells, i + 1, g, _, d, upd_same, by rw [upd_ne ncb, upd_ne ncb]; exact hC, ncb, by omega, Int.emod_nonneg _ (by decide), Int.emod_lt_of_pos _ (by decide)⟩
        · exact K1.trans (Kp.upd.trans Kp.upd)
    · rintro σ H2 ⟨x, rfl, B2, K2⟩
      obtain ⟨cells, i, g, m, d, hB, hC, ncb, hi, hm, hm2⟩ := id B2
      -- if bag[2] > 0: ..
      refine seq_op fun N hN => ?_
      walk_at "rs"
      refine ⟨_, SqL.of hB, _, rfl, _, rfl, ite2 (fun _ => ?_) (fun _ => hN _ _ ?_)⟩
      · refine seq_op fun N2 hN2 => ?_
        walk_at "rs"
        walk_at "rd"
        refine hN2 _ _ ?_
        clear hN2 N2
        refine seq_op fun N2 hN2 => ?_
        walk_at "rs"
        refine ⟨_, SqL.of hB, _, rfl, _, rfl, ⟨n0, n1⟩, ?_⟩
        walk_at "rd"
        refine hN2 _ _ ?_
        walk_at "rs"
        exact k _ _ (Int.emod_nonneg _ (by omega)) (Int.emod_lt_of_pos _ n0) ⟨cells, i, _, m, d, upd_same, by rw [upd_ne ncb]; exact hC, ncb, hi, hm, hm2⟩ (K2.trans Kp.upd)
      · clear hN N
        refine seq_op fun N hN => ?_
        walk_at "rs"
        refine ⟨_, SqL.of hB, _, rfl, _, rfl, ⟨by decide, by decide, by omega⟩, _, SqL.of hB, _, rfl, _, rfl, .inr (by decide), by decide, ?_⟩
        walk_at "rd"
        refine hN _ _ ?_
        clear hN N
        walk_at "rs"
        walk_at "rd"
        exact k _ _ (Int.emod_nonneg _ (by omega)) (Int.emod_lt_of_pos _ n0) ⟨cells, i, g, _, d, upd_same, by rw [upd_ne ncb]; exact hC, ncb, hi, Int.emod_nonneg _ (by decide), Int.emod_lt_of_pos _ (by decide)⟩ (K2.trans Kp.upd)

theorem ok__law_of (T : Txt w K mg) : FnOk P w K mg base CX0 2 T.a__law_of T.d__law_of ["bag", "things"] (sp__law_of K) := by
  refine T.F__law_of.ok sc__law_of (fun vs H Q E h => ?_) (fun cdv A outer s H vs Q E hr h => ?_)
  · obtain ⟨b, c, x, ys, rfl, _⟩ := h
    rfl
  · obtain ⟨b, c, x, ys, rfl, B, sq, sqb, ne, hl, k⟩ := h
    have hr__law_draw : Room 1 _ := hr.mono (by decide)
    have G__law_draw := ok__law_draw (P := P) (base := base) T
    refine ⟨_, (pss_one (ps_ret (pe_ix ix_seq (pv 1) (pe_call G__law_draw hr__law_draw (by rfl) T.m__law_draw T.F__law_draw.kp T.B__law_draw .nil pass0 (pa_cons (pv 0) (pa_cons (pe_callB call_len (by rfl) T.n_len (by decide +kernel) (pa_cons (pv 1) pa_nil)) pa_nil))) (fun _ _ => rfl)))), ?_⟩
    walk_at "rs"
    have ln : 0 < ys.length := by cases ys with | nil => exact absurd rfl ne | cons => exact Nat.succ_pos _
    have pick : ∀ (r : Int), 0 ≤ r → r < (ys.length : Int) → ∃ y, atI ys r = some y ∧ y ∈ ys := fun r r0 r1 => by
      have h1 : r.toNat < ys.length := by omega
      exact ⟨ys[r.toNat], at_of (j := r.toNat) (by omega) (List.getElem?_eq_getElem h1), List.getElem_mem h1⟩
    refine ⟨ys.length, ?_, b, c, _, rfl, B, by omega, by omega, fun r H' r0 r1 B' K' => ?_⟩
    · rcases sq with ⟨p, rfl, h⟩ | ⟨p, rfl, h⟩ | ⟨z, rfl, hz, rfl⟩
      · exact .inl ⟨_, h, rfl⟩
      · exact .inr ⟨_, h, rfl⟩
      · refine ⟨Nat.le_trans hz (by decide), ?_⟩
        rw [List.length_map, Array.length_toList] <;> rfl
    · obtain ⟨y, e, hy⟩ := pick r r0 r1
      rcases sqb with ⟨p, rfl, h⟩ | ⟨p, rfl, h⟩ | ⟨z, rfl, hz, rfl⟩
      · exact .inl ⟨p, ys, r, y, rfl, rfl, Same.seq (hb_le _ _) (Same.seq K' h), e, k y H' hy B' K'⟩
      · exact .inr (.inl ⟨p, ys, r, y, rfl, rfl, Same.seqT (hb_le _ _) (Same.seqT K' h), e, k y H' hy B' K'⟩)
      · refine .inr (.inr ?_)
        have h1 : r.toNat < z.cps.toList.length := by rw [List.length_map] at r1; omega
        have e2 : atI z.cps.toList r = some z.cps.toList[r.toNat] := at_ofN (j := r.toNat) (by omega) (List.getElem?_eq_getElem h1)
        refine ⟨z, r, _, rfl, rfl, Nat.le_trans hz (by decide), e2, k _ H' ?_ B' K'⟩
        exact List.mem_map.mpr ⟨_, List.getElem_mem h1, rfl⟩
theorem ok__law_bag (T : Txt w K mg) : FnOk P w K mg base CX0 1 T.a__law_bag T.d__law_bag ["script"] (sp__law_bag K) := by
  refine T.F__law_bag.ok sc__law_bag (fun vs H Q E h => ?_) (fun cdv A outer s H vs Q E hr h => ?_)
  · obtain ⟨a, ns, rfl, _⟩ := h
    rfl
  · obtain ⟨a, ns, rfl, hS, hl, k⟩ := h
    refine ⟨_, (pss_cons (ps_set (i := 1) sc__law_bag.nd rfl (Or.inl rfl) pe_int)
      (pss_cons (ps_for PassesOwn.never rfl (pi_list (pe_slice sl_listU (pv 0) po_none (po_some pe_int))) (pg_name (i := 2) sc__law_bag.nd rfl (Or.inl rfl)) (pss_one (ps_set (i := 1) sc__law_bag.nd rfl (Or.inl rfl) (pe_op op_mod (pe_callTy call_intI (by rfl) T.n_int (by decide +kernel) (pa_cons (pe_op op_add (pe_op op_add (pe_op op_mul (pv 1) pe_int) (pe_op op_mod (pe_callTy call_intI (by rfl) T.n_int (by decide +kernel) (pa_cons (pv 2) pa_nil)) pe_int)) pe_int) pa_nil)) pe_int))))
      (pss_one (ps_ret (pe_lstU (pa_cons (pe_callTy call_listU (by rfl) T.n_list (by decide +kernel) (pa_cons (pe_slice sl_listU (pv 0) po_none (po_some pe_int)) pa_nil)) (pa_cons pe_int (pa_cons pe_int (pa_cons (pv 1) (pa_cons pe_int pa_nil)))))))))), ?_⟩
    refine seq_op fun N hN => ?_
    walk_at "rs"
    refine hN _ _ ?_
    clear hN N
    refine cut_seq (fun σ H2 => ∃ m x, σ = [some (.ref a), some (.int m), x] ∧ 0 ≤ m ∧ m < 2147483579 ∧ Same H H2) (fun N hN => ?_) ?_
    · refine ⟨_, rfl, _, rfl, a, _, rfl, hS, fun p H1 s1 h0 h1 => ?_⟩
      refine ⟨p, rfl, ⟨_, SqL.of h1⟩, for_list (K := K) (a := p) (xs := cutV (ns.map V.int) none (some 63)) (fun i σ H2 => ∃ m x, σ = [some (.ref a), some (.int m), x] ∧ 0 ≤ m ∧ m < 2147483579 ∧ Same H1 H2) ⟨_, _, rfl, by decide, by decide, Same.refl _⟩ (fun i σ H2 _ ⟨_, _, _, _, _, s2⟩ => SqL.of (s2 _ _ h1)) ?_ ?_⟩
      · rintro i y σ H2 hi ⟨m, x, rfl, m0, m1, s2⟩
        obtain ⟨u, rfl⟩ : ∃ u, y = V.int u := by
          have q := List.mem_of_getElem? hi
          have q2 : y ∈ (ns.map V.int).take 63 := (cutV_take (ns.map V.int) 63) ▸ q
          obtain ⟨u, _, rfl⟩ := List.mem_map.mp (List.mem_of_mem_take q2)
          exact ⟨u, rfl⟩
        walk_at "rs"
        refine ⟨.inr (by decide), by decide, by decide, _, _, ⟨rfl, rfl⟩, ?_⟩
        exact ⟨Int.emod_nonneg _ (by decide), Int.emod_lt_of_pos _ (by decide), s2⟩
      · rintro σ H2 ⟨m, x, rfl, m0, m1, s2⟩
        exact hN _ _ ⟨m, x, rfl, m0, m1, Same.trans s1 s2⟩
    · rintro σ H2 ⟨m, x, rfl, m0, m1, s2⟩
      walk_at "rs"
      refine ⟨_, Same.seq s2 hS, fun p H3 s3 h30 h3 => ⟨_, .inl (SqL.of h3), fun l H4 s4 h40 h4 => ⟨by decide, fun q H5 s5 h50 h5 => ?_⟩⟩⟩
      have e : cutV (ns.map V.int) none (some 63) = ns.map V.int := by
        refine (cutV_take (ns.map V.int) 63).trans ?_
        rw [List.take_of_length_le (by simpa using hl)]
      rw [e] at h4
      have s25 : Same H2 H5 := Same.trans s3 (Same.trans s4 s5)
      refine k q l H5 (Same.trans s2 s25) ⟨ns, 0, 0, m, 0, h5, s5 _ _ h4, fun z => ?_, Int.le_refl _, m0, m1⟩ ?_
      · rw [z, h50] at h4; cases h4
      · exact Same.dom s2 q (Same.dom s3 q (Same.dom s4 q h50))
end
end LK

set_option Elab.async false
set_option linter.all false
set_option maxRecDepth 100000
namespace LK
open PySem PySem.Spec PyProof.Rows L2
local macro_rules | `(tactic| walk_at "rs") => `(tactic| simp only [cxK, cxNK, tCallZ, tAsg, tOp, rI0, rS0, rB0, rI, rU, tUn, rEq, rNe, rIxL, rIxT, rIxS, rSetL, rSlLU, rSlS, rSlU, rCatL, rCatU, rRepL, rIn, tVar, tC, gName, gSub, tIfS, tTest, tB, tAnd, tOr, tNot, tNotV, tAndV, tOrV, tIf, tCall, tCons, tNil, tCB, tDrop, tRet, tRetN, tNext, tLstU, tTupU, tM0, tM1, tPar, tPar3, tAug, ipI, tBM, tBM0, rAppend, rPop, tBreak, tCont, tChain, tSl, tPart, tNoPart, L2.start, List.map, List.length_cons, List.length_nil, List.replicate, List.cons_append, List.nil_append, List.append_nil, List.getElem?_cons_zero, List.getElem?_cons_succ, List.set_cons_zero, List.set_cons_succ, Option.some.injEq, V.int.injEq, V.ref.injEq, V.str.injEq, V.bl.injEq, exists_eq_left', exists_eq_left, exists_and_left, decide_eq_true_eq, List.cons.injEq, and_true, true_and, scal, tExV, tEf, rIsEr, tDGet2, rIxLT, Bool.not_eq_true', decide_eq_false_iff_not, Nat.zero_add, Nat.reduceAdd, Nat.reduceSub, reduceCtorEq, false_and, exists_false, false_or, or_false, CPow, CMul, CDiv, Int.reduceToNat, ↓reduceIte, wipe, sw, List.nil_append, List.singleton_append])
local macro_rules | `(tactic| walk_at "st") => `(tactic| (refine seq_op fun N hN => ?_; walk_at "rs"))
local macro_rules | `(tactic| walk_at "sd") => `(tactic| first | assumption | decide | omega)
local macro_rules | `(tactic| walk_at "rd") => `(tactic| repeat (first
  | refine ⟨_, SqL.of (by assumption), ?_⟩ | refine ⟨_, SqL.of upd_same, ?_⟩ | refine ⟨_, .inl (SqL.of (by assumption)), ?_⟩ | refine ⟨_, (by assumption : _ = some (HO.lst _)), ?_⟩ | refine ⟨_, upd_same, ?_⟩
  | refine ⟨_, rfl, ?_⟩ | refine And.intro (by walk_at "sd") ?_))

theorem dep_tup (ds : List PyData) : dep (.tuple ds) = depAll ds + 1 := rfl
theorem dep_lst (ds : List PyData) : dep (.list ds) = depAll ds + 1 := rfl
theorem depAll_get : ∀ {ds : List PyData} {i : Nat} {d : PyData}, ds[i]? = some d → dep d ≤ depAll ds
  | [], _, _, e => by simp at e
  | a :: r, 0, _, e => by simp at e; subst e; exact Nat.le_max_left _ _
  | a :: r, i + 1, _, e => Nat.le_trans (depAll_get (ds := r) (i := i) (by simpa using e)) (Nat.le_max_right _ _)
theorem dpa_get4 {K : PySem.W.Frag} {H : Hp} : ∀ {vs : List V} {ds : List PyData} {i : Nat} {v : V}, DpAll K H vs ds → vs[i]? = some v → ∃ d, ds[i]? = some d ∧ Dp K H v d
  | _, _, _, _, .nil, e => by simp at e
  | _, _, 0, _, .cons r _, e => by simp at e; subst e; exact ⟨_, rfl, r⟩
  | _, _, i + 1, _, .cons _ t, e => by
    obtain ⟨d, h1, h2⟩ := dpa_get4 (i := i) t (by simpa using e)
    exact ⟨d, by simpa using h1, h2⟩
theorem dpa_len4 {K : PySem.W.Frag} {H : Hp} : ∀ {vs : List V} {ds : List PyData}, DpAll K H vs ds → vs.length = ds.length
  | _, _, .nil => rfl
  | _, _, .cons _ t => by simp [dpa_len4 t]
theorem ok_get4 : ∀ {ds : List PyData} {i : Nat} {d : PyData}, okAll ds = true → ds[i]? = some d → okD d = true
  | [], _, _, _, e => by simp at e
  | a :: r, 0, _, h, e => by
    simp at e; subst e
    unfold okAll at h; rw [Bool.and_eq_true] at h; exact h.1
  | a :: r, i + 1, _, h, e => by
    unfold okAll at h; rw [Bool.and_eq_true] at h
    exact ok_get4 (i := i) h.2 (by simpa using e)
theorem isTy_leaf {d : PyData} (h1 : ∀ ds, d ≠ .list ds) (h2 : ∀ ds, d ≠ .tuple ds) : isTy "list" d = false ∧ isTy "tuple" d = false := by
  cases d <;> simp [isTy] <;> first | exact absurd rfl (h1 _) | exact absurd rfl (h2 _)
theorem walk_zipT {K : PySem.W.Frag} {a b : Addr} {xs ys : List V} {n : Nat} (hx : xs.length = n) (hy : ys.length = n) : Walk (RZ.ItzT K a b) n (fun H => SqT K H a xs ∧ SqT K H b ys) (YPair (fun i => xs[i]?) (fun i => ys[i]?)) := by
  refine ⟨fun i _ hi q => ?_, fun _ q => ⟨xs, ys, q.1, q.2, by omega⟩, fun i H v H' _ q y => ?_⟩
  · have h1 : i < xs.length := by omega
    have h2 : i < ys.length := by omega
    exact ⟨xs, ys, xs[i], ys[i], q.1, q.2, by simp [h1], by simp [h2]⟩
  · obtain ⟨T, x, z, h1, h2, h3, h4, h5⟩ := y
    exact ⟨T, x, z, h1, h2, h3, h4 xs q.1, h5 ys q.2⟩
section
variable {P : Program} {w : World} {K : PySem.W.Frag} {mg : Str → Option Value} {base : Heap}
theorem like_step (T : Txt w K mg) (n : Nat) (ih : ∀ m, m + 1 = n → FnOk P w K mg base CX0 (m + 1) T.a__law_like T.d__law_like ["got", "due"] (sp__law_like K m)) : FnOk P w K mg base CX0 (n + 1) T.a__law_like T.d__law_like ["got", "due"] (sp__law_like K n) := by
  refine T.F__law_like.ok sc__law_like (fun vs H Q E h => ?_) (fun cdv A outer s H vs Q E hr h => ?_)
  · obtain ⟨v, u, d, rfl, _⟩ := h
    rfl
  · obtain ⟨v, u, d, rfl, hv, hu, hok, hdep, k⟩ := h
    have leaf : isTy "list" d = false ∧ isTy "tuple" d = false ∨ (∃ ds, (d = .list ds ∨ d = .tuple ds)) := by
      cases d <;> first | exact .inr ⟨_, .inl rfl⟩ | exact .inr ⟨_, .inr rfl⟩ | exact .inl ⟨rfl, rfl⟩
    rcases leaf with ⟨el, et⟩ | ⟨ds, hds⟩
    · refine ⟨_, (pss_cons (ps_if (pt_val (pe_callB call_isiDT (by rfl) T.n_isinstance (by decide +kernel) (pa_cons (pv 1) (pa_cons (pe_tupU (pa_cons (pe_bltn (v := .ty "list") (u := .type "list") (by rfl) T.n_list (by decide +kernel) rfl) (pa_cons (pe_bltn (v := .ty "tuple") (u := .type "tuple") (by rfl) T.n_tuple (by decide +kernel) rfl) pa_nil))) pa_nil)))) pss_never pss_nil) (pss_cons (ps_if (PW.pt (pw_or (pt_cmpR op_isN (pv 1) pe_non (nomark _)) (pw_or1 (pt_cmpR op_isN (pv 0) pe_non (nomark _))))) (pss_one (ps_ret (pe_and (pe_cmpR op_isN (pv 1) pe_non (nomark _)) (pe_one (pe_cmpR op_isN (pv 0) pe_non (nomark _)))))) pss_nil)
      (pss_cons (ps_if (PW.pt (pw_or (pt_val (pe_callB call_isiDT (by rfl) T.n_isinstance (by decide +kernel) (pa_cons (pv 0) (pa_cons (pe_tupU (pa_cons (pe_bltn (v := .ty "list") (u := .type "list") (by rfl) T.n_list (by decide +kernel) rfl) (pa_cons (pe_bltn (v := .ty "tuple") (u := .type "tuple") (by rfl) T.n_tuple (by decide +kernel) rfl) pa_nil))) pa_nil)))) (pw_or1 (pt_cmpR op_neB (pe_callB (call_isiDK (K := K) rfl) (by rfl) T.n_isinstance (by decide +kernel) (pa_cons (pv 0) (pa_cons (pe_bltn (v := .ty "bool") (u := .type "bool") (by rfl) T.n_bool (by decide +kernel) rfl) pa_nil))) (pe_callB (call_isiDK (K := K) rfl) (by rfl) T.n_isinstance (by decide +kernel) (pa_cons (pv 1) (pa_cons (pe_bltn (v := .ty "bool") (u := .type "bool") (by rfl) T.n_bool (by decide +kernel) rfl) pa_nil))) (nomark _))))) (pss_one (ps_ret pe_bl)) pss_nil)
      (pss_cons (ps_if (PW.pt (pw_or (pt_cmpR op_neB (pe_callB (call_isiDK (K := K) rfl) (by rfl) T.n_isinstance (by decide +kernel) (pa_cons (pv 0) (pa_cons (pe_bltn (v := .ty "str") (u := .type "str") (by rfl) T.n_str (by decide +kernel) rfl) pa_nil))) (pe_callB (call_isiDK (K := K) rfl) (by rfl) T.n_isinstance (by decide +kernel) (pa_cons (pv 1) (pa_cons (pe_bltn (v := .ty "str") (u := .type "str") (by rfl) T.n_str (by decide +kernel) rfl) pa_nil))) (nomark _)) (pw_or1 (pt_cmpR op_neB (pe_callB (call_isiDK (K := K) rfl) (by rfl) T.n_isinstance (by decide +kernel) (pa_cons (pv 0) (pa_cons (pe_bltn (v := .ty "int") (u := .type "int") (by rfl) T.n_int (by decide +kernel) rfl) pa_nil))) (pe_callB (call_isiDK (K := K) rfl) (by rfl) T.n_isinstance (by decide +kernel) (pa_cons (pv 1) (pa_cons (pe_bltn (v := .ty "int") (u := .type "int") (by rfl) T.n_int (by decide +kernel) rfl) pa_nil))) (nomark _))))) (pss_one (ps_ret pe_bl)) pss_nil)
      (pss_one (ps_ret (pe_cmpR op_eq (pv 0) (pv 1) (nomark _)))))))), ?_⟩
      refine seq_op fun N hN => ?_
      walk_at "rs"
      refine ⟨by decide, fun p H1 s1 h0 h1 => ⟨_, p, ⟨rfl, rfl⟩, h1, _, dp_same s1 hu, iteFF (by rw [el, et]; decide) (hN _ _ ?_)⟩⟩
      clear hN N h1
      have hv1 := dp_same s1 hv
      have hu1 := dp_same s1 hu
      have k1 := fun H' (s : Same H1 H') => k H' (Same.trans s1 s)
      refine seq_op fun N hN => ?_
      walk_at "rs"
      by_cases cn : d = .none
      · subst cn
        cases hu
        cases hv
        exact iteTT rfl (iteTT rfl (k1 H1 (Same.refl _)))
      · have vn : v ≠ .non := fun e => by subst e; cases hv; exact cn rfl
        have un : u ≠ .non := fun e => by subst e; cases hu; exact cn rfl
        refine iteFF un (iteFF vn (hN _ _ ?_))
        clear hN N
        refine seq_op fun N hN => ?_
        walk_at "rs"
        refine ⟨by decide, fun p2 H2 s2 h02 h12 => ⟨_, p2, ⟨rfl, rfl⟩, h12, _, dp_same s2 hv1, iteFF (by rw [el, et]; decide) ?_⟩⟩
        refine ⟨_, "bool", ⟨rfl, rfl⟩, _, dp_same s2 hv1, by simp, _, "bool", ⟨rfl, rfl⟩, _, dp_same s2 hu1, by simp, iteFF (by simp) (hN _ _ ?_)⟩
        clear hN N
        refine seq_op fun N hN => ?_
        walk_at "rs"
        refine ⟨_, "str", ⟨rfl, rfl⟩, _, dp_same s2 hv1, by simp, _, "str", ⟨rfl, rfl⟩, _, dp_same s2 hu1, by simp, iteFF (by simp) ?_⟩
        refine ⟨_, "int", ⟨rfl, rfl⟩, _, dp_same s2 hv1, by simp, _, "int", ⟨rfl, rfl⟩, _, dp_same s2 hu1, by simp, iteFF (by simp) (hN _ _ ?_)⟩
        clear hN N
        walk_at "rs"
        have kk := k1 H2 s2
        have fin : scal v u = true ∧ Q (.bl (decide (v = u))) H2 := by
          cases hv with
          | non => exact absurd rfl cn
          | bl b => cases hu; exact ⟨rfl, by rw [decide_eq_true rfl]; exact kk⟩
          | int b => cases hu; exact ⟨rfl, by rw [decide_eq_true rfl]; exact kk⟩
          | str b => cases hu; exact ⟨rfl, by rw [decide_eq_true rfl]; exact kk⟩
          | lst _ _ => simp [isTy] at el
          | tup _ _ => simp [isTy] at et
        exact fin
    · obtain ⟨m, rfl⟩ : ∃ m, n = m + 1 := by
        rcases hds with rfl | rfl
        · rw [dep_lst] at hdep; exact ⟨n - 1, by omega⟩
        · rw [dep_tup] at hdep; exact ⟨n - 1, by omega⟩
      have hr__law_like : Room (m + 1) _ := hr
      have G__law_like := ih m rfl
      have hdm : depAll ds ≤ m := by
        rcases hds with rfl | rfl
        · rw [dep_lst] at hdep; omega
        · rw [dep_tup] at hdep; omega
      refine ⟨_, (pss_cons (ps_if (pt_val (pe_callB call_isiDT (by rfl) T.n_isinstance (by decide +kernel) (pa_cons (pv 1) (pa_cons (pe_tupU (pa_cons (pe_bltn (v := .ty "list") (u := .type "list") (by rfl) T.n_list (by decide +kernel) rfl) (pa_cons (pe_bltn (v := .ty "tuple") (u := .type "tuple") (by rfl) T.n_tuple (by decide +kernel) rfl) pa_nil))) pa_nil)))) (pss_cons (ps_if (PW.pt (pw_or (pt_cmpR op_neB (pe_callB (call_isiDK (K := K) rfl) (by rfl) T.n_isinstance (by decide +kernel) (pa_cons (pv 0) (pa_cons (pe_bltn (v := .ty "list") (u := .type "list") (by rfl) T.n_list (by decide +kernel) rfl) pa_nil))) (pe_callB (call_isiDK (K := K) rfl) (by rfl) T.n_isinstance (by decide +kernel) (pa_cons (pv 1) (pa_cons (pe_bltn (v := .ty "list") (u := .type "list") (by rfl) T.n_list (by decide +kernel) rfl) pa_nil))) (nomark _)) (pw_or1 (pt_cmpR op_neB (pe_callB (call_isiDK (K := K) rfl) (by rfl) T.n_isinstance (by decide +kernel) (pa_cons (pv 0) (pa_cons (pe_bltn (v := .ty "tuple") (u := .type "tuple") (by rfl) T.n_tuple (by decide +kernel) rfl) pa_nil))) (pe_callB (call_isiDK (K := K) rfl) (by rfl) T.n_isinstance (by decide +kernel) (pa_cons (pv 1) (pa_cons (pe_bltn (v := .ty "tuple") (u := .type "tuple") (by rfl) T.n_tuple (by decide +kernel) rfl) pa_nil))) (nomark _))))) (pss_one (ps_ret pe_bl)) pss_nil)
      (pss_one (ps_ret (pe_and (pe_cmpR op_eqI (pe_callB call_lenD (by rfl) T.n_len (by decide +kernel) (pa_cons (pv 0) pa_nil)) (pe_callB call_lenD (by rfl) T.n_len (by decide +kernel) (pa_cons (pv 1) pa_nil)) (nomark _)) (pe_one (pe_callB (cr_all rfl) (by rfl) T.n_all (by decide +kernel) (pa_cons (pe_lc (own := [("one", 2), ("two", 3)]) (g := gTup K 2 (gCons (gName 2) (gCons (gName 3) (gNil)))) (tt := tYes) rfl sc__law_like.nd (RZ.pi_zipA (by rfl) T.n_zip (pa_cons (pv 0) (pa_cons (pv 1) pa_nil))) (blkOk_by (own := [("one", 2), ("two", 3)]) (N := N__law_like) (sc := defScope s__law_like) (by decide +kernel)) (fun _ _ _ _ _ => by exact (pg_tup rfl (pgs_cons (pg_name (i := 2) sc__law_like.nd rfl (Or.inl rfl)) (pgs_cons (pg_name (i := 3) sc__law_like.nd rfl (Or.inl rfl)) pgs_nil)))) (fun _ _ _ _ _ => pts_nil) (fun _ _ _ _ _ => (pe_call G__law_like hr__law_like (by rfl) T.m__law_like T.F__law_like.kp T.B__law_like .nil pass0 (pa_cons (pv 2) (pa_cons (pv 3) pa_nil))))) pa_nil))))))) pss_nil) pss_never), ?_⟩
      refine seq_op fun N hN => ?_
      clear hN
      walk_at "rs"
      refine ⟨by decide, fun p H1 s1 h0 h1 => ⟨_, p, ⟨rfl, rfl⟩, h1, _, dp_same s1 hu, iteTT (by rcases hds with rfl | rfl <;> simp [isTy]) ?_⟩⟩
      clear h1
      have hv1 := dp_same s1 hv
      have hu1 := dp_same s1 hu
      have k1 := fun H' (s : Same H1 H') => k H' (Same.trans s1 s)
      refine seq_op fun N2 hN2 => ?_
      walk_at "rs"
      refine ⟨_, "list", ⟨rfl, rfl⟩, _, hv1, by simp, _, "list", ⟨rfl, rfl⟩, _, hu1, by simp, iteFF (by simp) ?_⟩
      refine ⟨_, "tuple", ⟨rfl, rfl⟩, _, hv1, by simp, _, "tuple", ⟨rfl, rfl⟩, _, hu1, by simp, iteFF (by simp) (hN2 _ _ ?_)⟩
      clear hN2 N2
      walk_at "rs"
      have gm : ∀ (x : V) (σ0 : L2.St) (H0 : Hp) (Q0 Q1 : L2.St → Hp → Prop), (∀ σ2 H2, Q0 σ2 H2 → Q1 σ2 H2) → gTup K 2 (gCons (gName 2) (gCons (gName 3) gNil)) x σ0 H0 Q0 → gTup K 2 (gCons (gName 2) (gCons (gName 3) gNil)) x σ0 H0 Q1 :=
        fun x σ0 H0 Q0 Q1 h ⟨a, xs, e1, e2, e3, v, r, e4, v2, r2, e5, e6, q⟩ => ⟨a, xs, e1, e2, e3, v, r, e4, v2, r2, e5, e6, h _ _ q⟩
      have turn : ∀ {xs ys : List V} (hx : DpAll K H1 xs ds) (hy : DpAll K H1 ys ds) (i : Nat) (x : V) (H2 H' : Hp), Same H1 H2 → YPair (fun i => xs[i]?) (fun i => ys[i]?) i H2 x H' →
          gTup K 2 (gCons (gName 2) (gCons (gName 3) gNil)) x (wipe [some v, some u, none, none] [2, 3]) H' fun σ2 H3 => Same H2 H3 ∧ wipe σ2 [2, 3] = wipe [some v, some u, none, none] [2, 3] ∧ ∀ Q2 : V → Hp → Prop, (∀ H4, Same H3 H4 → Q2 (.bl true) H4) → tCall (sp__law_like K m) [] E0 (tCons (tVar 2) (tCons (tVar 3) tNil)) σ2 H3 Q2 := by
        rintro xs ys hx hy i x H2 H' s2 ⟨T0, y1, y2, rfl, hT, rfl, h1, h2⟩
        obtain ⟨d1, e1, hd1⟩ := dpa_get4 hx h1
        obtain ⟨d2, e2, hd2⟩ := dpa_get4 hy h2
        rw [e1] at e2
        cases e2
        have s3 := Same.trans s2 (same_upd (o := .tup [y1, y2]) hT)
        refine ⟨T0, [y1, y2], rfl, .inl (.inl upd_same), rfl, y1, [y2], rfl, y2, [], rfl, rfl, same_upd hT, rfl, fun Q2 hq => ?_⟩
        refine ⟨_, rfl, _, rfl, y1, y2, d1, rfl, dp_same s3 hd1, dp_same s3 hd2, ?_, Nat.le_trans (depAll_get e1) hdm, hq⟩
        refine ok_get4 ?_ e1
        rcases hds with rfl | rfl
        · exact (okD_lst.mp hok).2
        · exact (okD_tup.mp hok).2
      have fin : ∀ {D : Addr} {H' : Hp} {n : Nat}, Same H1 H' → H' D = some (.lst ((List.range n).map fun _ => V.bl true)) → rAll K [V.ref D] H' Q := by
        intro D H' n s h
        refine ⟨D, (List.range n).map fun _ => true, rfl, SqL.of (by rw [h, List.map_map]; rfl), ?_⟩
        rw [all_map_id]
        have e : ((List.range n).all fun _ => true) = true := by simp
        rw [e]
        exact k1 H' s
      refine ⟨_, hv1, .inl ⟨ds, hds, _, hu1, .inl ⟨ds, hds, iteTT rfl ?_⟩⟩⟩
      rcases hds with rfl | rfl
      · cases hv1 with
        | @lst a xs _ ha hda =>
          cases hu1 with
          | @lst b ys _ hb hdb =>
            have lx := dpa_len4 hda
            have ly := dpa_len4 hdb
            have small : ds.length ≤ 1000000 := Nat.le_trans (okD_lst.mp hok).1 (by decide)
            exact ⟨_, rfl, _, rfl, a, b, xs, ys, rfl, .inl ⟨ha, hb, fun D hD => lc_pure (walk_zip (n := ds.length) (by omega)) hD small (fun _ => .bl true) (fun H s => ⟨Same.seq s ha, Same.seq s hb⟩) (fun i x H2 H' _ s2 y => turn hda hdb i x H2 H' s2 y) gm fun H' s h => fin s h⟩⟩
      · cases hv1 with
        | @tup a xs _ ha hda =>
          cases hu1 with
          | @tup b ys _ hb hdb =>
            have lx := dpa_len4 hda
            have ly := dpa_len4 hdb
            have small : ds.length ≤ 1000000 := Nat.le_trans (okD_tup.mp hok).1 (by decide)
            exact ⟨_, rfl, _, rfl, a, b, xs, ys, rfl, .inr ⟨ha, hb, fun D hD => lc_pure (walk_zipT (n := ds.length) lx ly) hD small (fun _ => .bl true) (fun H s => ⟨Same.seqT s ha, Same.seqT s hb⟩) (fun i x H2 H' _ s2 y => turn hda hdb i x H2 H' s2 y) gm fun H' s h => fin s h⟩⟩
theorem ok__law_like (T : Txt w K mg) : ∀ n : Nat, FnOk P w K mg base CX0 (n + 1) T.a__law_like T.d__law_like ["got", "due"] (sp__law_like K n) := by
  intro n
  induction n with
  | zero => exact like_step T 0 fun m e => by omega
  | succ n ih =>
    refine like_step T (n + 1) fun m e => ?_
    obtain rfl : m = n := by omega
    exact ih
end
end LK

set_option Elab.async false
set_option linter.all false
set_option maxRecDepth 100000
namespace LK
open PySem PySem.Spec PyProof.Rows L2
local macro_rules | `(tactic| walk_at "rs") => `(tactic| simp only [cxK, cxNK, tCallZ, tAsg, tOp, rI0, rS0, rB0, rI, rU, tUn, rEq, rNe, rIxL, rIxT, rIxS, rSetL, rSlLU, rSlS, rSlU, rCatL, rCatU, rRepL, rIn, tVar, tC, gName, gSub, tIfS, tTest, tB, tAnd, tOr, tNot, tNotV, tAndV, tOrV, tIf, tCall, tCons, tNil, tCB, tDrop, tRet, tRetN, tNext, tLstU, tTupU, tM0, tM1, tPar, tPar3, tAug, ipI, tBM, tBM0, rAppend, rPop, tBreak, tCont, tChain, tSl, tPart, tNoPart, L2.start, List.map, List.length_cons, List.length_nil, List.replicate, List.cons_append, List.nil_append, List.append_nil, List.getElem?_cons_zero, List.getElem?_cons_succ, List.set_cons_zero, List.set_cons_succ, Option.some.injEq, V.int.injEq, V.ref.injEq, V.str.injEq, V.bl.injEq, exists_eq_left', exists_eq_left, exists_and_left, decide_eq_true_eq, List.cons.injEq, and_true, true_and, scal, tExV, tEf, rIsEr, tDGet2, rIxLT, Bool.not_eq_true', decide_eq_false_iff_not, Nat.zero_add, Nat.reduceAdd, Nat.reduceSub, reduceCtorEq, false_and, exists_false, false_or, or_false, CPow, CMul, CDiv, Int.reduceToNat, ↓reduceIte, wipe, sw, List.nil_append, List.singleton_append])
local macro_rules | `(tactic| walk_at "st") => `(tactic| (refine seq_op fun N hN => ?_; walk_at "rs"))
local macro_rules | `(tactic| walk_at "sd") => `(tactic| first | assumption | decide | omega)
local macro_rules | `(tactic| walk_at "rd") => `(tactic| repeat (first
  | refine ⟨_, SqL.of (by assumption), ?_⟩ | refine ⟨_, SqL.of upd_same, ?_⟩ | refine ⟨_, .inl (SqL.of (by assumption)), ?_⟩ | refine ⟨_, (by assumption : _ = some (HO.lst _)), ?_⟩ | refine ⟨_, upd_same, ?_⟩
  | refine ⟨_, rfl, ?_⟩ | refine And.intro (by walk_at "sd") ?_))

theorem okAll_mem {K : PySem.W.Frag} {G : Hp} {m : Nat} : ∀ {ys : List V}, (∀ v ∈ ys, ∃ d, Dp K G v d ∧ okD d = true ∧ dep d ≤ m) → ∃ ds, DpAll K G ys ds ∧ okAll ds = true ∧ depAll ds ≤ m ∧ ds.length = ys.length
  | [], _ => ⟨[], .nil, rfl, Nat.zero_le _, rfl⟩
  | v :: ys, h => by
    obtain ⟨d, h1, h2, h3⟩ := h v List.mem_cons_self
    obtain ⟨ds, q1, q2, q3, q4⟩ := okAll_mem (ys := ys) fun v hv => h v (List.mem_cons_of_mem _ hv)
    refine ⟨d :: ds, .cons h1 q1, ?_, Nat.max_le.mpr ⟨h3, q3⟩, by simp [q4]⟩
    unfold okAll
    rw [h2, q2]; rfl
theorem Kp.bn {b : Addr} {H H' : Hp} (k : Kp b H H') {o : HO} (h : H' b = some o) {p : Addr} (h0 : H' p = none) : H p = none := k.dom h p h0
theorem of_str {K : PySem.W.Frag} {H : Hp} {b c : Addr} (B : Bag H b c) {z : Str} (h0 : 0 < z.length) (h1 : z.length ≤ 100000) {Q : VK} {E : XK} (k : ∀ c0 H', Bag H' b c → Kp b H H' → Q (.str ⟨#[c0]⟩) H') : sp__law_of K [.ref b, .str z] H Q E := by
  have l := len_cps z
  refine ⟨b, c, .str z, _, rfl, B, .inr (.inr ⟨z, rfl, h1, rfl⟩), .inr (.inr ⟨z, rfl, h1, rfl⟩), ?_, ?_, fun y H' hy B' K' => ?_⟩
  · intro e
    have q := congrArg List.length e
    rw [List.length_map, l, List.length_nil] at q
    omega
  · rw [List.length_map]; omega
  · obtain ⟨c0, _, rfl⟩ := List.mem_map.mp hy
    exact k c0 H' B' K'
theorem of_lst {K : PySem.W.Frag} {H : Hp} {b c p : Addr} (B : Bag H b c) {ys : List V} (h : H p = some (.lst ys)) (n : p ≠ b) (ne : ys ≠ []) (hl : ys.length ≤ 1000000) {Q : VK} {E : XK} (k : ∀ y H', y ∈ ys → Bag H' b c → Kp b H H' → Q y H') : sp__law_of K [.ref b, .ref p] H Q E :=
  ⟨b, c, .ref p, ys, rfl, B, .inl ⟨p, rfl, SqL.of h⟩, .inl ⟨p, rfl, SqL.of (by rw [hb_ne n]; exact h)⟩, ne, hl, k⟩
theorem sqT_hb {K : PySem.W.Frag} {H : Hp} {b c q : Addr} {xs : List V} (B : Bag H b c) (h : SqT K H q xs) : SqT K (hb H b) q xs := by
  obtain ⟨yb, eb⟩ := B.at
  rcases h with (h | ⟨o, h⟩) | h
  · refine .inl (.inl ?_)
    rw [hb_ne]; exact h
    intro e; rw [e, eb] at h; cases h
  · refine .inl (.inr ⟨o, ?_⟩)
    rw [hb_ne]; exact h
    intro e; rw [e, eb] at h; cases h
  · exact .inr h
theorem of_new {K : PySem.W.Frag} {H H1 : Hp} {b c p : Addr} (B : Bag H b c) {L : List V} (s1 : Same H H1) (h0 : H p = none) (h1 : H1 p = some (.lst L)) (ne : L ≠ []) (hl : L.length ≤ 1000000) {Q : VK} {E : XK} (k : ∀ y H2, y ∈ L → Bag H2 b c → Kp b H H2 → Q y H2) : sp__law_of K [.ref b, .ref p] H1 Q E :=
  of_lst (B.same s1) h1 (fun e => by
    obtain ⟨xb, eb⟩ := B.at
    rw [e, eb] at h0; cases h0) ne hl fun y H2 hy B2 K2 => k y H2 hy B2 (Same.trans (Kp.of s1) K2)
/-- as before, of words -/
theorem of_newS {K : PySem.W.Frag} {H H1 : Hp} {b c p : Addr} (B : Bag H b c) (L : List Str) (s1 : Same H H1) (h0 : H p = none) (h1 : H1 p = some (.lst (L.map V.str))) (ne : L ≠ []) (hl : L.length ≤ 1000000) {m : Nat} (hm : ∀ z ∈ L, z.length ≤ m) {Q : VK} {E : XK} (k : ∀ z H2, z.length ≤ m → Bag H2 b c → Kp b H H2 → Q (.str z) H2) : sp__law_of K [.ref b, .ref p] H1 Q E :=
  of_new B s1 h0 h1 (by simpa using ne) (by rw [List.length_map]; exact hl) fun y H2 hy B2 K2 => by
    obtain ⟨z, hz, rfl⟩ := List.mem_map.mp hy
    exact k z H2 (hm z hz) B2 K2
theorem of_newR {K : PySem.W.Frag} {H H1 : Hp} {b c p : Addr} (B : Bag H b c) (L : List Str) (s1 : Same H H1) (h0 : H p = none) (h1 : H1 p = some (.lst (L.map V.str))) (ne : L ≠ []) (hl : L.length ≤ 1000000) {R : Str → Prop} (hm : ∀ z ∈ L, R z) {Q : VK} {E : XK} (k : ∀ z H2, R z → Bag H2 b c → Kp b H H2 → Q (.str z) H2) : sp__law_of K [.ref b, .ref p] H1 Q E :=
  of_new B s1 h0 h1 (by simpa using ne) (by rw [List.length_map]; exact hl) fun y H2 hy B2 K2 => by
    obtain ⟨z, hz, rfl⟩ := List.mem_map.mp hy
    exact k z H2 (hm z hz) B2 K2
theorem of_lstS {K : PySem.W.Frag} {H : Hp} {b c p : Addr} (B : Bag H b c) (L : List Str) (h : H p = some (.lst (L.map V.str))) (n : p ≠ b) (ne : L ≠ []) (hl : L.length ≤ 1000000) {m : Nat} (hm : ∀ z ∈ L, z.length ≤ m) {Q : VK} {E : XK} (k : ∀ z H', z.length ≤ m → Bag H' b c → Kp b H H' → Q (.str z) H') : sp__law_of K [.ref b, .ref p] H Q E :=
  of_lst B h n (by simpa using ne) (by rw [List.length_map]; exact hl) fun y H2 hy B2 K2 => by
    obtain ⟨z, hz, rfl⟩ := List.mem_map.mp hy
    exact k z H2 (hm z hz) B2 K2
/-- each thing in xs is a thing that can be told of -/
def Ev (K : PySem.W.Frag) (G : Hp) (xs : List V) : Prop := ∀ v ∈ xs, ∃ d, Dp K G v d ∧ okD d = true
theorem Ev.same {K : PySem.W.Frag} {G G' : Hp} {xs : List V} (s : Same G G') (h : Ev K G xs) : Ev K G' xs := fun v hv => by
  obtain ⟨d, h1, h2⟩ := h v hv
  exact ⟨d, dp_same s h1, h2⟩
theorem Ev.app {K : PySem.W.Frag} {G : Hp} {xs ys : List V} (h : Ev K G xs) (h' : Ev K G ys) : Ev K G (xs ++ ys) := fun v hv => (List.mem_append.mp hv).elim (h v) (h' v)
theorem Ev.cut {K : PySem.W.Frag} {G : Hp} {xs : List V} (h : Ev K G xs) (lo hi : Option Int) : Ev K G (cutV xs lo hi) := fun v hv => h v (List.mem_of_mem_drop (List.mem_of_mem_take hv))
theorem Ev.one {K : PySem.W.Frag} {G : Hp} {v : V} {d : PyData} (h : Dp K G v d) (ok : okD d = true) : Ev K G [v] := fun u hu => by
  obtain rfl := List.mem_singleton.mp hu
  exact ⟨d, h, ok⟩
theorem Ev.strs {K : PySem.W.Frag} {G : Hp} {ws : List Str} (h : ∀ z ∈ ws, z.length ≤ 20) : Ev K G (ws.map V.str) := fun v hv => by
  obtain ⟨z, hz, rfl⟩ := List.mem_map.mp hv
  exact ⟨.str z, .str z, decide_eq_true (Nat.le_trans (h z hz) (by decide))⟩
theorem Ev.all {K : PySem.W.Frag} {G : Hp} : ∀ {xs : List V}, Ev K G xs → ∃ ds, DpAll K G xs ds ∧ okAll ds = true ∧ ds.length = xs.length
  | [], _ => ⟨[], .nil, rfl, rfl⟩
  | v :: xs, h => by
    obtain ⟨d, h1, h2⟩ := h v List.mem_cons_self
    obtain ⟨ds, q1, q2, q3⟩ := Ev.all (xs := xs) fun v hv => h v (List.mem_cons_of_mem _ hv)
    exact ⟨d :: ds, .cons h1 q1, by unfold okAll; rw [h2, q2]; rfl, by simp [q3]⟩
theorem Ev.of {K : PySem.W.Frag} {G : Hp} : ∀ {xs : List V} {ds : List PyData}, DpAll K G xs ds → okAll ds = true → Ev K G xs ∧ xs.length = ds.length
  | _, _, .nil, _ => ⟨fun v hv => absurd hv (by simp), rfl⟩
  | _, _, .cons h q, ok => by
    unfold okAll at ok
    rw [Bool.and_eq_true] at ok
    obtain ⟨e, l⟩ := Ev.of q ok.2
    exact ⟨fun v hv => (List.mem_cons.mp hv).elim (fun z => by rw [z]; exact ⟨_, h, ok.1⟩) (e v), by simp [l]⟩
theorem seqT_kp {K : PySem.W.Frag} {H H' : Hp} {b c q : Addr} {xs : List V} (B : Bag H b c) (k : Kp b H H') (h : SqT K H q xs) : SqT K H' q xs := Same.seqT (hb_le H' b) (Same.seqT k (sqT_hb B h))
theorem cut1_le (xs : List V) {i : Int} (h : 0 ≤ i) : (cutV xs (some i) (some (i + 1))).length ≤ 1 := by
  obtain ⟨j, rfl⟩ := Int.eq_ofNat_of_zero_le h
  unfold cutV
  rw [List.length_take, HT.sIx_nat, show ((j : Int) + 1) = ((j + 1 : Nat) : Int) from rfl, HT.sIx_nat]
  omega
theorem Kp.keep {b p : Addr} {H1 H2 : Hp} {o : HO} (k : Kp b H1 H2) (n : p ≠ b) (h : H1 p = some o) : H2 p = some o := k.hd h n
theorem new_ne {b c p : Addr} {H : Hp} (B : Bag H b c) (h0 : H p = none) : p ≠ b := fun e => by
  obtain ⟨xb, eb⟩ := B.at
  rw [e, eb] at h0; cases h0
theorem rep_strs (n : Nat) (z : Str) : (List.replicate n [V.str z]).flatten = (List.replicate n z).map V.str := by
  induction n with
  | zero => rfl
  | succ n ih => rw [List.replicate_succ, List.flatten_cons, ih, List.replicate_succ]; rfl
theorem rep_short {n m : Nat} {z : Str} (h : z.length ≤ m) : ∀ y ∈ List.replicate n z, y.length ≤ m := fun y hy => by
  rw [(List.mem_replicate.mp hy).2]; exact h
end LK

set_option Elab.async false
set_option linter.all false
set_option maxRecDepth 100000
namespace LK
open PySem PySem.Spec PyProof.Rows L2
local macro_rules | `(tactic| walk_at "rs") => `(tactic| simp only [cxK, cxNK, tCallZ, tAsg, tOp, rI0, rS0, rB0, rI, rU, tUn, rEq, rNe, rIxL, rIxT, rIxS, rSetL, rSlLU, rSlS, rSlU, rCatL, rCatU, rRepL, rIn, tVar, tC, gName, gSub, tIfS, tTest, tB, tAnd, tOr, tNot, tNotV, tAndV, tOrV, tIf, tCall, tCons, tNil, tCB, tDrop, tRet, tRetN, tNext, tLstU, tTupU, tM0, tM1, tPar, tPar3, tAug, ipI, tBM, tBM0, rAppend, rPop, tBreak, tCont, tChain, tSl, tPart, tNoPart, L2.start, List.map, List.length_cons, List.length_nil, List.replicate, List.cons_append, List.nil_append, List.append_nil, List.getElem?_cons_zero, List.getElem?_cons_succ, List.set_cons_zero, List.set_cons_succ, Option.some.injEq, V.int.injEq, V.ref.injEq, V.str.injEq, V.bl.injEq, exists_eq_left', exists_eq_left, exists_and_left, decide_eq_true_eq, List.cons.injEq, and_true, true_and, scal, tExV, tEf, rIsEr, tDGet2, rIxLT, Bool.not_eq_true', decide_eq_false_iff_not, Nat.zero_add, Nat.reduceAdd, Nat.reduceSub, reduceCtorEq, false_and, exists_false, false_or, or_false, CPow, CMul, CDiv, Int.reduceToNat, ↓reduceIte, wipe, sw, List.nil_append, List.singleton_append])
local macro_rules | `(tactic| walk_at "st") => `(tactic| (refine seq_op fun N hN => ?_; walk_at "rs"))
local macro_rules | `(tactic| walk_at "sd") => `(tactic| first | assumption | decide | omega)
local macro_rules | `(tactic| walk_at "rd") => `(tactic| repeat (first
  | refine ⟨_, SqL.of (by assumption), ?_⟩ | refine ⟨_, SqL.of upd_same, ?_⟩ | refine ⟨_, .inl (SqL.of (by assumption)), ?_⟩ | refine ⟨_, (by assumption : _ = some (HO.lst _)), ?_⟩ | refine ⟨_, upd_same, ?_⟩
  | refine ⟨_, rfl, ?_⟩ | refine And.intro (by walk_at "sd") ?_))

def isSm : V → Bool
  | .int i => decide (i.natAbs < 2 ^ 64)
  | _ => false
theorem smalls_of {l : List V} (h : l.all isSm = true) : ∀ y ∈ l, ∃ i, y = V.int i ∧ i.natAbs < 2 ^ 64 := fun y hy => by
  have q := List.all_eq_true.mp h y hy
  cases y <;> first | exact ⟨_, rfl, of_decide_eq_true q⟩ | simp [isSm] at q
theorem ok_int {i : Int} (h : i.natAbs < 2 ^ 64) : okD (.int i) = true := decide_eq_true (Nat.lt_of_lt_of_le h (Nat.pow_le_pow_right (by decide) (by decide)))
section
variable {P : Program} {w : World} {K : PySem.W.Frag} {mg : Str → Option Value} {base : Heap}
theorem any_step (T : Txt w K mg) (n : Nat) (ih : ∀ m, m + 1 = n → FnOk P w K mg base CX0 (m + 3) T.a__law_any T.d__law_any ["bag", "deep"] (sp__law_any K m)) : FnOk P w K mg base CX0 (n + 3) T.a__law_any T.d__law_any ["bag", "deep"] (sp__law_any K n) := by
  refine T.F__law_any.ok sc__law_any (fun vs H Q E h => ?_) (fun cdv A outer s H vs Q E hr h => ?_)
  · obtain ⟨b, c, k, rfl, _⟩ := h
    rfl
  · obtain ⟨b, c, dp, rfl, B, hk, k⟩ := h
    have hr__law_draw : Room 1 _ := hr.mono (by omega)
    have G__law_draw := ok__law_draw (P := P) (base := base) T
    have hr__law_of : Room 2 _ := hr.mono (by omega)
    have G__law_of := ok__law_of (P := P) (base := base) T
    by_cases hn : 0 < n
    · obtain ⟨m, rfl⟩ : ∃ m, n = m + 1 := ⟨n - 1, by omega⟩
      have hr__law_any : Room (m + 3) _ := hr.mono (by omega)
      have G__law_any := ih m rfl
      refine ⟨_, (pss_cons (ps_set (i := 2) sc__law_any.nd rfl (Or.inl rfl) (pe_call G__law_draw hr__law_draw (by rfl) T.m__law_draw T.F__law_draw.kp T.B__law_draw .nil pass0 (pa_cons (pv 0) (pa_cons (pe_ifExp (pt_cmpR op_gt (pv 1) pe_int (nomark _)) pe_int pe_int) pa_nil))))
      (pss_cons (ps_if (pt_cmpR op_eqI (pv 2) pe_int (nomark _)) (pss_one (ps_ret pe_non)) pss_nil)
      (pss_cons (ps_if (pt_cmpR op_eqI (pv 2) pe_int (nomark _)) (pss_one (ps_ret (pe_cmpR op_eqI (pe_call G__law_draw hr__law_draw (by rfl) T.m__law_draw T.F__law_draw.kp T.B__law_draw .nil pass0 (pa_cons (pv 0) (pa_cons pe_int pa_nil))) pe_int (nomark _)))) pss_nil)
      (pss_cons (ps_if (pt_cmpR op_lt (pv 2) pe_int (nomark _)) (pss_cons (ps_set (i := 3) sc__law_any.nd rfl (Or.inl rfl) (pe_op op_add (pe_op op_add pe_int (pe_op op_mul (pe_call G__law_draw hr__law_draw (by rfl) T.m__law_draw T.F__law_draw.kp T.B__law_draw .nil pass0 (pa_cons (pv 0) (pa_cons pe_int pa_nil))) (pe_op op_pow pe_int pe_int))) (pe_call G__law_draw hr__law_draw (by rfl) T.m__law_draw T.F__law_draw.kp T.B__law_draw .nil pass0 (pa_cons (pv 0) (pa_cons pe_int pa_nil)))))
      (pss_one (ps_ret (pe_call G__law_of hr__law_of (by rfl) T.m__law_of T.F__law_of.kp T.B__law_of .nil pass0 (pa_cons (pv 0) (pa_cons (pe_lstU (pa_cons pe_int (pa_cons pe_int (pa_cons pe_int (pa_cons pe_int (pa_cons (pe_un un_neg pe_int) (pa_cons pe_int (pa_cons pe_int (pa_cons pe_int (pa_cons pe_int (pa_cons (pe_un un_neg pe_int) (pa_cons pe_int (pa_cons pe_int (pa_cons pe_int (pa_cons pe_int (pa_cons (pe_op op_sub (pe_op op_pow pe_int pe_int) pe_int) (pa_cons (pe_op op_sub pe_int (pe_op op_pow pe_int pe_int)) (pa_cons (pv 3) (pa_cons (pe_op op_sub pe_int (pv 3)) pa_nil))))))))))))))))))) pa_nil)))))) pss_nil)
      (pss_cons (ps_if (pt_cmpR op_lt (pv 2) pe_int (nomark _)) (pss_one (ps_ret (pe_join pe_str (pe_lc (own := [("k", 5)]) (g := gName 5) (tt := tYes) rfl sc__law_any.nd (pi_range1 (by rfl) T.n_range (pa_cons (pe_call G__law_draw hr__law_draw (by rfl) T.m__law_draw T.F__law_draw.kp T.B__law_draw .nil pass0 (pa_cons (pv 0) (pa_cons pe_int pa_nil))) pa_nil)) (blkOk_by (own := [("k", 5)]) (N := N__law_any) (sc := defScope s__law_any) (by decide +kernel)) (fun _ _ _ _ _ => pg_name (i := 5) sc__law_any.nd rfl (Or.inl rfl)) (fun _ _ _ _ _ => pts_nil) (fun _ _ _ _ _ => (pe_call G__law_of hr__law_of (by rfl) T.m__law_of T.F__law_of.kp T.B__law_of .nil pass0 (pa_cons (pv 0) (pa_cons pe_str pa_nil)))))))) pss_nil)
      (pss_cons (ps_setLc (i := 4) (own := [("k", 5)]) (g := gName 5) (tt := tYes) rfl sc__law_any.nd rfl rfl (sw_true rfl rfl rfl (by decide +kernel)) (pi_range1 (by rfl) T.n_range (pa_cons (pe_call G__law_draw hr__law_draw (by rfl) T.m__law_draw T.F__law_draw.kp T.B__law_draw .nil pass0 (pa_cons (pv 0) (pa_cons pe_int pa_nil))) pa_nil)) (blkOk_by (own := [("k", 5)]) (N := N__law_any) (sc := defScope s__law_any) (by decide +kernel)) (fun _ _ _ _ _ => pg_name (i := 5) sc__law_any.nd rfl (Or.inl rfl)) (fun _ _ _ _ _ => pts_nil) (fun _ _ _ _ _ => (pe_call G__law_any hr__law_any (by rfl) T.m__law_any T.F__law_any.kp T.B__law_any .nil pass0 (pa_cons (pv 0) (pa_cons (pe_op op_sub (pv 1) pe_int) pa_nil)))))
      (pss_one (ps_ret (pe_ifExp (pt_cmpR op_eqI (pv 2) pe_int (nomark _)) (pv 4) (pe_callTy call_tupleN (by rfl) T.n_tuple (by decide +kernel) (pa_cons (pv 4) pa_nil))))))))))), ?_⟩
      refine cut_seq (fun σ H1 => ∃ way : Int, σ = [some (.ref b), some (.int dp), some (.int way), none, none, none] ∧ 0 ≤ way ∧ (way < 8 ∨ way < 10 ∧ 0 < dp) ∧ Bag H1 b c ∧ Kp b H H1) (fun N hN => ?_) ?_
      · walk_at "rs"
        refine ite2 (fun e => ?_) (fun e => ?_)
        · exact ⟨b, c, 10, rfl, B, by decide, by decide, fun way H1 w0 w1 B1 K1 => hN _ _ ⟨way, rfl, w0, .inr ⟨w1, e⟩, B1, K1⟩⟩
        · exact ⟨b, c, 8, rfl, B, by decide, by decide, fun way H1 w0 w1 B1 K1 => hN _ _ ⟨way, rfl, w0, .inl w1, B1, K1⟩⟩
      rintro σ H1 ⟨way, rfl, w0, w1, B1, K1⟩
      obtain ⟨xb1, eb1⟩ := B1.at
      refine seq_op fun N hN => ?_
      walk_at "rs"
      refine ite2 (fun e => k _ _ _ B1 K1 .non rfl (Nat.zero_le _)) (fun e0 => hN _ _ ?_)
      clear hN N
      refine seq_op fun N hN => ?_
      walk_at "rs"
      refine ite2 (fun e => ?_) (fun e1 => hN _ _ ?_)
      · exact ⟨b, c, 2, rfl, B1, by decide, by decide, fun r H2 r0 r1 B2 K2 => ⟨_, rfl, k _ _ _ B2 (Same.trans K1 K2) (.bl _) rfl (Nat.zero_le _)⟩⟩
      clear hN N
      refine seq_op fun N hN => ?_
      walk_at "rs"
      refine ite2 (fun e => ?_) (fun e2 => hN _ _ ?_)
      · refine seq_op fun N2 hN2 => ?_
        walk_at "rs"
        refine ⟨b, c, 1000000, rfl, B1, by decide, by decide, fun r H2 r0 r1 B2 K2 => ⟨by decide, r, rfl, .inr (by decide), b, c, 1000000, rfl, B2, by decide, by decide, fun r2 H3 r20 r21 B3 K3 => ⟨_, rfl, hN2 _ _ ?_⟩⟩⟩
        walk_at "rs"
        have K13 := Same.trans K1 (Same.trans K2 K3)
        have fin : ∀ (L : List V), L.all isSm = true → L ≠ [] → L.length ≤ 1000 → ∀ (p : Addr) (H4 : Hp), Same H3 H4 → H3 p = none → H4 p = some (HO.lst L) → sp__law_of K [V.ref b, V.ref p] H4 Q E0 := by
          intro L hL hne hlen p H4 s4 h04 h4
          refine of_lst (B3.same s4) h4 (fun e => ?_) hne (by omega) fun y H5 hy B5 K5 => ?_
          · obtain ⟨xs, q⟩ := B3.at
            rw [e, q] at h04; cases h04
          · obtain ⟨i, rfl, hi⟩ := smalls_of hL y hy
            exact k _ (.int i) H5 B5 (Same.trans K13 (Same.trans (Kp.of s4) K5)) (.int i) (ok_int hi) (Nat.zero_le _)
        exact ⟨by decide, by decide, by decide, fun p H4 s4 h04 h4 => fin _ (by simp only [List.all_cons, List.all_nil, isSm, Bool.and_true, Bool.and_eq_true, decide_eq_true_eq]; omega) (by simp) (Nat.le_trans (show 18 ≤ 18 from Nat.le_refl _) (by decide)) p H4 s4 h04 h4⟩
      clear hN N
      refine seq_op fun N hN => ?_
      walk_at "rs"
      refine ite2 (fun e => ?_) (fun e3 => hN _ _ ?_)
      · refine ⟨⟨_, rfl⟩, _, rfl, b, c, 7, rfl, B1, by decide, by decide, fun r H2 r0 r1 B2 K2 => ⟨r, rfl, by omega, by omega, fun D hD => lc_draw walk_range (fun _ v => ∃ z, v = V.str z ∧ z.length ≤ 1) (fun _ _ _ _ h => h) hD B2 (by omega) (fun _ _ _ _ y => y.1) (fun _ _ => trivial) ?_ ?_⟩⟩
        · intro x H3 K3 B3 Q2 hq
          walk_at "rs"
          exact of_str B3 (by decide +kernel) (by decide +kernel) fun c0 H4 B4 K4 => hq _ H4 B4 K4 ⟨_, rfl, Nat.le_refl 1⟩
        · intro H3 ys B3 K3 h3 hl hp
          obtain ⟨zs, rfl, hz⟩ := strs_of hp
          have hs := sum_le hz
          have hj := join_len "" zs
          rw [List.length_map] at hl
          refine ⟨D, rfl, zs, .inl (SqL.of h3), ?_, k _ (.str _) H3 B3 (Same.trans K1 (Same.trans K2 K3)) (.str _) (decide_eq_true ?_) (Nat.zero_le _)⟩
          · show _ + zs.length * 0 ≤ _
            omega
          · have e0 : zs.length * (Str.ofString "").length = 0 := Nat.mul_zero _
            omega
      clear hN N
      refine seq_op fun N hN => ?_
      walk_at "rs"
      refine ⟨_, rfl, b, c, 4, rfl, B1, by decide, by decide, fun r H2 r0 r1 B2 K2 => ⟨r, rfl, by omega, by omega, fun D hD => lc_draw walk_range (fun G v => ∃ d, Dp K G v d ∧ okD d = true ∧ dep d ≤ m) (fun G G' v s ⟨d, h1, h2⟩ => ⟨d, dp_same s h1, h2⟩) hD B2 (by omega) (fun _ _ _ _ y => y.1) (fun _ _ => trivial) ?_ ?_⟩⟩
      · intro x H3 K3 B3 Q2 hq
        walk_at "rs"
        exact ⟨b, c, dp - 1, rfl, B3, by omega, fun v d H4 B4 K4 hd hok hdep => hq v H4 B4 K4 ⟨d, hd, hok, hdep⟩⟩
      · intro H3 ys B3 K3 h3 hl hp
        refine hN _ _ ?_
        clear hN N
        obtain ⟨ds, hd, hok, hdep, hlen⟩ := okAll_mem hp
        obtain ⟨xb2, eb2⟩ := B2.at
        have K12 := Same.trans K1 K2
        have K13 := Same.trans K12 K3
        have h0D : H D = none := Kp.bn K12 eb2 hD
        have nDb : b ≠ D := fun e => by rw [e, hD] at eb2; cases eb2
        have hd2 : DpAll K (nw H H3) ys ds := dpa_same (nw_anti fun a e => by
          have nD : a ≠ D := fun z => by rw [z, upd_same] at e; cases e
          rw [upd_ne nD] at e
          exact Kp.bn K12 eb2 e) hd
        have hlen4 : ds.length ≤ 100000 := by omega
        walk_at "rs"
        refine ite2 (fun e => ?_) (fun e => ⟨_, SqL.of h3, fun q H4 s4 h04 h4 => ?_⟩)
        · refine k _ (.list ds) H3 B3 K13 (.lst (SqL.of (nw_of h0D h3)) hd2) (okD_lst.mpr ⟨hlen4, hok⟩) ?_
          show depAll ds + 1 ≤ m + 1
          omega
        · obtain ⟨xb3, eb3⟩ := B3.at
          refine k _ (.tuple ds) H4 (B3.same s4) (Same.trans K13 (Kp.of s4)) (.tup (.inl (.inl (nw_of (Kp.bn K13 eb3 h04) h4))) (dpa_same (nw_same fun a o _ e => s4 _ _ e) hd2)) (okD_tup.mpr ⟨hlen4, hok⟩) ?_
          show depAll ds + 1 ≤ m + 1
          omega
    · refine ⟨_, (pss_cons (ps_set (i := 2) sc__law_any.nd rfl (Or.inl rfl) (pe_call G__law_draw hr__law_draw (by rfl) T.m__law_draw T.F__law_draw.kp T.B__law_draw .nil pass0 (pa_cons (pv 0) (pa_cons (pe_ifExp (pt_cmpR op_gt (pv 1) pe_int (nomark _)) pe_int pe_int) pa_nil))))
      (pss_cons (ps_if (pt_cmpR op_eqI (pv 2) pe_int (nomark _)) (pss_one (ps_ret pe_non)) pss_nil)
      (pss_cons (ps_if (pt_cmpR op_eqI (pv 2) pe_int (nomark _)) (pss_one (ps_ret (pe_cmpR op_eqI (pe_call G__law_draw hr__law_draw (by rfl) T.m__law_draw T.F__law_draw.kp T.B__law_draw .nil pass0 (pa_cons (pv 0) (pa_cons pe_int pa_nil))) pe_int (nomark _)))) pss_nil)
      (pss_cons (ps_if (pt_cmpR op_lt (pv 2) pe_int (nomark _)) (pss_cons (ps_set (i := 3) sc__law_any.nd rfl (Or.inl rfl) (pe_op op_add (pe_op op_add pe_int (pe_op op_mul (pe_call G__law_draw hr__law_draw (by rfl) T.m__law_draw T.F__law_draw.kp T.B__law_draw .nil pass0 (pa_cons (pv 0) (pa_cons pe_int pa_nil))) (pe_op op_pow pe_int pe_int))) (pe_call G__law_draw hr__law_draw (by rfl) T.m__law_draw T.F__law_draw.kp T.B__law_draw .nil pass0 (pa_cons (pv 0) (pa_cons pe_int pa_nil)))))
      (pss_one (ps_ret (pe_call G__law_of hr__law_of (by rfl) T.m__law_of T.F__law_of.kp T.B__law_of .nil pass0 (pa_cons (pv 0) (pa_cons (pe_lstU (pa_cons pe_int (pa_cons pe_int (pa_cons pe_int (pa_cons pe_int (pa_cons (pe_un un_neg pe_int) (pa_cons pe_int (pa_cons pe_int (pa_cons pe_int (pa_cons pe_int (pa_cons (pe_un un_neg pe_int) (pa_cons pe_int (pa_cons pe_int (pa_cons pe_int (pa_cons pe_int (pa_cons (pe_op op_sub (pe_op op_pow pe_int pe_int) pe_int) (pa_cons (pe_op op_sub pe_int (pe_op op_pow pe_int pe_int)) (pa_cons (pv 3) (pa_cons (pe_op op_sub pe_int (pv 3)) pa_nil))))))))))))))))))) pa_nil)))))) pss_nil)
      (pss_cons (ps_if (pt_cmpR op_lt (pv 2) pe_int (nomark _)) (pss_one (ps_ret (pe_join pe_str (pe_lc (own := [("k", 5)]) (g := gName 5) (tt := tYes) rfl sc__law_any.nd (pi_range1 (by rfl) T.n_range (pa_cons (pe_call G__law_draw hr__law_draw (by rfl) T.m__law_draw T.F__law_draw.kp T.B__law_draw .nil pass0 (pa_cons (pv 0) (pa_cons pe_int pa_nil))) pa_nil)) (blkOk_by (own := [("k", 5)]) (N := N__law_any) (sc := defScope s__law_any) (by decide +kernel)) (fun _ _ _ _ _ => pg_name (i := 5) sc__law_any.nd rfl (Or.inl rfl)) (fun _ _ _ _ _ => pts_nil) (fun _ _ _ _ _ => (pe_call G__law_of hr__law_of (by rfl) T.m__law_of T.F__law_of.kp T.B__law_of .nil pass0 (pa_cons (pv 0) (pa_cons pe_str pa_nil)))))))) pss_nil)
      pss_never))))), ?_⟩
      refine cut_seq (fun σ H1 => ∃ way : Int, σ = [some (.ref b), some (.int dp), some (.int way), none, none, none] ∧ 0 ≤ way ∧ (way < 8 ∨ way < 10 ∧ 0 < dp) ∧ Bag H1 b c ∧ Kp b H H1) (fun N hN => ?_) ?_
      · walk_at "rs"
        refine ite2 (fun e => ?_) (fun e => ?_)
        · exact ⟨b, c, 10, rfl, B, by decide, by decide, fun way H1 w0 w1 B1 K1 => hN _ _ ⟨way, rfl, w0, .inr ⟨w1, e⟩, B1, K1⟩⟩
        · exact ⟨b, c, 8, rfl, B, by decide, by decide, fun way H1 w0 w1 B1 K1 => hN _ _ ⟨way, rfl, w0, .inl w1, B1, K1⟩⟩
      rintro σ H1 ⟨way, rfl, w0, w1, B1, K1⟩
      obtain ⟨xb1, eb1⟩ := B1.at
      refine seq_op fun N hN => ?_
      walk_at "rs"
      refine ite2 (fun e => k _ _ _ B1 K1 .non rfl (Nat.zero_le _)) (fun e0 => hN _ _ ?_)
      clear hN N
      refine seq_op fun N hN => ?_
      walk_at "rs"
      refine ite2 (fun e => ?_) (fun e1 => hN _ _ ?_)
      · exact ⟨b, c, 2, rfl, B1, by decide, by decide, fun r H2 r0 r1 B2 K2 => ⟨_, rfl, k _ _ _ B2 (Same.trans K1 K2) (.bl _) rfl (Nat.zero_le _)⟩⟩
      clear hN N
      refine seq_op fun N hN => ?_
      walk_at "rs"
      refine ite2 (fun e => ?_) (fun e2 => hN _ _ ?_)
      · refine seq_op fun N2 hN2 => ?_
        walk_at "rs"
        refine ⟨b, c, 1000000, rfl, B1, by decide, by decide, fun r H2 r0 r1 B2 K2 => ⟨by decide, r, rfl, .inr (by decide), b, c, 1000000, rfl, B2, by decide, by decide, fun r2 H3 r20 r21 B3 K3 => ⟨_, rfl, hN2 _ _ ?_⟩⟩⟩
        walk_at "rs"
        have K13 := Same.trans K1 (Same.trans K2 K3)
        have fin : ∀ (L : List V), L.all isSm = true → L ≠ [] → L.length ≤ 1000 → ∀ (p : Addr) (H4 : Hp), Same H3 H4 → H3 p = none → H4 p = some (HO.lst L) → sp__law_of K [V.ref b, V.ref p] H4 Q E0 := by
          intro L hL hne hlen p H4 s4 h04 h4
          refine of_lst (B3.same s4) h4 (fun e => ?_) hne (by omega) fun y H5 hy B5 K5 => ?_
          · obtain ⟨xs, q⟩ := B3.at
            rw [e, q] at h04; cases h04
          · obtain ⟨i, rfl, hi⟩ := smalls_of hL y hy
            exact k _ (.int i) H5 B5 (Same.trans K13 (Same.trans (Kp.of s4) K5)) (.int i) (ok_int hi) (Nat.zero_le _)
        exact ⟨by decide, by decide, by decide, fun p H4 s4 h04 h4 => fin _ (by simp only [List.all_cons, List.all_nil, isSm, Bool.and_true, Bool.and_eq_true, decide_eq_true_eq]; omega) (by simp) (Nat.le_trans (show 18 ≤ 18 from Nat.le_refl _) (by decide)) p H4 s4 h04 h4⟩
      clear hN N
      refine seq_op fun N hN => ?_
      walk_at "rs"
      refine ite2 (fun e => ?_) (fun e3 => hN _ _ ?_)
      · refine ⟨⟨_, rfl⟩, _, rfl, b, c, 7, rfl, B1, by decide, by decide, fun r H2 r0 r1 B2 K2 => ⟨r, rfl, by omega, by omega, fun D hD => lc_draw walk_range (fun _ v => ∃ z, v = V.str z ∧ z.length ≤ 1) (fun _ _ _ _ h => h) hD B2 (by omega) (fun _ _ _ _ y => y.1) (fun _ _ => trivial) ?_ ?_⟩⟩
        · intro x H3 K3 B3 Q2 hq
          walk_at "rs"
          exact of_str B3 (by decide +kernel) (by decide +kernel) fun c0 H4 B4 K4 => hq _ H4 B4 K4 ⟨_, rfl, Nat.le_refl 1⟩
        · intro H3 ys B3 K3 h3 hl hp
          obtain ⟨zs, rfl, hz⟩ := strs_of hp
          have hs := sum_le hz
          have hj := join_len "" zs
          rw [List.length_map] at hl
          refine ⟨D, rfl, zs, .inl (SqL.of h3), ?_, k _ (.str _) H3 B3 (Same.trans K1 (Same.trans K2 K3)) (.str _) (decide_eq_true ?_) (Nat.zero_le _)⟩
          · show _ + zs.length * 0 ≤ _
            omega
          · have e0 : zs.length * (Str.ofString "").length = 0 := Nat.mul_zero _
            omega
      clear hN N
      omega
theorem ok__law_any (T : Txt w K mg) : ∀ n : Nat, FnOk P w K mg base CX0 (n + 3) T.a__law_any T.d__law_any ["bag", "deep"] (sp__law_any K n) := by
  intro n
  induction n with
  | zero => exact any_step T 0 fun m e => by omega
  | succ n ih =>
    refine any_step T (n + 1) fun m e => ?_
    obtain rfl : m = n := by omega
    exact ih
end
end LK

set_option Elab.async false
set_option linter.all false
set_option maxRecDepth 100000
namespace LK
open PySem PySem.Spec PyProof.Rows L2
local macro_rules | `(tactic| walk_at "rs") => `(tactic| simp only [cxK, cxNK, tCallZ, tAsg, tOp, rI0, rS0, rB0, rI, rU, tUn, rEq, rNe, rIxL, rIxT, rIxS, rSetL, rSlLU, rSlS, rSlU, rCatL, rCatU, rRepL, rIn, tVar, tC, gName, gSub, tIfS, tTest, tB, tAnd, tOr, tNot, tNotV, tAndV, tOrV, tIf, tCall, tCons, tNil, tCB, tDrop, tRet, tRetN, tNext, tLstU, tTupU, tM0, tM1, tPar, tPar3, tAug, ipI, tBM, tBM0, rAppend, rPop, tBreak, tCont, tChain, tSl, tPart, tNoPart, L2.start, List.map, List.length_cons, List.length_nil, List.replicate, List.cons_append, List.nil_append, List.append_nil, List.getElem?_cons_zero, List.getElem?_cons_succ, List.set_cons_zero, List.set_cons_succ, Option.some.injEq, V.int.injEq, V.ref.injEq, V.str.injEq, V.bl.injEq, exists_eq_left', exists_eq_left, exists_and_left, decide_eq_true_eq, List.cons.injEq, and_true, true_and, scal, tExV, tEf, rIsEr, tDGet2, rIxLT, Bool.not_eq_true', decide_eq_false_iff_not, Nat.zero_add, Nat.reduceAdd, Nat.reduceSub, reduceCtorEq, false_and, exists_false, false_or, or_false, CPow, CMul, CDiv, Int.reduceToNat, ↓reduceIte, wipe, sw, List.nil_append, List.singleton_append])
local macro_rules | `(tactic| walk_at "st") => `(tactic| (refine seq_op fun N hN => ?_; walk_at "rs"))
local macro_rules | `(tactic| walk_at "sd") => `(tactic| first | assumption | decide | omega)
local macro_rules | `(tactic| walk_at "rd") => `(tactic| repeat (first
  | refine ⟨_, SqL.of (by assumption), ?_⟩ | refine ⟨_, SqL.of upd_same, ?_⟩ | refine ⟨_, .inl (SqL.of (by assumption)), ?_⟩ | refine ⟨_, (by assumption : _ = some (HO.lst _)), ?_⟩ | refine ⟨_, upd_same, ?_⟩
  | refine ⟨_, rfl, ?_⟩ | refine And.intro (by walk_at "sd") ?_))

theorem fs_take (k : Kd) (ws : List V) : k.fs (ws.take k.ps.length) = k.fs ws := by
  unfold Kd.fs
  congr 2
  have z : ∀ (ps : List Str) (ws : List V), ps.zip (ws.take ps.length) = ps.zip ws := by
    intro ps
    induction ps with
    | nil => intro ws; rfl
    | cons p ps ih =>
      intro ws
      cases ws with
      | nil => rfl
      | cons x ws => rw [List.length_cons, List.take_succ_cons, List.zip_cons_cons, List.zip_cons_cons, ih]
  exact z _ _
def spMade (A : Str → Addr) (n : Nat) : Sp := fun vs H Q _ => ∃ (k : Kd) (ws : List V) (way : Int), k ∈ kds A ∧ vs = .str k.nm :: (ws ++ [.int way]) ∧ ws.length = n ∧ ∀ a H', Same H H' → H a = none → Err H' a k.C (k.fs ws) → Q (.ref a) H'
theorem no_other {A : Str → Addr} {k : Kd} (hk : k ∈ kds A)(n_BadValue : k.nm ≠ "BadValue") (n_NoText : k.nm ≠ "NoText") (n_TooLong : k.nm ≠ "TooLong") (n_BadNet : k.nm ≠ "BadNet") (n_BadText : k.nm ≠ "BadText") (n_BadChart : k.nm ≠ "BadChart") (n_BadChange : k.nm ≠ "BadChange") (n_BadPair : k.nm ≠ "BadPair") (n_BadDeed : k.nm ≠ "BadDeed") (n_Twice : k.nm ≠ "Twice") (n_NoName : k.nm ≠ "NoName") : k.ps.length ≠ 1 := by
  simp only [kds, List.mem_cons, List.mem_nil_iff, or_false] at hk
  rcases hk with rfl | rfl | rfl | rfl | rfl | rfl | rfl | rfl | rfl | rfl | rfl | rfl | rfl | rfl | rfl <;> first | (intro z; cases z; done) | exact absurd rfl n_BadValue | exact absurd rfl n_NoText | exact absurd rfl n_TooLong | exact absurd rfl n_BadNet | exact absurd rfl n_BadText | exact absurd rfl n_BadChart | exact absurd rfl n_BadChange | exact absurd rfl n_BadPair | exact absurd rfl n_BadDeed | exact absurd rfl n_Twice | exact absurd rfl n_NoName
def spOne (A : Str → Addr) : Sp := fun vs H Q _ => ∃ (k : Kd) (x : V) (way : Int), k ∈ kds A ∧ k.ps.length = 1 ∧ vs = [.str k.nm, x, .int way] ∧ ∀ a H', Same H H' → H a = none → Err H' a k.C (k.fs [x]) → Q (.ref a) H'
def spMadeT (A : Str → Addr) : Sp := fun vs H Q _ => ∃ (k : Kd) (x y : V) (way : Int), k ∈ kds A ∧ vs = [.str k.nm, x, y, .int way] ∧ ∀ a H', Same H H' → H a = none → Err H' a k.C (k.fs [x, y]) → Q (.ref a) H'
section
variable {P : Program} {w : World} {K : PySem.W.Frag} {mg : Str → Option Value} {base : Heap}
theorem ok__law_one (T : Txt w K mg) : FnOk P w K mg base CX0 3 T.a__law_one T.d__law_one ["pick", "one", "way"] (spOne T.cA) := by
  refine T.F__law_one.ok sc__law_one (fun vs H Q E h => ?_) (fun cdv A outer s H vs Q E hr h => ?_)
  · obtain ⟨k, x, way, _, _, rfl, _⟩ := h
    rfl
  · obtain ⟨k, x, way, hk, h1, rfl, kq⟩ := h
    have hr_init : Room 2 _ := hr
    refine ⟨_, (pss_cons (ps_if (pt_cmpR op_eqS (pv 0) pe_str (nomark _)) (pss_one (ps_ret (pe_ifExp (pt_cmpR op_lt (pv 2) pe_int (nomark _)) (pe_exV (n := 1) (xd_BadValue T hr_init (by rfl)) (by exact T.p_BadValue) (pa_cons (pv 1) pa_nil)) (pe_exVZ (xd_BadValue T hr_init (by rfl)) (by exact T.z_BadValue) (pk_cons (pv 1) pk_nil))))) pss_nil)
      (pss_cons (ps_if (pt_cmpR op_eqS (pv 0) pe_str (nomark _)) (pss_one (ps_ret (pe_ifExp (pt_cmpR op_lt (pv 2) pe_int (nomark _)) (pe_exV (n := 1) (xd_NoText T hr_init (by rfl)) (by exact T.p_NoText) (pa_cons (pv 1) pa_nil)) (pe_exVZ (xd_NoText T hr_init (by rfl)) (by exact T.z_NoText) (pk_cons (pv 1) pk_nil))))) pss_nil)
      (pss_cons (ps_if (pt_cmpR op_eqS (pv 0) pe_str (nomark _)) (pss_one (ps_ret (pe_ifExp (pt_cmpR op_lt (pv 2) pe_int (nomark _)) (pe_exV (n := 1) (xd_TooLong T hr_init (by rfl)) (by exact T.p_TooLong) (pa_cons (pv 1) pa_nil)) (pe_exVZ (xd_TooLong T hr_init (by rfl)) (by exact T.z_TooLong) (pk_cons (pv 1) pk_nil))))) pss_nil)
      (pss_cons (ps_if (pt_cmpR op_eqS (pv 0) pe_str (nomark _)) (pss_one (ps_ret (pe_ifExp (pt_cmpR op_lt (pv 2) pe_int (nomark _)) (pe_exV (n := 1) (xd_BadNet T hr_init (by rfl)) (by exact T.p_BadNet) (pa_cons (pv 1) pa_nil)) (pe_exVZ (xd_BadNet T hr_init (by rfl)) (by exact T.z_BadNet) (pk_cons (pv 1) pk_nil))))) pss_nil)
      (pss_cons (ps_if (pt_cmpR op_eqS (pv 0) pe_str (nomark _)) (pss_one (ps_ret (pe_ifExp (pt_cmpR op_lt (pv 2) pe_int (nomark _)) (pe_exV (n := 1) (xd_BadText T hr_init (by rfl)) (by exact T.p_BadText) (pa_cons (pv 1) pa_nil)) (pe_exVZ (xd_BadText T hr_init (by rfl)) (by exact T.z_BadText) (pk_cons (pv 1) pk_nil))))) pss_nil)
      (pss_cons (ps_if (pt_cmpR op_eqS (pv 0) pe_str (nomark _)) (pss_one (ps_ret (pe_ifExp (pt_cmpR op_lt (pv 2) pe_int (nomark _)) (pe_exV (n := 1) (xd_BadChart T hr_init (by rfl)) (by exact T.p_BadChart) (pa_cons (pv 1) pa_nil)) (pe_exVZ (xd_BadChart T hr_init (by rfl)) (by exact T.z_BadChart) (pk_cons (pv 1) pk_nil))))) pss_nil)
      (pss_cons (ps_if (pt_cmpR op_eqS (pv 0) pe_str (nomark _)) (pss_one (ps_ret (pe_ifExp (pt_cmpR op_lt (pv 2) pe_int (nomark _)) (pe_exV (n := 1) (xd_BadChange T hr_init (by rfl)) (by exact T.p_BadChange) (pa_cons (pv 1) pa_nil)) (pe_exVZ (xd_BadChange T hr_init (by rfl)) (by exact T.z_BadChange) (pk_cons (pv 1) pk_nil))))) pss_nil)
      (pss_cons (ps_if (pt_cmpR op_eqS (pv 0) pe_str (nomark _)) (pss_one (ps_ret (pe_ifExp (pt_cmpR op_lt (pv 2) pe_int (nomark _)) (pe_exV (n := 1) (xd_BadPair T hr_init (by rfl)) (by exact T.p_BadPair) (pa_cons (pv 1) pa_nil)) (pe_exVZ (xd_BadPair T hr_init (by rfl)) (by exact T.z_BadPair) (pk_cons (pv 1) pk_nil))))) pss_nil)
      (pss_cons (ps_if (pt_cmpR op_eqS (pv 0) pe_str (nomark _)) (pss_one (ps_ret (pe_ifExp (pt_cmpR op_lt (pv 2) pe_int (nomark _)) (pe_exV (n := 1) (xd_BadDeed T hr_init (by rfl)) (by exact T.p_BadDeed) (pa_cons (pv 1) pa_nil)) (pe_exVZ (xd_BadDeed T hr_init (by rfl)) (by exact T.z_BadDeed) (pk_cons (pv 1) pk_nil))))) pss_nil)
      (pss_cons (ps_if (pt_cmpR op_eqS (pv 0) pe_str (nomark _)) (pss_one (ps_ret (pe_ifExp (pt_cmpR op_lt (pv 2) pe_int (nomark _)) (pe_exV (n := 1) (xd_Twice T hr_init (by rfl)) (by exact T.p_Twice) (pa_cons (pv 1) pa_nil)) (pe_exVZ (xd_Twice T hr_init (by rfl)) (by exact T.z_Twice) (pk_cons (pv 1) pk_nil))))) pss_nil)
      (pss_cons (ps_if (pt_cmpR op_eqS (pv 0) pe_str (nomark _)) (pss_one (ps_ret (pe_ifExp (pt_cmpR op_lt (pv 2) pe_int (nomark _)) (pe_exV (n := 1) (xd_NoName T hr_init (by rfl)) (by exact T.p_NoName) (pa_cons (pv 1) pa_nil)) (pe_exVZ (xd_NoName T hr_init (by rfl)) (by exact T.z_NoName) (pk_cons (pv 1) pk_nil))))) pss_nil)
      (pss_one (ps_ret pe_non))))))))))))), ?_⟩
    refine seq_op fun N hN => ?_
    walk_at "rs"
    refine ite2 (fun e => ?_) (fun _ => hN _ _ ?_)
    · obtain rfl := kd_of hk kin_BadValue e
      exact ite2 (fun _ => ⟨by decide, made_of (ws := [x]) rfl kq⟩) (fun _ => ⟨by decide, made_of (ws := [x]) rfl kq⟩)
    clear hN N
    refine seq_op fun N hN => ?_
    walk_at "rs"
    refine ite2 (fun e => ?_) (fun _ => hN _ _ ?_)
    · obtain rfl := kd_of hk kin_NoText e
      exact ite2 (fun _ => ⟨by decide, made_of (ws := [x]) rfl kq⟩) (fun _ => ⟨by decide, made_of (ws := [x]) rfl kq⟩)
    clear hN N
    refine seq_op fun N hN => ?_
    walk_at "rs"
    refine ite2 (fun e => ?_) (fun _ => hN _ _ ?_)
    · obtain rfl := kd_of hk kin_TooLong e
      exact ite2 (fun _ => ⟨by decide, made_of (ws := [x]) rfl kq⟩) (fun _ => ⟨by decide, made_of (ws := [x]) rfl kq⟩)
    clear hN N
    refine seq_op fun N hN => ?_
    walk_at "rs"
    refine ite2 (fun e => ?_) (fun _ => hN _ _ ?_)
    · obtain rfl := kd_of hk kin_BadNet e
      exact ite2 (fun _ => ⟨by decide, made_of (ws := [x]) rfl kq⟩) (fun _ => ⟨by decide, made_of (ws := [x]) rfl kq⟩)
    clear hN N
    refine seq_op fun N hN => ?_
    walk_at "rs"
    refine ite2 (fun e => ?_) (fun _ => hN _ _ ?_)
    · obtain rfl := kd_of hk kin_BadText e
      exact ite2 (fun _ => ⟨by decide, made_of (ws := [x]) rfl kq⟩) (fun _ => ⟨by decide, made_of (ws := [x]) rfl kq⟩)
    clear hN N
    refine seq_op fun N hN => ?_
    walk_at "rs"
    refine ite2 (fun e => ?_) (fun _ => hN _ _ ?_)
    · obtain rfl := kd_of hk kin_BadChart e
      exact ite2 (fun _ => ⟨by decide, made_of (ws := [x]) rfl kq⟩) (fun _ => ⟨by decide, made_of (ws := [x]) rfl kq⟩)
    clear hN N
    refine seq_op fun N hN => ?_
    walk_at "rs"
    refine ite2 (fun e => ?_) (fun _ => hN _ _ ?_)
    · obtain rfl := kd_of hk kin_BadChange e
      exact ite2 (fun _ => ⟨by decide, made_of (ws := [x]) rfl kq⟩) (fun _ => ⟨by decide, made_of (ws := [x]) rfl kq⟩)
    clear hN N
    refine seq_op fun N hN => ?_
    walk_at "rs"
    refine ite2 (fun e => ?_) (fun _ => hN _ _ ?_)
    · obtain rfl := kd_of hk kin_BadPair e
      exact ite2 (fun _ => ⟨by decide, made_of (ws := [x]) rfl kq⟩) (fun _ => ⟨by decide, made_of (ws := [x]) rfl kq⟩)
    clear hN N
    refine seq_op fun N hN => ?_
    walk_at "rs"
    refine ite2 (fun e => ?_) (fun _ => hN _ _ ?_)
    · obtain rfl := kd_of hk kin_BadDeed e
      exact ite2 (fun _ => ⟨by decide, made_of (ws := [x]) rfl kq⟩) (fun _ => ⟨by decide, made_of (ws := [x]) rfl kq⟩)
    clear hN N
    refine seq_op fun N hN => ?_
    walk_at "rs"
    refine ite2 (fun e => ?_) (fun _ => hN _ _ ?_)
    · obtain rfl := kd_of hk kin_Twice e
      exact ite2 (fun _ => ⟨by decide, made_of (ws := [x]) rfl kq⟩) (fun _ => ⟨by decide, made_of (ws := [x]) rfl kq⟩)
    clear hN N
    refine seq_op fun N hN => ?_
    walk_at "rs"
    refine ite2 (fun e => ?_) (fun _ => hN _ _ ?_)
    · obtain rfl := kd_of hk kin_NoName e
      exact ite2 (fun _ => ⟨by decide, made_of (ws := [x]) rfl kq⟩) (fun _ => ⟨by decide, made_of (ws := [x]) rfl kq⟩)
    clear hN N
    exact absurd h1 (no_other hk (by assumption) (by assumption) (by assumption) (by assumption) (by assumption) (by assumption) (by assumption) (by assumption) (by assumption) (by assumption) (by assumption))
theorem one_field {A : Str → Addr} {k : Kd} (hk : k ∈ kds A) (n1 : k.nm ≠ "BadLine") (n2 : k.nm ≠ "Broken") (n3 : k.nm ≠ "TooMany") (n4 : k.nm ≠ "NothingLeft") : k.ps.length = 1 := by
  simp only [kds, List.mem_cons, List.mem_nil_iff, or_false] at hk
  rcases hk with rfl | rfl | rfl | rfl | rfl | rfl | rfl | rfl | rfl | rfl | rfl | rfl | rfl | rfl | rfl <;> first | rfl | exact absurd rfl n1 | exact absurd rfl n2 | exact absurd rfl n3 | exact absurd rfl n4
theorem ok__law_made (T : Txt w K mg) : FnOk P w K mg base CX0 4 T.a__law_made T.d__law_made ["pick", "one", "two", "way"] (spMadeT T.cA) := by
  refine T.F__law_made.ok sc__law_made (fun vs H Q E h => ?_) (fun cdv A outer s H vs Q E hr h => ?_)
  · obtain ⟨k, x, y, way, _, rfl, _⟩ := h
    rfl
  · obtain ⟨k, x, y, way, hk, rfl, kq⟩ := h
    have hr_init : Room 2 _ := hr.mono (by decide)
    have hr__law_one : Room 3 _ := hr
    have G__law_one := ok__law_one (P := P) (base := base) T
    refine ⟨_, (pss_cons (ps_if (PW.pt (pw_and (pt_cmpR op_eqS (pv 0) pe_str (nomark _)) (pw_and1 (pt_cmpR op_lt (pv 3) pe_int (nomark _))))) (pss_one (ps_ret (pe_ifExp (pt_cmpR op_eqI (pv 3) pe_int (nomark _)) (pe_exV (n := 2) (xd_BadLine T hr_init (by rfl)) (by exact T.p_BadLine) (pa_cons (pv 1) (pa_cons (pv 2) pa_nil))) (pe_exVZ (xd_BadLine T hr_init (by rfl)) (by exact T.z_BadLine) (pk_cons (pv 1) (pk_cons (pv 2) pk_nil)))))) pss_nil)
      (pss_cons (ps_if (pt_cmpR op_eqS (pv 0) pe_str (nomark _)) (pss_one (ps_ret (pe_ifExp (pt_cmpR op_eqI (pv 3) pe_int (nomark _)) (pe_exVZ (xd_BadLine T hr_init (by rfl)) (by exact T.w_BadLine) (pk_cons (pv 2) (pk_cons (pv 1) pk_nil))) (pe_exVN (n := 1) (xd_BadLine T hr_init (by rfl)) (by exact T.x_BadLine) (pa_cons (pv 1) pa_nil) (pk_cons (pv 2) pk_nil))))) pss_nil)
      (pss_cons (ps_if (PW.pt (pw_and (pt_cmpR op_eqS (pv 0) pe_str (nomark _)) (pw_and1 (pt_cmpR op_lt (pv 3) pe_int (nomark _))))) (pss_one (ps_ret (pe_ifExp (pt_cmpR op_eqI (pv 3) pe_int (nomark _)) (pe_exV (n := 2) (xd_Broken T hr_init (by rfl)) (by exact T.p_Broken) (pa_cons (pv 1) (pa_cons (pv 2) pa_nil))) (pe_exVZ (xd_Broken T hr_init (by rfl)) (by exact T.z_Broken) (pk_cons (pv 1) (pk_cons (pv 2) pk_nil)))))) pss_nil)
      (pss_cons (ps_if (pt_cmpR op_eqS (pv 0) pe_str (nomark _)) (pss_one (ps_ret (pe_ifExp (pt_cmpR op_eqI (pv 3) pe_int (nomark _)) (pe_exVZ (xd_Broken T hr_init (by rfl)) (by exact T.w_Broken) (pk_cons (pv 2) (pk_cons (pv 1) pk_nil))) (pe_exVN (n := 1) (xd_Broken T hr_init (by rfl)) (by exact T.x_Broken) (pa_cons (pv 1) pa_nil) (pk_cons (pv 2) pk_nil))))) pss_nil)
      (pss_cons (ps_if (PW.pt (pw_and (pt_cmpR op_eqS (pv 0) pe_str (nomark _)) (pw_and1 (pt_cmpR op_lt (pv 3) pe_int (nomark _))))) (pss_one (ps_ret (pe_ifExp (pt_cmpR op_eqI (pv 3) pe_int (nomark _)) (pe_exV (n := 2) (xd_TooMany T hr_init (by rfl)) (by exact T.p_TooMany) (pa_cons (pv 1) (pa_cons (pv 2) pa_nil))) (pe_exVZ (xd_TooMany T hr_init (by rfl)) (by exact T.z_TooMany) (pk_cons (pv 1) (pk_cons (pv 2) pk_nil)))))) pss_nil)
      (pss_cons (ps_if (pt_cmpR op_eqS (pv 0) pe_str (nomark _)) (pss_one (ps_ret (pe_ifExp (pt_cmpR op_eqI (pv 3) pe_int (nomark _)) (pe_exVZ (xd_TooMany T hr_init (by rfl)) (by exact T.w_TooMany) (pk_cons (pv 2) (pk_cons (pv 1) pk_nil))) (pe_exVN (n := 1) (xd_TooMany T hr_init (by rfl)) (by exact T.x_TooMany) (pa_cons (pv 1) pa_nil) (pk_cons (pv 2) pk_nil))))) pss_nil)
      (pss_cons (ps_if (pt_cmpR op_eqS (pv 0) pe_str (nomark _)) (pss_one (ps_ret (pe_exV0 (xd_NothingLeft T hr_init (by rfl)) (by exact T.p_NothingLeft)))) pss_nil)
      (pss_one (ps_ret (pe_call G__law_one hr__law_one (by rfl) T.m__law_one T.F__law_one.kp T.B__law_one .nil pass0 (pa_cons (pv 0) (pa_cons (pv 1) (pa_cons (pv 3) pa_nil))))))))))))), ?_⟩
    refine cut_seq (fun σ H2 => σ = [some (.str k.nm), some x, some y, some (.int way)] ∧ H = H2) (fun N hN => ?_) ?_
    · walk_at "rs"
      refine ite2 (fun e => ?_) (fun _ => hN _ _ ⟨rfl, rfl⟩)
      refine ite2 (fun _ => ?_) (fun _ => hN _ _ ⟨rfl, rfl⟩)
      obtain rfl := kd_of hk kin_BadLine e
      exact ite2 (fun _ => ⟨by decide, made_of (ws := [x, y]) rfl kq⟩) (fun _ => ⟨by decide, made_of (ws := [x, y]) rfl kq⟩)
    rintro _ _ ⟨rfl, rfl⟩
    refine seq_op fun N hN => ?_
    walk_at "rs"
    refine ite2 (fun e => ?_) (fun n_BadLine => hN _ _ ?_)
    · obtain rfl := kd_of hk kin_BadLine e
      exact ite2 (fun _ => ⟨by decide, made_of (ws := [x, y]) rfl kq⟩) (fun _ => ⟨by decide, made_of (ws := [x, y]) rfl kq⟩)
    clear hN N
    refine cut_seq (fun σ H2 => σ = [some (.str k.nm), some x, some y, some (.int way)] ∧ H = H2) (fun N hN => ?_) ?_
    · walk_at "rs"
      refine ite2 (fun e => ?_) (fun _ => hN _ _ ⟨rfl, rfl⟩)
      refine ite2 (fun _ => ?_) (fun _ => hN _ _ ⟨rfl, rfl⟩)
      obtain rfl := kd_of hk kin_Broken e
      exact ite2 (fun _ => ⟨by decide, made_of (ws := [x, y]) rfl kq⟩) (fun _ => ⟨by decide, made_of (ws := [x, y]) rfl kq⟩)
    rintro _ _ ⟨rfl, rfl⟩
    refine seq_op fun N hN => ?_
    walk_at "rs"
    refine ite2 (fun e => ?_) (fun n_Broken => hN _ _ ?_)
    · obtain rfl := kd_of hk kin_Broken e
      exact ite2 (fun _ => ⟨by decide, made_of (ws := [x, y]) rfl kq⟩) (fun _ => ⟨by decide, made_of (ws := [x, y]) rfl kq⟩)
    clear hN N
    refine cut_seq (fun σ H2 => σ = [some (.str k.nm), some x, some y, some (.int way)] ∧ H = H2) (fun N hN => ?_) ?_
    · walk_at "rs"
      refine ite2 (fun e => ?_) (fun _ => hN _ _ ⟨rfl, rfl⟩)
      refine ite2 (fun _ => ?_) (fun _ => hN _ _ ⟨rfl, rfl⟩)
      obtain rfl := kd_of hk kin_TooMany e
      exact ite2 (fun _ => ⟨by decide, made_of (ws := [x, y]) rfl kq⟩) (fun _ => ⟨by decide, made_of (ws := [x, y]) rfl kq⟩)
    rintro _ _ ⟨rfl, rfl⟩
    refine seq_op fun N hN => ?_
    walk_at "rs"
    refine ite2 (fun e => ?_) (fun n_TooMany => hN _ _ ?_)
    · obtain rfl := kd_of hk kin_TooMany e
      exact ite2 (fun _ => ⟨by decide, made_of (ws := [x, y]) rfl kq⟩) (fun _ => ⟨by decide, made_of (ws := [x, y]) rfl kq⟩)
    clear hN N
    refine seq_op fun N hN => ?_
    walk_at "rs"
    refine ite2 (fun e => ?_) (fun n_NothingLeft => hN _ _ ?_)
    · obtain rfl := kd_of hk kin_NothingLeft e
      exact ⟨by decide, made_of (ws := []) rfl kq⟩
    clear hN N
    walk_at "rs"
    have one := one_field hk n_BadLine n_Broken n_TooMany n_NothingLeft
    refine ⟨k, x, way, hk, one, rfl, fun a H' s1 h0 e => kq a H' s1 h0 ?_⟩
    rw [← fs_take k [x, y], one]
    exact e
end
end LK

set_option Elab.async false
set_option linter.all false
set_option maxRecDepth 100000
namespace LK
open PySem PySem.Spec PyProof.Rows L2
local macro_rules | `(tactic| walk_at "rs") => `(tactic| simp only [cxK, cxNK, tCallZ, tAsg, tOp, rI0, rS0, rB0, rI, rU, tUn, rEq, rNe, rIxL, rIxT, rIxS, rSetL, rSlLU, rSlS, rSlU, rCatL, rCatU, rRepL, rIn, tVar, tC, gName, gSub, tIfS, tTest, tB, tAnd, tOr, tNot, tNotV, tAndV, tOrV, tIf, tCall, tCons, tNil, tCB, tDrop, tRet, tRetN, tNext, tLstU, tTupU, tM0, tM1, tPar, tPar3, tAug, ipI, tBM, tBM0, rAppend, rPop, tBreak, tCont, tChain, tSl, tPart, tNoPart, L2.start, List.map, List.length_cons, List.length_nil, List.replicate, List.cons_append, List.nil_append, List.append_nil, List.getElem?_cons_zero, List.getElem?_cons_succ, List.set_cons_zero, List.set_cons_succ, Option.some.injEq, V.int.injEq, V.ref.injEq, V.str.injEq, V.bl.injEq, exists_eq_left', exists_eq_left, exists_and_left, decide_eq_true_eq, List.cons.injEq, and_true, true_and, scal, tExV, tEf, rIsEr, tDGet2, rIxLT, Bool.not_eq_true', decide_eq_false_iff_not, Nat.zero_add, Nat.reduceAdd, Nat.reduceSub, reduceCtorEq, false_and, exists_false, false_or, or_false, CPow, CMul, CDiv, Int.reduceToNat, ↓reduceIte, wipe, sw, List.nil_append, List.singleton_append])
local macro_rules | `(tactic| walk_at "st") => `(tactic| (refine seq_op fun N hN => ?_; walk_at "rs"))
local macro_rules | `(tactic| walk_at "sd") => `(tactic| first | assumption | decide | omega)
local macro_rules | `(tactic| walk_at "rd") => `(tactic| repeat (first
  | refine ⟨_, SqL.of (by assumption), ?_⟩ | refine ⟨_, SqL.of upd_same, ?_⟩ | refine ⟨_, .inl (SqL.of (by assumption)), ?_⟩ | refine ⟨_, (by assumption : _ = some (HO.lst _)), ?_⟩ | refine ⟨_, upd_same, ?_⟩
  | refine ⟨_, rfl, ?_⟩ | refine And.intro (by walk_at "sd") ?_))

open L2H (cxH)
def spHeld (A : Str → Addr) (Z : Hp → Addr → Addr → List (Str × V) → Prop) : Sp := fun vs H Q _ => ∃ (k : Kd) (a : Addr) (x y : V), k ∈ kds A ∧ vs = [.str k.nm, .ref a] ∧ Z H a k.C (k.fs [x, y]) ∧ ∀ p H', Same H H' → H p = none → H' p = some (.lst (k.held [x, y])) → Q (.ref p) H'
theorem last_kind {A : Str → Addr} {k : Kd} (hk : k ∈ kds A)(n_BadValue : k.nm ≠ "BadValue") (n_BadLine : k.nm ≠ "BadLine") (n_NoText : k.nm ≠ "NoText") (n_TooLong : k.nm ≠ "TooLong") (n_BadNet : k.nm ≠ "BadNet") (n_BadText : k.nm ≠ "BadText") (n_BadChart : k.nm ≠ "BadChart") (n_Broken : k.nm ≠ "Broken") (n_BadChange : k.nm ≠ "BadChange") (n_BadPair : k.nm ≠ "BadPair") (n_BadDeed : k.nm ≠ "BadDeed") (n_Twice : k.nm ≠ "Twice") (n_NoName : k.nm ≠ "NoName") (n_TooMany : k.nm ≠ "TooMany") : k = kd_NothingLeft A := by
  simp only [kds, List.mem_cons, List.mem_nil_iff, or_false] at hk
  rcases hk with rfl | rfl | rfl | rfl | rfl | rfl | rfl | rfl | rfl | rfl | rfl | rfl | rfl | rfl | rfl <;> first | rfl | exact absurd rfl n_BadValue | exact absurd rfl n_BadLine | exact absurd rfl n_NoText | exact absurd rfl n_TooLong | exact absurd rfl n_BadNet | exact absurd rfl n_BadText | exact absurd rfl n_BadChart | exact absurd rfl n_Broken | exact absurd rfl n_BadChange | exact absurd rfl n_BadPair | exact absurd rfl n_BadDeed | exact absurd rfl n_Twice | exact absurd rfl n_NoName | exact absurd rfl n_TooMany
section
variable {P : Program} {w : World} {K : PySem.W.Frag} {mg : Str → Option Value} {base : Heap}
theorem ok__law_held (T : Txt w K mg) : FnOk P w K mg base CX0 1 T.a__law_held T.d__law_held ["pick", "error"] (spHeld T.cA Err) := by
  refine T.F__law_held.ok sc__law_held (fun vs H Q E h => ?_) (fun cdv A outer s H vs Q E hr h => ?_)
  · obtain ⟨k, a, x, y, _, rfl, _⟩ := h
    rfl
  · obtain ⟨k, a, x, y, hk, rfl, he, kq⟩ := h
    have hZ := @hasE_err (cxOf CX0 P w K mg base N__law_held "_law_held" (defScope s__law_held) T.a__law_held cdv A outer s H E).nox
    have U := T.U k hk
    refine ⟨_, (pss_cons (ps_if (pt_cmpR op_eqS (pv 0) pe_str (nomark _)) (pss_one (ps_ret (pe_lstU (pa_cons (pe_errF hZ (pv 1)) pa_nil)))) pss_nil)
      (pss_cons (ps_if (pt_cmpR op_eqS (pv 0) pe_str (nomark _)) (pss_one (ps_ret (pe_lstU (pa_cons (pe_errF hZ (pv 1)) (pa_cons (pe_errF hZ (pv 1)) pa_nil))))) pss_nil)
      (pss_cons (ps_if (pt_cmpR op_eqS (pv 0) pe_str (nomark _)) (pss_one (ps_ret (pe_lstU (pa_cons (pe_errF hZ (pv 1)) pa_nil)))) pss_nil)
      (pss_cons (ps_if (pt_cmpR op_eqS (pv 0) pe_str (nomark _)) (pss_one (ps_ret (pe_lstU (pa_cons (pe_errF hZ (pv 1)) pa_nil)))) pss_nil)
      (pss_cons (ps_if (pt_cmpR op_eqS (pv 0) pe_str (nomark _)) (pss_one (ps_ret (pe_lstU (pa_cons (pe_errF hZ (pv 1)) pa_nil)))) pss_nil)
      (pss_cons (ps_if (pt_cmpR op_eqS (pv 0) pe_str (nomark _)) (pss_one (ps_ret (pe_lstU (pa_cons (pe_errF hZ (pv 1)) pa_nil)))) pss_nil)
      (pss_cons (ps_if (pt_cmpR op_eqS (pv 0) pe_str (nomark _)) (pss_one (ps_ret (pe_lstU (pa_cons (pe_errF hZ (pv 1)) pa_nil)))) pss_nil)
      (pss_cons (ps_if (pt_cmpR op_eqS (pv 0) pe_str (nomark _)) (pss_one (ps_ret (pe_lstU (pa_cons (pe_errF hZ (pv 1)) (pa_cons (pe_errF hZ (pv 1)) pa_nil))))) pss_nil)
      (pss_cons (ps_if (pt_cmpR op_eqS (pv 0) pe_str (nomark _)) (pss_one (ps_ret (pe_lstU (pa_cons (pe_errF hZ (pv 1)) pa_nil)))) pss_nil)
      (pss_cons (ps_if (pt_cmpR op_eqS (pv 0) pe_str (nomark _)) (pss_one (ps_ret (pe_lstU (pa_cons (pe_errF hZ (pv 1)) pa_nil)))) pss_nil)
      (pss_cons (ps_if (pt_cmpR op_eqS (pv 0) pe_str (nomark _)) (pss_one (ps_ret (pe_lstU (pa_cons (pe_errF hZ (pv 1)) pa_nil)))) pss_nil)
      (pss_cons (ps_if (pt_cmpR op_eqS (pv 0) pe_str (nomark _)) (pss_one (ps_ret (pe_lstU (pa_cons (pe_errF hZ (pv 1)) pa_nil)))) pss_nil)
      (pss_cons (ps_if (pt_cmpR op_eqS (pv 0) pe_str (nomark _)) (pss_one (ps_ret (pe_lstU (pa_cons (pe_errF hZ (pv 1)) pa_nil)))) pss_nil)
      (pss_cons (ps_if (pt_cmpR op_eqS (pv 0) pe_str (nomark _)) (pss_one (ps_ret (pe_lstU (pa_cons (pe_errF hZ (pv 1)) (pa_cons (pe_errF hZ (pv 1)) pa_nil))))) pss_nil)
      (pss_one (ps_ret (pe_lstU pa_nil))))))))))))))))), ?_⟩
    refine seq_op fun N hN => ?_
    walk_at "rs"
    refine ite2 (fun e => ?_) (fun n_BadValue => hN _ _ ?_)
    · obtain rfl := kd_of hk kin_BadValue e
      exact ⟨_, _, he, U.xf, U.nf "value" (by show ("value" : Str) ∈ (["value"] : List Str); simp), _, rfl, by decide, kq⟩
    clear hN N
    refine seq_op fun N hN => ?_
    walk_at "rs"
    refine ite2 (fun e => ?_) (fun n_BadLine => hN _ _ ?_)
    · obtain rfl := kd_of hk kin_BadLine e
      exact ⟨_, _, he, U.xf, U.nf "line" (by show ("line" : Str) ∈ (["line", "why"] : List Str); simp), _, rfl, _, _, he, U.xf, U.nf "why" (by show ("why" : Str) ∈ (["line", "why"] : List Str); simp), _, rfl, by decide, kq⟩
    clear hN N
    refine seq_op fun N hN => ?_
    walk_at "rs"
    refine ite2 (fun e => ?_) (fun n_NoText => hN _ _ ?_)
    · obtain rfl := kd_of hk kin_NoText e
      exact ⟨_, _, he, U.xf, U.nf "at" (by show ("at" : Str) ∈ (["at"] : List Str); simp), _, rfl, by decide, kq⟩
    clear hN N
    refine seq_op fun N hN => ?_
    walk_at "rs"
    refine ite2 (fun e => ?_) (fun n_TooLong => hN _ _ ?_)
    · obtain rfl := kd_of hk kin_TooLong e
      exact ⟨_, _, he, U.xf, U.nf "length" (by show ("length" : Str) ∈ (["length"] : List Str); simp), _, rfl, by decide, kq⟩
    clear hN N
    refine seq_op fun N hN => ?_
    walk_at "rs"
    refine ite2 (fun e => ?_) (fun n_BadNet => hN _ _ ?_)
    · obtain rfl := kd_of hk kin_BadNet e
      exact ⟨_, _, he, U.xf, U.nf "where" (by show ("where" : Str) ∈ (["where"] : List Str); simp), _, rfl, by decide, kq⟩
    clear hN N
    refine seq_op fun N hN => ?_
    walk_at "rs"
    refine ite2 (fun e => ?_) (fun n_BadText => hN _ _ ?_)
    · obtain rfl := kd_of hk kin_BadText e
      exact ⟨_, _, he, U.xf, U.nf "line" (by show ("line" : Str) ∈ (["line"] : List Str); simp), _, rfl, by decide, kq⟩
    clear hN N
    refine seq_op fun N hN => ?_
    walk_at "rs"
    refine ite2 (fun e => ?_) (fun n_BadChart => hN _ _ ?_)
    · obtain rfl := kd_of hk kin_BadChart e
      exact ⟨_, _, he, U.xf, U.nf "where" (by show ("where" : Str) ∈ (["where"] : List Str); simp), _, rfl, by decide, kq⟩
    clear hN N
    refine seq_op fun N hN => ?_
    walk_at "rs"
    refine ite2 (fun e => ?_) (fun n_Broken => hN _ _ ?_)
    · obtain rfl := kd_of hk kin_Broken e
      exact ⟨_, _, he, U.xf, U.nf "line" (by show ("line" : Str) ∈ (["line", "word"] : List Str); simp), _, rfl, _, _, he, U.xf, U.nf "word" (by show ("word" : Str) ∈ (["line", "word"] : List Str); simp), _, rfl, by decide, kq⟩
    clear hN N
    refine seq_op fun N hN => ?_
    walk_at "rs"
    refine ite2 (fun e => ?_) (fun n_BadChange => hN _ _ ?_)
    · obtain rfl := kd_of hk kin_BadChange e
      exact ⟨_, _, he, U.xf, U.nf "what" (by show ("what" : Str) ∈ (["what"] : List Str); simp), _, rfl, by decide, kq⟩
    clear hN N
    refine seq_op fun N hN => ?_
    walk_at "rs"
    refine ite2 (fun e => ?_) (fun n_BadPair => hN _ _ ?_)
    · obtain rfl := kd_of hk kin_BadPair e
      exact ⟨_, _, he, U.xf, U.nf "what" (by show ("what" : Str) ∈ (["what"] : List Str); simp), _, rfl, by decide, kq⟩
    clear hN N
    refine seq_op fun N hN => ?_
    walk_at "rs"
    refine ite2 (fun e => ?_) (fun n_BadDeed => hN _ _ ?_)
    · obtain rfl := kd_of hk kin_BadDeed e
      exact ⟨_, _, he, U.xf, U.nf "at" (by show ("at" : Str) ∈ (["at"] : List Str); simp), _, rfl, by decide, kq⟩
    clear hN N
    refine seq_op fun N hN => ?_
    walk_at "rs"
    refine ite2 (fun e => ?_) (fun n_Twice => hN _ _ ?_)
    · obtain rfl := kd_of hk kin_Twice e
      exact ⟨_, _, he, U.xf, U.nf "name" (by show ("name" : Str) ∈ (["name"] : List Str); simp), _, rfl, by decide, kq⟩
    clear hN N
    refine seq_op fun N hN => ?_
    walk_at "rs"
    refine ite2 (fun e => ?_) (fun n_NoName => hN _ _ ?_)
    · obtain rfl := kd_of hk kin_NoName e
      exact ⟨_, _, he, U.xf, U.nf "name" (by show ("name" : Str) ∈ (["name"] : List Str); simp), _, rfl, by decide, kq⟩
    clear hN N
    refine seq_op fun N hN => ?_
    walk_at "rs"
    refine ite2 (fun e => ?_) (fun n_TooMany => hN _ _ ?_)
    · obtain rfl := kd_of hk kin_TooMany e
      exact ⟨_, _, he, U.xf, U.nf "what" (by show ("what" : Str) ∈ (["what", "count"] : List Str); simp), _, rfl, _, _, he, U.xf, U.nf "count" (by show ("count" : Str) ∈ (["what", "count"] : List Str); simp), _, rfl, by decide, kq⟩
    clear hN N
    obtain rfl := last_kind hk (by assumption) (by assumption) (by assumption) (by assumption) (by assumption) (by assumption) (by assumption) (by assumption) (by assumption) (by assumption) (by assumption) (by assumption) (by assumption) (by assumption)
    walk_at "rs"
    exact ⟨by decide, kq⟩
theorem oe__law_held (T : Txt w K mg) : FnE P w K mg base 1 T.a__law_held T.d__law_held ["pick", "error"] (fun p => spHeld T.cA (PinE p)) := by
  refine LK.Fun.okE T.F__law_held sc__law_held (fun p vs H Q E h => ?_) (fun cdv A outer s H vs Q E p h => ?_)
  · obtain ⟨k, a, x, y, _, rfl, _⟩ := h
    rfl
  · obtain ⟨k, a, x, y, hk, rfl, he, kq⟩ := h
    have hZ := @hasE_pin (cxH CX0 P w K mg base N__law_held "_law_held" (defScope s__law_held) T.a__law_held cdv A outer s H E p) p List.mem_cons_self
    have U := T.U k hk
    refine ⟨_, (pss_cons (ps_if (pt_cmpR op_eqS (pv 0) pe_str (nomark _)) (pss_one (ps_ret (pe_lstU (pa_cons (pe_errF hZ (pv 1)) pa_nil)))) pss_nil)
      (pss_cons (ps_if (pt_cmpR op_eqS (pv 0) pe_str (nomark _)) (pss_one (ps_ret (pe_lstU (pa_cons (pe_errF hZ (pv 1)) (pa_cons (pe_errF hZ (pv 1)) pa_nil))))) pss_nil)
      (pss_cons (ps_if (pt_cmpR op_eqS (pv 0) pe_str (nomark _)) (pss_one (ps_ret (pe_lstU (pa_cons (pe_errF hZ (pv 1)) pa_nil)))) pss_nil)
      (pss_cons (ps_if (pt_cmpR op_eqS (pv 0) pe_str (nomark _)) (pss_one (ps_ret (pe_lstU (pa_cons (pe_errF hZ (pv 1)) pa_nil)))) pss_nil)
      (pss_cons (ps_if (pt_cmpR op_eqS (pv 0) pe_str (nomark _)) (pss_one (ps_ret (pe_lstU (pa_cons (pe_errF hZ (pv 1)) pa_nil)))) pss_nil)
      (pss_cons (ps_if (pt_cmpR op_eqS (pv 0) pe_str (nomark _)) (pss_one (ps_ret (pe_lstU (pa_cons (pe_errF hZ (pv 1)) pa_nil)))) pss_nil)
      (pss_cons (ps_if (pt_cmpR op_eqS (pv 0) pe_str (nomark _)) (pss_one (ps_ret (pe_lstU (pa_cons (pe_errF hZ (pv 1)) pa_nil)))) pss_nil)
      (pss_cons (ps_if (pt_cmpR op_eqS (pv 0) pe_str (nomark _)) (pss_one (ps_ret (pe_lstU (pa_cons (pe_errF hZ (pv 1)) (pa_cons (pe_errF hZ (pv 1)) pa_nil))))) pss_nil)
      (pss_cons (ps_if (pt_cmpR op_eqS (pv 0) pe_str (nomark _)) (pss_one (ps_ret (pe_lstU (pa_cons (pe_errF hZ (pv 1)) pa_nil)))) pss_nil)
      (pss_cons (ps_if (pt_cmpR op_eqS (pv 0) pe_str (nomark _)) (pss_one (ps_ret (pe_lstU (pa_cons (pe_errF hZ (pv 1)) pa_nil)))) pss_nil)
      (pss_cons (ps_if (pt_cmpR op_eqS (pv 0) pe_str (nomark _)) (pss_one (ps_ret (pe_lstU (pa_cons (pe_errF hZ (pv 1)) pa_nil)))) pss_nil)
      (pss_cons (ps_if (pt_cmpR op_eqS (pv 0) pe_str (nomark _)) (pss_one (ps_ret (pe_lstU (pa_cons (pe_errF hZ (pv 1)) pa_nil)))) pss_nil)
      (pss_cons (ps_if (pt_cmpR op_eqS (pv 0) pe_str (nomark _)) (pss_one (ps_ret (pe_lstU (pa_cons (pe_errF hZ (pv 1)) pa_nil)))) pss_nil)
      (pss_cons (ps_if (pt_cmpR op_eqS (pv 0) pe_str (nomark _)) (pss_one (ps_ret (pe_lstU (pa_cons (pe_errF hZ (pv 1)) (pa_cons (pe_errF hZ (pv 1)) pa_nil))))) pss_nil)
      (pss_one (ps_ret (pe_lstU pa_nil))))))))))))))))), ?_⟩
    refine seq_op fun N hN => ?_
    walk_at "rs"
    refine ite2 (fun e => ?_) (fun n_BadValue => hN _ _ ?_)
    · obtain rfl := kd_of hk kin_BadValue e
      exact ⟨_, _, he, U.xf, U.nf "value" (by show ("value" : Str) ∈ (["value"] : List Str); simp), _, rfl, by decide, kq⟩
    clear hN N
    refine seq_op fun N hN => ?_
    walk_at "rs"
    refine ite2 (fun e => ?_) (fun n_BadLine => hN _ _ ?_)
    · obtain rfl := kd_of hk kin_BadLine e
      exact ⟨_, _, he, U.xf, U.nf "line" (by show ("line" : Str) ∈ (["line", "why"] : List Str); simp), _, rfl, _, _, he, U.xf, U.nf "why" (by show ("why" : Str) ∈ (["line", "why"] : List Str); simp), _, rfl, by decide, kq⟩
    clear hN N
    refine seq_op fun N hN => ?_
    walk_at "rs"
    refine ite2 (fun e => ?_) (fun n_NoText => hN _ _ ?_)
    · obtain rfl := kd_of hk kin_NoText e
      exact ⟨_, _, he, U.xf, U.nf "at" (by show ("at" : Str) ∈ (["at"] : List Str); simp), _, rfl, by decide, kq⟩
    clear hN N
    refine seq_op fun N hN => ?_
    walk_at "rs"
    refine ite2 (fun e => ?_) (fun n_TooLong => hN _ _ ?_)
    · obtain rfl := kd_of hk kin_TooLong e
      exact ⟨_, _, he, U.xf, U.nf "length" (by show ("length" : Str) ∈ (["length"] : List Str); simp), _, rfl, by decide, kq⟩
    clear hN N
    refine seq_op fun N hN => ?_
    walk_at "rs"
    refine ite2 (fun e => ?_) (fun n_BadNet => hN _ _ ?_)
    · obtain rfl := kd_of hk kin_BadNet e
      exact ⟨_, _, he, U.xf, U.nf "where" (by show ("where" : Str) ∈ (["where"] : List Str); simp), _, rfl, by decide, kq⟩
    clear hN N
    refine seq_op fun N hN => ?_
    walk_at "rs"
    refine ite2 (fun e => ?_) (fun n_BadText => hN _ _ ?_)
    · obtain rfl := kd_of hk kin_BadText e
      exact ⟨_, _, he, U.xf, U.nf "line" (by show ("line" : Str) ∈ (["line"] : List Str); simp), _, rfl, by decide, kq⟩
    clear hN N
    refine seq_op fun N hN => ?_
    walk_at "rs"
    refine ite2 (fun e => ?_) (fun n_BadChart => hN _ _ ?_)
    · obtain rfl := kd_of hk kin_BadChart e
      exact ⟨_, _, he, U.xf, U.nf "where" (by show ("where" : Str) ∈ (["where"] : List Str); simp), _, rfl, by decide, kq⟩
    clear hN N
    refine seq_op fun N hN => ?_
    walk_at "rs"
    refine ite2 (fun e => ?_) (fun n_Broken => hN _ _ ?_)
    · obtain rfl := kd_of hk kin_Broken e
      exact ⟨_, _, he, U.xf, U.nf "line" (by show ("line" : Str) ∈ (["line", "word"] : List Str); simp), _, rfl, _, _, he, U.xf, U.nf "word" (by show ("word" : Str) ∈ (["line", "word"] : List Str); simp), _, rfl, by decide, kq⟩
    clear hN N
    refine seq_op fun N hN => ?_
    walk_at "rs"
    refine ite2 (fun e => ?_) (fun n_BadChange => hN _ _ ?_)
    · obtain rfl := kd_of hk kin_BadChange e
      exact ⟨_, _, he, U.xf, U.nf "what" (by show ("what" : Str) ∈ (["what"] : List Str); simp), _, rfl, by decide, kq⟩
    clear hN N
    refine seq_op fun N hN => ?_
    walk_at "rs"
    refine ite2 (fun e => ?_) (fun n_BadPair => hN _ _ ?_)
    · obtain rfl := kd_of hk kin_BadPair e
      exact ⟨_, _, he, U.xf, U.nf "what" (by show ("what" : Str) ∈ (["what"] : List Str); simp), _, rfl, by decide, kq⟩
    clear hN N
    refine seq_op fun N hN => ?_
    walk_at "rs"
    refine ite2 (fun e => ?_) (fun n_BadDeed => hN _ _ ?_)
    · obtain rfl := kd_of hk kin_BadDeed e
      exact ⟨_, _, he, U.xf, U.nf "at" (by show ("at" : Str) ∈ (["at"] : List Str); simp), _, rfl, by decide, kq⟩
    clear hN N
    refine seq_op fun N hN => ?_
    walk_at "rs"
    refine ite2 (fun e => ?_) (fun n_Twice => hN _ _ ?_)
    · obtain rfl := kd_of hk kin_Twice e
      exact ⟨_, _, he, U.xf, U.nf "name" (by show ("name" : Str) ∈ (["name"] : List Str); simp), _, rfl, by decide, kq⟩
    clear hN N
    refine seq_op fun N hN => ?_
    walk_at "rs"
    refine ite2 (fun e => ?_) (fun n_NoName => hN _ _ ?_)
    · obtain rfl := kd_of hk kin_NoName e
      exact ⟨_, _, he, U.xf, U.nf "name" (by show ("name" : Str) ∈ (["name"] : List Str); simp), _, rfl, by decide, kq⟩
    clear hN N
    refine seq_op fun N hN => ?_
    walk_at "rs"
    refine ite2 (fun e => ?_) (fun n_TooMany => hN _ _ ?_)
    · obtain rfl := kd_of hk kin_TooMany e
      exact ⟨_, _, he, U.xf, U.nf "what" (by show ("what" : Str) ∈ (["what", "count"] : List Str); simp), _, rfl, _, _, he, U.xf, U.nf "count" (by show ("count" : Str) ∈ (["what", "count"] : List Str); simp), _, rfl, by decide, kq⟩
    clear hN N
    obtain rfl := last_kind hk (by assumption) (by assumption) (by assumption) (by assumption) (by assumption) (by assumption) (by assumption) (by assumption) (by assumption) (by assumption) (by assumption) (by assumption) (by assumption) (by assumption)
    walk_at "rs"
    exact ⟨by decide, kq⟩
end
end LK

set_option Elab.async false
set_option linter.all false
set_option maxRecDepth 100000
namespace LK
open PySem PySem.Spec PyProof.Rows L2
local macro_rules | `(tactic| walk_at "rs") => `(tactic| simp only [cxK, cxNK, tCallZ, tAsg, tOp, rI0, rS0, rB0, rI, rU, tUn, rEq, rNe, rIxL, rIxT, rIxS, rSetL, rSlLU, rSlS, rSlU, rCatL, rCatU, rRepL, rIn, tVar, tC, gName, gSub, tIfS, tTest, tB, tAnd, tOr, tNot, tNotV, tAndV, tOrV, tIf, tCall, tCons, tNil, tCB, tDrop, tRet, tRetN, tNext, tLstU, tTupU, tM0, tM1, tPar, tPar3, tAug, ipI, tBM, tBM0, rAppend, rPop, tBreak, tCont, tChain, tSl, tPart, tNoPart, L2.start, List.map, List.length_cons, List.length_nil, List.replicate, List.cons_append, List.nil_append, List.append_nil, List.getElem?_cons_zero, List.getElem?_cons_succ, List.set_cons_zero, List.set_cons_succ, Option.some.injEq, V.int.injEq, V.ref.injEq, V.str.injEq, V.bl.injEq, exists_eq_left', exists_eq_left, exists_and_left, decide_eq_true_eq, List.cons.injEq, and_true, true_and, scal, tExV, tEf, rIsEr, tDGet2, rIxLT, Bool.not_eq_true', decide_eq_false_iff_not, Nat.zero_add, Nat.reduceAdd, Nat.reduceSub, reduceCtorEq, false_and, exists_false, false_or, or_false, CPow, CMul, CDiv, Int.reduceToNat, ↓reduceIte, wipe, sw, List.nil_append, List.singleton_append])
local macro_rules | `(tactic| walk_at "st") => `(tactic| (refine seq_op fun N hN => ?_; walk_at "rs"))
local macro_rules | `(tactic| walk_at "sd") => `(tactic| first | assumption | decide | omega)
local macro_rules | `(tactic| walk_at "rd") => `(tactic| repeat (first
  | refine ⟨_, SqL.of (by assumption), ?_⟩ | refine ⟨_, SqL.of upd_same, ?_⟩ | refine ⟨_, .inl (SqL.of (by assumption)), ?_⟩ | refine ⟨_, (by assumption : _ = some (HO.lst _)), ?_⟩ | refine ⟨_, upd_same, ?_⟩
  | refine ⟨_, rfl, ?_⟩ | refine And.intro (by walk_at "sd") ?_))

def spRaise (A : Str → Addr) : Sp := fun vs H Q E => ∃ (k : Kd) (x y : V), k ∈ kds A ∧ vs = [.str k.nm, x, y] ∧ ∀ d H', Same H H' → H d = none → H' d = some (.xd (k.fs [x, y])) → E (.ref k.C) (some d) H'
theorem raised_T {C : Addr} {nm : Str} {ps : List Str} {ws : List V} {ta : TA} {σ : L2.St} {H0 H1 : Hp} {Qx : XK} (ht : ∀ K : List V → Hp → Prop, K ws H1 → ta σ H0 K) (hs : ws.length ≤ 1000) (hl : ws.length = ps.length)
    (h : ∀ d H', Same H1 H' → H1 d = none → H' d = some (.xd (("code", .str nm) :: (ps.zip ws).reverse)) → Qx (.ref C) (some d) H') : tMkO C (spInit C nm ps) [] ta σ H0 Qx := ht _ ⟨hs, by rw [List.append_nil]; exact raised_of hl h⟩
section
variable {P : Program} {w : World} {K : PySem.W.Frag} {mg : Str → Option Value} {base : Heap}
theorem ok__law_raise (T : Txt w K mg) : FnOk P w K mg base (L2.CX P w) 3 T.a__law_raise T.d__law_raise ["pick", "one", "two"] (spRaise T.cA) := by
  refine T.F__law_raise.okX sc__law_raise (fun vs H Q E h => ?_) (fun cdv A outer s H vs Q E hr h => ?_)
  · obtain ⟨k, x, y, _, rfl, _⟩ := h
    rfl
  · obtain ⟨k, x, y, hk, rfl, kq⟩ := h
    have hr_init : Room 2 _ := hr
    refine ⟨_, (pss_cons (ps_if (pt_cmpR op_eqS (pv 0) pe_str (nomark _)) (pss_one (ps_raise rfl (takes_of rfl rfl rfl rfl) (pmk_oexM baseVE T.X_BadValue T.i_BadValue T.t_BadValue (ok_BadValue T) hr_init T.B_BadValue__init .nil pass0 (by rfl) T.m_BadValue (pa_cons (pv 1) pa_nil)))) pss_nil)
      (pss_cons (ps_if (pt_cmpR op_eqS (pv 0) pe_str (nomark _)) (pss_one (ps_raise rfl (takes_of rfl rfl rfl rfl) (pmk_oexM baseVE T.X_BadLine T.i_BadLine T.t_BadLine (ok_BadLine T) hr_init T.B_BadLine__init .nil pass0 (by rfl) T.m_BadLine (pa_cons (pv 1) (pa_cons (pv 2) pa_nil))))) pss_nil)
      (pss_cons (ps_if (pt_cmpR op_eqS (pv 0) pe_str (nomark _)) (pss_one (ps_raise rfl (takes_of rfl rfl rfl rfl) (pmk_oexM baseVE T.X_NoText T.i_NoText T.t_NoText (ok_NoText T) hr_init T.B_NoText__init .nil pass0 (by rfl) T.m_NoText (pa_cons (pv 1) pa_nil)))) pss_nil)
      (pss_cons (ps_if (pt_cmpR op_eqS (pv 0) pe_str (nomark _)) (pss_one (ps_raise rfl (takes_of rfl rfl rfl rfl) (pmk_oexM baseVE T.X_TooLong T.i_TooLong T.t_TooLong (ok_TooLong T) hr_init T.B_TooLong__init .nil pass0 (by rfl) T.m_TooLong (pa_cons (pv 1) pa_nil)))) pss_nil)
      (pss_cons (ps_if (pt_cmpR op_eqS (pv 0) pe_str (nomark _)) (pss_one (ps_raise rfl (takes_of rfl rfl rfl rfl) (pmk_oexM baseVE T.X_BadNet T.i_BadNet T.t_BadNet (ok_BadNet T) hr_init T.B_BadNet__init .nil pass0 (by rfl) T.m_BadNet (pa_cons (pv 1) pa_nil)))) pss_nil)
      (pss_cons (ps_if (pt_cmpR op_eqS (pv 0) pe_str (nomark _)) (pss_one (ps_raise rfl (takes_of rfl rfl rfl rfl) (pmk_oexM baseVE T.X_BadText T.i_BadText T.t_BadText (ok_BadText T) hr_init T.B_BadText__init .nil pass0 (by rfl) T.m_BadText (pa_cons (pv 1) pa_nil)))) pss_nil)
      (pss_cons (ps_if (pt_cmpR op_eqS (pv 0) pe_str (nomark _)) (pss_one (ps_raise rfl (takes_of rfl rfl rfl rfl) (pmk_oexM baseVE T.X_BadChart T.i_BadChart T.t_BadChart (ok_BadChart T) hr_init T.B_BadChart__init .nil pass0 (by rfl) T.m_BadChart (pa_cons (pv 1) pa_nil)))) pss_nil)
      (pss_cons (ps_if (pt_cmpR op_eqS (pv 0) pe_str (nomark _)) (pss_one (ps_raise rfl (takes_of rfl rfl rfl rfl) (pmk_oexM baseVE T.X_Broken T.i_Broken T.t_Broken (ok_Broken T) hr_init T.B_Broken__init .nil pass0 (by rfl) T.m_Broken (pa_cons (pv 1) (pa_cons (pv 2) pa_nil))))) pss_nil)
      (pss_cons (ps_if (pt_cmpR op_eqS (pv 0) pe_str (nomark _)) (pss_one (ps_raise rfl (takes_of rfl rfl rfl rfl) (pmk_oexM baseVE T.X_BadChange T.i_BadChange T.t_BadChange (ok_BadChange T) hr_init T.B_BadChange__init .nil pass0 (by rfl) T.m_BadChange (pa_cons (pv 1) pa_nil)))) pss_nil)
      (pss_cons (ps_if (pt_cmpR op_eqS (pv 0) pe_str (nomark _)) (pss_one (ps_raise rfl (takes_of rfl rfl rfl rfl) (pmk_oexM baseVE T.X_BadPair T.i_BadPair T.t_BadPair (ok_BadPair T) hr_init T.B_BadPair__init .nil pass0 (by rfl) T.m_BadPair (pa_cons (pv 1) pa_nil)))) pss_nil)
      (pss_cons (ps_if (pt_cmpR op_eqS (pv 0) pe_str (nomark _)) (pss_one (ps_raise rfl (takes_of rfl rfl rfl rfl) (pmk_oexM baseVE T.X_BadDeed T.i_BadDeed T.t_BadDeed (ok_BadDeed T) hr_init T.B_BadDeed__init .nil pass0 (by rfl) T.m_BadDeed (pa_cons (pv 1) pa_nil)))) pss_nil)
      (pss_cons (ps_if (pt_cmpR op_eqS (pv 0) pe_str (nomark _)) (pss_one (ps_raise rfl (takes_of rfl rfl rfl rfl) (pmk_oexM baseVE T.X_Twice T.i_Twice T.t_Twice (ok_Twice T) hr_init T.B_Twice__init .nil pass0 (by rfl) T.m_Twice (pa_cons (pv 1) pa_nil)))) pss_nil)
      (pss_cons (ps_if (pt_cmpR op_eqS (pv 0) pe_str (nomark _)) (pss_one (ps_raise rfl (takes_of rfl rfl rfl rfl) (pmk_oexM baseLE T.X_NoName T.i_NoName T.t_NoName (ok_NoName T) hr_init T.B_NoName__init .nil pass0 (by rfl) T.m_NoName (pa_cons (pv 1) pa_nil)))) pss_nil)
      (pss_cons (ps_if (pt_cmpR op_eqS (pv 0) pe_str (nomark _)) (pss_one (ps_raise rfl (takes_of rfl rfl rfl rfl) (pmk_oexM baseRE T.X_TooMany T.i_TooMany T.t_TooMany (ok_TooMany T) hr_init T.B_TooMany__init .nil pass0 (by rfl) T.m_TooMany (pa_cons (pv 1) (pa_cons (pv 2) pa_nil))))) pss_nil)
      (pss_cons (ps_if (pt_cmpR op_eqS (pv 0) pe_str (nomark _)) (pss_one (ps_raise rfl (takes_of rfl rfl rfl rfl) (pmk_ex0 (xd_NothingLeft T hr_init (by rfl)) (by exact T.B_NothingLeft__init)))) pss_nil)
      (pss_one (ps_ret pe_non))))))))))))))))), ?_⟩
    refine seq_op fun N hN => ?_
    walk_at "rs"
    refine ite2 (fun e => ?_) (fun n_BadValue => hN _ _ ?_)
    · obtain rfl := kd_of hk kin_BadValue e
      exact raised_T (ws := [x]) (fun K h => by walk_at "rs"; exact h) (by simp) rfl kq
    clear hN N
    refine seq_op fun N hN => ?_
    walk_at "rs"
    refine ite2 (fun e => ?_) (fun n_BadLine => hN _ _ ?_)
    · obtain rfl := kd_of hk kin_BadLine e
      exact raised_T (ws := [x, y]) (fun K h => by walk_at "rs"; exact h) (by simp) rfl kq
    clear hN N
    refine seq_op fun N hN => ?_
    walk_at "rs"
    refine ite2 (fun e => ?_) (fun n_NoText => hN _ _ ?_)
    · obtain rfl := kd_of hk kin_NoText e
      exact raised_T (ws := [x]) (fun K h => by walk_at "rs"; exact h) (by simp) rfl kq
    clear hN N
    refine seq_op fun N hN => ?_
    walk_at "rs"
    refine ite2 (fun e => ?_) (fun n_TooLong => hN _ _ ?_)
    · obtain rfl := kd_of hk kin_TooLong e
      exact raised_T (ws := [x]) (fun K h => by walk_at "rs"; exact h) (by simp) rfl kq
    clear hN N
    refine seq_op fun N hN => ?_
    walk_at "rs"
    refine ite2 (fun e => ?_) (fun n_BadNet => hN _ _ ?_)
    · obtain rfl := kd_of hk kin_BadNet e
      exact raised_T (ws := [x]) (fun K h => by walk_at "rs"; exact h) (by simp) rfl kq
    clear hN N
    refine seq_op fun N hN => ?_
    walk_at "rs"
    refine ite2 (fun e => ?_) (fun n_BadText => hN _ _ ?_)
    · obtain rfl := kd_of hk kin_BadText e
      exact raised_T (ws := [x]) (fun K h => by walk_at "rs"; exact h) (by simp) rfl kq
    clear hN N
    refine seq_op fun N hN => ?_
    walk_at "rs"
    refine ite2 (fun e => ?_) (fun n_BadChart => hN _ _ ?_)
    · obtain rfl := kd_of hk kin_BadChart e
      exact raised_T (ws := [x]) (fun K h => by walk_at "rs"; exact h) (by simp) rfl kq
    clear hN N
    refine seq_op fun N hN => ?_
    walk_at "rs"
    refine ite2 (fun e => ?_) (fun n_Broken => hN _ _ ?_)
    · obtain rfl := kd_of hk kin_Broken e
      exact raised_T (ws := [x, y]) (fun K h => by walk_at "rs"; exact h) (by simp) rfl kq
    clear hN N
    refine seq_op fun N hN => ?_
    walk_at "rs"
    refine ite2 (fun e => ?_) (fun n_BadChange => hN _ _ ?_)
    · obtain rfl := kd_of hk kin_BadChange e
      exact raised_T (ws := [x]) (fun K h => by walk_at "rs"; exact h) (by simp) rfl kq
    clear hN N
    refine seq_op fun N hN => ?_
    walk_at "rs"
    refine ite2 (fun e => ?_) (fun n_BadPair => hN _ _ ?_)
    · obtain rfl := kd_of hk kin_BadPair e
      exact raised_T (ws := [x]) (fun K h => by walk_at "rs"; exact h) (by simp) rfl kq
    clear hN N
    refine seq_op fun N hN => ?_
    walk_at "rs"
    refine ite2 (fun e => ?_) (fun n_BadDeed => hN _ _ ?_)
    · obtain rfl := kd_of hk kin_BadDeed e
      exact raised_T (ws := [x]) (fun K h => by walk_at "rs"; exact h) (by simp) rfl kq
    clear hN N
    refine seq_op fun N hN => ?_
    walk_at "rs"
    refine ite2 (fun e => ?_) (fun n_Twice => hN _ _ ?_)
    · obtain rfl := kd_of hk kin_Twice e
      exact raised_T (ws := [x]) (fun K h => by walk_at "rs"; exact h) (by simp) rfl kq
    clear hN N
    refine seq_op fun N hN => ?_
    walk_at "rs"
    refine ite2 (fun e => ?_) (fun n_NoName => hN _ _ ?_)
    · obtain rfl := kd_of hk kin_NoName e
      exact raised_T (ws := [x]) (fun K h => by walk_at "rs"; exact h) (by simp) rfl kq
    clear hN N
    refine seq_op fun N hN => ?_
    walk_at "rs"
    refine ite2 (fun e => ?_) (fun n_TooMany => hN _ _ ?_)
    · obtain rfl := kd_of hk kin_TooMany e
      exact raised_T (ws := [x, y]) (fun K h => by walk_at "rs"; exact h) (by simp) rfl kq
    clear hN N
    refine seq_op fun N hN => ?_
    walk_at "rs"
    refine ite2 (fun e => ?_) (fun n_NothingLeft => hN _ _ ?_)
    · obtain rfl := kd_of hk kin_NothingLeft e
      unfold tMkO0
      exact raised_of (ws := []) rfl kq
    clear hN N
    exact absurd (last_kind hk (by assumption) (by assumption) (by assumption) (by assumption) (by assumption) (by assumption) (by assumption) (by assumption) (by assumption) (by assumption) (by assumption) (by assumption) (by assumption) (by assumption)) (fun z => n_NothingLeft (by rw [z]; rfl))
end
end LK

set_option Elab.async false
set_option linter.all false
set_option maxRecDepth 100000
namespace LK
open PySem PySem.Spec PyProof.Rows L2
local macro_rules | `(tactic| walk_at "rs") => `(tactic| simp only [cxK, cxNK, tCallZ, tAsg, tOp, rI0, rS0, rB0, rI, rU, tUn, rEq, rNe, rIxL, rIxT, rIxS, rSetL, rSlLU, rSlS, rSlU, rCatL, rCatU, rRepL, rIn, tVar, tC, gName, gSub, tIfS, tTest, tB, tAnd, tOr, tNot, tNotV, tAndV, tOrV, tIf, tCall, tCons, tNil, tCB, tDrop, tRet, tRetN, tNext, tLstU, tTupU, tM0, tM1, tPar, tPar3, tAug, ipI, tBM, tBM0, rAppend, rPop, tBreak, tCont, tChain, tSl, tPart, tNoPart, L2.start, List.map, List.length_cons, List.length_nil, List.replicate, List.cons_append, List.nil_append, List.append_nil, List.getElem?_cons_zero, List.getElem?_cons_succ, List.set_cons_zero, List.set_cons_succ, Option.some.injEq, V.int.injEq, V.ref.injEq, V.str.injEq, V.bl.injEq, exists_eq_left', exists_eq_left, exists_and_left, decide_eq_true_eq, List.cons.injEq, and_true, true_and, scal, tExV, tEf, rIsEr, tDGet2, rIxLT, Bool.not_eq_true', decide_eq_false_iff_not, Nat.zero_add, Nat.reduceAdd, Nat.reduceSub, reduceCtorEq, false_and, exists_false, false_or, or_false, CPow, CMul, CDiv, Int.reduceToNat, ↓reduceIte, wipe, sw, List.nil_append, List.singleton_append])
local macro_rules | `(tactic| walk_at "st") => `(tactic| (refine seq_op fun N hN => ?_; walk_at "rs"))
local macro_rules | `(tactic| walk_at "sd") => `(tactic| first | assumption | decide | omega)
local macro_rules | `(tactic| walk_at "rd") => `(tactic| repeat (first
  | refine ⟨_, SqL.of (by assumption), ?_⟩ | refine ⟨_, SqL.of upd_same, ?_⟩ | refine ⟨_, .inl (SqL.of (by assumption)), ?_⟩ | refine ⟨_, (by assumption : _ = some (HO.lst _)), ?_⟩ | refine ⟨_, upd_same, ?_⟩
  | refine ⟨_, rfl, ?_⟩ | refine And.intro (by walk_at "sd") ?_))

/-- a comprehension with a test, tests and items known -/
theorem lc_filt {J : It} {n : Nat} {G : Hp → Prop} {Y : Nat → Hp → V → Hp → Prop} (w : Walk J n G Y) {g : TG} {tt : TT} {te : TE} {vs : List Nat} {σ : L2.St} {H1 : Hp} {D : Addr} {Qd : Hp → Prop} (p : Nat → Bool) (y : Nat → V) (hD : H1 D = none) (hn : n ≤ 1000000)
    (hG : ∀ H, Same H1 H → G H)
    (hs : ∀ i x H H', i < n → Same H1 H → Y i H x H' → g x (wipe σ vs) H' fun σ2 H2 => Same H H2 ∧ wipe σ2 vs = wipe σ vs ∧ (∀ Qt : Bool → Hp → Prop, (∀ H3, Same H2 H3 → Qt (p i) H3) → tt σ2 H2 Qt) ∧ ∀ H3, Same H2 H3 → ∀ Q2 : VK, (∀ H4, Same H3 H4 → Q2 (y i) H4) → te σ2 H3 Q2)
    (gm : ∀ x σ0 H0 Q0 Q1, (∀ σ2 H2, Q0 σ2 H2 → Q1 σ2 H2) → g x σ0 H0 Q0 → g x σ0 H0 Q1)
    (hq : ∀ H', Same H1 H' → H' D = some (.lst (((List.range n).filter p).map y)) → Qd H') :
    ∃ W : Nat → Nat → Hp → Prop, (∃ m, W 0 m (L2.upd H1 D (.lst []))) ∧ ∀ i m H, W i m H →
      (J.stop i H ∧ Qd H) ∨ (J.go i H ∧ ∃ Nx : Hp → Prop, (∀ H', Nx H' → ∃ m', m' < m ∧ W (i + 1) m' H') ∧ ∀ x H', J.yld i H x H' → g x (wipe σ vs) H' fun σ2 H2 => wipe σ2 vs = wipe σ vs ∧ tt σ2 H2 fun b H3 =>
        if b = true then te σ2 H3 fun y H4 => ∃ acc, H4 D = some (.lst acc) ∧ acc.length < sizeLine ∧ Nx (L2.upd H4 D (.lst (acc ++ [y]))) else Nx H3) := by
  have up : ∀ {H : Hp} {o : HO}, Same H1 H → Same H1 (L2.upd H D o) := fun s a u e => by
    rw [upd_ne (ne_of_none e hD)]; exact s _ _ e
  refine lc_it w (fun i H => Same H1 H ∧ H D = some (.lst (((List.range i).filter p).map y))) ⟨up (Same.refl _), upd_same⟩ (fun i H _ h => hG H h.1) (fun i x H H' hi ⟨s1, h1⟩ hY => ?_) (fun H h => hq H h.1 h.2)
  refine gm _ _ _ _ _ (fun σ2 H2 ⟨s2, e2, kt, ke⟩ => ⟨e2, kt _ fun H3 s3 => ?_⟩) (hs i x H H' hi s1 hY)
  have hD3 := s3 _ _ (s2 _ _ h1)
  have s13 := Same.trans s1 (Same.trans s2 s3)
  by_cases c : p i = true
  · rw [if_pos c]
    refine ke H3 s3 _ fun H4 s4 => ⟨_, s4 _ _ hD3, ?_, up (Same.trans s13 s4), ?_⟩
    · rw [List.length_map]
      exact Nat.lt_of_lt_of_le (Nat.lt_of_le_of_lt (List.length_filter_le _ _) (by rw [List.length_range]; exact Nat.lt_of_lt_of_le hi hn)) (by decide)
    · rw [upd_same, List.range_succ, List.filter_append, List.map_append]
      simp [c]
  · rw [if_neg c]
    refine ⟨s13, ?_⟩
    rw [hD3, List.range_succ, List.filter_append]
    simp [c]
/-- the list of pairs, j of them -/
def KI (H : Hp) (p : Addr) (row : List Bool) (j : Nat) (G : Hp) : Prop := ∃ xs : List V, G p = some (.lst xs) ∧ xs.length = j ∧ Same H G ∧ ∀ (i : Nat) (x : V), xs[i]? = some x → ∃ (t : Addr) (n : Str) (b : Bool), x = .ref t ∧ G t = some (.tup [.str n, .bl b]) ∧ kindN[i]? = some n ∧ row[i]? = some b
theorem KI.next {H G G2 : Hp} {p t : Addr} {row : List Bool} {j : Nat} {n : Str} {b : Bool} {xs : List V} (h0 : H p = none) (I : KI H p row j G) (s2 : Same G G2) (t0 : G t = none) (t2 : G2 t = some (.tup [.str n, .bl b])) (hb : row[j]? = some b) (hn : kindN[j]? = some n) (l : G p = some (.lst xs)) :
    KI H p row (j + 1) (L2.upd G2 p (.lst (xs ++ [.ref t]))) := by
  obtain ⟨ys, h1, h2, h3, h4⟩ := I
  rw [l] at h1
  cases h1
  refine ⟨xs ++ [.ref t], upd_same, by simp [h2], fun a o e => ?_, fun i x e => ?_⟩
  · have n1 : a ≠ p := fun z => by rw [z, h0] at e; cases e
    rw [upd_ne n1]
    exact s2 _ _ (h3 _ _ e)
  · by_cases c : i < xs.length
    · rw [List.getElem?_append_left c] at e
      obtain ⟨t', n', b', rfl, e2, e3, e4⟩ := h4 i x e
      have n1 : t' ≠ p := fun z => by rw [z, l] at e2; cases e2
      exact ⟨t', n', b', rfl, by rw [upd_ne n1]; exact s2 _ _ e2, e3, e4⟩
    · have ei : i = j := by
        have := List.getElem?_eq_some_iff.mp e
        obtain ⟨q, _⟩ := this
        simp at q
        omega
      subst ei
      rw [List.getElem?_append_right (by omega), h2, Nat.sub_self] at e
      cases e
      have n1 : t ≠ p := fun z => by rw [z, l] at t0; cases t0
      exact ⟨t, n, b, rfl, by rw [upd_ne n1]; exact t2, hn, hb⟩
theorem kit_at {K : PySem.W.Frag} {A : Str → Addr} {k : Kd} (U : Uni K A k) {j : Nat} {cv : Value} (h : (kindV A)[j]? = some cv) : ∃ b : Bool, k.row[j]? = some b ∧ PySem.W.kitOne K (.ref k.C) cv = some b := by
  have e := congrArg (fun l => l[j]?) U.kit
  simp only [List.getElem?_map] at e
  rw [h] at e
  cases hb : k.row[j]? with
  | none => rw [hb] at e; cases e
  | some b =>
    rw [hb] at e
    exact ⟨b, rfl, Option.some.inj e⟩
theorem due_of {A : Str → Addr} {k : Kd} (hk : k ∈ kds A) : ((List.range 24).filter (fun i => k.row.getD i false)).map (fun i => V.str (kindN.getD i "")) = k.due.map V.str := by
  simp only [kds, List.mem_cons, List.mem_nil_iff, or_false] at hk
  rcases hk with rfl | rfl | rfl | rfl | rfl | rfl | rfl | rfl | rfl | rfl | rfl | rfl | rfl | rfl | rfl <;> rfl
def aboveKV : List (Key × V) := [(.inr "NoName", .str "Missing"), (.inr "TooMany", .str "Full"), (.inr "NothingLeft", .str "")]
theorem above_of {A : Str → Addr} {k : Kd} (hk : k ∈ kds A) : (valV (mergeK [] aboveKV) (.inr k.nm)).getD (.str "NetError") = .str k.ab := by
  simp only [kds, List.mem_cons, List.mem_nil_iff, or_false] at hk
  rcases hk with rfl | rfl | rfl | rfl | rfl | rfl | rfl | rfl | rfl | rfl | rfl | rfl | rfl | rfl | rfl <;> rfl
def spAbove (A : Str → Addr) : Sp := fun vs H Q _ => ∃ k, k ∈ kds A ∧ vs = [.str k.nm] ∧ ∀ H', Same H H' → Q (.str k.ab) H'
def spKinds (A : Str → Addr) : Sp := fun vs H Q _ => ∃ (k : Kd) (a : Addr) (fs : List (Str × V)), k ∈ kds A ∧ vs = [.ref a] ∧ Err H a k.C fs ∧ ∀ p H', Same H H' → H p = none → H' p = some (.lst (k.due.map V.str)) → Q (.ref p) H'
section
variable {P : Program} {w : World} {K : PySem.W.Frag} {mg : Str → Option Value} {base : Heap}
theorem ok__law_above (T : Txt w K mg) : FnOk P w K mg base CX0 1 T.a__law_above T.d__law_above ["pick"] (spAbove T.cA) := by
  refine T.F__law_above.ok sc__law_above (fun vs H Q E h => ?_) (fun cdv A outer s H vs Q E hr h => ?_)
  · obtain ⟨k, _, rfl, _⟩ := h
    rfl
  · obtain ⟨k, hk, rfl, kq⟩ := h
    have hu1 : (A.deeper (envOfC "_law_above" (defScope s__law_above) s.heap.objs.size T.a__law_above cdv)).units + 1 < cLine := Nat.lt_of_le_of_lt (Nat.add_le_add_left (by decide : 1 ≤ 64) _) hr.units
    refine ⟨_, (pss_cons (ps_set (i := 1) sc__law_above.nd rfl (Or.inl rfl) (pe_disp (pps_cons pe_str pe_str (pps_cons pe_str pe_str (pps_cons pe_str pe_str pps_nil))) (by rfl) (by rfl) (fun z => by cases z) (by decide)))
      (pss_one (ps_ret (pe_dget2 hu1 (pv 1) (pv 0) pe_str ⟨rfl, rfl, rfl, rfl⟩)))), ?_⟩
    refine seq_op fun N hN => ?_
    walk_at "rs"
    intro p hp
    unfold tPairs tPairs tPairs tPairs
    walk_at "rs"
    refine ⟨upd_same, aboveKV, rfl, by decide, hN _ _ ?_⟩
    clear hN N
    have h1 : (L2.upd (L2.upd H p (.dK [])) p (.dK (mergeK [] aboveKV))) p = some (.dK (mergeK [] aboveKV)) := upd_same
    have s1 : Same H (L2.upd (L2.upd H p (.dK [])) p (.dK (mergeK [] aboveKV))) := fun a o e => by
      rw [upd_ne (ne_of_none e hp), upd_ne (ne_of_none e hp)]; exact e
    generalize (L2.upd (L2.upd H p (.dK [])) p (.dK (mergeK [] aboveKV))) = H1 at h1 s1 ⊢
    walk_at "rs"
    exact ⟨.inl ⟨_, .inl h1⟩, _, DGet.k (k := .inr k.nm) h1, by rw [above_of hk]; exact kq _ s1⟩
theorem ok__law_kinds (T : Txt w K mg) : FnOk P w K mg base CX0 1 T.a__law_kinds T.d__law_kinds ["error"] (spKinds T.cA) := by
  refine T.F__law_kinds.ok sc__law_kinds (fun vs H Q E h => ?_) (fun cdv A outer s H vs Q E hr h => ?_)
  · obtain ⟨k, a, fs, _, rfl, _⟩ := h
    rfl
  · obtain ⟨k, a, fs, hk, rfl, he, kq⟩ := h
    have U := T.U k hk
    refine ⟨_, (pss_cons (ps_set (i := 1) sc__law_kinds.nd rfl (Or.inl rfl) (pe_lstU pa_nil))
      (pss_cons (ps_expr (pe_bm PySem.F.plainAttrs_list PySem.F.slot_list_append PySem.F.type_list_append mt_append (pv 1) (pa_cons (pe_tupU (pa_cons pe_str (pa_cons (pe_callB (call_isEr hasE_err) (by rfl) T.n_isinstance (by decide +kernel) (pa_cons (pv 0) (pa_cons (pe_glob (v := .ref (T.cA "BadValue")) (by rfl) T.m_BadValue rfl) pa_nil))) pa_nil))) pa_nil)))
      (pss_cons (ps_expr (pe_bm PySem.F.plainAttrs_list PySem.F.slot_list_append PySem.F.type_list_append mt_append (pv 1) (pa_cons (pe_tupU (pa_cons pe_str (pa_cons (pe_callB (call_isEr hasE_err) (by rfl) T.n_isinstance (by decide +kernel) (pa_cons (pv 0) (pa_cons (pe_glob (v := .ref (T.cA "BadLine")) (by rfl) T.m_BadLine rfl) pa_nil))) pa_nil))) pa_nil)))
      (pss_cons (ps_expr (pe_bm PySem.F.plainAttrs_list PySem.F.slot_list_append PySem.F.type_list_append mt_append (pv 1) (pa_cons (pe_tupU (pa_cons pe_str (pa_cons (pe_callB (call_isEr hasE_err) (by rfl) T.n_isinstance (by decide +kernel) (pa_cons (pv 0) (pa_cons (pe_glob (v := .ref (T.cA "NoText")) (by rfl) T.m_NoText rfl) pa_nil))) pa_nil))) pa_nil)))
      (pss_cons (ps_expr (pe_bm PySem.F.plainAttrs_list PySem.F.slot_list_append PySem.F.type_list_append mt_append (pv 1) (pa_cons (pe_tupU (pa_cons pe_str (pa_cons (pe_callB (call_isEr hasE_err) (by rfl) T.n_isinstance (by decide +kernel) (pa_cons (pv 0) (pa_cons (pe_glob (v := .ref (T.cA "TooLong")) (by rfl) T.m_TooLong rfl) pa_nil))) pa_nil))) pa_nil)))
      (pss_cons (ps_expr (pe_bm PySem.F.plainAttrs_list PySem.F.slot_list_append PySem.F.type_list_append mt_append (pv 1) (pa_cons (pe_tupU (pa_cons pe_str (pa_cons (pe_callB (call_isEr hasE_err) (by rfl) T.n_isinstance (by decide +kernel) (pa_cons (pv 0) (pa_cons (pe_glob (v := .ref (T.cA "BadNet")) (by rfl) T.m_BadNet rfl) pa_nil))) pa_nil))) pa_nil)))
      (pss_cons (ps_expr (pe_bm PySem.F.plainAttrs_list PySem.F.slot_list_append PySem.F.type_list_append mt_append (pv 1) (pa_cons (pe_tupU (pa_cons pe_str (pa_cons (pe_callB (call_isEr hasE_err) (by rfl) T.n_isinstance (by decide +kernel) (pa_cons (pv 0) (pa_cons (pe_glob (v := .ref (T.cA "BadText")) (by rfl) T.m_BadText rfl) pa_nil))) pa_nil))) pa_nil)))
      (pss_cons (ps_expr (pe_bm PySem.F.plainAttrs_list PySem.F.slot_list_append PySem.F.type_list_append mt_append (pv 1) (pa_cons (pe_tupU (pa_cons pe_str (pa_cons (pe_callB (call_isEr hasE_err) (by rfl) T.n_isinstance (by decide +kernel) (pa_cons (pv 0) (pa_cons (pe_glob (v := .ref (T.cA "BadChart")) (by rfl) T.m_BadChart rfl) pa_nil))) pa_nil))) pa_nil)))
      (pss_cons (ps_expr (pe_bm PySem.F.plainAttrs_list PySem.F.slot_list_append PySem.F.type_list_append mt_append (pv 1) (pa_cons (pe_tupU (pa_cons pe_str (pa_cons (pe_callB (call_isEr hasE_err) (by rfl) T.n_isinstance (by decide +kernel) (pa_cons (pv 0) (pa_cons (pe_glob (v := .ref (T.cA "Broken")) (by rfl) T.m_Broken rfl) pa_nil))) pa_nil))) pa_nil)))
      (pss_cons (ps_expr (pe_bm PySem.F.plainAttrs_list PySem.F.slot_list_append PySem.F.type_list_append mt_append (pv 1) (pa_cons (pe_tupU (pa_cons pe_str (pa_cons (pe_callB (call_isEr hasE_err) (by rfl) T.n_isinstance (by decide +kernel) (pa_cons (pv 0) (pa_cons (pe_glob (v := .ref (T.cA "BadChange")) (by rfl) T.m_BadChange rfl) pa_nil))) pa_nil))) pa_nil)))
      (pss_cons (ps_expr (pe_bm PySem.F.plainAttrs_list PySem.F.slot_list_append PySem.F.type_list_append mt_append (pv 1) (pa_cons (pe_tupU (pa_cons pe_str (pa_cons (pe_callB (call_isEr hasE_err) (by rfl) T.n_isinstance (by decide +kernel) (pa_cons (pv 0) (pa_cons (pe_glob (v := .ref (T.cA "BadPair")) (by rfl) T.m_BadPair rfl) pa_nil))) pa_nil))) pa_nil)))
      (pss_cons (ps_expr (pe_bm PySem.F.plainAttrs_list PySem.F.slot_list_append PySem.F.type_list_append mt_append (pv 1) (pa_cons (pe_tupU (pa_cons pe_str (pa_cons (pe_callB (call_isEr hasE_err) (by rfl) T.n_isinstance (by decide +kernel) (pa_cons (pv 0) (pa_cons (pe_glob (v := .ref (T.cA "BadDeed")) (by rfl) T.m_BadDeed rfl) pa_nil))) pa_nil))) pa_nil)))
      (pss_cons (ps_expr (pe_bm PySem.F.plainAttrs_list PySem.F.slot_list_append PySem.F.type_list_append mt_append (pv 1) (pa_cons (pe_tupU (pa_cons pe_str (pa_cons (pe_callB (call_isEr hasE_err) (by rfl) T.n_isinstance (by decide +kernel) (pa_cons (pv 0) (pa_cons (pe_glob (v := .ref (T.cA "Twice")) (by rfl) T.m_Twice rfl) pa_nil))) pa_nil))) pa_nil)))
      (pss_cons (ps_expr (pe_bm PySem.F.plainAttrs_list PySem.F.slot_list_append PySem.F.type_list_append mt_append (pv 1) (pa_cons (pe_tupU (pa_cons pe_str (pa_cons (pe_callB (call_isEr hasE_err) (by rfl) T.n_isinstance (by decide +kernel) (pa_cons (pv 0) (pa_cons (pe_glob (v := .ref (T.cA "NoName")) (by rfl) T.m_NoName rfl) pa_nil))) pa_nil))) pa_nil)))
      (pss_cons (ps_expr (pe_bm PySem.F.plainAttrs_list PySem.F.slot_list_append PySem.F.type_list_append mt_append (pv 1) (pa_cons (pe_tupU (pa_cons pe_str (pa_cons (pe_callB (call_isEr hasE_err) (by rfl) T.n_isinstance (by decide +kernel) (pa_cons (pv 0) (pa_cons (pe_glob (v := .ref (T.cA "TooMany")) (by rfl) T.m_TooMany rfl) pa_nil))) pa_nil))) pa_nil)))
      (pss_cons (ps_expr (pe_bm PySem.F.plainAttrs_list PySem.F.slot_list_append PySem.F.type_list_append mt_append (pv 1) (pa_cons (pe_tupU (pa_cons pe_str (pa_cons (pe_callB (call_isEr hasE_err) (by rfl) T.n_isinstance (by decide +kernel) (pa_cons (pv 0) (pa_cons (pe_glob (v := .ref (T.cA "NothingLeft")) (by rfl) T.m_NothingLeft rfl) pa_nil))) pa_nil))) pa_nil)))
      (pss_cons (ps_expr (pe_bm PySem.F.plainAttrs_list PySem.F.slot_list_append PySem.F.type_list_append mt_append (pv 1) (pa_cons (pe_tupU (pa_cons pe_str (pa_cons (pe_callB (call_isEr hasE_err) (by rfl) T.n_isinstance (by decide +kernel) (pa_cons (pv 0) (pa_cons (pe_glob (v := .ref (T.cA "NetError")) (by rfl) T.m_NetError rfl) pa_nil))) pa_nil))) pa_nil)))
      (pss_cons (ps_expr (pe_bm PySem.F.plainAttrs_list PySem.F.slot_list_append PySem.F.type_list_append mt_append (pv 1) (pa_cons (pe_tupU (pa_cons pe_str (pa_cons (pe_callB (call_isEr hasE_err) (by rfl) T.n_isinstance (by decide +kernel) (pa_cons (pv 0) (pa_cons (pe_glob (v := .ref (T.cA "Missing")) (by rfl) T.m_Missing rfl) pa_nil))) pa_nil))) pa_nil)))
      (pss_cons (ps_expr (pe_bm PySem.F.plainAttrs_list PySem.F.slot_list_append PySem.F.type_list_append mt_append (pv 1) (pa_cons (pe_tupU (pa_cons pe_str (pa_cons (pe_callB (call_isEr hasE_err) (by rfl) T.n_isinstance (by decide +kernel) (pa_cons (pv 0) (pa_cons (pe_glob (v := .ref (T.cA "Full")) (by rfl) T.m_Full rfl) pa_nil))) pa_nil))) pa_nil)))
      (pss_cons (ps_expr (pe_bm PySem.F.plainAttrs_list PySem.F.slot_list_append PySem.F.type_list_append mt_append (pv 1) (pa_cons (pe_tupU (pa_cons pe_str (pa_cons (pe_callB (call_isEr hasE_err) (by rfl) T.n_isinstance (by decide +kernel) (pa_cons (pv 0) (pa_cons (pe_bltn (v := .ty "ValueError") (u := .type "ValueError") (by rfl) T.n_ValueError (by decide +kernel) rfl) pa_nil))) pa_nil))) pa_nil)))
      (pss_cons (ps_expr (pe_bm PySem.F.plainAttrs_list PySem.F.slot_list_append PySem.F.type_list_append mt_append (pv 1) (pa_cons (pe_tupU (pa_cons pe_str (pa_cons (pe_callB (call_isEr hasE_err) (by rfl) T.n_isinstance (by decide +kernel) (pa_cons (pv 0) (pa_cons (pe_bltn (v := .ty "LookupError") (u := .type "LookupError") (by rfl) T.n_LookupError (by decide +kernel) rfl) pa_nil))) pa_nil))) pa_nil)))
      (pss_cons (ps_expr (pe_bm PySem.F.plainAttrs_list PySem.F.slot_list_append PySem.F.type_list_append mt_append (pv 1) (pa_cons (pe_tupU (pa_cons pe_str (pa_cons (pe_callB (call_isEr hasE_err) (by rfl) T.n_isinstance (by decide +kernel) (pa_cons (pv 0) (pa_cons (pe_bltn (v := .ty "RuntimeError") (u := .type "RuntimeError") (by rfl) T.n_RuntimeError (by decide +kernel) rfl) pa_nil))) pa_nil))) pa_nil)))
      (pss_cons (ps_expr (pe_bm PySem.F.plainAttrs_list PySem.F.slot_list_append PySem.F.type_list_append mt_append (pv 1) (pa_cons (pe_tupU (pa_cons pe_str (pa_cons (pe_callB (call_isEr hasE_err) (by rfl) T.n_isinstance (by decide +kernel) (pa_cons (pv 0) (pa_cons (pe_bltn (v := .ty "IndexError") (u := .type "IndexError") (by rfl) T.n_IndexError (by decide +kernel) rfl) pa_nil))) pa_nil))) pa_nil)))
      (pss_cons (ps_expr (pe_bm PySem.F.plainAttrs_list PySem.F.slot_list_append PySem.F.type_list_append mt_append (pv 1) (pa_cons (pe_tupU (pa_cons pe_str (pa_cons (pe_callB (call_isEr hasE_err) (by rfl) T.n_isinstance (by decide +kernel) (pa_cons (pv 0) (pa_cons (pe_bltn (v := .ty "KeyError") (u := .type "KeyError") (by rfl) T.n_KeyError (by decide +kernel) rfl) pa_nil))) pa_nil))) pa_nil)))
      (pss_cons (ps_expr (pe_bm PySem.F.plainAttrs_list PySem.F.slot_list_append PySem.F.type_list_append mt_append (pv 1) (pa_cons (pe_tupU (pa_cons pe_str (pa_cons (pe_callB (call_isEr hasE_err) (by rfl) T.n_isinstance (by decide +kernel) (pa_cons (pv 0) (pa_cons (pe_bltn (v := .ty "ArithmeticError") (u := .type "ArithmeticError") (by rfl) T.n_ArithmeticError (by decide +kernel) rfl) pa_nil))) pa_nil))) pa_nil)))
      (pss_one (ps_ret (pe_lc (own := [("pair", 2)]) (g := gName 2) (tt := _) rfl sc__law_kinds.nd (pi_list (pv 1)) (blkOk_by (own := [("pair", 2)]) (N := N__law_kinds) (sc := defScope s__law_kinds) (by decide +kernel)) (fun _ _ _ _ _ => pg_name (i := 2) sc__law_kinds.nd rfl (Or.inl rfl)) (fun _ _ _ _ _ => pts_one (pt_val (pe_ix (ix_tupK (K := K) rfl) (pv 2) pe_int (fun _ _ => rfl)))) (fun _ _ _ _ _ => (pe_ix (ix_tupK (K := K) rfl) (pv 2) pe_int (fun _ _ => rfl))))))))))))))))))))))))))))))), ?_⟩
    refine seq_op fun N hN => ?_
    walk_at "rs"
    refine ⟨by decide, fun p H1 s1 h0 h1 => hN _ _ ?_⟩
    clear hN N
    have I0 : KI H p k.row 0 H1 := ⟨[], h1, rfl, s1, fun i x e => by simp at e⟩
    generalize hG : H1 = G0 at I0 ⊢
    clear h1 s1 hG
    refine cut_seq (fun σ G => σ = [some (.ref a), some (.ref p), none] ∧ KI H p k.row 1 G) (fun N hN => ?_) ?_
    · walk_at "rs"
      obtain ⟨xs, l1, l2, l3, l4⟩ := id I0
      obtain ⟨b, hb, hkit⟩ := kit_at U (j := 0) rfl
      exact ⟨.inl ⟨rfl, _, SqL.of l1⟩, a, k.C, fs, _, ⟨rfl, rfl⟩, he.same l3, U.ix, _, fun u r => r, b, hkit, by decide, fun t H2 s2 t0 t2 => ⟨_, s2 _ _ l1, by rw [l2]; decide, hN _ _ ⟨rfl, KI.next h0 I0 s2 t0 t2 hb rfl l1⟩⟩⟩
    rintro _ G1 ⟨rfl, I1⟩
    clear I0
    refine cut_seq (fun σ G => σ = [some (.ref a), some (.ref p), none] ∧ KI H p k.row 2 G) (fun N hN => ?_) ?_
    · walk_at "rs"
      obtain ⟨xs, l1, l2, l3, l4⟩ := id I1
      obtain ⟨b, hb, hkit⟩ := kit_at U (j := 1) rfl
      exact ⟨.inl ⟨rfl, _, SqL.of l1⟩, a, k.C, fs, _, ⟨rfl, rfl⟩, he.same l3, U.ix, _, fun u r => r, b, hkit, by decide, fun t H2 s2 t0 t2 => ⟨_, s2 _ _ l1, by rw [l2]; decide, hN _ _ ⟨rfl, KI.next h0 I1 s2 t0 t2 hb rfl l1⟩⟩⟩
    rintro _ G2 ⟨rfl, I2⟩
    clear I1
    refine cut_seq (fun σ G => σ = [some (.ref a), some (.ref p), none] ∧ KI H p k.row 3 G) (fun N hN => ?_) ?_
    · walk_at "rs"
      obtain ⟨xs, l1, l2, l3, l4⟩ := id I2
      obtain ⟨b, hb, hkit⟩ := kit_at U (j := 2) rfl
      exact ⟨.inl ⟨rfl, _, SqL.of l1⟩, a, k.C, fs, _, ⟨rfl, rfl⟩, he.same l3, U.ix, _, fun u r => r, b, hkit, by decide, fun t H2 s2 t0 t2 => ⟨_, s2 _ _ l1, by rw [l2]; decide, hN _ _ ⟨rfl, KI.next h0 I2 s2 t0 t2 hb rfl l1⟩⟩⟩
    rintro _ G3 ⟨rfl, I3⟩
    clear I2
    refine cut_seq (fun σ G => σ = [some (.ref a), some (.ref p), none] ∧ KI H p k.row 4 G) (fun N hN => ?_) ?_
    · walk_at "rs"
      obtain ⟨xs, l1, l2, l3, l4⟩ := id I3
      obtain ⟨b, hb, hkit⟩ := kit_at U (j := 3) rfl
      exact ⟨.inl ⟨rfl, _, SqL.of l1⟩, a, k.C, fs, _, ⟨rfl, rfl⟩, he.same l3, U.ix, _, fun u r => r, b, hkit, by decide, fun t H2 s2 t0 t2 => ⟨_, s2 _ _ l1, by rw [l2]; decide, hN _ _ ⟨rfl, KI.next h0 I3 s2 t0 t2 hb rfl l1⟩⟩⟩
    rintro _ G4 ⟨rfl, I4⟩
    clear I3
    refine cut_seq (fun σ G => σ = [some (.ref a), some (.ref p), none] ∧ KI H p k.row 5 G) (fun N hN => ?_) ?_
    · walk_at "rs"
      obtain ⟨xs, l1, l2, l3, l4⟩ := id I4
      obtain ⟨b, hb, hkit⟩ := kit_at U (j := 4) rfl
      exact ⟨.inl ⟨rfl, _, SqL.of l1⟩, a, k.C, fs, _, ⟨rfl, rfl⟩, he.same l3, U.ix, _, fun u r => r, b, hkit, by decide, fun t H2 s2 t0 t2 => ⟨_, s2 _ _ l1, by rw [l2]; decide, hN _ _ ⟨rfl, KI.next h0 I4 s2 t0 t2 hb rfl l1⟩⟩⟩
    rintro _ G5 ⟨rfl, I5⟩
    clear I4
    refine cut_seq (fun σ G => σ = [some (.ref a), some (.ref p), none] ∧ KI H p k.row 6 G) (fun N hN => ?_) ?_
    · walk_at "rs"
      obtain ⟨xs, l1, l2, l3, l4⟩ := id I5
      obtain ⟨b, hb, hkit⟩ := kit_at U (j := 5) rfl
      exact ⟨.inl ⟨rfl, _, SqL.of l1⟩, a, k.C, fs, _, ⟨rfl, rfl⟩, he.same l3, U.ix, _, fun u r => r, b, hkit, by decide, fun t H2 s2 t0 t2 => ⟨_, s2 _ _ l1, by rw [l2]; decide, hN _ _ ⟨rfl, KI.next h0 I5 s2 t0 t2 hb rfl l1⟩⟩⟩
    rintro _ G6 ⟨rfl, I6⟩
    clear I5
    refine cut_seq (fun σ G => σ = [some (.ref a), some (.ref p), none] ∧ KI H p k.row 7 G) (fun N hN => ?_) ?_
    · walk_at "rs"
      obtain ⟨xs, l1, l2, l3, l4⟩ := id I6
      obtain ⟨b, hb, hkit⟩ := kit_at U (j := 6) rfl
      exact ⟨.inl ⟨rfl, _, SqL.of l1⟩, a, k.C, fs, _, ⟨rfl, rfl⟩, he.same l3, U.ix, _, fun u r => r, b, hkit, by decide, fun t H2 s2 t0 t2 => ⟨_, s2 _ _ l1, by rw [l2]; decide, hN _ _ ⟨rfl, KI.next h0 I6 s2 t0 t2 hb rfl l1⟩⟩⟩
    rintro _ G7 ⟨rfl, I7⟩
    clear I6
    refine cut_seq (fun σ G => σ = [some (.ref a), some (.ref p), none] ∧ KI H p k.row 8 G) (fun N hN => ?_) ?_
    · walk_at "rs"
      obtain ⟨xs, l1, l2, l3, l4⟩ := id I7
      obtain ⟨b, hb, hkit⟩ := kit_at U (j := 7) rfl
      exact ⟨.inl ⟨rfl, _, SqL.of l1⟩, a, k.C, fs, _, ⟨rfl, rfl⟩, he.same l3, U.ix, _, fun u r => r, b, hkit, by decide, fun t H2 s2 t0 t2 => ⟨_, s2 _ _ l1, by rw [l2]; decide, hN _ _ ⟨rfl, KI.next h0 I7 s2 t0 t2 hb rfl l1⟩⟩⟩
    rintro _ G8 ⟨rfl, I8⟩
    clear I7
    refine cut_seq (fun σ G => σ = [some (.ref a), some (.ref p), none] ∧ KI H p k.row 9 G) (fun N hN => ?_) ?_
    · walk_at "rs"
      obtain ⟨xs, l1, l2, l3, l4⟩ := id I8
      obtain ⟨b, hb, hkit⟩ := kit_at U (j := 8) rfl
      exact ⟨.inl ⟨rfl, _, SqL.of l1⟩, a, k.C, fs, _, ⟨rfl, rfl⟩, he.same l3, U.ix, _, fun u r => r, b, hkit, by decide, fun t H2 s2 t0 t2 => ⟨_, s2 _ _ l1, by rw [l2]; decide, hN _ _ ⟨rfl, KI.next h0 I8 s2 t0 t2 hb rfl l1⟩⟩⟩
    rintro _ G9 ⟨rfl, I9⟩
    clear I8
    refine cut_seq (fun σ G => σ = [some (.ref a), some (.ref p), none] ∧ KI H p k.row 10 G) (fun N hN => ?_) ?_
    · walk_at "rs"
      obtain ⟨xs, l1, l2, l3, l4⟩ := id I9
      obtain ⟨b, hb, hkit⟩ := kit_at U (j := 9) rfl
      exact ⟨.inl ⟨rfl, _, SqL.of l1⟩, a, k.C, fs, _, ⟨rfl, rfl⟩, he.same l3, U.ix, _, fun u r => r, b, hkit, by decide, fun t H2 s2 t0 t2 => ⟨_, s2 _ _ l1, by rw [l2]; decide, hN _ _ ⟨rfl, KI.next h0 I9 s2 t0 t2 hb rfl l1⟩⟩⟩
    rintro _ G10 ⟨rfl, I10⟩
    clear I9
    refine cut_seq (fun σ G => σ = [some (.ref a), some (.ref p), none] ∧ KI H p k.row 11 G) (fun N hN => ?_) ?_
    · walk_at "rs"
      obtain ⟨xs, l1, l2, l3, l4⟩ := id I10
      obtain ⟨b, hb, hkit⟩ := kit_at U (j := 10) rfl
      exact ⟨.inl ⟨rfl, _, SqL.of l1⟩, a, k.C, fs, _, ⟨rfl, rfl⟩, he.same l3, U.ix, _, fun u r => r, b, hkit, by decide, fun t H2 s2 t0 t2 => ⟨_, s2 _ _ l1, by rw [l2]; decide, hN _ _ ⟨rfl, KI.next h0 I10 s2 t0 t2 hb rfl l1⟩⟩⟩
    rintro _ G11 ⟨rfl, I11⟩
    clear I10
    refine cut_seq (fun σ G => σ = [some (.ref a), some (.ref p), none] ∧ KI H p k.row 12 G) (fun N hN => ?_) ?_
    · walk_at "rs"
      obtain ⟨xs, l1, l2, l3, l4⟩ := id I11
      obtain ⟨b, hb, hkit⟩ := kit_at U (j := 11) rfl
      exact ⟨.inl ⟨rfl, _, SqL.of l1⟩, a, k.C, fs, _, ⟨rfl, rfl⟩, he.same l3, U.ix, _, fun u r => r, b, hkit, by decide, fun t H2 s2 t0 t2 => ⟨_, s2 _ _ l1, by rw [l2]; decide, hN _ _ ⟨rfl, KI.next h0 I11 s2 t0 t2 hb rfl l1⟩⟩⟩
    rintro _ G12 ⟨rfl, I12⟩
    clear I11
    refine cut_seq (fun σ G => σ = [some (.ref a), some (.ref p), none] ∧ KI H p k.row 13 G) (fun N hN => ?_) ?_
    · walk_at "rs"
      obtain ⟨xs, l1, l2, l3, l4⟩ := id I12
      obtain ⟨b, hb, hkit⟩ := kit_at U (j := 12) rfl
      exact ⟨.inl ⟨rfl, _, SqL.of l1⟩, a, k.C, fs, _, ⟨rfl, rfl⟩, he.same l3, U.ix, _, fun u r => r, b, hkit, by decide, fun t H2 s2 t0 t2 => ⟨_, s2 _ _ l1, by rw [l2]; decide, hN _ _ ⟨rfl, KI.next h0 I12 s2 t0 t2 hb rfl l1⟩⟩⟩
    rintro _ G13 ⟨rfl, I13⟩
    clear I12
    refine cut_seq (fun σ G => σ = [some (.ref a), some (.ref p), none] ∧ KI H p k.row 14 G) (fun N hN => ?_) ?_
    · walk_at "rs"
      obtain ⟨xs, l1, l2, l3, l4⟩ := id I13
      obtain ⟨b, hb, hkit⟩ := kit_at U (j := 13) rfl
      exact ⟨.inl ⟨rfl, _, SqL.of l1⟩, a, k.C, fs, _, ⟨rfl, rfl⟩, he.same l3, U.ix, _, fun u r => r, b, hkit, by decide, fun t H2 s2 t0 t2 => ⟨_, s2 _ _ l1, by rw [l2]; decide, hN _ _ ⟨rfl, KI.next h0 I13 s2 t0 t2 hb rfl l1⟩⟩⟩
    rintro _ G14 ⟨rfl, I14⟩
    clear I13
    refine cut_seq (fun σ G => σ = [some (.ref a), some (.ref p), none] ∧ KI H p k.row 15 G) (fun N hN => ?_) ?_
    · walk_at "rs"
      obtain ⟨xs, l1, l2, l3, l4⟩ := id I14
      obtain ⟨b, hb, hkit⟩ := kit_at U (j := 14) rfl
      exact ⟨.inl ⟨rfl, _, SqL.of l1⟩, a, k.C, fs, _, ⟨rfl, rfl⟩, he.same l3, U.ix, _, fun u r => r, b, hkit, by decide, fun t H2 s2 t0 t2 => ⟨_, s2 _ _ l1, by rw [l2]; decide, hN _ _ ⟨rfl, KI.next h0 I14 s2 t0 t2 hb rfl l1⟩⟩⟩
    rintro _ G15 ⟨rfl, I15⟩
    clear I14
    refine cut_seq (fun σ G => σ = [some (.ref a), some (.ref p), none] ∧ KI H p k.row 16 G) (fun N hN => ?_) ?_
    · walk_at "rs"
      obtain ⟨xs, l1, l2, l3, l4⟩ := id I15
      obtain ⟨b, hb, hkit⟩ := kit_at U (j := 15) rfl
      exact ⟨.inl ⟨rfl, _, SqL.of l1⟩, a, k.C, fs, _, ⟨rfl, rfl⟩, he.same l3, U.ix, _, fun u r => r, b, hkit, by decide, fun t H2 s2 t0 t2 => ⟨_, s2 _ _ l1, by rw [l2]; decide, hN _ _ ⟨rfl, KI.next h0 I15 s2 t0 t2 hb rfl l1⟩⟩⟩
    rintro _ G16 ⟨rfl, I16⟩
    clear I15
    refine cut_seq (fun σ G => σ = [some (.ref a), some (.ref p), none] ∧ KI H p k.row 17 G) (fun N hN => ?_) ?_
    · walk_at "rs"
      obtain ⟨xs, l1, l2, l3, l4⟩ := id I16
      obtain ⟨b, hb, hkit⟩ := kit_at U (j := 16) rfl
      exact ⟨.inl ⟨rfl, _, SqL.of l1⟩, a, k.C, fs, _, ⟨rfl, rfl⟩, he.same l3, U.ix, _, fun u r => r, b, hkit, by decide, fun t H2 s2 t0 t2 => ⟨_, s2 _ _ l1, by rw [l2]; decide, hN _ _ ⟨rfl, KI.next h0 I16 s2 t0 t2 hb rfl l1⟩⟩⟩
    rintro _ G17 ⟨rfl, I17⟩
    clear I16
    refine cut_seq (fun σ G => σ = [some (.ref a), some (.ref p), none] ∧ KI H p k.row 18 G) (fun N hN => ?_) ?_
    · walk_at "rs"
      obtain ⟨xs, l1, l2, l3, l4⟩ := id I17
      obtain ⟨b, hb, hkit⟩ := kit_at U (j := 17) rfl
      exact ⟨.inl ⟨rfl, _, SqL.of l1⟩, a, k.C, fs, _, ⟨rfl, rfl⟩, he.same l3, U.ix, _, fun u r => r, b, hkit, by decide, fun t H2 s2 t0 t2 => ⟨_, s2 _ _ l1, by rw [l2]; decide, hN _ _ ⟨rfl, KI.next h0 I17 s2 t0 t2 hb rfl l1⟩⟩⟩
    rintro _ G18 ⟨rfl, I18⟩
    clear I17
    refine cut_seq (fun σ G => σ = [some (.ref a), some (.ref p), none] ∧ KI H p k.row 19 G) (fun N hN => ?_) ?_
    · walk_at "rs"
      obtain ⟨xs, l1, l2, l3, l4⟩ := id I18
      obtain ⟨b, hb, hkit⟩ := kit_at U (j := 18) rfl
      exact ⟨.inl ⟨rfl, _, SqL.of l1⟩, a, k.C, fs, _, ⟨rfl, rfl⟩, he.same l3, U.ix, _, fun u r => r, b, hkit, by decide, fun t H2 s2 t0 t2 => ⟨_, s2 _ _ l1, by rw [l2]; decide, hN _ _ ⟨rfl, KI.next h0 I18 s2 t0 t2 hb rfl l1⟩⟩⟩
    rintro _ G19 ⟨rfl, I19⟩
    clear I18
    refine cut_seq (fun σ G => σ = [some (.ref a), some (.ref p), none] ∧ KI H p k.row 20 G) (fun N hN => ?_) ?_
    · walk_at "rs"
      obtain ⟨xs, l1, l2, l3, l4⟩ := id I19
      obtain ⟨b, hb, hkit⟩ := kit_at U (j := 19) rfl
      exact ⟨.inl ⟨rfl, _, SqL.of l1⟩, a, k.C, fs, _, ⟨rfl, rfl⟩, he.same l3, U.ix, _, fun u r => r, b, hkit, by decide, fun t H2 s2 t0 t2 => ⟨_, s2 _ _ l1, by rw [l2]; decide, hN _ _ ⟨rfl, KI.next h0 I19 s2 t0 t2 hb rfl l1⟩⟩⟩
    rintro _ G20 ⟨rfl, I20⟩
    clear I19
    refine cut_seq (fun σ G => σ = [some (.ref a), some (.ref p), none] ∧ KI H p k.row 21 G) (fun N hN => ?_) ?_
    · walk_at "rs"
      obtain ⟨xs, l1, l2, l3, l4⟩ := id I20
      obtain ⟨b, hb, hkit⟩ := kit_at U (j := 20) rfl
      exact ⟨.inl ⟨rfl, _, SqL.of l1⟩, a, k.C, fs, _, ⟨rfl, rfl⟩, he.same l3, U.ix, _, fun u r => r, b, hkit, by decide, fun t H2 s2 t0 t2 => ⟨_, s2 _ _ l1, by rw [l2]; decide, hN _ _ ⟨rfl, KI.next h0 I20 s2 t0 t2 hb rfl l1⟩⟩⟩
    rintro _ G21 ⟨rfl, I21⟩
    clear I20
    refine cut_seq (fun σ G => σ = [some (.ref a), some (.ref p), none] ∧ KI H p k.row 22 G) (fun N hN => ?_) ?_
    · walk_at "rs"
      obtain ⟨xs, l1, l2, l3, l4⟩ := id I21
      obtain ⟨b, hb, hkit⟩ := kit_at U (j := 21) rfl
      exact ⟨.inl ⟨rfl, _, SqL.of l1⟩, a, k.C, fs, _, ⟨rfl, rfl⟩, he.same l3, U.ix, _, fun u r => r, b, hkit, by decide, fun t H2 s2 t0 t2 => ⟨_, s2 _ _ l1, by rw [l2]; decide, hN _ _ ⟨rfl, KI.next h0 I21 s2 t0 t2 hb rfl l1⟩⟩⟩
    rintro _ G22 ⟨rfl, I22⟩
    clear I21
    refine cut_seq (fun σ G => σ = [some (.ref a), some (.ref p), none] ∧ KI H p k.row 23 G) (fun N hN => ?_) ?_
    · walk_at "rs"
      obtain ⟨xs, l1, l2, l3, l4⟩ := id I22
      obtain ⟨b, hb, hkit⟩ := kit_at U (j := 22) rfl
      exact ⟨.inl ⟨rfl, _, SqL.of l1⟩, a, k.C, fs, _, ⟨rfl, rfl⟩, he.same l3, U.ix, _, fun u r => r, b, hkit, by decide, fun t H2 s2 t0 t2 => ⟨_, s2 _ _ l1, by rw [l2]; decide, hN _ _ ⟨rfl, KI.next h0 I22 s2 t0 t2 hb rfl l1⟩⟩⟩
    rintro _ G23 ⟨rfl, I23⟩
    clear I22
    refine cut_seq (fun σ G => σ = [some (.ref a), some (.ref p), none] ∧ KI H p k.row 24 G) (fun N hN => ?_) ?_
    · walk_at "rs"
      obtain ⟨xs, l1, l2, l3, l4⟩ := id I23
      obtain ⟨b, hb, hkit⟩ := kit_at U (j := 23) rfl
      exact ⟨.inl ⟨rfl, _, SqL.of l1⟩, a, k.C, fs, _, ⟨rfl, rfl⟩, he.same l3, U.ix, _, fun u r => r, b, hkit, by decide, fun t H2 s2 t0 t2 => ⟨_, s2 _ _ l1, by rw [l2]; decide, hN _ _ ⟨rfl, KI.next h0 I23 s2 t0 t2 hb rfl l1⟩⟩⟩
    rintro _ G24 ⟨rfl, I24⟩
    clear I23
    walk_at "rs"
    obtain ⟨xs, l1, l2, l3, l4⟩ := I24
    refine ⟨_, rfl, p, rfl, ⟨xs, SqL.of l1⟩, fun D hD => lc_filt (l2 ▸ walk_list (K := K) (a := p) (xs := xs)) (fun i => k.row.getD i false) (fun i => V.str (kindN.getD i "")) hD (by decide) (fun G s => s.seq (SqL.of l1)) (fun i x G G' hi s y => ?_) (fun x σ0 H0 Q0 Q1 h q => h _ _ q) (fun G s h => ?_)⟩
    · obtain ⟨rfl, hx⟩ := y
      obtain ⟨t, n, b, rfl, e1, e2, e3⟩ := l4 i x hx
      have q1 := s _ _ e1
      have w1 : k.row.getD i false = b := by rw [List.getD_eq_getElem?_getD, e3]; rfl
      have w2 : kindN.getD i "" = n := by rw [List.getD_eq_getElem?_getD, e2]; rfl
      walk_at "rs"
      exact ⟨Same.refl _, fun Qt hq => ⟨_, .inl (.inl q1), _, rfl, _, rfl, by rw [← w1]; exact hq _ (Same.refl _)⟩, fun H3 s3 Q2 hq => ⟨_, .inl (.inl (s3 _ _ q1)), _, rfl, by rw [← w2]; exact hq _ (Same.refl _)⟩⟩
    · exact kq D G (Same.trans l3 s) (Same.dom l3 D hD) (by rw [h, due_of hk])
end
end LK

set_option Elab.async false
set_option linter.all false
set_option maxRecDepth 100000
namespace LK
open PySem PySem.Spec PyProof.Rows L2
local macro_rules | `(tactic| walk_at "rs") => `(tactic| simp only [cxK, cxNK, tCallZ, tAsg, tOp, rI0, rS0, rB0, rI, rU, tUn, rEq, rNe, rIxL, rIxT, rIxS, rSetL, rSlLU, rSlS, rSlU, rCatL, rCatU, rRepL, rIn, tVar, tC, gName, gSub, tIfS, tTest, tB, tAnd, tOr, tNot, tNotV, tAndV, tOrV, tIf, tCall, tCons, tNil, tCB, tDrop, tRet, tRetN, tNext, tLstU, tTupU, tM0, tM1, tPar, tPar3, tAug, ipI, tBM, tBM0, rAppend, rPop, tBreak, tCont, tChain, tSl, tPart, tNoPart, L2.start, List.map, List.length_cons, List.length_nil, List.replicate, List.cons_append, List.nil_append, List.append_nil, List.getElem?_cons_zero, List.getElem?_cons_succ, List.set_cons_zero, List.set_cons_succ, Option.some.injEq, V.int.injEq, V.ref.injEq, V.str.injEq, V.bl.injEq, exists_eq_left', exists_eq_left, exists_and_left, decide_eq_true_eq, List.cons.injEq, and_true, true_and, scal, tExV, tEf, rIsEr, tDGet2, rIxLT, Bool.not_eq_true', decide_eq_false_iff_not, Nat.zero_add, Nat.reduceAdd, Nat.reduceSub, reduceCtorEq, false_and, exists_false, false_or, or_false, CPow, CMul, CDiv, Int.reduceToNat, ↓reduceIte, wipe, sw, List.nil_append, List.singleton_append])
local macro_rules | `(tactic| walk_at "st") => `(tactic| (refine seq_op fun N hN => ?_; walk_at "rs"))
local macro_rules | `(tactic| walk_at "sd") => `(tactic| first | assumption | decide | omega)
local macro_rules | `(tactic| walk_at "rd") => `(tactic| repeat (first
  | refine ⟨_, SqL.of (by assumption), ?_⟩ | refine ⟨_, SqL.of upd_same, ?_⟩ | refine ⟨_, .inl (SqL.of (by assumption)), ?_⟩ | refine ⟨_, (by assumption : _ = some (HO.lst _)), ?_⟩ | refine ⟨_, upd_same, ?_⟩
  | refine ⟨_, rfl, ?_⟩ | refine And.intro (by walk_at "sd") ?_))

open L2H (RoomH roomH_of)
def topsKV (p1 p2 p3 : Addr) : List (Key × V) := [(.inr "NetError", .ref p1), (.inr "Missing", .ref p2), (.inr "Full", .ref p3)]
theorem due_len {A : Str → Addr} {k : Kd} (hk : k ∈ kds A) : k.due.length = 3 := by
  simp only [kds, List.mem_cons, List.mem_nil_iff, or_false] at hk
  rcases hk with rfl | rfl | rfl | rfl | rfl | rfl | rfl | rfl | rfl | rfl | rfl | rfl | rfl | rfl | rfl <;> rfl
theorem tops_of {A : Str → Addr} {k : Kd} {H : Hp} {p1 p2 p3 p4 : Addr} (hk : k ∈ kds A) (g1 : H p1 = some (.lst [.str "NetError", .str "ValueError"])) (g2 : H p2 = some (.lst [.str "Missing", .str "LookupError"])) (g3 : H p3 = some (.lst [.str "Full", .str "RuntimeError"])) (g4 : H p4 = some (.lst [.str "LookupError", .str "IndexError"])) :
    ∃ (q : Addr) (l : List V), (valV (mergeK [] (topsKV p1 p2 p3)) (.inr k.ab)).getD (.ref p4) = .ref q ∧ H q = some (.lst l) ∧ V.str k.nm :: l = k.due.map V.str := by
  simp only [kds, List.mem_cons, List.mem_nil_iff, or_false] at hk
  rcases hk with rfl | rfl | rfl | rfl | rfl | rfl | rfl | rfl | rfl | rfl | rfl | rfl | rfl | rfl | rfl <;> first | exact ⟨p1, _, rfl, g1, rfl⟩ | exact ⟨p2, _, rfl, g2, rfl⟩ | exact ⟨p3, _, rfl, g3, rfl⟩ | exact ⟨p4, _, rfl, g4, rfl⟩
def isS20 : V → Bool
  | .str z => decide (z.length ≤ 20)
  | _ => false
theorem strs_in {l : List V} (h : l.all isS20 = true) : ∀ y ∈ l, ∃ z, y = V.str z ∧ z.length ≤ 20 := fun y hy => by
  have q := List.all_eq_true.mp h y hy
  cases y <;> first | exact ⟨_, rfl, of_decide_eq_true q⟩ | simp [isS20] at q
def spDue (A : Str → Addr) : Sp := fun vs H Q _ => ∃ k, k ∈ kds A ∧ vs = [.str k.nm] ∧ ∀ p H', Same H H' → H p = none → H' p = some (.lst (k.due.map V.str)) → Q (.ref p) H'
def spThing (K : PySem.W.Frag) : Sp := fun vs H Q _ => ∃ (b c : Addr), vs = [.ref b] ∧ Bag H b c ∧ ∀ v d H', Bag H' b c → Kp b H H' → Dp K (nw H H') v d → okD d = true → dep d ≤ 4 → Q v H'
section
variable {P : Program} {w : World} {K : PySem.W.Frag} {mg : Str → Option Value} {base : Heap}
theorem ok__law_due (T : Txt w K mg) : FnOk P w K mg base CX0 2 T.a__law_due T.d__law_due ["pick"] (spDue T.cA) := by
  refine T.F__law_due.ok sc__law_due (fun vs H Q E h => ?_) (fun cdv A outer s H vs Q E hr h => ?_)
  · obtain ⟨k, _, rfl, _⟩ := h
    rfl
  · obtain ⟨k, hk, rfl, kq⟩ := h
    have hu1 : (A.deeper (envOfC "_law_due" (defScope s__law_due) s.heap.objs.size T.a__law_due cdv)).units + 1 < cLine := Nat.lt_of_le_of_lt (Nat.add_le_add_left (by decide : 1 ≤ 64) _) hr.units
    have hr__law_above : Room 1 _ := hr
    have G__law_above := ok__law_above (P := P) (base := base) T
    refine ⟨_, (pss_cons (ps_set (i := 1) sc__law_due.nd rfl (Or.inl rfl) (pe_disp (pps_cons pe_str (pe_lstU (pa_cons pe_str (pa_cons pe_str pa_nil))) (pps_cons pe_str (pe_lstU (pa_cons pe_str (pa_cons pe_str pa_nil))) (pps_cons pe_str (pe_lstU (pa_cons pe_str (pa_cons pe_str pa_nil))) pps_nil))) (by rfl) (by rfl) (fun z => by cases z) (by decide)))
      (pss_one (ps_ret (pe_op op_catL (pe_lstU (pa_cons (pv 0) pa_nil)) (pe_dget2 hu1 (pv 1) (pe_call G__law_above hr__law_above (by rfl) T.m__law_above T.F__law_above.kp T.B__law_above .nil pass0 (pa_cons (pv 0) pa_nil)) (pe_lstU (pa_cons pe_str (pa_cons pe_str pa_nil))) ⟨rfl, rfl, rfl, rfl⟩))))), ?_⟩
    refine seq_op fun N hN => ?_
    walk_at "rs"
    intro p hp
    unfold tPairs tPairs tPairs tPairs
    walk_at "rs"
    refine ⟨by decide, fun p1 H1 s1 n1 h1 => ⟨by decide, fun p2 H2 s2 n2 h2 => ⟨by decide, fun p3 H3 s3 n3 h3 => ⟨s3 _ _ (s2 _ _ (s1 _ _ upd_same)), topsKV p1 p2 p3, rfl, by show 3 ≤ 15; decide, hN _ _ ?_⟩⟩⟩⟩
    clear hN N
    obtain ⟨G, eG⟩ : ∃ G, G = L2.upd H3 p (.dK (mergeK [] (topsKV p1 p2 p3))) := ⟨_, rfl⟩
    have hd : G p = some (.dK (mergeK [] (topsKV p1 p2 p3))) := by rw [eG]; exact upd_same
    have hp3 : H3 p = some (.dK []) := s3 _ _ (s2 _ _ (s1 _ _ upd_same))
    have sg : Same H G := fun a o e => by
      have n : a ≠ p := ne_of_none e hp
      rw [eG, upd_ne n]
      exact s3 _ _ (s2 _ _ (s1 _ _ (by rw [upd_ne n]; exact e)))
    have lg : ∀ (q : Addr) (l : List V), H3 q = some (.lst l) → G q = some (.lst l) := fun q l e => by
      have n : q ≠ p := fun z => by rw [z, hp3] at e; cases e
      rw [eG, upd_ne n]
      exact e
    have g1 := lg _ _ (s3 _ _ (s2 _ _ h1))
    have g2 := lg _ _ (s3 _ _ h2)
    have g3 := lg _ _ h3
    rw [← eG]
    clear eG lg h1 h2 h3 s1 s2 s3 n1 n2 n3 hp3 hp
    walk_at "rs"
    refine ⟨by decide, fun a1 H1 s1 n1 h1 => ⟨.inl ⟨_, .inl (s1 _ _ hd)⟩, k, hk, rfl, fun H2 s2 => ⟨by decide, fun a2 H3 s3 n3 h3 => ?_⟩⟩⟩
    have s23 := Same.trans s2 s3
    have s13 := Same.trans s1 s23
    obtain ⟨q, l, e1, e2, e3⟩ := tops_of hk (s13 _ _ g1) (s13 _ _ g2) (s13 _ _ g3) h3
    refine ⟨_, DGet.k (k := .inr k.ab) (s13 _ _ hd), q, e1, _, s23 _ _ h1, l, e2, ?_, fun a4 H4 s4 n4 h4 => ?_⟩
    · have z := congrArg List.length e3
      rw [List.length_cons, List.length_map] at z
      have z2 := due_len hk
      have z3 : (3 : Nat) ≤ sizeLine := by decide
      rw [List.length_singleton]
      omega
    · have s14 := Same.trans s13 s4
      have s03 : Same H H3 := Same.trans sg s13
      exact kq a4 H4 (Same.trans sg s14) (Same.dom s03 a4 n4) (by rw [h4, ← e3]; rfl)
theorem ok__law_thing (T : Txt w K mg) : FnOk P w K mg base CX0 8 T.a__law_thing T.d__law_thing ["bag"] (spThing K) := by
  refine T.F__law_thing.ok sc__law_thing (fun vs H Q E h => ?_) (fun cdv A outer s H vs Q E hr h => ?_)
  · obtain ⟨b, c, rfl, _⟩ := h
    rfl
  · obtain ⟨b, c, rfl, B, kq⟩ := h
    have hr__law_draw : Room 1 _ := hr.mono (by decide)
    have G__law_draw := ok__law_draw (P := P) (base := base) T
    have hr__law_of : Room 2 _ := hr.mono (by decide)
    have G__law_of := ok__law_of (P := P) (base := base) T
    have hr__law_any : Room 7 _ := hr
    have G__law_any := ok__law_any (P := P) (base := base) T 4
    refine ⟨_, (pss_cons (ps_set (i := 1) sc__law_thing.nd rfl (Or.inl rfl) (pe_call G__law_draw hr__law_draw (by rfl) T.m__law_draw T.F__law_draw.kp T.B__law_draw .nil pass0 (pa_cons (pv 0) (pa_cons pe_int pa_nil))))
      (pss_cons (ps_if (pt_cmpR op_eqI (pv 1) pe_int (nomark _)) (pss_cons (ps_set (i := 2) sc__law_thing.nd rfl (Or.inl rfl) (pe_lstU (pa_cons pe_str (pa_cons pe_str (pa_cons pe_str (pa_cons pe_str (pa_cons pe_str (pa_cons pe_str (pa_cons pe_str (pa_cons pe_str (pa_cons pe_str (pa_cons pe_str (pa_cons pe_str (pa_cons pe_str (pa_cons pe_str pa_nil)))))))))))))))
      (pss_one (ps_ret (pe_call G__law_of hr__law_of (by rfl) T.m__law_of T.F__law_of.kp T.B__law_of .nil pass0 (pa_cons (pv 0) (pa_cons (pe_op op_catL (pv 2) (pe_lstU (pa_cons pe_str (pa_cons pe_str (pa_cons pe_str (pa_cons pe_str (pa_cons pe_str (pa_cons pe_str (pa_cons pe_str pa_nil))))))))) pa_nil)))))) pss_nil)
      (pss_cons (ps_if (pt_cmpR op_eqI (pv 1) pe_int (nomark _)) (pss_one (ps_ret (pe_tupU (pa_cons (pe_op op_sub (pe_call G__law_draw hr__law_draw (by rfl) T.m__law_draw T.F__law_draw.kp T.B__law_draw .nil pass0 (pa_cons (pv 0) (pa_cons pe_int pa_nil))) pe_int) (pa_cons (pe_op op_add pe_int (pe_call G__law_draw hr__law_draw (by rfl) T.m__law_draw T.F__law_draw.kp T.B__law_draw .nil pass0 (pa_cons (pv 0) (pa_cons pe_int pa_nil)))) pa_nil))))) pss_nil)
      (pss_one (ps_ret (pe_call G__law_any hr__law_any (by rfl) T.m__law_any T.F__law_any.kp T.B__law_any .nil pass0 (pa_cons (pv 0) (pa_cons pe_int pa_nil)))))))), ?_⟩
    refine seq_op fun N hN => ?_
    walk_at "rs"
    refine ⟨b, c, 4, rfl, B, by decide, by decide, fun way H1 w0 w1 B1 K1 => hN _ _ ?_⟩
    clear hN N
    refine seq_op fun N hN => ?_
    walk_at "rs"
    refine ite2 (fun e => ?_) (fun e0 => hN _ _ ?_)
    · refine seq_op fun N2 hN2 => ?_
      walk_at "rs"
      refine ⟨by decide, fun p H2 s2 n2 h2 => hN2 _ _ ?_⟩
      clear hN2 N2
      walk_at "rs"
      refine ⟨by decide, fun p2 H3 s3 n3 h3 => ⟨_, s3 _ _ h2, _, h3, Nat.le_trans (show 20 ≤ 20 from Nat.le_refl _) (by decide), fun q H4 s4 n4 h4 => ?_⟩⟩
      have S4 := Same.trans s2 (Same.trans s3 s4)
      refine of_lst (B1.same S4) h4 (new_ne (B1.same (Same.trans s2 s3)) n4) (by simp) (Nat.le_trans (show 20 ≤ 20 from Nat.le_refl _) (by decide)) fun y H5 hy B5 K5 => ?_
      obtain ⟨z, rfl, lz⟩ := strs_in (by decide +kernel) y hy
      exact kq _ (.str z) H5 B5 (Same.trans K1 (Same.trans (Kp.of S4) K5)) (.str z) (decide_eq_true (by omega)) (Nat.zero_le _)
    clear hN N
    refine seq_op fun N hN => ?_
    walk_at "rs"
    refine ite2 (fun e => ?_) (fun e1 => hN _ _ ?_)
    · refine ⟨b, c, 199, rfl, B1, by decide, by decide, fun r H2 r0 r1 B2 K2 => ⟨_, rfl, b, c, 9999, rfl, B2, by decide, by decide, fun r2 H3 q0 q1 B3 K3 => ⟨_, rfl, by decide, fun p H4 s4 n4 h4 => ?_⟩⟩⟩
      have K13 := Same.trans K1 (Same.trans K2 K3)
      obtain ⟨xb, eb⟩ := B3.at
      have np : H p = none := Kp.bn K13 eb n4
      have dp : dep (.tuple [.int (r - 99), .int (1 + r2)]) ≤ 4 := by
        show max 0 (max 0 0) + 1 ≤ 4
        decide
      refine kq _ (.tuple [.int (r - 99), .int (1 + r2)]) H4 (B3.same s4) (Same.trans K13 (Kp.of s4)) (.tup (.inl (.inl (nw_of np h4))) (.cons (.int _) (.cons (.int _) .nil))) (okD_tup.mpr ⟨by simp, ?_⟩) dp
      unfold okAll okAll okAll
      rw [ok_int (by omega), ok_int (by omega)]
      rfl
    clear hN N
    walk_at "rs"
    exact ⟨b, c, 4, rfl, B1, by decide, fun v d H2 B2 K2 hd hok hdep => kq v d H2 B2 (Same.trans K1 K2) (dp_same (nw_anti fun a e => by
      obtain ⟨xb, eb⟩ := B1.at
      exact Kp.bn K1 eb e) hd) hok hdep⟩
end
end LK

set_option Elab.async false
set_option linter.all false
set_option maxRecDepth 100000
namespace LK
open PySem PySem.Spec PyProof.Rows L2
local macro_rules | `(tactic| walk_at "rs") => `(tactic| simp only [cxK, cxNK, tCallZ, tAsg, tOp, rI0, rS0, rB0, rI, rU, tUn, rEq, rNe, rIxL, rIxT, rIxS, rSetL, rSlLU, rSlS, rSlU, rCatL, rCatU, rRepL, rIn, tVar, tC, gName, gSub, tIfS, tTest, tB, tAnd, tOr, tNot, tNotV, tAndV, tOrV, tIf, tCall, tCons, tNil, tCB, tDrop, tRet, tRetN, tNext, tLstU, tTupU, tM0, tM1, tPar, tPar3, tAug, ipI, tBM, tBM0, rAppend, rPop, tBreak, tCont, tChain, tSl, tPart, tNoPart, L2.start, List.map, List.length_cons, List.length_nil, List.replicate, List.cons_append, List.nil_append, List.append_nil, List.getElem?_cons_zero, List.getElem?_cons_succ, List.set_cons_zero, List.set_cons_succ, Option.some.injEq, V.int.injEq, V.ref.injEq, V.str.injEq, V.bl.injEq, exists_eq_left', exists_eq_left, exists_and_left, decide_eq_true_eq, List.cons.injEq, and_true, true_and, scal, tExV, tEf, rIsEr, tDGet2, rIxLT, Bool.not_eq_true', decide_eq_false_iff_not, Nat.zero_add, Nat.reduceAdd, Nat.reduceSub, reduceCtorEq, false_and, exists_false, false_or, or_false, CPow, CMul, CDiv, Int.reduceToNat, ↓reduceIte, wipe, sw, List.nil_append, List.singleton_append])
local macro_rules | `(tactic| walk_at "st") => `(tactic| (refine seq_op fun N hN => ?_; walk_at "rs"))
local macro_rules | `(tactic| walk_at "sd") => `(tactic| first | assumption | decide | omega)
local macro_rules | `(tactic| walk_at "rd") => `(tactic| repeat (first
  | refine ⟨_, SqL.of (by assumption), ?_⟩ | refine ⟨_, SqL.of upd_same, ?_⟩ | refine ⟨_, .inl (SqL.of (by assumption)), ?_⟩ | refine ⟨_, (by assumption : _ = some (HO.lst _)), ?_⟩ | refine ⟨_, upd_same, ?_⟩
  | refine ⟨_, rfl, ?_⟩ | refine And.intro (by walk_at "sd") ?_))

open L2H (RoomH roomH_of)
theorem exm_at {K : PySem.W.Frag} {A : Str → Addr} {k : Kd} (U : Uni K A k) {j : Nat} {cv : Value} (h : (exmV A)[j]? = some cv) : ∃ b : Bool, k.exm[j]? = some b ∧ PySem.W.exmOne K (.ref k.C) cv = some b := by
  have e := congrArg (fun l => l[j]?) U.exm
  simp only [List.getElem?_map] at e
  rw [h] at e
  cases hb : k.exm[j]? with
  | none => rw [hb] at e; cases e
  | some b =>
    rw [hb] at e
    exact ⟨b, rfl, Option.some.inj e⟩
theorem above_by {A : Str → Addr} {k : Kd} (hk : k ∈ kds A) : (k.exm[0]? = some true → k.ab = "NetError") ∧ (k.exm[1]? = some true → k.ab = "Missing") ∧ (k.exm[2]? = some true → k.ab = "Full") ∧ (k.exm[3]? = some true → k.ab = "") ∧ ¬ (k.exm[0]? = some false ∧ k.exm[1]? = some false ∧ k.exm[2]? = some false ∧ k.exm[3]? = some false) := by
  simp only [kds, List.mem_cons, List.mem_nil_iff, or_false] at hk
  rcases hk with rfl | rfl | rfl | rfl | rfl | rfl | rfl | rfl | rfl | rfl | rfl | rfl | rfl | rfl | rfl <;> exact ⟨fun h => by first | rfl | (simp at h; done), fun h => by first | rfl | (simp at h; done), fun h => by first | rfl | (simp at h; done), fun h => by first | rfl | (simp at h; done), fun ⟨h0, h1, h2, h3⟩ => by first | (simp at h0; done) | (simp at h1; done) | (simp at h2; done) | (simp at h3; done)⟩
theorem pe_errS {X : Cx} {a : Addr} {oe : Obj} {cls : Value} {d : Option Addr} {pn : List (Addr × Obj)} {e : Expr} {te : TE} {pos : Pos} {n : Str} (hz : Zc cls d oe) (hf : ∃ vs, oe.data = .fields vs) (he : PE (X.suite a ((a, oe) :: pn)) e te) (hb : attributeBase e n X.env (eval e X.env) = eval e X.env := by rfl) :
    PE (X.suite a ((a, oe) :: pn)) (.Attribute e n pos) (tEf X.K (PinZ a cls d) n te) := pe_errF (hasE_suite hz hf) he hb
def spCaught (A : Str → Addr) : Sp := fun vs H Q _ => ∃ (k : Kd) (x y : V), k ∈ kds A ∧ vs = [.str k.nm, x, y] ∧ ∀ p H', Same H H' → H p = none → H' p = some (.lst ([.str k.ab, .str k.nm] ++ k.held [x, y])) → Q (.ref p) H'
section
variable {P : Program} {w : World} {K : PySem.W.Frag} {mg : Str → Option Value} {base : Heap}
theorem held_imp {A : Str → Addr} {a0 : Addr} {cls : Value} {d : Option Addr} {oe : Obj} (hz : Zc cls d oe) (hf : ∃ vs, oe.data = .fields vs) : ∀ vs H Q E, spHeld A (PinZ a0 cls d) vs H Q E → spHeld A (PinE (a0, oe)) vs H Q E := by
  rintro vs H Q E ⟨k, a, x, y, hk, e, hp, q⟩
  exact ⟨k, a, x, y, hk, e, hp.pin hz hf, q⟩
theorem ok__law_caught (T : Txt w K mg) : FnOk P w K mg base CX0 5 T.a__law_caught T.d__law_caught ["pick", "one", "two"] (spCaught T.cA) := by
  refine T.F__law_caught.ok sc__law_caught (fun vs H Q E h => ?_) (fun cdv A outer s H vs Q E hr h => ?_)
  · obtain ⟨k, x, y, _, rfl, _⟩ := h
    rfl
  · obtain ⟨k, x, y, hk, rfl, kq⟩ := h
    have hr__law_raise : Room 3 _ := hr.mono (by decide)
    have G__law_raise := ok__law_raise (P := P) (base := base) T
    have hH : Room 1 _ := hr.mono (by decide)
    refine ⟨_, pss_cons (ps_try_suites (i := 3) rfl rfl sc__law_caught.nd rfl rfl LamX.takes0 (fun W pn xe tk => pss_one (ps_expr (pe_callS G__law_raise hr__law_raise (by rfl) T.m__law_raise T.F__law_raise.kp T.B__law_raise (fun σ => passAt tk σ) (pa_cons (pv 0) (pa_cons (pv 1) (pa_cons (pv 2) pa_nil))))))
      (.cons (c := .ref (T.cA "NetError")) ⟨by rfl, by decide, .inl T.m_NetError⟩ (fun a oe cls d pn hz hf => pss_one (ps_ret (pe_op op_catL (pe_lstU (pa_cons pe_str (pa_cons (pe_errS hz hf (pv 3)) pa_nil))) (pe_callE (E := E0) (held_imp hz hf) (oe__law_held T) ⟨hH.dp, hH.un⟩ List.mem_cons_self (by rfl) T.m__law_held T.F__law_held.kp T.B__law_held (pa_cons (pv 0) (pa_cons (pv 3) pa_nil)))))) (.cons (c := .ref (T.cA "Missing")) ⟨by rfl, by decide, .inl T.m_Missing⟩ (fun a oe cls d pn hz hf => pss_one (ps_ret (pe_op op_catL (pe_lstU (pa_cons pe_str (pa_cons (pe_errS hz hf (pv 3)) pa_nil))) (pe_callE (E := E0) (held_imp hz hf) (oe__law_held T) ⟨hH.dp, hH.un⟩ List.mem_cons_self (by rfl) T.m__law_held T.F__law_held.kp T.B__law_held (pa_cons (pv 0) (pa_cons (pv 3) pa_nil)))))) (.cons (c := .ref (T.cA "Full")) ⟨by rfl, by decide, .inl T.m_Full⟩ (fun a oe cls d pn hz hf => pss_one (ps_ret (pe_op op_catL (pe_lstU (pa_cons pe_str (pa_cons (pe_errS hz hf (pv 3)) pa_nil))) (pe_callE (E := E0) (held_imp hz hf) (oe__law_held T) ⟨hH.dp, hH.un⟩ List.mem_cons_self (by rfl) T.m__law_held T.F__law_held.kp T.B__law_held (pa_cons (pv 0) (pa_cons (pv 3) pa_nil)))))) (.cons (c := .ref (T.cA "NothingLeft")) ⟨by rfl, by decide, .inl T.m_NothingLeft⟩ (fun a oe cls d pn hz hf => pss_one (ps_ret (pe_op op_catL (pe_lstU (pa_cons pe_str (pa_cons (pe_errS hz hf (pv 3)) pa_nil))) (pe_callE (E := E0) (held_imp hz hf) (oe__law_held T) ⟨hH.dp, hH.un⟩ List.mem_cons_self (by rfl) T.m__law_held T.F__law_held.kp T.B__law_held (pa_cons (pv 0) (pa_cons (pv 3) pa_nil)))))) .nil)))))
      (pss_one (ps_ret (pe_lstU (pa_cons pe_str pa_nil)))), ?_⟩
    have U := T.U k hk
    obtain ⟨b0, q0, e0⟩ := exm_at U (j := 0) rfl
    obtain ⟨b1, q1, e1⟩ := exm_at U (j := 1) rfl
    obtain ⟨b2, q2, e2⟩ := exm_at U (j := 2) rfl
    obtain ⟨b3, q3, e3⟩ := exm_at U (j := 3) rfl
    obtain ⟨a0, a1, a2, a3, a4⟩ := above_by hk
    refine seq_op fun N hN => ?_
    walk_at "rs"
    unfold tCallS
    walk_at "rs"
    refine ⟨k, x, y, hk, rfl, fun d H1 s1 n1 h1 => ?_⟩
    have pin : ∀ a, PinZ a (.ref k.C) (some d) H1 a k.C (k.fs [x, y]) := fun a => ⟨rfl, rfl, d, rfl, h1⟩
    have fin : ∀ (nm0 : Str), k.ab = nm0 → ∀ (p : Addr) (H2 : Hp), Same H1 H2 → H1 p = none → H2 p = some (.lst [.str nm0, .str k.nm]) → ∀ (r : Addr) (H3 : Hp), Same H2 H3 → H2 r = none → H3 r = some (.lst (k.held [x, y])) → ∀ (l : Addr) (H4 : Hp), Same H3 H4 → H3 l = none → H4 l = some (.lst ([.str nm0, .str k.nm] ++ k.held [x, y])) → Q (.ref l) H4 := by
      rintro _ rfl p H2 s2 n2 h2 r H3 s3 n3 h3 l H4 s4 n4 h4
      have s13 := Same.trans s1 (Same.trans s2 s3)
      exact kq l H4 (Same.trans s13 s4) (Same.dom s13 l n4) h4
    have few : [V.str k.ab, V.str k.nm].length + (k.held [x, y]).length ≤ sizeLine := by
      unfold Kd.held
      rw [List.length_take]
      have z : (4 : Nat) ≤ sizeLine := by decide
      simp only [List.length_cons, List.length_nil]
      omega
    refine ⟨b0, e0, fun f0 => ⟨b1, e1, fun f1 => ⟨b2, e2, fun f2 => ⟨b3, e3, fun f3 => ?_, fun t3 a na => ?_⟩, fun t2 a na => ?_⟩, fun t1 a na => ?_⟩, fun t0 a na => ?_⟩
    · exact a4 ⟨f0 ▸ q0, f1 ▸ q1, f2 ▸ q2, f3 ▸ q3⟩
    · walk_at "rs"
      exact ⟨k.C, _, pin a, U.xf, U.nc, _, rfl, by decide, fun p H2 s2 n2 h2 => ⟨k, a, x, y, hk, rfl, ⟨rfl, rfl, d, rfl, s2 _ _ h1⟩, fun r H3 s3 n3 h3 => ⟨r, rfl, _, s3 _ _ h2, _, h3, few, fun l H4 s4 n4 h4 => fin _ (a3 (t3 ▸ q3)) p H2 s2 n2 h2 r H3 s3 n3 h3 l H4 s4 n4 h4⟩⟩⟩
    · walk_at "rs"
      exact ⟨k.C, _, pin a, U.xf, U.nc, _, rfl, by decide, fun p H2 s2 n2 h2 => ⟨k, a, x, y, hk, rfl, ⟨rfl, rfl, d, rfl, s2 _ _ h1⟩, fun r H3 s3 n3 h3 => ⟨r, rfl, _, s3 _ _ h2, _, h3, few, fun l H4 s4 n4 h4 => fin _ (a2 (t2 ▸ q2)) p H2 s2 n2 h2 r H3 s3 n3 h3 l H4 s4 n4 h4⟩⟩⟩
    · walk_at "rs"
      exact ⟨k.C, _, pin a, U.xf, U.nc, _, rfl, by decide, fun p H2 s2 n2 h2 => ⟨k, a, x, y, hk, rfl, ⟨rfl, rfl, d, rfl, s2 _ _ h1⟩, fun r H3 s3 n3 h3 => ⟨r, rfl, _, s3 _ _ h2, _, h3, few, fun l H4 s4 n4 h4 => fin _ (a1 (t1 ▸ q1)) p H2 s2 n2 h2 r H3 s3 n3 h3 l H4 s4 n4 h4⟩⟩⟩
    · walk_at "rs"
      exact ⟨k.C, _, pin a, U.xf, U.nc, _, rfl, by decide, fun p H2 s2 n2 h2 => ⟨k, a, x, y, hk, rfl, ⟨rfl, rfl, d, rfl, s2 _ _ h1⟩, fun r H3 s3 n3 h3 => ⟨r, rfl, _, s3 _ _ h2, _, h3, few, fun l H4 s4 n4 h4 => fin _ (a0 (t0 ▸ q0)) p H2 s2 n2 h2 r H3 s3 n3 h3 l H4 s4 n4 h4⟩⟩⟩
end
end LK

set_option Elab.async false
set_option linter.all false
set_option maxRecDepth 100000
namespace LK
open PySem PySem.Spec PyProof.Rows L2
local macro_rules | `(tactic| walk_at "rs") => `(tactic| simp only [cxK, cxNK, tCallZ, tAsg, tOp, rI0, rS0, rB0, rI, rU, tUn, rEq, rNe, rIxL, rIxT, rIxS, rSetL, rSlLU, rSlS, rSlU, rCatL, rCatU, rRepL, rIn, tVar, tC, gName, gSub, tIfS, tTest, tB, tAnd, tOr, tNot, tNotV, tAndV, tOrV, tIf, tCall, tCons, tNil, tCB, tDrop, tRet, tRetN, tNext, tLstU, tTupU, tM0, tM1, tPar, tPar3, tAug, ipI, tBM, tBM0, rAppend, rPop, tBreak, tCont, tChain, tSl, tPart, tNoPart, L2.start, List.map, List.length_cons, List.length_nil, List.replicate, List.cons_append, List.nil_append, List.append_nil, List.getElem?_cons_zero, List.getElem?_cons_succ, List.set_cons_zero, List.set_cons_succ, Option.some.injEq, V.int.injEq, V.ref.injEq, V.str.injEq, V.bl.injEq, exists_eq_left', exists_eq_left, exists_and_left, decide_eq_true_eq, List.cons.injEq, and_true, true_and, scal, tExV, tEf, rIsEr, tDGet2, rIxLT, Bool.not_eq_true', decide_eq_false_iff_not, Nat.zero_add, Nat.reduceAdd, Nat.reduceSub, reduceCtorEq, false_and, exists_false, false_or, or_false, CPow, CMul, CDiv, Int.reduceToNat, ↓reduceIte, wipe, sw, List.nil_append, List.singleton_append])
local macro_rules | `(tactic| walk_at "st") => `(tactic| (refine seq_op fun N hN => ?_; walk_at "rs"))
local macro_rules | `(tactic| walk_at "sd") => `(tactic| first | assumption | decide | omega)
local macro_rules | `(tactic| walk_at "rd") => `(tactic| repeat (first
  | refine ⟨_, SqL.of (by assumption), ?_⟩ | refine ⟨_, SqL.of upd_same, ?_⟩ | refine ⟨_, .inl (SqL.of (by assumption)), ?_⟩ | refine ⟨_, (by assumption : _ = some (HO.lst _)), ?_⟩ | refine ⟨_, upd_same, ?_⟩
  | refine ⟨_, rfl, ?_⟩ | refine And.intro (by walk_at "sd") ?_))

/-- the two things of a pair -/
structure Two (K : PySem.W.Frag) (G : Hp) (q : Addr) (x y : V) : Prop where
  at_ : G q = some (.lst [x, y])
  one : ∃ d, Dp K G x d ∧ okD d = true ∧ dep d ≤ 4
  two : ∃ d, Dp K G y d ∧ okD d = true ∧ dep d ≤ 4
theorem Two.same {K : PySem.W.Frag} {G G' : Hp} {q : Addr} {x y : V} (t : Two K G q x y) (s : Same G G') : Two K G' q x y := by
  obtain ⟨h, ⟨d, h1, h2, h3⟩, ⟨e, g1, g2, g3⟩⟩ := t
  exact ⟨s _ _ h, ⟨d, dp_same s h1, h2, h3⟩, ⟨e, dp_same s g1, g2, g3⟩⟩
def PairAt (K : PySem.W.Frag) (G : Hp) (v : V) : Prop := ∃ (q : Addr) (x y : V), v = .ref q ∧ Two K G q x y
theorem PairAt.same {K : PySem.W.Frag} {G G' : Hp} {v : V} (t : PairAt K G v) (s : Same G G') : PairAt K G' v := by
  obtain ⟨q, x, y, e, t⟩ := t
  exact ⟨q, x, y, e, t.same s⟩
theorem args3 {ws : List V} (h : ws.length = 3) : ∃ x y z, ws = [x, y, z] := match ws, h with | [x, y, z], _ => ⟨x, y, z, rfl⟩
theorem nw_kp {H H1 H2 : Hp} {b : Addr} {o : HO} (eb : H b = some o) (k : Kp b H1 H2) : Same (nw H H1) (nw H H2) := nw_same fun a u h0 h1 => (hb_some (k a u (by
  have n : a ≠ b := fun z => by rw [z, eb] at h0; cases h0
  rw [hb_ne n]; exact h1))).2
theorem newc {b c p : Addr} {H : Hp} (B : Bag H b c) (h0 : H p = none) : c ≠ p := fun e => by
  obtain ⟨xc, ec⟩ := B.at2
  rw [e, h0] at ec; cases ec
theorem Kp.upd2 {b p : Addr} {H H' : Hp} {o : HO} (k : Kp b H H') (h : H p = none) : Kp b H (L2.upd H' p o) := fun a u e => by
  obtain ⟨n1, e1⟩ := hb_some e
  have n : a ≠ p := fun z => by rw [z, h] at e1; cases e1
  rw [hb_ne n1, upd_ne n]
  have := k a u e
  rw [hb_ne n1] at this
  exact this
theorem Err.updB {G : Hp} {b a C D : Addr} {fs : List (Str × V)} {xs : List V} {o : HO} (e : Err (hb G b) a C fs) (h : G D = some (.lst xs)) : Err (hb (L2.upd G D o) b) a C fs := by
  obtain ⟨oe, vs, d, h1, h2, h3, h4, h5⟩ := e
  obtain ⟨n1, e1⟩ := hb_some h1
  obtain ⟨n2, e2⟩ := hb_some h5
  have m1 : a ≠ D := fun z => by rw [z, h] at e1; cases e1
  have m2 : d ≠ D := fun z => by rw [z, h] at e2; cases e2
  exact ⟨oe, vs, d, by rw [hb_ne n1, upd_ne m1]; exact e1, h2, h3, h4, by rw [hb_ne n2, upd_ne m2]; exact e2⟩
theorem Err.hbB {G : Hp} {b c a C : Addr} {fs : List (Str × V)} (e : Err G a C fs) (B : Bag G b c) : Err (hb G b) a C fs := by
  obtain ⟨xb, eb⟩ := B.at
  obtain ⟨oe, vs, d, h1, h2, h3, h4, h5⟩ := e
  have m1 : a ≠ b := fun z => by rw [z, eb] at h1; cases h1
  have m2 : d ≠ b := fun z => by rw [z, eb] at h5; cases h5
  exact ⟨oe, vs, d, by rw [hb_ne m1]; exact h1, h2, h3, h4, by rw [hb_ne m2]; exact h5⟩
/-- the errors made so far -/
def ErrsI (H : Hp) (b c D : Addr) (k : Kd) (L : List (V × V)) (i : Nat) (G : Hp) : Prop := ∃ es : List Addr, G D = some (.lst (es.map V.ref)) ∧ es.length = i ∧ Bag G b c ∧ Kp b H G ∧ ∀ (j : Nat) (e : Addr) (pr : V × V), es[j]? = some e → L[j]? = some pr → Err (hb G b) e k.C (k.fs [pr.1, pr.2])
theorem ErrsI.seq {K : PySem.W.Frag} {H G : Hp} {b c D p : Addr} {k : Kd} {L : List (V × V)} {i : Nat} {xs : List V} (I : ErrsI H b c D k L i G) (n : p ≠ b) (h : H p = some (.lst xs)) : SqL K G p xs := by
  obtain ⟨es, h1, h2, h3, h4, h5⟩ := I
  exact SqL.of (h4.hd h n)
theorem argsA2 {es : List Addr} (h : es.length = 2) : ∃ x y, es = [x, y] := match es, h with | [x, y], _ => ⟨x, y, rfl⟩
/-- the pairs and the errors -/
structure Sso (K : PySem.W.Frag) (b c : Addr) (k : Kd) (D D2 : Addr) (qs es : List Addr) (L : List (V × V)) (G : Hp) : Prop where
  bag : Bag G b c
  pd : G D = some (.lst (qs.map V.ref))
  pe : G D2 = some (.lst (es.map V.ref))
  tw : ∀ (j : Nat) (q : Addr) (pr : V × V), qs[j]? = some q → L[j]? = some pr → Two K G q pr.1 pr.2
  er : ∀ (j : Nat) (e : Addr) (pr : V × V), es[j]? = some e → L[j]? = some pr → Err G e k.C (k.fs [pr.1, pr.2])
theorem Sso.same {K : PySem.W.Frag} {b c : Addr} {k : Kd} {D D2 : Addr} {qs es : List Addr} {L : List (V × V)} {G G' : Hp} (S : Sso K b c k D D2 qs es L G) (s : Same G G') : Sso K b c k D D2 qs es L G' :=
  ⟨S.bag.same s, s _ _ S.pd, s _ _ S.pe, fun j q pr h1 h2 => (S.tw j q pr h1 h2).same s, fun j e pr h1 h2 => (S.er j e pr h1 h2).same s⟩
theorem Sso.pick {K : PySem.W.Frag} {b c : Addr} {k : Kd} {D D2 q0 q1 q2 e0 e1 : Addr} {p0 p1 p2 : V × V} {G : Hp} (S : Sso K b c k D D2 [q0, q1, q2] [e0, e1] [p0, p1, p2] G) {i : Nat} {u : V} (hi : [V.int 1, V.int 0, V.int 1][i]? = some u) :
    ∃ (z : Int) (e q : Addr) (x y : V), u = .int z ∧ atI [V.ref e0, V.ref e1] z = some (.ref e) ∧ atI [V.ref q0, V.ref q1, V.ref q2] z = some (.ref q) ∧ Two K G q x y ∧ Err G e k.C (k.fs [x, y]) := by
  match i, hi with
  | 0, hi => cases hi; exact ⟨1, e1, q1, p1.1, p1.2, rfl, rfl, rfl, S.tw 1 _ _ rfl rfl, S.er 1 _ _ rfl rfl⟩
  | 1, hi => cases hi; exact ⟨0, e0, q0, p0.1, p0.2, rfl, rfl, rfl, S.tw 0 _ _ rfl rfl, S.er 0 _ _ rfl rfl⟩
  | 2, hi => cases hi; exact ⟨1, e1, q1, p1.1, p1.2, rfl, rfl, rfl, S.tw 1 _ _ rfl rfl, S.er 1 _ _ rfl rfl⟩
theorem nm_len {A : Str → Addr} {k : Kd} (hk : k ∈ kds A) : k.nm.length ≤ 100000 ∧ k.ab.length ≤ 100000 := by
  simp only [kds, List.mem_cons, List.mem_nil_iff, or_false] at hk
  rcases hk with rfl | rfl | rfl | rfl | rfl | rfl | rfl | rfl | rfl | rfl | rfl | rfl | rfl | rfl | rfl
  · exact ⟨show ("BadValue" : Str).length ≤ 100000 by decide +kernel, show ("NetError" : Str).length ≤ 100000 by decide +kernel⟩
  · exact ⟨show ("BadLine" : Str).length ≤ 100000 by decide +kernel, show ("NetError" : Str).length ≤ 100000 by decide +kernel⟩
  · exact ⟨show ("NoText" : Str).length ≤ 100000 by decide +kernel, show ("NetError" : Str).length ≤ 100000 by decide +kernel⟩
  · exact ⟨show ("TooLong" : Str).length ≤ 100000 by decide +kernel, show ("NetError" : Str).length ≤ 100000 by decide +kernel⟩
  · exact ⟨show ("BadNet" : Str).length ≤ 100000 by decide +kernel, show ("NetError" : Str).length ≤ 100000 by decide +kernel⟩
  · exact ⟨show ("BadText" : Str).length ≤ 100000 by decide +kernel, show ("NetError" : Str).length ≤ 100000 by decide +kernel⟩
  · exact ⟨show ("BadChart" : Str).length ≤ 100000 by decide +kernel, show ("NetError" : Str).length ≤ 100000 by decide +kernel⟩
  · exact ⟨show ("Broken" : Str).length ≤ 100000 by decide +kernel, show ("NetError" : Str).length ≤ 100000 by decide +kernel⟩
  · exact ⟨show ("BadChange" : Str).length ≤ 100000 by decide +kernel, show ("NetError" : Str).length ≤ 100000 by decide +kernel⟩
  · exact ⟨show ("BadPair" : Str).length ≤ 100000 by decide +kernel, show ("NetError" : Str).length ≤ 100000 by decide +kernel⟩
  · exact ⟨show ("BadDeed" : Str).length ≤ 100000 by decide +kernel, show ("NetError" : Str).length ≤ 100000 by decide +kernel⟩
  · exact ⟨show ("Twice" : Str).length ≤ 100000 by decide +kernel, show ("NetError" : Str).length ≤ 100000 by decide +kernel⟩
  · exact ⟨show ("NoName" : Str).length ≤ 100000 by decide +kernel, show ("Missing" : Str).length ≤ 100000 by decide +kernel⟩
  · exact ⟨show ("TooMany" : Str).length ≤ 100000 by decide +kernel, show ("Full" : Str).length ≤ 100000 by decide +kernel⟩
  · exact ⟨show ("NothingLeft" : Str).length ≤ 100000 by decide +kernel, show ("" : Str).length ≤ 100000 by decide +kernel⟩
/-- what was held and what was handed in are alike -/
theorem like_held {K : PySem.W.Frag} {G : Hp} {l1 l2 q : Addr} {hd : List V} {n : Nat} {x y : V} (tw : Two K G q x y) (hh : ∀ v ∈ hd, ∃ z, v = .str z ∧ z.length ≤ 100000) (h1 : G l1 = some (.lst (hd ++ [x, y].take n))) (h2 : G l2 = some (.lst (hd ++ cutV [x, y] none (some (n : Int))))) (few : hd.length ≤ 2)
    {Q : VK} {E : XK} (k : ∀ H', Same G H' → Q (.bl true) H') : sp__law_like K 7 [.ref l1, .ref l2] G Q E := by
  rw [cutV_take] at h2
  obtain ⟨ds, e1, e2, e3, e4⟩ := okAll_mem (K := K) (G := G) (m := 4) (ys := hd ++ [x, y].take n) fun v hv => by
    rcases List.mem_append.mp hv with hv | hv
    · obtain ⟨z, rfl, hz⟩ := hh v hv
      exact ⟨.str z, .str z, decide_eq_true hz, Nat.zero_le _⟩
    · have hv2 : v = x ∨ v = y := by simpa using List.mem_of_mem_take hv
      rcases hv2 with rfl | rfl
      · exact tw.one
      · exact tw.two
  refine ⟨_, _, .list ds, rfl, .lst (SqL.of h1) e1, .lst (SqL.of h2) e1, okD_lst.mpr ⟨?_, e2⟩, ?_, k⟩
  · rw [e4, List.length_append, List.length_take]
    simp only [List.length_cons, List.length_nil]
    omega
  · show depAll ds + 1 ≤ 7
    omega
theorem cut_few {l : List V} {x y : V} {n : Nat} (h : l.length ≤ 2) : l.length + (cutV [x, y] none (some (n : Int))).length ≤ sizeLine := by
  rw [cutV_take, List.length_take]
  have z : (4 : Nat) ≤ sizeLine := by decide
  simp only [List.length_cons, List.length_nil]
  omega
theorem due_sh {A : Str → Addr} {k : Kd} (hk : k ∈ kds A) : SeqAt.shaped (.list (k.due.map PyData.str)) = true := by
  simp only [kds, List.mem_cons, List.mem_nil_iff, or_false] at hk
  rcases hk with rfl | rfl | rfl | rfl | rfl | rfl | rfl | rfl | rfl | rfl | rfl | rfl | rfl | rfl | rfl
  · show SeqAt.shaped (.list [.str "BadValue", .str "NetError", .str "ValueError"]) = true
    decide +kernel
  · show SeqAt.shaped (.list [.str "BadLine", .str "NetError", .str "ValueError"]) = true
    decide +kernel
  · show SeqAt.shaped (.list [.str "NoText", .str "NetError", .str "ValueError"]) = true
    decide +kernel
  · show SeqAt.shaped (.list [.str "TooLong", .str "NetError", .str "ValueError"]) = true
    decide +kernel
  · show SeqAt.shaped (.list [.str "BadNet", .str "NetError", .str "ValueError"]) = true
    decide +kernel
  · show SeqAt.shaped (.list [.str "BadText", .str "NetError", .str "ValueError"]) = true
    decide +kernel
  · show SeqAt.shaped (.list [.str "BadChart", .str "NetError", .str "ValueError"]) = true
    decide +kernel
  · show SeqAt.shaped (.list [.str "Broken", .str "NetError", .str "ValueError"]) = true
    decide +kernel
  · show SeqAt.shaped (.list [.str "BadChange", .str "NetError", .str "ValueError"]) = true
    decide +kernel
  · show SeqAt.shaped (.list [.str "BadPair", .str "NetError", .str "ValueError"]) = true
    decide +kernel
  · show SeqAt.shaped (.list [.str "BadDeed", .str "NetError", .str "ValueError"]) = true
    decide +kernel
  · show SeqAt.shaped (.list [.str "Twice", .str "NetError", .str "ValueError"]) = true
    decide +kernel
  · show SeqAt.shaped (.list [.str "NoName", .str "Missing", .str "LookupError"]) = true
    decide +kernel
  · show SeqAt.shaped (.list [.str "TooMany", .str "Full", .str "RuntimeError"]) = true
    decide +kernel
  · show SeqAt.shaped (.list [.str "NothingLeft", .str "LookupError", .str "IndexError"]) = true
    decide +kernel
theorem strs_dp {K : PySem.W.Frag} {H : Hp} : ∀ l : List Str, DpAll K H (l.map V.str) (l.map PyData.str)
  | [] => .nil
  | z :: l => .cons (.str z) (strs_dp l)
theorem in_wide {A : Str → Addr} {k : Kd} (hk : k ∈ kds A) : inV (V.str k.nm) [.str "BadLine", .str "Broken", .str "TooMany"] = decide (k.ps.length = 2) := by
  simp only [kds, List.mem_cons, List.mem_nil_iff, or_false] at hk
  rcases hk with rfl | rfl | rfl | rfl | rfl | rfl | rfl | rfl | rfl | rfl | rfl | rfl | rfl | rfl | rfl <;> rfl
theorem wide_one {A : Str → Addr} {k : Kd} (hk : k ∈ kds A) (n2 : k.ps.length ≠ 2) (n0 : k.nm ≠ "NothingLeft") : k.ps.length = 1 := by
  simp only [kds, List.mem_cons, List.mem_nil_iff, or_false] at hk
  rcases hk with rfl | rfl | rfl | rfl | rfl | rfl | rfl | rfl | rfl | rfl | rfl | rfl | rfl | rfl | rfl <;> first | rfl | exact absurd rfl n2 | exact absurd rfl n0
section
variable {P : Program} {w : World} {K : PySem.W.Frag} {mg : Str → Option Value} {base : Heap}
theorem ok__law_so (T : Txt w K mg) : FnOk P w K mg base CX0 9 T.a__law_so T.d__law_so ["bag", "pick"] (fun vs H Q E => ∃ (b c : Addr) (k : Kd), k ∈ kds T.cA ∧ vs = [.ref b, .str k.nm] ∧ Bag H b c ∧ ∀ H', Bag H' b c → Kp b H H' → Q (.bl true) H') := by
  refine T.F__law_so.ok sc__law_so (fun vs H Q E h => ?_) (fun cdv A outer s H vs Q E hr h => ?_)
  · obtain ⟨b, c, k, _, rfl, _⟩ := h
    rfl
  · obtain ⟨b, c, k, hk, rfl, B, kq⟩ := h
    have hr__law_draw : Room 1 _ := hr.mono (by decide)
    have G__law_draw := ok__law_draw (P := P) (base := base) T
    have hr__law_thing : Room 8 _ := hr
    have G__law_thing := ok__law_thing (P := P) (base := base) T
    have hr__law_made : Room 4 _ := hr.mono (by decide)
    have G__law_made := ok__law_made (P := P) (base := base) T
    have hr__law_held : Room 1 _ := hr.mono (by decide)
    have G__law_held := ok__law_held (P := P) (base := base) T
    have hr__law_kinds : Room 1 _ := hr.mono (by decide)
    have G__law_kinds := ok__law_kinds (P := P) (base := base) T
    have hr__law_due : Room 2 _ := hr.mono (by decide)
    have G__law_due := ok__law_due (P := P) (base := base) T
    have hr__law_caught : Room 5 _ := hr.mono (by decide)
    have G__law_caught := ok__law_caught (P := P) (base := base) T
    have hr__law_above : Room 1 _ := hr.mono (by decide)
    have G__law_above := ok__law_above (P := P) (base := base) T
    have hr__law_like : Room 8 _ := hr
    have G__law_like := ok__law_like (P := P) (base := base) T 7
    have U := T.U k hk
    have few : ∀ (l : List V), l.length ≤ 2 → ∀ (x y : V), l.length + (k.held [x, y]).length ≤ sizeLine := fun l hl x y => by
      unfold Kd.held
      rw [List.length_take]
      have z : (4 : Nat) ≤ sizeLine := by decide
      simp only [List.length_cons, List.length_nil]
      omega
    refine ⟨_, (pss_cons (ps_set (i := 2) sc__law_so.nd rfl (Or.inl rfl) pe_int)
      (pss_cons (ps_if (pt_cmpR op_in_seq (pv 1) (pe_tupU (pa_cons pe_str (pa_cons pe_str (pa_cons pe_str pa_nil)))) (by rfl)) (pss_one (ps_set (i := 2) sc__law_so.nd rfl (Or.inl rfl) pe_int)) (pss_one (ps_if (pt_cmpR op_eqS (pv 1) pe_str (nomark _)) (pss_one (ps_set (i := 2) sc__law_so.nd rfl (Or.inl rfl) pe_int)) pss_nil)))
      (pss_cons (ps_setLc (i := 3) (own := [("k", 5)]) (g := gName 5) (tt := tYes) rfl sc__law_so.nd rfl rfl (sw_true rfl rfl rfl (by decide +kernel)) (pi_range1 (by rfl) T.n_range (pa_cons pe_int pa_nil)) (blkOk_by (own := [("k", 5)]) (N := N__law_so) (sc := defScope s__law_so) (by decide +kernel)) (fun _ _ _ _ _ => pg_name (i := 5) sc__law_so.nd rfl (Or.inl rfl)) (fun _ _ _ _ _ => pts_nil) (fun _ _ _ _ _ => (pe_lstU (pa_cons (pe_call G__law_thing hr__law_thing (by rfl) T.m__law_thing T.F__law_thing.kp T.B__law_thing .nil pass0 (pa_cons (pv 0) pa_nil)) (pa_cons (pe_call G__law_thing hr__law_thing (by rfl) T.m__law_thing T.F__law_thing.kp T.B__law_thing .nil pass0 (pa_cons (pv 0) pa_nil)) pa_nil)))))
      (pss_cons (ps_setLc (i := 4) (own := [("pair", 6)]) (g := gName 6) (tt := tYes) rfl sc__law_so.nd rfl rfl (sw_true rfl rfl rfl (by decide +kernel)) (pi_list (pe_slice sl_listU (pv 3) po_none (po_some pe_int))) (blkOk_by (own := [("pair", 6)]) (N := N__law_so) (sc := defScope s__law_so) (by decide +kernel)) (fun _ _ _ _ _ => pg_name (i := 6) sc__law_so.nd rfl (Or.inl rfl)) (fun _ _ _ _ _ => pts_nil) (fun _ _ _ _ _ => (pe_call G__law_made hr__law_made (by rfl) T.m__law_made T.F__law_made.kp T.B__law_made .nil pass0 (pa_cons (pv 1) (pa_cons (pe_ix (ix_listK (K := K) rfl) (pv 6) pe_int (fun _ _ => rfl)) (pa_cons (pe_ix (ix_listK (K := K) rfl) (pv 6) pe_int (fun _ _ => rfl)) (pa_cons (pe_call G__law_draw hr__law_draw (by rfl) T.m__law_draw T.F__law_draw.kp T.B__law_draw .nil pass0 (pa_cons (pv 0) (pa_cons pe_int pa_nil))) pa_nil)))))))
      (pss_cons (ps_for PassesOwn.never rfl (pi_tup (pe_tupU (pa_cons pe_int (pa_cons pe_int (pa_cons pe_int pa_nil))))) (pg_name (i := 5) sc__law_so.nd rfl (Or.inl rfl)) (pss_cons (ps_if (pt_not (pt_val (pe_call G__law_like hr__law_like (by rfl) T.m__law_like T.F__law_like.kp T.B__law_like .nil pass0 (pa_cons (pe_op op_catL (pe_lstU (pa_cons (pe_errF hasE_err (pe_ix ix_list (pv 4) (pv 5) (fun _ _ => rfl))) pa_nil)) (pe_call G__law_held hr__law_held (by rfl) T.m__law_held T.F__law_held.kp T.B__law_held .nil pass0 (pa_cons (pv 1) (pa_cons (pe_ix ix_list (pv 4) (pv 5) (fun _ _ => rfl)) pa_nil)))) (pa_cons (pe_op op_catL (pe_lstU (pa_cons (pv 1) pa_nil)) (pe_slice sl_listU (pe_ix ix_list (pv 3) (pv 5) (fun _ _ => rfl)) po_none (po_some (pv 2)))) pa_nil))))) (pss_one (ps_ret pe_bl)) pss_nil)
      (pss_one (ps_if (pt_cmpR (op_neD hr.units) (pe_call G__law_kinds hr__law_kinds (by rfl) T.m__law_kinds T.F__law_kinds.kp T.B__law_kinds .nil pass0 (pa_cons (pe_ix ix_list (pv 4) (pv 5) (fun _ _ => rfl)) pa_nil)) (pe_call G__law_due hr__law_due (by rfl) T.m__law_due T.F__law_due.kp T.B__law_due .nil pass0 (pa_cons (pv 1) pa_nil)) (nomark _)) (pss_one (ps_ret pe_bl)) pss_nil))))
      (pss_cons (ps_if (pt_not (pt_val (pe_call G__law_like hr__law_like (by rfl) T.m__law_like T.F__law_like.kp T.B__law_like .nil pass0 (pa_cons (pe_call G__law_caught hr__law_caught (by rfl) T.m__law_caught T.F__law_caught.kp T.B__law_caught .nil pass0 (pa_cons (pv 1) (pa_cons (pe_ix ix_list (pe_ix ix_list (pv 3) pe_int (fun _ _ => rfl)) pe_int (fun _ _ => rfl)) (pa_cons (pe_ix ix_list (pe_ix ix_list (pv 3) pe_int (fun _ _ => rfl)) pe_int (fun _ _ => rfl)) pa_nil)))) (pa_cons (pe_op op_catL (pe_lstU (pa_cons (pe_call G__law_above hr__law_above (by rfl) T.m__law_above T.F__law_above.kp T.B__law_above .nil pass0 (pa_cons (pv 1) pa_nil)) (pa_cons (pv 1) pa_nil))) (pe_slice sl_listU (pe_ix ix_list (pv 3) pe_int (fun _ _ => rfl)) po_none (po_some (pv 2)))) pa_nil))))) (pss_one (ps_ret pe_bl)) pss_nil)
      (pss_one (ps_ret (pe_call G__law_like hr__law_like (by rfl) T.m__law_like T.F__law_like.kp T.B__law_like .nil pass0 (pa_cons (pe_op op_catL (pe_lstU (pa_cons (pe_errF hasE_err (pe_ix ix_list (pv 4) pe_int (fun _ _ => rfl))) pa_nil)) (pe_call G__law_held hr__law_held (by rfl) T.m__law_held T.F__law_held.kp T.B__law_held .nil pass0 (pa_cons (pv 1) (pa_cons (pe_ix ix_list (pv 4) pe_int (fun _ _ => rfl)) pa_nil)))) (pa_cons (pe_op op_catL (pe_lstU (pa_cons (pv 1) pa_nil)) (pe_slice sl_listU (pe_ix ix_list (pv 3) pe_int (fun _ _ => rfl)) po_none (po_some (pv 2)))) pa_nil))))))))))), ?_⟩
    refine seq_op fun N hN => ?_
    walk_at "rs"
    refine hN _ _ ?_
    clear hN N
    obtain ⟨xb, eb⟩ := B.at
    refine cut_seq (fun σ H1 => σ = [some (.ref b), some (.str k.nm), some (.int k.ps.length), none, none, none, none] ∧ Same H H1) (fun N hN => ?_) ?_
    · walk_at "rs"
      refine ⟨by decide, fun p H2 s2 n2 h2 => ⟨_, .inr (.inl (.inl h2)), rfl, by decide +kernel, ?_⟩⟩
      rw [in_wide hk]
      refine ite2 (fun e => ?_) (fun e => ite2 (fun e2 => ?_) (fun e2 => ?_))
      · exact hN _ _ ⟨by rw [of_decide_eq_true e]; rfl, s2⟩
      · obtain rfl := kd_of hk kin_NothingLeft e2
        exact hN _ _ ⟨rfl, s2⟩
      · exact hN _ _ ⟨by rw [wide_one hk (fun z => e (decide_eq_true z)) e2]; rfl, s2⟩
    rintro σ H1 ⟨rfl, s1⟩
    have B1 := B.same s1
    refine seq_op fun N hN => ?_
    walk_at "rs"
    refine ⟨3, rfl, by decide, by decide, fun D hD => lc_draw walk_range (PairAt K) (fun _ _ _ s h => h.same s) hD B1 (by decide) (fun _ _ _ _ y => y.1) (fun _ _ => trivial) ?_ ?_⟩
    · intro x H2 K2 B2 Q2 hq
      walk_at "rs"
      obtain ⟨xb2, eb2⟩ := B2.at
      refine ⟨b, c, rfl, B2, fun v1 d1 H3 B3 K3 hd1 ok1 dp1 => ⟨b, c, rfl, B3, fun v2 d2 H4 B4 K4 hd2 ok2 dp2 => ⟨by decide, fun p H5 s5 n5 h5 => hq _ H5 (B4.same s5) (Same.trans K3 (Same.trans K4 (Kp.of s5))) ⟨p, v1, v2, rfl, ?_⟩⟩⟩⟩
      obtain ⟨xb3, eb3⟩ := B3.at
      obtain ⟨xb4, eb4⟩ := B4.at
      have n2p : H2 p = none := Kp.bn K3 eb3 (Kp.bn K4 eb4 n5)
      exact ⟨nw_of n2p h5, ⟨d1, dp_same (nw_kp eb2 (Same.trans K4 (Kp.of s5))) hd1, ok1, dp1⟩, ⟨d2, dp_same (nw_kp eb2 (Kp.of s5)) (dp_same (nw_anti fun a e => Kp.bn K3 eb3 e) hd2), ok2, dp2⟩⟩
    intro H2 us B2 K2 h2 lu hu
    refine hN _ _ ?_
    clear hN N
    have h0D : H D = none := Same.dom s1 D hD
    have nD := new_ne B1 hD
    obtain ⟨u0, u1, u2, rfl⟩ := args3 lu
    obtain ⟨q0, x0, y0, e0, P0⟩ := hu u0 (by simp)
    obtain ⟨q1, x1, y1, e1, P1⟩ := hu u1 (by simp)
    obtain ⟨q2, x2, y2, e2, P2⟩ := hu u2 (by simp)
    subst e0 e1 e2
    have toB := nw_hb (H := L2.upd H1 D (.lst [])) (H' := H2) (b := b) (by rw [upd_ne nD.symm]; exact s1 _ _ eb)
    replace P0 := P0.same toB
    replace P1 := P1.same toB
    replace P2 := P2.same toB
    clear hu toB lu
    refine seq_op fun N hN => ?_
    walk_at "rs"
    refine ⟨_, rfl, 2, rfl, D, _, rfl, SqL.of h2, fun p H3 s3 n3 h3 => ?_⟩
    replace h3 : H3 p = some (.lst [.ref q0, .ref q1]) := by rw [h3]; rfl
    have B3 := B2.same s3
    have K23 : Kp b H2 H3 := Kp.of s3
    obtain ⟨L, eL⟩ : ∃ L : List (V × V), L = [(x0, y0), (x1, y1)] := ⟨_, rfl⟩
    have hL : ∀ (i : Nat) (u : V), [V.ref q0, V.ref q1][i]? = some u → ∃ q pr, u = .ref q ∧ L[i]? = some pr ∧ Two K (hb H3 b) q pr.1 pr.2 := by
      intro i u e
      rw [eL]
      match i, e with
      | 0, e => cases e; exact ⟨q0, _, rfl, rfl, P0.same K23⟩
      | 1, e => cases e; exact ⟨q1, _, rfl, rfl, P1.same K23⟩
    refine ⟨p, rfl, ⟨_, SqL.of h3⟩, fun D2 hD2 => lc_it (walk_list (K := K) (a := p) (xs := [V.ref q0, V.ref q1])) (fun i G => ErrsI H3 b c D2 k L i G) ⟨[], upd_same, rfl, B3.upd (new_ne B3 hD2).symm (newc B3 hD2), Kp.upd2 (Kp.refl b H3) hD2, fun j e pr h => by simp at h⟩ (fun i G _ h => h.seq (new_ne B2 n3) h3) (fun i u G G' hi I y => ?_) (fun G I => ?_)⟩
    · obtain ⟨rfl, hu⟩ := y
      obtain ⟨q, pr, rfl, hpr, tw⟩ := hL i u hu
      walk_at "rs"
      unfold tYes
      refine iteTT rfl ?_
      obtain ⟨es, l1, l2, B4, K4, l5⟩ := I
      have tw4 := tw.same K4
      have at4 := (hb_some tw4.at_).2
      refine ⟨_, SqL.of at4, _, rfl, _, SqL.of at4, _, rfl, b, c, 4, rfl, B4, by decide, by decide, fun w0 G5 r0 r1 B5 K5 => ⟨k, pr.1, pr.2, w0, hk, rfl, fun e G6 s6 n6 he => ?_⟩⟩
      have nD2 := new_ne B3 hD2
      have at6 : G6 D2 = some (.lst (es.map V.ref)) := s6 _ _ (K5.hd l1 nD2)
      have B6 := B5.same s6
      have K46 : Kp b G' G6 := Same.trans K5 (Kp.of s6)
      refine ⟨_, at6, by rw [List.length_map, l2]; exact Nat.lt_of_lt_of_le hi (by show 2 ≤ sizeLine; decide), es ++ [e], by rw [upd_same, List.map_append]; rfl, by rw [List.length_append, l2]; rfl, B6.upd nD2.symm (newc B3 hD2), Kp.upd2 (Same.trans K4 K46) hD2, fun j e' pr' h1' h2' => ?_⟩
      by_cases cj : j < es.length
      · rw [List.getElem?_append_left cj] at h1'
        exact ((l5 j e' pr' h1' h2').same K46).updB at6
      · have ej : j = i := by
          obtain ⟨z, _⟩ := List.getElem?_eq_some_iff.mp h1'
          rw [List.length_append, List.length_singleton] at z
          omega
        rw [List.getElem?_append_right (by omega), l2, ej, Nat.sub_self] at h1'
        cases h1'
        rw [ej, hpr] at h2'
        cases h2'
        exact (he.hbB B6).updB at6
    · refine hN _ _ ?_
      clear hN N
      obtain ⟨es, l1, l2, B4, K4, l5⟩ := I
      obtain ⟨e0, e1, rfl⟩ := argsA2 l2
      subst eL
      have K24 : Kp b H2 G := Same.trans K23 K4
      have KHG : Kp b H G := Same.trans (Kp.of s1) (Same.trans K2 K24)
      have S0 : Sso K b c k D D2 [q0, q1, q2] [e0, e1] [(x0, y0), (x1, y1), (x2, y2)] G := ⟨B4, K24.hd h2 nD, l1, fun j q pr f1 f2 => by
          match j, f1, f2 with
          | 0, f1, f2 => cases f1; cases f2; exact (P0.same K24).same (hb_le _ _)
          | 1, f1, f2 => cases f1; cases f2; exact (P1.same K24).same (hb_le _ _)
          | 2, f1, f2 => cases f1; cases f2; exact (P2.same K24).same (hb_le _ _),
        fun j e pr f1 f2 => by
          match j, f1, f2 with
          | 0, f1, f2 => cases f1; cases f2; exact (l5 0 _ _ rfl rfl).same (hb_le _ _)
          | 1, f1, f2 => cases f1; cases f2; exact (l5 1 _ _ rfl rfl).same (hb_le _ _)⟩
      clear l1 l2 l5 P0 P1 P2 hL B4 K4 K24 B3 K23 h3 s3 n3 h2 hD2 hD h0D nD K2 B2 B1 s1
      refine cut_seq (fun σ G2 => ∃ x5, σ = [some (.ref b), some (.str k.nm), some (.int k.ps.length), some (.ref D), some (.ref D2), x5, none] ∧ Same G G2) (fun N hN => ?_) ?_
      · refine ⟨by decide, fun t G1 s1 n1 h1 => ⟨t, rfl, ⟨_, .inl (.inl h1)⟩, for_tup (K := K) (a := t) (xs := [V.int 1, V.int 0, V.int 1]) (fun i σ G2 => ∃ x5, σ = [some (.ref b), some (.str k.nm), some (.int k.ps.length), some (.ref D), some (.ref D2), x5, none] ∧ Same G1 G2) ⟨none, rfl, Same.refl _⟩ (fun i σ G2 _ ⟨_, _, s2⟩ => Same.seqT s2 (.inl (.inl h1))) ?_ ?_⟩⟩
        · rintro i u σ G2 hi ⟨x5, rfl, s2⟩
          have Sg := S0.same (Same.trans s1 s2)
          obtain ⟨z, e, q, x, y, rfl, a1, a2, tw, er⟩ := Sg.pick hi
          walk_at "rs"
          refine seq_op fun N2 hN2 => ?_
          walk_at "rs"
          refine ⟨_, SqL.of Sg.pe, _, a1, e, rfl, k.C, _, er, U.xf, U.nc, _, rfl, by decide, fun p H3 s3 n3 h3 => ⟨_, SqL.of (s3 _ _ Sg.pe), _, a1, k, e, x, y, hk, rfl, er.same s3, fun r H4 s4 n4 h4 => ⟨r, rfl, _, s4 _ _ h3, _, h4, few _ (by simp) x y, fun l1 H5 s5 n5 h5 => ⟨by decide, fun p3 H6 s6 n6 h6 => ?_⟩⟩⟩⟩
          have s36 := Same.trans s3 (Same.trans s4 (Same.trans s5 s6))
          have S6 := Sg.same s36
          have tw6 := tw.same s36
          refine ⟨_, SqL.of S6.pd, _, a2, q, rfl, _, SqL.of tw6.at_, fun p4 H7 s7 n7 h7 => ⟨_, s7 _ _ h6, _, h7, cut_few (by simp), fun l2 H8 s8 n8 h8 => like_held (hd := [.str k.nm]) (tw6.same (Same.trans s7 s8)) (by simpa using (nm_len hk).1) (s8 _ _ (s7 _ _ (s6 _ _ h5))) h8 (by simp) fun H9 s9 => ⟨true, rfl, iteFF (by decide) (hN2 _ _ ?_)⟩⟩⟩
          clear hN2 N2
          have s29 := Same.trans s36 (Same.trans s7 (Same.trans s8 s9))
          have S9 := Sg.same s29
          have er9 := er.same s29
          clear s36 S6 tw6 h3 h4 h5 h6 h7 h8 s3 s4 s5 s6 s7 s8 s9
          walk_at "rs"
          refine ⟨_, SqL.of S9.pe, _, a1, k, e, _, hk, rfl, er9, fun p H3 s3 n3 h3 => ⟨k, hk, rfl, fun p' H4 s4 n4 h4 => ?_⟩⟩
          have sh := due_sh hk
          refine ⟨.list (k.due.map PyData.str), .list (k.due.map PyData.str), .lst (SqL.of (s4 _ _ h3)) (strs_dp _), .lst (SqL.of h4) (strs_dp _), sh, sh, _, rfl, ?_⟩
          rw [SeqAt.eqv_refl _ (SeqAt.canLay_of_shaped sh)]
          exact iteFF (by decide) (Same.trans s2 (Same.trans s29 (Same.trans s3 s4)))
        · rintro σ G2 ⟨x5, rfl, s2⟩
          exact hN _ _ ⟨x5, rfl, Same.trans s1 s2⟩
      rintro σ G2 ⟨x5, rfl, s2⟩
      have Sg := S0.same s2
      have tw := Sg.tw 2 q2 _ rfl rfl
      have er := Sg.er 0 e0 _ rfl rfl
      refine seq_op fun N hN => ?_
      walk_at "rs"
      refine ⟨_, SqL.of Sg.pd, .ref q2, rfl, q2, rfl, _, SqL.of tw.at_, _, rfl, _, SqL.of Sg.pd, .ref q2, rfl, q2, rfl, _, SqL.of tw.at_, _, rfl, k, x2, y2, hk, rfl, fun l1 H3 s3 n3 h3 => ⟨k, hk, rfl, fun H4 s4 => ⟨by decide, fun p H5 s5 n5 h5 => ?_⟩⟩⟩
      have s35 := Same.trans s3 (Same.trans s4 s5)
      refine ⟨_, SqL.of (s35 _ _ Sg.pd), .ref q2, rfl, q2, rfl, _, SqL.of (s35 _ _ tw.at_), fun p4 H7 s7 n7 h7 => ⟨_, s7 _ _ h5, _, h7, cut_few (by simp), fun l2 H8 s8 n8 h8 => like_held (hd := [.str k.ab, .str k.nm]) ((tw.same s35).same (Same.trans s7 s8)) (by simpa using And.intro (nm_len hk).2 (nm_len hk).1) (s8 _ _ (s7 _ _ (s5 _ _ (s4 _ _ h3)))) h8 (by simp) fun H9 s9 => ⟨true, rfl, iteFF (by decide) (hN _ _ ?_)⟩⟩⟩
      clear hN N
      have s29 := Same.trans s35 (Same.trans s7 (Same.trans s8 s9))
      have S9 := Sg.same s29
      have tw9 := S9.tw 0 q0 _ rfl rfl
      have er9 := S9.er 0 e0 _ rfl rfl
      have KH9 : Kp b H H9 := Same.trans KHG (Kp.of (Same.trans s2 s29))
      clear h3 h5 h7 h8 s3 s4 s5 s7 s8 s9 s35 s29 Sg tw er
      walk_at "rs"
      refine ⟨_, SqL.of S9.pe, .ref e0, rfl, e0, rfl, k.C, _, er9, U.xf, U.nc, _, rfl, by decide, fun p H3 s3 n3 h3 => ⟨_, SqL.of (s3 _ _ S9.pe), .ref e0, rfl, k, e0, x0, y0, hk, rfl, er9.same s3, fun r H4 s4 n4 h4 => ⟨r, rfl, _, s4 _ _ h3, _, h4, few _ (by simp) x0 y0, fun l1 H5 s5 n5 h5 => ⟨by decide, fun p3 H6 s6 n6 h6 => ?_⟩⟩⟩⟩
      have s36 := Same.trans s3 (Same.trans s4 (Same.trans s5 s6))
      have S6 := S9.same s36
      have tw6 := tw9.same s36
      refine ⟨_, SqL.of S6.pd, .ref q0, rfl, q0, rfl, _, SqL.of tw6.at_, fun p4 H7 s7 n7 h7 => ⟨_, s7 _ _ h6, _, h7, cut_few (by simp), fun l2 H8 s8 n8 h8 => like_held (hd := [.str k.nm]) (tw6.same (Same.trans s7 s8)) (by simpa using (nm_len hk).1) (s8 _ _ (s7 _ _ (s6 _ _ h5))) h8 (by simp) fun H10 s10 => ?_⟩⟩
      have s90 := Same.trans s36 (Same.trans s7 (Same.trans s8 s10))
      exact kq H10 (S9.bag.same s90) (Same.trans KH9 (Kp.of s90))
end
end LK

set_option Elab.async false
set_option linter.all false
set_option maxRecDepth 100000
namespace LK
open PySem PySem.Spec PyProof.Rows L2
local macro_rules | `(tactic| walk_at "rs") => `(tactic| simp only [cxK, cxNK, tCallZ, tAsg, tOp, rI0, rS0, rB0, rI, rU, tUn, rEq, rNe, rIxL, rIxT, rIxS, rSetL, rSlLU, rSlS, rSlU, rCatL, rCatU, rRepL, rIn, tVar, tC, gName, gSub, tIfS, tTest, tB, tAnd, tOr, tNot, tNotV, tAndV, tOrV, tIf, tCall, tCons, tNil, tCB, tDrop, tRet, tRetN, tNext, tLstU, tTupU, tM0, tM1, tPar, tPar3, tAug, ipI, tBM, tBM0, rAppend, rPop, tBreak, tCont, tChain, tSl, tPart, tNoPart, L2.start, List.map, List.length_cons, List.length_nil, List.replicate, List.cons_append, List.nil_append, List.append_nil, List.getElem?_cons_zero, List.getElem?_cons_succ, List.set_cons_zero, List.set_cons_succ, Option.some.injEq, V.int.injEq, V.ref.injEq, V.str.injEq, V.bl.injEq, exists_eq_left', exists_eq_left, exists_and_left, decide_eq_true_eq, List.cons.injEq, and_true, true_and, scal, tExV, tEf, rIsEr, tDGet2, rIxLT, Bool.not_eq_true', decide_eq_false_iff_not, Nat.zero_add, Nat.reduceAdd, Nat.reduceSub, reduceCtorEq, false_and, exists_false, false_or, or_false, CPow, CMul, CDiv, Int.reduceToNat, ↓reduceIte, wipe, sw, List.nil_append, List.singleton_append])
local macro_rules | `(tactic| walk_at "st") => `(tactic| (refine seq_op fun N hN => ?_; walk_at "rs"))
local macro_rules | `(tactic| walk_at "sd") => `(tactic| first | assumption | decide | omega)
local macro_rules | `(tactic| walk_at "rd") => `(tactic| repeat (first
  | refine ⟨_, SqL.of (by assumption), ?_⟩ | refine ⟨_, SqL.of upd_same, ?_⟩ | refine ⟨_, .inl (SqL.of (by assumption)), ?_⟩ | refine ⟨_, (by assumption : _ = some (HO.lst _)), ?_⟩ | refine ⟨_, upd_same, ?_⟩
  | refine ⟨_, rfl, ?_⟩ | refine And.intro (by walk_at "sd") ?_))

def sp_law (K : PySem.W.Frag) : Sp := fun vs H Q _ => ∃ (a : Addr) (ns : List Int), vs = [.ref a] ∧ SqL K H a (ns.map V.int) ∧ ns.length ≤ 63 ∧ ∀ H', Q (.bl true) H'
theorem erase_map {α β : Type} (f : α → β) : ∀ (l : List α) (i : Nat), (l.map f).eraseIdx i = (l.eraseIdx i).map f
  | [], _ => rfl
  | _ :: _, 0 => rfl
  | x :: l, i + 1 => by rw [List.map_cons, List.eraseIdx_cons_succ, List.eraseIdx_cons_succ, List.map_cons, erase_map f l i]
theorem pick_kd {A : Str → Addr} {z : Str} (h : z ∈ pickL) : ∃ k, k ∈ kds A ∧ k.nm = z := by
  rw [← picks (A := A)] at h
  obtain ⟨k, hk, e⟩ := List.mem_map.mp h
  exact ⟨k, hk, e⟩
section
variable {P : Program} {w : World} {K : PySem.W.Frag} {mg : Str → Option Value} {base : Heap}
theorem ok_law (T : Txt w K mg) : FnOk P w K mg base CX0 10 T.a_law T.d_law ["script"] (sp_law K) := by
  refine T.F_law.ok sc_law (fun vs H Q E h => ?_) (fun cdv A outer s H vs Q E hr h => ?_)
  · obtain ⟨a, ns, rfl, _⟩ := h
    rfl
  · obtain ⟨a, ns, rfl, hS, hn, k⟩ := h
    have hr__law_bag : Room 1 _ := hr.mono (by decide)
    have G__law_bag := ok__law_bag (P := P) (base := base) T
    have hr__law_draw : Room 1 _ := hr.mono (by decide)
    have G__law_draw := ok__law_draw (P := P) (base := base) T
    have hr__law_so : Room 9 _ := hr
    have G__law_so := ok__law_so (P := P) (base := base) T
    refine ⟨_, (pss_cons (ps_set (i := 1) sc_law.nd rfl (Or.inl rfl) (pe_call G__law_bag hr__law_bag (by rfl) T.m__law_bag T.F__law_bag.kp T.B__law_bag .nil pass0 (pa_cons (pv 0) pa_nil)))
      (pss_cons (ps_set (i := 2) sc_law.nd rfl (Or.inl rfl) (pe_lstU (pa_cons pe_str (pa_cons pe_str (pa_cons pe_str (pa_cons pe_str (pa_cons pe_str (pa_cons pe_str (pa_cons pe_str (pa_cons pe_str (pa_cons pe_str (pa_cons pe_str pa_nil))))))))))))
      (pss_cons (ps_set (i := 2) sc_law.nd rfl (Or.inl rfl) (pe_op op_catL (pv 2) (pe_lstU (pa_cons pe_str (pa_cons pe_str (pa_cons pe_str (pa_cons pe_str (pa_cons pe_str pa_nil))))))))
      (pss_cons (ps_for PassesOwn.never rfl (pi_range1 (by rfl) T.n_range (pa_cons pe_int pa_nil)) (pg_name (i := 3) sc_law.nd rfl (Or.inl rfl)) (pss_one (ps_if (pt_not (pt_val (pe_call G__law_so hr__law_so (by rfl) T.m__law_so T.F__law_so.kp T.B__law_so .nil pass0 (pa_cons (pv 1) (pa_cons (pe_bm PySem.F.plainAttrs_list PySem.F.slot_list_pop PySem.F.type_list_pop mt_popAt (pv 2) (pa_cons (pe_call G__law_draw hr__law_draw (by rfl) T.m__law_draw T.F__law_draw.kp T.B__law_draw .nil pass0 (pa_cons (pv 1) (pa_cons (pe_callB call_len_seq (by rfl) T.n_len (by decide +kernel) (pa_cons (pv 2) pa_nil)) pa_nil))) pa_nil)) pa_nil))))) (pss_one (ps_ret pe_bl)) pss_nil)))
      (pss_one (ps_ret pe_bl)))))), ?_⟩
    refine seq_op fun N hN => ?_
    walk_at "rs"
    refine ⟨a, ns, rfl, hS, hn, fun b c H1 s1 B _ => hN _ _ ?_⟩
    clear hN N
    refine seq_op fun N hN => ?_
    walk_at "rs"
    refine ⟨by show 10 ≤ sizeLine; decide, fun p H2 s2 n2 h2 => hN _ _ ?_⟩
    clear hN N
    refine seq_op fun N hN => ?_
    walk_at "rs"
    refine ⟨by show 5 ≤ sizeLine; decide, fun p3 H3 s3 n3 h3 => ⟨_, s3 _ _ h2, _, h3, by show 15 ≤ sizeLine; decide, fun q H4 s4 n4 h4 => hN _ _ ?_⟩⟩
    clear hN N
    replace h4 : H4 q = some (.lst (pickL.map V.str)) := h4
    have B4 := B.same (Same.trans s2 (Same.trans s3 s4))
    have nq : q ≠ b := new_ne (B.same (Same.trans s2 s3)) n4
    have nqc : c ≠ q := newc (B.same (Same.trans s2 s3)) n4
    clear h2 h3 n2 n3 n4 s2 s3 s4
    refine cut_seq (fun σ H2 => True) (fun N hN => ?_) (fun σ H2 _ => by walk_at "rs"; exact k H2)
    refine ⟨15, rfl, by decide, by decide, for_range (lo := 0) (n := (15 : Int).toNat) (fun i σ G => ∃ (x3 : Option V) (l : List Str), σ = [some (.ref a), some (.ref b), some (.ref q), x3] ∧ G q = some (.lst (l.map V.str)) ∧ l.length = 15 - i ∧ (∀ z ∈ l, z ∈ pickL) ∧ Bag G b c) ⟨none, pickL, rfl, h4, rfl, fun _ h => h, B4⟩ ?_ ?_⟩
    · rintro i σ G hi ⟨x3, l, rfl, hl, ll, hz, BG⟩
      walk_at "rs"
      refine ⟨.inl ⟨rfl, _, SqL.of hl⟩, _, .inl (SqL.of hl), b, c, _, rfl, BG, ?_, ?_, fun r G2 r0 r1 B2 K2 => ?_⟩
      · rw [List.length_map, ll]; omega
      · rw [List.length_map, ll]; omega
      rw [List.length_map] at r1
      have hr1 : r.toNat < l.length := by omega
      have hq2 : G2 q = some (.lst (l.map V.str)) := K2.hd hl nq
      have hm := List.getElem_mem hr1
      obtain ⟨k0, hk0, ek0⟩ := pick_kd (A := T.cA) (hz _ hm)
      have B3 : Bag (L2.upd G2 q (.lst ((l.map V.str).eraseIdx r.toNat))) b c := B2.upd nq.symm nqc
      refine ⟨q, _, r, r.toNat, .str l[r.toNat], rfl, rfl, hq2, by omega, by omega, ?_, by rw [List.getElem?_map, List.getElem?_eq_getElem hr1]; rfl, ?_⟩
      · unfold seqIndex?
        rw [List.length_map, if_neg (show ¬ r < 0 by omega)]

        show (if (decide (0 ≤ r) && decide (r < (l.length : Int))) = true then some r.toNat else none) = some r.toNat
        rw [decide_eq_true r0, decide_eq_true r1]
        rfl
      refine ⟨b, c, k0, hk0, ⟨rfl, by rw [ek0]⟩, B3, fun G3 B4 K4 => ⟨l.eraseIdx r.toNat, ?_, ?_, fun z hz2 => hz z (List.mem_of_mem_eraseIdx hz2), B4⟩⟩
      · have e := K4.hd upd_same nq
        rw [e, erase_map]
      · rw [List.length_eraseIdx_of_lt hr1, ll]; omega
    · rintro σ G ⟨x3, l, rfl, _⟩
      exact hN _ _ trivial
end
end LK

set_option Elab.async false
set_option linter.all false
set_option maxRecDepth 100000
namespace LK
open PySem PySem.Spec PyProof.Rows L2
local macro_rules | `(tactic| walk_at "rs") => `(tactic| simp only [cxK, cxNK, tCallZ, tAsg, tOp, rI0, rS0, rB0, rI, rU, tUn, rEq, rNe, rIxL, rIxT, rIxS, rSetL, rSlLU, rSlS, rSlU, rCatL, rCatU, rRepL, rIn, tVar, tC, gName, gSub, tIfS, tTest, tB, tAnd, tOr, tNot, tNotV, tAndV, tOrV, tIf, tCall, tCons, tNil, tCB, tDrop, tRet, tRetN, tNext, tLstU, tTupU, tM0, tM1, tPar, tPar3, tAug, ipI, tBM, tBM0, rAppend, rPop, tBreak, tCont, tChain, tSl, tPart, tNoPart, L2.start, List.map, List.length_cons, List.length_nil, List.replicate, List.cons_append, List.nil_append, List.append_nil, List.getElem?_cons_zero, List.getElem?_cons_succ, List.set_cons_zero, List.set_cons_succ, Option.some.injEq, V.int.injEq, V.ref.injEq, V.str.injEq, V.bl.injEq, exists_eq_left', exists_eq_left, exists_and_left, decide_eq_true_eq, List.cons.injEq, and_true, true_and, scal, tExV, tEf, rIsEr, tDGet2, rIxLT, Bool.not_eq_true', decide_eq_false_iff_not, Nat.zero_add, Nat.reduceAdd, Nat.reduceSub, reduceCtorEq, false_and, exists_false, false_or, or_false, CPow, CMul, CDiv, Int.reduceToNat, ↓reduceIte, wipe, sw, List.nil_append, List.singleton_append])
local macro_rules | `(tactic| walk_at "st") => `(tactic| (refine seq_op fun N hN => ?_; walk_at "rs"))
local macro_rules | `(tactic| walk_at "sd") => `(tactic| first | assumption | decide | omega)
local macro_rules | `(tactic| walk_at "rd") => `(tactic| repeat (first
  | refine ⟨_, SqL.of (by assumption), ?_⟩ | refine ⟨_, SqL.of upd_same, ?_⟩ | refine ⟨_, .inl (SqL.of (by assumption)), ?_⟩ | refine ⟨_, (by assumption : _ = some (HO.lst _)), ?_⟩ | refine ⟨_, upd_same, ?_⟩
  | refine ⟨_, rfl, ?_⟩ | refine And.intro (by walk_at "sd") ?_))
/-! ### what the head tells, as Bools -/
def isxB (K : PySem.W.Frag) (C : Addr) : Bool := (PySem.W.clsIn K C).isSome && (He.eqO (PySem.W.findIn K (.ref C) "__getattribute__") (some (some (.builtin "BaseException.__getattribute__"))) && (He.eqO (PySem.W.findIn K (.ref C) "__getattr__") (some none) && (decide (PySem.W.subIn K (.ref C) (.type "BaseException") = some true) && (He.eqO (PySem.W.findIn K (.ref C) "__class__") (some (some (.builtin "object.__class__"))) && (He.eqO (PySem.W.specialIn K (.builtin "object.__class__") "__get__") (some (some (.builtin "getset_descriptor.__get__"))) && (decide (PySem.W.takesIn K (.builtin "object.__class__") = some true) && decide (PySem.W.mroIn K C (.type "object") = some true)))))))
theorem isxB_ok {K : PySem.W.Frag} {C : Addr} (h : isxB K C = true) : IsxC K C := by
  obtain ⟨h1, h⟩ := He.ba h
  obtain ⟨h2, h⟩ := He.ba h
  obtain ⟨h3, h⟩ := He.ba h
  obtain ⟨h4, h⟩ := He.ba h
  obtain ⟨h5, h⟩ := He.ba h
  obtain ⟨h6, h⟩ := He.ba h
  obtain ⟨h7, h8⟩ := He.ba h
  exact ⟨h1, He.eqO_ok h2, He.eqO_ok h3, of_decide_eq_true h4, He.eqO_ok h5, He.eqO_ok h6, of_decide_eq_true h7, of_decide_eq_true h8⟩
/-- an own exception, the classes between given -/
def oeB (newId : String) (tl : List Value) (mid : List Addr) (K : PySem.W.Frag) (C : Addr) : Bool := (match K.lookup C with
  | some ⟨.type c, _, .cls cd, sl⟩ => (match cd.mro, sl.toList with
    | .ref C' :: bm, [_, _, _, _, some (.builtin n), _] => decide (c = "type") && (decide (C' = C) && (decide (n = newId) && (!cd.hasDel && (cd.hasDict && decide (bm = mid.map Value.ref ++ tl)))))
    | _, _ => false)
  | _ => false) && (He.eqO (PySem.W.findIn K (.ref C) "__setattr__") (some (some (.builtin "object.__setattr__"))) && (decide (PySem.W.subIn K (.ref C) (.type "BaseException") = some true) && (decide (PySem.W.typeIn K (.ref C) = some (.type "type")) && PySem.W.keepIn K (.ref C))))
theorem oeB_ok {newId : String} {tl : List Value} {mid : List Addr} {K : PySem.W.Frag} {C : Addr} (h : oeB newId tl mid K C = true) : OexM K C newId tl := by
  obtain ⟨h1, h2⟩ := He.ba h
  obtain ⟨h3, h4⟩ := He.ba h2
  obtain ⟨h5, h6⟩ := He.ba h4
  obtain ⟨h7, h8⟩ := He.ba h6
  refine ⟨?_, He.eqO_ok h3, of_decide_eq_true h5, of_decide_eq_true h7, h8⟩
  cases e : K.lookup C with
  | none => rw [e] at h1; cases h1
  | some ob =>
    obtain ⟨oc, od, dt, osl⟩ := ob
    rw [e] at h1
    cases oc with
    | type c =>
      cases dt with
      | cls cd =>
        obtain ⟨nm, bs, mro, ns, qn, hd, sn, sb, ab, col, del⟩ := cd
        dsimp only at h1
        split at h1
        · rename_i xl C' bm k0 k1 k2 k3 n k5 es
          obtain ⟨a1, b1⟩ := He.ba h1
          obtain ⟨a2, b2⟩ := He.ba b1
          obtain ⟨a3, b3⟩ := He.ba b2
          obtain ⟨a4, b4⟩ := He.ba b3
          obtain ⟨a5, a6⟩ := He.ba b4
          have ec : c = "type" := of_decide_eq_true a1
          have eC : C' = C := of_decide_eq_true a2
          have en : n = newId := of_decide_eq_true a3
          have ed : del = false := by cases del with
            | false => rfl
            | true => cases a4
          have eh : hd = true := a5
          have eo : osl = #[k0, k1, k2, k3, some (.builtin n), k5] := by
            have := congrArg List.toArray es
            simpa using this
          subst ec eC en ed eh eo
          exact ⟨nm, qn, ns, bs, bm, sn, sb, ab, col, od, k0, k1, k2, k3, k5, rfl, ⟨mid, of_decide_eq_true a6⟩⟩
        · cases h1
      | _ => cases h1
    | _ => cases dt <;> cases h1
def uniB (K : PySem.W.Frag) (A : Str → Addr) (k : Kd) : Bool := xfB K k.C && (isxB K k.C && (He.eqO (PySem.W.findIn K (.ref k.C) "code") (some none) && (k.ps.all (fun f => He.eqO (PySem.W.findIn K (.ref k.C) f) (some none)) && (decide ((kindV A).map (PySem.W.kitOne K (.ref k.C)) = k.row.map some) && decide ((exmV A).map (PySem.W.exmOne K (.ref k.C)) = k.exm.map some)))))
theorem uniB_ok {K : PySem.W.Frag} {A : Str → Addr} {k : Kd} (h : uniB K A k = true) : Uni K A k := by
  obtain ⟨h1, h⟩ := He.ba h
  obtain ⟨h2, h⟩ := He.ba h
  obtain ⟨h3, h⟩ := He.ba h
  obtain ⟨h4, h⟩ := He.ba h
  obtain ⟨h5, h6⟩ := He.ba h
  exact ⟨xfB_ok h1, isxB_ok h2, He.eqO_ok h3, fun f hf => He.eqO_ok (List.all_eq_true.mp h4 f hf), of_decide_eq_true h5, of_decide_eq_true h6⟩
def exB (K : PySem.W.Frag) : Bool := (kds (He.ga K)).all (uniB K (He.ga K)) && (oeB "ValueError.__new__" tailVE [He.ga K "NetError"] K (He.ga K "BadValue") && (He.eqO (PySem.W.findIn K (.ref (He.ga K "BadValue")) "__init__") (some (some (.ref (He.fAd K ("BadValue", some "__init__"))))) && (decide (PySem.W.typeIn K (.ref (He.fAd K ("BadValue", some "__init__"))) = some (.type "function")) && (oeB "ValueError.__new__" tailVE [He.ga K "NetError"] K (He.ga K "BadLine") && (He.eqO (PySem.W.findIn K (.ref (He.ga K "BadLine")) "__init__") (some (some (.ref (He.fAd K ("BadLine", some "__init__"))))) && (decide (PySem.W.typeIn K (.ref (He.fAd K ("BadLine", some "__init__"))) = some (.type "function")) && (oeB "ValueError.__new__" tailVE [He.ga K "NetError"] K (He.ga K "NoText") && (He.eqO (PySem.W.findIn K (.ref (He.ga K "NoText")) "__init__") (some (some (.ref (He.fAd K ("NoText", some "__init__"))))) && (decide (PySem.W.typeIn K (.ref (He.fAd K ("NoText", some "__init__"))) = some (.type "function")) && (oeB "ValueError.__new__" tailVE [He.ga K "NetError"] K (He.ga K "TooLong") && (He.eqO (PySem.W.findIn K (.ref (He.ga K "TooLong")) "__init__") (some (some (.ref (He.fAd K ("TooLong", some "__init__"))))) && (decide (PySem.W.typeIn K (.ref (He.fAd K ("TooLong", some "__init__"))) = some (.type "function")) && (oeB "ValueError.__new__" tailVE [He.ga K "NetError"] K (He.ga K "BadNet") && (He.eqO (PySem.W.findIn K (.ref (He.ga K "BadNet")) "__init__") (some (some (.ref (He.fAd K ("BadNet", some "__init__"))))) && (decide (PySem.W.typeIn K (.ref (He.fAd K ("BadNet", some "__init__"))) = some (.type "function")) && (oeB "ValueError.__new__" tailVE [He.ga K "NetError"] K (He.ga K "BadText") && (He.eqO (PySem.W.findIn K (.ref (He.ga K "BadText")) "__init__") (some (some (.ref (He.fAd K ("BadText", some "__init__"))))) && (decide (PySem.W.typeIn K (.ref (He.fAd K ("BadText", some "__init__"))) = some (.type "function")) && (oeB "ValueError.__new__" tailVE [He.ga K "NetError"] K (He.ga K "BadChart") && (He.eqO (PySem.W.findIn K (.ref (He.ga K "BadChart")) "__init__") (some (some (.ref (He.fAd K ("BadChart", some "__init__"))))) && (decide (PySem.W.typeIn K (.ref (He.fAd K ("BadChart", some "__init__"))) = some (.type "function")) && (oeB "ValueError.__new__" tailVE [He.ga K "NetError"] K (He.ga K "Broken") && (He.eqO (PySem.W.findIn K (.ref (He.ga K "Broken")) "__init__") (some (some (.ref (He.fAd K ("Broken", some "__init__"))))) && (decide (PySem.W.typeIn K (.ref (He.fAd K ("Broken", some "__init__"))) = some (.type "function")) && (oeB "ValueError.__new__" tailVE [He.ga K "NetError"] K (He.ga K "BadChange") && (He.eqO (PySem.W.findIn K (.ref (He.ga K "BadChange")) "__init__") (some (some (.ref (He.fAd K ("BadChange", some "__init__"))))) && (decide (PySem.W.typeIn K (.ref (He.fAd K ("BadChange", some "__init__"))) = some (.type "function")) && (oeB "ValueError.__new__" tailVE [He.ga K "NetError"] K (He.ga K "BadPair") && (He.eqO (PySem.W.findIn K (.ref (He.ga K "BadPair")) "__init__") (some (some (.ref (He.fAd K ("BadPair", some "__init__"))))) && (decide (PySem.W.typeIn K (.ref (He.fAd K ("BadPair", some "__init__"))) = some (.type "function")) && (oeB "ValueError.__new__" tailVE [He.ga K "NetError"] K (He.ga K "BadDeed") && (He.eqO (PySem.W.findIn K (.ref (He.ga K "BadDeed")) "__init__") (some (some (.ref (He.fAd K ("BadDeed", some "__init__"))))) && (decide (PySem.W.typeIn K (.ref (He.fAd K ("BadDeed", some "__init__"))) = some (.type "function")) && (oeB "ValueError.__new__" tailVE [He.ga K "NetError"] K (He.ga K "Twice") && (He.eqO (PySem.W.findIn K (.ref (He.ga K "Twice")) "__init__") (some (some (.ref (He.fAd K ("Twice", some "__init__"))))) && (decide (PySem.W.typeIn K (.ref (He.fAd K ("Twice", some "__init__"))) = some (.type "function")) && (oeB "LookupError.__new__" tailLE [He.ga K "Missing"] K (He.ga K "NoName") && (He.eqO (PySem.W.findIn K (.ref (He.ga K "NoName")) "__init__") (some (some (.ref (He.fAd K ("NoName", some "__init__"))))) && (decide (PySem.W.typeIn K (.ref (He.fAd K ("NoName", some "__init__"))) = some (.type "function")) && (oeB "RuntimeError.__new__" tailRE [He.ga K "Full"] K (He.ga K "TooMany") && (He.eqO (PySem.W.findIn K (.ref (He.ga K "TooMany")) "__init__") (some (some (.ref (He.fAd K ("TooMany", some "__init__"))))) && (decide (PySem.W.typeIn K (.ref (He.fAd K ("TooMany", some "__init__"))) = some (.type "function")) && (oeB "IndexError.__new__" tailIE [] K (He.ga K "NothingLeft") && (He.eqO (PySem.W.findIn K (.ref (He.ga K "NothingLeft")) "__init__") (some (some (.ref (He.fAd K ("NothingLeft", some "__init__"))))) && (decide (PySem.W.typeIn K (.ref (He.fAd K ("NothingLeft", some "__init__"))) = some (.type "function")))))))))))))))))))))))))))))))))))))))))))))))
def I_BadValue : He.DefD := ⟨("BadValue", some "__init__"), "__init__", "BadValue.__init__", defArgs s_BadValue, defBody s_BadValue, defScope s_BadValue, [], []⟩
def I_BadLine : He.DefD := ⟨("BadLine", some "__init__"), "__init__", "BadLine.__init__", defArgs s_BadLine, defBody s_BadLine, defScope s_BadLine, [], []⟩
def I_NoText : He.DefD := ⟨("NoText", some "__init__"), "__init__", "NoText.__init__", defArgs s_NoText, defBody s_NoText, defScope s_NoText, [], []⟩
def I_TooLong : He.DefD := ⟨("TooLong", some "__init__"), "__init__", "TooLong.__init__", defArgs s_TooLong, defBody s_TooLong, defScope s_TooLong, [], []⟩
def I_BadNet : He.DefD := ⟨("BadNet", some "__init__"), "__init__", "BadNet.__init__", defArgs s_BadNet, defBody s_BadNet, defScope s_BadNet, [], []⟩
def I_BadText : He.DefD := ⟨("BadText", some "__init__"), "__init__", "BadText.__init__", defArgs s_BadText, defBody s_BadText, defScope s_BadText, [], []⟩
def I_BadChart : He.DefD := ⟨("BadChart", some "__init__"), "__init__", "BadChart.__init__", defArgs s_BadChart, defBody s_BadChart, defScope s_BadChart, [], []⟩
def I_Broken : He.DefD := ⟨("Broken", some "__init__"), "__init__", "Broken.__init__", defArgs s_Broken, defBody s_Broken, defScope s_Broken, [], []⟩
def I_BadChange : He.DefD := ⟨("BadChange", some "__init__"), "__init__", "BadChange.__init__", defArgs s_BadChange, defBody s_BadChange, defScope s_BadChange, [], []⟩
def I_BadPair : He.DefD := ⟨("BadPair", some "__init__"), "__init__", "BadPair.__init__", defArgs s_BadPair, defBody s_BadPair, defScope s_BadPair, [], []⟩
def I_BadDeed : He.DefD := ⟨("BadDeed", some "__init__"), "__init__", "BadDeed.__init__", defArgs s_BadDeed, defBody s_BadDeed, defScope s_BadDeed, [], []⟩
def I_Twice : He.DefD := ⟨("Twice", some "__init__"), "__init__", "Twice.__init__", defArgs s_Twice, defBody s_Twice, defScope s_Twice, [], []⟩
def I_NoName : He.DefD := ⟨("NoName", some "__init__"), "__init__", "NoName.__init__", defArgs s_NoName, defBody s_NoName, defScope s_NoName, [], []⟩
def I_TooMany : He.DefD := ⟨("TooMany", some "__init__"), "__init__", "TooMany.__init__", defArgs s_TooMany, defBody s_TooMany, defScope s_TooMany, [], []⟩
def I_NothingLeft : He.DefD := ⟨("NothingLeft", some "__init__"), "__init__", "NothingLeft.__init__", defArgs s_NothingLeft, defBody s_NothingLeft, defScope s_NothingLeft, [], []⟩
def D__law_bag : He.DefD := ⟨("_law_bag", none), "_law_bag", "_law_bag", defArgs s__law_bag, defBody s__law_bag, defScope s__law_bag, [], []⟩
def D__law_draw : He.DefD := ⟨("_law_draw", none), "_law_draw", "_law_draw", defArgs s__law_draw, defBody s__law_draw, defScope s__law_draw, [], []⟩
def D__law_of : He.DefD := ⟨("_law_of", none), "_law_of", "_law_of", defArgs s__law_of, defBody s__law_of, defScope s__law_of, [], []⟩
def D__law_like : He.DefD := ⟨("_law_like", none), "_law_like", "_law_like", defArgs s__law_like, defBody s__law_like, defScope s__law_like, [], []⟩
def D__law_any : He.DefD := ⟨("_law_any", none), "_law_any", "_law_any", defArgs s__law_any, defBody s__law_any, defScope s__law_any, [], []⟩
def D__law_one : He.DefD := ⟨("_law_one", none), "_law_one", "_law_one", defArgs s__law_one, defBody s__law_one, defScope s__law_one, [], []⟩
def D__law_made : He.DefD := ⟨("_law_made", none), "_law_made", "_law_made", defArgs s__law_made, defBody s__law_made, defScope s__law_made, [], []⟩
def D__law_held : He.DefD := ⟨("_law_held", none), "_law_held", "_law_held", defArgs s__law_held, defBody s__law_held, defScope s__law_held, [], []⟩
def D__law_kinds : He.DefD := ⟨("_law_kinds", none), "_law_kinds", "_law_kinds", defArgs s__law_kinds, defBody s__law_kinds, defScope s__law_kinds, [], []⟩
def D__law_raise : He.DefD := ⟨("_law_raise", none), "_law_raise", "_law_raise", defArgs s__law_raise, defBody s__law_raise, defScope s__law_raise, [], []⟩
def D__law_above : He.DefD := ⟨("_law_above", none), "_law_above", "_law_above", defArgs s__law_above, defBody s__law_above, defScope s__law_above, [], []⟩
def D__law_due : He.DefD := ⟨("_law_due", none), "_law_due", "_law_due", defArgs s__law_due, defBody s__law_due, defScope s__law_due, [], []⟩
def D__law_caught : He.DefD := ⟨("_law_caught", none), "_law_caught", "_law_caught", defArgs s__law_caught, defBody s__law_caught, defScope s__law_caught, [], []⟩
def D__law_thing : He.DefD := ⟨("_law_thing", none), "_law_thing", "_law_thing", defArgs s__law_thing, defBody s__law_thing, defScope s__law_thing, [], []⟩
def D__law_so : He.DefD := ⟨("_law_so", none), "_law_so", "_law_so", defArgs s__law_so, defBody s__law_so, defScope s__law_so, [], []⟩
def D_law : He.DefD := ⟨("law", none), "law", "law", defArgs s_law, defBody s_law, defScope s_law, [], []⟩
def fnL : List He.DefD := [I_BadValue, I_BadLine, I_NoText, I_TooLong, I_BadNet, I_BadText, I_BadChart, I_Broken, I_BadChange, I_BadPair, I_BadDeed, I_Twice, I_NoName, I_TooMany, I_NothingLeft, D__law_bag, D__law_draw, D__law_of, D__law_like, D__law_any, D__law_one, D__law_made, D__law_held, D__law_kinds, D__law_raise, D__law_above, D__law_due, D__law_caught, D__law_thing, D__law_so, D_law]
def faL : List He.Fa := [.free "len", .free "int", .free "str", .free "list", .free "tuple", .free "bool", .free "isinstance", .free "all", .free "range", .free "zip", .free "ValueError", .free "LookupError", .free "RuntimeError", .free "IndexError", .free "KeyError", .free "ArithmeticError", .glo "NetError", .glo "Missing", .glo "Full", .glo "BadValue", .glo "BadLine", .glo "NoText", .glo "TooLong", .glo "BadNet", .glo "BadText", .glo "BadChart", .glo "Broken", .glo "BadChange", .glo "BadPair", .glo "BadDeed", .glo "Twice", .glo "NoName", .glo "TooMany", .glo "NothingLeft", .glo "_law_bag", .glo "_law_draw", .glo "_law_of", .glo "_law_like", .glo "_law_any", .glo "_law_one", .glo "_law_made", .glo "_law_held", .glo "_law_kinds", .glo "_law_raise", .glo "_law_above", .glo "_law_due", .glo "_law_caught", .glo "_law_thing", .glo "_law_so", .glo "law"]
theorem fun_ofD {K : PySem.W.Frag} {x q : Str} {st : Stmt} {f : Addr} {fd : FuncData} {kws : List (Str × V)} (F : FunD K x q (defArgs st) (defBody st) (defScope st) [] kws f fd) : Fun K x q st f fd := by
  obtain ⟨oc, od, dV, kV, doc, pm, an, cdv, ct, osl, rfl, lk, hcd, hD, _⟩ := F.ex
  rcases hD with ⟨_, rfl⟩ | ⟨e, _⟩
  · exact ⟨⟨oc, od, kV, doc, pm, an, cdv, ct, osl, rfl, lk, hcd⟩, F.kp⟩
  · exact absurd rfl e
set_option maxHeartbeats 0 in
theorem facts {P : Program} {w : World} {K : PySem.W.Frag} {h : Heap} {mg : Str → Option Value} {f : Addr} (X : K.In h) (G : h.Ns mainGlobals mg) (hfa : mg ("law" : Str) = some (.ref f)) (c : He.SaysX faL fnL [] [] exB w h K) :
    ∃ (fd : FuncData) (cs : List (Addr × Addr)) (sp : Sp), (∀ p ∈ cs, h.get? p.2 = some { cls := .none, data := .fields #[] }) ∧ (∀ p ∈ cs, K.lookup p.2 = none) ∧ (∀ p ∈ cs, PySem.W.CodeHd h p.1 p.2) ∧ (∀ (s : Shared) (u : Value), BindsTo s fd ⟨[u], []⟩ [("script", u)]) ∧
      (∀ (H : Hp) (a : Addr) (ns : List Int), ns.length ≤ 63 → (∀ z ∈ ns, Builtin.Int.intBits z ≤ 1048576) → (∀ p ∈ cs, H p.2 = some (.tbl #[])) → SqL K H a (ns.map V.int) → sp [.ref a] H (fun v _ => v = .bl true) fun _ _ _ => False) ∧
      ∀ base : Heap, K.In base → base.Ns mainGlobals mg → (∀ p ∈ cs, LamX.TabB base mg p.1 p.2) → FnOk P w K mg base CX0 10 f fd ["script"] sp := by
  have d := c.t.d
  have ex := c.more
  obtain ⟨e0, ex⟩ := He.ba ex
  obtain ⟨e1, ex⟩ := He.ba ex
  obtain ⟨e2, ex⟩ := He.ba ex
  obtain ⟨e3, ex⟩ := He.ba ex
  obtain ⟨e4, ex⟩ := He.ba ex
  obtain ⟨e5, ex⟩ := He.ba ex
  obtain ⟨e6, ex⟩ := He.ba ex
  obtain ⟨e7, ex⟩ := He.ba ex
  obtain ⟨e8, ex⟩ := He.ba ex
  obtain ⟨e9, ex⟩ := He.ba ex
  obtain ⟨e10, ex⟩ := He.ba ex
  obtain ⟨e11, ex⟩ := He.ba ex
  obtain ⟨e12, ex⟩ := He.ba ex
  obtain ⟨e13, ex⟩ := He.ba ex
  obtain ⟨e14, ex⟩ := He.ba ex
  obtain ⟨e15, ex⟩ := He.ba ex
  obtain ⟨e16, ex⟩ := He.ba ex
  obtain ⟨e17, ex⟩ := He.ba ex
  obtain ⟨e18, ex⟩ := He.ba ex
  obtain ⟨e19, ex⟩ := He.ba ex
  obtain ⟨e20, ex⟩ := He.ba ex
  obtain ⟨e21, ex⟩ := He.ba ex
  obtain ⟨e22, ex⟩ := He.ba ex
  obtain ⟨e23, ex⟩ := He.ba ex
  obtain ⟨e24, ex⟩ := He.ba ex
  obtain ⟨e25, ex⟩ := He.ba ex
  obtain ⟨e26, ex⟩ := He.ba ex
  obtain ⟨e27, ex⟩ := He.ba ex
  obtain ⟨e28, ex⟩ := He.ba ex
  obtain ⟨e29, ex⟩ := He.ba ex
  obtain ⟨e30, ex⟩ := He.ba ex
  obtain ⟨e31, ex⟩ := He.ba ex
  obtain ⟨e32, ex⟩ := He.ba ex
  obtain ⟨e33, ex⟩ := He.ba ex
  obtain ⟨e34, ex⟩ := He.ba ex
  obtain ⟨e35, ex⟩ := He.ba ex
  obtain ⟨e36, ex⟩ := He.ba ex
  obtain ⟨e37, ex⟩ := He.ba ex
  obtain ⟨e38, ex⟩ := He.ba ex
  obtain ⟨e39, ex⟩ := He.ba ex
  obtain ⟨e40, ex⟩ := He.ba ex
  obtain ⟨e41, ex⟩ := He.ba ex
  obtain ⟨e42, ex⟩ := He.ba ex
  obtain ⟨e43, ex⟩ := He.ba ex
  obtain ⟨e44, ex⟩ := He.ba ex
  have e45 := ex
  obtain ⟨d_BadValue, FD_BadValue⟩ := d.def_ 0 (d := I_BadValue) rfl
  have F_BadValue : Fun K "__init__" "BadValue.__init__" s_BadValue (He.fAd K ("BadValue", some "__init__")) d_BadValue := fun_ofD FD_BadValue
  have b_BadValue := F_BadValue.binds (ps := ["self", "value"]) fun _ _ _ _ _ _ us hl => match us, hl with | [_, _], _ => rfl
  have p_BadValue : KBn K d_BadValue ["self", "value"] 2 [] (fun us ws => us ++ ws) (fun vs zs => vs ++ zs) := kb_of F_BadValue (n := 2) (ks := []) (ps := ["self", "value"]) (fun us ws => us ++ ws) (fun r rz => r.append rz) fun _ _ _ _ _ _ us ws h1 h2 => match us, ws, h1, h2 with | [_, _], [], _, _ => rfl
  have z_BadValue : KBn K d_BadValue ["self", "value"] 1 ["value"] (fun us ws => us ++ ws) (fun vs zs => vs ++ zs) := kb_of F_BadValue (n := 1) (ks := ["value"]) (ps := ["self", "value"]) (fun us ws => us ++ ws) (fun r rz => r.append rz) fun _ _ _ _ _ _ us ws h1 h2 => match us, ws, h1, h2 with | [_], [_], _, _ => rfl
  obtain ⟨d_BadLine, FD_BadLine⟩ := d.def_ 1 (d := I_BadLine) rfl
  have F_BadLine : Fun K "__init__" "BadLine.__init__" s_BadLine (He.fAd K ("BadLine", some "__init__")) d_BadLine := fun_ofD FD_BadLine
  have b_BadLine := F_BadLine.binds (ps := ["self", "line", "why"]) fun _ _ _ _ _ _ us hl => match us, hl with | [_, _, _], _ => rfl
  have p_BadLine : KBn K d_BadLine ["self", "line", "why"] 3 [] (fun us ws => us ++ ws) (fun vs zs => vs ++ zs) := kb_of F_BadLine (n := 3) (ks := []) (ps := ["self", "line", "why"]) (fun us ws => us ++ ws) (fun r rz => r.append rz) fun _ _ _ _ _ _ us ws h1 h2 => match us, ws, h1, h2 with | [_, _, _], [], _, _ => rfl
  have z_BadLine : KBn K d_BadLine ["self", "line", "why"] 1 ["line", "why"] (fun us ws => us ++ ws) (fun vs zs => vs ++ zs) := kb_of F_BadLine (n := 1) (ks := ["line", "why"]) (ps := ["self", "line", "why"]) (fun us ws => us ++ ws) (fun r rz => r.append rz) fun _ _ _ _ _ _ us ws h1 h2 => match us, ws, h1, h2 with | [_], [_, _], _, _ => rfl
  have w_BadLine : KBn K d_BadLine ["self", "line", "why"] 1 ["why", "line"] (fun us ws => us ++ sw ws) (fun vs zs => vs ++ sw zs) := kb_of F_BadLine (n := 1) (ks := ["why", "line"]) (ps := ["self", "line", "why"]) (fun us ws => us ++ sw ws) (fun r rz => r.append (sw_rel rz)) fun _ _ _ _ _ _ us ws h1 h2 => match us, ws, h1, h2 with | [_], [_, _], _, _ => rfl
  have x_BadLine : KBn K d_BadLine ["self", "line", "why"] 2 ["why"] (fun us ws => us ++ ws) (fun vs zs => vs ++ zs) := kb_of F_BadLine (n := 2) (ks := ["why"]) (ps := ["self", "line", "why"]) (fun us ws => us ++ ws) (fun r rz => r.append rz) fun _ _ _ _ _ _ us ws h1 h2 => match us, ws, h1, h2 with | [_, _], [_], _, _ => rfl
  obtain ⟨d_NoText, FD_NoText⟩ := d.def_ 2 (d := I_NoText) rfl
  have F_NoText : Fun K "__init__" "NoText.__init__" s_NoText (He.fAd K ("NoText", some "__init__")) d_NoText := fun_ofD FD_NoText
  have b_NoText := F_NoText.binds (ps := ["self", "at"]) fun _ _ _ _ _ _ us hl => match us, hl with | [_, _], _ => rfl
  have p_NoText : KBn K d_NoText ["self", "at"] 2 [] (fun us ws => us ++ ws) (fun vs zs => vs ++ zs) := kb_of F_NoText (n := 2) (ks := []) (ps := ["self", "at"]) (fun us ws => us ++ ws) (fun r rz => r.append rz) fun _ _ _ _ _ _ us ws h1 h2 => match us, ws, h1, h2 with | [_, _], [], _, _ => rfl
  have z_NoText : KBn K d_NoText ["self", "at"] 1 ["at"] (fun us ws => us ++ ws) (fun vs zs => vs ++ zs) := kb_of F_NoText (n := 1) (ks := ["at"]) (ps := ["self", "at"]) (fun us ws => us ++ ws) (fun r rz => r.append rz) fun _ _ _ _ _ _ us ws h1 h2 => match us, ws, h1, h2 with | [_], [_], _, _ => rfl
  obtain ⟨d_TooLong, FD_TooLong⟩ := d.def_ 3 (d := I_TooLong) rfl
  have F_TooLong : Fun K "__init__" "TooLong.__init__" s_TooLong (He.fAd K ("TooLong", some "__init__")) d_TooLong := fun_ofD FD_TooLong
  have b_TooLong := F_TooLong.binds (ps := ["self", "length"]) fun _ _ _ _ _ _ us hl => match us, hl with | [_, _], _ => rfl
  have p_TooLong : KBn K d_TooLong ["self", "length"] 2 [] (fun us ws => us ++ ws) (fun vs zs => vs ++ zs) := kb_of F_TooLong (n := 2) (ks := []) (ps := ["self", "length"]) (fun us ws => us ++ ws) (fun r rz => r.append rz) fun _ _ _ _ _ _ us ws h1 h2 => match us, ws, h1, h2 with | [_, _], [], _, _ => rfl
  have z_TooLong : KBn K d_TooLong ["self", "length"] 1 ["length"] (fun us ws => us ++ ws) (fun vs zs => vs ++ zs) := kb_of F_TooLong (n := 1) (ks := ["length"]) (ps := ["self", "length"]) (fun us ws => us ++ ws) (fun r rz => r.append rz) fun _ _ _ _ _ _ us ws h1 h2 => match us, ws, h1, h2 with | [_], [_], _, _ => rfl
  obtain ⟨d_BadNet, FD_BadNet⟩ := d.def_ 4 (d := I_BadNet) rfl
  have F_BadNet : Fun K "__init__" "BadNet.__init__" s_BadNet (He.fAd K ("BadNet", some "__init__")) d_BadNet := fun_ofD FD_BadNet
  have b_BadNet := F_BadNet.binds (ps := ["self", "where"]) fun _ _ _ _ _ _ us hl => match us, hl with | [_, _], _ => rfl
  have p_BadNet : KBn K d_BadNet ["self", "where"] 2 [] (fun us ws => us ++ ws) (fun vs zs => vs ++ zs) := kb_of F_BadNet (n := 2) (ks := []) (ps := ["self", "where"]) (fun us ws => us ++ ws) (fun r rz => r.append rz) fun _ _ _ _ _ _ us ws h1 h2 => match us, ws, h1, h2 with | [_, _], [], _, _ => rfl
  have z_BadNet : KBn K d_BadNet ["self", "where"] 1 ["where"] (fun us ws => us ++ ws) (fun vs zs => vs ++ zs) := kb_of F_BadNet (n := 1) (ks := ["where"]) (ps := ["self", "where"]) (fun us ws => us ++ ws) (fun r rz => r.append rz) fun _ _ _ _ _ _ us ws h1 h2 => match us, ws, h1, h2 with | [_], [_], _, _ => rfl
  obtain ⟨d_BadText, FD_BadText⟩ := d.def_ 5 (d := I_BadText) rfl
  have F_BadText : Fun K "__init__" "BadText.__init__" s_BadText (He.fAd K ("BadText", some "__init__")) d_BadText := fun_ofD FD_BadText
  have b_BadText := F_BadText.binds (ps := ["self", "line"]) fun _ _ _ _ _ _ us hl => match us, hl with | [_, _], _ => rfl
  have p_BadText : KBn K d_BadText ["self", "line"] 2 [] (fun us ws => us ++ ws) (fun vs zs => vs ++ zs) := kb_of F_BadText (n := 2) (ks := []) (ps := ["self", "line"]) (fun us ws => us ++ ws) (fun r rz => r.append rz) fun _ _ _ _ _ _ us ws h1 h2 => match us, ws, h1, h2 with | [_, _], [], _, _ => rfl
  have z_BadText : KBn K d_BadText ["self", "line"] 1 ["line"] (fun us ws => us ++ ws) (fun vs zs => vs ++ zs) := kb_of F_BadText (n := 1) (ks := ["line"]) (ps := ["self", "line"]) (fun us ws => us ++ ws) (fun r rz => r.append rz) fun _ _ _ _ _ _ us ws h1 h2 => match us, ws, h1, h2 with | [_], [_], _, _ => rfl
  obtain ⟨d_BadChart, FD_BadChart⟩ := d.def_ 6 (d := I_BadChart) rfl
  have F_BadChart : Fun K "__init__" "BadChart.__init__" s_BadChart (He.fAd K ("BadChart", some "__init__")) d_BadChart := fun_ofD FD_BadChart
  have b_BadChart := F_BadChart.binds (ps := ["self", "where"]) fun _ _ _ _ _ _ us hl => match us, hl with | [_, _], _ => rfl
  have p_BadChart : KBn K d_BadChart ["self", "where"] 2 [] (fun us ws => us ++ ws) (fun vs zs => vs ++ zs) := kb_of F_BadChart (n := 2) (ks := []) (ps := ["self", "where"]) (fun us ws => us ++ ws) (fun r rz => r.append rz) fun _ _ _ _ _ _ us ws h1 h2 => match us, ws, h1, h2 with | [_, _], [], _, _ => rfl
  have z_BadChart : KBn K d_BadChart ["self", "where"] 1 ["where"] (fun us ws => us ++ ws) (fun vs zs => vs ++ zs) := kb_of F_BadChart (n := 1) (ks := ["where"]) (ps := ["self", "where"]) (fun us ws => us ++ ws) (fun r rz => r.append rz) fun _ _ _ _ _ _ us ws h1 h2 => match us, ws, h1, h2 with | [_], [_], _, _ => rfl
  obtain ⟨d_Broken, FD_Broken⟩ := d.def_ 7 (d := I_Broken) rfl
  have F_Broken : Fun K "__init__" "Broken.__init__" s_Broken (He.fAd K ("Broken", some "__init__")) d_Broken := fun_ofD FD_Broken
  have b_Broken := F_Broken.binds (ps := ["self", "line", "word"]) fun _ _ _ _ _ _ us hl => match us, hl with | [_, _, _], _ => rfl
  have p_Broken : KBn K d_Broken ["self", "line", "word"] 3 [] (fun us ws => us ++ ws) (fun vs zs => vs ++ zs) := kb_of F_Broken (n := 3) (ks := []) (ps := ["self", "line", "word"]) (fun us ws => us ++ ws) (fun r rz => r.append rz) fun _ _ _ _ _ _ us ws h1 h2 => match us, ws, h1, h2 with | [_, _, _], [], _, _ => rfl
  have z_Broken : KBn K d_Broken ["self", "line", "word"] 1 ["line", "word"] (fun us ws => us ++ ws) (fun vs zs => vs ++ zs) := kb_of F_Broken (n := 1) (ks := ["line", "word"]) (ps := ["self", "line", "word"]) (fun us ws => us ++ ws) (fun r rz => r.append rz) fun _ _ _ _ _ _ us ws h1 h2 => match us, ws, h1, h2 with | [_], [_, _], _, _ => rfl
  have w_Broken : KBn K d_Broken ["self", "line", "word"] 1 ["word", "line"] (fun us ws => us ++ sw ws) (fun vs zs => vs ++ sw zs) := kb_of F_Broken (n := 1) (ks := ["word", "line"]) (ps := ["self", "line", "word"]) (fun us ws => us ++ sw ws) (fun r rz => r.append (sw_rel rz)) fun _ _ _ _ _ _ us ws h1 h2 => match us, ws, h1, h2 with | [_], [_, _], _, _ => rfl
  have x_Broken : KBn K d_Broken ["self", "line", "word"] 2 ["word"] (fun us ws => us ++ ws) (fun vs zs => vs ++ zs) := kb_of F_Broken (n := 2) (ks := ["word"]) (ps := ["self", "line", "word"]) (fun us ws => us ++ ws) (fun r rz => r.append rz) fun _ _ _ _ _ _ us ws h1 h2 => match us, ws, h1, h2 with | [_, _], [_], _, _ => rfl
  obtain ⟨d_BadChange, FD_BadChange⟩ := d.def_ 8 (d := I_BadChange) rfl
  have F_BadChange : Fun K "__init__" "BadChange.__init__" s_BadChange (He.fAd K ("BadChange", some "__init__")) d_BadChange := fun_ofD FD_BadChange
  have b_BadChange := F_BadChange.binds (ps := ["self", "what"]) fun _ _ _ _ _ _ us hl => match us, hl with | [_, _], _ => rfl
  have p_BadChange : KBn K d_BadChange ["self", "what"] 2 [] (fun us ws => us ++ ws) (fun vs zs => vs ++ zs) := kb_of F_BadChange (n := 2) (ks := []) (ps := ["self", "what"]) (fun us ws => us ++ ws) (fun r rz => r.append rz) fun _ _ _ _ _ _ us ws h1 h2 => match us, ws, h1, h2 with | [_, _], [], _, _ => rfl
  have z_BadChange : KBn K d_BadChange ["self", "what"] 1 ["what"] (fun us ws => us ++ ws) (fun vs zs => vs ++ zs) := kb_of F_BadChange (n := 1) (ks := ["what"]) (ps := ["self", "what"]) (fun us ws => us ++ ws) (fun r rz => r.append rz) fun _ _ _ _ _ _ us ws h1 h2 => match us, ws, h1, h2 with | [_], [_], _, _ => rfl
  obtain ⟨d_BadPair, FD_BadPair⟩ := d.def_ 9 (d := I_BadPair) rfl
  have F_BadPair : Fun K "__init__" "BadPair.__init__" s_BadPair (He.fAd K ("BadPair", some "__init__")) d_BadPair := fun_ofD FD_BadPair
  have b_BadPair := F_BadPair.binds (ps := ["self", "what"]) fun _ _ _ _ _ _ us hl => match us, hl with | [_, _], _ => rfl
  have p_BadPair : KBn K d_BadPair ["self", "what"] 2 [] (fun us ws => us ++ ws) (fun vs zs => vs ++ zs) := kb_of F_BadPair (n := 2) (ks := []) (ps := ["self", "what"]) (fun us ws => us ++ ws) (fun r rz => r.append rz) fun _ _ _ _ _ _ us ws h1 h2 => match us, ws, h1, h2 with | [_, _], [], _, _ => rfl
  have z_BadPair : KBn K d_BadPair ["self", "what"] 1 ["what"] (fun us ws => us ++ ws) (fun vs zs => vs ++ zs) := kb_of F_BadPair (n := 1) (ks := ["what"]) (ps := ["self", "what"]) (fun us ws => us ++ ws) (fun r rz => r.append rz) fun _ _ _ _ _ _ us ws h1 h2 => match us, ws, h1, h2 with | [_], [_], _, _ => rfl
  obtain ⟨d_BadDeed, FD_BadDeed⟩ := d.def_ 10 (d := I_BadDeed) rfl
  have F_BadDeed : Fun K "__init__" "BadDeed.__init__" s_BadDeed (He.fAd K ("BadDeed", some "__init__")) d_BadDeed := fun_ofD FD_BadDeed
  have b_BadDeed := F_BadDeed.binds (ps := ["self", "at"]) fun _ _ _ _ _ _ us hl => match us, hl with | [_, _], _ => rfl
  have p_BadDeed : KBn K d_BadDeed ["self", "at"] 2 [] (fun us ws => us ++ ws) (fun vs zs => vs ++ zs) := kb_of F_BadDeed (n := 2) (ks := []) (ps := ["self", "at"]) (fun us ws => us ++ ws) (fun r rz => r.append rz) fun _ _ _ _ _ _ us ws h1 h2 => match us, ws, h1, h2 with | [_, _], [], _, _ => rfl
  have z_BadDeed : KBn K d_BadDeed ["self", "at"] 1 ["at"] (fun us ws => us ++ ws) (fun vs zs => vs ++ zs) := kb_of F_BadDeed (n := 1) (ks := ["at"]) (ps := ["self", "at"]) (fun us ws => us ++ ws) (fun r rz => r.append rz) fun _ _ _ _ _ _ us ws h1 h2 => match us, ws, h1, h2 with | [_], [_], _, _ => rfl
  obtain ⟨d_Twice, FD_Twice⟩ := d.def_ 11 (d := I_Twice) rfl
  have F_Twice : Fun K "__init__" "Twice.__init__" s_Twice (He.fAd K ("Twice", some "__init__")) d_Twice := fun_ofD FD_Twice
  have b_Twice := F_Twice.binds (ps := ["self", "name"]) fun _ _ _ _ _ _ us hl => match us, hl with | [_, _], _ => rfl
  have p_Twice : KBn K d_Twice ["self", "name"] 2 [] (fun us ws => us ++ ws) (fun vs zs => vs ++ zs) := kb_of F_Twice (n := 2) (ks := []) (ps := ["self", "name"]) (fun us ws => us ++ ws) (fun r rz => r.append rz) fun _ _ _ _ _ _ us ws h1 h2 => match us, ws, h1, h2 with | [_, _], [], _, _ => rfl
  have z_Twice : KBn K d_Twice ["self", "name"] 1 ["name"] (fun us ws => us ++ ws) (fun vs zs => vs ++ zs) := kb_of F_Twice (n := 1) (ks := ["name"]) (ps := ["self", "name"]) (fun us ws => us ++ ws) (fun r rz => r.append rz) fun _ _ _ _ _ _ us ws h1 h2 => match us, ws, h1, h2 with | [_], [_], _, _ => rfl
  obtain ⟨d_NoName, FD_NoName⟩ := d.def_ 12 (d := I_NoName) rfl
  have F_NoName : Fun K "__init__" "NoName.__init__" s_NoName (He.fAd K ("NoName", some "__init__")) d_NoName := fun_ofD FD_NoName
  have b_NoName := F_NoName.binds (ps := ["self", "name"]) fun _ _ _ _ _ _ us hl => match us, hl with | [_, _], _ => rfl
  have p_NoName : KBn K d_NoName ["self", "name"] 2 [] (fun us ws => us ++ ws) (fun vs zs => vs ++ zs) := kb_of F_NoName (n := 2) (ks := []) (ps := ["self", "name"]) (fun us ws => us ++ ws) (fun r rz => r.append rz) fun _ _ _ _ _ _ us ws h1 h2 => match us, ws, h1, h2 with | [_, _], [], _, _ => rfl
  have z_NoName : KBn K d_NoName ["self", "name"] 1 ["name"] (fun us ws => us ++ ws) (fun vs zs => vs ++ zs) := kb_of F_NoName (n := 1) (ks := ["name"]) (ps := ["self", "name"]) (fun us ws => us ++ ws) (fun r rz => r.append rz) fun _ _ _ _ _ _ us ws h1 h2 => match us, ws, h1, h2 with | [_], [_], _, _ => rfl
  obtain ⟨d_TooMany, FD_TooMany⟩ := d.def_ 13 (d := I_TooMany) rfl
  have F_TooMany : Fun K "__init__" "TooMany.__init__" s_TooMany (He.fAd K ("TooMany", some "__init__")) d_TooMany := fun_ofD FD_TooMany
  have b_TooMany := F_TooMany.binds (ps := ["self", "what", "count"]) fun _ _ _ _ _ _ us hl => match us, hl with | [_, _, _], _ => rfl
  have p_TooMany : KBn K d_TooMany ["self", "what", "count"] 3 [] (fun us ws => us ++ ws) (fun vs zs => vs ++ zs) := kb_of F_TooMany (n := 3) (ks := []) (ps := ["self", "what", "count"]) (fun us ws => us ++ ws) (fun r rz => r.append rz) fun _ _ _ _ _ _ us ws h1 h2 => match us, ws, h1, h2 with | [_, _, _], [], _, _ => rfl
  have z_TooMany : KBn K d_TooMany ["self", "what", "count"] 1 ["what", "count"] (fun us ws => us ++ ws) (fun vs zs => vs ++ zs) := kb_of F_TooMany (n := 1) (ks := ["what", "count"]) (ps := ["self", "what", "count"]) (fun us ws => us ++ ws) (fun r rz => r.append rz) fun _ _ _ _ _ _ us ws h1 h2 => match us, ws, h1, h2 with | [_], [_, _], _, _ => rfl
  have w_TooMany : KBn K d_TooMany ["self", "what", "count"] 1 ["count", "what"] (fun us ws => us ++ sw ws) (fun vs zs => vs ++ sw zs) := kb_of F_TooMany (n := 1) (ks := ["count", "what"]) (ps := ["self", "what", "count"]) (fun us ws => us ++ sw ws) (fun r rz => r.append (sw_rel rz)) fun _ _ _ _ _ _ us ws h1 h2 => match us, ws, h1, h2 with | [_], [_, _], _, _ => rfl
  have x_TooMany : KBn K d_TooMany ["self", "what", "count"] 2 ["count"] (fun us ws => us ++ ws) (fun vs zs => vs ++ zs) := kb_of F_TooMany (n := 2) (ks := ["count"]) (ps := ["self", "what", "count"]) (fun us ws => us ++ ws) (fun r rz => r.append rz) fun _ _ _ _ _ _ us ws h1 h2 => match us, ws, h1, h2 with | [_, _], [_], _, _ => rfl
  obtain ⟨d_NothingLeft, FD_NothingLeft⟩ := d.def_ 14 (d := I_NothingLeft) rfl
  have F_NothingLeft : Fun K "__init__" "NothingLeft.__init__" s_NothingLeft (He.fAd K ("NothingLeft", some "__init__")) d_NothingLeft := fun_ofD FD_NothingLeft
  have b_NothingLeft := F_NothingLeft.binds (ps := ["self"]) fun _ _ _ _ _ _ us hl => match us, hl with | [_], _ => rfl
  have p_NothingLeft : KBn K d_NothingLeft ["self"] 1 [] (fun us ws => us ++ ws) (fun vs zs => vs ++ zs) := kb_of F_NothingLeft (n := 1) (ks := []) (ps := ["self"]) (fun us ws => us ++ ws) (fun r rz => r.append rz) fun _ _ _ _ _ _ us ws h1 h2 => match us, ws, h1, h2 with | [_], [], _, _ => rfl
  obtain ⟨d__law_bag, FD__law_bag⟩ := d.def_ 15 (d := D__law_bag) rfl
  have F__law_bag : Fun K "_law_bag" "_law_bag" s__law_bag (He.ga K "_law_bag") d__law_bag := fun_ofD FD__law_bag
  have b__law_bag := F__law_bag.binds (ps := ["script"]) fun _ _ _ _ _ _ us hl => match us, hl with | [_], _ => rfl
  obtain ⟨d__law_draw, FD__law_draw⟩ := d.def_ 16 (d := D__law_draw) rfl
  have F__law_draw : Fun K "_law_draw" "_law_draw" s__law_draw (He.ga K "_law_draw") d__law_draw := fun_ofD FD__law_draw
  have b__law_draw := F__law_draw.binds (ps := ["bag", "size"]) fun _ _ _ _ _ _ us hl => match us, hl with | [_, _], _ => rfl
  obtain ⟨d__law_of, FD__law_of⟩ := d.def_ 17 (d := D__law_of) rfl
  have F__law_of : Fun K "_law_of" "_law_of" s__law_of (He.ga K "_law_of") d__law_of := fun_ofD FD__law_of
  have b__law_of := F__law_of.binds (ps := ["bag", "things"]) fun _ _ _ _ _ _ us hl => match us, hl with | [_, _], _ => rfl
  obtain ⟨d__law_like, FD__law_like⟩ := d.def_ 18 (d := D__law_like) rfl
  have F__law_like : Fun K "_law_like" "_law_like" s__law_like (He.ga K "_law_like") d__law_like := fun_ofD FD__law_like
  have b__law_like := F__law_like.binds (ps := ["got", "due"]) fun _ _ _ _ _ _ us hl => match us, hl with | [_, _], _ => rfl
  obtain ⟨d__law_any, FD__law_any⟩ := d.def_ 19 (d := D__law_any) rfl
  have F__law_any : Fun K "_law_any" "_law_any" s__law_any (He.ga K "_law_any") d__law_any := fun_ofD FD__law_any
  have b__law_any := F__law_any.binds (ps := ["bag", "deep"]) fun _ _ _ _ _ _ us hl => match us, hl with | [_, _], _ => rfl
  obtain ⟨d__law_one, FD__law_one⟩ := d.def_ 20 (d := D__law_one) rfl
  have F__law_one : Fun K "_law_one" "_law_one" s__law_one (He.ga K "_law_one") d__law_one := fun_ofD FD__law_one
  have b__law_one := F__law_one.binds (ps := ["pick", "one", "way"]) fun _ _ _ _ _ _ us hl => match us, hl with | [_, _, _], _ => rfl
  obtain ⟨d__law_made, FD__law_made⟩ := d.def_ 21 (d := D__law_made) rfl
  have F__law_made : Fun K "_law_made" "_law_made" s__law_made (He.ga K "_law_made") d__law_made := fun_ofD FD__law_made
  have b__law_made := F__law_made.binds (ps := ["pick", "one", "two", "way"]) fun _ _ _ _ _ _ us hl => match us, hl with | [_, _, _, _], _ => rfl
  obtain ⟨d__law_held, FD__law_held⟩ := d.def_ 22 (d := D__law_held) rfl
  have F__law_held : Fun K "_law_held" "_law_held" s__law_held (He.ga K "_law_held") d__law_held := fun_ofD FD__law_held
  have b__law_held := F__law_held.binds (ps := ["pick", "error"]) fun _ _ _ _ _ _ us hl => match us, hl with | [_, _], _ => rfl
  obtain ⟨d__law_kinds, FD__law_kinds⟩ := d.def_ 23 (d := D__law_kinds) rfl
  have F__law_kinds : Fun K "_law_kinds" "_law_kinds" s__law_kinds (He.ga K "_law_kinds") d__law_kinds := fun_ofD FD__law_kinds
  have b__law_kinds := F__law_kinds.binds (ps := ["error"]) fun _ _ _ _ _ _ us hl => match us, hl with | [_], _ => rfl
  obtain ⟨d__law_raise, FD__law_raise⟩ := d.def_ 24 (d := D__law_raise) rfl
  have F__law_raise : Fun K "_law_raise" "_law_raise" s__law_raise (He.ga K "_law_raise") d__law_raise := fun_ofD FD__law_raise
  have b__law_raise := F__law_raise.binds (ps := ["pick", "one", "two"]) fun _ _ _ _ _ _ us hl => match us, hl with | [_, _, _], _ => rfl
  obtain ⟨d__law_above, FD__law_above⟩ := d.def_ 25 (d := D__law_above) rfl
  have F__law_above : Fun K "_law_above" "_law_above" s__law_above (He.ga K "_law_above") d__law_above := fun_ofD FD__law_above
  have b__law_above := F__law_above.binds (ps := ["pick"]) fun _ _ _ _ _ _ us hl => match us, hl with | [_], _ => rfl
  obtain ⟨d__law_due, FD__law_due⟩ := d.def_ 26 (d := D__law_due) rfl
  have F__law_due : Fun K "_law_due" "_law_due" s__law_due (He.ga K "_law_due") d__law_due := fun_ofD FD__law_due
  have b__law_due := F__law_due.binds (ps := ["pick"]) fun _ _ _ _ _ _ us hl => match us, hl with | [_], _ => rfl
  obtain ⟨d__law_caught, FD__law_caught⟩ := d.def_ 27 (d := D__law_caught) rfl
  have F__law_caught : Fun K "_law_caught" "_law_caught" s__law_caught (He.ga K "_law_caught") d__law_caught := fun_ofD FD__law_caught
  have b__law_caught := F__law_caught.binds (ps := ["pick", "one", "two"]) fun _ _ _ _ _ _ us hl => match us, hl with | [_, _, _], _ => rfl
  obtain ⟨d__law_thing, FD__law_thing⟩ := d.def_ 28 (d := D__law_thing) rfl
  have F__law_thing : Fun K "_law_thing" "_law_thing" s__law_thing (He.ga K "_law_thing") d__law_thing := fun_ofD FD__law_thing
  have b__law_thing := F__law_thing.binds (ps := ["bag"]) fun _ _ _ _ _ _ us hl => match us, hl with | [_], _ => rfl
  obtain ⟨d__law_so, FD__law_so⟩ := d.def_ 29 (d := D__law_so) rfl
  have F__law_so : Fun K "_law_so" "_law_so" s__law_so (He.ga K "_law_so") d__law_so := fun_ofD FD__law_so
  have b__law_so := F__law_so.binds (ps := ["bag", "pick"]) fun _ _ _ _ _ _ us hl => match us, hl with | [_, _], _ => rfl
  obtain ⟨d_law, FD_law⟩ := d.def_ 30 (d := D_law) rfl
  have F_law : Fun K "law" "law" s_law (He.ga K "law") d_law := fun_ofD FD_law
  have b_law := F_law.binds (ps := ["script"]) fun _ _ _ _ _ _ us hl => match us, hl with | [_], _ => rfl
  let T : Txt w K mg := {
    n_len := He.free_ok X G (d.fact 0 (f := .free "len") rfl)
    n_int := He.free_ok X G (d.fact 1 (f := .free "int") rfl)
    n_str := He.free_ok X G (d.fact 2 (f := .free "str") rfl)
    n_list := He.free_ok X G (d.fact 3 (f := .free "list") rfl)
    n_tuple := He.free_ok X G (d.fact 4 (f := .free "tuple") rfl)
    n_bool := He.free_ok X G (d.fact 5 (f := .free "bool") rfl)
    n_isinstance := He.free_ok X G (d.fact 6 (f := .free "isinstance") rfl)
    n_all := He.free_ok X G (d.fact 7 (f := .free "all") rfl)
    n_range := He.free_ok X G (d.fact 8 (f := .free "range") rfl)
    n_zip := He.free_ok X G (d.fact 9 (f := .free "zip") rfl)
    n_ValueError := He.free_ok X G (d.fact 10 (f := .free "ValueError") rfl)
    n_LookupError := He.free_ok X G (d.fact 11 (f := .free "LookupError") rfl)
    n_RuntimeError := He.free_ok X G (d.fact 12 (f := .free "RuntimeError") rfl)
    n_IndexError := He.free_ok X G (d.fact 13 (f := .free "IndexError") rfl)
    n_KeyError := He.free_ok X G (d.fact 14 (f := .free "KeyError") rfl)
    n_ArithmeticError := He.free_ok X G (d.fact 15 (f := .free "ArithmeticError") rfl)
    cA := He.ga K
    m_NetError := He.glo_ok X G (d.fact 16 (f := .glo "NetError") rfl)
    m_Missing := He.glo_ok X G (d.fact 17 (f := .glo "Missing") rfl)
    m_Full := He.glo_ok X G (d.fact 18 (f := .glo "Full") rfl)
    m_BadValue := He.glo_ok X G (d.fact 19 (f := .glo "BadValue") rfl)
    f_BadValue := He.fAd K ("BadValue", some "__init__")
    d_BadValue := d_BadValue
    X_BadValue := oeB_ok e1
    i_BadValue := He.eqO_ok e2
    t_BadValue := of_decide_eq_true e3
    F_BadValue := F_BadValue
    B_BadValue__init := b_BadValue
    p_BadValue := p_BadValue
    z_BadValue := z_BadValue
    m_BadLine := He.glo_ok X G (d.fact 20 (f := .glo "BadLine") rfl)
    f_BadLine := He.fAd K ("BadLine", some "__init__")
    d_BadLine := d_BadLine
    X_BadLine := oeB_ok e4
    i_BadLine := He.eqO_ok e5
    t_BadLine := of_decide_eq_true e6
    F_BadLine := F_BadLine
    B_BadLine__init := b_BadLine
    p_BadLine := p_BadLine
    z_BadLine := z_BadLine
    w_BadLine := w_BadLine
    x_BadLine := x_BadLine
    m_NoText := He.glo_ok X G (d.fact 21 (f := .glo "NoText") rfl)
    f_NoText := He.fAd K ("NoText", some "__init__")
    d_NoText := d_NoText
    X_NoText := oeB_ok e7
    i_NoText := He.eqO_ok e8
    t_NoText := of_decide_eq_true e9
    F_NoText := F_NoText
    B_NoText__init := b_NoText
    p_NoText := p_NoText
    z_NoText := z_NoText
    m_TooLong := He.glo_ok X G (d.fact 22 (f := .glo "TooLong") rfl)
    f_TooLong := He.fAd K ("TooLong", some "__init__")
    d_TooLong := d_TooLong
    X_TooLong := oeB_ok e10
    i_TooLong := He.eqO_ok e11
    t_TooLong := of_decide_eq_true e12
    F_TooLong := F_TooLong
    B_TooLong__init := b_TooLong
    p_TooLong := p_TooLong
    z_TooLong := z_TooLong
    m_BadNet := He.glo_ok X G (d.fact 23 (f := .glo "BadNet") rfl)
    f_BadNet := He.fAd K ("BadNet", some "__init__")
    d_BadNet := d_BadNet
    X_BadNet := oeB_ok e13
    i_BadNet := He.eqO_ok e14
    t_BadNet := of_decide_eq_true e15
    F_BadNet := F_BadNet
    B_BadNet__init := b_BadNet
    p_BadNet := p_BadNet
    z_BadNet := z_BadNet
    m_BadText := He.glo_ok X G (d.fact 24 (f := .glo "BadText") rfl)
    f_BadText := He.fAd K ("BadText", some "__init__")
    d_BadText := d_BadText
    X_BadText := oeB_ok e16
    i_BadText := He.eqO_ok e17
    t_BadText := of_decide_eq_true e18
    F_BadText := F_BadText
    B_BadText__init := b_BadText
    p_BadText := p_BadText
    z_BadText := z_BadText
    m_BadChart := He.glo_ok X G (d.fact 25 (f := .glo "BadChart") rfl)
    f_BadChart := He.fAd K ("BadChart", some "__init__")
    d_BadChart := d_BadChart
    X_BadChart := oeB_ok e19
    i_BadChart := He.eqO_ok e20
    t_BadChart := of_decide_eq_true e21
    F_BadChart := F_BadChart
    B_BadChart__init := b_BadChart
    p_BadChart := p_BadChart
    z_BadChart := z_BadChart
    m_Broken := He.glo_ok X G (d.fact 26 (f := .glo "Broken") rfl)
    f_Broken := He.fAd K ("Broken", some "__init__")
    d_Broken := d_Broken
    X_Broken := oeB_ok e22
    i_Broken := He.eqO_ok e23
    t_Broken := of_decide_eq_true e24
    F_Broken := F_Broken
    B_Broken__init := b_Broken
    p_Broken := p_Broken
    z_Broken := z_Broken
    w_Broken := w_Broken
    x_Broken := x_Broken
    m_BadChange := He.glo_ok X G (d.fact 27 (f := .glo "BadChange") rfl)
    f_BadChange := He.fAd K ("BadChange", some "__init__")
    d_BadChange := d_BadChange
    X_BadChange := oeB_ok e25
    i_BadChange := He.eqO_ok e26
    t_BadChange := of_decide_eq_true e27
    F_BadChange := F_BadChange
    B_BadChange__init := b_BadChange
    p_BadChange := p_BadChange
    z_BadChange := z_BadChange
    m_BadPair := He.glo_ok X G (d.fact 28 (f := .glo "BadPair") rfl)
    f_BadPair := He.fAd K ("BadPair", some "__init__")
    d_BadPair := d_BadPair
    X_BadPair := oeB_ok e28
    i_BadPair := He.eqO_ok e29
    t_BadPair := of_decide_eq_true e30
    F_BadPair := F_BadPair
    B_BadPair__init := b_BadPair
    p_BadPair := p_BadPair
    z_BadPair := z_BadPair
    m_BadDeed := He.glo_ok X G (d.fact 29 (f := .glo "BadDeed") rfl)
    f_BadDeed := He.fAd K ("BadDeed", some "__init__")
    d_BadDeed := d_BadDeed
    X_BadDeed := oeB_ok e31
    i_BadDeed := He.eqO_ok e32
    t_BadDeed := of_decide_eq_true e33
    F_BadDeed := F_BadDeed
    B_BadDeed__init := b_BadDeed
    p_BadDeed := p_BadDeed
    z_BadDeed := z_BadDeed
    m_Twice := He.glo_ok X G (d.fact 30 (f := .glo "Twice") rfl)
    f_Twice := He.fAd K ("Twice", some "__init__")
    d_Twice := d_Twice
    X_Twice := oeB_ok e34
    i_Twice := He.eqO_ok e35
    t_Twice := of_decide_eq_true e36
    F_Twice := F_Twice
    B_Twice__init := b_Twice
    p_Twice := p_Twice
    z_Twice := z_Twice
    m_NoName := He.glo_ok X G (d.fact 31 (f := .glo "NoName") rfl)
    f_NoName := He.fAd K ("NoName", some "__init__")
    d_NoName := d_NoName
    X_NoName := oeB_ok e37
    i_NoName := He.eqO_ok e38
    t_NoName := of_decide_eq_true e39
    F_NoName := F_NoName
    B_NoName__init := b_NoName
    p_NoName := p_NoName
    z_NoName := z_NoName
    m_TooMany := He.glo_ok X G (d.fact 32 (f := .glo "TooMany") rfl)
    f_TooMany := He.fAd K ("TooMany", some "__init__")
    d_TooMany := d_TooMany
    X_TooMany := oeB_ok e40
    i_TooMany := He.eqO_ok e41
    t_TooMany := of_decide_eq_true e42
    F_TooMany := F_TooMany
    B_TooMany__init := b_TooMany
    p_TooMany := p_TooMany
    z_TooMany := z_TooMany
    w_TooMany := w_TooMany
    x_TooMany := x_TooMany
    m_NothingLeft := He.glo_ok X G (d.fact 33 (f := .glo "NothingLeft") rfl)
    f_NothingLeft := He.fAd K ("NothingLeft", some "__init__")
    d_NothingLeft := d_NothingLeft
    X_NothingLeft := oeB_ok e43
    i_NothingLeft := He.eqO_ok e44
    t_NothingLeft := of_decide_eq_true e45
    F_NothingLeft := F_NothingLeft
    B_NothingLeft__init := b_NothingLeft
    p_NothingLeft := p_NothingLeft
    U := fun k hk => uniB_ok (List.all_eq_true.mp e0 k hk)
    a__law_bag := He.ga K "_law_bag"
    d__law_bag := d__law_bag
    F__law_bag := F__law_bag
    m__law_bag := He.glo_ok X G (d.fact 34 (f := .glo "_law_bag") rfl)
    B__law_bag := b__law_bag
    a__law_draw := He.ga K "_law_draw"
    d__law_draw := d__law_draw
    F__law_draw := F__law_draw
    m__law_draw := He.glo_ok X G (d.fact 35 (f := .glo "_law_draw") rfl)
    B__law_draw := b__law_draw
    a__law_of := He.ga K "_law_of"
    d__law_of := d__law_of
    F__law_of := F__law_of
    m__law_of := He.glo_ok X G (d.fact 36 (f := .glo "_law_of") rfl)
    B__law_of := b__law_of
    a__law_like := He.ga K "_law_like"
    d__law_like := d__law_like
    F__law_like := F__law_like
    m__law_like := He.glo_ok X G (d.fact 37 (f := .glo "_law_like") rfl)
    B__law_like := b__law_like
    a__law_any := He.ga K "_law_any"
    d__law_any := d__law_any
    F__law_any := F__law_any
    m__law_any := He.glo_ok X G (d.fact 38 (f := .glo "_law_any") rfl)
    B__law_any := b__law_any
    a__law_one := He.ga K "_law_one"
    d__law_one := d__law_one
    F__law_one := F__law_one
    m__law_one := He.glo_ok X G (d.fact 39 (f := .glo "_law_one") rfl)
    B__law_one := b__law_one
    a__law_made := He.ga K "_law_made"
    d__law_made := d__law_made
    F__law_made := F__law_made
    m__law_made := He.glo_ok X G (d.fact 40 (f := .glo "_law_made") rfl)
    B__law_made := b__law_made
    a__law_held := He.ga K "_law_held"
    d__law_held := d__law_held
    F__law_held := F__law_held
    m__law_held := He.glo_ok X G (d.fact 41 (f := .glo "_law_held") rfl)
    B__law_held := b__law_held
    a__law_kinds := He.ga K "_law_kinds"
    d__law_kinds := d__law_kinds
    F__law_kinds := F__law_kinds
    m__law_kinds := He.glo_ok X G (d.fact 42 (f := .glo "_law_kinds") rfl)
    B__law_kinds := b__law_kinds
    a__law_raise := He.ga K "_law_raise"
    d__law_raise := d__law_raise
    F__law_raise := F__law_raise
    m__law_raise := He.glo_ok X G (d.fact 43 (f := .glo "_law_raise") rfl)
    B__law_raise := b__law_raise
    a__law_above := He.ga K "_law_above"
    d__law_above := d__law_above
    F__law_above := F__law_above
    m__law_above := He.glo_ok X G (d.fact 44 (f := .glo "_law_above") rfl)
    B__law_above := b__law_above
    a__law_due := He.ga K "_law_due"
    d__law_due := d__law_due
    F__law_due := F__law_due
    m__law_due := He.glo_ok X G (d.fact 45 (f := .glo "_law_due") rfl)
    B__law_due := b__law_due
    a__law_caught := He.ga K "_law_caught"
    d__law_caught := d__law_caught
    F__law_caught := F__law_caught
    m__law_caught := He.glo_ok X G (d.fact 46 (f := .glo "_law_caught") rfl)
    B__law_caught := b__law_caught
    a__law_thing := He.ga K "_law_thing"
    d__law_thing := d__law_thing
    F__law_thing := F__law_thing
    m__law_thing := He.glo_ok X G (d.fact 47 (f := .glo "_law_thing") rfl)
    B__law_thing := b__law_thing
    a__law_so := He.ga K "_law_so"
    d__law_so := d__law_so
    F__law_so := F__law_so
    m__law_so := He.glo_ok X G (d.fact 48 (f := .glo "_law_so") rfl)
    B__law_so := b__law_so
    a_law := He.ga K "law"
    d_law := d_law
    F_law := F_law
    m_law := He.glo_ok X G (d.fact 49 (f := .glo "law") rfl)
    B_law := b_law
  }
  have ef : f = He.ga K "law" := by
    have e := hfa.symm.trans T.m_law
    cases e
    rfl
  refine ⟨d_law, [], sp_law K, fun p hp => absurd hp (by simp), fun p hp => absurd hp (by simp), fun p hp => absurd hp (by simp), fun s u => FunD.bindsA (ps := ["script"]) FD_law (fun _ _ _ _ _ _ us hl => match us, hl with | [_], _ => rfl) s [u] rfl, fun H a ns hl _ hT hS => ⟨a, ns, rfl, hS, hl, fun _ => rfl⟩, fun base _ _ hB => ?_⟩
  rw [ef]
  exact ok_law (P := P) (base := base) T
/-! ### the head's run -/
abbrev R : PySem.W.OpenRow := PySem.W.OpenLaw.row PySem.Challenge.rw_lookingnets_k00_errors_told
abbrev hk : PySem.W.Hook := He.hookX 6 faL fnL [] [] exB
def ob (s : PySem.W.SharedT) : He.AlX := He.obsX 6 faL fnL [] [] exB (HandSHeadRun.getT s)
theorem ob_eq (s : PySem.W.SharedT) : ob s = hk.obs s.abs := He.obsX_eq (HandSHeadRun.getT_eq s)
def loose : List Str := (["NetError", "Missing", "Full", "BadValue", "BadLine", "NoText", "TooLong", "BadNet", "BadText", "BadChart", "Broken", "BadChange", "BadPair", "BadDeed", "Twice", "NoName"] : List Str) ++ (["TooMany", "NothingLeft", "_law_bag", "_law_draw", "_law_of", "_law_like", "_law_any", "_law_one", "_law_made", "_law_held", "_law_kinds", "_law_raise", "_law_above", "_law_due", "_law_caught", "_law_thing"] : List Str) ++ (["_law_so"] : List Str)
set_option maxHeartbeats 0 in
theorem run (w : World) : HandSHeadRun.RunEqI R (PySem.W.view R.prog [35]) hk ob 20000 loose w := by
  unfold HandSHeadRun.RunEqI
  kernel_rfl
end LK

open PySem PySem.W PySem.Calls PyProof.Rows
set_option maxRecDepth 100000 in
set_option maxHeartbeats 0 in
theorem PySem.Challenge.cw_lookingnets_k00_errors_told_holds : PySem.Challenge.rw_lookingnets_k00_errors_told.Holds := by
  w_on; o_law
  refine HandSHeadRun.head_imp (r := OpenLaw.row PySem.Challenge.rw_lookingnets_k00_errors_told) (q := view (OpenLaw.row PySem.Challenge.rw_lookingnets_k00_errors_told).prog [35]) (H := LK.hk) (ob := LK.ob) (M := 20000) (loose := LK.loose) (d := HandSHeadRun.topDef (OpenLaw.row PySem.Challenge.rw_lookingnets_k00_errors_told).prog 35) (kwd := []) LK.ob_eq
    LK.run (by kernel_rfl) (by kernel_rfl) (by kernel_rfl) (by rfl) (by first | assumption | decide +kernel) (by decide +kernel) ⟨rfl, rfl, rfl, rfl, rfl, by decide +kernel⟩ ?hw ?hc
  case hw => w_witness2
  case hc =>
    refine LamX.walk_ofTsE (l := PySem.Challenge.rw_lookingnets_k00_errors_told) (n := 63) (k := 10) (x := "script") (CX := fun _ => L2.CX0) rfl (by decide) (by kernel_rfl) ⟨rfl, by decide, by decide⟩ ?F (fun _ _ _ _ _ z => z)
    intro w mg fa h Y G hmg0
    obtain ⟨K, KX, c⟩ := Y
    have hmg : mg ("law" : PySem.Str) = some (.ref fa) := by
      have e : (HandSHeadRun.topDef (OpenLaw.row PySem.Challenge.rw_lookingnets_k00_errors_told).prog 35).name = ("law" : PySem.Str) := by kernel_rfl
      rw [← e]
      exact hmg0
    exact ⟨K, KX, LK.facts KX G hmg c⟩
