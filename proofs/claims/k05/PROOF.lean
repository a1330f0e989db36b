import PyProof.Rows.All
import Wide.All
import OpenK.AllK
import Wide.FinOn
import HandS.ForMost
import HandS.IsInst
import HandS.Zip
import HandS.TupAny
import HandS.Style
import HandS.More
import HandS.Defaults
import HandS.Walk
import KE.GoesMore
import HandS.Deep
import HandS.Conv
import HandS.Rev
import HandS.DictComp
import HandS.ListItems
import HandS.StrMore
import HandS.TupLe
import HandS.Dict
import HandS.Replace
import HandS.ReplaceLit
import HandS.ExcInit
import HandS.Gcd
import HandS.Wide
import HandS.WordsExc
import HandS.Lambda
import HandS.ExcField
import HandS.FStr
import HandS.Text
import HandS.StrSplit
import HandS.TupMul
import KE.KExcIs
import HandS.HeadHook4
import HandS.HeadWalk
import HandS.Head2
import HandS.Head3
import PySem.Challenge.RW_lookingnets_k05_whole_lines_there_and_ba
set_option Elab.async false
set_option linter.all false
set_option maxRecDepth 100000
namespace LK
open PySem PySem.Spec PyProof.Rows L2
/-! ### heaps but for one object -/
def hb (H : Hp) (b : Addr) : Hp := fun a => if a = b then none else H a
theorem hb_ne {H : Hp} {a b : Addr} (h : a ≠ b) : hb H b a = H a := if_neg h
theorem hb_same {H : Hp} {b : Addr} : hb H b b = none := if_pos rfl
theorem hb_some {H : Hp} {a b : Addr} {o : HO} (h : hb H b a = some o) : a ≠ b ∧ H a = some o := by
  unfold hb at h
  split at h
  · cases h
  · exact ⟨by assumption, h⟩
theorem hb_le (H : Hp) (b : Addr) : Same (hb H b) H := fun _ _ h => (hb_some h).2
/-- all but b stays -/
abbrev Kp (b : Addr) (H H' : Hp) : Prop := Same (hb H b) (hb H' b)
theorem Kp.of {b : Addr} {H H' : Hp} (s : Same H H') : Kp b H H' := fun a o h => by
  obtain ⟨h1, h2⟩ := hb_some h
  rw [hb_ne h1]
  exact s _ _ h2
theorem Kp.refl (b : Addr) (H : Hp) : Kp b H H := Same.refl _
theorem Kp.upd {b : Addr} {H : Hp} {o : HO} : Kp b H (upd H b o) := fun a u h => by
  obtain ⟨h1, h2⟩ := hb_some h
  rw [hb_ne h1, upd_ne h1]
  exact h2
theorem Kp.hd {b a : Addr} {H H' : Hp} {o : HO} (k : Kp b H H') (h : H a = some o) (n : a ≠ b) : H' a = some o := (hb_some (k a o (by rw [hb_ne n]; exact h))).2
/-- a new object -/
theorem al {H : Hp} {R : Addr → Hp → Prop} {o : HO} (h : ∀ p H1, Same H H1 → H1 p = some o → H p = none → R p H1) : ∀ p, H p = none → R p (upd H p o) := fun p hp =>
  h p _ (fun a u e => by rw [upd_ne (ne_of_none e hp)]; exact e) upd_same hp
theorem same_upd {H : Hp} {p : Addr} {o : HO} (hp : H p = none) : Same H (upd H p o) := fun a u e => by rw [upd_ne (ne_of_none e hp)]; exact e
theorem at_ofN {α : Type} {xs : List α} {z : Int} {j : Nat} {v : α} (e : z = (j : Int)) (h : xs[j]? = some v) : atI xs z = some v := by
  subst e
  exact atI_nat h
/-! ### the bag of a law -/
def Bag (H : Hp) (b c : Addr) : Prop := ∃ (cells : List Int) (i g m n : Int), H b = some (.lst [.ref c, .int i, .int g, .int m, .int n]) ∧ H c = some (.lst (cells.map V.int)) ∧ c ≠ b ∧ 0 ≤ i ∧ 0 ≤ m ∧ m < 2147483579
theorem Bag.same {H H' : Hp} {b c : Addr} (B : Bag H b c) (s : Same H H') : Bag H' b c := by
  obtain ⟨cells, i, g, m, n, h1, h2, h3⟩ := B
  exact ⟨cells, i, g, m, n, s _ _ h1, s _ _ h2, h3⟩
theorem Bag.at {H : Hp} {b c : Addr} (B : Bag H b c) : ∃ xs, H b = some (.lst xs) := by
  obtain ⟨cells, i, g, m, n, h1, _⟩ := B
  exact ⟨_, h1⟩
theorem Bag.at2 {H : Hp} {b c : Addr} (B : Bag H b c) : ∃ xs, H c = some (.lst xs) := by
  obtain ⟨cells, i, g, m, n, h1, h2, _⟩ := B
  exact ⟨_, h2⟩
/-- another object is stored -/
theorem Bag.upd {H : Hp} {b c p : Addr} {o : HO} (B : Bag H b c) (n1 : b ≠ p) (n2 : c ≠ p) : Bag (upd H p o) b c := by
  obtain ⟨cells, i, g, m, n, h1, h2, h3⟩ := B
  exact ⟨cells, i, g, m, n, by rw [upd_ne n1]; exact h1, by rw [upd_ne n2]; exact h2, h3⟩
/-- a new object beside a bag -/
theorem alB {H : Hp} {R : Addr → Hp → Prop} {o : HO} {b c : Addr} (B : Bag H b c) (h : ∀ p H1, Kp b H H1 → Bag H1 b c → hb H1 b p = some o → Same H H1 → H p = none → R p H1) : ∀ p, H p = none → R p (upd H p o) :=
  al fun p H1 s h1 h0 => h p H1 (Kp.of s) (B.same s) (by
    have n : p ≠ b := fun e => by
      obtain ⟨xs, q⟩ := B.at
      rw [e, q] at h0; cases h0
    rw [hb_ne n]; exact h1) s h0
/-! ### data -/
theorem Same.seqT {K : PySem.W.Frag} {H H' : Hp} {a : Addr} {xs : List V} (e : Same H H') (h : SqT K H a xs) : SqT K H' a xs := by
  rcases h with (h | ⟨o, h⟩) | h
  · exact .inl (.inl (e _ _ h))
  · exact .inl (.inr ⟨o, e _ _ h⟩)
  · exact .inr h
mutual
theorem dp_same {K : PySem.W.Frag} {H H' : Hp} (e : Same H H') : ∀ {d : PyData} {v : V}, Dp K H v d → Dp K H' v d
  | .none, _, h => by cases h; exact .non
  | .bool _, _, h => by cases h; exact .bl _
  | .int _, _, h => by cases h; exact .int _
  | .str _, _, h => by cases h; exact .str _
  | .list ds, _, h => by cases h with | lst a b => exact .lst (L2.Same.seq e a) (dpa_same e b)
  | .tuple ds, _, h => by cases h with | tup a b => exact .tup (Same.seqT e a) (dpa_same e b)
  | .dict _, _, h => by cases h
theorem dpa_same {K : PySem.W.Frag} {H H' : Hp} (e : Same H H') : ∀ {ds : List PyData} {vs : List V}, DpAll K H vs ds → DpAll K H' vs ds
  | [], _, h => by cases h; exact .nil
  | _ :: _, _, h => by cases h with | cons a b => exact .cons (dp_same e a) (dpa_same e b)
end
end LK
namespace LK
open PySem PySem.Spec PyProof.Rows L2
section
variable {CX : CXT} {P : Program} {w : World} {K : PySem.W.Frag} {mg : Str → Option Value} {base : Heap} {N : List Str} {q : Str} {sc : Scope} {f : Addr} {cd : Value} {A : Around} {outer : List Env} {s : Shared} {H : Hp} {E : XK}
theorem cxK : (cxOf CX P w K mg base N q sc f cd A outer s H E).K = K := rfl
theorem cxNK : (cxOf CX P w K mg base N q sc f cd A outer s H E).nox.K = K := rfl
theorem cxW : (cxOf CX P w K mg base N q sc f cd A outer s H E).w = w := rfl
end
theorem cut_seq {t u : TS} {D : Ends} {σ : L2.St} {H : Hp} (Mid : L2.St → Hp → Prop) (h1 : ∀ N : L2.St → Hp → Prop, (∀ σ' H', Mid σ' H' → N σ' H') → t { D with nx := N } σ H) (h2 : ∀ σ' H', Mid σ' H' → u D σ' H') : tSeq t u D σ H := h1 _ h2
end LK
namespace LK
open PySem PySem.Spec PyProof.Rows L2
theorem seq_op {t u : TS} {D : Ends} {σ : L2.St} {H : Hp} (h : ∀ N : L2.St → Hp → Prop, (∀ σ' H', u D σ' H' → N σ' H') → t { D with nx := N } σ H) : tSeq t u D σ H := h _ fun _ _ z => z
end LK
namespace LK
open PySem PySem.Spec PyProof.Rows L2
section
variable {X : Cx}
theorem opr_imp {f : Value → Value → Sem Value} {r r' : R2} (h : OpR X f r) (i : ∀ x y H Q, r' x y H Q → r x y H Q) : OpR X f r' := fun pins s σ H x y v u Q I rx ry q => h pins s σ H x y v u Q I rx ry (i _ _ _ _ q)
theorem cr_imp {f : Value} {r r' : List V → Hp → VK → Prop} (h : CallR X f r) (i : ∀ x H Q, r' x H Q → r x H Q) : CallR X f r' := fun pins s σ H xs us Q I rx q => h pins s σ H xs us Q I rx (i _ _ _ q)
theorem op_eqI : OpR X (compareOp .Eq) (rI0 fun i j => .bl (decide (i = j))) := opr_imp op_eq fun x y H Q h => by
  obtain ⟨i, j, rfl, rfl, q⟩ := h
  refine ⟨rfl, ?_⟩
  rw [L2.dec_int, Bool.beq_eq_decide_eq]; exact q
theorem op_neI : OpR X (compareOp .NotEq) (rI0 fun i j => .bl (!decide (i = j))) := opr_imp op_ne fun x y H Q h => by
  obtain ⟨i, j, rfl, rfl, q⟩ := h
  refine ⟨rfl, ?_⟩
  rw [L2.dec_int, Bool.beq_eq_decide_eq]; exact q
def rS0 (g : Str → Str → V) : R2 := fun x y H Q => ∃ i j, x = .str i ∧ y = .str j ∧ Q (g i j) H
theorem op_eqS : OpR X (compareOp .Eq) (rS0 fun i j => .bl (decide (i = j))) := opr_imp op_eq fun x y H Q h => by
  obtain ⟨i, j, rfl, rfl, q⟩ := h
  refine ⟨rfl, ?_⟩
  have e : decide (V.str i = V.str j) = decide (i = j) := by
    by_cases c : i = j
    · subst c; simp
    · rw [decide_eq_false c, decide_eq_false (fun z => c (V.str.inj z))]
  rw [e]; exact q
theorem op_neS : OpR X (compareOp .NotEq) (rS0 fun i j => .bl (!decide (i = j))) := opr_imp op_ne fun x y H Q h => by
  obtain ⟨i, j, rfl, rfl, q⟩ := h
  refine ⟨rfl, ?_⟩
  have e : decide (V.str i = V.str j) = decide (i = j) := by
    by_cases c : i = j
    · subst c; simp
    · rw [decide_eq_false c, decide_eq_false (fun z => c (V.str.inj z))]
  rw [e]; exact q
def rB0 (g : Bool → Bool → V) : R2 := fun x y H Q => ∃ i j, x = .bl i ∧ y = .bl j ∧ Q (g i j) H
theorem op_eqB : OpR X (compareOp .Eq) (rB0 fun i j => .bl (i == j)) := opr_imp op_eq fun x y H Q h => by
  obtain ⟨i, j, rfl, rfl, q⟩ := h
  refine ⟨rfl, ?_⟩
  rw [L2.dec_bl]; exact q
theorem op_neB : OpR X (compareOp .NotEq) (rB0 fun i j => .bl (!(i == j))) := opr_imp op_ne fun x y H Q h => by
  obtain ⟨i, j, rfl, rfl, q⟩ := h
  refine ⟨rfl, ?_⟩
  rw [L2.dec_bl]; exact q
/-- int(n) of an int -/
theorem call_intI : CallR X (.type "int") (fun xs H Q => ∃ i, xs = [.int i] ∧ Q (.int i) H) := cr_imp call_int1 fun xs H Q h => .inl h
end
end LK
namespace LK
open PySem PySem.Spec PyProof.Rows L2
/-! ### isinstance of data -/
def tyN : PyData → String
  | .none => "NoneType" | .bool _ => "bool" | .int _ => "int" | .str _ => "str" | .list _ => "list" | .tuple _ => "tuple" | .dict _ => "dict"
def isTy (T : String) : PyData → Bool
  | .none => false | .bool _ => T == "bool" || T == "int" | .int _ => T == "int" | .str _ => T == "str" | .list _ => T == "list" | .tuple _ => T == "tuple" | .dict _ => false
theorem dp_ty {K : PySem.W.Frag} {H : Hp} {v : V} {d : PyData} (h : Dp K H v d) : TyX K H v (.type (tyN d)) := by
  cases h with
  | non => exact .base .non
  | bl b => exact .base (.bl b)
  | int i => exact .base (.int i)
  | str x => exact .base (.str x)
  | lst hs _ =>
    rcases hs with (h | ⟨o, h⟩) | ⟨o, its, n, h1, h2, _⟩
    · exact .base (.lst h)
    · exact .base (.frz h)
    · exact .kList h1 h2
  | tup hs _ =>
    rcases hs with (h | ⟨o, h⟩) | ⟨o, its, n, h1, h2, _⟩
    · exact .base (.tup h)
    · exact .fTuple h
    · exact .kTuple h1 h2
theorem dp_kit {K : PySem.W.Frag} {H : Hp} {v : V} {d : PyData} (h : Dp K H v d) {T : String} (hT : T ∈ ["str", "int", "bool", "list", "tuple"]) : PySem.W.kitOne K (.type (tyN d)) (.type T) = some (isTy T d) := by
  refine kit_ty ?_
  simp only [List.mem_cons, List.mem_nil_iff, or_false] at hT
  cases h <;> rcases hT with rfl | rfl | rfl | rfl | rfl <;> (simp only [tyN, isTy]; decide +kernel)
section
variable {X : Cx}
theorem call_isiD : CallR X (.builtin "isinstance") (fun xs H Q => ∃ x T d, xs = [x, .ty T] ∧ Dp X.K H x d ∧ T ∈ ["str", "int", "bool", "list", "tuple"] ∧ Q (.bl (isTy T d)) H) := cr_imp call_isi fun xs H Q h => by
  obtain ⟨x, T, d, rfl, hd, hT, q⟩ := h
  exact ⟨x, .ty T, _, _, _, rfl, .ty T, dp_ty hd, dp_kit hd hT, q⟩
theorem call_isiDT : CallR X (.builtin "isinstance") (fun xs H Q => ∃ x tp d, xs = [x, .ref tp] ∧ H tp = some (.tup [.ty "list", .ty "tuple"]) ∧ Dp X.K H x d ∧ Q (.bl (isTy "list" d || isTy "tuple" d)) H) := cr_imp call_isiT fun xs H Q h => by
  obtain ⟨x, tp, d, rfl, ht, hd, q⟩ := h
  refine ⟨x, tp, _, .type (tyN d), [.type "list", .type "tuple"], _, rfl, ht, .cons (.ty _) (.cons (.ty _) .nil), dp_ty hd, ?_, q⟩
  have h1 := dp_kit hd (T := "list") (by simp)
  have h2 := dp_kit hd (T := "tuple") (by simp)
  unfold PySem.W.kitAny PySem.W.kitAny PySem.W.kitAny
  rw [h1, h2]
  cases isTy "list" d <;> cases isTy "tuple" d <;> rfl
/-- len of data -/
theorem call_lenD : CallR X (.builtin "len") (fun xs H Q => ∃ x d, xs = [x] ∧ Dp X.K H x d ∧ ((∃ ds, (d = .list ds ∨ d = .tuple ds) ∧ Q (.int ds.length) H) ∨ ∃ z, d = .str z ∧ z.length ≤ sizeLine ∧ Q (.int z.length) H)) := cr_imp call_len fun xs H Q h => by
  obtain ⟨x, d, rfl, hd, ⟨ds, e, q⟩ | ⟨z, rfl, hz, q⟩⟩ := h
  · have ln : ∀ {vs : List V} {es : List PyData}, DpAll X.K H vs es → vs.length = es.length := by
      intro vs es h
      induction es generalizing vs with
      | nil => cases h; rfl
      | cons a r ih => cases h with | cons _ h2 => simp [ih h2]
    rcases e with rfl | rfl
    · cases hd with
      | lst hs ha => exact ⟨_, ds.length, rfl, .inl ⟨_, hs, (ln ha).symm⟩, q⟩
    · cases hd with
      | tup hs ha => exact ⟨_, ds.length, rfl, .inr ⟨_, hs, (ln ha).symm⟩, q⟩
  · cases hd
    exact ⟨_, z.length, rfl, ⟨hz, rfl⟩, q⟩
/-- t[lo:hi] of a tuple: some tuple of that content -/
def rSlU (K : PySem.W.Frag) : V → Option Int → Option Int → Hp → VK → Prop := fun x lo hi H Q => ∃ a xs, x = .ref a ∧ SqT K H a xs ∧ ∀ q H', Same H H' → SqT K H' q (cutV xs lo hi) → Q (.ref q) H'
theorem sl_tupU : SlR X (rSlU X.K) := by
  intro pins s σ H x v vl vu lo hi sl Q I rx hs pl pu h
  obtain ⟨a, xs, rfl, hx, q⟩ := h
  refine sl_tupA pins s σ H _ v vl vu lo hi sl Q I rx hs pl pu ⟨a, xs, rfl, hx, fun hw => q a H (Same.refl H) ?_, fun hw p hp => q p _ (fun b o e => ?_) (.inl (.inl upd_same))⟩
  · have e : cutV xs lo hi = xs := by
      unfold cutV
      rw [hw.1, hw.2]
      simp
    rw [e]; exact hx
  · rw [upd_ne (ne_of_none e hp)]; exact e
def rCatU (K : PySem.W.Frag) : R2 := fun x y H Q => ∃ a b xs ys, x = .ref a ∧ y = .ref b ∧ SqT K H a xs ∧ SqT K H b ys ∧ xs.length + ys.length ≤ sizeLine ∧ ∀ q H', Same H H' → SqT K H' q (xs ++ ys) → Q (.ref q) H'
theorem op_catU : OpR X (binaryOp .Add) (rCatU X.K) := opr_imp op_catA fun x y H Q h => by
  obtain ⟨a, b, xs, ys, rfl, rfl, ha, hb, hz, q⟩ := h
  refine ⟨a, b, xs, ys, rfl, rfl, ha, hb, hz, fun e => q b H (Same.refl H) ?_, fun _ e => q a H (Same.refl H) ?_, fun _ _ p hp => q p _ (fun c o e => ?_) (.inl (.inl upd_same))⟩
  · subst e; exact hb
  · subst e; rw [List.append_nil]; exact ha
  · rw [upd_ne (ne_of_none e hp)]; exact e
/-- tuple(x) of a list or tuple -/
theorem call_tupleU : CallR X (.type "tuple") (fun xs H Q => ∃ p ys, xs = [.ref p] ∧ (SqL X.K H p ys ∨ SqT X.K H p ys) ∧ ∀ q H', Same H H' → SqT X.K H' q ys → Q (.ref q) H') := cr_imp call_tuple_of fun xs H Q h => by
  obtain ⟨p, ys, rfl, h, q⟩ := h
  refine ⟨p, ys, rfl, ?_⟩
  rcases h with h | h
  · exact .inl ⟨h, fun l hl => q l _ (fun c o e => by rw [upd_ne (ne_of_none e hl)]; exact e) (.inl (.inl upd_same))⟩
  · exact .inr ⟨h, q p H (Same.refl H) h⟩
end
/-! ### calls by keywords alone -/
def tCallZ (m : Nat) (sp : Sp) (gV : List V → List V) (E : XK) (tk : TA) : TE := fun σ H Q => tk σ H fun zs H2 => zs.length = m ∧ sp (gV zs) H2 Q E
section
variable {X : Cx} {CX : CXT} {k : Nat} {f : Addr} {fd : FuncData} {ps ks : List Str} {sp : Sp} {E : XK} {x : Str} {p pos : Pos} {kws : List Keyword} {tk : TA} {g : List Value → List Value} {gV : List V → List V}
/-- f(k = v, ..) -/
theorem pe_callZ (F : FnOk X.prog X.w X.K X.mg X.base CX k f fd ps sp) (hr : Room k X.A) (hg : Gl X x) (hm : X.mg x = some (.ref f)) (hk : PySem.W.keepIn X.K (.ref f) = true) (hb : KBn X.K fd ps 0 ks (fun _ ws => g ws) (fun _ zs => gV zs)) (hx : Passes CX X E)
    (hkw : PK X kws tk) (hall : (backToKw pos (keywordEach kws X.env)).all (·.1.isSome) = true := by rfl) (hks : (backToKw pos (keywordEach kws X.env)).filterMap (·.1) = ks := by rfl)
    (hdb : (x == ("__debug__" : Str)) = false := by decide)
    (hpl : ((backTo pos (starEach [] X.env)).any (·.1) || (backToKw pos (keywordEach kws X.env)).any (·.1.isNone)) = false := by rfl) :
    PE X (.Call (.Name x p) [] kws pos) (tCallZ ks.length sp gV E tk) := by
  refine ⟨fun pins s σ H Q I h => ?_⟩
  refine wpAny_Call_Name_kw (ld_glob I hg hm ?_ hdb)
  refine PySem.W.callWith_KW0 (h₀ := X.base) I.ok.mod.kin hk hall (thn (hkw.run pos pins s σ H _ I h) fun ws s2 ⟨zs, H2, I2, rz, l2, q2⟩ => ⟨I2.kIn, ?_⟩) hpl
  rw [hks]
  exact run_fnN F hr hb hx I2 .nil rz rfl l2 q2
end
theorem kb_of {K : PySem.W.Frag} {x qual : Str} {st : Stmt} {f : Addr} {fd : FuncData} {ps : List Str} (F : Fun K x qual st f fd) {n : Nat} {ks : List Str} (g : {α : Type} → List α → List α → List α)
    (hrel : ∀ {vs zs : List V} {us ws : List Value}, Vals vs us → Vals zs ws → Vals (g vs zs) (g us ws))
    (h : ∀ (kV doc pm : Value) (an : Option Addr) (cdv ct : Value) (us ws : List Value), us.length = n → ws.length = ks.length → bindArgs (PySem.W.fnOf x qual (defArgs st) (defBody st) (defScope st) .none kV doc pm an cdv ct) ⟨us, ks.zip ws⟩ = pure (ps.zip (g us ws))) : KBn K fd ps n ks (fun us ws => g us ws) (fun vs zs => g vs zs) := by
  obtain ⟨oc, od, kV, doc, pm, an, cdv, ct, osl, rfl, lk, hcd⟩ := F.ex
  exact ⟨fun s us ws _ l1 l2 => .of_eq (h kV doc pm an cdv ct us ws l1 l2), hrel⟩
end LK

namespace LK
open PySem PySem.Spec PyProof.Rows L2
/-! ### t[::-1] of a tuple -/
theorem fm_map {α β : Type} {f : α → Option β} {g : α → β} : ∀ {l : List α}, (∀ m ∈ l, f m = some (g m)) → l.filterMap f = l.map g
  | [], _ => rfl
  | a :: l, h => by
    rw [List.filterMap_cons, h a List.mem_cons_self]
    exact congrArg (g a :: ·) (fm_map fun m hm => h m (List.mem_cons_of_mem _ hm))
theorem rev_pick (xs : Array Value) : ((List.range xs.size).filterMap fun (m : Nat) => xs[(((xs.size : Int) - 1) + (m : Int) * (-1)).toNat]?).toArray = xs.toList.reverse.toArray := by
  have e : ((List.range xs.size).filterMap fun (m : Nat) => xs[(((xs.size : Int) - 1) + (m : Int) * (-1)).toNat]?) = xs.toList.reverse := by
    have h : ∀ m ∈ List.range xs.size, (xs[(((xs.size : Int) - 1) + (m : Int) * (-1)).toNat]?) = some (xs.toList.reverse.getD m .none) := by
      intro m hm
      have hm := List.mem_range.mp hm
      have e1 : (((xs.size : Int) - 1) + (m : Int) * (-1)).toNat = xs.size - 1 - m := by omega
      rw [e1, List.getD_eq_getElem?_getD, List.getElem?_reverse (by simpa using hm)]
      rw [Array.getElem?_eq_getElem (by omega), Array.length_toList, List.getElem?_eq_getElem (by rw [Array.length_toList]; omega)]
      rfl
    rw [fm_map h]
    refine List.ext_getElem? fun i => ?_
    rw [List.getElem?_map]
    by_cases hi : i < xs.size
    · rw [List.getElem?_range hi, List.getElem?_eq_getElem (by simpa using hi)]
      simp [List.getElem?_eq_getElem, hi]
    · rw [List.getElem?_eq_none (by simpa using hi), List.getElem?_eq_none (by simpa using hi)]
      rfl
  rw [e]
section
variable {prog : Program} {w : World} {A : Around} {E : Value → Shared → Prop} {s : Shared}
theorem sliceApplied_rev {sl : Addr} {vl vu vs : Value} {n : Nat} {Q : Int × Int × Nat → Shared → Prop} (hs : s.heap.IsSliceOf sl vl vu vs) (pl : IsPart vl none) (pu : IsPart vu none) (ps : IsPart vs (some (-1)))
    (h : Q ((n : Int) - 1, -1, n) s) : wpAny (model prog w) A (Builtin.Slice.sliceApplied (.ref sl) (pure (n : Int))) Q E s := by
  obtain ⟨os, hos, hcs, hds⟩ := id hs
  unfold Builtin.Slice.sliceApplied Builtin.Slice.sliceFields
  refine wpAny_bind (wpAny_bind (wpAny_field hos hds (x := vl) rfl (wpAny_bind (wpAny_field hos hds (x := vu) rfl (wpAny_bind (wpAny_field hos hds (x := vs) rfl (wpAny_pure ?_)))))))
  refine wpAny_bind (HT.slicePart_ ps ?_)
  show wpAny _ _ (if ((-1 : Int) == 0) = true then _ else _) _ _ s
  rw [if_neg (by decide)]
  refine wpAny_bind (HT.slicePart_ pl (wpAny_bind (HT.slicePart_ pu (wpAny_bind (wpAny_pure ?_)))))
  show wpAny _ _ (match Builtin.Slice.sliceAdjust none none (-1) (n : Int) with | (lo, hi) => pure (lo, (-1 : Int), Builtin.Slice.slicePlaces lo hi (-1))) _ _ s
  have e1 : Builtin.Slice.sliceAdjust none none (-1) (n : Int) = ((n : Int) - 1, -1) := rfl
  rw [e1]
  show wpAny _ _ (pure ((n : Int) - 1, (-1 : Int), Builtin.Slice.slicePlaces ((n : Int) - 1) (-1) (-1))) _ _ s
  have e2 : Builtin.Slice.slicePlaces ((n : Int) - 1) (-1) (-1) = n := by
    unfold Builtin.Slice.slicePlaces
    rw [if_neg (by decide)]
    by_cases c : n = 0
    · subst c; rfl
    · rw [if_pos (by omega)]
      show (((n : Int) - 1 - -1 - 1) / 1 + 1).toNat = n
      rw [Int.ediv_one]; omega
  rw [e2]
  exact wpAny_pure h
theorem getItem_tuple_rev {t sl : Addr} {items : Array Value} {vl vu vs : Value} {Q : Value → Shared → Prop} (ht : IsTup s.heap t items) (hs : s.heap.IsSliceOf sl vl vu vs) (pl : IsPart vl none) (pu : IsPart vu none) (ps : IsPart vs (some (-1)))
    (h : Q (.ref s.heap.objs.size) { s with heap := s.heap.push { cls := .type "tuple", data := .seq items.toList.reverse.toArray } })
    (hsz : items.size ≤ sizeLine) : wpAny (model prog w) A (getItem (.ref t) (.ref sl)) Q E s := by
  have htake : sizeOk (.seq items.toList.reverse.toArray) := by
    show items.toList.reverse.toArray.size ≤ sizeLine
    simpa using hsz
  obtain ⟨os, hos, hcs, hds⟩ := id hs
  have hTs : s.TypeIs (.ref sl) "slice" := ⟨os, hos, hcs⟩
  unfold getItem
  try with_reducible refine wpAny_holding ?_
  first | refine wpAny_bind (wpAny_pure ?_) | skip
  refine wpAny_bind (wpAny_sequenceKey ht.typeIs (by decide) ?_)
  refine wpAny_bind (wpAny_callSpecial?_slot (name := Str.ofString "__getitem__") ht.typeIs PyProof.Rows.slot_tuple_getitem
    (wpAny_call_entry PyProof.Rows.slot_tuple_getitem ht.typeIs PyProof.Rows.entry_tuple_getitem ?_ (PyProof.Rows.args_tuple_getitem _ _)))
  show wpAny _ _ (Builtin.Tuple.tupleItemsOf (.ref t) >>= _) _ _ s
  refine wpAny_bind (PyProof.Rows.tupleItemsOf_ ht ?_)
  refine wpAny_bind (wpAny_typeOf hTs ?_)
  rw [if_pos (by decide)]
  refine wpAny_bind (sliceApplied_rev hs pl pu ps ?_)
  have hno : ¬ ((((items.size : Int) - 1) == 0 && (-1 : Int) == 1 && items.size == items.size) = true) := by
    intro q
    rw [Bool.and_eq_true, Bool.and_eq_true] at q
    exact absurd (eq_of_beq q.1.2) (by decide)
  show wpAny _ _ (if (((items.size : Int) - 1) == 0 && (-1 : Int) == 1 && items.size == items.size) = true then _ else _) _ _ s
  rw [if_neg hno, rev_pick]
  first
    | exact wpAny_bind (m := Builtin.Tuple.tupleExact _) (wpAny_newObj_type (wpAny_pure ⟨_, rfl, wpAny_pure h⟩) htake)
    | exact wpAny_bind (m := Builtin.Tuple.tupleExact _) (wpAny_newObj_type (wpAny_bind (wpAny_pure (wpAny_pure ⟨_, rfl, wpAny_pure h⟩))) htake)
    | exact wpAny_bind (wpAny_bind (m := Builtin.Tuple.tupleExact _) (wpAny_newObj_type (wpAny_pure (wpAny_pure ⟨_, rfl, wpAny_pure h⟩)) htake))
    | exact wpAny_bind (wpAny_bind (m := Builtin.Tuple.tupleExact _) (wpAny_newObj_type (wpAny_pure ⟨_, rfl, wpAny_pure h⟩) htake))
end
section
variable {X : Cx}
def tRevT (K : PySem.W.Frag) (te : TE) : TE := fun σ H Q => te σ H fun x H1 => ∃ a xs, x = .ref a ∧ SqT K H1 a xs ∧ ∀ p H2, Same H1 H2 → H1 p = none → H2 p = some (.tup xs.reverse) → Q (.ref p) H2
theorem pe_revT {e : Expr} {te : TE} {k : Nat} {p1 p2 p3 pos : Pos} (he : PE X e te) : PE X (.Subscript e (.Slice none none (some (.UnaryOp .USub (.Constant (.int 1) k p1) p2)) p3) pos) (tRevT X.K te) := by
  refine ⟨fun pins s σ H Q I h => ?_⟩
  refine Subscript_ (thn (he.run pins s σ H _ I h) fun v s1 ⟨x, H1, I1, r1, q1⟩ => ?_)
  obtain ⟨a, xs, ex, hx, q⟩ := q1
  subst ex
  cases r1
  have hst : PO X (some (.UnaryOp .USub (.Constant (.int 1) k p1) p2)) (tPart (tUn (rU fun i => .int (-i)) (tC (.int 1)))) := po_some (pe_un un_neg pe_int)
  refine wpAny_Slice (thn (po_none.run pins s1 σ H1 (fun o H2 => o = none ∧ H2 = H1) I1 ⟨rfl, rfl⟩) fun vl s2 ⟨l, H2, I2, pl, el, e2⟩ => ?_)
  subst el e2
  refine thn (po_none.run pins s2 σ H2 (fun o H3 => o = none ∧ H3 = H2) I2 ⟨rfl, rfl⟩) fun vu s3 ⟨u, H3, I3, pu, eu, e3⟩ => ?_
  subst eu e3
  refine thn (hst.run pins s3 σ H3 (fun o H4 => o = some (-1) ∧ H4 = H3) I3 ⟨1, rfl, -1, rfl, rfl, rfl⟩) fun vs s4 ⟨o, H4, I4, ps, eo, e4⟩ => ?_
  subst eo e4
  have I5 : Inv X pins σ H4 { s4 with heap := s4.heap.push { cls := .type "slice", data := .fields #[vl, vu, vs] } } := I4.kept (t' := s4.toks) fun b ob q => Heap.get?_push_of_some _ q
  obtain ⟨its, r, ht, hz⟩ := I5.tuple hx
  have hlen := r.length
  show wpAny (model X.prog X.w) X.A (subscriptTail e (.Slice none none (some (.UnaryOp .USub (.Constant (.int 1) k p1) p2)) p3) (.ref a) (.ref s4.heap.objs.size)) (EP X pins σ Q) X.xe { s4 with heap := s4.heap.push { cls := .type "slice", data := .fields #[vl, vu, vs] } }
  refine tail_any (ops := [.ref a, .ref s4.heap.objs.size]) ht.typeIs (PyProof.Rows.slot_tuple_getitem.lookup) ?_ (by with_unfolding_all rfl)
  refine getItem_tuple_rev ht (Heap.IsSliceOf.new _ vl vu vs) pl pu ps ?_ (by rw [List.size_toArray]; omega)
  refine ⟨.ref _, _, I5.laid (t' := s4.toks) (o := .tup xs.reverse) (fun b ob q => Heap.get?_push_of_some _ q) (Nat.le_refl _) ?_, rfl, q _ _ (same_upd (I5.hok.fresh (Nat.le_refl _))) (I5.hok.fresh (Nat.le_refl _)) upd_same⟩
  exact ⟨by rw [List.length_reverse]; exact hz, _, r.reverse, IsTup.new _ _⟩
end
end LK
namespace LK
open PySem PySem.Spec PyProof.Rows L2
/-! ### d.get(k) of a written dict with text keys -/
section
variable {X : Cx} {d : Addr} {es : Array DictEntry} {n : Nat} {o e : Expr} {apos cpos : Pos} {td ty : TE}
def tWget (K : PySem.W.Frag) (d : Addr) (td ty : TE) : TE := fun σ H Q => td σ H fun x H1 => x = .ref d ∧ ty σ H1 fun y H2 => ∃ (z : Str) (r : Option Value) (v : V), y = .str z ∧ PySem.W.nsIn K d z = some r ∧ RelV v (r.getD .none) ∧ Q v H2
theorem pe_wget (D : KDict X.K X.w d es n) (ho : PE X o td) (he : PE X e ty) (hbase : attributeBase o "get" X.env (eval o X.env) = eval o X.env := by rfl)
    (hfew : ((backTo cpos (starEach [e] X.env)).all (fun x => !x.1) && (backToKw cpos (keywordEach [] X.env)).all (fun x => x.1.isSome)
    && decide (([e] : List Expr).length + ([] : List Keyword).length + (if ([] : List Keyword).isEmpty then 0 else 1) < 30)) = true := by rfl)
    (hline : (apos.endLine == cpos.line) = true := by rfl) (htr : backTo cpos (starEach [e] X.env) = [(false, eval e X.env)] := by rfl) : PE X (.Call (.Attribute o "get" apos) [e] [] cpos) (tWget X.K d td ty) := by
  refine ⟨fun pins s σ H Q I h => ?_⟩
  refine wpAny_Call_method hbase hfew hline PySem.F.plainAttrs_dict PySem.F.slot_dict_get PySem.F.type_dict_get (thn (ho.run pins s σ H _ I h) fun u s1 ⟨x, H1, I1, rx, ex, q1⟩ => ?_)
  subst ex
  obtain rfl : u = Value.ref d := rx
  have ob := I1.kIn _ _ D.at_
  refine ⟨kd_type D I1, fun b q => ?_, ?_⟩
  · cases q
    exact ⟨_, ob, rfl⟩
  rw [htr]
  refine Calls.callWith_builtin rfl (Calls.evalArgs_plain (Calls.spliced_cons (thn (he.run pins s1 σ H1 _ I1 q1) fun iv s2 ⟨y, H2, I2, ry, z, r, v, ey, hn, rv, q2⟩ => Calls.spliced_nil ?_)))
  subst ey
  obtain ⟨t, rfl⟩ := ry
  refine call_meetsIn PySem.F.slot_dict_get (kd_type D I2) PySem.F.entry_dict_get (PySem.F.args_dict_get_2 _ _) (meets_dict_get (strKind X.prog X.w) d (PySem.strKind_is X.prog X.w z t) D.low)
    ⟨_, PySem.W.mapOf_K (prog := X.prog) I2.kIn D.at_ D.lit, v, H2, I2.tok _, ?_, q2⟩
  rw [PySem.W.find_K D.at_ hn]
  exact rv
end
end LK
namespace LK
open PySem PySem.Spec PyProof.Rows L2
/-! ### comprehensions without tests -/
/-- what is new since H -/
def nw (H H' : Hp) : Hp := fun a => if H a = none then H' a else none
theorem nw_some {H H' : Hp} {a : Addr} {o : HO} (h : nw H H' a = some o) : H a = none ∧ H' a = some o := by
  unfold nw at h
  split at h
  · exact ⟨by assumption, h⟩
  · cases h
theorem nw_of {H H' : Hp} {a : Addr} {o : HO} (h0 : H a = none) (h : H' a = some o) : nw H H' a = some o := by
  unfold nw
  rw [if_pos h0]; exact h
theorem nw_le (H H' : Hp) : Same (nw H H') H' := fun _ _ h => (nw_some h).2
theorem nw_hb {H H' : Hp} {b : Addr} {o : HO} (h : H b = some o) : Same (nw H H') (hb H' b) := fun a u e => by
  obtain ⟨h1, h2⟩ := nw_some e
  have n : a ≠ b := fun q => by rw [q, h] at h1; cases h1
  rw [hb_ne n]; exact h2
/-- new since a later heap is new since an earlier one -/
theorem nw_anti {H0 H H' : Hp} (d : ∀ a, H a = none → H0 a = none) : Same (nw H H') (nw H0 H') := fun a u e => by
  obtain ⟨h1, h2⟩ := nw_some e
  exact nw_of (d a h1) h2
theorem nw_same {H H' H'' : Hp} (s : ∀ a o, H a = none → H' a = some o → H'' a = some o) : Same (nw H H') (nw H H'') := fun a u e => by
  obtain ⟨h1, h2⟩ := nw_some e
  exact nw_of h1 (s _ _ h1 h2)
theorem Kp.dom {b : Addr} {H H' : Hp} {o : HO} (k : Kp b H H') (hb' : H' b = some o) : ∀ a, H' a = none → H a = none := fun a h => by
  cases q : H a with
  | none => rfl
  | some u =>
    by_cases e : a = b
    · subst e; rw [hb'] at h; cases h
    · rw [k.hd q e] at h; cases h
theorem Same.dom {H H' : Hp} (k : Same H H') : ∀ a, H' a = none → H a = none := fun a h => k.free h

/-- a pure one -/
theorem lc_pure {J : It} {n : Nat} {G : Hp → Prop} {Y : Nat → Hp → V → Hp → Prop} (w : Walk J n G Y) {g : TG} {te : TE} {vs : List Nat} {σ : L2.St} {H1 : Hp} {D : Addr} {Qd : Hp → Prop} (hD : H1 D = none) (hn : n ≤ 1000000) (y : Nat → V)
    (hG : ∀ H, Same H1 H → G H)
    (hs : ∀ i x H H', i < n → Same H1 H → Y i H x H' → g x (wipe σ vs) H' fun σ2 H2 => Same H H2 ∧ wipe σ2 vs = wipe σ vs ∧ ∀ Q2 : V → Hp → Prop, (∀ H3, Same H2 H3 → Q2 (y i) H3) → te σ2 H2 Q2)
    (gm : ∀ x σ0 H0 Q0 Q1, (∀ σ2 H2, Q0 σ2 H2 → Q1 σ2 H2) → g x σ0 H0 Q0 → g x σ0 H0 Q1)
    (hq : ∀ H', Same H1 H' → H' D = some (.lst ((List.range n).map y)) → Qd H') :
    ∃ W : Nat → Nat → Hp → Prop, (∃ m, W 0 m (upd H1 D (.lst []))) ∧ ∀ i m H, W i m H →
      (J.stop i H ∧ Qd H) ∨ (J.go i H ∧ ∃ Nx : Hp → Prop, (∀ H', Nx H' → ∃ m', m' < m ∧ W (i + 1) m' H') ∧ ∀ x H', J.yld i H x H' → g x (wipe σ vs) H' fun σ2 H2 => wipe σ2 vs = wipe σ vs ∧ tYes σ2 H2 fun b H3 =>
        if b = true then te σ2 H3 fun y H4 => ∃ acc, H4 D = some (.lst acc) ∧ acc.length < sizeLine ∧ Nx (upd H4 D (.lst (acc ++ [y]))) else Nx H3) := by
  have up : ∀ {H : Hp} {o : HO}, Same H1 H → Same H1 (upd H D o) := fun s a u e => by
    rw [upd_ne (ne_of_none e hD)]; exact s _ _ e
  refine lc_it w (fun i H => Same H1 H ∧ H D = some (.lst ((List.range i).map y))) ⟨up (Same.refl _), upd_same⟩ (fun i H _ h => hG H h.1) (fun i x H H' hi ⟨s1, h1⟩ hY => ?_) (fun H h => hq H h.1 h.2)
  refine gm _ _ _ _ _ (fun σ2 H2 ⟨s2, e2, k⟩ => ⟨e2, ?_⟩) (hs i x H H' hi s1 hY)
  simp only [tYes, eq_self, ite_true]
  refine k _ fun H3 s3 => ⟨_, s3 _ _ (s2 _ _ h1), ?_, up (Same.trans (Same.trans s1 s2) s3), ?_⟩
  · rw [List.length_map, List.length_range]
    exact Nat.lt_of_lt_of_le (Nat.lt_of_lt_of_le hi hn) (by decide)
  · rw [upd_same, List.range_succ, List.map_append]
    rfl
/-- one that draws from a bag -/
theorem lc_bag {J : It} {n : Nat} {G : Hp → Prop} {Y : Nat → Hp → V → Hp → Prop} (w : Walk J n G Y) {g : TG} {te : TE} {vs : List Nat} {σ : L2.St} {H1 : Hp} {D b c : Addr} {Qd : Hp → Prop} (hD : H1 D = none) (hB : Bag H1 b c) (hn : n ≤ 1000000) (Φ : Hp → V → Prop) (mono : ∀ G G' v, Same G G' → Φ G v → Φ G' v)
    (hG : ∀ H, Kp b H1 H → G H)
    (hs : ∀ i x H H', i < n → Kp b H1 H → Bag H b c → Y i H x H' → g x (wipe σ vs) H' fun σ2 H2 => Same H H2 ∧ wipe σ2 vs = wipe σ vs ∧ ∀ Q2 : V → Hp → Prop, (∀ v H3, Bag H3 b c → Kp b H2 H3 → Φ (nw H2 H3) v → Q2 v H3) → te σ2 H2 Q2)
    (gm : ∀ x σ0 H0 Q0 Q1, (∀ σ2 H2, Q0 σ2 H2 → Q1 σ2 H2) → g x σ0 H0 Q0 → g x σ0 H0 Q1)
    (hq : ∀ H' ys, Bag H' b c → Kp b H1 H' → H' D = some (.lst ys) → ys.length = n → (∀ v ∈ ys, Φ (nw (upd H1 D (.lst [])) H') v) → Qd H') :
    ∃ W : Nat → Nat → Hp → Prop, (∃ m, W 0 m (upd H1 D (.lst []))) ∧ ∀ i m H, W i m H →
      (J.stop i H ∧ Qd H) ∨ (J.go i H ∧ ∃ Nx : Hp → Prop, (∀ H', Nx H' → ∃ m', m' < m ∧ W (i + 1) m' H') ∧ ∀ x H', J.yld i H x H' → g x (wipe σ vs) H' fun σ2 H2 => wipe σ2 vs = wipe σ vs ∧ tYes σ2 H2 fun b H3 =>
        if b = true then te σ2 H3 fun y H4 => ∃ acc, H4 D = some (.lst acc) ∧ acc.length < sizeLine ∧ Nx (upd H4 D (.lst (acc ++ [y]))) else Nx H3) := by
  obtain ⟨xb, eb⟩ := hB.at
  obtain ⟨xc, ec⟩ := hB.at2
  have nbD : b ≠ D := fun e => by rw [← e, eb] at hD; cases hD
  have ncD : c ≠ D := fun e => by rw [← e, ec] at hD; cases hD
  have up : ∀ {H : Hp} {o : HO}, Kp b H1 H → Kp b H1 (upd H D o) := fun s a u e => by
    obtain ⟨h1, h2⟩ := hb_some e
    rw [hb_ne h1, upd_ne (ne_of_none h2 hD)]
    exact s.hd h2 h1
  refine lc_it w (fun i H => Kp b H1 H ∧ Bag H b c ∧ ∃ ys, H D = some (.lst ys) ∧ ys.length = i ∧ ∀ v ∈ ys, Φ (nw (upd H1 D (.lst [])) H) v) ⟨up (Kp.refl _ _), hB.upd nbD ncD, [], upd_same, rfl, fun v hv => absurd hv (by simp)⟩ (fun i H _ h => hG H h.1) (fun i x H H' hi ⟨s1, B1, ys, h1, hl, hp⟩ hY => ?_) (fun H ⟨s1, B1, ys, h1, hl, hp⟩ => hq H ys B1 s1 h1 hl hp)
  refine gm _ _ _ _ _ (fun σ2 H2 ⟨s2, e2, k⟩ => ⟨e2, ?_⟩) (hs i x H H' hi s1 B1 hY)
  simp only [tYes, eq_self, ite_true]
  have B2 := B1.same s2
  refine k _ fun v H3 B3 k3 hv => ⟨ys, k3.hd (s2 _ _ h1) nbD.symm, ?_, up (Same.trans (Same.trans s1 (Kp.of s2)) k3), B3.upd nbD ncD, ys ++ [v], upd_same, by rw [List.length_append, hl]; rfl, fun u hu => ?_⟩
  · rw [hl]
    exact Nat.lt_of_lt_of_le (Nat.lt_of_lt_of_le hi hn) (by decide)
  · have kk : ∀ a o, upd H1 D (.lst []) a = none → H3 a = some o → upd H3 D (.lst (ys ++ [v])) a = some o := fun a o q e => by
      have n : a ≠ D := fun z => by rw [z, upd_same] at q; cases q
      rw [upd_ne n]; exact e
    rcases List.mem_append.mp hu with hu | hu
    · refine mono _ _ _ (fun a o e => ?_) (hp u hu)
      obtain ⟨q1, q2⟩ := nw_some e
      have n : a ≠ b := fun z => by rw [z, upd_ne nbD, eb] at q1; cases q1
      exact nw_of q1 (kk _ _ q1 (k3.hd (s2 _ _ q2) n))
    · obtain rfl : u = v := by simpa using hu
      refine mono _ _ _ (fun a o e => ?_) hv
      obtain ⟨q1, q2⟩ := nw_some e
      have d1 : upd H1 D (.lst []) a = none := by
        by_cases n : a = D
        · rw [n, s2 _ _ h1] at q1; cases q1
        · rw [upd_ne n]
          exact Kp.dom (Same.trans s1 (Kp.of s2)) (B2.at.choose_spec) a q1
      exact nw_of d1 (kk _ _ d1 q2)
end LK
namespace LK
open PySem PySem.Spec PyProof.Rows L2
theorem cutV_take (xs : List V) (k : Nat) : cutV xs none (some (k : Int)) = xs.take k := by
  unfold cutV HT.sIx
  simp only [List.drop_zero, Nat.sub_zero]
  by_cases h : (k : Int) < 0
  · omega
  · rw [if_neg h]
    have e : ((k : Int)).toNat = k := Int.toNat_natCast k
    by_cases c : k ≤ xs.length
    · congr 1
      omega
    · rw [List.take_of_length_le (by omega), List.take_of_length_le (by omega)]
theorem cutV_drop (xs : List V) (k : Nat) : cutV xs (some (k : Int)) none = xs.drop k := by
  unfold cutV
  rw [HT.sIx_nat, HT.sIx_none]
  by_cases c : k ≤ xs.length
  · rw [Nat.min_eq_left c, List.take_of_length_le (by simp)]
  · rw [Nat.min_eq_right (by omega), List.drop_eq_nil_of_le (by omega), List.drop_eq_nil_of_le (by omega)]
    simp
end LK
namespace LK
open PySem PySem.Spec PyProof.Rows L2
/-! ### new objects, the heap behind them by a name -/
section
variable {X : Cx} {es : List Expr} {t : TA} {pos : Pos}
def tTupU (t : TA) : TE := fun σ H Q => t σ H fun xs H1 => xs.length ≤ sizeLine ∧ ∀ p H2, Same H1 H2 → H1 p = none → H2 p = some (.tup xs) → Q (.ref p) H2
def tLstU (t : TA) : TE := fun σ H Q => t σ H fun xs H1 => xs.length ≤ sizeLine ∧ ∀ p H2, Same H1 H2 → H1 p = none → H2 p = some (.lst xs) → Q (.ref p) H2
theorem pe_tupU {x1} (h : PA X es t) : PE X (.Tuple es x1 pos) (tTupU t) := by
  refine ⟨fun pins s σ H Q I hq => ?_⟩
  refine wpAny_Tuple_spliced (thn (h.run pos pins s σ H _ I hq) fun us s1 ⟨xs, H1, I1, r, z, q⟩ => ⟨by rw [← r.length]; exact z, ?_⟩)
  have hf : H1 s1.heap.objs.size = none := I1.hok.fresh (Nat.le_refl _)
  refine ⟨.ref s1.heap.objs.size, L2.upd H1 s1.heap.objs.size (.tup xs), I1.laid (t' := s1.toks) (fun b u e => Heap.get?_push_of_some _ e) (Nat.le_refl _) ?_, rfl, q _ _ (same_upd hf) hf upd_same⟩
  exact ⟨z, us, r, ⟨_, Heap.get?_push_size _ rfl, rfl, _, rfl⟩⟩
theorem pe_lstU (h : PA X es t) : PE X (.List es pos) (tLstU t) := by
  refine ⟨fun pins s σ H Q I hq => ?_⟩
  refine wpAny_List_spliced (thn (h.run pos pins s σ H _ I hq) fun us s1 ⟨xs, H1, I1, r, z, q⟩ => ⟨by rw [← r.length]; exact z, ?_⟩)
  have hf : H1 s1.heap.objs.size = none := I1.hok.fresh (Nat.le_refl _)
  refine ⟨.ref s1.heap.objs.size, L2.upd H1 s1.heap.objs.size (.lst xs), I1.laid (t' := s1.toks) (fun b u e => Heap.get?_push_of_some _ e) (Nat.le_refl _) ?_, rfl, q _ _ (same_upd hf) hf upd_same⟩
  exact ⟨z, us, 0, r, Heap.get?_push_size _ rfl⟩
def rSlLU (K : PySem.W.Frag) : V → Option Int → Option Int → Hp → VK → Prop := fun x lo hi H Q => ∃ a xs, x = .ref a ∧ SqL K H a xs ∧ ∀ p H2, Same H H2 → H p = none → H2 p = some (.lst (cutV xs lo hi)) → Q (.ref p) H2
theorem sl_listU : SlR X (rSlLU X.K) := by
  intro pins s σ H x v vl vu lo hi sl Q I rx hs pl pu h
  obtain ⟨a, xs, rfl, hx, q⟩ := h
  exact sl_list pins s σ H _ v vl vu lo hi sl Q I rx hs pl pu ⟨a, xs, rfl, hx, fun p hp => q p _ (same_upd hp) hp upd_same⟩
theorem call_listU : CallR X (.type "list") (fun xs H Q => ∃ p ys, xs = [.ref p] ∧ (SqL X.K H p ys ∨ SqT X.K H p ys) ∧ ∀ l H2, Same H H2 → H l = none → H2 l = some (.lst ys) → Q (.ref l) H2) := cr_imp call_list_of fun xs H Q h => by
  obtain ⟨p, ys, rfl, h, q⟩ := h
  exact ⟨p, ys, rfl, h, fun l hl => q l _ (same_upd hl) hl upd_same⟩
def rCatL : R2 := fun x y H Q => ∃ l b xs zs, x = .ref l ∧ y = .ref b ∧ H l = some (.lst xs) ∧ H b = some (.lst zs) ∧ xs.length + zs.length ≤ sizeLine ∧ ∀ p H2, Same H H2 → H p = none → H2 p = some (.lst (xs ++ zs)) → Q (.ref p) H2
theorem op_catL : OpR X (binaryOp .Add) rCatL := opr_imp op_cat fun x y H Q h => by
  obtain ⟨l, b, xs, zs, rfl, rfl, h1, h2, hz, q⟩ := h
  exact ⟨l, b, xs, zs, rfl, rfl, h1, h2, hz, fun p hp => q p _ (same_upd hp) hp upd_same⟩
def rRepL : R2 := fun x y H Q => ∃ l k xs, x = .ref l ∧ y = .int k ∧ H l = some (.lst xs) ∧ -(2 ^ 63) ≤ k ∧ k < 2 ^ 63 ∧ xs.length * k.toNat ≤ sizeLine ∧ ∀ p H2, Same H H2 → H p = none → H2 p = some (.lst (List.replicate k.toNat xs).flatten) → Q (.ref p) H2
theorem op_repL : OpR X (binaryOp .Mult) rRepL := opr_imp op_rep fun x y H Q h => by
  obtain ⟨l, k, xs, rfl, rfl, h1, h2, h3, hz, q⟩ := h
  exact ⟨l, k, xs, rfl, rfl, h1, h2, h3, hz, fun p hp => q p _ (same_upd hp) hp upd_same⟩
end
end LK
namespace LK
open PySem PySem.Spec PyProof.Rows L2
/-- [f(x) for x in ..], the items known -/
theorem lc_map {J : It} {n : Nat} {G : Hp → Prop} {Y : Nat → Hp → V → Hp → Prop} (w : Walk J n G Y) {te : TE} {i : Nat} {σ : L2.St} {H1 : Hp} {D : Addr} {Qd : Hp → Prop} (xs : List V) (f : V → V) (hD : H1 D = none) (hn : n ≤ 1000000) (hx : xs.length = n)
    (hY : ∀ k H x H', k < n → Y k H x H' → H' = H ∧ xs[k]? = some x) (hG : ∀ H, Same H1 H → G H)
    (hs : ∀ x H, x ∈ xs → Same H1 H → ∀ Q2 : V → Hp → Prop, (∀ H3, Same H H3 → Q2 (f x) H3) → te ((wipe σ [i]).set i (some x)) H Q2)
    (hq : ∀ H', Same H1 H' → H' D = some (.lst (xs.map f)) → Qd H') :
    ∃ W : Nat → Nat → Hp → Prop, (∃ m, W 0 m (L2.upd H1 D (.lst []))) ∧ ∀ i' m H, W i' m H →
      (J.stop i' H ∧ Qd H) ∨ (J.go i' H ∧ ∃ Nx : Hp → Prop, (∀ H', Nx H' → ∃ m', m' < m ∧ W (i' + 1) m' H') ∧ ∀ x H', J.yld i' H x H' → gName i x (wipe σ [i]) H' fun σ2 H2 => wipe σ2 [i] = wipe σ [i] ∧ tYes σ2 H2 fun b H3 =>
        if b = true then te σ2 H3 fun y H4 => ∃ acc, H4 D = some (.lst acc) ∧ acc.length < sizeLine ∧ Nx (L2.upd H4 D (.lst (acc ++ [y]))) else Nx H3) := by
  have e : (List.range n).map (fun k => f (xs.getD k .non)) = xs.map f := by
    refine List.ext_getElem? fun k => ?_
    rw [List.getElem?_map, List.getElem?_map]
    by_cases hk : k < n
    · rw [List.getElem?_range hk, List.getElem?_eq_getElem (by omega)]
      simp [List.getD_eq_getElem?_getD, List.getElem?_eq_getElem (show k < xs.length by omega)]
    · rw [List.getElem?_eq_none (by simpa using hk), List.getElem?_eq_none (by omega)]
      rfl
  refine lc_pure w hD hn (fun k => f (xs.getD k .non)) hG (fun k x H H' hk s1 y => ?_) (fun x σ0 H0 Q0 Q1 h q => h _ _ q) (fun H' s h => hq H' s (by rw [← e]; exact h))
  obtain ⟨rfl, hx2⟩ := hY _ _ _ _ hk y
  refine ⟨Same.refl _, ?_, fun Q2 h2 => hs x H' (List.mem_of_getElem? hx2) s1 Q2 fun H3 s3 => ?_⟩
  · show ((σ.set i none).set i (some x)).set i none = σ.set i none
    rw [List.set_set, List.set_set]
  · have e2 : xs.getD k .non = x := by rw [List.getD_eq_getElem?_getD, hx2]; rfl
    have := h2 H3 s3
    rw [e2] at this
    exact this
/-- the same, drawing from a bag -/
theorem lc_draw {J : It} {n : Nat} {G : Hp → Prop} {Y : Nat → Hp → V → Hp → Prop} (w : Walk J n G Y) {te : TE} {i : Nat} {σ : L2.St} {H1 : Hp} {D b c : Addr} {Qd : Hp → Prop} (Φ : Hp → V → Prop) (mono : ∀ G G' v, Same G G' → Φ G v → Φ G' v) (hD : H1 D = none) (hB : Bag H1 b c) (hn : n ≤ 1000000)
    (hY : ∀ k H x H', Y k H x H' → H' = H) (hG : ∀ H, Kp b H1 H → G H)
    (hs : ∀ x H, Kp b H1 H → Bag H b c → ∀ Q2 : V → Hp → Prop, (∀ v H3, Bag H3 b c → Kp b H H3 → Φ (nw H H3) v → Q2 v H3) → te ((wipe σ [i]).set i (some x)) H Q2)
    (hq : ∀ H' ys, Bag H' b c → Kp b H1 H' → H' D = some (.lst ys) → ys.length = n → (∀ v ∈ ys, Φ (nw (L2.upd H1 D (.lst [])) H') v) → Qd H') :
    ∃ W : Nat → Nat → Hp → Prop, (∃ m, W 0 m (L2.upd H1 D (.lst []))) ∧ ∀ i' m H, W i' m H →
      (J.stop i' H ∧ Qd H) ∨ (J.go i' H ∧ ∃ Nx : Hp → Prop, (∀ H', Nx H' → ∃ m', m' < m ∧ W (i' + 1) m' H') ∧ ∀ x H', J.yld i' H x H' → gName i x (wipe σ [i]) H' fun σ2 H2 => wipe σ2 [i] = wipe σ [i] ∧ tYes σ2 H2 fun b H3 =>
        if b = true then te σ2 H3 fun y H4 => ∃ acc, H4 D = some (.lst acc) ∧ acc.length < sizeLine ∧ Nx (L2.upd H4 D (.lst (acc ++ [y]))) else Nx H3) := by
  refine lc_bag w hD hB hn Φ mono hG (fun k x H H' hk s1 B1 y => ?_) (fun x σ0 H0 Q0 Q1 h q => h _ _ q) hq
  have e := hY _ _ _ _ y
  subst e
  refine ⟨Same.refl _, ?_, fun Q2 h2 => hs x H' s1 B1 Q2 h2⟩
  show ((σ.set i none).set i (some x)).set i none = σ.set i none
  rw [List.set_set, List.set_set]
def signsV (z : Str) : List V := z.cps.toList.map fun c => V.str ⟨#[c]⟩
theorem signsV_at {z : Str} : ∀ (k : Nat) (H : Hp) (x : V) (H' : Hp), (H' = H ∧ ∃ c, z.cps[k]? = some c ∧ x = V.str ⟨#[c]⟩) → H' = H ∧ (signsV z)[k]? = some x := by
  rintro k H x H' ⟨rfl, c, h, rfl⟩
  refine ⟨rfl, ?_⟩
  unfold signsV
  rw [List.getElem?_map, Array.getElem?_toList, h]
  rfl
theorem signsV_length (z : Str) : (signsV z).length = z.cps.size := by simp [signsV]
theorem all_map_id {α : Type} (p : α → Bool) (l : List α) : (l.map p).all id = l.all p := by
  rw [List.all_map]; rfl
end LK
namespace LK
open PySem PySem.Spec PyProof.Rows L2
/-- [p(c) for c in z], z a text -/
theorem lc_signs {z : Str} {te : TE} {i : Nat} {σ : L2.St} {H1 : Hp} {D : Addr} {Qd : Hp → Prop} (p : Nat → Bool) (hD : H1 D = none) (hz : z.length ≤ 1000000)
    (hs : ∀ c H, c ∈ z.cps.toList → Same H1 H → ∀ Q2 : V → Hp → Prop, (∀ H3, Same H H3 → Q2 (.bl (p c)) H3) → te ((wipe σ [i]).set i (some (.str ⟨#[c]⟩))) H Q2)
    (hq : ∀ H', Same H1 H' → H' D = some (.lst ((z.cps.toList.map p).map V.bl)) → Qd H') :
    ∃ W : Nat → Nat → Hp → Prop, (∃ m, W 0 m (L2.upd H1 D (.lst []))) ∧ ∀ i' m H, W i' m H →
      ((Its z).stop i' H ∧ Qd H) ∨ ((Its z).go i' H ∧ ∃ Nx : Hp → Prop, (∀ H', Nx H' → ∃ m', m' < m ∧ W (i' + 1) m' H') ∧ ∀ x H', (Its z).yld i' H x H' → gName i x (wipe σ [i]) H' fun σ2 H2 => wipe σ2 [i] = wipe σ [i] ∧ tYes σ2 H2 fun b H3 =>
        if b = true then te σ2 H3 fun y H4 => ∃ acc, H4 D = some (.lst acc) ∧ acc.length < sizeLine ∧ Nx (L2.upd H4 D (.lst (acc ++ [y]))) else Nx H3) := by
  refine lc_map walk_str (signsV z) (fun v => match v with | .str y => .bl (p (y.cps.toList.headD 0)) | _ => .non) hD hz (signsV_length z) (fun k H x H' _ y => signsV_at k H x H' y) (fun _ _ => trivial) (fun x H hx s1 Q2 h2 => ?_) (fun H' s h => hq H' s ?_)
  · obtain ⟨c, hc, rfl⟩ := List.mem_map.mp hx
    exact hs c H hc s1 Q2 h2
  · rw [h]
    unfold signsV
    rw [List.map_map, List.map_map]
    rfl
theorem starts_minus {z : Str} (h : Txt.startswith z "-" = true) : ∃ r, z.cps.toList = 45 :: r := by
  have h2 : PySem.StrLaws.At z "-" z.length 0 := by
    unfold Txt.startswith at h
    rw [Bool.and_eq_true] at h
    exact ⟨of_decide_eq_true h.1, h.2⟩
  have e : TL.tl "-" = [45] := by decide +kernel
  have q := (TL.at_iff (by rw [e]; simp) 0).mp h2
  rw [e, List.drop_zero] at q
  unfold TL.pre at q
  have q2 : z.cps.toList.take 1 = [45] := eq_of_beq q
  cases hz : z.cps.toList with
  | nil => rw [hz] at q2; simp at q2
  | cons c r => rw [hz] at q2; simp at q2; rw [q2]; exact ⟨r, rfl⟩
theorem cutS_tail (z : Str) : (cutS z (some 1) none).cps.toList = z.cps.toList.drop 1 := by
  unfold cutS
  have e1 := HT.sIx_nat z.length 0 1
  have l : z.length = z.cps.toList.length := by rw [Array.length_toList]; rfl
  show ((z.cps.toList.drop (HT.sIx z.length 0 (some ((1 : Nat) : Int)))).take (HT.sIx z.length z.length none - HT.sIx z.length 0 (some ((1 : Nat) : Int)))) = _
  rw [e1, HT.sIx_none]
  by_cases c : 1 ≤ z.length
  · rw [Nat.min_eq_left c, List.take_of_length_le (by rw [List.length_drop]; omega)]
  · rw [List.drop_eq_nil_of_le (by omega), List.drop_eq_nil_of_le (by omega)]
    simp
theorem len_cps (z : Str) : z.cps.toList.length = z.length := by rw [Array.length_toList]; rfl
end LK
namespace LK
theorem iteTT {c A B : Prop} [Decidable c] (hc : c) (h : A) : if c then A else B := by rw [if_pos hc]; exact h
theorem iteFF {c A B : Prop} [Decidable c] (hc : ¬ c) (h : B) : if c then A else B := by rw [if_neg hc]; exact h
end LK
namespace LK
open PySem PySem.Spec PyProof.Rows L2
theorem str_append (a b : Str) : (a ++ b).cps.toList = a.cps.toList ++ b.cps.toList := by
  show (a.cps ++ b.cps).toList = _
  exact Array.toList_append
theorem str_append_len (a b : Str) : (a ++ b).length = a.length + b.length := by
  rw [← len_cps, str_append, List.length_append, len_cps, len_cps]
theorem cutS_tail_len (z : Str) : (cutS z (some 1) none).length = z.length - 1 := by
  rw [← len_cps, cutS_tail, List.length_drop, len_cps]
theorem cutS_len (z : Str) (lo hi : Option Int) : (cutS z lo hi).length ≤ z.length := by
  rw [← len_cps, ← len_cps z]
  unfold cutS
  show (List.take _ (List.drop _ _)).length ≤ _
  rw [List.length_take, List.length_drop]
  omega
end LK
namespace LK
open PySem PySem.Spec PyProof.Rows L2
/-- [f(k) for k in range(n)] -/
theorem lc_rng {lo : Int} {n : Nat} {te : TE} {i : Nat} {σ : L2.St} {H1 : Hp} {D : Addr} {Qd : Hp → Prop} (f : Int → V) (hD : H1 D = none) (hn : n ≤ 1000000)
    (hs : ∀ (k : Nat) H, k < n → Same H1 H → ∀ Q2 : V → Hp → Prop, (∀ H3, Same H H3 → Q2 (f (lo + (k : Int))) H3) → te ((wipe σ [i]).set i (some (.int (lo + (k : Int))))) H Q2)
    (hq : ∀ H', Same H1 H' → H' D = some (.lst ((List.range n).map fun (k : Nat) => f (lo + (k : Int)))) → Qd H') :
    ∃ W : Nat → Nat → Hp → Prop, (∃ m, W 0 m (L2.upd H1 D (.lst []))) ∧ ∀ i' m H, W i' m H →
      ((Itr lo n).stop i' H ∧ Qd H) ∨ ((Itr lo n).go i' H ∧ ∃ Nx : Hp → Prop, (∀ H', Nx H' → ∃ m', m' < m ∧ W (i' + 1) m' H') ∧ ∀ x H', (Itr lo n).yld i' H x H' → gName i x (wipe σ [i]) H' fun σ2 H2 => wipe σ2 [i] = wipe σ [i] ∧ tYes σ2 H2 fun b H3 =>
        if b = true then te σ2 H3 fun y H4 => ∃ acc, H4 D = some (.lst acc) ∧ acc.length < sizeLine ∧ Nx (L2.upd H4 D (.lst (acc ++ [y]))) else Nx H3) := by
  refine lc_map walk_range ((List.range n).map fun (k : Nat) => V.int (lo + (k : Int))) (fun v => match v with | .int j => f j | _ => .non) hD hn (by rw [List.length_map, List.length_range]) (fun k H x H' hk y => ?_) (fun _ _ => trivial) (fun x H hx s1 Q2 h2 => ?_) (fun H' s h => hq H' s ?_)
  · refine ⟨y.1, ?_⟩
    rw [List.getElem?_map, List.getElem?_range hk, y.2]
    rfl
  · obtain ⟨k, hk, rfl⟩ := List.mem_map.mp hx
    exact hs k H (List.mem_range.mp hk) s1 Q2 h2
  · rw [h, List.map_map]
    rfl
end LK
namespace LK
open PySem PySem.Spec PyProof.Rows L2
section
variable {X : Cx} {K : PySem.W.Frag}
theorem call_isiDK (hK : X.K = K) : CallR X (.builtin "isinstance") (fun xs H Q => ∃ x T d, xs = [x, .ty T] ∧ Dp K H x d ∧ T ∈ ["str", "int", "bool", "list", "tuple"] ∧ Q (.bl (isTy T d)) H) := by
  subst hK
  exact call_isiD
end
end LK
namespace LK
open PySem PySem.Spec PyProof.Rows L2
section
variable {X : Cx}
/-- tuple(x) of a list: a new tuple -/
theorem call_tupleN : CallR X (.type "tuple") (fun xs H Q => ∃ p ys, xs = [.ref p] ∧ SqL X.K H p ys ∧ ∀ q H', Same H H' → H q = none → H' q = some (.tup ys) → Q (.ref q) H') := cr_imp call_tuple_of fun xs H Q h => by
  obtain ⟨p, ys, rfl, h, q⟩ := h
  exact ⟨p, ys, rfl, .inl ⟨h, fun l hl => q l _ (same_upd hl) hl upd_same⟩⟩
end
theorem strs_of {m : Nat} : ∀ {l : List V}, (∀ v ∈ l, ∃ z, v = V.str z ∧ z.length ≤ m) → ∃ zs : List Str, l = zs.map V.str ∧ ∀ z ∈ zs, z.length ≤ m
  | [], _ => ⟨[], rfl, fun z h => absurd h (by simp)⟩
  | v :: l, h => by
    obtain ⟨z, rfl, hz⟩ := h v List.mem_cons_self
    obtain ⟨zs, rfl, hzs⟩ := strs_of (l := l) fun v hv => h v (List.mem_cons_of_mem _ hv)
    refine ⟨z :: zs, rfl, fun y hy => ?_⟩
    rcases List.mem_cons.mp hy with rfl | hy
    · exact hz
    · exact hzs y hy
theorem sum_le {m : Nat} : ∀ {zs : List Str}, (∀ z ∈ zs, z.length ≤ m) → (zs.map (·.length)).sum ≤ zs.length * m
  | [], _ => by simp
  | z :: zs, h => by
    rw [List.map_cons, List.sum_cons, List.length_cons, Nat.succ_mul]
    have h1 := h z List.mem_cons_self
    have h2 := sum_le (zs := zs) fun y hy => h y (List.mem_cons_of_mem _ hy)
    omega
end LK
namespace LK
open PySem PySem.Spec PyProof.Rows L2
theorem joinL_len (S : List Nat) : ∀ ps : List (List Nat), (TL.joinL S ps).length ≤ (ps.map List.length).sum + ps.length * S.length
  | [] => by simp [TL.joinL]
  | [p] => by simp [TL.joinL]
  | p :: q :: r => by
    have ih := joinL_len S (q :: r)
    show (p ++ (S ++ TL.joinL S (q :: r))).length ≤ _
    rw [List.length_append, List.length_append, List.map_cons, List.sum_cons, List.length_cons, Nat.succ_mul]
    omega
theorem join_len (y : Str) (zs : List Str) : (Txt.join y zs).length ≤ (zs.map (·.length)).sum + zs.length * y.length := by
  rw [TL.join_eq, ← len_cps]
  have e := TL.tl_join y zs
  show (TL.tl (Str.join y zs)).length ≤ _
  rw [e]
  refine Nat.le_trans (joinL_len _ _) ?_
  rw [List.map_map, List.length_map]
  have e1 : ((zs.map (List.length ∘ TL.tl))) = zs.map (·.length) := List.map_congr_left fun z _ => len_cps z
  rw [e1]
  show _ + zs.length * (y.cps.toList).length ≤ _
  rw [len_cps]
  exact Nat.le_refl _
/-- the list that lc_draw has made, as texts -/
theorem kp_new {b c : Addr} {H H1 : Hp} (B : Bag H b c) (s : Same H H1) : Kp b H H1 ∧ Bag H1 b c := ⟨Kp.of s, B.same s⟩
theorem hb_new {b c p : Addr} {H H1 : Hp} {o : HO} (B : Bag H b c) (h0 : H p = none) (h1 : H1 p = some o) : hb H1 b p = some o := by
  have n : p ≠ b := fun e => by
    obtain ⟨xs, q⟩ := B.at
    rw [e, q] at h0; cases h0
  rw [hb_ne n]; exact h1
end LK
namespace LK
open PySem PySem.Spec PyProof.Rows L2
def isIntV : V → Bool
  | .int _ => true
  | _ => false
theorem ints_of {l : List V} (h : l.all isIntV = true) : ∀ y ∈ l, ∃ i, y = V.int i := fun y hy => by
  have q := List.all_eq_true.mp h y hy
  cases y <;> first | exact ⟨_, rfl⟩ | simp [isIntV] at q
end LK
namespace LK
open PySem PySem.Spec PyProof.Rows L2
theorem nx_op {t : TS} {D : Ends} {σ : L2.St} {H : Hp} (h : ∀ N : L2.St → Hp → Prop, (∀ σ' H', D.nx σ' H' → N σ' H') → t { D with nx := N } σ H) : t D σ H := h D.nx fun _ _ z => z
/-- a test that changes nothing and whose answer does not matter -/
theorem if_any {c : TT} {t u : TS} {D : Ends} {σ : L2.St} {H : Hp} (hc : ∀ K : Bool → Hp → Prop, (∀ b, K b H) → c σ H K) (hA : t D σ H) (hB : u D σ H) : tIfS c t u D σ H := hc _ fun b => by
  cases b
  · exact iteFF (by decide) hB
  · exact iteTT rfl hA
end LK
namespace LK
open PySem PySem.Spec PyProof.Rows L2
theorem if_anyS {c : TT} {t u : TS} {D : Ends} {σ : L2.St} {H : Hp} (hc : ∀ K : Bool → Hp → Prop, (∀ b H1, Same H H1 → K b H1) → c σ H K) (hA : ∀ H1, Same H H1 → t D σ H1) (hB : ∀ H1, Same H H1 → u D σ H1) : tIfS c t u D σ H := hc _ fun b H1 s => by
  cases b
  · exact iteFF (by decide) (hB H1 s)
  · exact iteTT rfl (hA H1 s)
end LK
namespace LK
open PySem PySem.Spec PyProof.Rows L2
theorem if_of {c : TT} {t u : TS} {D : Ends} {σ : L2.St} {H : Hp} (R : Bool → Prop) (hc : ∀ K : Bool → Hp → Prop, (∀ b H1, R b → Same H H1 → K b H1) → c σ H K) (hA : ∀ H1, R true → Same H H1 → t D σ H1) (hB : ∀ H1, R false → Same H H1 → u D σ H1) : tIfS c t u D σ H := hc _ fun b H1 r s => by
  cases b
  · exact iteFF (by decide) (hB H1 r s)
  · exact iteTT rfl (hA H1 r s)
end LK

set_option Elab.async false
set_option linter.all false
set_option maxRecDepth 100000
namespace PySem
open Sem (wp)
open AutoSeq1 (wpAny_loadPart')
/-! ### enumerate of a tuple -/
theorem meets_enumerate_newT (l : Addr) (items : Array Value) (n : Nat) (dct : Option Addr) (sl : Array (Option Value)) :
    Meets (Builtin.«enumerate.__new__» ⟨[.type "enumerate", .ref l], []⟩) (fun _ R s => s.heap.get? l = some { cls := .type "tuple", dict := dct, data := .seq items n, slots := sl } ∧
      R (.ok (.ret (.ref (s.heap.push { cls := .type "tuple_iterator", data := .fields #[.ref l, .int 0 0] }).objs.size)))
        { s with heap := (s.heap.push { cls := .type "tuple_iterator", data := .fields #[.ref l, .int 0 0] }).push { cls := .type "enumerate", data := .fields #[.none, .bool false, .ref s.heap.objs.size, rawInt 0, .none, .none] } }) :=
  .of_wp fun prog w A R s h => by
    obtain ⟨hp, g, d, tk, os⟩ := s; obtain ⟨hl, h⟩ := h
    have hsub := sub_enumerate
    have hL : Heap.IsTuple (Shared.heap ⟨hp, g, d, tk, os⟩) l items := ⟨_, hl, rfl, n, rfl⟩
    wp_walk using wpAny_loadPart' hl
    refine wpAny_stack_any fun st => wpAny_pure ?_
    split
    · rename_i c _ _ _ _ _
      cases (c == Value.type "enumerate")
      · wp_walk using wpAny_loadPart' hl, wpAny_pyIter_tuple hL
        exact ⟨_, rfl, h⟩
      · wp_walk using wpAny_loadPart' hl, wpAny_pyIter_tuple hL
        exact ⟨_, rfl, h⟩
    · wp_walk using wpAny_loadPart' hl, wpAny_pyIter_tuple hL
      exact ⟨_, rfl, h⟩
theorem call_enumerate_tuple {prog : Program} {w : World} {A : Around} {E : Value → Shared → Prop} {s : Shared} {l : Addr} {items : Array Value} {Q : Value → Shared → Prop} (hL : s.heap.IsTuple l items)
    (h : ∀ h', IsEnum h' (s.heap.objs.size + 1) s.heap.objs.size 0 .none → h'.IsTupleIter s.heap.objs.size l 0 → h'.objs.size = s.heap.objs.size + 2 →
      (∀ b o, s.heap.get? b = some o → h'.get? b = some o) → Q (.ref (s.heap.objs.size + 1)) { s with heap := h' }) :
    wpAny (model prog w) A (call (.type "enumerate") [.ref l]) Q E s := by
  obtain ⟨⟨c, dct, dt, sl⟩, hl, hc, n, hd⟩ := hL
  replace hc : c = .type "tuple" := hc
  replace hd : dt = .seq items n := hd
  subst hc hd
  refine callType_new F.called_enumerate (by decide) (F.typeCall_enumerate_1 _) (F.newCall_enumerate_1 _) (fun obj => F.args_object_init_2 obj _) F.entry_enumerate_new
    (meets_enumerate_newT l items n dct sl) ⟨hl, ?_⟩
  have hz : (s.heap.push { cls := .type "tuple_iterator", data := .fields #[.ref l, .int 0 0] }).objs.size = s.heap.objs.size + 1 := Heap.size_push ..
  show _ ∧ _
  rw [hz]
  have he : IsEnum ((s.heap.push { cls := .type "tuple_iterator", data := .fields #[.ref l, .int 0 0] }).push
      { cls := .type "enumerate", data := .fields #[.none, .bool false, .ref s.heap.objs.size, rawInt 0, .none, .none] }) (s.heap.objs.size + 1) s.heap.objs.size 0 .none := by
    have := Heap.get?_push_size (s.heap.push { cls := .type "tuple_iterator", data := .fields #[.ref l, .int 0 0] })
      (o := { cls := .type "enumerate", data := .fields #[.none, .bool false, .ref s.heap.objs.size, rawInt 0, .none, .none] }) rfl
    rw [hz] at this; exact this
  refine ⟨⟨_, he, rfl⟩, h _ he ⟨_, Heap.get?_push_of_some _ (Heap.get?_push_size _ rfl), rfl, rfl⟩ (by rw [Heap.size_push, hz]) fun b o x => Heap.get?_push_of_some _ (Heap.get?_push_of_some _ x)⟩
end PySem
namespace LK
open PySem PySem.Spec PyProof.Rows L2
def Itet (K : PySem.W.Frag) (a : Addr) : It :=
  ⟨fun i H => ∃ (xs : List V) (x : V), SqT K H a xs ∧ xs[i]? = some x, fun i H v H' => ∃ T x, v = .ref T ∧ H T = none ∧ H' = L2.upd H T (.tup [.int (i : Nat), x]) ∧ ∀ xs, SqT K H a xs → xs[i]? = some x, fun i H => ∃ xs : List V, SqT K H a xs ∧ xs.length ≤ i⟩
theorem turn_enumT {P : Program} {w : World} {K : PySem.W.Frag} {elts : List Expr} {kk : Nat} {tpos : Pos} (a e it : Addr) :
    Turn P w K (.Tuple elts kk tpos) (Itet K a) [e, it] e (fun i h => (∃ old, IsEnum h e it ((i : Nat) : Int) old) ∧ h.IsTupleIter it a i ∧ e ≠ it ∧ a ≠ it ∧ a ≠ e) where
  mem := by simp
  obj := fun i h st b hb => by
    obtain ⟨⟨old, he⟩, ⟨o, ho, hc, hd⟩, _⟩ := st
    have e' : b = e ∨ b = it := by simpa using hb
    rcases e' with z | z
    · rw [z]; exact ⟨_, he, fun v q => nomatch q⟩
    · rw [z]; exact ⟨o, ho, fun v q => by rw [hd] at q; cases q⟩
  keep := fun i h h' st k => let ⟨⟨old, he⟩, hi, hne⟩ := st; ⟨⟨old, k e (by simp) _ he⟩, hi.at fun o q => k it (by simp) o q, hne⟩
  item := by
    intro X hP hw hK hc i pins s σ H E I hf st hg
    subst hP hw hK
    obtain ⟨⟨old, he⟩, hit, hne, hai, hae⟩ := st
    obtain ⟨xs, x, hq, hx⟩ := hg
    obtain ⟨its, rv, p, hz⟩ := I.tuple hq
    obtain ⟨u, hu, ru⟩ := rv.get hx
    have hel : e < s.heap.objs.size := Heap.lt_size he
    have hil : it < s.heap.objs.size := by obtain ⟨_, q, _⟩ := hit; exact Heap.lt_size q
    have hil2 : i < its.toArray.size := by
      have := (List.getElem?_eq_some_iff.mp hu).1
      simpa using this
    refine wpAny_pyNext_enum_itemD (Draws.tuple (A := X.A.in1) (I.ok.hd hc) it a hai its.toArray) he ⟨hit, p⟩ hil2 hne (by simp [hne, hae.symm]) fun y h' tk hy ho hit' hT hsz hk => ?_
    have hy : its.toArray[i]? = some y := hy
    rw [show its.toArray[i]? = some u by simpa using hu] at hy
    cases hy
    obtain ⟨hit1, _⟩ := hit'
    refine ⟨_, rfl, wpAny_letOwnedTupleGo_enum (s := { s with heap := h', toks := tk + 1 }) ho fun h'' he' sb => ?_⟩
    have hT2 : h''.get? s.heap.objs.size = some { cls := .type "tuple", data := .seq #[.int i tk, u] } := (sb.2 _ (Nat.ne_of_gt hel)).trans hT
    have new : ObjOk X.prog X.w (L2.upd H s.heap.objs.size (.tup [.int (i : Nat), x])) h'' s.heap.objs.size (.tup [.int (i : Nat), x]) :=
      ⟨by show 2 ≤ sizeLine; decide, [.int i tk, u], .cons ⟨_, rfl⟩ (.cons ru .nil), ⟨_, hT2, rfl, _, rfl⟩⟩
    have I1 : Inv X pins σ (L2.upd H s.heap.objs.size (.tup [.int (i : Nat), x])) { s with heap := h'', toks := tk + 1 } :=
      I.turnedNew (ch := [e, it]) (fun b ob hb q => (sb.2 b (fun z => hb (by simp [z]))).trans (hk b ob (fun z => hb (by simp [z])) (fun z => hb (by simp [z])) q)) hf (Nat.le_refl _) new
    refine ⟨.ref s.heap.objs.size, _, I1, rfl, ⟨_, x, rfl, I.hok.fresh (Nat.le_refl _), rfl, fun ys hy => by rw [I.tuple_inj hy hq]; exact hx⟩, ⟨⟨u, ?_⟩, hit1.at fun o q => (sb.2 it (Ne.symm hne)).trans q, hne, hai, hae⟩, fun b hb => ?_⟩
    · have e1 : ((i + 1 : Nat) : Int) = (i : Int) + 1 := by omega
      rw [e1]; exact he'
    · have hb' : b < s.heap.objs.size := by
        have e' : b = e ∨ b = it := by simpa using hb
        rcases e' with z | z
        · rw [z]; exact hel
        · rw [z]; exact hil
      rw [upd_ne (Nat.ne_of_lt hb')]
      exact (hf b hb).1
  done := by
    intro X hP hw hK hc i pins s σ H E I hf st hg
    subst hP hw hK
    obtain ⟨⟨old, he⟩, hit, hne, hai, hae⟩ := st
    obtain ⟨xs, hq, hx⟩ := hg
    obtain ⟨its, rv, p, hz⟩ := I.tuple hq
    obtain ⟨f0, f1, f2, f3, f4, f5⟩ := hf it (by simp)
    have hl := rv.length
    have hn : its.toArray[i]? = none := by simp; omega
    have hT : s.TypeIs (.ref e) "enumerate" := ⟨_, he, rfl⟩
    unfold pyNext
    refine wpAny_bind (wpAny_attempt (wpAny_callSpecial?_slot (name := Str.ofString "__next__") hT PySem.F.slot_enumerate_next
      (wpAny_call_entry PySem.F.slot_enumerate_next hT PySem.F.entry_enumerate_next ?_ (PySem.F.args_enumerate_next_1 _))))
    show wpAny _ _ (field (.ref e) 2 >>= _) _ _ _
    refine wpAny_bind (wpAny_field he rfl (x := .ref it) rfl ?_)
    refine wpAny_bind (RZ.nextOf_tuple_end (I.ok.hd hc) hit p hn fun h' x eb hx' => ?_)
    obtain ⟨o, ho, hc'⟩ := hx'
    refine wpAny_bind (wpAny_isInstance (T := "StopIteration") (b := true) ⟨o, ho, hc'⟩ isSubtype_stop ?_)
    exact wpAny_pure ⟨rfl, I.turned (t' := s.toks) (fun b o hb q => eb b o hb q) f0 f1 f3 f4 f5⟩
  self := fun A i s Q E st h => let ⟨⟨_, he⟩, _⟩ := st; wpAny_pyIter_enum he h
def iEnumT (K : PySem.W.Frag) (ta : TA) : TI := fun σ H R => ta σ H fun vs H1 => ∃ a xs, vs = [.ref a] ∧ SqT K H1 a xs ∧ R (Itet K a) H1
theorem pi_enumT {X : Cx} {e : Expr} {ta : TA} {p pos tpos : Pos} {elts : List Expr} {kk : Nat} (hg : Gl X "enumerate") (hm : X.mg "enumerate" = none) (ha : PA X [e] ta) (hs : starEach [e] X.env = [(false, eval e X.env)] := by rfl) :
    PI X (.Tuple elts kk tpos) (.Call (.Name "enumerate" p) [e] [] pos) (iEnumT X.K ta) := by
  refine ⟨fun pins s σ H R I h => ?_⟩
  refine Call_ (ld_blt I hg hm boot_enumerate (PyProof.Rows.callWith_type1 (thn (ha.run pos pins s σ H _ I h) fun us s1 ⟨vs, H1, I1, r1, q1⟩ => ?_) hs rfl))
  obtain ⟨a, xs, ex, hq, q⟩ := q1
  subst ex
  cases r1 with
  | cons r rr =>
    cases rr
    cases r
    obtain ⟨its, rv, p', hz⟩ := I1.tuple hq
    have al : a < s1.heap.objs.size := by obtain ⟨_, q, _⟩ := id p'; exact Heap.lt_size q
    refine call_enumerate_tuple p' fun h' he hit hsz hk => wpAny_pyIter_enum he ?_
    have I2 : Inv X pins σ H1 { s1 with heap := h' } := I1.kept (t' := s1.toks) hk
    refine ⟨s1.heap.objs.size + 1, [s1.heap.objs.size + 1, s1.heap.objs.size], _, _, H1, rfl, I2, turn_enumT a (s1.heap.objs.size + 1) s1.heap.objs.size, ⟨⟨.none, he⟩, hit, Nat.succ_ne_self _, Nat.ne_of_lt al, Nat.ne_of_lt (Nat.lt_succ_of_lt al)⟩, fun b hb => ?_, q⟩
    have e' : b = s1.heap.objs.size + 1 ∨ b = s1.heap.objs.size := by simpa using hb
    have hle : s1.heap.objs.size ≤ b := by
      rcases e' with z | z
      · rw [z]; exact Nat.le_add_right _ _
      · rw [z]; exact Nat.le_refl _
    exact I1.fpOk hle (I1.hok.fresh hle)
/-- of a list or a tuple -/
def iEnumLT (K : PySem.W.Frag) (ta : TA) : TI := fun σ H R => iEnum K ta σ H R ∨ iEnumT K ta σ H R
theorem pi_enumLT {X : Cx} {e : Expr} {ta : TA} {p pos tpos : Pos} {elts : List Expr} {kk : Nat} (hg : Gl X "enumerate") (hm : X.mg "enumerate" = none) (ha : PA X [e] ta) (hs : starEach [e] X.env = [(false, eval e X.env)] := by rfl) :
    PI X (.Tuple elts kk tpos) (.Call (.Name "enumerate" p) [e] [] pos) (iEnumLT X.K ta) :=
  ⟨fun pins s σ H R I h => h.elim ((pi_enum hg hm ha hs).run pins s σ H R I) ((pi_enumT hg hm ha hs).run pins s σ H R I)⟩
theorem pi_enumK {X : Cx} {K : PySem.W.Frag} (hK : X.K = K) {e : Expr} {ta : TA} {p pos tpos : Pos} {elts : List Expr} {kk : Nat} (hg : Gl X "enumerate") (hm : X.mg "enumerate" = none) (ha : PA X [e] ta) (hs : starEach [e] X.env = [(false, eval e X.env)] := by rfl) :
    PI X (.Tuple elts kk tpos) (.Call (.Name "enumerate" p) [e] [] pos) (iEnum K ta) := by subst hK; exact pi_enum hg hm ha hs
theorem walk_enumT {K : PySem.W.Frag} {a : Addr} {xs : List V} : Walk (Itet K a) xs.length (fun H => SqT K H a xs) (YPair (fun i => some (.int (i : Nat))) (fun i => xs[i]?)) := by
  refine ⟨fun i _ hi q => ⟨xs, xs[i], q, by simp [hi]⟩, fun _ q => ⟨xs, q, Nat.le_refl _⟩, fun i H v H' _ q y => ?_⟩
  obtain ⟨T, x, h1, h2, h3, h4⟩ := y
  exact ⟨T, _, x, h1, h2, h3, rfl, h4 xs q⟩
end LK

set_option Elab.async false
set_option linter.all false
set_option maxRecDepth 100000
namespace LK
open PySem PySem.Spec PyProof.Rows L2
/-! ### zip of a tuple and a list: two sources of any kind -/
structure Src (p : Program) (w : World) (it l : Addr) (It : Nat → Heap → Prop) (Con : Array Value → Heap → Prop) : Prop where
  mvI : ∀ {i : Nat} {h g : Heap}, It i h → (∀ o, h.get? it = some o → g.get? it = some o) → It i g
  mvC : ∀ {xs : Array Value} {h g : Heap}, Con xs h → (∀ o, h.get? l = some o → g.get? l = some o) → Con xs g
  fld : ∀ {i : Nat} {h : Heap}, It i h → ∃ o fs, h.get? it = some o ∧ o.data = .fields fs
  more : ∀ {A : Around} {E : Value → Shared → Prop} {s : Shared} {i : Nat} {xs : Array Value} {x : Value} {Q : Value → Shared → Prop}, It i s.heap → Con xs s.heap → xs[i]? = some x →
    (∀ g, It (i + 1) g → Heap.SameBut it s.heap g → Q x { s with heap := g }) → wpAny (model p w) A (Builtin.SmallTypes.nextOf (.ref it)) Q E s
  over : ∀ {A : Around} {E : Value → Shared → Prop} {s : Shared} {i : Nat} {xs : Array Value} {Q : Value → Shared → Prop}, A.handled = none → It i s.heap → Con xs s.heap → xs[i]? = none →
    (∀ g e, Heap.ExtBut it s.heap g → (∃ o, g.get? e = some o ∧ o.cls = .type "StopIteration") → E (.ref e) { s with heap := g }) → wpAny (model p w) A (Builtin.SmallTypes.nextOf (.ref it)) Q E s
theorem src_tup (p : Program) (w : World) (it l : Addr) : Src p w it l (fun i h => h.IsTupleIter it l i) (fun xs h => h.IsTuple l xs) where
  mvI := fun a b => a.at b
  mvC := fun a b => a.at b
  fld := fun ⟨o, e, _, d⟩ => ⟨o, _, e, d⟩
  more := fun a b c k => RZ.nextOf_tuple_item a b c k
  over := fun a b c d k => RZ.nextOf_tuple_end a b c d k
theorem src_lst (p : Program) (w : World) (it l : Addr) : Src p w it l (fun i h => h.IsListIter it l i) (fun xs h => h.IsList l xs) where
  mvI := fun a b => a.at b
  mvC := fun a b => a.at b
  fld := fun ⟨o, e, _, d⟩ => ⟨o, _, e, d⟩
  more := fun a b c k => wpAny_nextOf_list_item a b c k
  over := fun a b c d k => wpAny_nextOf_list_end a b c d k
/-- all that a zip holds, at one point of time -/
structure ZS (z TI TO i1 i2 : Addr) (I1 I2 : Nat → Heap → Prop) (C1 C2 : Array Value → Heap → Prop) (xs ys : Array Value) (h : Heap) (f a b : Value) (k1 k2 : Nat) : Prop where
  oz : IsZip h z TI TO f
  ti : IsPair h TI (.ref i1) (.ref i2)
  tt : IsPair h TO a b
  j1 : I1 k1 h
  j2 : I2 k2 h
  c1 : C1 xs h
  c2 : C2 ys h
section
variable {prog : Program} {w : World} {A : Around} {E : Value → Shared → Prop} {s : Shared} {z TI TO i1 i2 l1 l2 : Addr} {I1 I2 : Nat → Heap → Prop} {C1 C2 : Array Value → Heap → Prop} {xs ys : Array Value} {f a b : Value} {k1 k2 : Nat} {h g : Heap}
theorem ZS.atZ (D : ZipApart z TI TO i1 i2 l1 l2) (S1 : Src prog w i1 l1 I1 C1) (S2 : Src prog w i2 l2 I2 C2) (q : ZS z TI TO i1 i2 I1 I2 C1 C2 xs ys h f a b k1 k2) (e : Heap.ExtBut z h g) {f' : Value} (n : IsZip g z TI TO f') : ZS z TI TO i1 i2 I1 I2 C1 C2 xs ys g f' a b k1 k2 :=
  ⟨n, e _ _ D.TIz q.ti, e _ _ D.TOz q.tt, S1.mvI q.j1 fun o => e _ o D.i1z, S2.mvI q.j2 fun o => e _ o D.i2z, S1.mvC q.c1 fun o => e _ o D.l1z, S2.mvC q.c2 fun o => e _ o D.l2z⟩
theorem ZS.atO (D : ZipApart z TI TO i1 i2 l1 l2) (S1 : Src prog w i1 l1 I1 C1) (S2 : Src prog w i2 l2 I2 C2) (q : ZS z TI TO i1 i2 I1 I2 C1 C2 xs ys h f a b k1 k2) (e : Heap.ExtBut TO h g) {a' b' : Value} (n : IsPair g TO a' b') : ZS z TI TO i1 i2 I1 I2 C1 C2 xs ys g f a' b' k1 k2 :=
  ⟨e _ _ D.TOz.symm q.oz, e _ _ D.TITO q.ti, n, S1.mvI q.j1 fun o => e _ o D.TOi1.symm, S2.mvI q.j2 fun o => e _ o D.TOi2.symm, S1.mvC q.c1 fun o => e _ o D.l1TO, S2.mvC q.c2 fun o => e _ o D.l2TO⟩
theorem ZS.at1 (D : ZipApart z TI TO i1 i2 l1 l2) (S1 : Src prog w i1 l1 I1 C1) (S2 : Src prog w i2 l2 I2 C2) (q : ZS z TI TO i1 i2 I1 I2 C1 C2 xs ys h f a b k1 k2) (e : Heap.ExtBut i1 h g) {k : Nat} (n : I1 k g) : ZS z TI TO i1 i2 I1 I2 C1 C2 xs ys g f a b k k2 :=
  ⟨e _ _ D.i1z.symm q.oz, e _ _ D.TIi1 q.ti, e _ _ D.TOi1 q.tt, n, S2.mvI q.j2 fun o => e _ o D.i12.symm, S1.mvC q.c1 fun o => e _ o D.l1i1, S2.mvC q.c2 fun o => e _ o D.l2i1⟩
theorem ZS.at2 (D : ZipApart z TI TO i1 i2 l1 l2) (S1 : Src prog w i1 l1 I1 C1) (S2 : Src prog w i2 l2 I2 C2) (q : ZS z TI TO i1 i2 I1 I2 C1 C2 xs ys h f a b k1 k2) (e : Heap.ExtBut i2 h g) {k : Nat} (n : I2 k g) : ZS z TI TO i1 i2 I1 I2 C1 C2 xs ys g f a b k1 k :=
  ⟨e _ _ D.i2z.symm q.oz, e _ _ D.TIi2 q.ti, e _ _ D.TOi2 q.tt, S1.mvI q.j1 fun o => e _ o D.i12, n, S1.mvC q.c1 fun o => e _ o D.l1i2, S2.mvC q.c2 fun o => e _ o D.l2i2⟩
/-- what lies beside the zip stays -/
def Stay (z TO i1 i2 : Addr) (h g : Heap) : Prop := ∀ c o, c ≠ z → c ≠ TO → c ≠ i1 → c ≠ i2 → h.get? c = some o → g.get? c = some o
theorem Stay.tr {h1 h2 h3 : Heap} (p : Stay z TO i1 i2 h1 h2) (q : Stay z TO i1 i2 h2 h3) : Stay z TO i1 i2 h1 h3 := fun c o n1 n2 n3 n4 e => q c o n1 n2 n3 n4 (p c o n1 n2 n3 n4 e)
theorem Stay.zz (e : Heap.ExtBut z h g) : Stay z TO i1 i2 h g := fun c o n1 _ _ _ => e c o n1
theorem Stay.o (e : Heap.ExtBut TO h g) : Stay z TO i1 i2 h g := fun c o _ n2 _ _ => e c o n2
theorem Stay.i (e : Heap.ExtBut i1 h g) : Stay z TO i1 i2 h g := fun c o _ _ n3 _ => e c o n3
theorem Stay.j (e : Heap.ExtBut i2 h g) : Stay z TO i1 i2 h g := fun c o _ _ _ n4 => e c o n4
theorem zm_item {x y : Value} {Q : Value → Shared → Prop} (D : ZipApart z TI TO i1 i2 l1 l2) (S1 : Src prog w i1 l1 I1 C1) (S2 : Src prog w i2 l2 I2 C2) (q0 : ZS z TI TO i1 i2 I1 I2 C1 C2 xs ys s.heap .none a b k1 k2) (hx : xs[k1]? = some x) (hy : ys[k2]? = some y)
    (k : ∀ g, ZS z TI TO i1 i2 I1 I2 C1 C2 xs ys g (rawInt s.heap.objs.size) x y (k1 + 1) (k2 + 1) → IsPair g s.heap.objs.size x y → g.objs.size = s.heap.objs.size + 1 → Stay z TO i1 i2 s.heap g → Q (.ref s.heap.objs.size) { s with heap := g }) :
    wpAny (model prog w) A (Builtin.«zip.__next__» ⟨[.ref z], []⟩) (fun r s' => ∃ v, r = .done (.ret v) ∧ Q v s') E s := by
  have oz := q0.oz
  show wpAny (model prog w) _ (field (.ref z) 2 >>= _) _ E _
  refine wpAny_bind (wpAny_field oz rfl (x := .bool false) rfl ?_)
  show wpAny (model prog w) _ (field (.ref z) 3 >>= _) _ E _
  refine wpAny_bind (wpAny_field oz rfl (x := .ref TI) rfl (wpAny_bind (wpAny_seqItems q0.ti rfl ?_)))
  show wpAny (model prog w) _ (Builtin.SmallTypes.ownedTupleIsFree (.ref z) >>= _) _ E _; unfold Builtin.SmallTypes.ownedTupleIsFree
  refine wpAny_bind (wpAny_bind (wpAny_field oz rfl (x := .none) rfl (wpAny_pure ?_)))
  simp only [if_true]
  refine wpAny_bind (wpAny_rule (wpAny_bind (wpAny_field oz rfl (x := .ref TO) rfl (wpAny_bind (wpAny_setField_rec oz (by simp) fun g1 z1 e1 => ?_)))))
  have q1 := q0.atZ D S1 S2 e1.extBut (f' := .ellipsis) z1
  have t1 : Stay z TO i1 i2 s.heap g1 := .zz e1.extBut
  simp only [List.forIn_cons, List.forIn_nil, List.zipIdx_cons, List.zipIdx_nil]
  refine wpAny_bind (wpAny_bind (wpAny_bind (wpAny_onRaise ?_)))
  show wpAny (model prog w) _ (Builtin.SmallTypes.nextOf (.ref i1) >>= _) _ _ _
  refine wpAny_bind (S1.more q1.j1 q1.c1 hx fun g2 n2 e2 => wpAny_pure ?_)
  have q2 := q1.at1 D S1 S2 e2.extBut n2
  have t2 := t1.tr (.i e2.extBut)
  refine wpAny_bind (wpAny_seqItems q2.tt rfl (wpAny_bind (wpAny_updateSeq_pair q2.tt fun g3 n3 e3 => ?_)))
  have q3 := q2.atO D S1 S2 e3.extBut (a' := x) (b' := b) n3
  have t3 := t2.tr (.o e3.extBut)
  refine wpAny_bind (wpAny_letGo (wpAny_pure (wpAny_bind (wpAny_bind (wpAny_onRaise ?_)))))
  show wpAny (model prog w) _ (Builtin.SmallTypes.nextOf (.ref i2) >>= _) _ _ _
  refine wpAny_bind (S2.more q3.j2 q3.c2 hy fun g4 n4 e4 => wpAny_pure ?_)
  have q4 := q3.at2 D S1 S2 e4.extBut n4
  have t4 := t3.tr (.j e4.extBut)
  refine wpAny_bind (wpAny_seqItems q4.tt rfl (wpAny_bind (wpAny_updateSeq_pair q4.tt fun g5 n5 e5 => ?_)))
  have q5 := q4.atO D S1 S2 e5.extBut (a' := x) (b' := y) n5
  have t5 := t4.tr (.o e5.extBut)
  have sz : g5.objs.size = s.heap.objs.size := by rw [e5.1, e4.1, e3.1, e2.1, e1.1]
  refine wpAny_bind (wpAny_letGo (wpAny_pure (wpAny_pure (wpAny_bind (wpAny_seqItems q5.tt rfl (wpAny_bind (wpAny_newTuple ?_)))))))
  show wpAny (model prog w) _ (Builtin.SmallTypes.ownedTupleHandOut (.ref z) (.ref g5.objs.size) >>= _) _ E _; unfold Builtin.SmallTypes.ownedTupleHandOut
  have pz : IsZip (g5.push { cls := .type "tuple", data := .seq #[x, y] }) z TI TO .ellipsis := Heap.get?_push_of_some _ q5.oz
  refine wpAny_bind (wpAny_bind (wpAny_setField_rec pz (by simp) fun g7 z7 e7 => ?_))
  have z7' : IsZip g7 z TI TO (rawInt g5.objs.size) := z7
  refine wpAny_setField_rec z7' (by simp) fun g8 z8 e8 => ?_
  have z8' : IsZip g8 z TI TO (rawInt g5.objs.size) := z8
  have e58 : Heap.ExtBut z g5 g8 := fun c o n e => e8.extBut _ _ n (e7.extBut _ _ n (Heap.get?_push_of_some _ e))
  have q8 := q5.atZ D S1 S2 e58 z8'
  have nz : g5.objs.size ≠ z := Nat.ne_of_gt (Heap.lt_size q5.oz)
  have p8 : IsPair g8 g5.objs.size x y := e8.extBut _ _ nz (e7.extBut _ _ nz (Heap.get?_push_size _ rfl))
  have s8 : g8.objs.size = g5.objs.size + 1 := by rw [e8.1, e7.1, Heap.size_push]
  refine wpAny_pure ⟨.ref g5.objs.size, rfl, ?_⟩
  rw [sz] at q8 p8 s8 ⊢
  exact k g8 q8 p8 s8 (t5.tr (.zz e58))
/-- the last turn: one of the two has no more -/
theorem zm_end {Q : Fin → Shared → Prop} (hh : A.handled = none) (D : ZipApart z TI TO i1 i2 l1 l2) (S1 : Src prog w i1 l1 I1 C1) (S2 : Src prog w i2 l2 I2 C2) (q0 : ZS z TI TO i1 i2 I1 I2 C1 C2 xs ys s.heap .none a b k1 k2) (he : xs[k1]? = none ∨ ys[k2]? = none)
    (k : ∀ g e, Stay z TO i1 i2 s.heap g → (∃ o, g.get? e = some o ∧ o.cls = .type "StopIteration") → E (.ref e) { s with heap := g }) : wpAny (model prog w) A (Builtin.«zip.__next__» ⟨[.ref z], []⟩) Q E s := by
  have oz := q0.oz
  show wpAny (model prog w) _ (field (.ref z) 2 >>= _) _ E _
  refine wpAny_bind (wpAny_field oz rfl (x := .bool false) rfl ?_)
  show wpAny (model prog w) _ (field (.ref z) 3 >>= _) _ E _
  refine wpAny_bind (wpAny_field oz rfl (x := .ref TI) rfl (wpAny_bind (wpAny_seqItems q0.ti rfl ?_)))
  show wpAny (model prog w) _ (Builtin.SmallTypes.ownedTupleIsFree (.ref z) >>= _) _ E _; unfold Builtin.SmallTypes.ownedTupleIsFree
  refine wpAny_bind (wpAny_bind (wpAny_field oz rfl (x := .none) rfl (wpAny_pure ?_)))
  simp only [if_true]
  refine wpAny_bind (wpAny_rule (wpAny_bind (wpAny_field oz rfl (x := .ref TO) rfl (wpAny_bind (wpAny_setField_rec oz (by simp) fun g1 z1 e1 => ?_)))))
  have q1 := q0.atZ D S1 S2 e1.extBut (f' := .ellipsis) z1
  have t1 : Stay z TO i1 i2 s.heap g1 := .zz e1.extBut
  have fin : ∀ {g2 : Heap} {e : Addr}, IsZip g2 z TI TO .ellipsis → Stay z TO i1 i2 s.heap g2 → (∃ o, g2.get? e = some o ∧ o.cls = .type "StopIteration") → ∀ g3, Heap.SameBut z g2 g3 → E (.ref e) { s with heap := g3 } := fun z2 t2 ⟨o, h1, h2⟩ g3 e3 =>
    k _ _ (t2.tr (.zz e3.extBut)) ⟨o, e3.extBut _ _ (fun n => by subst n; rw [z2] at h1; cases h1; simp at h2) h1, h2⟩
  simp only [List.forIn_cons, List.forIn_nil, List.zipIdx_cons, List.zipIdx_nil]
  refine wpAny_bind (wpAny_bind (wpAny_bind (wpAny_onRaise ?_)))
  show wpAny (model prog w) _ (Builtin.SmallTypes.nextOf (.ref i1) >>= _) _ _ _
  by_cases hx : xs[k1]? = none
  · refine wpAny_bind (S1.over hh q1.j1 q1.c1 hx fun g2 e e2 so => ?_)
    have z2 := e2 _ _ D.i1z.symm q1.oz
    exact wpAny_setField_rec z2 (by simp) fun g3 _ e3 => fin z2 (t1.tr (.i e2)) so g3 e3
  · obtain ⟨x, hx1⟩ := Option.ne_none_iff_exists'.mp hx
    have hy := he.resolve_left hx
    refine wpAny_bind (S1.more q1.j1 q1.c1 hx1 fun g2 n2 e2 => wpAny_pure ?_)
    have q2 := q1.at1 D S1 S2 e2.extBut n2
    refine wpAny_bind (wpAny_seqItems q2.tt rfl (wpAny_bind (wpAny_updateSeq_pair q2.tt fun g3 n3 e3 => ?_)))
    have q3 := q2.atO D S1 S2 e3.extBut (a' := x) (b' := b) n3
    refine wpAny_bind (wpAny_letGo (wpAny_pure (wpAny_bind (wpAny_bind (wpAny_onRaise ?_)))))
    show wpAny (model prog w) _ (Builtin.SmallTypes.nextOf (.ref i2) >>= _) _ _ _
    refine wpAny_bind (S2.over hh q3.j2 q3.c2 hy fun g4 e e4 so => ?_)
    have z4 := e4 _ _ D.i2z.symm q3.oz
    exact wpAny_setField_rec z4 (by simp) fun g5 _ e5 => fin z4 (((t1.tr (.i e2.extBut)).tr (.o e3.extBut)).tr (.j e4)) so g5 e5
theorem zm_next {x y : Value} {Q : Option Value → Shared → Prop} (D : ZipApart z TI TO i1 i2 l1 l2) (S1 : Src prog w i1 l1 I1 C1) (S2 : Src prog w i2 l2 I2 C2) (q0 : ZS z TI TO i1 i2 I1 I2 C1 C2 xs ys s.heap .none a b k1 k2) (hx : xs[k1]? = some x) (hy : ys[k2]? = some y)
    (k : ∀ g, ZS z TI TO i1 i2 I1 I2 C1 C2 xs ys g (rawInt s.heap.objs.size) x y (k1 + 1) (k2 + 1) → IsPair g s.heap.objs.size x y → g.objs.size = s.heap.objs.size + 1 → Stay z TO i1 i2 s.heap g → Q (some (.ref s.heap.objs.size)) { s with heap := g }) : wpAny (model prog w) A (pyNext (.ref z)) Q E s := by
  have ty : s.TypeIs (.ref z) "zip" := ⟨_, q0.oz, rfl⟩
  unfold pyNext
  exact wpAny_bind (wpAny_attempt (wpAny_callSpecial?_slot (name := Str.ofString "__next__") ty F.slot_zip_next (wpAny_call_entry F.slot_zip_next ty F.entry_zip_next (zm_item D S1 S2 q0 hx hy fun g p1 p2 p3 p4 => wpAny_pure (k g p1 p2 p3 p4)) (F.args_zip_next_1 _))))
theorem zm_stop {Q : Option Value → Shared → Prop} (hh : A.handled = none) (D : ZipApart z TI TO i1 i2 l1 l2) (S1 : Src prog w i1 l1 I1 C1) (S2 : Src prog w i2 l2 I2 C2) (q0 : ZS z TI TO i1 i2 I1 I2 C1 C2 xs ys s.heap .none a b k1 k2) (he : xs[k1]? = none ∨ ys[k2]? = none)
    (k : ∀ g, Stay z TO i1 i2 s.heap g → Q none { s with heap := g }) : wpAny (model prog w) A (pyNext (.ref z)) Q E s := by
  have ty : s.TypeIs (.ref z) "zip" := ⟨_, q0.oz, rfl⟩
  unfold pyNext
  refine wpAny_bind (wpAny_attempt (wpAny_callSpecial?_slot (name := Str.ofString "__next__") ty F.slot_zip_next (wpAny_call_entry F.slot_zip_next ty F.entry_zip_next (zm_end hh D S1 S2 q0 he fun g e st so => ?_) (F.args_zip_next_1 _))))
  obtain ⟨o, h1, h2⟩ := so
  exact wpAny_bind (wpAny_isInstance (T := "StopIteration") (b := true) ⟨o, h1, h2⟩ isSubtype_stop (wpAny_pure (k _ st)))
end
/-- the five new objects of zip(tuple, list) -/
def zp1 (h : Heap) (l1 : Addr) : Heap := h.push { cls := .type "tuple_iterator", data := .fields #[.ref l1, .int 0 0] }
def zp2 (h : Heap) (l1 l2 : Addr) : Heap := (zp1 h l1).push { cls := .type "list_iterator", data := .fields #[.ref l2, .int 0 0] }
def zp3 (h : Heap) (l1 l2 : Addr) : Heap := (zp2 h l1 l2).push { cls := .type "tuple", data := .seq #[.ref h.objs.size, .ref (zp1 h l1).objs.size] }
def zp4 (h : Heap) (l1 l2 : Addr) : Heap := (zp3 h l1 l2).push { cls := .type "tuple", data := .seq #[.none, .none] }
def zp5 (h : Heap) (l1 l2 : Addr) : Heap := (zp4 h l1 l2).push { cls := .type "zip", data := .fields #[.none, .bool false, .bool false, .ref (zp2 h l1 l2).objs.size, .ref (zp3 h l1 l2).objs.size] }
theorem zp_new (l1 l2 : Addr) (xs ys : Array Value) : Meets (Builtin.«zip.__new__» ⟨[.type "zip", .ref l1, .ref l2], []⟩) fun _ R s => s.heap.IsTuple l1 xs ∧ s.heap.IsList l2 ys ∧ R (.ok (.ret (.ref (zp4 s.heap l1 l2).objs.size))) { s with heap := zp5 s.heap l1 l2 } :=
  .of_wp fun pr wd ar R s h => by
    obtain ⟨hp, gl, dd, tk, os⟩ := s
    obtain ⟨h1, h2, h⟩ := h
    have hsub := sub_zip
    have t1 : Heap.IsTuple (Shared.heap ⟨hp, gl, dd, tk, os⟩) l1 xs := h1
    have t2 : Heap.IsList (Shared.heap ⟨hp.push { cls := .type "tuple_iterator", data := .fields #[.ref l1, .int 0 0] }, gl, dd, tk, os⟩) l2 ys := Heap.IsList.push h2 _
    wp_walk using wpAny_pyIter_tuple t1, wpAny_pyIter_list t2
    exact ⟨_, rfl, h⟩
section
variable {prog : Program} {w : World} {s : Shared} {A : Around} {E : Value → Shared → Prop}
theorem call_zipM {l1 l2 : Addr} {xs ys : Array Value} {Q : Value → Shared → Prop} (h1 : s.heap.IsTuple l1 xs) (h2 : s.heap.IsList l2 ys)
    (k : ∀ g, IsZip g (s.heap.objs.size + 4) (s.heap.objs.size + 2) (s.heap.objs.size + 3) .none → IsPair g (s.heap.objs.size + 2) (.ref s.heap.objs.size) (.ref (s.heap.objs.size + 1)) → IsPair g (s.heap.objs.size + 3) .none .none →
      g.IsTupleIter s.heap.objs.size l1 0 → g.IsListIter (s.heap.objs.size + 1) l2 0 → (∀ c o, s.heap.get? c = some o → g.get? c = some o) → Q (.ref (s.heap.objs.size + 4)) { s with heap := g }) : wpAny (model prog w) A (call (.type "zip") [.ref l1, .ref l2]) Q E s := by
  refine callType_new F.called_zip (by decide) (F.typeCall_zip_2 _ _) (F.newCall_zip_2 _ _) (fun obj => F.args_object_init_3 obj _ _) F.entry_zip_new (zp_new l1 l2 xs ys) ⟨h1, h2, ?_⟩
  have n1 : (zp1 s.heap l1).objs.size = s.heap.objs.size + 1 := Heap.size_push _ _
  have n2 : (zp2 s.heap l1 l2).objs.size = s.heap.objs.size + 2 := (Heap.size_push _ _).trans (by rw [n1])
  have n3 : (zp3 s.heap l1 l2).objs.size = s.heap.objs.size + 3 := (Heap.size_push _ _).trans (by rw [n2])
  have n4 : (zp4 s.heap l1 l2).objs.size = s.heap.objs.size + 4 := (Heap.size_push _ _).trans (by rw [n3])
  have m5 : IsZip (zp5 s.heap l1 l2) (zp4 s.heap l1 l2).objs.size (zp2 s.heap l1 l2).objs.size (zp3 s.heap l1 l2).objs.size .none := Heap.get?_push_size _ rfl
  have m4 : IsPair (zp5 s.heap l1 l2) (zp3 s.heap l1 l2).objs.size .none .none := Heap.get?_push_of_some _ (Heap.get?_push_size _ rfl)
  have m3 : IsPair (zp5 s.heap l1 l2) (zp2 s.heap l1 l2).objs.size (.ref s.heap.objs.size) (.ref (zp1 s.heap l1).objs.size) := Heap.get?_push_of_some _ (Heap.get?_push_of_some _ (Heap.get?_push_size _ rfl))
  have m2 : (zp5 s.heap l1 l2).IsListIter (zp1 s.heap l1).objs.size l2 0 := ⟨_, Heap.get?_push_of_some _ (Heap.get?_push_of_some _ (Heap.get?_push_of_some _ (Heap.get?_push_size _ rfl))), rfl, rfl⟩
  have m1 : (zp5 s.heap l1 l2).IsTupleIter s.heap.objs.size l1 0 := ⟨_, Heap.get?_push_of_some _ (Heap.get?_push_of_some _ (Heap.get?_push_of_some _ (Heap.get?_push_of_some _ (Heap.get?_push_size _ rfl)))), rfl, rfl⟩
  have m0 : ∀ c o, s.heap.get? c = some o → (zp5 s.heap l1 l2).get? c = some o := fun c o e => Heap.get?_push_of_some _ (Heap.get?_push_of_some _ (Heap.get?_push_of_some _ (Heap.get?_push_of_some _ (Heap.get?_push_of_some _ e))))
  rw [n2, n3, n4] at m5
  rw [n3] at m4
  rw [n2, n1] at m3
  rw [n1] at m2
  show _ ∧ _
  rw [n4]
  exact ⟨⟨_, m5, rfl⟩, k _ m5 m3 m4 m1 m2 m0⟩
end
def ItzM (K : PySem.W.Frag) (a b : Addr) : It where
  go := fun i H => ∃ (xs ys : List V) (x y : V), SqT K H a xs ∧ SqL K H b ys ∧ xs[i]? = some x ∧ ys[i]? = some y
  yld := fun i H v H' => ∃ T x y, v = .ref T ∧ H T = none ∧ H' = L2.upd H T (.tup [x, y]) ∧ (∀ xs, SqT K H a xs → xs[i]? = some x) ∧ ∀ ys, SqL K H b ys → ys[i]? = some y
  stop := fun i H => ∃ xs ys : List V, SqT K H a xs ∧ SqL K H b ys ∧ (xs.length ≤ i ∨ ys.length ≤ i)
def tnM (z TI TO i1 i2 a b : Addr) (i : Nat) (h : Heap) : Prop := ∃ x y, IsZip h z TI TO .none ∧ IsPair h TI (.ref i1) (.ref i2) ∧ IsPair h TO x y ∧ h.IsTupleIter i1 a i ∧ h.IsListIter i2 b i
theorem turn_zipM {P : Program} {w : World} {K : PySem.W.Frag} {elts : List Expr} {kk : Nat} {tpos : Pos} {a b z TI TO i1 i2 : Addr} (D : ZipApart z TI TO i1 i2 a b) : Turn P w K (.Tuple elts kk tpos) (ItzM K a b) [z, TI, TO, i1, i2] z (tnM z TI TO i1 i2 a b) where
  mem := List.mem_cons_self
  obj := fun i h ⟨x, y, h1, h2, h3, h4, h5⟩ c hc => by
    obtain ⟨o4, f4, e4, d4⟩ := (src_tup P w i1 a).fld h4
    obtain ⟨o5, f5, e5, d5⟩ := (src_lst P w i2 b).fld h5
    simp only [List.mem_cons, List.not_mem_nil, or_false] at hc
    rcases hc with rfl | rfl | rfl | rfl | rfl
    · exact ⟨_, h1, fun v q => nomatch q⟩
    · exact ⟨_, h2, fun v q => nomatch q⟩
    · exact ⟨_, h3, fun v q => nomatch q⟩
    · exact ⟨o4, e4, fun v q => by rw [d4] at q; cases q⟩
    · exact ⟨o5, e5, fun v q => by rw [d5] at q; cases q⟩
  keep := fun i h g ⟨x, y, h1, h2, h3, h4, h5⟩ k => ⟨x, y, k z (by simp) _ h1, k TI (by simp) _ h2, k TO (by simp) _ h3, (src_tup P w i1 a).mvI h4 fun o => k i1 (by simp) o, (src_lst P w i2 b).mvI h5 fun o => k i2 (by simp) o⟩
  item := by
    rintro X rfl rfl rfl hc i pins s σ H E I hf ⟨x0, y0, h1, h2, h3, h4, h5⟩ ⟨xs, ys, x, y, qx, qy, ex, ey⟩
    obtain ⟨its, rv, p, _⟩ := I.tuple qx
    obtain ⟨jts, rw', p', _⟩ := I.list qy
    obtain ⟨u, eu, ru⟩ := rv.get ex
    obtain ⟨v, ev, rvv⟩ := rw'.get ey
    refine zm_next D (src_tup X.prog X.w i1 a) (src_lst X.prog X.w i2 b) ⟨h1, h2, h3, h4, h5, (show s.heap.IsTuple a its.toArray from p), p'.isList⟩ (x := u) (y := v) (by simpa using eu) (by simpa using ev) fun g q pp sz st => ⟨_, rfl, wpAny_letOwnedTupleGo_zip (s := { s with heap := g }) q.oz fun g2 z2 e2 => ?_⟩
    have q2 := q.atZ D (src_tup X.prog X.w i1 a) (src_lst X.prog X.w i2 b) e2.extBut z2
    have nz : s.heap.objs.size ≠ z := Nat.ne_of_gt (Heap.lt_size h1)
    have pp2 : IsPair g2 s.heap.objs.size u v := e2.extBut _ _ nz pp
    have ok : ObjOk X.prog X.w (L2.upd H s.heap.objs.size (.tup [x, y])) g2 s.heap.objs.size (.tup [x, y]) := ⟨by show 2 ≤ sizeLine; decide, [u, v], .cons ru (.cons rvv .nil), ⟨_, pp2, rfl, _, rfl⟩⟩
    have st2 : Stay z TO i1 i2 s.heap g2 := st.tr (.zz e2.extBut)
    have I2 : Inv X pins σ (L2.upd H s.heap.objs.size (.tup [x, y])) { s with heap := g2 } := I.turnedNew (t' := s.toks) (ch := [z, TI, TO, i1, i2]) (fun c o hb e => st2 c o (fun n => hb (by simp [n])) (fun n => hb (by simp [n])) (fun n => hb (by simp [n])) (fun n => hb (by simp [n])) e) hf (Nat.le_refl _) ok
    refine ⟨.ref s.heap.objs.size, _, I2, rfl, ⟨_, x, y, rfl, I.hok.fresh (Nat.le_refl _), rfl, fun l hl => by rw [I.tuple_inj hl qx]; exact ex, fun l hl => by rw [I.list_inj hl qy]; exact ey⟩, ⟨u, v, q2.oz, q2.ti, q2.tt, q2.j1, q2.j2⟩, fun c hcm => ?_⟩
    have lt : c < s.heap.objs.size := by
      obtain ⟨o4, _, e4, _⟩ := (src_tup X.prog X.w i1 a).fld h4
      obtain ⟨o5, _, e5, _⟩ := (src_lst X.prog X.w i2 b).fld h5
      have m := hcm
      simp only [List.mem_cons, List.not_mem_nil, or_false] at m
      rcases m with rfl | rfl | rfl | rfl | rfl
      · exact Heap.lt_size h1
      · exact Heap.lt_size h2
      · exact Heap.lt_size h3
      · exact Heap.lt_size e4
      · exact Heap.lt_size e5
    rw [upd_ne (Nat.ne_of_lt lt)]
    exact (hf c hcm).1
  done := by
    rintro X rfl rfl rfl hc i pins s σ H E I hf ⟨x0, y0, h1, h2, h3, h4, h5⟩ ⟨xs, ys, qx, qy, he⟩
    obtain ⟨its, rv, p, _⟩ := I.tuple qx
    obtain ⟨jts, rw', p', _⟩ := I.list qy
    have l1 := rv.length
    have l2 := rw'.length
    refine zm_stop (I.ok.hd hc) D (src_tup X.prog X.w i1 a) (src_lst X.prog X.w i2 b) ⟨h1, h2, h3, h4, h5, (show s.heap.IsTuple a its.toArray from p), p'.isList⟩ (he.imp (fun l => by simp; omega) fun l => by simp; omega) fun g st => ⟨rfl, I.turnedL (t' := s.toks) (ch := [z, TI, TO, i1, i2]) (fun c o hb e => st c o (fun n => hb (by simp [n])) (fun n => hb (by simp [n])) (fun n => hb (by simp [n])) (fun n => hb (by simp [n])) e) hf⟩
  self := fun A i s Q E ⟨_, _, h1, _⟩ k => wpAny_pyIter_zip h1 k
def iZipM (K : PySem.W.Frag) (ta : TA) : TI := fun σ H R => ta σ H fun vs H1 => ∃ a b xs ys, vs = [.ref a, .ref b] ∧ SqT K H1 a xs ∧ SqL K H1 b ys ∧ R (ItzM K a b) H1
theorem pi_zipM {X : Cx} {e e2 : Expr} {ta : TA} {p pos tpos : Pos} {elts : List Expr} {kk : Nat} (hg : Gl X "zip") (hm : X.mg "zip" = none) (ha : PA X [e, e2] ta) (hs : starEach [e, e2] X.env = (false, eval e X.env) :: starEach [e2] X.env := by rfl) (hpl : (backTo pos (starEach [e2] X.env)).any (·.1) = false := by rfl) :
    PI X (.Tuple elts kk tpos) (.Call (.Name "zip" p) [e, e2] [] pos) (iZipM X.K ta) := by
  refine ⟨fun pins s σ H R I h => Call_ (ld_blt I hg hm PyProof.Rows.boot_zip (PyProof.Rows.callWith_type1 (thn (ha.run pos pins s σ H _ I h) fun us s1 ⟨vs, H1, I1, r1, a, b, xs, ys, ex, qx, qy, q⟩ => ?_) hs hpl))⟩
  subst ex
  obtain _ | ⟨r, r'⟩ := r1
  obtain _ | ⟨r2, r''⟩ := r'
  cases r''
  cases r
  cases r2
  obtain ⟨its, rv, p1, _⟩ := I1.tuple qx
  obtain ⟨jts, rw', p2, _⟩ := I1.list qy
  obtain ⟨o1, ho1, _⟩ := id p1
  refine call_zipM (show s1.heap.IsTuple a its.toArray from p1) p2.isList fun g z1 z2 z3 z4 z5 k => wpAny_pyIter_zip z1 ?_
  have I2 : Inv X pins σ H1 { s1 with heap := g } := I1.kept (t' := s1.toks) k
  refine ⟨s1.heap.objs.size + 4, [s1.heap.objs.size + 4, s1.heap.objs.size + 2, s1.heap.objs.size + 3, s1.heap.objs.size, s1.heap.objs.size + 1], _, _, H1, rfl, I2, turn_zipM (PySem.W.ktu_apart s1.heap.objs.size a b (Heap.lt_size ho1) p2.lt), ⟨_, _, z1, z2, z3, z4, z5⟩, fun c hc => ?_, q⟩
  have le : s1.heap.objs.size ≤ c := by
    simp only [List.mem_cons, List.not_mem_nil, or_false] at hc
    rcases hc with rfl | rfl | rfl | rfl | rfl
    · exact Nat.le_add_right _ _
    · exact Nat.le_add_right _ _
    · exact Nat.le_add_right _ _
    · exact Nat.le_refl _
    · exact Nat.le_add_right _ _
  exact I1.fpOk le (I1.hok.fresh le)
theorem walk_zipM {K : PySem.W.Frag} {a b : Addr} {xs ys : List V} {n : Nat} (hx : xs.length = n) (hy : ys.length = n) : Walk (ItzM K a b) n (fun H => SqT K H a xs ∧ SqL K H b ys) (YPair (fun i => xs[i]?) fun i => ys[i]?) where
  goes := fun i _ hi q => ⟨xs, ys, xs[i]'(by omega), ys[i]'(by omega), q.1, q.2, List.getElem?_eq_getElem _, List.getElem?_eq_getElem _⟩
  stops := fun _ q => ⟨xs, ys, q.1, q.2, .inl (by omega)⟩
  yields := fun i H v H' _ q ⟨T, x, y, h1, h2, h3, h4, h5⟩ => ⟨T, x, y, h1, h2, h3, h4 xs q.1, h5 ys q.2⟩
end LK

set_option Elab.async false
set_option linter.all false
set_option maxRecDepth 100000
namespace LK
open PySem PySem.Spec PyProof.Rows L2
/-! ### rules with K in the place of X.K -/
section
variable {X : Cx} {K : PySem.W.Frag}
/-- of a list or a tuple -/
def rIxLT (K : PySem.W.Frag) : R2 := fun x y H Q => ∃ p xs i z, x = .ref p ∧ y = .int i ∧ (SqL K H p xs ∨ SqT K H p xs) ∧ atI xs i = some z ∧ Q z H
theorem ix_lt : IxR X (rIxLT X.K) := by
  intro value slice pins s σ H x y v u Q I rx ry h hs
  obtain ⟨p, xs, i, z, e1, e2, hq | hq, he, q⟩ := h
  · exact ix_list value slice pins s σ H x y v u Q I rx ry ⟨p, xs, i, z, e1, e2, hq, he, q⟩ hs
  · exact ix_tup value slice pins s σ H x y v u Q I rx ry ⟨p, xs, i, z, e1, e2, hq, he, q⟩ hs
theorem ix_ltK (hK : X.K = K) : IxR X (rIxLT K) := by subst hK; exact ix_lt
theorem ix_listK (hK : X.K = K) : IxR X (rIxL K) := by subst hK; exact ix_list
theorem ix_tupK (hK : X.K = K) : IxR X (rIxT K) := by subst hK; exact ix_tup
theorem sl_tupUK (hK : X.K = K) : SlR X (rSlU K) := by subst hK; exact sl_tupU
theorem sl_listUK (hK : X.K = K) : SlR X (rSlLU K) := by subst hK; exact sl_listU
theorem op_catUK (hK : X.K = K) : OpR X (binaryOp .Add) (rCatU K) := by subst hK; exact op_catU
theorem op_eqDK (hK : X.K = K) (hu : X.A.units + 64 < cLine) : OpR X (compareOp .Eq) (rEqD K) := by subst hK; exact op_eqD hu
theorem op_neDK (hK : X.K = K) (hu : X.A.units + 64 < cLine) : OpR X (compareOp .NotEq) (rNeD K) := by subst hK; exact op_neD hu
theorem call_tupleNK (hK : X.K = K) : CallR X (.type "tuple") (fun xs H Q => ∃ p ys, xs = [.ref p] ∧ SqL K H p ys ∧ ∀ q H', Same H H' → H q = none → H' q = some (.tup ys) → Q (.ref q) H') := by subst hK; exact call_tupleN
theorem call_tupleUK (hK : X.K = K) : CallR X (.type "tuple") (fun xs H Q => ∃ p ys, xs = [.ref p] ∧ (SqL K H p ys ∨ SqT K H p ys) ∧ ∀ q H', Same H H' → SqT K H' q ys → Q (.ref q) H') := by subst hK; exact call_tupleU
theorem call_listUK (hK : X.K = K) : CallR X (.type "list") (fun xs H Q => ∃ p ys, xs = [.ref p] ∧ (SqL K H p ys ∨ SqT K H p ys) ∧ ∀ l H2, Same H H2 → H l = none → H2 l = some (.lst ys) → Q (.ref l) H2) := by subst hK; exact call_listU
theorem call_len_seqK (hK : X.K = K) : CallR X (.builtin "len") (fun xs H Q => ∃ p ys, xs = [.ref p] ∧ (SqL K H p ys ∨ SqT K H p ys) ∧ Q (.int ys.length) H) := by subst hK; exact call_len_seq
theorem cr_sumK (hK : X.K = K) (hc : X.calm = true) : CallR X (.builtin "sum") (rSum K) := by subst hK; exact cr_sum hc
theorem cr_maxK (hK : X.K = K) (hc : X.calm = true) : CallR X (.builtin "max") (rMax K) := by subst hK; exact cr_max hc
theorem cr_allK (hK : X.K = K) (hc : X.calm = true) : CallR X (.builtin "all") (rAll K) := by subst hK; exact cr_all hc
theorem pi_listK (hK : X.K = K) {tg l : Expr} {tl : TE} (hl : PE X l tl) : PI X tg l (iList K tl) := by subst hK; exact pi_list hl
theorem pi_tupK (hK : X.K = K) {tg l : Expr} {tl : TE} (hl : PE X l tl) : PI X tg l (iTup K tl) := by subst hK; exact pi_tup hl
def iLT (K : PySem.W.Frag) (tl : TE) : TI := fun σ H R => iList K tl σ H R ∨ iTup K tl σ H R
theorem pi_lt {tg l : Expr} {tl : TE} (hl : PE X l tl) : PI X tg l (iLT X.K tl) :=
  ⟨fun pins s σ H R I h => h.elim ((pi_list hl).run pins s σ H R I) ((pi_tup hl).run pins s σ H R I)⟩
theorem pi_ltK (hK : X.K = K) {tg l : Expr} {tl : TE} (hl : PE X l tl) : PI X tg l (iLT K tl) := by subst hK; exact pi_lt hl
end
end LK

set_option Elab.async false
set_option linter.all false
set_option maxRecDepth 100000
set_option maxHeartbeats 4000000
/-! ### tuple(d): the keys of a dict -/
namespace LK
open PySem PySem.W PySem.Calls PySem.Spec PyProof.Rows L2
section
variable {prog : Program} {w : World} {A : Around} {E : Value → Shared → Prop} {s : Shared} {T : String} {r d : Addr} {n : Nat} {P : Nat → Value → Prop} {OK : Heap → Prop}
theorem collect_src (K : KdlSrc prog w T r d n P OK) (hh : A.handled = none) (hok : OK s.heap) (hn : n ≤ sizeLine) {Q : List Value → Shared → Prop}
    (hQ : ∀ (h' : Heap) (tk : Nat) (acc : Array Value), (∀ b o, s.heap.get? b = some o → h'.get? b = some o) → ItemsOf P acc n → Q acc.toList { s with heap := h', toks := tk }) : wpAny (model prog w) A (collect (.ref r)) Q E s := by
  have there := K.there _ hok
  have okp : OK (s.heap.push { cls := .type "list", data := .seq ([] : List Value).toArray }) := K.keep _ _ hok fun b _ o e => Heap.get?_push_of_some _ e
  have newL : (s.heap.push { cls := .type "list", data := .seq ([] : List Value).toArray }).get? s.heap.objs.size = some { cls := .type "list", data := .seq #[] 0 } := Heap.get?_push_size _ rfl
  let Done : Result → Shared → Prop := fun rr s' => rr = .ok (.ret (.ref s.heap.objs.size)) ∧ ∃ (h' : Heap) (tk : Nat) (acc : Array Value) (c' : Nat), s' = { s with heap := h', toks := tk } ∧ (∀ b o, s.heap.get? b = some o → h'.get? b = some o) ∧
    h'.get? s.heap.objs.size = some { cls := .type "list", dict := none, data := .seq acc c', slots := #[] } ∧ ItemsOf P acc n
  have ext := kdl_extend (A := A) (R := Done) (s := { s with heap := s.heap.push { cls := .type "list", data := .seq ([] : List Value).toArray } }) K hh okp s.heap.objs.size (Nat.ne_of_gt there.1) (Nat.ne_of_gt there.2) (.ref s.heap.objs.size) 0 newL
    (fun h' tk acc c' hk at_ its => ⟨rfl, h', tk, acc, c', rfl, fun b o q => hk b o (Nat.ne_of_lt (Heap.lt_size q)) (Heap.get?_push_of_some _ q), at_, its⟩) hn
  have fin : ∀ s', Done (.ok (.ret (.ref s.heap.objs.size))) s' → wpAny (model prog w) A (load s.heap.objs.size >>= fun o => match o.data with | Data.seq xs _ => pure xs.toList | _ => unsupported "internal:collect") Q E s' := by
    rintro s' ⟨_, h', tk, acc, c', rfl, hk, at_, its⟩
    exact wpAny_bind (wpAny_load at_ (wpAny_pure (hQ h' tk acc hk its)))
  unfold collect
  refine wpAny_bind (wpAny_runValue (codeAny_builtin F.entry_proto_collect ?_))
  rw [Around.under_plainId F.plain_proto_collect _]
  refine wpAny_bind (wpAny_newObj_type (wpAny_pure ⟨plainId_quiet F.plain_list_iadd _, codeAny_builtin F.entry_list_iadd ?_⟩))
  rw [Around.under_plainId F.plain_list_iadd _]
  refine wpAny_mono ext (fun f s' h => ?_) (fun e s' h => absurd h.1 (by simp))
  cases f with
  | done f =>
    have e := h.1
    cases e
    exact fin s' h
  | again c' => exact ⟨h.1, codeAny_mono h.2 fun rr s'' hr => by
      have e := hr.1
      subst e
      exact fin s'' hr⟩
theorem tuple_src (K : KdlSrc prog w "dict" r d n P OK) (hh : A.handled = none) (hok : OK s.heap) (hn : n ≤ sizeLine) {Q : Value → Shared → Prop}
    (hQ : ∀ (h' : Heap) (tk : Nat) (acc : Array Value), (∀ b o, s.heap.get? b = some o → h'.get? b = some o) → ItemsOf P acc n → Q (.ref h'.objs.size) { s with heap := h'.push { cls := .type "tuple", data := .seq acc }, toks := tk }) :
    wpAny (model prog w) A (call (.type "tuple") [.ref r]) Q E s := by
  refine callType_codes (Q₁ := fun obj s₁ => s₁.TypeIs obj "tuple" ∧ Q obj s₁) F.called_tuple (F.typeCall_tuple_1 _) F.entry_object_init (codeAny_of_tree ?_) fun obj s₁ h₁ =>
    ⟨h₁.1, F.args_object_init_2 obj _, object_init_meets F.called_tuple.init.lookup F.called_tuple.made (by decide) prog w A.in1 _ s₁ ⟨h₁.1, rfl, h₁.2⟩⟩
  show wpAny _ (A.in1).in1 (do checkBuiltinCall "tuple.__new__" ⟨[.type "tuple", .ref r], []⟩; again (.builtin "tuple.__new__" ⟨[.type "tuple", .ref r], []⟩)) _ _ s
  refine wpAny_bind (wpAny_of_eq (F.newCall_tuple_1 _) (wpAny_pure ⟨plainId_quiet F.plain_tuple_new _, codeAny_builtin F.entry_tuple_new ?_⟩))
  rw [Around.under_plainId F.plain_tuple_new _]
  have s1 := sub_tuple_self
  have s2 := init_tuple_lookup
  have s3 := madeHere_tuple
  have ty : s.TypeIs (.ref r) "dict" := K.type s hok
  have hh2 : A.in1.in1.handled = none := hh
  wp_walk using wpAny_typeOf ty, collect_src (A := A.in1.in1) K hh2 hok hn
  intro h' tk acc hk its
  show wpAny _ _ (Builtin.Tuple.tupleExact acc.toList.toArray >>= fun v => ret v) _ _ _
  rw [Array.toArray_toList]
  unfold Builtin.Tuple.tupleExact
  exact wpAny_bind (wpAny_newObj_type (wpAny_pure ⟨⟨_, Heap.get?_push_size _ rfl, rfl⟩, hQ h' tk acc hk its⟩) (by show acc.size ≤ sizeLine; rw [its.1]; exact hn))
end
/-- tuple(d): a new tuple of its keys -/
theorem call_tupleD {X : Cx} (hcalm : X.calm = true) : CallR X (.type "tuple") (fun xs H Q => ∃ (a : Addr) (kvs : List (Key × V)), xs = [.ref a] ∧ Rd H a (.dK kvs) ∧ ∀ p H', Same H H' → H p = none → H' p = some (.tup (kvs.map fun kv => kV kv.1)) → Q (.ref p) H') := by
  intro pins s σ H xs us Q I r q
  obtain ⟨a, kvs, rfl, hd, q⟩ := q
  obtain ⟨u, rfl, rx⟩ := vals1 r
  cases rx
  obtain ⟨z, lo, vs, rel, dd⟩ := dk_rd I.hok hd
  obtain ⟨ep, hat⟩ := dd.dictAt
  have ek : (kvs.map fun kv => kV kv.1) = vs.map fun p => kV p.1 := by
    have e := congrArg (List.map kV) rel.keys
    rwa [List.map_map, List.map_map] at e
  refine tuple_src (PySem.W.kdl_dict (knd := mixKind X.prog X.w) (kvs := vs) (ep := ep) lo) (I.ok.hd hcalm) hat (by rw [← rel.length]; exact z) fun h' tk acc hk its => ?_
  have hv : Vals (vs.map fun p => kV p.1) acc.toList := keys_at (by rw [Array.length_toList]; exact its.1) fun j v e => its.2 j v (by rw [← Array.getElem?_toList]; exact e)
  have I1 : Inv X pins σ H { s with heap := h', toks := tk } := I.kept (t' := tk) hk
  have hf := I1.hok.fresh (Nat.le_refl h'.objs.size)
  refine ⟨.ref h'.objs.size, L2.upd H h'.objs.size (.tup (kvs.map fun kv => kV kv.1)), I1.laid (t' := tk) (fun b o e => Heap.get?_push_of_some _ e) (Nat.le_refl _) ⟨by rw [List.length_map]; exact z, acc.toList, by rw [ek]; exact hv, ?_⟩, rfl, q _ _ (same_upd hf) hf upd_same⟩
  rw [Array.toArray_toList]
  exact IsTup.new _ _
end LK

set_option Elab.async false
set_option linter.all false
set_option maxRecDepth 100000
/-! ### d.get(k, v) of a written dict with text keys -/
namespace LK
open PySem PySem.Spec PyProof.Rows L2
section
variable {X : Cx} {d : Addr} {es : Array DictEntry} {n : Nat} {o e f : Expr} {apos cpos : Pos} {td ty tx : TE}
def tWget2 (K : PySem.W.Frag) (d : Addr) (td ty tx : TE) : TE := fun σ H Q => td σ H fun x H1 => x = .ref d ∧ ty σ H1 fun y H2 => tx σ H2 fun z H3 => ∃ (k : Str) (r : Option Value), y = .str k ∧ PySem.W.nsIn K d k = some r ∧ (match r with
  | none => Q z H3
  | some u => ∃ v, RelV v u ∧ Q v H3)
theorem pe_wget2 (D : KDict X.K X.w d es n) (ho : PE X o td) (he : PE X e ty) (hf : PE X f tx) (m : M2 X o "get" apos e f cpos) : PE X (.Call (.Attribute o "get" apos) [e, f] [] cpos) (tWget2 X.K d td ty tx) := by
  refine ⟨fun pins s σ H Q I h => ?_⟩
  refine wpAny_Call_method m.base m.few m.line PySem.F.plainAttrs_dict PySem.F.slot_dict_get PySem.F.type_dict_get (thn (ho.run pins s σ H _ I h) fun u s1 q1 => ?_)
  obtain ⟨x, H1, I1, rx, rfl, q1⟩ := q1
  cases (show u = Value.ref d from rx)
  have ob := I1.kIn _ _ D.at_
  refine ⟨kd_type D I1, fun b q => by cases q; exact ⟨_, ob, rfl⟩, ?_⟩
  rw [m.trees]
  refine Calls.callWith_builtin rfl (Calls.evalArgs_plain (Calls.spliced_cons (thn (he.run pins s1 σ H1 _ I1 q1) fun iv s2 q2 => ?_)))
  obtain ⟨y, H2, I2, ry, q2⟩ := q2
  refine Calls.spliced_cons (thn (hf.run pins s2 σ H2 _ I2 q2) fun fv s3 q3 => ?_)
  obtain ⟨z, H3, I3, rz, k, r, rfl, hn, q3⟩ := q3
  refine Calls.spliced_nil ?_
  obtain ⟨t, rfl⟩ := ry
  refine call_meetsIn PySem.F.slot_dict_get (kd_type D I3) PySem.F.entry_dict_get (PySem.F.args_dict_get_3 _ _ _) (meets_dict_get_default (strKind X.prog X.w) d (PySem.strKind_is X.prog X.w k t) D.low fv)
    ⟨_, PySem.W.mapOf_K (prog := X.prog) I3.kIn D.at_ D.lit, ?_⟩
  rw [PySem.W.find_K D.at_ hn]
  cases r with
  | none => exact ⟨z, H3, I3.tok _, rz, q3⟩
  | some u =>
    obtain ⟨v, rv, q⟩ := q3
    exact ⟨v, H3, I3.tok _, rv, q⟩
end
end LK

set_option Elab.async false
set_option linter.all false
set_option maxRecDepth 100000
/-! x in t, t a tuple of data of any depth -/
namespace LK
open PySem PySem.Spec PyProof.Rows L2
section
variable {X : Cx}
def rInDT (K : PySem.W.Frag) : R2 := fun x y H Q => ∃ d ds, Dp K H x d ∧ Dp K H y (.tuple ds) ∧ SeqAt.shaped d = true ∧ PyData.canLayAll0 ds = true ∧ Q (.bl (ds.any fun z => PyData.eqv z d)) H
theorem op_inDT (hu : X.A.units + 65 < cLine) : OpR X (compareOp .In) (rInDT X.K) := by
  intro pins s σ H x y v u Q I rx ry h
  obtain ⟨d, ds, hd, he, sd, se, q⟩ := h
  obtain ⟨as, r1⟩ := Dp.reads I d x v hd rx
  obtain ⟨bs, r2⟩ := Dp.reads I (.tuple ds) y u he ry
  exact SeqAt.in_tuple_reads r2 r1 se (SeqAt.canLay_of_shaped sd) (room_in_shaped sd hu) ⟨.bl _, H, I, rfl, q⟩
end
end LK

set_option Elab.async false
set_option linter.all false
set_option maxRecDepth 100000
/-! a list whose first item puts a token out: e.replace(..) may stand behind it -/
namespace LK
open PySem PySem.Spec PyProof.Rows L2
section
variable {X : Cx} {e : Expr} {es : List Expr} {te : TE} {ta : TA} {op : Operator} {r : R2} {z : Str} {j : Nat} {cp pos : Pos}
theorem pa_consT (ha : PE X e te) (ho : OpR X (binaryOp op) r) (hr : PAT X es ta) (hs : starEach (.BinOp e op (.Constant (.str z) j cp) pos :: es) X.env = (false, eval (.BinOp e op (.Constant (.str z) j cp) pos) X.env) :: starEach es X.env := by rfl) :
    PA X (.BinOp e op (.Constant (.str z) j cp) pos :: es) (tCons (tOp r te (tC (.str z))) ta) := by
  refine ⟨fun bpos pins s σ H Q I h => ?_⟩
  rw [hs]
  show wpAny _ _ (spliced ((false, eval (.BinOp e op (.Constant (.str z) j cp) pos) X.env) :: backTo bpos (starEach es X.env))) _ _ s
  refine Calls.spliced_cons (wpAny_BinOp (thn (ha.run pins s σ H _ I h) fun v s1 ⟨x, H1, I1, r1, q1⟩ => Calls.Constant_str ?_))
  refine wpAny_mono (PySem.wpAny_toks (ho pins { s1 with toks := s1.toks + 1 } σ H1 x (.str z) v (.str z s1.toks) _ (I1.tok _) r1 ⟨s1.toks, rfl⟩ q1)) (fun u s2 q => ?_) fun _ _ z => z.2
  obtain ⟨hk, y, H2, I2, r2, q2⟩ := q
  have hk' : s1.toks + 1 ≤ s2.toks := hk
  exact thn (hr bpos pins s2 σ H2 _ (by omega) I2 q2) fun us s3 ⟨xs, H3, I3, r3, q3⟩ => ⟨y :: xs, H3, I3, .cons r2 r3, q3⟩
end
end LK

set_option Elab.async false
set_option linter.all false
set_option maxRecDepth 100000
namespace LK
open PySem PySem.Spec PyProof.Rows L2
def top (i : Nat) : Stmt := PySem.Challenge.pw_lookingnets_k05_whole_lines_there_and_ba.main.body.getD i (.Pass ⟨0, 0, 0, 0⟩)
local macro_rules | `(tactic| walk_at "rs") => `(tactic| simp only [cxK, cxNK, tCallZ, tAsg, tOp, rI0, rS0, rB0, rI, rU, tUn, rEq, rNe, rIxL, rIxT, rIxS, rSetL, rSlLU, rSlS, rSlU, rCatL, rCatU, rRepL, rIn, tVar, tC, gName, gSub, tIfS, tTest, tB, tAnd, tOr, tNot, tNotV, tAndV, tOrV, tIf, tCall, tCons, tNil, tCB, tDrop, tRet, tRetN, tNext, tLstU, tTupU, tM0, tM1, tPar, tPar3, tAug, ipI, tBM, tBM0, rAppend, rPop, tBreak, tCont, tChain, tSl, tPart, tNoPart, L2.start, List.map, List.length_cons, List.length_nil, List.replicate, List.cons_append, List.nil_append, List.append_nil, List.getElem?_cons_zero, List.getElem?_cons_succ, List.set_cons_zero, List.set_cons_succ, Option.some.injEq, V.int.injEq, V.ref.injEq, V.str.injEq, V.bl.injEq, exists_eq_left', exists_eq_left, exists_and_left, decide_eq_true_eq, List.cons.injEq, and_true, true_and, scal, Bool.not_eq_true', decide_eq_false_iff_not, Nat.zero_add, Nat.reduceAdd, Nat.reduceSub, reduceCtorEq, false_and, exists_false, false_or, or_false, CPow, CMul, CDiv, Int.reduceToNat, ↓reduceIte, wipe, sw, List.nil_append, List.singleton_append])
local macro_rules | `(tactic| walk_at "st") => `(tactic| (refine seq_op fun N hN => ?_; walk_at "rs"))
local macro_rules | `(tactic| walk_at "sd") => `(tactic| first | assumption | decide | omega)
local macro_rules | `(tactic| walk_at "rd") => `(tactic| repeat (first
  | refine ⟨_, SqL.of (by assumption), ?_⟩ | refine ⟨_, SqL.of upd_same, ?_⟩ | refine ⟨_, .inl (SqL.of (by assumption)), ?_⟩ | refine ⟨_, (by assumption : _ = some (HO.lst _)), ?_⟩ | refine ⟨_, upd_same, ?_⟩
  | refine ⟨_, rfl, ?_⟩ | refine And.intro (by walk_at "sd") ?_))

abbrev s_BadValue : Stmt := inClass (top 3) 0
abbrev N_BadValue : List Str := ["self", "value"]
theorem sc_BadValue : FnScope N_BadValue ["self", "value"] (defScope s_BadValue) := ⟨rfl, rfl, rfl, by decide +kernel, rfl, by decide +kernel, by decide +kernel⟩
abbrev s_is_number : Stmt := top 6
abbrev N_is_number : List Str := ["value"]
theorem sc_is_number : FnScope N_is_number ["value"] (defScope s_is_number) := ⟨rfl, rfl, rfl, by decide +kernel, rfl, by decide +kernel, by decide +kernel⟩

abbrev s_is_fraction : Stmt := top 7
abbrev N_is_fraction : List Str := ["value", "p", "q"]
theorem sc_is_fraction : FnScope N_is_fraction ["value"] (defScope s_is_fraction) := ⟨rfl, rfl, rfl, by decide +kernel, rfl, by decide +kernel, by decide +kernel⟩

abbrev s_is_value : Stmt := top 8
abbrev N_is_value : List Str := ["value", "p", "q"]
theorem sc_is_value : FnScope N_is_value ["value"] (defScope s_is_value) := ⟨rfl, rfl, rfl, by decide +kernel, rfl, by decide +kernel, by decide +kernel⟩

abbrev s_below : Stmt := top 9
abbrev N_below : List Str := ["a", "b"]
theorem sc_below : FnScope N_below ["a", "b"] (defScope s_below) := ⟨rfl, rfl, rfl, by decide +kernel, rfl, by decide +kernel, by decide +kernel⟩

abbrev s_value_text : Stmt := top 10
abbrev N_value_text : List Str := ["value", "p", "q"]
theorem sc_value_text : FnScope N_value_text ["value"] (defScope s_value_text) := ⟨rfl, rfl, rfl, by decide +kernel, rfl, by decide +kernel, by decide +kernel⟩

abbrev s_read_number : Stmt := top 11
abbrev N_read_number : List Str := ["word", "figures", "number", "sign"]
theorem sc_read_number : FnScope N_read_number ["word"] (defScope s_read_number) := ⟨rfl, rfl, rfl, by decide +kernel, rfl, by decide +kernel, by decide +kernel⟩

abbrev s_read_value : Stmt := top 12
abbrev N_read_value : List Str := ["text", "top", "bar", "bottom", "value"]
theorem sc_read_value : FnScope N_read_value ["text"] (defScope s_read_value) := ⟨rfl, rfl, rfl, by decide +kernel, rfl, by decide +kernel, by decide +kernel⟩

abbrev s_is_word_name : Stmt := top 20
abbrev N_is_word_name : List Str := ["value", "sign"]
theorem sc_is_word_name : FnScope N_is_word_name ["value"] (defScope s_is_word_name) := ⟨rfl, rfl, rfl, by decide +kernel, rfl, by decide +kernel, by decide +kernel⟩

abbrev s_is_own_name : Stmt := top 21
abbrev N_is_own_name : List Str := ["value"]
theorem sc_is_own_name : FnScope N_is_own_name ["value"] (defScope s_is_own_name) := ⟨rfl, rfl, rfl, by decide +kernel, rfl, by decide +kernel, by decide +kernel⟩

abbrev s_is_name : Stmt := top 22
abbrev N_is_name : List Str := ["value"]
theorem sc_is_name : FnScope N_is_name ["value"] (defScope s_is_name) := ⟨rfl, rfl, rfl, by decide +kernel, rfl, by decide +kernel, by decide +kernel⟩

abbrev s_is_integer_word : Stmt := top 23
abbrev N_is_integer_word : List Str := ["word", "least", "greatest", "number"]
theorem sc_is_integer_word : FnScope N_is_integer_word ["word", "least", "greatest"] (defScope s_is_integer_word) := ⟨rfl, rfl, rfl, by decide +kernel, rfl, by decide +kernel, by decide +kernel⟩

abbrev s_operands_behind : Stmt := top 24
abbrev N_operands_behind : List Str := ["word", "kind"]
theorem sc_operands_behind : FnScope N_operands_behind ["word", "kind"] (defScope s_operands_behind) := ⟨rfl, rfl, rfl, by decide +kernel, rfl, by decide +kernel, by decide +kernel⟩

abbrev s_is_expression : Stmt := top 25
abbrev N_is_expression : List Str := ["value", "wanted", "word", "operands"]
theorem sc_is_expression : FnScope N_is_expression ["value"] (defScope s_is_expression) := ⟨rfl, rfl, rfl, by decide +kernel, rfl, by decide +kernel, by decide +kernel⟩

abbrev s_names_in : Stmt := top 26
abbrev N_names_in : List Str := ["words", "word"]
theorem sc_names_in : FnScope N_names_in ["words"] (defScope s_names_in) := ⟨rfl, rfl, rfl, by decide +kernel, rfl, by decide +kernel, by decide +kernel⟩

abbrev s_compared : Stmt := top 27
abbrev N_compared : List Str := ["relation", "a", "b"]
theorem sc_compared : FnScope N_compared ["relation", "a", "b"] (defScope s_compared) := ⟨rfl, rfl, rfl, by decide +kernel, rfl, by decide +kernel, by decide +kernel⟩

abbrev s_is_relation : Stmt := top 32
abbrev N_is_relation : List Str := ["value", "pair"]
theorem sc_is_relation : FnScope N_is_relation ["value"] (defScope s_is_relation) := ⟨rfl, rfl, rfl, by decide +kernel, rfl, by decide +kernel, by decide +kernel⟩

abbrev s_is_pair : Stmt := top 33
abbrev N_is_pair : List Str := ["value"]
theorem sc_is_pair : FnScope N_is_pair ["value"] (defScope s_is_pair) := ⟨rfl, rfl, rfl, by decide +kernel, rfl, by decide +kernel, by decide +kernel⟩

abbrev s_are_names : Stmt := top 34
abbrev N_are_names : List Str := ["value", "name"]
theorem sc_are_names : FnScope N_are_names ["value"] (defScope s_are_names) := ⟨rfl, rfl, rfl, by decide +kernel, rfl, by decide +kernel, by decide +kernel⟩

abbrev s_are_values : Stmt := top 35
abbrev N_are_values : List Str := ["value", "part"]
theorem sc_are_values : FnScope N_are_values ["value"] (defScope s_are_values) := ⟨rfl, rfl, rfl, by decide +kernel, rfl, by decide +kernel, by decide +kernel⟩

abbrev s_are_asked : Stmt := top 36
abbrev N_are_asked : List Str := ["parts"]
theorem sc_are_asked : FnScope N_are_asked ["parts"] (defScope s_are_asked) := ⟨rfl, rfl, rfl, by decide +kernel, rfl, by decide +kernel, by decide +kernel⟩

abbrev s_is_line : Stmt := top 37
abbrev N_is_line : List Str := ["value", "kind", "parts"]
theorem sc_is_line : FnScope N_is_line ["value"] (defScope s_is_line) := ⟨rfl, rfl, rfl, by decide +kernel, rfl, by decide +kernel, by decide +kernel⟩

abbrev s_is_look : Stmt := top 38
abbrev N_is_look : List Str := ["line"]
theorem sc_is_look : FnScope N_is_look ["line"] (defScope s_is_look) := ⟨rfl, rfl, rfl, by decide +kernel, rfl, by decide +kernel, by decide +kernel⟩

abbrev s_asked : Stmt := top 39
abbrev N_asked : List Str := ["line"]
theorem sc_asked : FnScope N_asked ["line"] (defScope s_asked) := ⟨rfl, rfl, rfl, by decide +kernel, rfl, by decide +kernel, by decide +kernel⟩

abbrev s_line_names : Stmt := top 40
abbrev N_line_names : List Str := ["line", "key", "_", "query", "names", "name"]
theorem sc_line_names : FnScope N_line_names ["line"] (defScope s_line_names) := ⟨rfl, rfl, rfl, by decide +kernel, rfl, by decide +kernel, by decide +kernel⟩

abbrev s_asked_words : Stmt := top 41
abbrev N_asked_words : List Str := ["line", "key", "relation", "query", "a", "b"]
theorem sc_asked_words : FnScope N_asked_words ["line"] (defScope s_asked_words) := ⟨rfl, rfl, rfl, by decide +kernel, rfl, by decide +kernel, by decide +kernel⟩

abbrev s_own_words : Stmt := top 42
abbrev N_own_words : List Str := ["line", "value"]
theorem sc_own_words : FnScope N_own_words ["line"] (defScope s_own_words) := ⟨rfl, rfl, rfl, by decide +kernel, rfl, by decide +kernel, by decide +kernel⟩

abbrev s_line_text : Stmt := top 43
abbrev N_line_text : List Str := ["line"]
theorem sc_line_text : FnScope N_line_text ["line"] (defScope s_line_text) := ⟨rfl, rfl, rfl, by decide +kernel, rfl, by decide +kernel, by decide +kernel⟩

abbrev s_read_pair : Stmt := top 44
abbrev N_read_pair : List Str := ["word", "left", "_", "right"]
theorem sc_read_pair : FnScope N_read_pair ["word"] (defScope s_read_pair) := ⟨rfl, rfl, rfl, by decide +kernel, rfl, by decide +kernel, by decide +kernel⟩

abbrev s_read_asked : Stmt := top 45
abbrev N_read_asked : List Str := ["words", "word"]
theorem sc_read_asked : FnScope N_read_asked ["words"] (defScope s_read_asked) := ⟨rfl, rfl, rfl, by decide +kernel, rfl, by decide +kernel, by decide +kernel⟩

abbrev s_line_of_words : Stmt := top 46
abbrev N_line_of_words : List Str := ["words", "start", "rest", "colon", "word"]
theorem sc_line_of_words : FnScope N_line_of_words ["words"] (defScope s_line_of_words) := ⟨rfl, rfl, rfl, by decide +kernel, rfl, by decide +kernel, by decide +kernel⟩

abbrev s_read_line : Stmt := top 47
abbrev N_read_line : List Str := ["text", "line"]
theorem sc_read_line : FnScope N_read_line ["text"] (defScope s_read_line) := ⟨rfl, rfl, rfl, by decide +kernel, rfl, by decide +kernel, by decide +kernel⟩

abbrev s_related : Stmt := top 48
abbrev N_related : List Str := ["relation", "a", "b"]
theorem sc_related : FnScope N_related ["relation", "a", "b"] (defScope s_related) := ⟨rfl, rfl, rfl, by decide +kernel, rfl, by decide +kernel, by decide +kernel⟩

abbrev s__law_bag : Stmt := top 50
abbrev N__law_bag : List Str := ["script", "mixed", "cell"]
theorem sc__law_bag : FnScope N__law_bag ["script"] (defScope s__law_bag) := ⟨rfl, rfl, rfl, by decide +kernel, rfl, by decide +kernel, by decide +kernel⟩

abbrev s__law_draw : Stmt := top 51
abbrev N__law_draw : List Str := ["bag", "size", "cell", "digit"]
theorem sc__law_draw : FnScope N__law_draw ["bag", "size"] (defScope s__law_draw) := ⟨rfl, rfl, rfl, by decide +kernel, rfl, by decide +kernel, by decide +kernel⟩

abbrev s__law_of : Stmt := top 52
abbrev N__law_of : List Str := ["bag", "things"]
theorem sc__law_of : FnScope N__law_of ["bag", "things"] (defScope s__law_of) := ⟨rfl, rfl, rfl, by decide +kernel, rfl, by decide +kernel, by decide +kernel⟩

abbrev s__law_like : Stmt := top 53
abbrev N__law_like : List Str := ["got", "due", "one", "two"]
theorem sc__law_like : FnScope N__law_like ["got", "due"] (defScope s__law_like) := ⟨rfl, rfl, rfl, by decide +kernel, rfl, by decide +kernel, by decide +kernel⟩

abbrev s__law_low : Stmt := top 54
abbrev N__law_low : List Str := ["top", "low", "one", "two"]
theorem sc__law_low : FnScope N__law_low ["top", "low"] (defScope s__law_low) := ⟨rfl, rfl, rfl, by decide +kernel, rfl, by decide +kernel, by decide +kernel⟩

abbrev s__law_order : Stmt := top 55
abbrev N__law_order : List Str := ["one", "two", "gap"]
theorem sc__law_order : FnScope N__law_order ["one", "two"] (defScope s__law_order) := ⟨rfl, rfl, rfl, by decide +kernel, rfl, by decide +kernel, by decide +kernel⟩

abbrev s__law_holds : Stmt := top 56
abbrev N__law_holds : List Str := ["mark", "one", "two", "gap"]
theorem sc__law_holds : FnScope N__law_holds ["mark", "one", "two"] (defScope s__law_holds) := ⟨rfl, rfl, rfl, by decide +kernel, rfl, by decide +kernel, by decide +kernel⟩

abbrev s__law_prefix : Stmt := top 57
abbrev N__law_prefix : List Str := ["bag", "parts", "size", "owed", "made", "step", "kind", "room", "way"]
theorem sc__law_prefix : FnScope N__law_prefix ["bag", "parts", "size"] (defScope s__law_prefix) := ⟨rfl, rfl, rfl, by decide +kernel, rfl, by decide +kernel, by decide +kernel⟩

abbrev s__law_once : Stmt := top 58
abbrev N__law_once : List Str := ["things", "found", "one"]
theorem sc__law_once : FnScope N__law_once ["things"] (defScope s__law_once) := ⟨rfl, rfl, rfl, by decide +kernel, rfl, by decide +kernel, by decide +kernel⟩

abbrev s__law_named : Stmt := top 59
abbrev N__law_named : List Str := ["prefix", "signs_of_words", "part"]
theorem sc__law_named : FnScope N__law_named ["prefix"] (defScope s__law_named) := ⟨rfl, rfl, rfl, by decide +kernel, rfl, by decide +kernel, by decide +kernel⟩

abbrev s__law_trio : Stmt := top 60
abbrev N__law_trio : List Str := ["row"]
theorem sc__law_trio : FnScope N__law_trio ["row"] (defScope s__law_trio) := ⟨rfl, rfl, rfl, by decide +kernel, rfl, by decide +kernel, by decide +kernel⟩

abbrev s__law_uses : Stmt := top 61
abbrev N__law_uses : List Str := ["row", "trio"]
theorem sc__law_uses : FnScope N__law_uses ["row"] (defScope s__law_uses) := ⟨rfl, rfl, rfl, by decide +kernel, rfl, by decide +kernel, by decide +kernel⟩

abbrev s__law_kept : Stmt := top 62
abbrev N__law_kept : List Str := ["some"]
theorem sc__law_kept : FnScope N__law_kept [] (defScope s__law_kept) := ⟨rfl, rfl, rfl, by decide +kernel, rfl, by decide +kernel, by decide +kernel⟩

abbrev s__law_whole : Stmt := top 63
abbrev N__law_whole : List Str := ["thing"]
theorem sc__law_whole : FnScope N__law_whole ["thing"] (defScope s__law_whole) := ⟨rfl, rfl, rfl, by decide +kernel, rfl, by decide +kernel, by decide +kernel⟩

abbrev s__law_is_worth : Stmt := top 64
abbrev N__law_is_worth : List Str := ["thing"]
theorem sc__law_is_worth : FnScope N__law_is_worth ["thing"] (defScope s__law_is_worth) := ⟨rfl, rfl, rfl, by decide +kernel, rfl, by decide +kernel, by decide +kernel⟩

abbrev s__law_is_word : Stmt := top 65
abbrev N__law_is_word : List Str := ["thing", "letters", "sign"]
theorem sc__law_is_word : FnScope N__law_is_word ["thing"] (defScope s__law_is_word) := ⟨rfl, rfl, rfl, by decide +kernel, rfl, by decide +kernel, by decide +kernel⟩

abbrev s__law_is_own : Stmt := top 66
abbrev N__law_is_own : List Str := ["thing"]
theorem sc__law_is_own : FnScope N__law_is_own ["thing"] (defScope s__law_is_own) := ⟨rfl, rfl, rfl, by decide +kernel, rfl, by decide +kernel, by decide +kernel⟩

abbrev s__law_is_name : Stmt := top 67
abbrev N__law_is_name : List Str := ["thing"]
theorem sc__law_is_name : FnScope N__law_is_name ["thing"] (defScope s__law_is_name) := ⟨rfl, rfl, rfl, by decide +kernel, rfl, by decide +kernel, by decide +kernel⟩

abbrev s__law_needs : Stmt := top 68
abbrev N__law_needs : List Str := ["part", "k"]
theorem sc__law_needs : FnScope N__law_needs ["part"] (defScope s__law_needs) := ⟨rfl, rfl, rfl, by decide +kernel, rfl, by decide +kernel, by decide +kernel⟩

abbrev s__law_is_prefix : Stmt := top 69
abbrev N__law_is_prefix : List Str := ["thing", "stack", "part", "needs"]
theorem sc__law_is_prefix : FnScope N__law_is_prefix ["thing"] (defScope s__law_is_prefix) := ⟨rfl, rfl, rfl, by decide +kernel, rfl, by decide +kernel, by decide +kernel⟩

abbrev s__law_is_mark : Stmt := top 70
abbrev N__law_is_mark : List Str := ["thing", "pair"]
theorem sc__law_is_mark : FnScope N__law_is_mark ["thing"] (defScope s__law_is_mark) := ⟨rfl, rfl, rfl, by decide +kernel, rfl, by decide +kernel, by decide +kernel⟩

abbrev s__law_is_row : Stmt := top 71
abbrev N__law_is_row : List Str := ["thing", "one"]
theorem sc__law_is_row : FnScope N__law_is_row ["thing"] (defScope s__law_is_row) := ⟨rfl, rfl, rfl, by decide +kernel, rfl, by decide +kernel, by decide +kernel⟩

abbrev s__law_short : Stmt := top 72
abbrev N__law_short : List Str := ["one"]
theorem sc__law_short : FnScope N__law_short ["one"] (defScope s__law_short) := ⟨rfl, rfl, rfl, by decide +kernel, rfl, by decide +kernel, by decide +kernel⟩

abbrev s__law_written : Stmt := top 73
abbrev N__law_written : List Str := ["row", "some", "trio", "pair", "one"]
theorem sc__law_written : FnScope N__law_written ["row"] (defScope s__law_written) := ⟨rfl, rfl, rfl, by decide +kernel, rfl, by decide +kernel, by decide +kernel⟩

abbrev s__law_read_short : Stmt := top 74
abbrev N__law_read_short : List Str := ["word", "halves", "digits", "top", "low", "one", "sign"]
theorem sc__law_read_short : FnScope N__law_read_short ["word"] (defScope s__law_read_short) := ⟨rfl, rfl, rfl, by decide +kernel, rfl, by decide +kernel, by decide +kernel⟩

abbrev s__law_read_pair : Stmt := top 75
abbrev N__law_read_pair : List Str := ["word", "halves", "one"]
theorem sc__law_read_pair : FnScope N__law_read_pair ["word"] (defScope s__law_read_pair) := ⟨rfl, rfl, rfl, by decide +kernel, rfl, by decide +kernel, by decide +kernel⟩

abbrev s__law_read_row : Stmt := top 76
abbrev N__law_read_row : List Str := ["thing", "some", "row", "own", "kind", "cut", "skip", "tail", "mark", "one"]
theorem sc__law_read_row : FnScope N__law_read_row ["thing"] (defScope s__law_read_row) := ⟨rfl, rfl, rfl, by decide +kernel, rfl, by decide +kernel, by decide +kernel⟩

abbrev s__law_read_last : Stmt := top 77
abbrev N__law_read_last : List Str := ["word", "k"]
theorem sc__law_read_last : FnScope N__law_read_last ["word"] (defScope s__law_read_last) := ⟨rfl, rfl, rfl, by decide +kernel, rfl, by decide +kernel, by decide +kernel⟩

abbrev s__law_bend : Stmt := top 78
abbrev N__law_bend : List Str := ["bag", "thing", "deep", "k", "way"]
theorem sc__law_bend : FnScope N__law_bend ["bag", "thing", "deep"] (defScope s__law_bend) := ⟨rfl, rfl, rfl, by decide +kernel, rfl, by decide +kernel, by decide +kernel⟩

abbrev s__law_odd : Stmt := top 79
abbrev N__law_odd : List Str := ["bag", "way", "some"]
theorem sc__law_odd : FnScope N__law_odd ["bag"] (defScope s__law_odd) := ⟨rfl, rfl, rfl, by decide +kernel, rfl, by decide +kernel, by decide +kernel⟩

abbrev s__law_name : Stmt := top 80
abbrev N__law_name : List Str := ["bag", "letters", "own", "k"]
theorem sc__law_name : FnScope N__law_name ["bag"] (defScope s__law_name) := ⟨rfl, rfl, rfl, by decide +kernel, rfl, by decide +kernel, by decide +kernel⟩

abbrev s__law_value : Stmt := top 81
abbrev N__law_value : List Str := ["bag", "some", "found"]
theorem sc__law_value : FnScope N__law_value ["bag"] (defScope s__law_value) := ⟨rfl, rfl, rfl, by decide +kernel, rfl, by decide +kernel, by decide +kernel⟩

abbrev s__law_pairs : Stmt := top 82
abbrev N__law_pairs : List Str := ["bag", "pool", "k"]
theorem sc__law_pairs : FnScope N__law_pairs ["bag"] (defScope s__law_pairs) := ⟨rfl, rfl, rfl, by decide +kernel, rfl, by decide +kernel, by decide +kernel⟩

abbrev s__law_row : Stmt := top 83
abbrev N__law_row : List Str := ["bag", "own", "way", "trio", "pool", "size", "wide", "mark", "k"]
theorem sc__law_row : FnScope N__law_row ["bag"] (defScope s__law_row) := ⟨rfl, rfl, rfl, by decide +kernel, rfl, by decide +kernel, by decide +kernel⟩

abbrev s__law_bent_text : Stmt := top 84
abbrev N__law_bent_text : List Str := ["bag", "thing", "some", "way", "k", "j", "odd", "cut"]
theorem sc__law_bent_text : FnScope N__law_bent_text ["bag", "thing"] (defScope s__law_bent_text) := ⟨rfl, rfl, rfl, by decide +kernel, rfl, by decide +kernel, by decide +kernel⟩

abbrev s__law_told : Stmt := top 85
abbrev N__law_told : List Str := ["thing", "way", "due", "got"]
theorem sc__law_told : FnScope N__law_told ["thing", "way"] (defScope s__law_told) := ⟨rfl, rfl, rfl, by decide +kernel, rfl, by decide +kernel, by decide +kernel⟩

abbrev s__law_good : Stmt := top 86
abbrev N__law_good : List Str := ["bag", "row", "due", "short"]
theorem sc__law_good : FnScope N__law_good ["bag", "row"] (defScope s__law_good) := ⟨rfl, rfl, rfl, by decide +kernel, rfl, by decide +kernel, by decide +kernel⟩

abbrev s__law_compared : Stmt := top 87
abbrev N__law_compared : List Str := ["bag", "pool", "mark", "one", "two", "k"]
theorem sc__law_compared : FnScope N__law_compared ["bag"] (defScope s__law_compared) := ⟨rfl, rfl, rfl, by decide +kernel, rfl, by decide +kernel, by decide +kernel⟩

abbrev s_law : Stmt := top 88
abbrev N_law : List Str := ["script", "bag", "turn", "row", "thing", "k", "bent", "other", "step", "due", "wide"]
theorem sc_law : FnScope N_law ["script"] (defScope s_law) := ⟨rfl, rfl, rfl, by decide +kernel, rfl, by decide +kernel, by decide +kernel⟩

mutual
def okD : PyData → Bool
  | .none => true | .bool _ => true | .int i => decide (i.natAbs < 2 ^ 4000)
  | .str z => decide (z.length ≤ 100000)
  | .list ds => decide (ds.length ≤ 100000) && okAll ds
  | .tuple ds => decide (ds.length ≤ 100000) && okAll ds
  | .dict _ => false
def okAll : List PyData → Bool
  | [] => true
  | d :: ds => okD d && okAll ds
end
theorem okD_tup {ds : List PyData} : okD (.tuple ds) = true ↔ ds.length ≤ 100000 ∧ okAll ds = true := by
  show (decide (ds.length ≤ 100000) && okAll ds) = true ↔ _
  rw [Bool.and_eq_true, decide_eq_true_iff]
theorem okD_lst {ds : List PyData} : okD (.list ds) = true ↔ ds.length ≤ 100000 ∧ okAll ds = true := by
  show (decide (ds.length ≤ 100000) && okAll ds) = true ↔ _
  rw [Bool.and_eq_true, decide_eq_true_iff]
mutual
def dep : PyData → Nat
  | .none => 0 | .bool _ => 0 | .int _ => 0 | .str _ => 0
  | .list ds => depAll ds + 1
  | .tuple ds => depAll ds + 1
  | .dict _ => 0
def depAll : List PyData → Nat
  | [] => 0
  | d :: ds => max (dep d) (depAll ds)
end
def spP (K : PySem.W.Frag) (F : PyData → V) : Sp := fun vs H Q _ => ∃ v d, vs = [v] ∧ Dp K H v d ∧ okD d = true ∧ ∀ H', Same H H' → Q (F d) H'
def SeqV (K : PySem.W.Frag) (G : Hp) (x : V) (ys : List V) : Prop := (∃ p, x = .ref p ∧ SqL K G p ys) ∨ (∃ p, x = .ref p ∧ SqT K G p ys) ∨ ∃ z, x = .str z ∧ z.length ≤ 100000 ∧ ys = z.cps.toList.map fun c => V.str ⟨#[c]⟩
def sp__law_bag (K : PySem.W.Frag) : Sp := fun vs H Q _ => ∃ (a : Addr) (ns : List Int), vs = [.ref a] ∧ SqL K H a (ns.map V.int) ∧ ns.length ≤ 63 ∧ ∀ b c H', Same H H' → Bag H' b c → H b = none → Q (.ref b) H'
def sp__law_draw : Sp := fun vs H Q _ => ∃ (b c : Addr) (n : Int), vs = [.ref b, .int n] ∧ Bag H b c ∧ 0 < n ∧ n < 1073741824 ∧ ∀ (r : Int) H', 0 ≤ r → r < n → Bag H' b c → Kp b H H' → Q (.int r) H'
def sp__law_of (K : PySem.W.Frag) : Sp := fun vs H Q _ => ∃ (b c : Addr) (x : V) (ys : List V), vs = [.ref b, x] ∧ Bag H b c ∧ SeqV K H x ys ∧ SeqV K (hb H b) x ys ∧ ys ≠ [] ∧ ys.length ≤ 1000000 ∧ ∀ y H', y ∈ ys → Bag H' b c → Kp b H H' → Q y H'
def sp__law_like (K : PySem.W.Frag) (n : Nat) : Sp := fun vs H Q _ => ∃ v u d, vs = [v, u] ∧ Dp K H v d ∧ Dp K H u d ∧ okD d = true ∧ dep d ≤ n ∧ ∀ H', Same H H' → Q (.bl true) H'
def sp__law_any (K : PySem.W.Frag) (n : Nat) : Sp := fun vs H Q _ => ∃ (b c : Addr) (k : Int), vs = [.ref b, .int k] ∧ Bag H b c ∧ k ≤ n ∧ ∀ v d H', Bag H' b c → Kp b H H' → Dp K (nw H H') v d → okD d = true → dep d ≤ n → Q v H'
/-! ### mirrors -/
def LETs : Str := "abcdefghijklmnopqrstuvwxyz"
def FIGs : Str := "0123456789"
def inS (c : Nat) (z : Str) : Bool := decide (c ∈ z.cps.toList)
def keptL : List Str := ["program", "let", "tell", "be", "table", "first", "last", "count", "mean", "where", "pairs", "else", "sign", "place", "min", "max", "mod", "div", "and", "or", "not", "if"]
def keptV : List V := keptL.map V.str
def givenV : List V := [.str "sign", .str "place"]
def opsTab : List (Str × Str) := [("+", "ee"), ("-", "ee"), ("*", "ee"), ("min", "ee"), ("max", "ee"), ("=", "ee"), ("/=", "ee"), ("<", "ee"), ("<=", "ee"), (">", "ee"), (">=", "ee"), ("and", "ee"), ("or", "ee"), ("mod", "ek"), ("div", "ek"), ("not", "e"), ("if", "eee")]
def opsOf (z : Str) : Option Str := opsTab.lookup z
def optS : Option Str → V
  | none => .non
  | some s => .str s
def optI : Option Int → V
  | none => .non
  | some i => .int i
def isWordS (z : Str) : Bool := match z.cps.toList with
  | [] => false
  | c :: r => decide (z.length ≤ 6) && (inS c LETs && (c :: r).all fun c => inS c LETs || inS c FIGs)
def isWordD : PyData → Bool
  | .str z => isWordS z
  | _ => false
def isOwnD : PyData → Bool
  | .str z => isWordS z && !inV (.str z) keptV
  | _ => false
def isNameD : PyData → Bool
  | .str z => isOwnD (.str z) || inV (.str z) givenV
  | _ => false
def figures (z : Str) : Str := if Txt.startswith z "-" then cutS z (some 1) none else z
def readNum (z : Str) : Option Int :=
  if (1 ≤ (figures z).length ∧ (figures z).length ≤ 60) ∧ ((figures z).cps.toList.all fun c => inS c FIGs) = true then
    (match intText? z with
      | some n => if Str.ofString (toString n) = z then some n else none
      | none => none)
  else none
def isInt (z : Str) (a b : Int) : Bool := match readNum z with
  | some n => decide (a ≤ n) && decide (n ≤ b)
  | none => false
def opsBehind (d : PyData) (k : Str) : Option Str := match d with
  | .str z => if k = "k" then (if isInt z 1 9 = true then some "" else none) else if (isNameD (.str z) || isInt z (-9) 9) = true then some "" else opsOf z
  | _ => none
def head1 (w : Str) : Str := ⟨#[w.cps.toList.headD 0]⟩
def walkE : Str → List PyData → Bool
  | w, [] => decide (w = "")
  | w, d :: r => if w = "" then false else match opsBehind d (head1 w) with
    | none => false
    | some o => walkE (o ++ cutS w (some 1) none) r
def isExpr : PyData → Bool
  | .tuple ds => decide (1 ≤ ds.length) && decide (ds.length ≤ 30) && walkE "e" ds
  | _ => false
def isNum : PyData → Bool
  | .int _ => true
  | _ => false
def isFrac : PyData → Bool
  | .tuple [.int p, .int q] => decide (1 ≤ q) && decide (Nat.gcd p.natAbs q.natAbs = 1)
  | _ => false
def relL : List Str := ["=", "/=", "<", "<=", ">", ">="]
def relV : List V := relL.map V.str
def strI (i : Int) : Str := Str.ofString (toString i)
def txtF (p q : Int) : Str := if q = 1 then strI p else strI p ++ "/" ++ strI q
def shortZ : PyData → Option Str
  | .tuple [.int p, .int q] => if isFrac (.tuple [.int p, .int q]) = true ∧ p.natAbs < 10 ^ 60 ∧ q.natAbs < 10 ^ 60 then some (txtF p q) else none
  | _ => none
def isVal : PyData → Bool
  | .tuple [.int p, .int q] => isFrac (.tuple [.int p, .int q]) && (decide (q ≤ 9999) && decide ((p.natAbs : Int) ≤ 99 * q))
  | _ => false
def readQ (r : Str × Str × Str) : Option Int := if r.2.1.length = 0 then some 1 else readNum r.2.2
def readZ (z : Str) : Option (Int × Int) := match readNum (Txt.partition z "/").1, readQ (Txt.partition z "/") with
  | some p, some q => if isFrac (.tuple [.int p, .int q]) = true ∧ txtF p q = z then some (p, q) else none
  | _, _ => none
def readVal : PyData → Option (Int × Int)
  | .str z => readZ z
  | _ => none
/-! ### promises -/
def sp_read_number : Sp := fun vs H Q _ => ∃ z, vs = [.str z] ∧ z.length ≤ 100000 ∧ ∀ H', Same H H' → Q (optI (readNum z)) H'
def sp_is_integer_word : Sp := fun vs H Q _ => ∃ z a b, vs = [.str z, .int a, .int b] ∧ z.length ≤ 100000 ∧ ∀ H', Same H H' → Q (.bl (isInt z a b)) H'
def sp_operands_behind (K : PySem.W.Frag) : Sp := fun vs H Q _ => ∃ v d k, vs = [v, .str k] ∧ Dp K H v d ∧ okD d = true ∧ ∀ H', Same H H' → Q (optS (opsBehind d k)) H'
/-! ### an exception's class, as isinstance asks for it -/
structure IsxC (K : PySem.W.Frag) (C : Addr) : Prop where
  cl : (PySem.W.clsIn K C).isSome = true
  ga : PySem.W.findIn K (.ref C) "__getattribute__" = some (some (.builtin "BaseException.__getattribute__"))
  gt : PySem.W.findIn K (.ref C) "__getattr__" = some none
  sub : PySem.W.subIn K (.ref C) (.type "BaseException") = some true
  ha : PySem.W.findIn K (.ref C) "__class__" = some (some (.builtin "object.__class__"))
  hn : PySem.W.specialIn K (.builtin "object.__class__") "__get__" = some (some (.builtin "getset_descriptor.__get__"))
  tk : PySem.W.takesIn K (.builtin "object.__class__") = some true
  hm : PySem.W.mroIn K C (.type "object") = some true
/-- two keywords in the other order -/
def sw {α : Type} : List α → List α
  | [x, y] => [y, x]
  | l => l
theorem sw_rel : ∀ {zs : List V} {ws : List Value}, Vals zs ws → Vals (sw zs) (sw ws)
  | _, _, .nil => .nil
  | _, _, .cons a .nil => .cons a .nil
  | _, _, .cons a (.cons b .nil) => .cons b (.cons a .nil)
  | _, _, .cons a (.cons b (.cons c r)) => .cons a (.cons b (.cons c r))
/-! ### wide whole numbers -/
def CDivF (_ j : Int) : Prop := j ≠ 0 ∧ j.natAbs.log2 < 9000
theorem op_fdivF {X : Cx} : OpR X (binaryOp .FloorDiv) (rI CDivF fun i j => .int (i.fdiv j)) := opI fun _ _ _ _ _ _ _ hc q => floordiv_int hc.1 q (.inl (PyProof.noPylong_of_log2 hc.2))
def sp_read (K : PySem.W.Frag) : Sp := fun vs H Q _ => ∃ v d, vs = [v] ∧ Dp K H v d ∧ okD d = true ∧ (readVal d = none → ∀ H', Same H H' → Q .non H') ∧
  ∀ p q, readVal d = some (p, q) → ∀ t H', Same H H' → H t = none → H' t = some (.tup [.int p, .int q]) → Q (.ref t) H'
def sp__law_kept : Sp := fun vs H Q _ => vs = [] ∧ ∀ p H', Same H H' → H p = none → H' p = some (.lst keptV) → Q (.ref p) H'
def ops2L : List Str := ["+", "-", "*", "min", "max", "=", "/=", "<", "<=", ">", ">=", "and", "or", "mod", "div"]
def ops1L : List Str := ["not", "if"]
def numL9 : List Str := ["1", "2", "3", "4", "5", "6", "7", "8", "9"]
def nineV : List V := (List.range 19).map fun (k : Nat) => V.str (Str.ofString (toString ((k : Int) - 9)))
def needsZ (z : Str) : Int :=
  if inV (.str z) (ops2L.map V.str) = true then 2
  else if inV (.str z) (ops1L.map V.str) = true then (if z = "not" then 1 else 3)
  else if (inV (.str z) nineV || isNameD (.str z)) = true then 0 else -1
def sp__law_needs : Sp := fun vs H Q _ => ∃ z, vs = [.str z] ∧ z.length ≤ 100000 ∧ ∀ H', Same H H' → Q (.int (needsZ z)) H'
def modV : List V := [.str "mod", .str "div"]
def numV : List V := numL9.map V.str
def stepP (st : List Str) (z : Str) : Option (List Str) :=
  if needsZ z < 0 ∨ (st.length : Int) < needsZ z then none
  else if inV (.str z) modV = true ∧ (∀ y, st[st.length - 2]? = some y → inV (.str y) numV = false) then none
  else some (st.take (st.length - (needsZ z).toNat) ++ [if needsZ z = 0 then z else ""])
def walkP : List Str → List Str → Option (List Str)
  | st, [] => some st
  | st, z :: r => match stepP st z with
    | none => none
    | some st' => walkP st' r
def strsOf : List PyData → Option (List Str)
  | [] => some []
  | .str z :: r => (strsOf r).map (z :: ·)
  | _ :: _ => none
def finP : Option (List Str) → Bool
  | some st => decide (st.length = 1)
  | none => false
def preZ : Option (List Str) → Bool
  | some zs => finP (walkP [] zs.reverse)
  | none => false
def isPre : PyData → Bool
  | .tuple ds => decide (1 ≤ ds.length) && decide (ds.length ≤ 30) && preZ (strsOf ds)
  | _ => false
/-! ### lines -/
def kindL : List Str := ["be", "table", "first", "last", "count", "mean"]
def kindV : List V := kindL.map V.str
/-- three keywords, the last ahead -/
def rot {α : Type} : List α → List α
  | [z, x, y] => [x, y, z]
  | l => l
theorem rot_rel : ∀ {zs : List V} {ws : List Value}, Vals zs ws → Vals (rot zs) (rot ws)
  | _, _, .nil => .nil
  | _, _, .cons a .nil => .cons a .nil
  | _, _, .cons a (.cons b .nil) => .cons a (.cons b .nil)
  | _, _, .cons a (.cons b (.cons c .nil)) => .cons b (.cons c (.cons a .nil))
  | _, _, .cons a (.cons b (.cons c (.cons d r))) => .cons a (.cons b (.cons c (.cons d r)))
set_option maxHeartbeats 0 in
structure Txt (w : World) (K : PySem.W.Frag) (mg : Str → Option Value) where
  n_len : mg "len" = none
  n_int : mg "int" = none
  n_str : mg "str" = none
  n_list : mg "list" = none
  n_tuple : mg "tuple" = none
  n_bool : mg "bool" = none
  n_dict : mg "dict" = none
  n_isinstance : mg "isinstance" = none
  n_all : mg "all" = none
  n_range : mg "range" = none
  n_zip : mg "zip" = none
  n_abs : mg "abs" = none
  n_reversed : mg "reversed" = none
  m_gcd : mg "gcd" = some (.builtin "math.gcd")
  t_FIGURES : Tok
  m_FIGURES : mg "FIGURES" = some (.str FIGs t_FIGURES)
  t_LETTERS : Tok
  m_LETTERS : mg "LETTERS" = some (.str LETs t_LETTERS)
  t_MOST_WORDS : Tok
  m_MOST_WORDS : mg "MOST_WORDS" = some (.int 30 t_MOST_WORDS)
  a_RESERVED : Addr
  m_RESERVED : mg "RESERVED" = some (.ref a_RESERVED)
  s_RESERVED : ∀ H, SqT K H a_RESERVED keptV
  a_GIVEN : Addr
  m_GIVEN : mg "GIVEN" = some (.ref a_GIVEN)
  s_GIVEN : ∀ H, SqT K H a_GIVEN givenV
  a_RELATIONS : Addr
  m_RELATIONS : mg "RELATIONS" = some (.ref a_RELATIONS)
  s_RELATIONS : ∀ H, SqT K H a_RELATIONS relV
  a_OPERANDS : Addr
  m_OPERANDS : mg "OPERANDS" = some (.ref a_OPERANDS)
  es_OPERANDS : Array DictEntry
  n_es_OPERANDS : Nat
  D_OPERANDS : KDict K w a_OPERANDS es_OPERANDS n_es_OPERANDS
  g_OPERANDS : ∀ z, ∃ r, PySem.W.nsIn K a_OPERANDS z = some r ∧ (match r with | none => opsOf z = none | some u => ∃ y, opsOf z = some y ∧ RelV (.str y) u)
  C_BadValue : Addr
  f_BadValue : Addr
  d_BadValue : FuncData
  m_BadValue : mg "BadValue" = some (.ref C_BadValue)
  X_BadValue : OexC K C_BadValue
  i_BadValue : PySem.W.findIn K (.ref C_BadValue) "__init__" = some (some (.ref f_BadValue))
  t_BadValue : PySem.W.typeIn K (.ref f_BadValue) = some (.type "function")
  F_BadValue : Fun K "__init__" "BadValue.__init__" s_BadValue f_BadValue d_BadValue
  B_BadValue__init : Binds K d_BadValue ["self", "value"] []
  v_BadValue : PySem.W.findIn K (.ref C_BadValue) "value" = some none
  c_BadValue : PySem.W.findIn K (.ref C_BadValue) "code" = some none
  a_KINDS : Addr
  m_KINDS : mg "KINDS" = some (.ref a_KINDS)
  s_KINDS : ∀ H, SqT K H a_KINDS kindV
  t_MOST_NAMES : Tok
  m_MOST_NAMES : mg "MOST_NAMES" = some (.int 12 t_MOST_NAMES)
  t_MOST_VALUES : Tok
  m_MOST_VALUES : mg "MOST_VALUES" = some (.int 400 t_MOST_VALUES)
  a_is_number : Addr
  d_is_number : FuncData
  F_is_number : Fun K "is_number" "is_number" s_is_number a_is_number d_is_number
  m_is_number : mg "is_number" = some (.ref a_is_number)
  B_is_number : Binds K d_is_number ["value"] []
  a_is_fraction : Addr
  d_is_fraction : FuncData
  F_is_fraction : Fun K "is_fraction" "is_fraction" s_is_fraction a_is_fraction d_is_fraction
  m_is_fraction : mg "is_fraction" = some (.ref a_is_fraction)
  B_is_fraction : Binds K d_is_fraction ["value"] []
  a_is_value : Addr
  d_is_value : FuncData
  F_is_value : Fun K "is_value" "is_value" s_is_value a_is_value d_is_value
  m_is_value : mg "is_value" = some (.ref a_is_value)
  B_is_value : Binds K d_is_value ["value"] []
  a_below : Addr
  d_below : FuncData
  F_below : Fun K "below" "below" s_below a_below d_below
  m_below : mg "below" = some (.ref a_below)
  B_below : Binds K d_below ["a", "b"] []
  a_value_text : Addr
  d_value_text : FuncData
  F_value_text : Fun K "value_text" "value_text" s_value_text a_value_text d_value_text
  m_value_text : mg "value_text" = some (.ref a_value_text)
  B_value_text : Binds K d_value_text ["value"] []
  a_read_number : Addr
  d_read_number : FuncData
  F_read_number : Fun K "read_number" "read_number" s_read_number a_read_number d_read_number
  m_read_number : mg "read_number" = some (.ref a_read_number)
  B_read_number : Binds K d_read_number ["word"] []
  a_read_value : Addr
  d_read_value : FuncData
  F_read_value : Fun K "read_value" "read_value" s_read_value a_read_value d_read_value
  m_read_value : mg "read_value" = some (.ref a_read_value)
  B_read_value : Binds K d_read_value ["text"] []
  a_is_word_name : Addr
  d_is_word_name : FuncData
  F_is_word_name : Fun K "is_word_name" "is_word_name" s_is_word_name a_is_word_name d_is_word_name
  m_is_word_name : mg "is_word_name" = some (.ref a_is_word_name)
  B_is_word_name : Binds K d_is_word_name ["value"] []
  a_is_own_name : Addr
  d_is_own_name : FuncData
  F_is_own_name : Fun K "is_own_name" "is_own_name" s_is_own_name a_is_own_name d_is_own_name
  m_is_own_name : mg "is_own_name" = some (.ref a_is_own_name)
  B_is_own_name : Binds K d_is_own_name ["value"] []
  a_is_name : Addr
  d_is_name : FuncData
  F_is_name : Fun K "is_name" "is_name" s_is_name a_is_name d_is_name
  m_is_name : mg "is_name" = some (.ref a_is_name)
  B_is_name : Binds K d_is_name ["value"] []
  a_is_integer_word : Addr
  d_is_integer_word : FuncData
  F_is_integer_word : Fun K "is_integer_word" "is_integer_word" s_is_integer_word a_is_integer_word d_is_integer_word
  m_is_integer_word : mg "is_integer_word" = some (.ref a_is_integer_word)
  B_is_integer_word : Binds K d_is_integer_word ["word", "least", "greatest"] []
  a_operands_behind : Addr
  d_operands_behind : FuncData
  F_operands_behind : Fun K "operands_behind" "operands_behind" s_operands_behind a_operands_behind d_operands_behind
  m_operands_behind : mg "operands_behind" = some (.ref a_operands_behind)
  B_operands_behind : Binds K d_operands_behind ["word", "kind"] []
  a_is_expression : Addr
  d_is_expression : FuncData
  F_is_expression : Fun K "is_expression" "is_expression" s_is_expression a_is_expression d_is_expression
  m_is_expression : mg "is_expression" = some (.ref a_is_expression)
  B_is_expression : Binds K d_is_expression ["value"] []
  a_names_in : Addr
  d_names_in : FuncData
  F_names_in : Fun K "names_in" "names_in" s_names_in a_names_in d_names_in
  m_names_in : mg "names_in" = some (.ref a_names_in)
  B_names_in : Binds K d_names_in ["words"] []
  a_compared : Addr
  d_compared : FuncData
  F_compared : Fun K "compared" "compared" s_compared a_compared d_compared
  m_compared : mg "compared" = some (.ref a_compared)
  B_compared : Binds K d_compared ["relation", "a", "b"] []
  a_is_relation : Addr
  d_is_relation : FuncData
  F_is_relation : Fun K "is_relation" "is_relation" s_is_relation a_is_relation d_is_relation
  m_is_relation : mg "is_relation" = some (.ref a_is_relation)
  B_is_relation : Binds K d_is_relation ["value"] []
  a_is_pair : Addr
  d_is_pair : FuncData
  F_is_pair : Fun K "is_pair" "is_pair" s_is_pair a_is_pair d_is_pair
  m_is_pair : mg "is_pair" = some (.ref a_is_pair)
  B_is_pair : Binds K d_is_pair ["value"] []
  a_are_names : Addr
  d_are_names : FuncData
  F_are_names : Fun K "are_names" "are_names" s_are_names a_are_names d_are_names
  m_are_names : mg "are_names" = some (.ref a_are_names)
  B_are_names : Binds K d_are_names ["value"] []
  a_are_values : Addr
  d_are_values : FuncData
  F_are_values : Fun K "are_values" "are_values" s_are_values a_are_values d_are_values
  m_are_values : mg "are_values" = some (.ref a_are_values)
  B_are_values : Binds K d_are_values ["value"] []
  a_are_asked : Addr
  d_are_asked : FuncData
  F_are_asked : Fun K "are_asked" "are_asked" s_are_asked a_are_asked d_are_asked
  m_are_asked : mg "are_asked" = some (.ref a_are_asked)
  B_are_asked : Binds K d_are_asked ["parts"] []
  a_is_line : Addr
  d_is_line : FuncData
  F_is_line : Fun K "is_line" "is_line" s_is_line a_is_line d_is_line
  m_is_line : mg "is_line" = some (.ref a_is_line)
  B_is_line : Binds K d_is_line ["value"] []
  a_is_look : Addr
  d_is_look : FuncData
  F_is_look : Fun K "is_look" "is_look" s_is_look a_is_look d_is_look
  m_is_look : mg "is_look" = some (.ref a_is_look)
  B_is_look : Binds K d_is_look ["line"] []
  a_asked : Addr
  d_asked : FuncData
  F_asked : Fun K "asked" "asked" s_asked a_asked d_asked
  m_asked : mg "asked" = some (.ref a_asked)
  B_asked : Binds K d_asked ["line"] []
  a_line_names : Addr
  d_line_names : FuncData
  F_line_names : Fun K "line_names" "line_names" s_line_names a_line_names d_line_names
  m_line_names : mg "line_names" = some (.ref a_line_names)
  B_line_names : Binds K d_line_names ["line"] []
  a_asked_words : Addr
  d_asked_words : FuncData
  F_asked_words : Fun K "asked_words" "asked_words" s_asked_words a_asked_words d_asked_words
  m_asked_words : mg "asked_words" = some (.ref a_asked_words)
  B_asked_words : Binds K d_asked_words ["line"] []
  a_own_words : Addr
  d_own_words : FuncData
  F_own_words : Fun K "own_words" "own_words" s_own_words a_own_words d_own_words
  m_own_words : mg "own_words" = some (.ref a_own_words)
  B_own_words : Binds K d_own_words ["line"] []
  a_line_text : Addr
  d_line_text : FuncData
  F_line_text : Fun K "line_text" "line_text" s_line_text a_line_text d_line_text
  m_line_text : mg "line_text" = some (.ref a_line_text)
  B_line_text : Binds K d_line_text ["line"] []
  a_read_pair : Addr
  d_read_pair : FuncData
  F_read_pair : Fun K "read_pair" "read_pair" s_read_pair a_read_pair d_read_pair
  m_read_pair : mg "read_pair" = some (.ref a_read_pair)
  B_read_pair : Binds K d_read_pair ["word"] []
  a_read_asked : Addr
  d_read_asked : FuncData
  F_read_asked : Fun K "read_asked" "read_asked" s_read_asked a_read_asked d_read_asked
  m_read_asked : mg "read_asked" = some (.ref a_read_asked)
  B_read_asked : Binds K d_read_asked ["words"] []
  a_line_of_words : Addr
  d_line_of_words : FuncData
  F_line_of_words : Fun K "line_of_words" "line_of_words" s_line_of_words a_line_of_words d_line_of_words
  m_line_of_words : mg "line_of_words" = some (.ref a_line_of_words)
  B_line_of_words : Binds K d_line_of_words ["words"] []
  a_read_line : Addr
  d_read_line : FuncData
  F_read_line : Fun K "read_line" "read_line" s_read_line a_read_line d_read_line
  m_read_line : mg "read_line" = some (.ref a_read_line)
  B_read_line : Binds K d_read_line ["text"] []
  a_related : Addr
  d_related : FuncData
  F_related : Fun K "related" "related" s_related a_related d_related
  m_related : mg "related" = some (.ref a_related)
  B_related : Binds K d_related ["relation", "a", "b"] []
  a__law_bag : Addr
  d__law_bag : FuncData
  F__law_bag : Fun K "_law_bag" "_law_bag" s__law_bag a__law_bag d__law_bag
  m__law_bag : mg "_law_bag" = some (.ref a__law_bag)
  B__law_bag : Binds K d__law_bag ["script"] []
  a__law_draw : Addr
  d__law_draw : FuncData
  F__law_draw : Fun K "_law_draw" "_law_draw" s__law_draw a__law_draw d__law_draw
  m__law_draw : mg "_law_draw" = some (.ref a__law_draw)
  B__law_draw : Binds K d__law_draw ["bag", "size"] []
  a__law_of : Addr
  d__law_of : FuncData
  F__law_of : Fun K "_law_of" "_law_of" s__law_of a__law_of d__law_of
  m__law_of : mg "_law_of" = some (.ref a__law_of)
  B__law_of : Binds K d__law_of ["bag", "things"] []
  a__law_like : Addr
  d__law_like : FuncData
  F__law_like : Fun K "_law_like" "_law_like" s__law_like a__law_like d__law_like
  m__law_like : mg "_law_like" = some (.ref a__law_like)
  B__law_like : Binds K d__law_like ["got", "due"] []
  a__law_low : Addr
  d__law_low : FuncData
  F__law_low : Fun K "_law_low" "_law_low" s__law_low a__law_low d__law_low
  m__law_low : mg "_law_low" = some (.ref a__law_low)
  B__law_low : Binds K d__law_low ["top", "low"] []
  a__law_order : Addr
  d__law_order : FuncData
  F__law_order : Fun K "_law_order" "_law_order" s__law_order a__law_order d__law_order
  m__law_order : mg "_law_order" = some (.ref a__law_order)
  B__law_order : Binds K d__law_order ["one", "two"] []
  a__law_holds : Addr
  d__law_holds : FuncData
  F__law_holds : Fun K "_law_holds" "_law_holds" s__law_holds a__law_holds d__law_holds
  m__law_holds : mg "_law_holds" = some (.ref a__law_holds)
  B__law_holds : Binds K d__law_holds ["mark", "one", "two"] []
  a__law_prefix : Addr
  d__law_prefix : FuncData
  F__law_prefix : Fun K "_law_prefix" "_law_prefix" s__law_prefix a__law_prefix d__law_prefix
  m__law_prefix : mg "_law_prefix" = some (.ref a__law_prefix)
  B__law_prefix : Binds K d__law_prefix ["bag", "parts", "size"] []
  a__law_once : Addr
  d__law_once : FuncData
  F__law_once : Fun K "_law_once" "_law_once" s__law_once a__law_once d__law_once
  m__law_once : mg "_law_once" = some (.ref a__law_once)
  B__law_once : Binds K d__law_once ["things"] []
  a__law_named : Addr
  d__law_named : FuncData
  F__law_named : Fun K "_law_named" "_law_named" s__law_named a__law_named d__law_named
  m__law_named : mg "_law_named" = some (.ref a__law_named)
  B__law_named : Binds K d__law_named ["prefix"] []
  a__law_trio : Addr
  d__law_trio : FuncData
  F__law_trio : Fun K "_law_trio" "_law_trio" s__law_trio a__law_trio d__law_trio
  m__law_trio : mg "_law_trio" = some (.ref a__law_trio)
  B__law_trio : Binds K d__law_trio ["row"] []
  a__law_uses : Addr
  d__law_uses : FuncData
  F__law_uses : Fun K "_law_uses" "_law_uses" s__law_uses a__law_uses d__law_uses
  m__law_uses : mg "_law_uses" = some (.ref a__law_uses)
  B__law_uses : Binds K d__law_uses ["row"] []
  a__law_kept : Addr
  d__law_kept : FuncData
  F__law_kept : Fun K "_law_kept" "_law_kept" s__law_kept a__law_kept d__law_kept
  m__law_kept : mg "_law_kept" = some (.ref a__law_kept)
  B__law_kept : Binds K d__law_kept [] []
  a__law_whole : Addr
  d__law_whole : FuncData
  F__law_whole : Fun K "_law_whole" "_law_whole" s__law_whole a__law_whole d__law_whole
  m__law_whole : mg "_law_whole" = some (.ref a__law_whole)
  B__law_whole : Binds K d__law_whole ["thing"] []
  a__law_is_worth : Addr
  d__law_is_worth : FuncData
  F__law_is_worth : Fun K "_law_is_worth" "_law_is_worth" s__law_is_worth a__law_is_worth d__law_is_worth
  m__law_is_worth : mg "_law_is_worth" = some (.ref a__law_is_worth)
  B__law_is_worth : Binds K d__law_is_worth ["thing"] []
  a__law_is_word : Addr
  d__law_is_word : FuncData
  F__law_is_word : Fun K "_law_is_word" "_law_is_word" s__law_is_word a__law_is_word d__law_is_word
  m__law_is_word : mg "_law_is_word" = some (.ref a__law_is_word)
  B__law_is_word : Binds K d__law_is_word ["thing"] []
  a__law_is_own : Addr
  d__law_is_own : FuncData
  F__law_is_own : Fun K "_law_is_own" "_law_is_own" s__law_is_own a__law_is_own d__law_is_own
  m__law_is_own : mg "_law_is_own" = some (.ref a__law_is_own)
  B__law_is_own : Binds K d__law_is_own ["thing"] []
  a__law_is_name : Addr
  d__law_is_name : FuncData
  F__law_is_name : Fun K "_law_is_name" "_law_is_name" s__law_is_name a__law_is_name d__law_is_name
  m__law_is_name : mg "_law_is_name" = some (.ref a__law_is_name)
  B__law_is_name : Binds K d__law_is_name ["thing"] []
  a__law_needs : Addr
  d__law_needs : FuncData
  F__law_needs : Fun K "_law_needs" "_law_needs" s__law_needs a__law_needs d__law_needs
  m__law_needs : mg "_law_needs" = some (.ref a__law_needs)
  B__law_needs : Binds K d__law_needs ["part"] []
  a__law_is_prefix : Addr
  d__law_is_prefix : FuncData
  F__law_is_prefix : Fun K "_law_is_prefix" "_law_is_prefix" s__law_is_prefix a__law_is_prefix d__law_is_prefix
  m__law_is_prefix : mg "_law_is_prefix" = some (.ref a__law_is_prefix)
  B__law_is_prefix : Binds K d__law_is_prefix ["thing"] []
  a__law_is_mark : Addr
  d__law_is_mark : FuncData
  F__law_is_mark : Fun K "_law_is_mark" "_law_is_mark" s__law_is_mark a__law_is_mark d__law_is_mark
  m__law_is_mark : mg "_law_is_mark" = some (.ref a__law_is_mark)
  B__law_is_mark : Binds K d__law_is_mark ["thing"] []
  a__law_is_row : Addr
  d__law_is_row : FuncData
  F__law_is_row : Fun K "_law_is_row" "_law_is_row" s__law_is_row a__law_is_row d__law_is_row
  m__law_is_row : mg "_law_is_row" = some (.ref a__law_is_row)
  B__law_is_row : Binds K d__law_is_row ["thing"] []
  a__law_short : Addr
  d__law_short : FuncData
  F__law_short : Fun K "_law_short" "_law_short" s__law_short a__law_short d__law_short
  m__law_short : mg "_law_short" = some (.ref a__law_short)
  B__law_short : Binds K d__law_short ["one"] []
  a__law_written : Addr
  d__law_written : FuncData
  F__law_written : Fun K "_law_written" "_law_written" s__law_written a__law_written d__law_written
  m__law_written : mg "_law_written" = some (.ref a__law_written)
  B__law_written : Binds K d__law_written ["row"] []
  a__law_read_short : Addr
  d__law_read_short : FuncData
  F__law_read_short : Fun K "_law_read_short" "_law_read_short" s__law_read_short a__law_read_short d__law_read_short
  m__law_read_short : mg "_law_read_short" = some (.ref a__law_read_short)
  B__law_read_short : Binds K d__law_read_short ["word"] []
  a__law_read_pair : Addr
  d__law_read_pair : FuncData
  F__law_read_pair : Fun K "_law_read_pair" "_law_read_pair" s__law_read_pair a__law_read_pair d__law_read_pair
  m__law_read_pair : mg "_law_read_pair" = some (.ref a__law_read_pair)
  B__law_read_pair : Binds K d__law_read_pair ["word"] []
  a__law_read_row : Addr
  d__law_read_row : FuncData
  F__law_read_row : Fun K "_law_read_row" "_law_read_row" s__law_read_row a__law_read_row d__law_read_row
  m__law_read_row : mg "_law_read_row" = some (.ref a__law_read_row)
  B__law_read_row : Binds K d__law_read_row ["thing"] []
  a__law_read_last : Addr
  d__law_read_last : FuncData
  F__law_read_last : Fun K "_law_read_last" "_law_read_last" s__law_read_last a__law_read_last d__law_read_last
  m__law_read_last : mg "_law_read_last" = some (.ref a__law_read_last)
  B__law_read_last : Binds K d__law_read_last ["word"] []
  a__law_bend : Addr
  d__law_bend : FuncData
  F__law_bend : Fun K "_law_bend" "_law_bend" s__law_bend a__law_bend d__law_bend
  m__law_bend : mg "_law_bend" = some (.ref a__law_bend)
  B__law_bend : Binds K d__law_bend ["bag", "thing", "deep"] []
  a__law_odd : Addr
  d__law_odd : FuncData
  F__law_odd : Fun K "_law_odd" "_law_odd" s__law_odd a__law_odd d__law_odd
  m__law_odd : mg "_law_odd" = some (.ref a__law_odd)
  B__law_odd : Binds K d__law_odd ["bag"] []
  a__law_name : Addr
  d__law_name : FuncData
  F__law_name : Fun K "_law_name" "_law_name" s__law_name a__law_name d__law_name
  m__law_name : mg "_law_name" = some (.ref a__law_name)
  B__law_name : Binds K d__law_name ["bag"] []
  a__law_value : Addr
  d__law_value : FuncData
  F__law_value : Fun K "_law_value" "_law_value" s__law_value a__law_value d__law_value
  m__law_value : mg "_law_value" = some (.ref a__law_value)
  B__law_value : Binds K d__law_value ["bag"] []
  a__law_pairs : Addr
  d__law_pairs : FuncData
  F__law_pairs : Fun K "_law_pairs" "_law_pairs" s__law_pairs a__law_pairs d__law_pairs
  m__law_pairs : mg "_law_pairs" = some (.ref a__law_pairs)
  B__law_pairs : Binds K d__law_pairs ["bag"] []
  a__law_row : Addr
  d__law_row : FuncData
  F__law_row : Fun K "_law_row" "_law_row" s__law_row a__law_row d__law_row
  m__law_row : mg "_law_row" = some (.ref a__law_row)
  B__law_row : Binds K d__law_row ["bag"] []
  a__law_bent_text : Addr
  d__law_bent_text : FuncData
  F__law_bent_text : Fun K "_law_bent_text" "_law_bent_text" s__law_bent_text a__law_bent_text d__law_bent_text
  m__law_bent_text : mg "_law_bent_text" = some (.ref a__law_bent_text)
  B__law_bent_text : Binds K d__law_bent_text ["bag", "thing"] []
  a__law_told : Addr
  d__law_told : FuncData
  F__law_told : Fun K "_law_told" "_law_told" s__law_told a__law_told d__law_told
  m__law_told : mg "_law_told" = some (.ref a__law_told)
  B__law_told : Binds K d__law_told ["thing", "way"] []
  a__law_good : Addr
  d__law_good : FuncData
  F__law_good : Fun K "_law_good" "_law_good" s__law_good a__law_good d__law_good
  m__law_good : mg "_law_good" = some (.ref a__law_good)
  B__law_good : Binds K d__law_good ["bag", "row"] []
  a__law_compared : Addr
  d__law_compared : FuncData
  F__law_compared : Fun K "_law_compared" "_law_compared" s__law_compared a__law_compared d__law_compared
  m__law_compared : mg "_law_compared" = some (.ref a__law_compared)
  B__law_compared : Binds K d__law_compared ["bag"] []
  a_law : Addr
  d_law : FuncData
  F_law : Fun K "law" "law" s_law a_law d_law
  m_law : mg "law" = some (.ref a_law)
  B_law : Binds K d_law ["script"] []
  Z_is_line : KBn K d_is_line ["value"] 0 ["value"] (fun _ ws => ws) (fun _ zs => zs)
  Z_is_look : KBn K d_is_look ["line"] 0 ["line"] (fun _ ws => ws) (fun _ zs => zs)
  Z_line_names : KBn K d_line_names ["line"] 0 ["line"] (fun _ ws => ws) (fun _ zs => zs)
  Z_line_text : KBn K d_line_text ["line"] 0 ["line"] (fun _ ws => ws) (fun _ zs => zs)
  Z_read_line : KBn K d_read_line ["text"] 0 ["text"] (fun _ ws => ws) (fun _ zs => zs)
  Z_related : KBn K d_related ["relation", "a", "b"] 0 ["b", "relation", "a"] (fun _ ws => rot ws) (fun _ zs => rot zs)

end LK

set_option Elab.async false
set_option linter.all false
set_option maxRecDepth 100000
set_option pp.deepTerms true
set_option pp.maxSteps 20000
namespace LK
open PySem PySem.Spec PyProof.Rows L2
local macro_rules | `(tactic| walk_at "rs") => `(tactic| simp only [cxK, cxNK, tCallZ, tAsg, tOp, rI0, rS0, rB0, rI, rU, tUn, rEq, rNe, rIxL, rIxT, rIxS, rSetL, rSlLU, rSlS, rSlU, rCatL, rCatU, rRepL, rIn, tVar, tC, gName, gSub, tIfS, tTest, tB, tAnd, tOr, tNot, tNotV, tAndV, tOrV, tIf, tCall, tCons, tNil, tCB, tDrop, tRet, tRetN, tNext, tLstU, tTupU, tM0, tM1, tPar, tPar3, tAug, ipI, tBM, tBM0, rAppend, rPop, tBreak, tCont, tChain, tSl, tPart, tNoPart, L2.start, List.map, List.length_cons, List.length_nil, List.replicate, List.cons_append, List.nil_append, List.append_nil, List.getElem?_cons_zero, List.getElem?_cons_succ, List.set_cons_zero, List.set_cons_succ, Option.some.injEq, V.int.injEq, V.ref.injEq, V.str.injEq, V.bl.injEq, exists_eq_left', exists_eq_left, exists_and_left, decide_eq_true_eq, List.cons.injEq, and_true, true_and, scal, Bool.not_eq_true', decide_eq_false_iff_not, Nat.zero_add, Nat.reduceAdd, Nat.reduceSub, reduceCtorEq, false_and, exists_false, false_or, or_false, CPow, CMul, CDiv, Int.reduceToNat, ↓reduceIte, wipe, sw, List.nil_append, List.singleton_append])
local macro_rules | `(tactic| walk_at "st") => `(tactic| (refine seq_op fun N hN => ?_; walk_at "rs"))
local macro_rules | `(tactic| walk_at "sd") => `(tactic| first | assumption | decide | omega)
local macro_rules | `(tactic| walk_at "rd") => `(tactic| repeat (first
  | refine ⟨_, SqL.of (by assumption), ?_⟩ | refine ⟨_, SqL.of upd_same, ?_⟩ | refine ⟨_, .inl (SqL.of (by assumption)), ?_⟩ | refine ⟨_, (by assumption : _ = some (HO.lst _)), ?_⟩ | refine ⟨_, upd_same, ?_⟩
  | refine ⟨_, rfl, ?_⟩ | refine And.intro (by walk_at "sd") ?_))

def spV (sp : List V → Hp → VK → Prop) : Sp := fun vs H Q _ => sp vs H Q
/-- the two fields of a BadValue -/
def badF (v : V) : List (Str × V) := [("code", .str "BadValue"), ("value", v)]
def sp_BadValue (C : Addr) : Sp := fun vs H Q _ => ∃ (a : Addr) (v : V), vs = [.ref a, v] ∧ H a = some (exo a C none) ∧
  ∀ dx, H dx = none → dx ≠ a → Q .non (L2.upd (L2.upd (L2.upd H dx (exd dx [("value", v)])) a (exo a C (some dx))) dx (exd dx (badF v)))
def spP1 (K : PySem.W.Frag) (F : PyData → V) : Sp := fun vs H Q _ => ∃ v d, vs = [v] ∧ Dp K H v d ∧ ∀ H', Same H H' → Q (F d) H'
section
variable {P : Program} {w : World} {K : PySem.W.Frag} {mg : Str → Option Value} {base : Heap}
theorem ok_BadValue (T : Txt w K mg) : FnOk P w K mg base CX0 1 T.f_BadValue T.d_BadValue ["self", "value"] (sp_BadValue T.C_BadValue) := by
  refine T.F_BadValue.ok sc_BadValue (fun vs H Q E h => ?_) (fun cdv A outer s H vs Q E hr h => ?_)
  · obtain ⟨a, v, rfl, _⟩ := h
    rfl
  · obtain ⟨a, v, rfl, ha, k⟩ := h
    refine ⟨_, pss_cons (ps_ost (pv 0) (pv 1)) (pss_one (ps_ost (pv 0) pe_str)), ?_⟩
    refine seq_op fun N hN => ?_
    unfold tOst
    walk_at "rs"
    refine ⟨T.C_BadValue, T.X_BadValue, T.v_BadValue, .inl ⟨ha, fun dx hdx ne => hN _ _ ?_⟩⟩
    clear hN N
    unfold tOst
    walk_at "rs"
    refine ⟨T.C_BadValue, T.X_BadValue, T.c_BadValue, .inr ⟨dx, upd_same, [("value", v)], by rw [upd_ne ne]; exact upd_same, by simp, k dx hdx ne⟩⟩
theorem ok_is_number (T : Txt w K mg) : FnOk P w K mg base CX0 1 T.a_is_number T.d_is_number ["value"] (spP1 K fun d => .bl (isNum d)) := by
  refine T.F_is_number.ok sc_is_number (fun vs H Q E h => ?_) (fun cdv A outer s H vs Q E hr h => ?_)
  · obtain ⟨v, d, rfl, _⟩ := h
    rfl
  · obtain ⟨v, d, rfl, hD, k⟩ := h
    refine ⟨_, (pss_one (ps_ret (pe_and (pe_callB (call_isiDK (K := K) rfl) (by rfl) T.n_isinstance (by decide +kernel) (pa_cons (pv 0) (pa_cons (pe_bltn (v := .ty "int") (u := .type "int") (by rfl) T.n_int (by decide +kernel) rfl) pa_nil))) (pe_one (pe_not (pe_callB (call_isiDK (K := K) rfl) (by rfl) T.n_isinstance (by decide +kernel) (pa_cons (pv 0) (pa_cons (pe_bltn (v := .ty "bool") (u := .type "bool") (by rfl) T.n_bool (by decide +kernel) rfl) pa_nil)))))))), ?_⟩
    walk_at "rs"
    refine ⟨v, "int", ⟨rfl, rfl⟩, d, hD, by decide, ite2 (fun h => ⟨v, "bool", ⟨rfl, rfl⟩, d, hD, by decide, ?_⟩) (fun h => ?_)⟩
    · have e : isNum d = !isTy "bool" d := by cases d <;> first | rfl | cases h
      rw [← e]; exact k H (Same.refl _)
    · have e : isNum d = false := by cases d <;> first | rfl | (exact absurd rfl h)
      have q : Q (.bl (isNum d)) H := k H (Same.refl _)
      rw [e] at q; exact q
theorem ok_is_fraction (T : Txt w K mg) : FnOk P w K mg base CX0 2 T.a_is_fraction T.d_is_fraction ["value"] (spP1 K fun d => .bl (isFrac d)) := by
  refine T.F_is_fraction.ok sc_is_fraction (fun vs H Q E h => ?_) (fun cdv A outer s H vs Q E hr h => ?_)
  · obtain ⟨v, d, rfl, _⟩ := h
    rfl
  · obtain ⟨v, d, rfl, hD, k⟩ := h
    have hr_is_number : Room 1 _ := hr.mono (by decide)
    have G_is_number := ok_is_number (P := P) (base := base) T
    refine ⟨_, (pss_cons (ps_if (PW.pt (pw_or (pt_not (pt_val (pe_callB (call_isiDK (K := K) rfl) (by rfl) T.n_isinstance (by decide +kernel) (pa_cons (pv 0) (pa_cons (pe_bltn (v := .ty "tuple") (u := .type "tuple") (by rfl) T.n_tuple (by decide +kernel) rfl) pa_nil))))) (pw_or1 (pt_cmpR op_neI (pe_callB call_lenD (by rfl) T.n_len (by decide +kernel) (pa_cons (pv 0) pa_nil)) pe_int (nomark _))))) (pss_one (ps_ret pe_bl)) pss_nil)
      (pss_cons (ps_asg (pv 0) (pg_tup rfl (pgs_cons (pg_name (i := 1) sc_is_fraction.nd rfl (Or.inl rfl)) (pgs_cons (pg_name (i := 2) sc_is_fraction.nd rfl (Or.inl rfl)) pgs_nil))))
      (pss_one (ps_ret (pe_and (pe_call G_is_number hr_is_number (by rfl) T.m_is_number T.F_is_number.kp T.B_is_number .nil pass0 (pa_cons (pv 1) pa_nil)) (pe_and (pe_call G_is_number hr_is_number (by rfl) T.m_is_number T.F_is_number.kp T.B_is_number .nil pass0 (pa_cons (pv 2) pa_nil)) (pe_and (pe_cmpR op_ge (pv 2) pe_int (nomark _)) (pe_one (pe_cmpR op_eqI (pe_callBfun cr_gcd (by rfl) T.m_gcd (pa_cons (pv 1) (pa_cons (pv 2) pa_nil))) pe_int (nomark _)))))))))), ?_⟩
    refine seq_op fun N hN => ?_
    walk_at "rs"
    refine ⟨v, "tuple", ⟨rfl, rfl⟩, d, hD, by decide, ite2 (fun h => ?_) (fun h => ⟨d, hD, ?_⟩)⟩
    · have e : isFrac d = false := by cases d <;> first | rfl | cases h
      have q : Q (.bl (isFrac d)) H := k H (Same.refl _)
      rw [e] at q; exact q
    obtain ⟨ds, rfl⟩ : ∃ ds, d = .tuple ds := by cases d <;> first | exact ⟨_, rfl⟩ | (exact absurd rfl h)
    clear h
    refine .inl ⟨ds, .inr rfl, ite2 (fun h2 => ?_) (fun h2 => hN _ _ ?_)⟩
    · have e : isFrac (.tuple ds) = false := by
        rcases ds with _ | ⟨x, _ | ⟨y, _ | ⟨z, r⟩⟩⟩
        · rfl
        · cases x <;> rfl
        · exact absurd rfl h2
        · cases x <;> cases y <;> rfl
      have q : Q (.bl (isFrac (.tuple ds))) H := k H (Same.refl _)
      rw [e] at q; exact q
    clear hN N
    obtain ⟨x, y, rfl⟩ : ∃ x y, ds = [x, y] := by
      rcases ds with _ | ⟨x, _ | ⟨y, _ | ⟨z, r⟩⟩⟩
      · exact absurd (by simp) h2
      · exact absurd (by simp) h2
      · exact ⟨x, y, rfl⟩
      · exact absurd (by simp; omega) h2
    cases hD with
    | tup hs ha =>
    cases ha with
    | cons hx ha =>
    cases ha with
    | cons hy ha =>
    cases ha
    refine seq_op fun N hN => ?_
    walk_at "rs"
    refine ⟨_, _, rfl, hs, rfl, ?_⟩
    unfold gCons gNil
    walk_at "rs"
    refine ⟨_, _, ⟨rfl, rfl⟩, _, _, rfl, rfl, hN _ _ ?_⟩
    clear hN N
    walk_at "rs"
    have no : ∀ (H' : Hp), Same H H' → isFrac (.tuple [x, y]) = false → Q (.bl false) H' := fun H' s' e => by
      have q : Q (.bl (isFrac (.tuple [x, y]))) H' := k H' s'
      rw [e] at q; exact q
    refine ⟨_, x, rfl, hx, fun H1 s1 => ⟨isNum x, rfl, ite2 (fun hp => ?_) (fun hp => no H1 s1 (by cases x <;> first | rfl | exact absurd rfl hp))⟩⟩
    refine ⟨_, y, rfl, dp_same s1 hy, fun H2 s2 => ⟨isNum y, rfl, ite2 (fun hq => ?_) (fun hq => no H2 (Same.trans s1 s2) (by cases x <;> cases y <;> first | rfl | exact absurd rfl hq))⟩⟩
    obtain ⟨p, rfl⟩ : ∃ p, x = .int p := by cases x <;> first | exact ⟨_, rfl⟩ | cases hp
    obtain ⟨q, rfl⟩ : ∃ q, y = .int q := by cases y <;> first | exact ⟨_, rfl⟩ | cases hq
    cases hx
    cases hy
    refine ⟨q, rfl, ite2 (fun h1 => ⟨p, q, rfl, _, rfl, ?_⟩) (fun h1 => no H2 (Same.trans s1 s2) (by
      show (decide (1 ≤ q) && _) = false
      rw [decide_eq_false h1]; rfl))⟩
    have e : isFrac (.tuple [.int p, .int q]) = decide ((((Nat.gcd p.natAbs q.natAbs : Nat) : Int)) = 1) := by
      show (decide (1 ≤ q) && _) = _
      rw [decide_eq_true h1, Bool.true_and]
      exact decide_eq_decide.mpr (by omega)
    rw [← e]; exact k H2 (Same.trans s1 s2)
/-! ### lowest terms -/
def frG (p q : Int) : Int := if q < 0 then -((Nat.gcd p.natAbs q.natAbs : Nat) : Int) else ((Nat.gcd p.natAbs q.natAbs : Nat) : Int)
def frP (p q : Int) : Int := p.fdiv (frG p q)
def frQ (p q : Int) : Int := q.fdiv (frG p q)
theorem gcd_log {p q : Int} (h : q ≠ 0) : (Nat.gcd p.natAbs q.natAbs).log2 ≤ q.natAbs.log2 := by
  have h0 : q.natAbs ≠ 0 := by omega
  have le : Nat.gcd p.natAbs q.natAbs ≤ q.natAbs := Nat.le_of_dvd (by omega) (Nat.gcd_dvd_right _ _)
  have g0 : Nat.gcd p.natAbs q.natAbs ≠ 0 := fun e => h0 (Nat.eq_zero_of_gcd_eq_zero_right e)
  exact (Nat.le_log2 h0).mpr (Nat.le_trans (Nat.log2_self_le g0) le)
theorem mk_bad {C : Addr} {H1 : Hp} {v : V} {Qx : XK} (k : ∀ d H', Same H1 H' → H1 d = none → H' d = some (.xd (badF v)) → Qx (.ref C) (some d) H') : ∀ a, H1 a = none → sp_BadValue C (.ref a :: ([v] ++ [])) (L2.upd H1 a (exo a C none)) (fun v2 H2 => v2 = .non ∧ ∃ (d : Addr) (fs : List (Str × V)), H2 a = some (exo a C (some d)) ∧ H2 d = some (exd d fs) ∧ H1 d = none ∧ Qx (.ref C) (some d) (L2.upd (del H2 a) d (.xd fs))) E0 := by
  intro a ha
  refine ⟨a, v, rfl, upd_same, fun dx hdx ne => ⟨rfl, dx, badF v, ?_, upd_same, ?_, k dx _ ?_ ?_ upd_same⟩⟩
  · rw [upd_ne (Ne.symm ne), upd_same]
  · rw [upd_ne ne] at hdx; exact hdx
  · intro b o e
    rw [upd_ne ne] at hdx
    have n1 : b ≠ a := fun z => by rw [z, ha] at e; cases e
    have n2 : b ≠ dx := fun z => by rw [z, hdx] at e; cases e
    rw [upd_ne n2, del_ne n1, upd_ne n2, upd_ne n1, upd_ne n2, upd_ne n1]
    exact e
  · rw [upd_ne ne] at hdx; exact hdx
theorem mk_badT {C : Addr} {ta : TA} {σ : L2.St} {H0 H1 : Hp} {v : V} {Qx : XK} (ht : ∀ K : List V → Hp → Prop, K [v] H1 → ta σ H0 K) (k : ∀ d H', Same H1 H' → H1 d = none → H' d = some (.xd (badF v)) → Qx (.ref C) (some d) H') : tMkO C (sp_BadValue C) [] ta σ H0 Qx :=
  ht _ ⟨by simp, mk_bad k⟩
/-! ### the reckoning -/
/-- a pair of whole numbers at a -/
def Pr (K : PySem.W.Frag) (H : Hp) (a : Addr) (p q : Int) : Prop := SqT K H a [.int p, .int q]
theorem two_add {i j : Int} {a : Nat} (hi : i.natAbs < 2 ^ a) (hj : j.natAbs < 2 ^ a) : (i + j).natAbs < 2 ^ (a + 1) := by
  have e : 2 ^ (a + 1) = 2 * 2 ^ a := Nat.pow_succ'
  omega
theorem two_sub {i j : Int} {a : Nat} (hi : i.natAbs < 2 ^ a) (hj : j.natAbs < 2 ^ a) : (i - j).natAbs < 2 ^ (a + 1) := by
  have e : 2 ^ (a + 1) = 2 * 2 ^ a := Nat.pow_succ'
  omega
theorem mulW {i j : Int} (hi : i.natAbs < 2 ^ 4000) (hj : j.natAbs < 2 ^ 4000) : CMulW i j := wide_mul hi hj (by decide) (by decide) (by decide)
theorem mulL {i j : Int} (hi : i.natAbs < 2 ^ 4000) (hj : j.natAbs < 2 ^ 4000) : (i * j).natAbs < 2 ^ 8000 := wide_lt (a := 4000) (b := 4000) hi hj
theorem logL {i : Int} {a : Nat} (h : i.natAbs < 2 ^ a) (h0 : 0 < a) (h9 : a ≤ 9000) : i.natAbs.log2 < 9000 := Nat.lt_of_lt_of_le (PySem.Flt.log2_lt_of h0 h) h9
theorem ok_below (T : Txt w K mg) : FnOk P w K mg base CX0 1 T.a_below T.d_below ["a", "b"] (fun vs H Q _ => ∃ (a b : Addr) (p q r s : Int), vs = [.ref a, .ref b] ∧ Pr K H a p q ∧ Pr K H b r s ∧ p.natAbs < 2 ^ 4000 ∧ q.natAbs < 2 ^ 4000 ∧ r.natAbs < 2 ^ 4000 ∧ s.natAbs < 2 ^ 4000 ∧ Q (.bl (decide (p * s < r * q))) H) := by
  refine T.F_below.ok sc_below (fun vs H Q E h => ?_) (fun cdv A outer s H vs Q E hr h => ?_)
  · obtain ⟨a, b, p, q, r, s', rfl, _⟩ := h
    rfl
  · obtain ⟨a, b, p, q, r, s', rfl, ha, hb, lp, lq, lr, ls, k⟩ := h
    refine ⟨_, (pss_one (ps_ret (pe_cmpR op_lt (pe_op op_mulW (pe_ix ix_tup (pv 0) pe_int (fun _ _ => rfl)) (pe_ix ix_tup (pv 1) pe_int (fun _ _ => rfl))) (pe_op op_mulW (pe_ix ix_tup (pv 1) pe_int (fun _ _ => rfl)) (pe_ix ix_tup (pv 0) pe_int (fun _ _ => rfl))) (nomark _)))), ?_⟩
    walk_at "rs"
    exact ⟨_, ha, _, rfl, _, hb, _, rfl, _, rfl, _, rfl, mulW lp ls, _, hb, _, rfl, _, ha, _, rfl, _, rfl, _, rfl, mulW lr lq, k⟩
end
end LK

set_option Elab.async false
set_option linter.all false
set_option maxRecDepth 100000
set_option pp.deepTerms true
set_option pp.maxSteps 20000
namespace LK
open PySem PySem.Spec PyProof.Rows L2
local macro_rules | `(tactic| walk_at "rs") => `(tactic| simp only [cxK, cxNK, tCallZ, tAsg, tOp, rI0, rS0, rB0, rI, rU, tUn, rEq, rNe, rIxL, rIxT, rIxS, rSetL, rSlLU, rSlS, rSlU, rCatL, rCatU, rRepL, rIn, tVar, tC, gName, gSub, tIfS, tTest, tB, tAnd, tOr, tNot, tNotV, tAndV, tOrV, tIf, tCall, tCons, tNil, tCB, tDrop, tRet, tRetN, tNext, tLstU, tTupU, tM0, tM1, tPar, tPar3, tAug, ipI, tBM, tBM0, rAppend, rPop, tBreak, tCont, tChain, tSl, tPart, tNoPart, L2.start, List.map, List.length_cons, List.length_nil, List.replicate, List.cons_append, List.nil_append, List.append_nil, List.getElem?_cons_zero, List.getElem?_cons_succ, List.set_cons_zero, List.set_cons_succ, Option.some.injEq, V.int.injEq, V.ref.injEq, V.str.injEq, V.bl.injEq, exists_eq_left', exists_eq_left, exists_and_left, decide_eq_true_eq, List.cons.injEq, and_true, true_and, scal, Bool.not_eq_true', decide_eq_false_iff_not, Nat.zero_add, Nat.reduceAdd, Nat.reduceSub, reduceCtorEq, false_and, exists_false, false_or, or_false, CPow, CMul, CDiv, Int.reduceToNat, ↓reduceIte, wipe, sw, List.nil_append, List.singleton_append])
local macro_rules | `(tactic| walk_at "st") => `(tactic| (refine seq_op fun N hN => ?_; walk_at "rs"))
local macro_rules | `(tactic| walk_at "sd") => `(tactic| first | assumption | decide | omega)
local macro_rules | `(tactic| walk_at "rd") => `(tactic| repeat (first
  | refine ⟨_, SqL.of (by assumption), ?_⟩ | refine ⟨_, SqL.of upd_same, ?_⟩ | refine ⟨_, .inl (SqL.of (by assumption)), ?_⟩ | refine ⟨_, (by assumption : _ = some (HO.lst _)), ?_⟩ | refine ⟨_, upd_same, ?_⟩
  | refine ⟨_, rfl, ?_⟩ | refine And.intro (by walk_at "sd") ?_))

section
variable {P : Program} {w : World} {K : PySem.W.Frag} {mg : Str → Option Value} {base : Heap}
theorem eqv_zero (r s : Int) : PyData.eqv (.tuple [.int r, .int s]) (.tuple [.int 0, .int 1]) = (decide (r = 0) && decide (s = 1)) := by
  simp [PyData.eqv, PyData.eqvAll]
  rfl
theorem shaped2 (r s : Int) : SeqAt.shaped (.tuple [.int r, .int s]) = true := by rfl
theorem dp_pair {H : Hp} {a : Addr} {p q : Int} (h : Pr K H a p q) : Dp K H (.ref a) (.tuple [.int p, .int q]) := .tup h (.cons (.int p) (.cons (.int q) .nil))
theorem abs_if (p : Int) : (if p < 0 then -p else p) = ((p.natAbs : Nat) : Int) := by split <;> omega
theorem ok__law_low (T : Txt w K mg) : FnOk P w K mg base CX0 1 T.a__law_low T.d__law_low ["top", "low"] (fun vs H Q _ => ∃ p q : Int, vs = [.int p, .int q] ∧ q ≠ 0 ∧ p.natAbs < 2 ^ 8001 ∧ q.natAbs < 2 ^ 8001 ∧
    ∀ t H', Same H H' → H t = none → H' t = some (.tup [.int (frP p q), .int (frQ p q)]) → Q (.ref t) H') := by
  refine T.F__law_low.ok sc__law_low (fun vs H Q E h => ?_) (fun cdv A outer s H vs Q E hr h => ?_)
  · obtain ⟨p, q, rfl, _⟩ := h
    rfl
  · obtain ⟨p, q, rfl, q0, lp, lq, k⟩ := h
    refine ⟨_, (pss_cons (ps_par (i := 2) (j := 3) (by rfl) sc__law_low.nd rfl rfl (by decide) rfl rfl (pa_cons (pe_callB call_abs (by rfl) T.n_abs (by decide +kernel) (pa_cons (pv 0) pa_nil)) (pa_cons (pe_callB call_abs (by rfl) T.n_abs (by decide +kernel) (pa_cons (pv 1) pa_nil)) pa_nil)) (by rfl))
      (pss_cons (ps_while PassesOwn.never (pt_cmpR op_neI (pv 3) pe_int (nomark _)) (pss_one (ps_par (i := 2) (j := 3) (by rfl) sc__law_low.nd rfl rfl (by decide) rfl rfl (pa_cons (pv 3) (pa_cons (pe_op op_mod (pe_callTy call_intI (by rfl) T.n_int (by decide +kernel) (pa_cons (pv 2) pa_nil)) (pv 3)) pa_nil)) (by rfl))))
      (pss_cons (ps_if (pt_cmpR op_lt (pv 1) pe_int (nomark _)) (pss_one (ps_set (i := 2) sc__law_low.nd rfl (Or.inl rfl) (pe_op op_sub pe_int (pv 2)))) pss_nil)
      (pss_one (ps_ret (pe_tupU (pa_cons (pe_op op_fdivF (pv 0) (pv 2)) (pa_cons (pe_op op_fdivF (pv 1) (pv 2)) pa_nil)))))))), ?_⟩
    refine seq_op fun N hN => ?_
    walk_at "rs"
    refine ⟨_, _, ⟨rfl, rfl⟩, hN _ _ ?_⟩
    clear hN N
    refine cut_seq (fun σ H2 => σ = [some (.int p), some (.int q), some (.int ((Nat.gcd p.natAbs q.natAbs : Nat) : Int)), some (.int 0)] ∧ H2 = H) (fun N hN => ?_) ?_
    · refine while_by (fun σ H2 => ∃ a b : Nat, σ = [some (.int p), some (.int q), some (.int (a : Int)), some (.int (b : Int))] ∧ H2 = H ∧ Nat.gcd a b = Nat.gcd p.natAbs q.natAbs) (fun (σ : L2.St) (_ : Hp) => match σ[3]? with
          | some (some (V.int b)) => b.toNat
          | _ => 0) ⟨p.natAbs, q.natAbs, by rw [abs_if, abs_if], rfl, rfl⟩ ?_ ?_
      · rintro σ H2 ⟨a, b, rfl, rfl, hg⟩
        walk_at "rs"
        refine ite2 (fun hb => ?_) (fun hb => ?_)
        · refine ⟨by omega, _, _, ⟨rfl, rfl⟩, ⟨b, a % b, ⟨rfl, rfl⟩, ?_⟩, ?_⟩
          · rw [← hg, Nat.gcd_comm a b, Nat.gcd_rec b a, Nat.gcd_comm]
          · show ((a : Int) % (b : Int)).toNat < (b : Int).toNat
            have := Int.emod_lt_of_pos (a : Int) (show (0 : Int) < (b : Int) by omega)
            have := Int.emod_nonneg (a : Int) hb
            omega
        · have b0 : b = 0 := by omega
          subst b0
          rw [Nat.gcd_zero_right] at hg
          rw [hg]
          exact hN _ _ ⟨rfl, rfl⟩
      · intro σ H2 Q1 Q2 h hq
        revert hq
        walk_at "rs"
        rintro ⟨v, e, i, rfl, hq⟩
        exact ⟨_, e, i, rfl, h _ _ hq⟩
    · rintro σ H2 ⟨rfl, rfl⟩
      have g0 : (Nat.gcd p.natAbs q.natAbs : Nat) ≠ 0 := fun z => q0 (by have := Nat.eq_zero_of_gcd_eq_zero_right z; omega)
      have gl := gcd_log (p := p) q0
      have ql := logL lq (by decide) (by decide)
      have n0 : frG p q ≠ 0 := by unfold frG; split <;> omega
      have nl : (frG p q).natAbs.log2 < 9000 := by
        have : (frG p q).natAbs = Nat.gcd p.natAbs q.natAbs := by unfold frG; split <;> omega
        rw [this]; omega
      refine cut_seq (fun σ H3 => σ = [some (.int p), some (.int q), some (.int (frG p q)), some (.int 0)] ∧ H3 = H2) (fun N hN => ?_) ?_
      · walk_at "rs"
        unfold frG at hN
        refine ite2 (fun c => ?_) (fun c => ?_)
        · rw [if_pos c] at hN
          rw [Int.zero_sub]
          exact hN _ _ ⟨rfl, rfl⟩
        · rw [if_neg c] at hN; exact hN _ _ ⟨rfl, rfl⟩
      · rintro σ H3 ⟨rfl, rfl⟩
        walk_at "rs"
        exact ⟨⟨n0, nl⟩, ⟨n0, nl⟩, by decide, k⟩
end
end LK

set_option Elab.async false
set_option linter.all false
set_option maxRecDepth 100000
set_option pp.deepTerms true
set_option pp.maxSteps 20000
namespace LK
open PySem PySem.Spec PyProof.Rows L2
local macro_rules | `(tactic| walk_at "rs") => `(tactic| simp only [cxK, cxNK, tCallZ, tAsg, tOp, rI0, rS0, rB0, rI, rU, tUn, rEq, rNe, rIxL, rIxT, rIxS, rSetL, rSlLU, rSlS, rSlU, rCatL, rCatU, rRepL, rIn, tVar, tC, gName, gSub, tIfS, tTest, tB, tAnd, tOr, tNot, tNotV, tAndV, tOrV, tIf, tCall, tCons, tNil, tCB, tDrop, tRet, tRetN, tNext, tLstU, tTupU, tM0, tM1, tPar, tPar3, tAug, ipI, tBM, tBM0, rAppend, rPop, tBreak, tCont, tChain, tSl, tPart, tNoPart, L2.start, List.map, List.length_cons, List.length_nil, List.replicate, List.cons_append, List.nil_append, List.append_nil, List.getElem?_cons_zero, List.getElem?_cons_succ, List.set_cons_zero, List.set_cons_succ, Option.some.injEq, V.int.injEq, V.ref.injEq, V.str.injEq, V.bl.injEq, exists_eq_left', exists_eq_left, exists_and_left, decide_eq_true_eq, List.cons.injEq, and_true, true_and, scal, Bool.not_eq_true', decide_eq_false_iff_not, Nat.zero_add, Nat.reduceAdd, Nat.reduceSub, reduceCtorEq, false_and, exists_false, false_or, or_false, CPow, CMul, CDiv, Int.reduceToNat, ↓reduceIte, wipe, sw, List.nil_append, List.singleton_append])
local macro_rules | `(tactic| walk_at "st") => `(tactic| (refine seq_op fun N hN => ?_; walk_at "rs"))
local macro_rules | `(tactic| walk_at "sd") => `(tactic| first | assumption | decide | omega)
local macro_rules | `(tactic| walk_at "rd") => `(tactic| repeat (first
  | refine ⟨_, SqL.of (by assumption), ?_⟩ | refine ⟨_, SqL.of upd_same, ?_⟩ | refine ⟨_, .inl (SqL.of (by assumption)), ?_⟩ | refine ⟨_, (by assumption : _ = some (HO.lst _)), ?_⟩ | refine ⟨_, upd_same, ?_⟩
  | refine ⟨_, rfl, ?_⟩ | refine And.intro (by walk_at "sd") ?_))

section
variable {P : Program} {w : World} {K : PySem.W.Frag} {mg : Str → Option Value} {base : Heap}
theorem ok__law_draw (T : Txt w K mg) : FnOk P w K mg base CX0 1 T.a__law_draw T.d__law_draw ["bag", "size"] sp__law_draw := by
  refine T.F__law_draw.ok sc__law_draw (fun vs H Q E h => ?_) (fun cdv A outer s H vs Q E hr h => ?_)
  · obtain ⟨b, c, n, rfl, _⟩ := h
    rfl
  · obtain ⟨b, c, n, rfl, ⟨cells, i, g, m, d, hB, hC, ncb, hi, hm, hm2⟩, n0, n1, k⟩ := h
    refine ⟨_, (pss_cons (ps_asg (pe_op op_add (pe_ix ix_list (pv 0) pe_int (fun _ _ => rfl)) pe_int) (pg_sub (pv 0) pe_int set_list))
      (pss_cons (ps_if (PW.pt (pw_and (pt_cmpR op_eqI (pe_ix ix_list (pv 0) pe_int (fun _ _ => rfl)) pe_int (nomark _)) (pw_and1 (pt_cmpR op_lt (pe_ix ix_list (pv 0) pe_int (fun _ _ => rfl)) (pe_callB call_len_seq (by rfl) T.n_len (by decide +kernel) (pa_cons (pe_ix ix_list (pv 0) pe_int (fun _ _ => rfl)) pa_nil)) (nomark _))))) (pss_cons (ps_set (i := 2) sc__law_draw.nd rfl (Or.inl rfl) (pe_ix ix_list (pe_ix ix_list (pv 0) pe_int (fun _ _ => rfl)) (pe_ix ix_list (pv 0) pe_int (fun _ _ => rfl)) (fun _ _ => rfl)))
      (pss_cons (ps_asg (pe_op op_add (pe_ix ix_list (pv 0) pe_int (fun _ _ => rfl)) pe_int) (pg_sub (pv 0) pe_int set_list))
      (pss_one (ps_if (pt_cmpR op_ge (pv 2) (pe_op op_pow pe_int pe_int) (nomark _)) (pss_one (ps_asg (pv 2) (pg_sub (pv 0) pe_int set_list))) (pss_one (ps_asg (pe_op op_mod (pe_callTy call_intI (by rfl) T.n_int (by decide +kernel) (pa_cons (pe_op op_add (pe_op op_add (pe_op op_mul (pe_ix ix_list (pv 0) pe_int (fun _ _ => rfl)) pe_int) (pe_op op_mul (pe_op op_mod (pe_callTy call_intI (by rfl) T.n_int (by decide +kernel) (pa_cons (pv 2) pa_nil)) pe_int) pe_int)) pe_int) pa_nil)) pe_int) (pg_sub (pv 0) pe_int set_list))))))) pss_nil)
      (pss_cons (ps_if (pt_cmpR op_gt (pe_ix ix_list (pv 0) pe_int (fun _ _ => rfl)) pe_int (nomark _)) (pss_cons (ps_set (i := 3) sc__law_draw.nd rfl (Or.inl rfl) (pe_op op_mod (pe_callTy call_intI (by rfl) T.n_int (by decide +kernel) (pa_cons (pe_ix ix_list (pv 0) pe_int (fun _ _ => rfl)) pa_nil)) (pv 1)))
      (pss_cons (ps_asg (pe_op op_fdiv (pe_ix ix_list (pv 0) pe_int (fun _ _ => rfl)) (pv 1)) (pg_sub (pv 0) pe_int set_list))
      (pss_one (ps_ret (pv 3))))) pss_nil)
      (pss_cons (ps_asg (pe_op op_mod (pe_callTy call_intI (by rfl) T.n_int (by decide +kernel) (pa_cons (pe_op op_add (pe_op op_add (pe_op op_pow (pe_ix ix_list (pv 0) pe_int (fun _ _ => rfl)) pe_int) (pe_op op_mul (pe_ix ix_list (pv 0) pe_int (fun _ _ => rfl)) pe_int)) pe_int) pa_nil)) pe_int) (pg_sub (pv 0) pe_int set_list))
      (pss_one (ps_ret (pe_op op_mod (pe_callTy call_intI (by rfl) T.n_int (by decide +kernel) (pa_cons (pe_op op_add (pe_op op_fdiv (pe_ix ix_list (pv 0) pe_int (fun _ _ => rfl)) pe_int) (pe_op op_mul (pe_op op_mod (pe_callTy call_intI (by rfl) T.n_int (by decide +kernel) (pa_cons (pe_ix ix_list (pv 0) pe_int (fun _ _ => rfl)) pa_nil)) pe_int) pe_int)) pa_nil)) (pv 1)))))))), ?_⟩
    -- bag[4] = bag[4] + 1
    refine seq_op fun N hN => ?_
    walk_at "rs"
    refine ⟨_, SqL.of hB, _, rfl, _, rfl, _, hB, _, rfl, ?_⟩
    refine hN _ _ ?_
    clear hN N
    -- if bag[2] == 0 and bag[1] < len(bag[0]): ..
    have B1 : Bag (upd H b (.lst [.ref c, .int i, .int g, .int m, .int (d + 1)])) b c := ⟨cells, i, g, m, d + 1, upd_same, by rw [upd_ne ncb]; exact hC, ncb, hi, hm, hm2⟩
    have K1 : Kp b H (upd H b (.lst [.ref c, .int i, .int g, .int m, .int (d + 1)])) := Kp.upd
    show tSeq _ _ _ _ (upd H b (.lst [.ref c, .int i, .int g, .int m, .int (d + 1)]))
    generalize upd H b (.lst [.ref c, .int i, .int g, .int m, .int (d + 1)]) = H1 at B1 K1 ⊢
    clear hB hC ncb hi hm hm2 i g m d cells
    refine cut_seq (fun σ H2 => ∃ x, σ = [some (.ref b), some (.int n), x, none] ∧ Bag H2 b c ∧ Kp b H H2) (fun N hN => ?_) ?_
    · obtain ⟨cells, i, g, m, d, hB, hC, ncb, hi, hm, hm2⟩ := id B1
      walk_at "rs"
      refine ⟨_, SqL.of hB, _, rfl, _, rfl, ite2 (fun z => ?_) (fun _ => hN _ _ ⟨_, rfl, B1, K1⟩)⟩
      refine ⟨_, SqL.of hB, _, rfl, _, SqL.of hB, _, rfl, _, rfl, _, .inl (SqL.of hC), _, rfl, ite2 (fun zl => ?_) (fun _ => hN _ _ ⟨_, rfl, B1, K1⟩)⟩
      -- cell = bag[0][bag[1]]
      rw [List.length_map] at zl
      obtain ⟨cl, hcl⟩ : ∃ cl, cells[i.toNat]? = some cl := ⟨cells[i.toNat]'(by omega), List.getElem?_eq_getElem _⟩
      refine seq_op fun N2 hN2 => ?_
      walk_at "rs"
      walk_at "rd"
      refine ⟨_, _, rfl, SqL.of hC, _, at_of (j := i.toNat) (v := .int cl) (by omega) (by rw [List.getElem?_map, hcl] <;> rfl), hN2 _ _ ?_⟩
      clear hN2 N2
      -- bag[1] = bag[1] + 1
      refine seq_op fun N2 hN2 => ?_
      walk_at "rs"
      walk_at "rd"
      refine hN2 _ _ ?_
      clear hN2 N2
      -- if cell >= 10 ** 18: bag[2] = cell else: ..
      walk_at "rs"
      refine ⟨by decide, ite2 (fun _ => ?_) (fun _ => ?_)⟩
      · refine ⟨_, upd_same, _, rfl, hN _ _ ⟨_, rfl, ?_, ?_⟩⟩
        · exact ⟨cells, i + 1, cl, m, d, upd_same, by rw [upd_ne ncb, upd_ne ncb]; exact hC, ncb, by omega, hm, hm2⟩
        · exact K1.trans (Kp.upd.trans Kp.upd)
      · walk_at "rd"
        refine hN _ _ ⟨_, rfl, ?_, ?_⟩
        · exact ⟨cells, i + 1, g, _, d, upd_same, by rw [upd_ne ncb, upd_ne ncb]; exact hC, ncb, by omega, Int.emod_nonneg _ (by decide), Int.emod_lt_of_pos _ (by decide)⟩
        · exact K1.trans (Kp.upd.trans Kp.upd)
    · rintro σ H2 ⟨x, rfl, B2, K2⟩
      obtain ⟨cells, i, g, m, d, hB, hC, ncb, hi, hm, hm2⟩ := id B2
      -- if bag[2] > 0: ..
      refine seq_op fun N hN => ?_
      walk_at "rs"
      refine ⟨_, SqL.of hB, _, rfl, _, rfl, ite2 (fun _ => ?_) (fun _ => hN _ _ ?_)⟩
      · refine seq_op fun N2 hN2 => ?_
        walk_at "rs"
        walk_at "rd"
        refine hN2 _ _ ?_
        clear hN2 N2
        refine seq_op fun N2 hN2 => ?_
        walk_at "rs"
        refine ⟨_, SqL.of hB, _, rfl, _, rfl, ⟨n0, n1⟩, ?_⟩
        walk_at "rd"
        refine hN2 _ _ ?_
        walk_at "rs"
        exact k _ _ (Int.emod_nonneg _ (by omega)) (Int.emod_lt_of_pos _ n0) ⟨cells, i, _, m, d, upd_same, by rw [upd_ne ncb]; exact hC, ncb, hi, hm, hm2⟩ (K2.trans Kp.upd)
      · clear hN N
        refine seq_op fun N hN => ?_
        walk_at "rs"
        refine ⟨_, SqL.of hB, _, rfl, _, rfl, ⟨by decide, by decide, by omega⟩, _, SqL.of hB, _, rfl, _, rfl, .inr (by decide), by decide, ?_⟩
        walk_at "rd"
        refine hN _ _ ?_
        clear hN N
        walk_at "rs"
        walk_at "rd"
        exact k _ _ (Int.emod_nonneg _ (by omega)) (Int.emod_lt_of_pos _ n0) ⟨cells, i, g, _, d, upd_same, by rw [upd_ne ncb]; exact hC, ncb, hi, Int.emod_nonneg _ (by decide), Int.emod_lt_of_pos _ (by decide)⟩ (K2.trans Kp.upd)

theorem ok__law_of (T : Txt w K mg) : FnOk P w K mg base CX0 2 T.a__law_of T.d__law_of ["bag", "things"] (sp__law_of K) := by
  refine T.F__law_of.ok sc__law_of (fun vs H Q E h => ?_) (fun cdv A outer s H vs Q E hr h => ?_)
  · obtain ⟨b, c, x, ys, rfl, _⟩ := h
    rfl
  · obtain ⟨b, c, x, ys, rfl, B, sq, sqb, ne, hl, k⟩ := h
    have hr__law_draw : Room 1 _ := hr.mono (by decide)
    have G__law_draw := ok__law_draw (P := P) (base := base) T
    refine ⟨_, (pss_one (ps_ret (pe_ix ix_seq (pv 1) (pe_call G__law_draw hr__law_draw (by rfl) T.m__law_draw T.F__law_draw.kp T.B__law_draw .nil pass0 (pa_cons (pv 0) (pa_cons (pe_callB call_len (by rfl) T.n_len (by decide +kernel) (pa_cons (pv 1) pa_nil)) pa_nil))) (fun _ _ => rfl)))), ?_⟩
    walk_at "rs"
    have ln : 0 < ys.length := by cases ys with | nil => exact absurd rfl ne | cons => exact Nat.succ_pos _
    have pick : ∀ (r : Int), 0 ≤ r → r < (ys.length : Int) → ∃ y, atI ys r = some y ∧ y ∈ ys := fun r r0 r1 => by
      have h1 : r.toNat < ys.length := by omega
      exact ⟨ys[r.toNat], at_of (j := r.toNat) (by omega) (List.getElem?_eq_getElem h1), List.getElem_mem h1⟩
    refine ⟨ys.length, ?_, b, c, _, rfl, B, by omega, by omega, fun r H' r0 r1 B' K' => ?_⟩
    · rcases sq with ⟨p, rfl, h⟩ | ⟨p, rfl, h⟩ | ⟨z, rfl, hz, rfl⟩
      · exact .inl ⟨_, h, rfl⟩
      · exact .inr ⟨_, h, rfl⟩
      · refine ⟨Nat.le_trans hz (by decide), ?_⟩
        rw [List.length_map, Array.length_toList] <;> rfl
    · obtain ⟨y, e, hy⟩ := pick r r0 r1
      rcases sqb with ⟨p, rfl, h⟩ | ⟨p, rfl, h⟩ | ⟨z, rfl, hz, rfl⟩
      · exact .inl ⟨p, ys, r, y, rfl, rfl, Same.seq (hb_le _ _) (Same.seq K' h), e, k y H' hy B' K'⟩
      · exact .inr (.inl ⟨p, ys, r, y, rfl, rfl, Same.seqT (hb_le _ _) (Same.seqT K' h), e, k y H' hy B' K'⟩)
      · refine .inr (.inr ?_)
        have h1 : r.toNat < z.cps.toList.length := by rw [List.length_map] at r1; omega
        have e2 : atI z.cps.toList r = some z.cps.toList[r.toNat] := at_ofN (j := r.toNat) (by omega) (List.getElem?_eq_getElem h1)
        refine ⟨z, r, _, rfl, rfl, Nat.le_trans hz (by decide), e2, k _ H' ?_ B' K'⟩
        exact List.mem_map.mpr ⟨_, List.getElem_mem h1, rfl⟩
theorem ok__law_bag (T : Txt w K mg) : FnOk P w K mg base CX0 1 T.a__law_bag T.d__law_bag ["script"] (sp__law_bag K) := by
  refine T.F__law_bag.ok sc__law_bag (fun vs H Q E h => ?_) (fun cdv A outer s H vs Q E hr h => ?_)
  · obtain ⟨a, ns, rfl, _⟩ := h
    rfl
  · obtain ⟨a, ns, rfl, hS, hl, k⟩ := h
    refine ⟨_, (pss_cons (ps_set (i := 1) sc__law_bag.nd rfl (Or.inl rfl) pe_int)
      (pss_cons (ps_for PassesOwn.never rfl (pi_list (pe_slice sl_listU (pv 0) po_none (po_some pe_int))) (pg_name (i := 2) sc__law_bag.nd rfl (Or.inl rfl)) (pss_one (ps_set (i := 1) sc__law_bag.nd rfl (Or.inl rfl) (pe_op op_mod (pe_callTy call_intI (by rfl) T.n_int (by decide +kernel) (pa_cons (pe_op op_add (pe_op op_add (pe_op op_mul (pv 1) pe_int) (pe_op op_mod (pe_callTy call_intI (by rfl) T.n_int (by decide +kernel) (pa_cons (pv 2) pa_nil)) pe_int)) pe_int) pa_nil)) pe_int))))
      (pss_one (ps_ret (pe_lstU (pa_cons (pe_callTy call_listU (by rfl) T.n_list (by decide +kernel) (pa_cons (pe_slice sl_listU (pv 0) po_none (po_some pe_int)) pa_nil)) (pa_cons pe_int (pa_cons pe_int (pa_cons (pv 1) (pa_cons pe_int pa_nil)))))))))), ?_⟩
    refine seq_op fun N hN => ?_
    walk_at "rs"
    refine hN _ _ ?_
    clear hN N
    refine cut_seq (fun σ H2 => ∃ m x, σ = [some (.ref a), some (.int m), x] ∧ 0 ≤ m ∧ m < 2147483579 ∧ Same H H2) (fun N hN => ?_) ?_
    · refine ⟨_, rfl, _, rfl, a, _, rfl, hS, fun p H1 s1 h0 h1 => ?_⟩
      refine ⟨p, rfl, ⟨_, SqL.of h1⟩, for_list (K := K) (a := p) (xs := cutV (ns.map V.int) none (some 63)) (fun i σ H2 => ∃ m x, σ = [some (.ref a), some (.int m), x] ∧ 0 ≤ m ∧ m < 2147483579 ∧ Same H1 H2) ⟨_, _, rfl, by decide, by decide, Same.refl _⟩ (fun i σ H2 _ ⟨_, _, _, _, _, s2⟩ => SqL.of (s2 _ _ h1)) ?_ ?_⟩
      · rintro i y σ H2 hi ⟨m, x, rfl, m0, m1, s2⟩
        obtain ⟨u, rfl⟩ : ∃ u, y = V.int u := by
          have q := List.mem_of_getElem? hi
          have q2 : y ∈ (ns.map V.int).take 63 := (cutV_take (ns.map V.int) 63) ▸ q
          obtain ⟨u, _, rfl⟩ := List.mem_map.mp (List.mem_of_mem_take q2)
          exact ⟨u, rfl⟩
        walk_at "rs"
        refine ⟨.inr (by decide), by decide, by decide, _, _, ⟨rfl, rfl⟩, ?_⟩
        exact ⟨Int.emod_nonneg _ (by decide), Int.emod_lt_of_pos _ (by decide), s2⟩
      · rintro σ H2 ⟨m, x, rfl, m0, m1, s2⟩
        exact hN _ _ ⟨m, x, rfl, m0, m1, Same.trans s1 s2⟩
    · rintro σ H2 ⟨m, x, rfl, m0, m1, s2⟩
      walk_at "rs"
      refine ⟨_, Same.seq s2 hS, fun p H3 s3 h30 h3 => ⟨_, .inl (SqL.of h3), fun l H4 s4 h40 h4 => ⟨by decide, fun q H5 s5 h50 h5 => ?_⟩⟩⟩
      have e : cutV (ns.map V.int) none (some 63) = ns.map V.int := by
        refine (cutV_take (ns.map V.int) 63).trans ?_
        rw [List.take_of_length_le (by simpa using hl)]
      rw [e] at h4
      have s25 : Same H2 H5 := Same.trans s3 (Same.trans s4 s5)
      refine k q l H5 (Same.trans s2 s25) ⟨ns, 0, 0, m, 0, h5, s5 _ _ h4, fun z => ?_, Int.le_refl _, m0, m1⟩ ?_
      · rw [z, h50] at h4; cases h4
      · exact Same.dom s2 q (Same.dom s3 q (Same.dom s4 q h50))
end
end LK

set_option Elab.async false
set_option linter.all false
set_option maxRecDepth 100000
set_option pp.deepTerms true
set_option pp.maxSteps 20000
namespace LK
open PySem PySem.Spec PyProof.Rows L2
local macro_rules | `(tactic| walk_at "rs") => `(tactic| simp only [cxK, cxNK, tCallZ, tAsg, tOp, rI0, rS0, rB0, rI, rU, tUn, rEq, rNe, rIxL, rIxT, rIxS, rSetL, rSlLU, rSlS, rSlU, rCatL, rCatU, rRepL, rIn, tVar, tC, gName, gSub, tIfS, tTest, tB, tAnd, tOr, tNot, tNotV, tAndV, tOrV, tIf, tCall, tCons, tNil, tCB, tDrop, tRet, tRetN, tNext, tLstU, tTupU, tM0, tM1, tPar, tPar3, tAug, ipI, tBM, tBM0, rAppend, rPop, tBreak, tCont, tChain, tSl, tPart, tNoPart, L2.start, List.map, List.length_cons, List.length_nil, List.replicate, List.cons_append, List.nil_append, List.append_nil, List.getElem?_cons_zero, List.getElem?_cons_succ, List.set_cons_zero, List.set_cons_succ, Option.some.injEq, V.int.injEq, V.ref.injEq, V.str.injEq, V.bl.injEq, exists_eq_left', exists_eq_left, exists_and_left, decide_eq_true_eq, List.cons.injEq, and_true, true_and, scal, Bool.not_eq_true', decide_eq_false_iff_not, Nat.zero_add, Nat.reduceAdd, Nat.reduceSub, reduceCtorEq, false_and, exists_false, false_or, or_false, CPow, CMul, CDiv, Int.reduceToNat, ↓reduceIte, wipe, sw, List.nil_append, List.singleton_append])
local macro_rules | `(tactic| walk_at "st") => `(tactic| (refine seq_op fun N hN => ?_; walk_at "rs"))
local macro_rules | `(tactic| walk_at "sd") => `(tactic| first | assumption | decide | omega)
local macro_rules | `(tactic| walk_at "rd") => `(tactic| repeat (first
  | refine ⟨_, SqL.of (by assumption), ?_⟩ | refine ⟨_, SqL.of upd_same, ?_⟩ | refine ⟨_, .inl (SqL.of (by assumption)), ?_⟩ | refine ⟨_, (by assumption : _ = some (HO.lst _)), ?_⟩ | refine ⟨_, upd_same, ?_⟩
  | refine ⟨_, rfl, ?_⟩ | refine And.intro (by walk_at "sd") ?_))

theorem dep_tup (ds : List PyData) : dep (.tuple ds) = depAll ds + 1 := rfl
theorem dep_lst (ds : List PyData) : dep (.list ds) = depAll ds + 1 := rfl
theorem depAll_get : ∀ {ds : List PyData} {i : Nat} {d : PyData}, ds[i]? = some d → dep d ≤ depAll ds
  | [], _, _, e => by simp at e
  | a :: r, 0, _, e => by simp at e; subst e; exact Nat.le_max_left _ _
  | a :: r, i + 1, _, e => Nat.le_trans (depAll_get (ds := r) (i := i) (by simpa using e)) (Nat.le_max_right _ _)
theorem dpa_get4 {K : PySem.W.Frag} {H : Hp} : ∀ {vs : List V} {ds : List PyData} {i : Nat} {v : V}, DpAll K H vs ds → vs[i]? = some v → ∃ d, ds[i]? = some d ∧ Dp K H v d
  | _, _, _, _, .nil, e => by simp at e
  | _, _, 0, _, .cons r _, e => by simp at e; subst e; exact ⟨_, rfl, r⟩
  | _, _, i + 1, _, .cons _ t, e => by
    obtain ⟨d, h1, h2⟩ := dpa_get4 (i := i) t (by simpa using e)
    exact ⟨d, by simpa using h1, h2⟩
theorem dpa_len4 {K : PySem.W.Frag} {H : Hp} : ∀ {vs : List V} {ds : List PyData}, DpAll K H vs ds → vs.length = ds.length
  | _, _, .nil => rfl
  | _, _, .cons _ t => by simp [dpa_len4 t]
theorem ok_get4 : ∀ {ds : List PyData} {i : Nat} {d : PyData}, okAll ds = true → ds[i]? = some d → okD d = true
  | [], _, _, _, e => by simp at e
  | a :: r, 0, _, h, e => by
    simp at e; subst e
    unfold okAll at h; rw [Bool.and_eq_true] at h; exact h.1
  | a :: r, i + 1, _, h, e => by
    unfold okAll at h; rw [Bool.and_eq_true] at h
    exact ok_get4 (i := i) h.2 (by simpa using e)
theorem isTy_leaf {d : PyData} (h1 : ∀ ds, d ≠ .list ds) (h2 : ∀ ds, d ≠ .tuple ds) : isTy "list" d = false ∧ isTy "tuple" d = false := by
  cases d <;> simp [isTy] <;> first | exact absurd rfl (h1 _) | exact absurd rfl (h2 _)
theorem walk_zipT {K : PySem.W.Frag} {a b : Addr} {xs ys : List V} {n : Nat} (hx : xs.length = n) (hy : ys.length = n) : Walk (RZ.ItzT K a b) n (fun H => SqT K H a xs ∧ SqT K H b ys) (YPair (fun i => xs[i]?) (fun i => ys[i]?)) := by
  refine ⟨fun i _ hi q => ?_, fun _ q => ⟨xs, ys, q.1, q.2, by omega⟩, fun i H v H' _ q y => ?_⟩
  · have h1 : i < xs.length := by omega
    have h2 : i < ys.length := by omega
    exact ⟨xs, ys, xs[i], ys[i], q.1, q.2, by simp [h1], by simp [h2]⟩
  · obtain ⟨T, x, z, h1, h2, h3, h4, h5⟩ := y
    exact ⟨T, x, z, h1, h2, h3, h4 xs q.1, h5 ys q.2⟩
section
variable {P : Program} {w : World} {K : PySem.W.Frag} {mg : Str → Option Value} {base : Heap}
theorem like_step (T : Txt w K mg) (n : Nat) (ih : ∀ m, m + 1 = n → FnOk P w K mg base CX0 (m + 1) T.a__law_like T.d__law_like ["got", "due"] (sp__law_like K m)) : FnOk P w K mg base CX0 (n + 1) T.a__law_like T.d__law_like ["got", "due"] (sp__law_like K n) := by
  refine T.F__law_like.ok sc__law_like (fun vs H Q E h => ?_) (fun cdv A outer s H vs Q E hr h => ?_)
  · obtain ⟨v, u, d, rfl, _⟩ := h
    rfl
  · obtain ⟨v, u, d, rfl, hv, hu, hok, hdep, k⟩ := h
    have leaf : isTy "list" d = false ∧ isTy "tuple" d = false ∨ (∃ ds, (d = .list ds ∨ d = .tuple ds)) := by
      cases d <;> first | exact .inr ⟨_, .inl rfl⟩ | exact .inr ⟨_, .inr rfl⟩ | exact .inl ⟨rfl, rfl⟩
    rcases leaf with ⟨el, et⟩ | ⟨ds, hds⟩
    · refine ⟨_, (pss_cons (ps_if (pt_val (pe_callB call_isiDT (by rfl) T.n_isinstance (by decide +kernel) (pa_cons (pv 1) (pa_cons (pe_tupU (pa_cons (pe_bltn (v := .ty "list") (u := .type "list") (by rfl) T.n_list (by decide +kernel) rfl) (pa_cons (pe_bltn (v := .ty "tuple") (u := .type "tuple") (by rfl) T.n_tuple (by decide +kernel) rfl) pa_nil))) pa_nil)))) pss_never pss_nil) (pss_cons (ps_if (PW.pt (pw_or (pt_cmpR op_isN (pv 1) pe_non (nomark _)) (pw_or1 (pt_cmpR op_isN (pv 0) pe_non (nomark _))))) (pss_one (ps_ret (pe_and (pe_cmpR op_isN (pv 1) pe_non (nomark _)) (pe_one (pe_cmpR op_isN (pv 0) pe_non (nomark _)))))) pss_nil)
      (pss_cons (ps_if (PW.pt (pw_or (pt_val (pe_callB call_isiDT (by rfl) T.n_isinstance (by decide +kernel) (pa_cons (pv 0) (pa_cons (pe_tupU (pa_cons (pe_bltn (v := .ty "list") (u := .type "list") (by rfl) T.n_list (by decide +kernel) rfl) (pa_cons (pe_bltn (v := .ty "tuple") (u := .type "tuple") (by rfl) T.n_tuple (by decide +kernel) rfl) pa_nil))) pa_nil)))) (pw_or1 (pt_cmpR op_neB (pe_callB (call_isiDK (K := K) rfl) (by rfl) T.n_isinstance (by decide +kernel) (pa_cons (pv 0) (pa_cons (pe_bltn (v := .ty "bool") (u := .type "bool") (by rfl) T.n_bool (by decide +kernel) rfl) pa_nil))) (pe_callB (call_isiDK (K := K) rfl) (by rfl) T.n_isinstance (by decide +kernel) (pa_cons (pv 1) (pa_cons (pe_bltn (v := .ty "bool") (u := .type "bool") (by rfl) T.n_bool (by decide +kernel) rfl) pa_nil))) (nomark _))))) (pss_one (ps_ret pe_bl)) pss_nil)
      (pss_cons (ps_if (PW.pt (pw_or (pt_cmpR op_neB (pe_callB (call_isiDK (K := K) rfl) (by rfl) T.n_isinstance (by decide +kernel) (pa_cons (pv 0) (pa_cons (pe_bltn (v := .ty "str") (u := .type "str") (by rfl) T.n_str (by decide +kernel) rfl) pa_nil))) (pe_callB (call_isiDK (K := K) rfl) (by rfl) T.n_isinstance (by decide +kernel) (pa_cons (pv 1) (pa_cons (pe_bltn (v := .ty "str") (u := .type "str") (by rfl) T.n_str (by decide +kernel) rfl) pa_nil))) (nomark _)) (pw_or1 (pt_cmpR op_neB (pe_callB (call_isiDK (K := K) rfl) (by rfl) T.n_isinstance (by decide +kernel) (pa_cons (pv 0) (pa_cons (pe_bltn (v := .ty "int") (u := .type "int") (by rfl) T.n_int (by decide +kernel) rfl) pa_nil))) (pe_callB (call_isiDK (K := K) rfl) (by rfl) T.n_isinstance (by decide +kernel) (pa_cons (pv 1) (pa_cons (pe_bltn (v := .ty "int") (u := .type "int") (by rfl) T.n_int (by decide +kernel) rfl) pa_nil))) (nomark _))))) (pss_one (ps_ret pe_bl)) pss_nil)
      (pss_one (ps_ret (pe_cmpR op_eq (pv 0) (pv 1) (nomark _)))))))), ?_⟩
      refine seq_op fun N hN => ?_
      walk_at "rs"
      refine ⟨by decide, fun p H1 s1 h0 h1 => ⟨_, p, ⟨rfl, rfl⟩, h1, _, dp_same s1 hu, iteFF (by rw [el, et]; decide) (hN _ _ ?_)⟩⟩
      clear hN N h1
      have hv1 := dp_same s1 hv
      have hu1 := dp_same s1 hu
      have k1 := fun H' (s : Same H1 H') => k H' (Same.trans s1 s)
      refine seq_op fun N hN => ?_
      walk_at "rs"
      by_cases cn : d = .none
      · subst cn
        cases hu
        cases hv
        exact iteTT rfl (iteTT rfl (k1 H1 (Same.refl _)))
      · have vn : v ≠ .non := fun e => by subst e; cases hv; exact cn rfl
        have un : u ≠ .non := fun e => by subst e; cases hu; exact cn rfl
        refine iteFF un (iteFF vn (hN _ _ ?_))
        clear hN N
        refine seq_op fun N hN => ?_
        walk_at "rs"
        refine ⟨by decide, fun p2 H2 s2 h02 h12 => ⟨_, p2, ⟨rfl, rfl⟩, h12, _, dp_same s2 hv1, iteFF (by rw [el, et]; decide) ?_⟩⟩
        refine ⟨_, "bool", ⟨rfl, rfl⟩, _, dp_same s2 hv1, by simp, _, "bool", ⟨rfl, rfl⟩, _, dp_same s2 hu1, by simp, iteFF (by simp) (hN _ _ ?_)⟩
        clear hN N
        refine seq_op fun N hN => ?_
        walk_at "rs"
        refine ⟨_, "str", ⟨rfl, rfl⟩, _, dp_same s2 hv1, by simp, _, "str", ⟨rfl, rfl⟩, _, dp_same s2 hu1, by simp, iteFF (by simp) ?_⟩
        refine ⟨_, "int", ⟨rfl, rfl⟩, _, dp_same s2 hv1, by simp, _, "int", ⟨rfl, rfl⟩, _, dp_same s2 hu1, by simp, iteFF (by simp) (hN _ _ ?_)⟩
        clear hN N
        walk_at "rs"
        have kk := k1 H2 s2
        have fin : scal v u = true ∧ Q (.bl (decide (v = u))) H2 := by
          cases hv with
          | non => exact absurd rfl cn
          | bl b => cases hu; exact ⟨rfl, by rw [decide_eq_true rfl]; exact kk⟩
          | int b => cases hu; exact ⟨rfl, by rw [decide_eq_true rfl]; exact kk⟩
          | str b => cases hu; exact ⟨rfl, by rw [decide_eq_true rfl]; exact kk⟩
          | lst _ _ => simp [isTy] at el
          | tup _ _ => simp [isTy] at et
        exact fin
    · obtain ⟨m, rfl⟩ : ∃ m, n = m + 1 := by
        rcases hds with rfl | rfl
        · rw [dep_lst] at hdep; exact ⟨n - 1, by omega⟩
        · rw [dep_tup] at hdep; exact ⟨n - 1, by omega⟩
      have hr__law_like : Room (m + 1) _ := hr
      have G__law_like := ih m rfl
      have hdm : depAll ds ≤ m := by
        rcases hds with rfl | rfl
        · rw [dep_lst] at hdep; omega
        · rw [dep_tup] at hdep; omega
      refine ⟨_, (pss_cons (ps_if (pt_val (pe_callB call_isiDT (by rfl) T.n_isinstance (by decide +kernel) (pa_cons (pv 1) (pa_cons (pe_tupU (pa_cons (pe_bltn (v := .ty "list") (u := .type "list") (by rfl) T.n_list (by decide +kernel) rfl) (pa_cons (pe_bltn (v := .ty "tuple") (u := .type "tuple") (by rfl) T.n_tuple (by decide +kernel) rfl) pa_nil))) pa_nil)))) (pss_cons (ps_if (PW.pt (pw_or (pt_cmpR op_neB (pe_callB (call_isiDK (K := K) rfl) (by rfl) T.n_isinstance (by decide +kernel) (pa_cons (pv 0) (pa_cons (pe_bltn (v := .ty "list") (u := .type "list") (by rfl) T.n_list (by decide +kernel) rfl) pa_nil))) (pe_callB (call_isiDK (K := K) rfl) (by rfl) T.n_isinstance (by decide +kernel) (pa_cons (pv 1) (pa_cons (pe_bltn (v := .ty "list") (u := .type "list") (by rfl) T.n_list (by decide +kernel) rfl) pa_nil))) (nomark _)) (pw_or1 (pt_cmpR op_neB (pe_callB (call_isiDK (K := K) rfl) (by rfl) T.n_isinstance (by decide +kernel) (pa_cons (pv 0) (pa_cons (pe_bltn (v := .ty "tuple") (u := .type "tuple") (by rfl) T.n_tuple (by decide +kernel) rfl) pa_nil))) (pe_callB (call_isiDK (K := K) rfl) (by rfl) T.n_isinstance (by decide +kernel) (pa_cons (pv 1) (pa_cons (pe_bltn (v := .ty "tuple") (u := .type "tuple") (by rfl) T.n_tuple (by decide +kernel) rfl) pa_nil))) (nomark _))))) (pss_one (ps_ret pe_bl)) pss_nil)
      (pss_one (ps_ret (pe_and (pe_cmpR op_eqI (pe_callB call_lenD (by rfl) T.n_len (by decide +kernel) (pa_cons (pv 0) pa_nil)) (pe_callB call_lenD (by rfl) T.n_len (by decide +kernel) (pa_cons (pv 1) pa_nil)) (nomark _)) (pe_one (pe_callB (cr_all rfl) (by rfl) T.n_all (by decide +kernel) (pa_cons (pe_lc (own := [("one", 2), ("two", 3)]) (g := gTup K 2 (gCons (gName 2) (gCons (gName 3) (gNil)))) (tt := tYes) rfl sc__law_like.nd (RZ.pi_zipA (by rfl) T.n_zip (pa_cons (pv 0) (pa_cons (pv 1) pa_nil))) (blkOk_by (own := [("one", 2), ("two", 3)]) (N := N__law_like) (sc := defScope s__law_like) (by decide +kernel)) (fun _ _ _ _ _ => by exact (pg_tup rfl (pgs_cons (pg_name (i := 2) sc__law_like.nd rfl (Or.inl rfl)) (pgs_cons (pg_name (i := 3) sc__law_like.nd rfl (Or.inl rfl)) pgs_nil)))) (fun _ _ _ _ _ => pts_nil) (fun _ _ _ _ _ => (pe_call G__law_like hr__law_like (by rfl) T.m__law_like T.F__law_like.kp T.B__law_like .nil pass0 (pa_cons (pv 2) (pa_cons (pv 3) pa_nil))))) pa_nil))))))) pss_nil) pss_never), ?_⟩
      refine seq_op fun N hN => ?_
      clear hN
      walk_at "rs"
      refine ⟨by decide, fun p H1 s1 h0 h1 => ⟨_, p, ⟨rfl, rfl⟩, h1, _, dp_same s1 hu, iteTT (by rcases hds with rfl | rfl <;> simp [isTy]) ?_⟩⟩
      clear h1
      have hv1 := dp_same s1 hv
      have hu1 := dp_same s1 hu
      have k1 := fun H' (s : Same H1 H') => k H' (Same.trans s1 s)
      refine seq_op fun N2 hN2 => ?_
      walk_at "rs"
      refine ⟨_, "list", ⟨rfl, rfl⟩, _, hv1, by simp, _, "list", ⟨rfl, rfl⟩, _, hu1, by simp, iteFF (by simp) ?_⟩
      refine ⟨_, "tuple", ⟨rfl, rfl⟩, _, hv1, by simp, _, "tuple", ⟨rfl, rfl⟩, _, hu1, by simp, iteFF (by simp) (hN2 _ _ ?_)⟩
      clear hN2 N2
      walk_at "rs"
      have gm : ∀ (x : V) (σ0 : L2.St) (H0 : Hp) (Q0 Q1 : L2.St → Hp → Prop), (∀ σ2 H2, Q0 σ2 H2 → Q1 σ2 H2) → gTup K 2 (gCons (gName 2) (gCons (gName 3) gNil)) x σ0 H0 Q0 → gTup K 2 (gCons (gName 2) (gCons (gName 3) gNil)) x σ0 H0 Q1 :=
        fun x σ0 H0 Q0 Q1 h ⟨a, xs, e1, e2, e3, v, r, e4, v2, r2, e5, e6, q⟩ => ⟨a, xs, e1, e2, e3, v, r, e4, v2, r2, e5, e6, h _ _ q⟩
      have turn : ∀ {xs ys : List V} (hx : DpAll K H1 xs ds) (hy : DpAll K H1 ys ds) (i : Nat) (x : V) (H2 H' : Hp), Same H1 H2 → YPair (fun i => xs[i]?) (fun i => ys[i]?) i H2 x H' →
          gTup K 2 (gCons (gName 2) (gCons (gName 3) gNil)) x (wipe [some v, some u, none, none] [2, 3]) H' fun σ2 H3 => Same H2 H3 ∧ wipe σ2 [2, 3] = wipe [some v, some u, none, none] [2, 3] ∧ ∀ Q2 : V → Hp → Prop, (∀ H4, Same H3 H4 → Q2 (.bl true) H4) → tCall (sp__law_like K m) [] E0 (tCons (tVar 2) (tCons (tVar 3) tNil)) σ2 H3 Q2 := by
        rintro xs ys hx hy i x H2 H' s2 ⟨T0, y1, y2, rfl, hT, rfl, h1, h2⟩
        obtain ⟨d1, e1, hd1⟩ := dpa_get4 hx h1
        obtain ⟨d2, e2, hd2⟩ := dpa_get4 hy h2
        rw [e1] at e2
        cases e2
        have s3 := Same.trans s2 (same_upd (o := .tup [y1, y2]) hT)
        refine ⟨T0, [y1, y2], rfl, .inl (.inl upd_same), rfl, y1, [y2], rfl, y2, [], rfl, rfl, same_upd hT, rfl, fun Q2 hq => ?_⟩
        refine ⟨_, rfl, _, rfl, y1, y2, d1, rfl, dp_same s3 hd1, dp_same s3 hd2, ?_, Nat.le_trans (depAll_get e1) hdm, hq⟩
        refine ok_get4 ?_ e1
        rcases hds with rfl | rfl
        · exact (okD_lst.mp hok).2
        · exact (okD_tup.mp hok).2
      have fin : ∀ {D : Addr} {H' : Hp} {n : Nat}, Same H1 H' → H' D = some (.lst ((List.range n).map fun _ => V.bl true)) → rAll K [V.ref D] H' Q := by
        intro D H' n s h
        refine ⟨D, (List.range n).map fun _ => true, rfl, SqL.of (by rw [h, List.map_map]; rfl), ?_⟩
        rw [all_map_id]
        have e : ((List.range n).all fun _ => true) = true := by simp
        rw [e]
        exact k1 H' s
      refine ⟨_, hv1, .inl ⟨ds, hds, _, hu1, .inl ⟨ds, hds, iteTT rfl ?_⟩⟩⟩
      rcases hds with rfl | rfl
      · cases hv1 with
        | @lst a xs _ ha hda =>
          cases hu1 with
          | @lst b ys _ hb hdb =>
            have lx := dpa_len4 hda
            have ly := dpa_len4 hdb
            have small : ds.length ≤ 1000000 := Nat.le_trans (okD_lst.mp hok).1 (by decide)
            exact ⟨_, rfl, _, rfl, a, b, xs, ys, rfl, .inl ⟨ha, hb, fun D hD => lc_pure (walk_zip (n := ds.length) (by omega)) hD small (fun _ => .bl true) (fun H s => ⟨Same.seq s ha, Same.seq s hb⟩) (fun i x H2 H' _ s2 y => turn hda hdb i x H2 H' s2 y) gm fun H' s h => fin s h⟩⟩
      · cases hv1 with
        | @tup a xs _ ha hda =>
          cases hu1 with
          | @tup b ys _ hb hdb =>
            have lx := dpa_len4 hda
            have ly := dpa_len4 hdb
            have small : ds.length ≤ 1000000 := Nat.le_trans (okD_tup.mp hok).1 (by decide)
            exact ⟨_, rfl, _, rfl, a, b, xs, ys, rfl, .inr ⟨ha, hb, fun D hD => lc_pure (walk_zipT (n := ds.length) lx ly) hD small (fun _ => .bl true) (fun H s => ⟨Same.seqT s ha, Same.seqT s hb⟩) (fun i x H2 H' _ s2 y => turn hda hdb i x H2 H' s2 y) gm fun H' s h => fin s h⟩⟩
theorem ok__law_like (T : Txt w K mg) : ∀ n : Nat, FnOk P w K mg base CX0 (n + 1) T.a__law_like T.d__law_like ["got", "due"] (sp__law_like K n) := by
  intro n
  induction n with
  | zero => exact like_step T 0 fun m e => by omega
  | succ n ih =>
    refine like_step T (n + 1) fun m e => ?_
    obtain rfl : m = n := by omega
    exact ih
end
end LK

set_option Elab.async false
set_option linter.all false
set_option maxRecDepth 100000
set_option pp.deepTerms true
set_option pp.maxSteps 20000
namespace LK
open PySem PySem.Spec PyProof.Rows L2
local macro_rules | `(tactic| walk_at "rs") => `(tactic| simp only [cxK, cxNK, tCallZ, tAsg, tOp, rI0, rS0, rB0, rI, rU, tUn, rEq, rNe, rIxL, rIxT, rIxS, rSetL, rSlLU, rSlS, rSlU, rCatL, rCatU, rRepL, rIn, tVar, tC, gName, gSub, tIfS, tTest, tB, tAnd, tOr, tNot, tNotV, tAndV, tOrV, tIf, tCall, tCons, tNil, tCB, tDrop, tRet, tRetN, tNext, tLstU, tTupU, tM0, tM1, tPar, tPar3, tAug, ipI, tBM, tBM0, rAppend, rPop, tBreak, tCont, tChain, tSl, tPart, tNoPart, L2.start, List.map, List.length_cons, List.length_nil, List.replicate, List.cons_append, List.nil_append, List.append_nil, List.getElem?_cons_zero, List.getElem?_cons_succ, List.set_cons_zero, List.set_cons_succ, Option.some.injEq, V.int.injEq, V.ref.injEq, V.str.injEq, V.bl.injEq, exists_eq_left', exists_eq_left, exists_and_left, decide_eq_true_eq, List.cons.injEq, and_true, true_and, scal, Bool.not_eq_true', decide_eq_false_iff_not, Nat.zero_add, Nat.reduceAdd, Nat.reduceSub, reduceCtorEq, false_and, exists_false, false_or, or_false, CPow, CMul, CDiv, Int.reduceToNat, ↓reduceIte, wipe, sw, List.nil_append, List.singleton_append])
local macro_rules | `(tactic| walk_at "st") => `(tactic| (refine seq_op fun N hN => ?_; walk_at "rs"))
local macro_rules | `(tactic| walk_at "sd") => `(tactic| first | assumption | decide | omega)
local macro_rules | `(tactic| walk_at "rd") => `(tactic| repeat (first
  | refine ⟨_, SqL.of (by assumption), ?_⟩ | refine ⟨_, SqL.of upd_same, ?_⟩ | refine ⟨_, .inl (SqL.of (by assumption)), ?_⟩ | refine ⟨_, (by assumption : _ = some (HO.lst _)), ?_⟩ | refine ⟨_, upd_same, ?_⟩
  | refine ⟨_, rfl, ?_⟩ | refine And.intro (by walk_at "sd") ?_))

theorem okAll_mem {K : PySem.W.Frag} {G : Hp} {m : Nat} : ∀ {ys : List V}, (∀ v ∈ ys, ∃ d, Dp K G v d ∧ okD d = true ∧ dep d ≤ m) → ∃ ds, DpAll K G ys ds ∧ okAll ds = true ∧ depAll ds ≤ m ∧ ds.length = ys.length
  | [], _ => ⟨[], .nil, rfl, Nat.zero_le _, rfl⟩
  | v :: ys, h => by
    obtain ⟨d, h1, h2, h3⟩ := h v List.mem_cons_self
    obtain ⟨ds, q1, q2, q3, q4⟩ := okAll_mem (ys := ys) fun v hv => h v (List.mem_cons_of_mem _ hv)
    refine ⟨d :: ds, .cons h1 q1, ?_, Nat.max_le.mpr ⟨h3, q3⟩, by simp [q4]⟩
    unfold okAll
    rw [h2, q2]; rfl
theorem Kp.bn {b : Addr} {H H' : Hp} (k : Kp b H H') {o : HO} (h : H' b = some o) {p : Addr} (h0 : H' p = none) : H p = none := k.dom h p h0
theorem of_str {K : PySem.W.Frag} {H : Hp} {b c : Addr} (B : Bag H b c) {z : Str} (h0 : 0 < z.length) (h1 : z.length ≤ 100000) {Q : VK} {E : XK} (k : ∀ c0 H', Bag H' b c → Kp b H H' → Q (.str ⟨#[c0]⟩) H') : sp__law_of K [.ref b, .str z] H Q E := by
  have l := len_cps z
  refine ⟨b, c, .str z, _, rfl, B, .inr (.inr ⟨z, rfl, h1, rfl⟩), .inr (.inr ⟨z, rfl, h1, rfl⟩), ?_, ?_, fun y H' hy B' K' => ?_⟩
  · intro e
    have q := congrArg List.length e
    rw [List.length_map, l, List.length_nil] at q
    omega
  · rw [List.length_map]; omega
  · obtain ⟨c0, _, rfl⟩ := List.mem_map.mp hy
    exact k c0 H' B' K'
theorem of_lst {K : PySem.W.Frag} {H : Hp} {b c p : Addr} (B : Bag H b c) {ys : List V} (h : H p = some (.lst ys)) (n : p ≠ b) (ne : ys ≠ []) (hl : ys.length ≤ 1000000) {Q : VK} {E : XK} (k : ∀ y H', y ∈ ys → Bag H' b c → Kp b H H' → Q y H') : sp__law_of K [.ref b, .ref p] H Q E :=
  ⟨b, c, .ref p, ys, rfl, B, .inl ⟨p, rfl, SqL.of h⟩, .inl ⟨p, rfl, SqL.of (by rw [hb_ne n]; exact h)⟩, ne, hl, k⟩
theorem sqT_hb {K : PySem.W.Frag} {H : Hp} {b c q : Addr} {xs : List V} (B : Bag H b c) (h : SqT K H q xs) : SqT K (hb H b) q xs := by
  obtain ⟨yb, eb⟩ := B.at
  rcases h with (h | ⟨o, h⟩) | h
  · refine .inl (.inl ?_)
    rw [hb_ne]; exact h
    intro e; rw [e, eb] at h; cases h
  · refine .inl (.inr ⟨o, ?_⟩)
    rw [hb_ne]; exact h
    intro e; rw [e, eb] at h; cases h
  · exact .inr h
theorem of_new {K : PySem.W.Frag} {H H1 : Hp} {b c p : Addr} (B : Bag H b c) {L : List V} (s1 : Same H H1) (h0 : H p = none) (h1 : H1 p = some (.lst L)) (ne : L ≠ []) (hl : L.length ≤ 1000000) {Q : VK} {E : XK} (k : ∀ y H2, y ∈ L → Bag H2 b c → Kp b H H2 → Q y H2) : sp__law_of K [.ref b, .ref p] H1 Q E :=
  of_lst (B.same s1) h1 (fun e => by
    obtain ⟨xb, eb⟩ := B.at
    rw [e, eb] at h0; cases h0) ne hl fun y H2 hy B2 K2 => k y H2 hy B2 (Same.trans (Kp.of s1) K2)
/-- as before, of words -/
theorem of_newS {K : PySem.W.Frag} {H H1 : Hp} {b c p : Addr} (B : Bag H b c) (L : List Str) (s1 : Same H H1) (h0 : H p = none) (h1 : H1 p = some (.lst (L.map V.str))) (ne : L ≠ []) (hl : L.length ≤ 1000000) {m : Nat} (hm : ∀ z ∈ L, z.length ≤ m) {Q : VK} {E : XK} (k : ∀ z H2, z.length ≤ m → Bag H2 b c → Kp b H H2 → Q (.str z) H2) : sp__law_of K [.ref b, .ref p] H1 Q E :=
  of_new B s1 h0 h1 (by simpa using ne) (by rw [List.length_map]; exact hl) fun y H2 hy B2 K2 => by
    obtain ⟨z, hz, rfl⟩ := List.mem_map.mp hy
    exact k z H2 (hm z hz) B2 K2
theorem of_newR {K : PySem.W.Frag} {H H1 : Hp} {b c p : Addr} (B : Bag H b c) (L : List Str) (s1 : Same H H1) (h0 : H p = none) (h1 : H1 p = some (.lst (L.map V.str))) (ne : L ≠ []) (hl : L.length ≤ 1000000) {R : Str → Prop} (hm : ∀ z ∈ L, R z) {Q : VK} {E : XK} (k : ∀ z H2, R z → Bag H2 b c → Kp b H H2 → Q (.str z) H2) : sp__law_of K [.ref b, .ref p] H1 Q E :=
  of_new B s1 h0 h1 (by simpa using ne) (by rw [List.length_map]; exact hl) fun y H2 hy B2 K2 => by
    obtain ⟨z, hz, rfl⟩ := List.mem_map.mp hy
    exact k z H2 (hm z hz) B2 K2
theorem of_lstS {K : PySem.W.Frag} {H : Hp} {b c p : Addr} (B : Bag H b c) (L : List Str) (h : H p = some (.lst (L.map V.str))) (n : p ≠ b) (ne : L ≠ []) (hl : L.length ≤ 1000000) {m : Nat} (hm : ∀ z ∈ L, z.length ≤ m) {Q : VK} {E : XK} (k : ∀ z H', z.length ≤ m → Bag H' b c → Kp b H H' → Q (.str z) H') : sp__law_of K [.ref b, .ref p] H Q E :=
  of_lst B h n (by simpa using ne) (by rw [List.length_map]; exact hl) fun y H2 hy B2 K2 => by
    obtain ⟨z, hz, rfl⟩ := List.mem_map.mp hy
    exact k z H2 (hm z hz) B2 K2
/-- each thing in xs is a thing that can be told of -/
def Ev (K : PySem.W.Frag) (G : Hp) (xs : List V) : Prop := ∀ v ∈ xs, ∃ d, Dp K G v d ∧ okD d = true
theorem Ev.same {K : PySem.W.Frag} {G G' : Hp} {xs : List V} (s : Same G G') (h : Ev K G xs) : Ev K G' xs := fun v hv => by
  obtain ⟨d, h1, h2⟩ := h v hv
  exact ⟨d, dp_same s h1, h2⟩
theorem Ev.app {K : PySem.W.Frag} {G : Hp} {xs ys : List V} (h : Ev K G xs) (h' : Ev K G ys) : Ev K G (xs ++ ys) := fun v hv => (List.mem_append.mp hv).elim (h v) (h' v)
theorem Ev.cut {K : PySem.W.Frag} {G : Hp} {xs : List V} (h : Ev K G xs) (lo hi : Option Int) : Ev K G (cutV xs lo hi) := fun v hv => h v (List.mem_of_mem_drop (List.mem_of_mem_take hv))
theorem Ev.one {K : PySem.W.Frag} {G : Hp} {v : V} {d : PyData} (h : Dp K G v d) (ok : okD d = true) : Ev K G [v] := fun u hu => by
  obtain rfl := List.mem_singleton.mp hu
  exact ⟨d, h, ok⟩
theorem Ev.strs {K : PySem.W.Frag} {G : Hp} {ws : List Str} (h : ∀ z ∈ ws, z.length ≤ 20) : Ev K G (ws.map V.str) := fun v hv => by
  obtain ⟨z, hz, rfl⟩ := List.mem_map.mp hv
  exact ⟨.str z, .str z, decide_eq_true (Nat.le_trans (h z hz) (by decide))⟩
theorem Ev.all {K : PySem.W.Frag} {G : Hp} : ∀ {xs : List V}, Ev K G xs → ∃ ds, DpAll K G xs ds ∧ okAll ds = true ∧ ds.length = xs.length
  | [], _ => ⟨[], .nil, rfl, rfl⟩
  | v :: xs, h => by
    obtain ⟨d, h1, h2⟩ := h v List.mem_cons_self
    obtain ⟨ds, q1, q2, q3⟩ := Ev.all (xs := xs) fun v hv => h v (List.mem_cons_of_mem _ hv)
    exact ⟨d :: ds, .cons h1 q1, by unfold okAll; rw [h2, q2]; rfl, by simp [q3]⟩
theorem Ev.of {K : PySem.W.Frag} {G : Hp} : ∀ {xs : List V} {ds : List PyData}, DpAll K G xs ds → okAll ds = true → Ev K G xs ∧ xs.length = ds.length
  | _, _, .nil, _ => ⟨fun v hv => absurd hv (by simp), rfl⟩
  | _, _, .cons h q, ok => by
    unfold okAll at ok
    rw [Bool.and_eq_true] at ok
    obtain ⟨e, l⟩ := Ev.of q ok.2
    exact ⟨fun v hv => (List.mem_cons.mp hv).elim (fun z => by rw [z]; exact ⟨_, h, ok.1⟩) (e v), by simp [l]⟩
theorem seqT_kp {K : PySem.W.Frag} {H H' : Hp} {b c q : Addr} {xs : List V} (B : Bag H b c) (k : Kp b H H') (h : SqT K H q xs) : SqT K H' q xs := Same.seqT (hb_le H' b) (Same.seqT k (sqT_hb B h))
theorem cut1_le (xs : List V) {i : Int} (h : 0 ≤ i) : (cutV xs (some i) (some (i + 1))).length ≤ 1 := by
  obtain ⟨j, rfl⟩ := Int.eq_ofNat_of_zero_le h
  unfold cutV
  rw [List.length_take, HT.sIx_nat, show ((j : Int) + 1) = ((j + 1 : Nat) : Int) from rfl, HT.sIx_nat]
  omega
theorem Kp.keep {b p : Addr} {H1 H2 : Hp} {o : HO} (k : Kp b H1 H2) (n : p ≠ b) (h : H1 p = some o) : H2 p = some o := k.hd h n
theorem new_ne {b c p : Addr} {H : Hp} (B : Bag H b c) (h0 : H p = none) : p ≠ b := fun e => by
  obtain ⟨xb, eb⟩ := B.at
  rw [e, eb] at h0; cases h0
theorem rep_strs (n : Nat) (z : Str) : (List.replicate n [V.str z]).flatten = (List.replicate n z).map V.str := by
  induction n with
  | zero => rfl
  | succ n ih => rw [List.replicate_succ, List.flatten_cons, ih, List.replicate_succ]; rfl
theorem rep_short {n m : Nat} {z : Str} (h : z.length ≤ m) : ∀ y ∈ List.replicate n z, y.length ≤ m := fun y hy => by
  rw [(List.mem_replicate.mp hy).2]; exact h
end LK

set_option Elab.async false
set_option linter.all false
set_option maxRecDepth 100000
set_option pp.deepTerms true
set_option pp.maxSteps 20000
namespace LK
open PySem PySem.Spec PyProof.Rows L2
local macro_rules | `(tactic| walk_at "rs") => `(tactic| simp only [cxK, cxNK, tCallZ, tAsg, tOp, rI0, rS0, rB0, rI, rU, tUn, rEq, rNe, rIxL, rIxT, rIxS, rSetL, rSlLU, rSlS, rSlU, rCatL, rCatU, rRepL, rIn, tVar, tC, gName, gSub, tIfS, tTest, tB, tAnd, tOr, tNot, tNotV, tAndV, tOrV, tIf, tCall, tCons, tNil, tCB, tDrop, tRet, tRetN, tNext, tLstU, tTupU, tM0, tM1, tPar, tPar3, tAug, ipI, tBM, tBM0, rAppend, rPop, tBreak, tCont, tChain, tSl, tPart, tNoPart, L2.start, List.map, List.length_cons, List.length_nil, List.replicate, List.cons_append, List.nil_append, List.append_nil, List.getElem?_cons_zero, List.getElem?_cons_succ, List.set_cons_zero, List.set_cons_succ, Option.some.injEq, V.int.injEq, V.ref.injEq, V.str.injEq, V.bl.injEq, exists_eq_left', exists_eq_left, exists_and_left, decide_eq_true_eq, List.cons.injEq, and_true, true_and, scal, Bool.not_eq_true', decide_eq_false_iff_not, Nat.zero_add, Nat.reduceAdd, Nat.reduceSub, reduceCtorEq, false_and, exists_false, false_or, or_false, CPow, CMul, CDiv, Int.reduceToNat, ↓reduceIte, wipe, sw, List.nil_append, List.singleton_append])
local macro_rules | `(tactic| walk_at "st") => `(tactic| (refine seq_op fun N hN => ?_; walk_at "rs"))
local macro_rules | `(tactic| walk_at "sd") => `(tactic| first | assumption | decide | omega)
local macro_rules | `(tactic| walk_at "rd") => `(tactic| repeat (first
  | refine ⟨_, SqL.of (by assumption), ?_⟩ | refine ⟨_, SqL.of upd_same, ?_⟩ | refine ⟨_, .inl (SqL.of (by assumption)), ?_⟩ | refine ⟨_, (by assumption : _ = some (HO.lst _)), ?_⟩ | refine ⟨_, upd_same, ?_⟩
  | refine ⟨_, rfl, ?_⟩ | refine And.intro (by walk_at "sd") ?_))

theorem FIG_digit {c : Nat} (h : inS c FIGs = true) : 48 ≤ c ∧ c ≤ 57 := by
  have q : c ∈ FIGs.cps.toList := of_decide_eq_true h
  have e : FIGs.cps.toList = [48, 49, 50, 51, 52, 53, 54, 55, 56, 57] := by decide +kernel
  rw [e] at q
  simp only [List.mem_cons, List.mem_nil_iff, or_false] at q
  omega
theorem digitsVal_lt : ∀ (cs : List Nat) (a : Nat), NumText.AllDigits cs → cs.foldl (fun acc c => acc * 10 + (c - 48)) a < (a + 1) * 10 ^ cs.length
  | [], a, _ => by simp
  | c :: cs, a, h => by
    have hc := h.head
    have ih := digitsVal_lt cs (a * 10 + (c - 48)) h.tail
    show cs.foldl _ (a * 10 + (c - 48)) < _
    refine Nat.lt_of_lt_of_le ih ?_
    rw [List.length_cons, Nat.pow_succ, ← Nat.mul_assoc, Nat.mul_right_comm]
    exact Nat.mul_le_mul_right _ (by omega)
theorem log_small {n : Nat} (h : n < 10 ^ 60) : n.log2 < 1920 := by
  by_cases c : n = 0
  · subst c; decide
  · exact (Nat.log2_lt c).mpr (Nat.lt_of_lt_of_le h (by decide +kernel))
theorem int_figures {z : Str} (h1 : 1 ≤ (figures z).length ∧ (figures z).length ≤ 60) (h2 : ((figures z).cps.toList.all fun c => inS c FIGs) = true) (hz : z.length ≤ 100000) : ∃ n, intText? z = some n ∧ n.natAbs.log2 < 1920 ∧ z.length ≤ 640 := by
  have ad : NumText.AllDigits (figures z).cps.toList := fun c hc => FIG_digit (List.all_eq_true.mp h2 c hc)
  have ne : (figures z).cps.toList ≠ [] := fun e => by
    have l : (figures z).length = (figures z).cps.toList.length := by rw [Array.length_toList]; rfl
    rw [e] at l
    have := h1.1
    simp at l
    omega
  have lf : (figures z).cps.toList.length ≤ 60 := by rw [Array.length_toList]; exact h1.2
  have vl := digitsVal_lt (figures z).cps.toList 0 ad
  have vs : NumText.digitsVal (figures z).cps.toList < 10 ^ 60 := Nat.lt_of_lt_of_le vl (by rw [Nat.zero_add, Nat.one_mul]; exact Nat.pow_le_pow_right (by decide) lf)
  by_cases c : Txt.startswith z "-" = true
  · have e : figures z = cutS z (some 1) none := if_pos c
    obtain ⟨r, hr⟩ := starts_minus c
    have er : (figures z).cps.toList = r := by rw [e, cutS_tail, hr]; rfl
    rw [er] at ad ne vs lf
    have lz : z.length ≤ 61 := by rw [← len_cps, hr, List.length_cons]; omega
    refine ⟨_, intText_neg hr ad ne (by omega), ?_, by omega⟩
    rw [Int.natAbs_neg, Int.natAbs_natCast]
    exact log_small vs
  · have e : figures z = z := if_neg c
    rw [e] at ad ne vs h1
    refine ⟨_, intText_digits ad ne (by have := h1.2; omega), ?_, by have := h1.2; omega⟩
    rw [Int.natAbs_natCast]
    exact log_small vs
section
variable {P : Program} {w : World} {K : PySem.W.Frag} {mg : Str → Option Value} {base : Heap}
theorem ok_read_number (T : Txt w K mg) : FnOk P w K mg base CX0 1 T.a_read_number T.d_read_number ["word"] sp_read_number := by
  refine T.F_read_number.ok sc_read_number (fun vs H Q E h => ?_) (fun cdv A outer s H vs Q E hr h => ?_)
  · obtain ⟨z, rfl, _⟩ := h
    rfl
  · obtain ⟨z, rfl, hz, k⟩ := h
    refine ⟨_, (pss_cons (ps_set (i := 1) sc_read_number.nd rfl (Or.inl rfl) (pe_ifExp (pt_val (pe_m1 PySem.F.slot_str_startswith PySem.F.type_str_startswith mt_startswith (pv 0) pe_str)) (pe_slice sl_str (pv 0) (po_some pe_int) po_none) (pv 0)))
      (pss_cons (ps_if (PW.pt (pw_or (pt_not (pt_chain op_le op_le pe_int (pe_callB call_len_str (by rfl) T.n_len (by decide +kernel) (pa_cons (pv 1) pa_nil)) pe_int)) (pw_or1 (pt_not (pt_val (pe_callB (cr_all rfl) (by rfl) T.n_all (by decide +kernel) (pa_cons (pe_lc (own := [("sign", 3)]) (g := gName 3) (tt := tYes) rfl sc_read_number.nd (pi_str (pv 1)) (blkOk_by (own := [("sign", 3)]) (N := N_read_number) (sc := defScope s_read_number) (by decide +kernel)) (fun _ _ _ _ _ => pg_name (i := 3) sc_read_number.nd rfl (Or.inl rfl)) (fun _ _ _ _ _ => pts_nil) (fun _ _ _ _ _ => (pe_cmpR op_in_sign (pv 3) (pe_glob (v := .str FIGs) (by rfl) T.m_FIGURES ⟨_, rfl⟩) (by rfl)))) pa_nil))))))) (pss_one (ps_ret pe_non)) pss_nil)
      (pss_cons (ps_set (i := 2) sc_read_number.nd rfl (Or.inl rfl) (pe_callTy call_int_str (by rfl) T.n_int (by decide +kernel) (pa_cons (pv 0) pa_nil)))
      (pss_one (ps_ret (pe_ifExp (pt_cmpR op_eqS (pe_callTy call_str_int (by rfl) T.n_str (by decide +kernel) (pa_cons (pv 2) pa_nil)) (pv 0) (nomark _)) (pv 2) pe_non)))))), ?_⟩
    have hf : (figures z).length ≤ 100000 := by
      unfold figures
      split
      · refine Nat.le_trans ?_ hz
        unfold cutS
        show (List.toArray _).size ≤ _
        rw [List.size_toArray, List.length_take, List.length_drop, Array.length_toList]
        show _ ≤ z.cps.size
        omega
      · exact hz
    refine cut_seq (fun σ H2 => H2 = H ∧ σ = [some (.str z), some (.str (figures z)), none, none]) (fun N hN => ?_) ?_
    · walk_at "rs"
      refine ⟨⟨_, rfl⟩, ite2 (fun c => ⟨Nat.le_trans hz (by decide), ?_⟩) (fun c => ?_)⟩
      · exact hN _ _ ⟨rfl, by rw [figures, if_pos c]⟩
      · exact hN _ _ ⟨rfl, by rw [figures, if_neg c]⟩
    · rintro σ H2 ⟨rfl, rfl⟩
      refine cut_seq (fun σ H3 => Same H2 H3 ∧ σ = [some (.str z), some (.str (figures z)), none, none] ∧ (1 ≤ (figures z).length ∧ (figures z).length ≤ 60) ∧ ((figures z).cps.toList.all fun c => inS c FIGs) = true) (fun N hN => ?_) ?_
      · walk_at "rs"
        refine ⟨Nat.le_trans hf (by decide), ite2 (fun c1 => ite2 (fun c2 => ?_) (fun c2 => ?_)) (fun c1 => ?_)⟩
        · have := k H2 (Same.refl _)
          rw [readNum, if_neg (by omega)] at this
          exact this
        · refine ⟨_, rfl, _, rfl, fun D hD => lc_signs (z := figures z) (fun c => inS c FIGs) hD (by omega) ?_ ?_⟩
          · intro c H3 hc s3 Q2 h2
            walk_at "rs"
            exact ⟨c, rfl, h2 H3 (Same.refl _)⟩
          · intro H3 s3 hD3
            refine ⟨D, _, rfl, SqL.of hD3, _, rfl, ?_⟩
            rw [all_map_id]
            refine ite2 (fun e => ?_) (fun e => ?_)
            · have := k H3 s3
              rw [readNum, if_neg (by rw [e]; simp)] at this
              exact this
            · exact hN _ _ ⟨s3, rfl, ⟨by omega, by omega⟩, by simpa using e⟩
        · have := k H2 (Same.refl _)
          rw [readNum, if_neg (by omega)] at this
          exact this
      · rintro σ H3 ⟨s3, rfl, h1, h2⟩
        obtain ⟨n, e1, e2, e3⟩ := int_figures h1 h2 hz
        refine seq_op fun N hN => ?_
        walk_at "rs"
        refine ⟨_, e1, e3, hN _ _ ?_⟩
        clear hN N
        walk_at "rs"
        have := k H3 s3
        rw [readNum, if_pos ⟨h1, h2⟩, e1] at this
        refine ⟨e2, ite2 (fun e => ?_) (fun e => ?_)⟩
        · simp only [if_pos e] at this
          exact this
        · simp only [if_neg e] at this
          exact this
theorem ok_is_word_name (T : Txt w K mg) : FnOk P w K mg base CX0 1 T.a_is_word_name T.d_is_word_name ["value"] (spP K fun d => .bl (isWordD d)) := by
  refine T.F_is_word_name.ok sc_is_word_name (fun vs H Q E h => ?_) (fun cdv A outer s H vs Q E hr h => ?_)
  · obtain ⟨v, d, rfl, _⟩ := h
    rfl
  · obtain ⟨v, d, rfl, hd, hok, k⟩ := h
    replace k : ∀ H', Same H H' → Q (.bl (isWordD d)) H' := k
    refine ⟨_, (pss_cons (ps_if (PW.pt (pw_or (pt_not (pt_val (pe_callB (call_isiDK (K := K) rfl) (by rfl) T.n_isinstance (by decide +kernel) (pa_cons (pv 0) (pa_cons (pe_bltn (v := .ty "str") (u := .type "str") (by rfl) T.n_str (by decide +kernel) rfl) pa_nil))))) (pw_or1 (pt_not (pt_chain op_le op_le pe_int (pe_callB call_len_str (by rfl) T.n_len (by decide +kernel) (pa_cons (pv 0) pa_nil)) pe_int))))) (pss_one (ps_ret pe_bl)) pss_nil)
      (pss_one (ps_ret (pe_and (pe_cmpR op_in_sign (pe_ix ix_str (pv 0) pe_int (fun _ _ => rfl)) (pe_glob (v := .str LETs) (by rfl) T.m_LETTERS ⟨_, rfl⟩) (by rfl)) (pe_one (pe_callB (cr_all rfl) (by rfl) T.n_all (by decide +kernel) (pa_cons (pe_lc (own := [("sign", 1)]) (g := gName 1) (tt := tYes) rfl sc_is_word_name.nd (pi_str (pv 0)) (blkOk_by (own := [("sign", 1)]) (N := N_is_word_name) (sc := defScope s_is_word_name) (by decide +kernel)) (fun _ _ _ _ _ => pg_name (i := 1) sc_is_word_name.nd rfl (Or.inl rfl)) (fun _ _ _ _ _ => pts_nil) (fun _ _ _ _ _ => (pe_or (pe_cmpR op_in_sign (pv 1) (pe_glob (v := .str LETs) (by rfl) T.m_LETTERS ⟨_, rfl⟩) (by rfl)) (pe_one (pe_cmpR op_in_sign (pv 1) (pe_glob (v := .str FIGs) (by rfl) T.m_FIGURES ⟨_, rfl⟩) (by rfl)))))) pa_nil))))))), ?_⟩
    refine seq_op fun N hN => ?_
    walk_at "rs"
    refine ⟨v, "str", ⟨rfl, rfl⟩, d, hd, by simp, ?_⟩
    have k0 := k H (Same.refl _)
    cases hd with
    | str z =>
      have hz : z.length ≤ 100000 := of_decide_eq_true hok
      have lz := len_cps z
      refine iteFF (by simp [isTy]) ⟨z, rfl, Nat.le_trans hz (by decide), ite2 (fun c1 => ite2 (fun c2 => ?_) (fun c2 => ?_)) (fun c1 => ?_)⟩
      · have e : isWordS z = false := by
          unfold isWordS
          split
          · rfl
          · rw [decide_eq_false (by omega), Bool.false_and]
        show Q (.bl false) H
        rw [← e]; exact k0
      · refine hN _ _ ?_
        clear hN N
        obtain ⟨c, r, ec⟩ : ∃ c r, z.cps.toList = c :: r := by
          cases hc : z.cps.toList with
          | nil => rw [hc] at lz; simp at lz; omega
          | cons c r => exact ⟨c, r, rfl⟩
        have e : isWordS z = (inS c LETs && (c :: r).all fun c => inS c LETs || inS c FIGs) := by
          unfold isWordS
          rw [ec]
          show (decide (z.length ≤ 6) && _) = _
          rw [decide_eq_true (by omega), Bool.true_and]
        walk_at "rs"
        refine ⟨Nat.le_trans hz (by decide), c, at_ofN (j := 0) rfl (by rw [ec]; rfl), c, rfl, ite2 (fun e1 => ?_) (fun e1 => ?_)⟩
        · refine ⟨_, rfl, _, rfl, fun D hD => lc_signs (z := z) (fun c => inS c LETs || inS c FIGs) hD (by omega) ?_ ?_⟩
          · intro c H3 hc s3 Q2 h2
            walk_at "rs"
            refine ⟨c, rfl, ite2 (fun e2 => ?_) (fun e2 => ⟨c, rfl, ?_⟩)⟩
            · have := h2 H3 (Same.refl _)
              have q : inS c LETs = true := decide_eq_true e2
              rw [q, Bool.true_or] at this
              exact this
            · have := h2 H3 (Same.refl _)
              have q : inS c LETs = false := decide_eq_false e2
              rw [q, Bool.false_or] at this
              exact this
          · intro H3 s3 hD3
            refine ⟨D, _, rfl, SqL.of hD3, ?_⟩
            rw [all_map_id]
            have := k H3 s3
            have q : isWordD (.str z) = ((c :: r).all fun c => inS c LETs || inS c FIGs) := by
              show isWordS z = _
              rw [e, show inS c LETs = true from decide_eq_true e1, Bool.true_and]
            rw [q, ← ec] at this
            exact this
        · have q : isWordD (.str z) = false := by
            show isWordS z = _
            rw [e, show inS c LETs = false from decide_eq_false e1, Bool.false_and]
          rw [q] at k0
          exact k0
      · have e : isWordS z = false := by
          unfold isWordS
          split
          · rfl
          · rename_i c r ec
            rw [ec] at lz
            simp at lz
            omega
        show Q (.bl false) H
        rw [← e]; exact k0
    | non => exact iteTT (by simp [isTy]) k0
    | bl b => exact iteTT (by simp [isTy]) k0
    | int i => exact iteTT (by simp [isTy]) k0
    | lst hs ha => exact iteTT (by simp [isTy]) k0
    | tup hs ha => exact iteTT (by simp [isTy]) k0
theorem ok_is_own_name (T : Txt w K mg) : FnOk P w K mg base CX0 2 T.a_is_own_name T.d_is_own_name ["value"] (spP K fun d => .bl (isOwnD d)) := by
  refine T.F_is_own_name.ok sc_is_own_name (fun vs H Q E h => ?_) (fun cdv A outer s H vs Q E hr h => ?_)
  · obtain ⟨v, d, rfl, _⟩ := h
    rfl
  · obtain ⟨v, d, rfl, hd, hok, k⟩ := h
    replace k : ∀ H', Same H H' → Q (.bl (isOwnD d)) H' := k
    have hr_is_word_name : Room 1 _ := hr.mono (by decide)
    have G_is_word_name := ok_is_word_name (P := P) (base := base) T
    refine ⟨_, (pss_one (ps_ret (pe_and (pe_call G_is_word_name hr_is_word_name (by rfl) T.m_is_word_name T.F_is_word_name.kp T.B_is_word_name .nil pass0 (pa_cons (pv 0) pa_nil)) (pe_one (pe_cmpR op_notIn_seq (pv 0) (pe_glob (v := .ref T.a_RESERVED) (by rfl) T.m_RESERVED rfl) (by rfl)))))), ?_⟩
    walk_at "rs"
    refine ⟨v, d, rfl, hd, hok, fun H1 s1 => ⟨_, rfl, ite2 (fun e => ?_) (fun e => ?_)⟩⟩
    · obtain ⟨z, rfl⟩ : ∃ z, d = .str z := by cases d <;> first | exact ⟨_, rfl⟩ | simp [isWordD] at e
      cases hd
      refine ⟨keptV, .inr (T.s_RESERVED _), rfl, by decide +kernel, ?_⟩
      have q : isOwnD (.str z) = !inV (.str z) keptV := by
        show (isWordS z && _) = _
        rw [show isWordS z = true from e, Bool.true_and]
      have := k H1 s1
      rw [q] at this
      exact this
    · have q : isOwnD d = false := by
        cases d <;> try rfl
        show (isWordS _ && _) = _
        rw [show isWordS _ = false from by simpa [isWordD] using e, Bool.false_and]
      have := k H1 s1
      rw [q] at this
      exact this
theorem ok_is_name (T : Txt w K mg) : FnOk P w K mg base CX0 3 T.a_is_name T.d_is_name ["value"] (spP K fun d => .bl (isNameD d)) := by
  refine T.F_is_name.ok sc_is_name (fun vs H Q E h => ?_) (fun cdv A outer s H vs Q E hr h => ?_)
  · obtain ⟨v, d, rfl, _⟩ := h
    rfl
  · obtain ⟨v, d, rfl, hd, hok, k⟩ := h
    replace k : ∀ H', Same H H' → Q (.bl (isNameD d)) H' := k
    have hr_is_own_name : Room 2 _ := hr.mono (by decide)
    have G_is_own_name := ok_is_own_name (P := P) (base := base) T
    refine ⟨_, (pss_one (ps_ret (pe_or (pe_call G_is_own_name hr_is_own_name (by rfl) T.m_is_own_name T.F_is_own_name.kp T.B_is_own_name .nil pass0 (pa_cons (pv 0) pa_nil)) (pe_one (pe_and (pe_callB (call_isiDK (K := K) rfl) (by rfl) T.n_isinstance (by decide +kernel) (pa_cons (pv 0) (pa_cons (pe_bltn (v := .ty "str") (u := .type "str") (by rfl) T.n_str (by decide +kernel) rfl) pa_nil))) (pe_one (pe_cmpR op_in_seq (pv 0) (pe_glob (v := .ref T.a_GIVEN) (by rfl) T.m_GIVEN rfl) (by rfl)))))))), ?_⟩
    walk_at "rs"
    refine ⟨v, d, rfl, hd, hok, fun H1 s1 => ⟨_, rfl, ite2 (fun e => ?_) (fun e => ?_)⟩⟩
    · obtain ⟨z, rfl⟩ : ∃ z, d = .str z := by cases d <;> first | exact ⟨_, rfl⟩ | simp [isOwnD] at e
      have := k H1 s1
      rw [show isNameD (.str z) = true from by show (isOwnD (.str z) || _) = true; rw [e, Bool.true_or]] at this
      exact this
    · refine ⟨v, "str", ⟨rfl, rfl⟩, d, dp_same s1 hd, by simp, ?_⟩
      have k1 := k H1 s1
      cases hd with
      | str z =>
        refine iteTT (by simp [isTy]) ⟨givenV, .inr (T.s_GIVEN _), rfl, by decide +kernel, ?_⟩
        rw [show isNameD (.str z) = inV (.str z) givenV from by show (isOwnD (.str z) || _) = _; rw [show isOwnD (.str z) = false from by simpa using e, Bool.false_or]] at k1
        exact k1
      | non => exact iteFF (by simp [isTy]) k1
      | bl b => exact iteFF (by simp [isTy]) k1
      | int i => exact iteFF (by simp [isTy]) k1
      | lst hs ha => exact iteFF (by simp [isTy]) k1
      | tup hs ha => exact iteFF (by simp [isTy]) k1
theorem ok_is_integer_word (T : Txt w K mg) : FnOk P w K mg base CX0 2 T.a_is_integer_word T.d_is_integer_word ["word", "least", "greatest"] sp_is_integer_word := by
  refine T.F_is_integer_word.ok sc_is_integer_word (fun vs H Q E h => ?_) (fun cdv A outer s H vs Q E hr h => ?_)
  · obtain ⟨z, a, b, rfl, _⟩ := h
    rfl
  · obtain ⟨z, a, b, rfl, hz, k⟩ := h
    have hr_read_number : Room 1 _ := hr.mono (by decide)
    have G_read_number := ok_read_number (P := P) (base := base) T
    refine ⟨_, (pss_cons (ps_set (i := 3) sc_is_integer_word.nd rfl (Or.inl rfl) (pe_call G_read_number hr_read_number (by rfl) T.m_read_number T.F_read_number.kp T.B_read_number .nil pass0 (pa_cons (pv 0) pa_nil)))
      (pss_one (ps_ret (pe_and (pe_cmpR op_notN (pv 3) pe_non (nomark _)) (pe_one (pe_chain op_le op_le (pv 1) (pv 3) (pv 2))))))), ?_⟩
    refine seq_op fun N hN => ?_
    walk_at "rs"
    refine ⟨z, rfl, hz, fun H1 s1 => hN _ _ ?_⟩
    clear hN N
    have k1 := k H1 s1
    unfold isInt at k1
    walk_at "rs"
    cases e : readNum z with
    | none =>
      rw [e] at k1
      exact iteFF (by simp [optI]) k1
    | some n =>
      rw [e] at k1
      refine iteTT (by simp [optI]) ⟨n, rfl, ite2 (fun c => ⟨n, rfl, ?_⟩) (fun c => ?_)⟩
      · simp only [decide_eq_true c, Bool.true_and] at k1
        exact k1
      · simp only [decide_eq_false c, Bool.false_and] at k1
        exact k1
end
end LK

set_option Elab.async false
set_option linter.all false
set_option maxRecDepth 100000
set_option pp.deepTerms true
set_option pp.maxSteps 20000
namespace LK
open PySem PySem.Spec PyProof.Rows L2
local macro_rules | `(tactic| walk_at "rs") => `(tactic| simp only [cxK, cxNK, tCallZ, tAsg, tOp, rI0, rS0, rB0, rI, rU, tUn, rEq, rNe, rIxL, rIxT, rIxS, rSetL, rSlLU, rSlS, rSlU, rCatL, rCatU, rRepL, rIn, tVar, tC, gName, gSub, tIfS, tTest, tB, tAnd, tOr, tNot, tNotV, tAndV, tOrV, tIf, tCall, tCons, tNil, tCB, tDrop, tRet, tRetN, tNext, tLstU, tTupU, tM0, tM1, tPar, tPar3, tAug, ipI, tBM, tBM0, rAppend, rPop, tBreak, tCont, tChain, tSl, tPart, tNoPart, L2.start, List.map, List.length_cons, List.length_nil, List.replicate, List.cons_append, List.nil_append, List.append_nil, List.getElem?_cons_zero, List.getElem?_cons_succ, List.set_cons_zero, List.set_cons_succ, Option.some.injEq, V.int.injEq, V.ref.injEq, V.str.injEq, V.bl.injEq, exists_eq_left', exists_eq_left, exists_and_left, decide_eq_true_eq, List.cons.injEq, and_true, true_and, scal, Bool.not_eq_true', decide_eq_false_iff_not, Nat.zero_add, Nat.reduceAdd, Nat.reduceSub, reduceCtorEq, false_and, exists_false, false_or, or_false, CPow, CMul, CDiv, Int.reduceToNat, ↓reduceIte, wipe, sw, List.nil_append, List.singleton_append])
local macro_rules | `(tactic| walk_at "st") => `(tactic| (refine seq_op fun N hN => ?_; walk_at "rs"))
local macro_rules | `(tactic| walk_at "sd") => `(tactic| first | assumption | decide | omega)
local macro_rules | `(tactic| walk_at "rd") => `(tactic| repeat (first
  | refine ⟨_, SqL.of (by assumption), ?_⟩ | refine ⟨_, SqL.of upd_same, ?_⟩ | refine ⟨_, .inl (SqL.of (by assumption)), ?_⟩ | refine ⟨_, (by assumption : _ = some (HO.lst _)), ?_⟩ | refine ⟨_, upd_same, ?_⟩
  | refine ⟨_, rfl, ?_⟩ | refine And.intro (by walk_at "sd") ?_))

section
variable {P : Program} {w : World} {K : PySem.W.Frag} {mg : Str → Option Value} {base : Heap}
theorem opt_OPERANDS (T : Txt w K mg) (z : Str) : ∃ r, PySem.W.nsIn K T.a_OPERANDS z = some r ∧ RelV (optS (opsOf z)) (r.getD .none) := by
  obtain ⟨r, e1, e2⟩ := T.g_OPERANDS z
  refine ⟨r, e1, ?_⟩
  cases r with
  | none =>
    have e3 : opsOf z = none := e2
    rw [e3]; rfl
  | some u =>
    obtain ⟨y, e3, e4⟩ := e2
    rw [e3]; exact e4
theorem ok_operands_behind (T : Txt w K mg) : FnOk P w K mg base CX0 4 T.a_operands_behind T.d_operands_behind ["word", "kind"] (sp_operands_behind K) := by
  refine T.F_operands_behind.ok sc_operands_behind (fun vs H Q E h => ?_) (fun cdv A outer s H vs Q E hr h => ?_)
  · obtain ⟨v, d, k, rfl, _⟩ := h
    rfl
  · obtain ⟨v, d, kd, rfl, hd, hok, k⟩ := h
    have hr_is_name : Room 3 _ := hr.mono (by decide)
    have G_is_name := ok_is_name (P := P) (base := base) T
    have hr_is_integer_word : Room 2 _ := hr.mono (by decide)
    have G_is_integer_word := ok_is_integer_word (P := P) (base := base) T
    refine ⟨_, (pss_cons (ps_if (pt_not (pt_val (pe_callB (call_isiDK (K := K) rfl) (by rfl) T.n_isinstance (by decide +kernel) (pa_cons (pv 0) (pa_cons (pe_bltn (v := .ty "str") (u := .type "str") (by rfl) T.n_str (by decide +kernel) rfl) pa_nil))))) (pss_one (ps_ret pe_non)) pss_nil)
      (pss_cons (ps_if (pt_cmpR op_eqS (pv 1) pe_str (nomark _)) (pss_one (ps_ret (pe_ifExp (pt_val (pe_call G_is_integer_word hr_is_integer_word (by rfl) T.m_is_integer_word T.F_is_integer_word.kp T.B_is_integer_word .nil pass0 (pa_cons (pv 0) (pa_cons pe_int (pa_cons pe_int pa_nil))))) pe_str pe_non))) pss_nil)
      (pss_cons (ps_if (PW.pt (pw_or (pt_val (pe_call G_is_name hr_is_name (by rfl) T.m_is_name T.F_is_name.kp T.B_is_name .nil pass0 (pa_cons (pv 0) pa_nil))) (pw_or1 (pt_val (pe_call G_is_integer_word hr_is_integer_word (by rfl) T.m_is_integer_word T.F_is_integer_word.kp T.B_is_integer_word .nil pass0 (pa_cons (pv 0) (pa_cons (pe_un un_neg pe_int) (pa_cons pe_int pa_nil)))))))) (pss_one (ps_ret pe_str)) pss_nil)
      (pss_one (ps_ret (pe_wget T.D_OPERANDS (pe_glob (v := .ref T.a_OPERANDS) (by rfl) T.m_OPERANDS rfl) (pv 0))))))), ?_⟩
    have k0 := k H (Same.refl _)
    refine seq_op fun N hN => ?_
    walk_at "rs"
    refine ⟨v, "str", ⟨rfl, rfl⟩, d, hd, by simp, ?_⟩
    cases hd with
    | str z =>
      have hz : z.length ≤ 100000 := of_decide_eq_true hok
      refine iteFF (by simp [isTy]) (hN _ _ ?_)
      clear hN N
      refine seq_op fun N hN => ?_
      walk_at "rs"
      refine ite2 (fun e => ?_) (fun e => hN _ _ ?_)
      · refine ⟨z, 1, 9, rfl, hz, fun H1 s1 => ⟨_, rfl, ?_⟩⟩
        have k1 := k H1 s1
        simp only [opsBehind, if_pos e] at k1
        refine ite2 (fun c => ?_) (fun c => ?_)
        · rw [if_pos c] at k1; exact k1
        · rw [if_neg c] at k1; exact k1
      · clear hN N
        refine seq_op fun N hN => ?_
        walk_at "rs"
        refine ⟨_, _, rfl, .str z, hok, fun H1 s1 => ⟨_, rfl, ite2 (fun c => ?_) (fun c => ?_)⟩⟩
        · have k1 := k H1 s1
          simp only [opsBehind, if_neg e] at k1
          rw [if_pos (by rw [c, Bool.true_or])] at k1
          exact k1
        · refine ⟨z, -9, 9, rfl, hz, fun H2 s2 => ⟨_, rfl, ite2 (fun c2 => ?_) (fun c2 => hN _ _ ?_)⟩⟩
          · have k1 := k H2 (Same.trans s1 s2)
            simp only [opsBehind, if_neg e] at k1
            rw [if_pos (by rw [c2, Bool.or_true])] at k1
            exact k1
          · clear hN N
            obtain ⟨r, e1, e2⟩ := opt_OPERANDS T z
            have k1 := k H2 (Same.trans s1 s2)
            simp only [opsBehind, if_neg e] at k1
            rw [if_neg (by simp only [Bool.not_eq_true] at c c2; rw [c, c2]; simp)] at k1
            walk_at "rs"
            exact ⟨rfl, _, rfl, z, r, _, rfl, e1, e2, k1⟩
    | non => exact iteTT (by simp [isTy]) k0
    | bl b => exact iteTT (by simp [isTy]) k0
    | int i => exact iteTT (by simp [isTy]) k0
    | lst hs ha => exact iteTT (by simp [isTy]) k0
    | tup hs ha => exact iteTT (by simp [isTy]) k0
theorem lookup_mem2 {α β : Type} [BEq α] {k : α} {v : β} : ∀ {l : List (α × β)}, l.lookup k = some v → ∃ p ∈ l, p.2 = v
  | [], h => by simp at h
  | (a, b) :: r, h => by
    rw [List.lookup_cons] at h
    split at h
    · cases h; exact ⟨_, List.mem_cons_self, rfl⟩
    · obtain ⟨p, hp, e⟩ := lookup_mem2 h
      exact ⟨p, List.mem_cons_of_mem _ hp, e⟩
theorem isExpr_tup (ds : List PyData) : isExpr (.tuple ds) = (decide (1 ≤ ds.length) && decide (ds.length ≤ 30) && walkE "e" ds) := rfl
theorem walkE_cons (wd : Str) (d : PyData) (r : List PyData) : walkE wd (d :: r) = (if wd = "" then false else match opsBehind d (head1 wd) with
    | none => false
    | some o => walkE (o ++ cutS wd (some 1) none) r) := rfl
theorem opsOf_len {z o : Str} (h : opsOf z = some o) : o.length ≤ 3 := by
  have q : ∀ p ∈ opsTab, p.2.length ≤ 3 := by decide +kernel
  have m : ∃ p ∈ opsTab, p.2 = o := by
    unfold opsOf at h
    exact lookup_mem2 h
  obtain ⟨p, hp, rfl⟩ := m
  exact q p hp
theorem opsBehind_len {d : PyData} {k o : Str} (h : opsBehind d k = some o) : o.length ≤ 3 := by
  unfold opsBehind at h
  split at h
  · split at h
    · split at h
      · cases h; decide
      · cases h
    · split at h
      · cases h; decide
      · exact opsOf_len h
  · cases h
theorem dpa_get {H : Hp} : ∀ {vs : List V} {ds : List PyData} {i : Nat} {v : V}, DpAll K H vs ds → vs[i]? = some v → ∃ d, ds[i]? = some d ∧ Dp K H v d
  | _, _, _, _, .nil, e => by simp at e
  | _, _, 0, _, .cons r _, e => by simp at e; subst e; exact ⟨_, rfl, r⟩
  | _, _, i + 1, _, .cons _ t, e => by
    obtain ⟨d, h1, h2⟩ := dpa_get (i := i) t (by simpa using e)
    exact ⟨d, by simpa using h1, h2⟩
theorem dpa_len {H : Hp} : ∀ {vs : List V} {ds : List PyData}, DpAll K H vs ds → vs.length = ds.length
  | _, _, .nil => rfl
  | _, _, .cons _ t => by simp [dpa_len t]
theorem ok_get : ∀ {ds : List PyData} {i : Nat} {d : PyData}, okAll ds = true → ds[i]? = some d → okD d = true
  | [], _, _, _, e => by simp at e
  | a :: r, 0, _, h, e => by
    simp at e; subst e
    unfold okAll at h; rw [Bool.and_eq_true] at h; exact h.1
  | a :: r, i + 1, _, h, e => by
    unfold okAll at h; rw [Bool.and_eq_true] at h
    exact ok_get (i := i) h.2 (by simpa using e)
theorem ok_is_expression (T : Txt w K mg) : FnOk P w K mg base CX0 5 T.a_is_expression T.d_is_expression ["value"] (spP K fun d => .bl (isExpr d)) := by
  refine T.F_is_expression.ok sc_is_expression (fun vs H Q E h => ?_) (fun cdv A outer s H vs Q E hr h => ?_)
  · obtain ⟨v, d, rfl, _⟩ := h
    rfl
  · obtain ⟨v, d, rfl, hd, hok, k⟩ := h
    replace k : ∀ H', Same H H' → Q (.bl (isExpr d)) H' := k
    have hr_operands_behind : Room 4 _ := hr.mono (by decide)
    have G_operands_behind := ok_operands_behind (P := P) (base := base) T
    refine ⟨_, (pss_cons (ps_if (PW.pt (pw_or (pt_not (pt_val (pe_callB (call_isiDK (K := K) rfl) (by rfl) T.n_isinstance (by decide +kernel) (pa_cons (pv 0) (pa_cons (pe_bltn (v := .ty "tuple") (u := .type "tuple") (by rfl) T.n_tuple (by decide +kernel) rfl) pa_nil))))) (pw_or1 (pt_not (pt_chain op_le op_le pe_int (pe_callB call_len_seq (by rfl) T.n_len (by decide +kernel) (pa_cons (pv 0) pa_nil)) (pe_glob (v := .int 30) (by rfl) T.m_MOST_WORDS ⟨_, rfl⟩)))))) (pss_one (ps_ret pe_bl)) pss_nil)
      (pss_cons (ps_set (i := 1) sc_is_expression.nd rfl (Or.inl rfl) pe_str)
      (pss_cons (ps_for PassesOwn.never rfl (pi_tup (pv 0)) (pg_name (i := 2) sc_is_expression.nd rfl (Or.inl rfl)) (pss_cons (ps_if (pt_cmpR op_eqS (pv 1) pe_str (nomark _)) (pss_one (ps_ret pe_bl)) pss_nil)
      (pss_cons (ps_set (i := 3) sc_is_expression.nd rfl (Or.inl rfl) (pe_call G_operands_behind hr_operands_behind (by rfl) T.m_operands_behind T.F_operands_behind.kp T.B_operands_behind .nil pass0 (pa_cons (pv 2) (pa_cons (pe_ix ix_str (pv 1) pe_int (fun _ _ => rfl)) pa_nil))))
      (pss_cons (ps_if (pt_cmpR op_isN (pv 3) pe_non (nomark _)) (pss_one (ps_ret pe_bl)) pss_nil)
      (pss_one (ps_set (i := 1) sc_is_expression.nd rfl (Or.inl rfl) (pe_op op_add_str (pv 3) (pe_slice sl_str (pv 1) (po_some pe_int) po_none))))))))
      (pss_one (ps_ret (pe_cmpR op_eqS (pv 1) pe_str (nomark _))))))), ?_⟩
    have k0 := k H (Same.refl _)
    refine seq_op fun N hN => ?_
    walk_at "rs"
    refine ⟨v, "tuple", ⟨rfl, rfl⟩, d, hd, by simp, ?_⟩
    cases hd with
    | @tup a xs ds hs ha =>
      have hl := dpa_len ha
      refine iteFF (by simp [isTy]) ⟨a, rfl, xs, .inr hs, ite2 (fun c1 => ite2 (fun c2 => ?_) (fun c2 => hN _ _ ?_)) (fun c1 => ?_)⟩
      · have e : isExpr (.tuple ds) = false := by
          rw [isExpr_tup]
          rw [decide_eq_false (p := ds.length ≤ 30) (by omega), Bool.and_false, Bool.false_and]
        rw [e] at k0; exact k0
      · clear hN N
        have e : isExpr (.tuple ds) = walkE "e" ds := by
          rw [isExpr_tup]
          rw [decide_eq_true (p := 1 ≤ ds.length) (by omega), decide_eq_true (p := ds.length ≤ 30) (by omega), Bool.true_and, Bool.true_and]
        rw [e] at k
        clear k0 e
        refine seq_op fun N hN => ?_
        walk_at "rs"
        refine hN _ _ ?_
        clear hN N
        have oka : okAll ds = true := (okD_tup.mp hok).2
        refine cut_seq (fun σ H2 => ∃ (wd : Str) (x y : Option V), σ = [some (.ref a), some (.str wd), x, y] ∧ walkE wd [] = walkE "e" ds ∧ Same H H2) (fun N hN => ?_) ?_
        · refine ⟨_, rfl, a, rfl, ⟨_, hs⟩, for_tup (K := K) (a := a) (xs := xs) (fun i σ H2 => ∃ (wd : Str) (x y : Option V), σ = [some (.ref a), some (.str wd), x, y] ∧ walkE wd (ds.drop i) = walkE "e" ds ∧ wd.length ≤ 1 + 3 * i ∧ Same H H2) ⟨_, none, none, rfl, rfl, by decide, Same.refl _⟩ (fun i σ H2 _ ⟨_, _, _, _, _, _, s2⟩ => Same.seqT s2 hs) ?_ ?_⟩
          · rintro i y σ H2 hi ⟨wd, x, y2, rfl, hw, hwl, s2⟩
            obtain ⟨d, hd, hv⟩ := dpa_get ha hi
            have hdk := ok_get oka hd
            have hil : i < ds.length := (List.getElem?_eq_some_iff.mp hd).1
            have ed : ds.drop i = d :: ds.drop (i + 1) := by
              rw [List.drop_eq_getElem_cons hil]
              rw [(List.getElem?_eq_some_iff.mp hd).2]
            rw [ed] at hw
            have k2 := fun H' (s : Same H2 H') => k H' (Same.trans s2 s)
            refine seq_op fun N2 hN2 => ?_
            walk_at "rs"
            refine ite2 (fun c => ?_) (fun c => hN2 _ _ ?_)
            · have := k2 H2 (Same.refl _)
              rw [← hw] at this
              subst c
              exact this
            · clear hN2 N2
              refine seq_op fun N2 hN2 => ?_
              walk_at "rs"
              have wl : 1 ≤ wd.cps.toList.length := by
                rcases Nat.eq_zero_or_pos wd.cps.toList.length with q | q
                · exact absurd (PyProof.Rows.ext_toList (by rw [List.eq_nil_of_length_eq_zero q]; rfl)) c
                · exact q
              obtain ⟨ch, cr, ec⟩ : ∃ ch cr, wd.cps.toList = ch :: cr := by
                cases hc : wd.cps.toList with
                | nil => rw [hc] at wl; simp at wl
                | cons ch cr => exact ⟨ch, cr, rfl⟩
              have eh : head1 wd = ⟨#[ch]⟩ := by unfold head1; rw [ec]; rfl
              have hl30 : ds.length ≤ 30 := by omega
              have big : wd.length ≤ 100 := by omega
              refine ⟨Nat.le_trans big (by decide), ch, at_ofN (j := 0) rfl (by rw [ec]; rfl), _, d, _, rfl, dp_same s2 hv, hdk, fun H3 s3 => hN2 _ _ ?_⟩
              clear hN2 N2
              rw [walkE_cons, if_neg c, eh] at hw
              have k3 := k2 H3 s3
              cases eo : opsBehind d ⟨#[ch]⟩ with
              | none =>
                rw [eo] at hw
                refine seq_op fun N2 hN2 => ?_
                walk_at "rs"
                rw [← hw] at k3
                exact k3
              | some o =>
                rw [eo] at hw
                have ol := opsBehind_len eo
                refine seq_op fun N2 hN2 => ?_
                walk_at "rs"
                refine hN2 _ _ ?_
                clear hN2 N2
                walk_at "rs"
                have cl := cutS_tail_len wd
                refine ⟨Nat.le_trans big (by decide), o, rfl, Nat.le_trans (show _ ≤ 200 by omega) (by decide), _, _, _, ⟨rfl, rfl, rfl⟩, hw, ?_, Same.trans s2 s3⟩
                rw [str_append_len]
                omega
          · rintro σ H2 ⟨wd, x, y, rfl, hw, _, s2⟩
            refine hN _ _ ⟨wd, x, y, rfl, ?_, s2⟩
            rw [List.drop_eq_nil_of_le (by omega)] at hw
            exact hw
        · rintro σ H2 ⟨wd, x, y, rfl, hw, s2⟩
          walk_at "rs"
          have := k H2 s2
          rw [← hw] at this
          exact this
      · have e : isExpr (.tuple ds) = false := by
          rw [isExpr_tup]
          rw [decide_eq_false (p := 1 ≤ ds.length) (by omega), Bool.false_and, Bool.false_and]
        rw [e] at k0; exact k0
    | non => exact iteTT (by simp [isTy]) k0
    | bl b => exact iteTT (by simp [isTy]) k0
    | int i => exact iteTT (by simp [isTy]) k0
    | lst hs ha => exact iteTT (by simp [isTy]) k0
    | str z => exact iteTT (by simp [isTy]) k0
end
end LK

set_option Elab.async false
set_option linter.all false
set_option maxRecDepth 100000
set_option pp.deepTerms true
set_option pp.maxSteps 20000
namespace LK
open PySem PySem.Spec PyProof.Rows L2
local macro_rules | `(tactic| walk_at "rs") => `(tactic| simp only [cxK, cxNK, tCallZ, tAsg, tOp, rI0, rS0, rB0, rI, rU, tUn, rEq, rNe, rIxL, rIxT, rIxS, rSetL, rSlLU, rSlS, rSlU, rCatL, rCatU, rRepL, rIn, tVar, tC, gName, gSub, tIfS, tTest, tB, tAnd, tOr, tNot, tNotV, tAndV, tOrV, tIf, tCall, tCons, tNil, tCB, tDrop, tRet, tRetN, tNext, tLstU, tTupU, tM0, tM1, tPar, tPar3, tAug, ipI, tBM, tBM0, rAppend, rPop, tBreak, tCont, tChain, tSl, tPart, tNoPart, L2.start, List.map, List.length_cons, List.length_nil, List.replicate, List.cons_append, List.nil_append, List.append_nil, List.getElem?_cons_zero, List.getElem?_cons_succ, List.set_cons_zero, List.set_cons_succ, Option.some.injEq, V.int.injEq, V.ref.injEq, V.str.injEq, V.bl.injEq, exists_eq_left', exists_eq_left, exists_and_left, decide_eq_true_eq, List.cons.injEq, and_true, true_and, scal, Bool.not_eq_true', decide_eq_false_iff_not, Nat.zero_add, Nat.reduceAdd, Nat.reduceSub, reduceCtorEq, false_and, exists_false, false_or, or_false, CPow, CMul, CDiv, Int.reduceToNat, ↓reduceIte, wipe, sw, List.nil_append, List.singleton_append])
local macro_rules | `(tactic| walk_at "st") => `(tactic| (refine seq_op fun N hN => ?_; walk_at "rs"))
local macro_rules | `(tactic| walk_at "sd") => `(tactic| first | assumption | decide | omega)
local macro_rules | `(tactic| walk_at "rd") => `(tactic| repeat (first
  | refine ⟨_, SqL.of (by assumption), ?_⟩ | refine ⟨_, SqL.of upd_same, ?_⟩ | refine ⟨_, .inl (SqL.of (by assumption)), ?_⟩ | refine ⟨_, (by assumption : _ = some (HO.lst _)), ?_⟩ | refine ⟨_, upd_same, ?_⟩
  | refine ⟨_, rfl, ?_⟩ | refine And.intro (by walk_at "sd") ?_))

section
variable {P : Program} {w : World} {K : PySem.W.Frag} {mg : Str → Option Value} {base : Heap}
theorem ok__law_kept (T : Txt w K mg) : FnOk P w K mg base CX0 1 T.a__law_kept T.d__law_kept [] sp__law_kept := by
  refine T.F__law_kept.ok sc__law_kept (fun vs H Q E h => ?_) (fun cdv A outer s H vs Q E hr h => ?_)
  · obtain ⟨rfl, _⟩ := h
    rfl
  · obtain ⟨rfl, k⟩ := h
    refine ⟨_, (pss_cons (ps_set (i := 0) sc__law_kept.nd rfl (Or.inl rfl) (pe_lstU (pa_cons pe_str (pa_cons pe_str (pa_cons pe_str (pa_cons pe_str (pa_cons pe_str (pa_cons pe_str (pa_cons pe_str (pa_cons pe_str (pa_cons pe_str (pa_cons pe_str (pa_cons pe_str (pa_cons pe_str pa_nil))))))))))))))
      (pss_one (ps_ret (pe_op op_catL (pv 0) (pe_lstU (pa_cons pe_str (pa_cons pe_str (pa_cons pe_str (pa_cons pe_str (pa_cons pe_str (pa_cons pe_str (pa_cons pe_str (pa_cons pe_str (pa_cons pe_str (pa_cons pe_str pa_nil))))))))))))))), ?_⟩
    refine seq_op fun N hN => ?_
    walk_at "rs"
    refine ⟨by decide, fun p H1 s1 h0 h1 => hN _ _ ?_⟩
    clear hN N
    walk_at "rs"
    exact ⟨by decide, fun p1 H2 s2 h02 h2 => ⟨_, s2 _ _ h1, _, h2, by decide, fun p3 H3 s3 h03 h3 => k p3 H3 (Same.trans s1 (Same.trans s2 s3)) (Same.dom s1 _ (Same.dom s2 _ h03)) h3⟩⟩
theorem ok__law_is_word (T : Txt w K mg) : FnOk P w K mg base CX0 1 T.a__law_is_word T.d__law_is_word ["thing"] (spP K fun d => .bl (isWordD d)) := by
  refine T.F__law_is_word.ok sc__law_is_word (fun vs H Q E h => ?_) (fun cdv A outer s H vs Q E hr h => ?_)
  · obtain ⟨v, d, rfl, _⟩ := h
    rfl
  · obtain ⟨v, d, rfl, hd, hok, k⟩ := h
    replace k : ∀ H', Same H H' → Q (.bl (isWordD d)) H' := k
    refine ⟨_, (pss_cons (ps_if (PW.pt (pw_or (pt_not (pt_val (pe_callB (call_isiDK (K := K) rfl) (by rfl) T.n_isinstance (by decide +kernel) (pa_cons (pv 0) (pa_cons (pe_bltn (v := .ty "str") (u := .type "str") (by rfl) T.n_str (by decide +kernel) rfl) pa_nil))))) (pw_or1 (pt_not (pt_chain op_le op_le pe_int (pe_callB call_len_str (by rfl) T.n_len (by decide +kernel) (pa_cons (pv 0) pa_nil)) pe_int))))) (pss_one (ps_ret pe_bl)) pss_nil)
      (pss_cons (ps_set (i := 1) sc__law_is_word.nd rfl (Or.inr rfl) pe_str)
      (pss_one (ps_ret (pe_and (pe_cmpR op_in_sign (pe_ix ix_str (pv 0) pe_int (fun _ _ => rfl)) (pv 1) (by rfl)) (pe_one (pe_callB (cr_all rfl) (by rfl) T.n_all (by decide +kernel) (pa_cons (pe_lc (own := [("sign", 2)]) (g := gName 2) (tt := tYes) rfl sc__law_is_word.nd (pi_str (pv 0)) (blkOk_by (own := [("sign", 2)]) (N := N__law_is_word) (sc := defScope s__law_is_word) (by decide +kernel)) (fun _ _ _ _ _ => pg_name (i := 2) sc__law_is_word.nd rfl (Or.inl rfl)) (fun _ _ _ _ _ => pts_nil) (fun _ _ _ _ _ => (pe_or (pe_cmpR op_in_sign (pv 2) (pv 1) (by rfl)) (pe_one (pe_cmpR op_in_sign (pv 2) pe_str (by rfl)))))) pa_nil)))))))), ?_⟩
    refine seq_op fun N hN => ?_
    walk_at "rs"
    refine ⟨v, "str", ⟨rfl, rfl⟩, d, hd, by simp, ?_⟩
    have k0 := k H (Same.refl _)
    cases hd with
    | str z =>
      have hz : z.length ≤ 100000 := of_decide_eq_true hok
      have lz := len_cps z
      refine iteFF (by simp [isTy]) ⟨z, rfl, Nat.le_trans hz (by decide), ite2 (fun c1 => ite2 (fun c2 => ?_) (fun c2 => ?_)) (fun c1 => ?_)⟩
      · have e : isWordS z = false := by
          unfold isWordS
          split
          · rfl
          · rw [decide_eq_false (by omega), Bool.false_and]
        show Q (.bl false) H
        rw [← e]; exact k0
      · refine hN _ _ ?_
        clear hN N
        refine seq_op fun N hN => ?_
        walk_at "rs"
        refine hN _ _ ?_
        clear hN N
        obtain ⟨c, r, ec⟩ : ∃ c r, z.cps.toList = c :: r := by
          cases hc : z.cps.toList with
          | nil => rw [hc] at lz; simp at lz; omega
          | cons c r => exact ⟨c, r, rfl⟩
        have e : isWordS z = (inS c LETs && (c :: r).all fun c => inS c LETs || inS c FIGs) := by
          unfold isWordS
          rw [ec]
          show (decide (z.length ≤ 6) && _) = _
          rw [decide_eq_true (by omega), Bool.true_and]
        walk_at "rs"
        refine ⟨Nat.le_trans hz (by decide), c, at_ofN (j := 0) rfl (by rw [ec]; rfl), c, rfl, ite2 (fun e1 => ?_) (fun e1 => ?_)⟩
        · refine ⟨_, rfl, _, rfl, fun D hD => lc_signs (z := z) (fun c => inS c LETs || inS c FIGs) hD (by omega) ?_ ?_⟩
          · intro c H3 hc s3 Q2 h2
            walk_at "rs"
            refine ⟨c, rfl, ite2 (fun e2 => ?_) (fun e2 => ⟨c, rfl, ?_⟩)⟩
            · have := h2 H3 (Same.refl _)
              have q : inS c LETs = true := decide_eq_true e2
              rw [q, Bool.true_or] at this
              exact this
            · have := h2 H3 (Same.refl _)
              have q : inS c LETs = false := decide_eq_false e2
              rw [q, Bool.false_or] at this
              exact this
          · intro H3 s3 hD3
            refine ⟨D, _, rfl, SqL.of hD3, ?_⟩
            rw [all_map_id]
            have := k H3 s3
            have q : isWordD (.str z) = ((c :: r).all fun c => inS c LETs || inS c FIGs) := by
              show isWordS z = _
              rw [e, show inS c LETs = true from decide_eq_true e1, Bool.true_and]
            rw [q, ← ec] at this
            exact this
        · have q : isWordD (.str z) = false := by
            show isWordS z = _
            rw [e, show inS c LETs = false from decide_eq_false e1, Bool.false_and]
          rw [q] at k0
          exact k0
      · have e : isWordS z = false := by
          unfold isWordS
          split
          · rfl
          · rename_i c r ec
            rw [ec] at lz
            simp at lz
            omega
        show Q (.bl false) H
        rw [← e]; exact k0
    | non => exact iteTT (by simp [isTy]) k0
    | bl b => exact iteTT (by simp [isTy]) k0
    | int i => exact iteTT (by simp [isTy]) k0
    | lst hs ha => exact iteTT (by simp [isTy]) k0
    | tup hs ha => exact iteTT (by simp [isTy]) k0
theorem ok__law_is_own (T : Txt w K mg) : FnOk P w K mg base CX0 2 T.a__law_is_own T.d__law_is_own ["thing"] (spP K fun d => .bl (isOwnD d)) := by
  refine T.F__law_is_own.ok sc__law_is_own (fun vs H Q E h => ?_) (fun cdv A outer s H vs Q E hr h => ?_)
  · obtain ⟨v, d, rfl, _⟩ := h
    rfl
  · obtain ⟨v, d, rfl, hd, hok, k⟩ := h
    replace k : ∀ H', Same H H' → Q (.bl (isOwnD d)) H' := k
    have hr__law_is_word : Room 1 _ := hr.mono (by decide)
    have G__law_is_word := ok__law_is_word (P := P) (base := base) T
    have hr__law_kept : Room 1 _ := hr.mono (by decide)
    have G__law_kept := ok__law_kept (P := P) (base := base) T
    refine ⟨_, (pss_one (ps_ret (pe_and (pe_call G__law_is_word hr__law_is_word (by rfl) T.m__law_is_word T.F__law_is_word.kp T.B__law_is_word .nil pass0 (pa_cons (pv 0) pa_nil)) (pe_one (pe_cmpR op_notIn_seq (pv 0) (pe_call0 G__law_kept hr__law_kept (by rfl) T.m__law_kept T.F__law_kept.kp T.B__law_kept .nil pass0) (by rfl)))))), ?_⟩
    walk_at "rs"
    refine ⟨v, d, rfl, hd, hok, fun H1 s1 => ⟨_, rfl, ite2 (fun e => ?_) (fun e => ?_)⟩⟩
    · obtain ⟨z, rfl⟩ : ∃ z, d = .str z := by cases d <;> first | exact ⟨_, rfl⟩ | simp [isWordD] at e
      cases hd
      refine ⟨rfl, fun p H2 s2 h0 h2 => ⟨p, rfl, keptV, .inl (SqL.of h2), rfl, by decide +kernel, ?_⟩⟩
      have q : isOwnD (.str z) = !inV (.str z) keptV := by
        show (isWordS z && _) = _
        rw [show isWordS z = true from e, Bool.true_and]
      have := k H2 (Same.trans s1 s2)
      rw [q] at this
      exact this
    · have q : isOwnD d = false := by
        cases d <;> try rfl
        show (isWordS _ && _) = _
        rw [show isWordS _ = false from by simpa [isWordD] using e, Bool.false_and]
      have := k H1 s1
      rw [q] at this
      exact this
theorem ok__law_is_name (T : Txt w K mg) : FnOk P w K mg base CX0 3 T.a__law_is_name T.d__law_is_name ["thing"] (spP K fun d => .bl (isNameD d)) := by
  refine T.F__law_is_name.ok sc__law_is_name (fun vs H Q E h => ?_) (fun cdv A outer s H vs Q E hr h => ?_)
  · obtain ⟨v, d, rfl, _⟩ := h
    rfl
  · obtain ⟨v, d, rfl, hd, hok, k⟩ := h
    replace k : ∀ H', Same H H' → Q (.bl (isNameD d)) H' := k
    have hr__law_is_own : Room 2 _ := hr.mono (by decide)
    have G__law_is_own := ok__law_is_own (P := P) (base := base) T
    refine ⟨_, (pss_one (ps_ret (pe_or (pe_call G__law_is_own hr__law_is_own (by rfl) T.m__law_is_own T.F__law_is_own.kp T.B__law_is_own .nil pass0 (pa_cons (pv 0) pa_nil)) (pe_one (pe_and (pe_callB (call_isiDK (K := K) rfl) (by rfl) T.n_isinstance (by decide +kernel) (pa_cons (pv 0) (pa_cons (pe_bltn (v := .ty "str") (u := .type "str") (by rfl) T.n_str (by decide +kernel) rfl) pa_nil))) (pe_one (pe_cmpR op_in_seq (pv 0) (pe_lstU (pa_cons pe_str (pa_cons pe_str pa_nil))) (by rfl)))))))), ?_⟩
    walk_at "rs"
    refine ⟨v, d, rfl, hd, hok, fun H1 s1 => ⟨_, rfl, ite2 (fun e => ?_) (fun e => ?_)⟩⟩
    · obtain ⟨z, rfl⟩ : ∃ z, d = .str z := by cases d <;> first | exact ⟨_, rfl⟩ | simp [isOwnD] at e
      have := k H1 s1
      rw [show isNameD (.str z) = true from by show (isOwnD (.str z) || _) = true; rw [e, Bool.true_or]] at this
      exact this
    · refine ⟨v, "str", ⟨rfl, rfl⟩, d, dp_same s1 hd, by simp, ?_⟩
      have k1 := k H1 s1
      cases hd with
      | str z =>
        refine iteTT (by simp [isTy]) ⟨by decide, fun p H2 s2 h0 h2 => ⟨givenV, .inl (SqL.of h2), rfl, by decide +kernel, ?_⟩⟩
        have k2 := k H2 (Same.trans s1 s2)
        rw [show isNameD (.str z) = inV (.str z) givenV from by show (isOwnD (.str z) || _) = _; rw [show isOwnD (.str z) = false from by simpa using e, Bool.false_or]] at k2
        exact k2
      | non => exact iteFF (by simp [isTy]) k1
      | bl b => exact iteFF (by simp [isTy]) k1
      | int i => exact iteFF (by simp [isTy]) k1
      | lst hs ha => exact iteFF (by simp [isTy]) k1
      | tup hs ha => exact iteFF (by simp [isTy]) k1
theorem ok__law_needs (T : Txt w K mg) : FnOk P w K mg base CX0 4 T.a__law_needs T.d__law_needs ["part"] sp__law_needs := by
  refine T.F__law_needs.ok sc__law_needs (fun vs H Q E h => ?_) (fun cdv A outer s H vs Q E hr h => ?_)
  · obtain ⟨z, rfl, _⟩ := h
    rfl
  · obtain ⟨z, rfl, hz, k⟩ := h
    have hr__law_is_name : Room 3 _ := hr.mono (by decide)
    have G__law_is_name := ok__law_is_name (P := P) (base := base) T
    refine ⟨_, (pss_cons (ps_if (pt_cmpR op_in_seq (pv 0) (pe_lstU (pa_cons pe_str (pa_cons pe_str (pa_cons pe_str (pa_cons pe_str (pa_cons pe_str (pa_cons pe_str (pa_cons pe_str (pa_cons pe_str (pa_cons pe_str (pa_cons pe_str (pa_cons pe_str (pa_cons pe_str (pa_cons pe_str (pa_cons pe_str (pa_cons pe_str pa_nil)))))))))))))))) (by rfl)) (pss_one (ps_ret pe_int)) pss_nil)
      (pss_cons (ps_if (pt_cmpR op_in_seq (pv 0) (pe_lstU (pa_cons pe_str (pa_cons pe_str pa_nil))) (by rfl)) (pss_one (ps_ret (pe_ifExp (pt_cmpR op_eqS (pv 0) pe_str (nomark _)) pe_int pe_int))) pss_nil)
      (pss_cons (ps_if (PW.pt (pw_or (pt_cmpR op_in_seq (pv 0) (pe_lc (own := [("k", 1)]) (g := gName 1) (tt := tYes) rfl sc__law_needs.nd (pi_range1 (by rfl) T.n_range (pa_cons pe_int pa_nil)) (blkOk_by (own := [("k", 1)]) (N := N__law_needs) (sc := defScope s__law_needs) (by decide +kernel)) (fun _ _ _ _ _ => pg_name (i := 1) sc__law_needs.nd rfl (Or.inl rfl)) (fun _ _ _ _ _ => pts_nil) (fun _ _ _ _ _ => (pe_callTy call_str_int (by rfl) T.n_str (by decide +kernel) (pa_cons (pe_op op_sub (pv 1) pe_int) pa_nil)))) (by rfl)) (pw_or1 (pt_val (pe_call G__law_is_name hr__law_is_name (by rfl) T.m__law_is_name T.F__law_is_name.kp T.B__law_is_name .nil pass0 (pa_cons (pv 0) pa_nil)))))) (pss_one (ps_ret pe_int)) pss_nil)
      (pss_one (ps_ret (pe_un un_neg pe_int)))))), ?_⟩
    refine seq_op fun N hN => ?_
    walk_at "rs"
    refine ⟨by decide, fun p H1 s1 h0 h1 => ⟨ops2L.map V.str, .inl (SqL.of h1), rfl, by decide +kernel, ite2 (fun e => ?_) (fun e => hN _ _ ?_)⟩⟩
    · have := k H1 s1
      rw [needsZ, if_pos e] at this
      exact this
    clear hN N h1
    refine seq_op fun N hN => ?_
    walk_at "rs"
    refine ⟨by decide, fun p H2 s2 h0 h2 => ⟨ops1L.map V.str, .inl (SqL.of h2), rfl, by decide +kernel, ite2 (fun e1 => ?_) (fun e1 => hN _ _ ?_)⟩⟩
    · have := k H2 (Same.trans s1 s2)
      rw [needsZ, if_neg e, if_pos e1] at this
      refine ite2 (fun c => ?_) (fun c => ?_)
      · rw [if_pos c] at this; exact this
      · rw [if_neg c] at this; exact this
    clear hN N h2
    refine seq_op fun N hN => ?_
    walk_at "rs"
    have s12 := Same.trans s1 s2
    refine ⟨19, rfl, by decide, by decide, fun D hD => lc_rng (fun j => .str (Str.ofString (toString (j - 9)))) hD (by decide) ?_ ?_⟩
    · intro k H3 hk s3 Q2 hq
      walk_at "rs"
      refine ⟨?_, hq H3 (Same.refl _)⟩
      exact Nat.lt_of_le_of_lt (Nat.log2_le_self _) (by omega)
    · intro H3 s3 h3
      have e9 : (List.range (19 : Int).toNat).map (fun (k : Nat) => V.str (Str.ofString (toString ((0 : Int) + (k : Int) - 9)))) = nineV := by
        unfold nineV
        refine List.map_congr_left fun k _ => ?_
        rw [Int.zero_add]
      rw [e9] at h3
      walk_at "rs"
      have s13 := Same.trans s12 s3
      refine ⟨nineV, .inl (SqL.of h3), rfl, by decide +kernel, ite2 (fun e2 => ?_) (fun e2 => ?_)⟩
      · have := k H3 s13
        rw [needsZ, if_neg e, if_neg e1, if_pos (by rw [e2, Bool.true_or])] at this
        exact this
      · refine ⟨_, _, rfl, .str z, decide_eq_true hz, fun H4 s4 => ⟨_, rfl, ite2 (fun e3 => ?_) (fun e3 => hN _ _ ?_)⟩⟩
        · have := k H4 (Same.trans s13 s4)
          rw [needsZ, if_neg e, if_neg e1, if_pos (by rw [e3, Bool.or_true])] at this
          exact this
        · walk_at "rs"
          have := k H4 (Same.trans s13 s4)
          rw [needsZ, if_neg e, if_neg e1, if_neg (by simp only [Bool.not_eq_true] at e2 e3; rw [e2, e3]; simp)] at this
          exact this
end
end LK

set_option Elab.async false
set_option linter.all false
set_option maxRecDepth 100000
set_option pp.deepTerms true
set_option pp.maxSteps 20000
namespace LK
open PySem PySem.Spec PyProof.Rows L2
local macro_rules | `(tactic| walk_at "rs") => `(tactic| simp only [cxK, cxNK, tCallZ, tAsg, tOp, rI0, rS0, rB0, rI, rU, tUn, rEq, rNe, rIxL, rIxT, rIxS, rSetL, rSlLU, rSlS, rSlU, rCatL, rCatU, rRepL, rIn, tVar, tC, gName, gSub, tIfS, tTest, tB, tAnd, tOr, tNot, tNotV, tAndV, tOrV, tIf, tCall, tCons, tNil, tCB, tDrop, tRet, tRetN, tNext, tLstU, tTupU, tM0, tM1, tPar, tPar3, tAug, ipI, tBM, tBM0, rAppend, rPop, tBreak, tCont, tChain, tSl, tPart, tNoPart, L2.start, List.map, List.length_cons, List.length_nil, List.replicate, List.cons_append, List.nil_append, List.append_nil, List.getElem?_cons_zero, List.getElem?_cons_succ, List.set_cons_zero, List.set_cons_succ, Option.some.injEq, V.int.injEq, V.ref.injEq, V.str.injEq, V.bl.injEq, exists_eq_left', exists_eq_left, exists_and_left, decide_eq_true_eq, List.cons.injEq, and_true, true_and, scal, Bool.not_eq_true', decide_eq_false_iff_not, Nat.zero_add, Nat.reduceAdd, Nat.reduceSub, reduceCtorEq, false_and, exists_false, false_or, or_false, CPow, CMul, CDiv, Int.reduceToNat, ↓reduceIte, wipe, sw, List.nil_append, List.singleton_append])
local macro_rules | `(tactic| walk_at "st") => `(tactic| (refine seq_op fun N hN => ?_; walk_at "rs"))
local macro_rules | `(tactic| walk_at "sd") => `(tactic| first | assumption | decide | omega)
local macro_rules | `(tactic| walk_at "rd") => `(tactic| repeat (first
  | refine ⟨_, SqL.of (by assumption), ?_⟩ | refine ⟨_, SqL.of upd_same, ?_⟩ | refine ⟨_, .inl (SqL.of (by assumption)), ?_⟩ | refine ⟨_, (by assumption : _ = some (HO.lst _)), ?_⟩ | refine ⟨_, upd_same, ?_⟩
  | refine ⟨_, rfl, ?_⟩ | refine And.intro (by walk_at "sd") ?_))

theorem inV_map (z : Str) : ∀ l : List Str, inV (.str z) (l.map V.str) = l.any fun y => decide (y = z)
  | [] => rfl
  | y :: l => by
    show (eqV (.str y) (.str z) || inV (.str z) (l.map V.str)) = _
    rw [inV_map z l, List.any_cons]
    congr 1
def isStrV : V → Bool
  | .str _ => true
  | _ => false
theorem isStrV_of {K : PySem.W.Frag} {H : Hp} {v : V} {d : PyData} (h : Dp K H v d) : isTy "str" d = isStrV v := by
  cases h <;> rfl
theorem strsOf_none {K : PySem.W.Frag} {H : Hp} : ∀ {vs : List V} {ds : List PyData}, DpAll K H vs ds → vs.all isStrV = false → strsOf ds = none
  | _, _, .nil, e => by simp at e
  | _, _, .cons (v := v) (d := d) h t, e => by
    rw [List.all_cons] at e
    cases h with
    | str z =>
      have : isStrV (.str z) = true := rfl
      rw [this, Bool.true_and] at e
      show (strsOf _).map _ = none
      rw [strsOf_none t e]; rfl
    | non => rfl
    | bl b => rfl
    | int i => rfl
    | lst _ _ => rfl
    | tup _ _ => rfl
theorem strsOf_some {K : PySem.W.Frag} {H : Hp} : ∀ {vs : List V} {ds : List PyData}, DpAll K H vs ds → vs.all isStrV = true → okAll ds = true → ∃ zs : List Str, vs = zs.map V.str ∧ strsOf ds = some zs ∧ ∀ z ∈ zs, z.length ≤ 100000
  | _, _, .nil, _, _ => ⟨[], rfl, rfl, fun z h => absurd h (by simp)⟩
  | _, _, .cons (v := v) (d := d) h t, e, ok => by
    rw [List.all_cons, Bool.and_eq_true] at e
    unfold okAll at ok
    rw [Bool.and_eq_true] at ok
    cases h with
    | str z =>
      obtain ⟨zs, h1, h2, h3⟩ := strsOf_some t e.2 ok.2
      refine ⟨z :: zs, by rw [h1]; rfl, ?_, fun y hy => ?_⟩
      · show (strsOf _).map _ = _
        rw [h2]; rfl
      · rcases List.mem_cons.mp hy with rfl | hy
        · exact of_decide_eq_true ok.1
        · exact h3 y hy
    | non => exact absurd e.1 (by simp [isStrV])
    | bl b => exact absurd e.1 (by simp [isStrV])
    | int i => exact absurd e.1 (by simp [isStrV])
    | lst _ _ => exact absurd e.1 (by simp [isStrV])
    | tup _ _ => exact absurd e.1 (by simp [isStrV])
section
variable {P : Program} {w : World} {K : PySem.W.Frag} {mg : Str → Option Value} {base : Heap}
theorem ok__law_is_prefix (T : Txt w K mg) : FnOk P w K mg base CX0 5 T.a__law_is_prefix T.d__law_is_prefix ["thing"] (spP K fun d => .bl (isPre d)) := by
  refine T.F__law_is_prefix.ok sc__law_is_prefix (fun vs H Q E h => ?_) (fun cdv A outer s H vs Q E hr h => ?_)
  · obtain ⟨v, d, rfl, _⟩ := h
    rfl
  · obtain ⟨v, d, rfl, hd, hok, k⟩ := h
    replace k : ∀ H', Same H H' → Q (.bl (isPre d)) H' := k
    have hr__law_needs : Room 4 _ := hr.mono (by decide)
    have G__law_needs := ok__law_needs (P := P) (base := base) T
    refine ⟨_, (pss_cons (ps_if (PW.pt (pw_or (pt_not (pt_val (pe_callB (call_isiDK (K := K) rfl) (by rfl) T.n_isinstance (by decide +kernel) (pa_cons (pv 0) (pa_cons (pe_bltn (v := .ty "tuple") (u := .type "tuple") (by rfl) T.n_tuple (by decide +kernel) rfl) pa_nil))))) (pw_or (pt_not (pt_chain op_le op_le pe_int (pe_callB call_len_seq (by rfl) T.n_len (by decide +kernel) (pa_cons (pv 0) pa_nil)) pe_int)) (pw_or1 (pt_not (pt_val (pe_callB (cr_all rfl) (by rfl) T.n_all (by decide +kernel) (pa_cons (pe_lc (own := [("part", 2)]) (g := gName 2) (tt := tYes) rfl sc__law_is_prefix.nd (pi_tup (pv 0)) (blkOk_by (own := [("part", 2)]) (N := N__law_is_prefix) (sc := defScope s__law_is_prefix) (by decide +kernel)) (fun _ _ _ _ _ => pg_name (i := 2) sc__law_is_prefix.nd rfl (Or.inl rfl)) (fun _ _ _ _ _ => pts_nil) (fun _ _ _ _ _ => (pe_callB (call_isiDK (K := K) rfl) (by rfl) T.n_isinstance (by decide +kernel) (pa_cons (pv 2) (pa_cons (pe_bltn (v := .ty "str") (u := .type "str") (by rfl) T.n_str (by decide +kernel) rfl) pa_nil))))) pa_nil)))))))) (pss_one (ps_ret pe_bl)) pss_nil)
      (pss_cons (ps_set (i := 1) sc__law_is_prefix.nd rfl (Or.inl rfl) (pe_lstU pa_nil))
      (pss_cons (ps_for PassesOwn.never rfl (pi_tup (pe_revT (pv 0))) (pg_name (i := 2) sc__law_is_prefix.nd rfl (Or.inl rfl)) (pss_cons (ps_set (i := 3) sc__law_is_prefix.nd rfl (Or.inl rfl) (pe_call G__law_needs hr__law_needs (by rfl) T.m__law_needs T.F__law_needs.kp T.B__law_needs .nil pass0 (pa_cons (pv 2) pa_nil)))
      (pss_cons (ps_if (PW.pt (pw_or (pt_cmpR op_lt (pv 3) pe_int (nomark _)) (pw_or1 (pt_cmpR op_gt (pv 3) (pe_callB call_len_seq (by rfl) T.n_len (by decide +kernel) (pa_cons (pv 1) pa_nil)) (nomark _))))) (pss_one (ps_ret pe_bl)) pss_nil)
      (pss_cons (ps_if (PW.pt (pw_and (pt_cmpR op_in_seq (pv 2) (pe_lstU (pa_cons pe_str (pa_cons pe_str pa_nil))) (by rfl)) (pw_and1 (pt_cmpR op_notIn_seq (pe_ix ix_list (pv 1) (pe_un un_neg pe_int) (fun _ _ => rfl)) (pe_lstU (pa_cons pe_str (pa_cons pe_str (pa_cons pe_str (pa_cons pe_str (pa_cons pe_str (pa_cons pe_str (pa_cons pe_str (pa_cons pe_str (pa_cons pe_str pa_nil)))))))))) (by rfl))))) (pss_one (ps_ret pe_bl)) pss_nil)
      (pss_one (ps_set (i := 1) sc__law_is_prefix.nd rfl (Or.inl rfl) (pe_op op_catL (pe_slice sl_listU (pv 1) po_none (po_some (pe_op op_sub (pe_callB call_len_seq (by rfl) T.n_len (by decide +kernel) (pa_cons (pv 1) pa_nil)) (pv 3)))) (pe_lstU (pa_cons (pe_ifExp (pt_cmpR op_eqI (pv 3) pe_int (nomark _)) (pv 2) pe_str) pa_nil)))))))))
      (pss_one (ps_ret (pe_cmpR op_eqI (pe_callB call_len_seq (by rfl) T.n_len (by decide +kernel) (pa_cons (pv 1) pa_nil)) pe_int (nomark _))))))), ?_⟩
    have k0 := k H (Same.refl _)
    refine seq_op fun N hN => ?_
    walk_at "rs"
    refine ⟨v, "tuple", ⟨rfl, rfl⟩, d, hd, by simp, ?_⟩
    cases hd with
    | @tup a xs ds hs ha =>
      have hl : xs.length = ds.length := by
        have : ∀ {vs : List V} {es : List PyData}, DpAll K H vs es → vs.length = es.length := by
          intro vs es h
          induction es generalizing vs with
          | nil => cases h; rfl
          | cons a r ih => cases h with | cons _ h2 => simp [ih h2]
        exact this ha
      have ep : isPre (.tuple ds) = (decide (1 ≤ ds.length) && decide (ds.length ≤ 30) && preZ (strsOf ds)) := rfl
      refine iteFF (by simp [isTy]) ⟨a, rfl, xs, .inr hs, ite2 (fun c1 => ite2 (fun c2 => ?_) (fun c2 => ?_)) (fun c1 => ?_)⟩
      · have e : isPre (.tuple ds) = false := by
          rw [ep, decide_eq_false (p := ds.length ≤ 30) (by omega), Bool.and_false, Bool.false_and]
        rw [e] at k0; exact k0
      · have e : isPre (.tuple ds) = preZ (strsOf ds) := by
          rw [ep, decide_eq_true (p := 1 ≤ ds.length) (by omega), decide_eq_true (p := ds.length ≤ 30) (by omega), Bool.true_and, Bool.true_and]
        rw [e] at k
        refine ⟨_, rfl, a, rfl, ⟨_, hs⟩, fun D hD => lc_map walk_tup xs (fun v => .bl (isStrV v)) hD (by omega) rfl (fun k H x H' _ y => y) (fun H s => Same.seqT s hs) ?_ ?_⟩
        · intro x H1 hx s1 Q2 hq
          walk_at "rs"
          obtain ⟨i, hi⟩ := List.mem_iff_getElem?.mp hx
          have gd : ∀ {vs : List V} {es : List PyData} {i : Nat}, DpAll K H vs es → vs[i]? = some x → ∃ d, Dp K H x d := by
            intro vs es i h e
            induction es generalizing vs i with
            | nil => cases h; simp at e
            | cons a r ih =>
              cases h with
              | cons h1 h2 =>
                cases i with
                | zero => simp at e; subst e; exact ⟨_, h1⟩
                | succ i => exact ih h2 (by simpa using e)
          obtain ⟨d, hd⟩ := gd ha hi
          refine ⟨x, "str", ⟨rfl, rfl⟩, d, dp_same s1 hd, by simp, ?_⟩
          rw [isStrV_of hd]
          exact hq H1 (Same.refl _)
        · intro H1 s1 h1
          refine ⟨D, xs.map isStrV, rfl, SqL.of (by rw [h1, List.map_map]; rfl), _, rfl, ?_⟩
          rw [all_map_id]
          have k1 := k H1 s1
          refine ite2 (fun e1 => ?_) (fun e1 => hN _ _ ?_)
          · rw [strsOf_none ha e1] at k1
            exact k1
          clear hN N k1 k0
          simp only [Bool.not_eq_false] at e1
          obtain ⟨zs, hx, hz, hzl⟩ := strsOf_some ha e1 (okD_tup.mp hok).2
          rw [hz] at k
          replace k : ∀ H', Same H H' → Q (.bl (finP (walkP [] zs.reverse))) H' := k
          subst hx
          rw [List.length_map] at hl
          have zl : zs.length ≤ 30 := by rw [List.length_map] at c2; omega
          refine seq_op fun N hN => ?_
          walk_at "rs"
          refine ⟨by decide, fun p H2 s2 h02 h2 => hN _ _ ?_⟩
          clear hN N
          have s12 := Same.trans s1 s2
          refine cut_seq (fun σ H3 => ∃ (p : Addr) (st : List Str) (x y : Option V), σ = [some (.ref a), some (.ref p), x, y] ∧ H3 p = some (.lst (st.map V.str)) ∧ walkP [] zs.reverse = some st ∧ st.length ≤ 30 ∧ Same H H3) (fun N hN => ?_) ?_
          · refine ⟨_, rfl, a, zs.map V.str, rfl, Same.seqT s12 hs, fun q H3 s3 h03 h3 => ⟨q, rfl, ⟨_, .inl (.inl h3)⟩, for_tup (K := K) (a := q) (xs := (zs.map V.str).reverse) (fun i σ H4 => ∃ (p : Addr) (st : List Str) (x y : Option V), σ = [some (.ref a), some (.ref p), x, y] ∧ H4 p = some (.lst (st.map V.str)) ∧ walkP st (zs.reverse.drop i) = walkP [] zs.reverse ∧ st.length ≤ i ∧ Same H3 H4)
              ⟨p, [], none, none, rfl, s3 _ _ h2, rfl, Nat.le_refl _, Same.refl _⟩ (fun i σ H4 _ ⟨_, _, _, _, _, _, _, _, s4⟩ => .inl (.inl (s4 _ _ h3))) ?_ ?_⟩⟩
            · rintro i y σ H4 hi ⟨p4, st, x, y2, rfl, h4, hw, hsl, s4⟩
              rw [← List.map_reverse, List.getElem?_map] at hi
              obtain ⟨z, hz4, rfl⟩ := Option.map_eq_some_iff.mp hi
              have hil : i < zs.reverse.length := (List.getElem?_eq_some_iff.mp hz4).1
              have ed : zs.reverse.drop i = z :: zs.reverse.drop (i + 1) := by
                rw [List.drop_eq_getElem_cons hil, (List.getElem?_eq_some_iff.mp hz4).2]
              rw [ed] at hw
              have hzz : z.length ≤ 100000 := hzl z (List.mem_reverse.mp (List.mem_of_getElem? hz4))
              have s14 := Same.trans s12 (Same.trans s3 s4)
              have i30 : i < 30 := by rw [List.length_reverse] at hil; omega
              refine seq_op fun N2 hN2 => ?_
              walk_at "rs"
              refine ⟨z, rfl, hzz, fun H5 s5 => hN2 _ _ ?_⟩
              clear hN2 N2
              have h5 := s5 _ _ h4
              have s15 := Same.trans s14 s5
              refine seq_op fun N2 hN2 => ?_
              walk_at "rs"
              have ew : walkP st (z :: zs.reverse.drop (i + 1)) = (match stepP st z with | none => none | some st' => walkP st' (zs.reverse.drop (i + 1))) := rfl
              rw [ew] at hw
              have bad : stepP st z = none → ∀ H', Same H5 H' → Q (.bl false) H' := fun q H' s => by
                rw [q] at hw
                have := k H' (Same.trans s15 s)
                rw [← hw] at this
                exact this
              refine ite2 (fun e1 => bad (by rw [stepP, if_pos (.inl e1)]) _ (Same.refl _)) (fun e1 => ⟨_, .inl (SqL.of h5), ite2 (fun e2 => bad (by rw [List.length_map] at e2; rw [stepP, if_pos (.inr e2)]) _ (Same.refl _)) (fun e2 => hN2 _ _ ?_)⟩)
              clear hN2 N2
              rw [List.length_map] at e2
              have es : stepP st z = if inV (.str z) modV = true ∧ (∀ y, st[st.length - 2]? = some y → inV (.str y) numV = false) then none else some (st.take (st.length - (needsZ z).toNat) ++ [if needsZ z = 0 then z else ""]) := by
                rw [stepP, if_neg (by omega)]
              refine seq_op fun N2 hN2 => ?_
              walk_at "rs"
              refine ⟨by decide, fun q6 H6 s6 h06 h6 => ⟨modV, .inl (SqL.of h6), rfl, by decide +kernel, ?_⟩⟩
              have h56 := s6 _ _ h5
              have s16 := Same.trans s15 s6
              -- what follows: stack = stack[:len(stack) - needs] + [..]
              have rest : ∀ H7, Same H5 H7 → (¬ (inV (.str z) modV = true ∧ (∀ y, st[st.length - 2]? = some y → inV (.str y) numV = false))) → N2 [some (V.ref a), some (V.ref p4), some (V.str z), some (V.int (needsZ z))] H7 := by
                intro H7 s7 hne
                rw [if_neg hne] at es
                refine hN2 _ _ ?_
                walk_at "rs"
                have h57 := s7 _ _ h5
                have ec : cutV (st.map V.str) none (some (((st.map V.str).length : Int) - needsZ z)) = (st.take (st.length - (needsZ z).toNat)).map V.str := by
                  rw [List.length_map, show ((st.length : Int) - needsZ z) = ((st.length - (needsZ z).toNat : Nat) : Int) by omega, cutV_take, List.map_take]
                refine ⟨_, .inl (SqL.of h57), _, SqL.of h57, fun q8 H8 s8 h08 h8 => ?_⟩
                rw [ec] at h8
                have fin : ∀ (t9 : Str), (st.take (st.length - (needsZ z).toNat) ++ [if needsZ z = 0 then z else ""]) = st.take (st.length - (needsZ z).toNat) ++ [t9] → 1 ≤ sizeLine ∧ ∀ (p_1 : Addr) (H2_1 : Hp), Same H8 H2_1 → H8 p_1 = none → H2_1 p_1 = some (HO.lst [V.str t9]) →
                    ∃ x, H2_1 q8 = some (HO.lst x) ∧ ∃ x_2, H2_1 p_1 = some (HO.lst x_2) ∧ x.length + x_2.length ≤ sizeLine ∧ ∀ (p : Addr) (H2 : Hp), Same H2_1 H2 → H2_1 p = none → H2 p = some (HO.lst (x ++ x_2)) →
                      ∃ (p_2 : Addr) (st : List Str) (x y : Option V), (p = p_2 ∧ some (V.str z) = x ∧ some (V.int (needsZ z)) = y) ∧ H2 p_2 = some (HO.lst (List.map V.str st)) ∧ walkP st (List.drop (i + 1) zs.reverse) = walkP [] zs.reverse ∧ st.length ≤ i + 1 ∧ Same H3 H2 := by
                  intro t9 et
                  refine ⟨by decide, fun q9 H9 s9 h09 h9 => ⟨_, s9 _ _ h8, _, h9, ?_, fun q10 H10 s10 h010 h10 => ⟨q10, st.take (st.length - (needsZ z).toNat) ++ [t9], _, _, ⟨rfl, rfl, rfl⟩, ?_, ?_, ?_, ?_⟩⟩⟩
                  · rw [List.length_map, List.length_take]
                    exact Nat.le_trans (show _ ≤ 100 by simp only [List.length_cons, List.length_nil]; omega) (by decide)
                  · rw [h10, List.map_append]
                    rfl
                  · rw [es] at hw
                    rw [← hw, ← et]
                  · rw [List.length_append, List.length_take, List.length_singleton]
                    omega
                  · exact Same.trans s4 (Same.trans s5 (Same.trans s7 (Same.trans s8 (Same.trans s9 s10))))
                refine ite2 (fun c => fin z (by rw [if_pos c])) (fun c => fin "" (by rw [if_neg c]))
              refine ite2 (fun e3 => ?_) (fun e3 => rest H6 s6 fun q => e3 q.1)
              have n2 : needsZ z = 2 := by
                have q : inV (.str z) (ops2L.map V.str) = true := by
                  have e3 : inV (.str z) ((["mod", "div"] : List Str).map V.str) = true := e3
                  rw [inV_map] at e3 ⊢
                  simp only [List.any_eq_true, decide_eq_true_eq] at e3 ⊢
                  obtain ⟨y, hy, rfl⟩ := e3
                  refine ⟨y, ?_, rfl⟩
                  have hy' : y = "mod" ∨ y = "div" := by simpa using hy
                  rcases hy' with rfl | rfl <;> decide +kernel
                rw [needsZ, if_pos q]
              have l2 : 2 ≤ st.length := by omega
              obtain ⟨y, hy⟩ : ∃ y, st[st.length - 2]? = some y := ⟨_, List.getElem?_eq_getElem (by omega)⟩
              refine ⟨_, SqL.of h56, .str y, ?_, by decide, fun q7 H7 s7 h07 h7 => ⟨numV, .inl (SqL.of h7), rfl, by decide +kernel, ite2 (fun e4 => ?_) (fun e4 => ?_)⟩⟩
              · unfold atI ixN
                rw [List.length_map, if_neg (by decide), if_pos (by omega)]
                show (st.map V.str)[((-2 : Int) + (st.length : Int)).toNat]? = _
                rw [show ((-2 : Int) + (st.length : Int)).toNat = st.length - 2 by omega, List.getElem?_map, hy]
                rfl
              · exact bad (by rw [es, if_pos ⟨e3, fun y2 h2 => by rw [hy] at h2; cases h2; exact e4⟩]) _ (Same.trans s6 s7)
              · refine rest H7 (Same.trans s6 s7) fun q => ?_
                have := q.2 y hy
                rw [this] at e4
                exact e4 rfl
            · rintro σ H4 ⟨p4, st, x, y2, rfl, h4, hw, hsl, s4⟩
              refine hN _ _ ⟨p4, st, x, y2, rfl, h4, ?_, ?_, Same.trans s12 (Same.trans s3 s4)⟩
              · rw [← hw, List.drop_eq_nil_of_le (by simp)]
                rfl
              · rw [List.length_reverse, List.length_map] at hsl
                omega
          · rintro σ H3 ⟨p3, st, x, y, rfl, h3, hw, hsl, s3⟩
            walk_at "rs"
            refine ⟨_, .inl (SqL.of h3), ?_⟩
            have := k H3 s3
            rw [hw] at this
            rw [List.length_map]
            have e1 : decide ((st.length : Int) = 1) = finP (some st) := by
              show _ = decide (st.length = 1)
              by_cases c : st.length = 1
              · rw [decide_eq_true c, decide_eq_true (by omega)]
              · rw [decide_eq_false c, decide_eq_false (by omega)]
            rw [e1]
            exact this
      · have e : isPre (.tuple ds) = false := by
          rw [ep, decide_eq_false (p := 1 ≤ ds.length) (by omega), Bool.false_and, Bool.false_and]
        rw [e] at k0; exact k0
    | non => exact iteTT (by simp [isTy]) k0
    | bl b => exact iteTT (by simp [isTy]) k0
    | int i => exact iteTT (by simp [isTy]) k0
    | lst hs ha => exact iteTT (by simp [isTy]) k0
    | str z => exact iteTT (by simp [isTy]) k0
end
end LK

set_option Elab.async false
set_option linter.all false
set_option maxRecDepth 100000
set_option pp.deepTerms true
set_option pp.maxSteps 20000
namespace LK
open PySem PySem.Spec PyProof.Rows L2
local macro_rules | `(tactic| walk_at "rs") => `(tactic| simp only [cxK, cxNK, tCallZ, tAsg, tOp, rI0, rS0, rB0, rI, rU, tUn, rEq, rNe, rIxL, rIxT, rIxS, rSetL, rSlLU, rSlS, rSlU, rCatL, rCatU, rRepL, rIn, tVar, tC, gName, gSub, tIfS, tTest, tB, tAnd, tOr, tNot, tNotV, tAndV, tOrV, tIf, tCall, tCons, tNil, tCB, tDrop, tRet, tRetN, tNext, tLstU, tTupU, tM0, tM1, tPar, tPar3, tAug, ipI, tBM, tBM0, rAppend, rPop, tBreak, tCont, tChain, tSl, tPart, tNoPart, L2.start, List.map, List.length_cons, List.length_nil, List.replicate, List.cons_append, List.nil_append, List.append_nil, List.getElem?_cons_zero, List.getElem?_cons_succ, List.set_cons_zero, List.set_cons_succ, Option.some.injEq, V.int.injEq, V.ref.injEq, V.str.injEq, V.bl.injEq, exists_eq_left', exists_eq_left, exists_and_left, decide_eq_true_eq, List.cons.injEq, and_true, true_and, scal, Bool.not_eq_true', decide_eq_false_iff_not, Nat.zero_add, Nat.reduceAdd, Nat.reduceSub, reduceCtorEq, false_and, exists_false, false_or, or_false, CPow, CMul, CDiv, Int.reduceToNat, ↓reduceIte, wipe, sw, List.nil_append, List.singleton_append])
local macro_rules | `(tactic| walk_at "st") => `(tactic| (refine seq_op fun N hN => ?_; walk_at "rs"))
local macro_rules | `(tactic| walk_at "sd") => `(tactic| first | assumption | decide | omega)
local macro_rules | `(tactic| walk_at "rd") => `(tactic| repeat (first
  | refine ⟨_, SqL.of (by assumption), ?_⟩ | refine ⟨_, SqL.of upd_same, ?_⟩ | refine ⟨_, .inl (SqL.of (by assumption)), ?_⟩ | refine ⟨_, (by assumption : _ = some (HO.lst _)), ?_⟩ | refine ⟨_, upd_same, ?_⟩
  | refine ⟨_, rfl, ?_⟩ | refine And.intro (by walk_at "sd") ?_))

theorem fr_spec (p : Int) {q : Int} (h : q ≠ 0) : frP p q * frG p q = p ∧ frQ p q * frG p q = q ∧ 1 ≤ frQ p q ∧ Nat.gcd (frP p q).natAbs (frQ p q).natAbs = 1 ∧ (frP p q).natAbs ≤ p.natAbs ∧ (frQ p q).natAbs ≤ q.natAbs ∧ frG p q ≠ 0 := by
  have g0 : Nat.gcd p.natAbs q.natAbs ≠ 0 := fun z => h (by have := Nat.eq_zero_of_gcd_eq_zero_right z; omega)
  have ga : (frG p q).natAbs = Nat.gcd p.natAbs q.natAbs := by unfold frG; split <;> omega
  have gs : (0 < q ∧ 0 < frG p q) ∨ (q < 0 ∧ frG p q < 0) := by unfold frG; split <;> omega
  have gn : frG p q ≠ 0 := by omega
  have d1 : frG p q ∣ p := Int.natAbs_dvd_natAbs.mp (by rw [ga]; exact Nat.gcd_dvd_left _ _)
  have d2 : frG p q ∣ q := Int.natAbs_dvd_natAbs.mp (by rw [ga]; exact Nat.gcd_dvd_right _ _)
  obtain ⟨a, ea⟩ := d1
  obtain ⟨b, eb⟩ := d2
  have pa : frP p q = a := by
    unfold frP
    generalize frG p q = G at ea gn
    rw [ea, Int.mul_comm]
    exact Int.mul_fdiv_cancel _ gn
  have qb : frQ p q = b := by
    unfold frQ
    generalize frG p q = G at eb gn
    rw [eb, Int.mul_comm]
    exact Int.mul_fdiv_cancel _ gn
  rw [pa, qb]
  have na : p.natAbs = a.natAbs * Nat.gcd p.natAbs q.natAbs := by
    rw [← ga, ← Int.natAbs_mul, Int.mul_comm]; exact congrArg Int.natAbs ea
  have nb : q.natAbs = b.natAbs * Nat.gcd p.natAbs q.natAbs := by
    rw [← ga, ← Int.natAbs_mul, Int.mul_comm]; exact congrArg Int.natAbs eb
  have hg : Nat.gcd a.natAbs b.natAbs = 1 := by
    have e : Nat.gcd (a.natAbs * Nat.gcd p.natAbs q.natAbs) (b.natAbs * Nat.gcd p.natAbs q.natAbs) = Nat.gcd p.natAbs q.natAbs := by rw [← na, ← nb]
    rw [Nat.gcd_mul_right] at e
    exact Nat.eq_of_mul_eq_mul_right (Nat.pos_of_ne_zero g0) (by rw [e, Nat.one_mul])
  refine ⟨by rw [Int.mul_comm]; exact ea.symm, by rw [Int.mul_comm]; exact eb.symm, ?_, hg, ?_, ?_, gn⟩
  · generalize frG p q = G at eb gs
    rcases Int.lt_trichotomy b 0 with c | c | c
    · rcases gs with ⟨h1, h2⟩ | ⟨h1, h2⟩
      · have := Int.mul_neg_of_pos_of_neg h2 c; omega
      · have := Int.mul_pos_of_neg_of_neg h2 c; omega
    · rw [c, Int.mul_zero] at eb; omega
    · omega
  · rw [na]; exact Nat.le_mul_of_pos_right _ (Nat.pos_of_ne_zero g0)
  · rw [nb]; exact Nat.le_mul_of_pos_right _ (Nat.pos_of_ne_zero g0)
theorem pow_le {n a b : Nat} (h : n < 2 ^ a) (hab : a ≤ b) : n < 2 ^ b := Nat.lt_of_lt_of_le h (Nat.pow_le_pow_right (by decide) hab)
theorem eqv_pair (p q r s : Int) : PyData.eqv (.tuple [.int p, .int q]) (.tuple [.int r, .int s]) = (decide (p = r) && decide (q = s)) := by
  simp [PyData.eqv, PyData.eqvAll]
  rfl
theorem fr_low {p q : Int} (h : 1 ≤ q) (hg : Nat.gcd p.natAbs q.natAbs = 1) : frP p q = p ∧ frQ p q = q := by
  have e : frG p q = 1 := by unfold frG; rw [hg, if_neg (by omega)]; rfl
  obtain ⟨h1, h2, _⟩ := fr_spec p (q := q) (by omega)
  rw [e, Int.mul_one] at h1 h2
  exact ⟨h1, h2⟩
/-- what the exact test tells -/
theorem okD_two {p q : Int} (h : okD (.tuple [.int p, .int q]) = true) : p.natAbs < 2 ^ 4000 ∧ q.natAbs < 2 ^ 4000 := by
  have a := (okD_tup.mp h).2
  unfold okAll at a
  rw [Bool.and_eq_true] at a
  obtain ⟨a1, a2⟩ := a
  unfold okAll at a2
  rw [Bool.and_eq_true] at a2
  exact ⟨of_decide_eq_true a1, of_decide_eq_true a2.1⟩
theorem okD_of2 {p q : Int} (h1 : p.natAbs < 2 ^ 4000) (h2 : q.natAbs < 2 ^ 4000) : okD (.tuple [.int p, .int q]) = true := by
  refine okD_tup.mpr ⟨(show 2 ≤ 100000 by decide), ?_⟩
  unfold okAll
  rw [Bool.and_eq_true]
  refine ⟨decide_eq_true h1, ?_⟩
  unfold okAll
  rw [Bool.and_eq_true]
  exact ⟨decide_eq_true h2, rfl⟩
theorem isFrac_iff {p q : Int} : isFrac (.tuple [.int p, .int q]) = true ↔ 1 ≤ q ∧ Nat.gcd p.natAbs q.natAbs = 1 := by
  show (decide (1 ≤ q) && decide (Nat.gcd p.natAbs q.natAbs = 1)) = true ↔ _
  rw [Bool.and_eq_true, decide_eq_true_iff, decide_eq_true_iff]
theorem frac_dp {K : PySem.W.Frag} {H : Hp} {v : V} {d : PyData} (hd : Dp K H v d) (e : isFrac d = true) : ∃ a p q, v = .ref a ∧ d = .tuple [.int p, .int q] ∧ SqT K H a [.int p, .int q] ∧ 1 ≤ q ∧ Nat.gcd p.natAbs q.natAbs = 1 := by
  cases hd with
  | @tup a xs ds hs ha =>
    cases ha with
    | nil => cases e
    | cons h1 ha =>
      cases ha with
      | nil => cases h1 <;> cases e
      | cons h2 ha =>
        cases ha with
        | nil =>
          cases h1 with
          | int p =>
            cases h2 with
            | int q => exact ⟨a, p, q, rfl, rfl, hs, isFrac_iff.mp e⟩
            | _ => cases e
          | _ => cases h2 <;> cases e
        | cons h3 ha => cases h1 <;> cases h2 <;> cases e
  | _ => cases e
end LK

set_option Elab.async false
set_option linter.all false
set_option maxRecDepth 100000
set_option pp.deepTerms true
set_option pp.maxSteps 20000
namespace LK
open PySem PySem.Spec PyProof.Rows L2
local macro_rules | `(tactic| walk_at "rs") => `(tactic| simp only [cxK, cxNK, tCallZ, tAsg, tOp, rI0, rS0, rB0, rI, rU, tUn, rEq, rNe, rIxL, rIxT, rIxS, rSetL, rSlLU, rSlS, rSlU, rCatL, rCatU, rRepL, rIn, tVar, tC, gName, gSub, tIfS, tTest, tB, tAnd, tOr, tNot, tNotV, tAndV, tOrV, tIf, tCall, tCons, tNil, tCB, tDrop, tRet, tRetN, tNext, tLstU, tTupU, tM0, tM1, tPar, tPar3, tAug, ipI, tBM, tBM0, rAppend, rPop, tBreak, tCont, tChain, tSl, tPart, tNoPart, L2.start, List.map, List.length_cons, List.length_nil, List.replicate, List.cons_append, List.nil_append, List.append_nil, List.getElem?_cons_zero, List.getElem?_cons_succ, List.set_cons_zero, List.set_cons_succ, Option.some.injEq, V.int.injEq, V.ref.injEq, V.str.injEq, V.bl.injEq, exists_eq_left', exists_eq_left, exists_and_left, decide_eq_true_eq, List.cons.injEq, and_true, true_and, scal, Bool.not_eq_true', decide_eq_false_iff_not, Nat.zero_add, Nat.reduceAdd, Nat.reduceSub, reduceCtorEq, false_and, exists_false, false_or, or_false, CPow, CMul, CDiv, Int.reduceToNat, ↓reduceIte, wipe, sw, List.nil_append, List.singleton_append])
local macro_rules | `(tactic| walk_at "st") => `(tactic| (refine seq_op fun N hN => ?_; walk_at "rs"))
local macro_rules | `(tactic| walk_at "sd") => `(tactic| first | assumption | decide | omega)
local macro_rules | `(tactic| walk_at "rd") => `(tactic| repeat (first
  | refine ⟨_, SqL.of (by assumption), ?_⟩ | refine ⟨_, SqL.of upd_same, ?_⟩ | refine ⟨_, .inl (SqL.of (by assumption)), ?_⟩ | refine ⟨_, (by assumption : _ = some (HO.lst _)), ?_⟩ | refine ⟨_, upd_same, ?_⟩
  | refine ⟨_, rfl, ?_⟩ | refine And.intro (by walk_at "sd") ?_))

open TL
theorem tl_cps (z : Str) : tl z = z.cps.toList := rfl
theorem tl_strI (i : Int) : tl (strI i) = (if i < 0 then [45] else []) ++ numL i.natAbs := by
  unfold strI
  by_cases h : i < 0
  · rw [if_pos h, PyProof.Rows.toString_neg h]
    have e : (0 - i) = ((i.natAbs : Nat) : Int) := by omega
    rw [e, tl_ofString, String.toList_append, List.map_append]
    have e2 := tl_num i.natAbs
    rw [tl_ofString] at e2
    rw [e2]
    rfl
  · rw [if_neg h, List.nil_append]
    have e : i = ((i.natAbs : Nat) : Int) := by omega
    conv => lhs; rw [e]
    exact tl_num _
theorem strI_len {i : Int} (h : i.natAbs < 10 ^ 60) : (strI i).length ≤ 61 := by
  rw [len_tl, tl_strI, List.length_append]
  have := numL_len (by decide : 0 < 60) h
  split <;> simp <;> omega
theorem empty_append (z : Str) : Str.empty ++ z = z := by
  refine ext_tl ?_
  rw [tl_append]
  rfl
theorem numL_lead : ∀ (n : Nat), 0 < n → ∃ c r, numL n = c :: r ∧ c ≠ 48 := by
  intro n
  induction n using Nat.strongRecOn with
  | _ n ih =>
    intro h
    by_cases h9 : n < 10
    · rw [numL_lt h9]
      exact ⟨_, _, rfl, by omega⟩
    · rw [numL_step (by omega)]
      obtain ⟨c, r, e, hc⟩ := ih (n / 10) (by omega) (by omega)
      exact ⟨c, r ++ [48 + n % 10], by rw [e]; rfl, hc⟩
theorem digitsVal_snoc (ds : List Nat) (c : Nat) : NumText.digitsVal (ds ++ [c]) = NumText.digitsVal ds * 10 + (c - 48) := by
  unfold NumText.digitsVal
  rw [List.foldl_append]
  rfl
theorem numL_back : ∀ (n : Nat) (ds : List Nat), ds.length = n → NumText.AllDigits ds → ds ≠ [] → (∀ r, ds = 48 :: r → r = []) → numL (NumText.digitsVal ds) = ds := by
  intro n
  induction n with
  | zero => intro ds hl _ ne; exact absurd (List.eq_nil_of_length_eq_zero hl) ne
  | succ n ih =>
    intro ds hl ha ne hz
    obtain ⟨es, c, rfl⟩ : ∃ es c, ds = es ++ [c] := ⟨ds.dropLast, ds.getLast ne, (List.dropLast_concat_getLast ne).symm⟩
    have hc := ha c (by simp)
    rw [digitsVal_snoc]
    by_cases e : es = []
    · subst e
      have : NumText.digitsVal [] = 0 := rfl
      rw [this, Nat.zero_mul, Nat.zero_add, numL_lt (by omega), List.nil_append]
      congr 1
      omega
    · have ha2 : NumText.AllDigits es := fun x hx => ha x (List.mem_append_left _ hx)
      have hz2 : ∀ r, es = 48 :: r → r = [] := fun r er => by
        have := hz (r ++ [c]) (by rw [er]; rfl)
        simp at this
      have q := ih es (by simpa using hl) ha2 e hz2
      have pos : 0 < NumText.digitsVal es := by
        rcases Nat.eq_zero_or_pos (NumText.digitsVal es) with z | z
        · rw [z, numL_lt (by omega)] at q
          have := hz [c] (by rw [← q]; rfl)
          simp at this
        · exact z
      rw [numL_step (by omega)]
      have e1 : (NumText.digitsVal es * 10 + (c - 48)) / 10 = NumText.digitsVal es := by omega
      have e2 : (NumText.digitsVal es * 10 + (c - 48)) % 10 = c - 48 := by omega
      rw [e1, e2, q]
      congr 2
      omega
theorem val_lt60 {l : List Nat} (h : NumText.AllDigits l) (hl : l.length ≤ 60) : NumText.digitsVal l < 10 ^ 60 := by
  have := digitsVal_lt l 0 h
  exact Nat.lt_of_lt_of_le this (by rw [Nat.zero_add, Nat.one_mul]; exact Nat.pow_le_pow_right (by decide) hl)
theorem FIG_in {c : Nat} (h : 48 ≤ c ∧ c ≤ 57) : inS c FIGs = true := by
  have e : FIGs.cps.toList = [48, 49, 50, 51, 52, 53, 54, 55, 56, 57] := by decide +kernel
  refine decide_eq_true ?_
  rw [e]
  simp only [List.mem_cons, List.mem_nil_iff, or_false]
  omega
theorem starts_of {z : Str} {r : List Nat} (h : tl z = 45 :: r) : Txt.startswith z "-" = true := by
  unfold Txt.startswith
  have e : TL.tl "-" = [45] := by decide +kernel
  have l : z.length = r.length + 1 := by rw [len_tl, h]; rfl
  have q : PySem.StrLaws.At z "-" z.length 0 := (TL.at_iff (x := z) (y := "-") (by rw [e]; simp) 0).mpr (by rw [e, List.drop_zero, h]; rfl)
  rw [Bool.and_eq_true]
  exact ⟨decide_eq_true q.1, q.2⟩
theorem figs_neg {z : Str} {r : List Nat} (h : tl z = 45 :: r) : (figures z).cps.toList = r := by
  unfold figures
  rw [if_pos (starts_of h), cutS_tail]
  rw [tl_cps] at h
  rw [h]; rfl
theorem figs_pos {z : Str} (h : ∀ r, tl z ≠ 45 :: r) : figures z = z := by
  unfold figures
  rw [if_neg]
  intro c
  obtain ⟨r, hr⟩ := starts_minus c
  exact h r hr
theorem figs_strI (i : Int) : (figures (strI i)).cps.toList = numL i.natAbs := by
  have e := tl_strI i
  by_cases h : i < 0
  · rw [if_pos h] at e
    exact figs_neg e
  · rw [if_neg h, List.nil_append] at e
    rw [figs_pos fun r hr => by
      rw [e] at hr
      have := numL_digits i.natAbs 45 (by rw [hr]; simp)
      omega]
    exact e
theorem intText_strI {i : Int} (h : i.natAbs < 10 ^ 60) : intText? (strI i) = some i := by
  have l := strI_len h
  by_cases h0 : i < 0
  · have e := tl_strI i
    rw [if_pos h0] at e
    have q := intText_neg (x := strI i) (cs := numL i.natAbs) e (numL_digits _) (numL_ne _) (by omega)
    rw [q, numL_val]
    congr 1
    omega
  · have e : i = ((i.natAbs : Nat) : Int) := by omega
    unfold strI
    conv => lhs; rw [e]
    rw [int_num (Nat.le_trans (numL_len (by decide : 0 < 60) h) (by decide)), ← e]
theorem readNum_iff {z : Str} {n : Int} : readNum z = some n ↔ z = strI n ∧ n.natAbs < 10 ^ 60 := by
  constructor
  · intro h
    unfold readNum at h
    split at h
    · rename_i c
      split at h
      · rename_i m hm
        split at h
        · rename_i e
          cases h
          refine ⟨e.symm, ?_⟩
          have l := c.1.2
          rw [← e] at l
          change (figures (strI n)).length ≤ 60 at l
          rw [← len_cps, figs_strI] at l
          have := val_lt60 (numL_digits n.natAbs) l
          rw [numL_val] at this
          exact this
        · cases h
      · cases h
    · cases h
  · rintro ⟨rfl, h⟩
    unfold readNum
    have l := numL_len (by decide : 0 < 60) h
    have ne := numL_ne n.natAbs
    have l1 : 1 ≤ (numL n.natAbs).length := by
      cases e : numL n.natAbs with
      | nil => exact absurd e ne
      | cons => simp
    have lf : (figures (strI n)).length = (numL n.natAbs).length := by rw [← len_cps, figs_strI]
    rw [if_pos ⟨⟨by omega, by omega⟩, by
      rw [figs_strI]
      exact List.all_eq_true.mpr fun c hc => FIG_in (numL_digits _ c hc)⟩, intText_strI h]
    show (if strI n = strI n then _ else _) = _
    rw [if_pos rfl]
theorem strI_free (i : Int) : 47 ∉ tl (strI i) := by
  rw [tl_strI]
  intro h
  rcases List.mem_append.mp h with h | h
  · split at h <;> simp at h
  · exact numL_free (Or.inl (by decide)) h
theorem tl_slash : tl ("/" : Str) = [47] := by decide +kernel
theorem readZ_iff {z : Str} {p q : Int} : readZ z = some (p, q) ↔ isFrac (.tuple [.int p, .int q]) = true ∧ p.natAbs < 10 ^ 60 ∧ q.natAbs < 10 ^ 60 ∧ z = txtF p q := by
  constructor
  · intro h
    unfold readZ at h
    split at h
    · rename_i a b ha hb
      split at h
      · rename_i c
        cases h
        refine ⟨c.1, (readNum_iff.mp ha).2, ?_, c.2.symm⟩
        unfold readQ at hb
        split at hb
        · cases hb; decide
        · exact (readNum_iff.mp hb).2
      · cases h
    · cases h
  · rintro ⟨hf, hp, hq, rfl⟩
    by_cases c : q = 1
    · subst c
      have e : txtF p 1 = strI p := if_pos rfl
      have e2 : Txt.partition (strI p) "/" = (strI p, Str.empty, Str.empty) := partition_none tl_slash (strI_free p)
      unfold readZ
      rw [e, e2]
      have e3 : readQ (strI p, Str.empty, Str.empty) = some 1 := if_pos rfl
      have e4 : readNum (strI p) = some p := readNum_iff.mpr ⟨rfl, hp⟩
      rw [e3]
      dsimp only
      rw [e4]
      dsimp only
      rw [if_pos ⟨hf, e⟩]
    · have e : txtF p q = strI p ++ "/" ++ strI q := if_neg c
      have e2 : Txt.partition (strI p ++ "/" ++ strI q) "/" = (strI p, ("/" : Str), strI q) := partition_app tl_slash (strI_free p)
      unfold readZ
      rw [e, e2]
      have e3 : readQ (strI p, ("/" : Str), strI q) = some q := by
        show (if ("/" : Str).length = 0 then _ else readNum (strI q)) = _
        rw [if_neg (by decide +kernel)]
        exact readNum_iff.mpr ⟨rfl, hq⟩
      have e4 : readNum (strI p) = some p := readNum_iff.mpr ⟨rfl, hp⟩
      rw [e3]
      dsimp only
      rw [e4]
      dsimp only
      rw [if_pos ⟨hf, e⟩]
end LK

set_option Elab.async false
set_option linter.all false
set_option maxRecDepth 100000
set_option pp.deepTerms true
set_option pp.maxSteps 20000
namespace LK
open PySem PySem.Spec PyProof.Rows L2
local macro_rules | `(tactic| walk_at "rs") => `(tactic| simp only [cxK, cxNK, tCallZ, tAsg, tOp, rI0, rS0, rB0, rI, rU, tUn, rEq, rNe, rIxL, rIxT, rIxS, rSetL, rSlLU, rSlS, rSlU, rCatL, rCatU, rRepL, rIn, tVar, tC, gName, gSub, tIfS, tTest, tB, tAnd, tOr, tNot, tNotV, tAndV, tOrV, tIf, tCall, tCons, tNil, tCB, tDrop, tRet, tRetN, tNext, tLstU, tTupU, tM0, tM1, tPar, tPar3, tAug, ipI, tBM, tBM0, rAppend, rPop, tBreak, tCont, tChain, tSl, tPart, tNoPart, L2.start, List.map, List.length_cons, List.length_nil, List.replicate, List.cons_append, List.nil_append, List.append_nil, List.getElem?_cons_zero, List.getElem?_cons_succ, List.set_cons_zero, List.set_cons_succ, Option.some.injEq, V.int.injEq, V.ref.injEq, V.str.injEq, V.bl.injEq, exists_eq_left', exists_eq_left, exists_and_left, decide_eq_true_eq, List.cons.injEq, and_true, true_and, scal, Bool.not_eq_true', decide_eq_false_iff_not, Nat.zero_add, Nat.reduceAdd, Nat.reduceSub, reduceCtorEq, false_and, exists_false, false_or, or_false, CPow, CMul, CDiv, Int.reduceToNat, ↓reduceIte, wipe, sw, List.nil_append, List.singleton_append])
local macro_rules | `(tactic| walk_at "st") => `(tactic| (refine seq_op fun N hN => ?_; walk_at "rs"))
local macro_rules | `(tactic| walk_at "sd") => `(tactic| first | assumption | decide | omega)
local macro_rules | `(tactic| walk_at "rd") => `(tactic| repeat (first
  | refine ⟨_, SqL.of (by assumption), ?_⟩ | refine ⟨_, SqL.of upd_same, ?_⟩ | refine ⟨_, .inl (SqL.of (by assumption)), ?_⟩ | refine ⟨_, (by assumption : _ = some (HO.lst _)), ?_⟩ | refine ⟨_, upd_same, ?_⟩
  | refine ⟨_, rfl, ?_⟩ | refine And.intro (by walk_at "sd") ?_))

/-! ### the two ways of judging an expression agree -/
def opsL (d : PyData) (c : Nat) : Option (List Nat) := (opsBehind d ⟨#[c]⟩).map fun o => o.cps.toList
def walkL : List Nat → List PyData → Bool
  | [], [] => true
  | _ :: _, [] => false
  | [], _ :: _ => false
  | c :: w, d :: r => match opsL d c with
    | none => false
    | some o => walkL (o ++ w) r
theorem str_ext {a b : Str} (h : a.cps.toList = b.cps.toList) : a = b := by
  cases a; cases b
  congr 1
  exact Array.toList_inj.mp h
theorem walkE_L : ∀ (ds : List PyData) (w : Str), walkE w ds = walkL w.cps.toList ds
  | [], w => by
    rcases e : w.cps.toList with _ | ⟨c, l⟩
    · have q : w = "" := str_ext (by rw [e]; rfl)
      simp only [walkE, walkL, q, decide_true]
    · have q : w ≠ "" := fun z => by rw [z] at e; cases e
      simp only [walkE, walkL]
      exact decide_eq_false q
  | d :: r, w => by
    rcases e : w.cps.toList with _ | ⟨c, l⟩
    · have q : w = "" := str_ext (by rw [e]; rfl)
      simp only [walkE, walkL, q, if_true]
    · have q : w ≠ "" := fun z => by rw [z] at e; cases e
      have h1 : head1 w = ⟨#[c]⟩ := by unfold head1; rw [e]; rfl
      simp only [walkE, walkL, if_neg q, h1, opsL]
      cases opsBehind d ⟨#[c]⟩ with
      | none => rfl
      | some o =>
        show walkE _ r = walkL _ r
        rw [walkE_L r, str_append, cutS_tail, e]
        rfl
/-- what one word of each kind does -/
inductive Kind (z : Str) : Prop
  | bad (h : needsZ z < 0) (e : opsL (.str z) 101 = none) (k : opsL (.str z) 107 = none)
  | leaf (h : needsZ z = 0) (m : inV (.str z) modV = false) (e : opsL (.str z) 101 = some []) (k : opsL (.str z) 107 = if inV (.str z) numV = true then some [] else none)
  | one (h : needsZ z = 1) (m : inV (.str z) modV = false) (e : opsL (.str z) 101 = some [101]) (k : opsL (.str z) 107 = none)
  | three (h : needsZ z = 3) (m : inV (.str z) modV = false) (e : opsL (.str z) 101 = some [101, 101, 101]) (k : opsL (.str z) 107 = none)
  | two (h : needsZ z = 2) (m : inV (.str z) modV = false) (e : opsL (.str z) 101 = some [101, 101]) (k : opsL (.str z) 107 = none)
  | mod (h : needsZ z = 2) (m : inV (.str z) modV = true) (e : opsL (.str z) 101 = some [101, 107]) (k : opsL (.str z) 107 = none)
theorem isInt_of {z : Str} {a b : Int} (h : isInt z a b = true) : ∃ n : Int, a ≤ n ∧ n ≤ b ∧ z = Str.ofString (toString n) := by
  unfold isInt at h
  split at h
  · rename_i n e
    rw [Bool.and_eq_true, decide_eq_true_iff, decide_eq_true_iff] at h
    unfold readNum at e
    split at e
    · split at e
      · split at e
        · rename_i n' _ e'
          obtain rfl : n' = n := by injection e
          exact ⟨_, h.1, h.2, e'.symm⟩
        · cases e
      · cases e
    · cases e
  · cases h
def nineL : List Str := (List.range 19).map fun (k : Nat) => Str.ofString (toString ((k : Int) - 9))
theorem nineV_eq : nineV = nineL.map V.str := by
  unfold nineV nineL
  rw [List.map_map]; rfl
theorem int9 (z : Str) : isInt z (-9) 9 = inV (.str z) nineV := by
  rw [nineV_eq, inV_map]
  rw [Bool.eq_iff_iff, List.any_eq_true]
  constructor
  · intro h
    obtain ⟨n, h1, h2, rfl⟩ := isInt_of h
    refine ⟨_, List.mem_map.mpr ⟨(n + 9).toNat, List.mem_range.mpr (by omega), rfl⟩, decide_eq_true ?_⟩
    rw [show (((n + 9).toNat : Nat) : Int) - 9 = n by omega]
  · rintro ⟨y, hy, e⟩
    obtain rfl := of_decide_eq_true e
    have all : ∀ y ∈ nineL, isInt y (-9) 9 = true := by decide +kernel
    exact all y hy
theorem int1 (z : Str) : isInt z 1 9 = inV (.str z) numV := by
  unfold numV
  rw [inV_map]
  rw [Bool.eq_iff_iff, List.any_eq_true]
  constructor
  · intro h
    obtain ⟨n, h1, h2, rfl⟩ := isInt_of h
    have q : ∀ k : Fin 9, Str.ofString (toString (((k.val : Nat) : Int) + 1)) ∈ numL9 := by decide +kernel
    have e := q ⟨(n - 1).toNat, by omega⟩
    rw [show (((n - 1).toNat : Nat) : Int) + 1 = n by omega] at e
    exact ⟨_, e, decide_eq_true rfl⟩
  · rintro ⟨y, hy, e⟩
    obtain rfl := of_decide_eq_true e
    have all : ∀ y ∈ numL9, isInt y 1 9 = true := by decide +kernel
    exact all y hy
theorem inL (z : Str) (l : List Str) : inV (.str z) (l.map V.str) = decide (z ∈ l) := by
  rw [inV_map, Bool.eq_iff_iff, List.any_eq_true, decide_eq_true_iff]
  constructor
  · rintro ⟨y, hy, e⟩
    rw [← of_decide_eq_true e]; exact hy
  · exact fun h => ⟨z, h, decide_eq_true rfl⟩
theorem kind_op : ∀ z ∈ ops2L ++ ops1L,
    (needsZ z = 1 ∧ inV (.str z) modV = false ∧ opsL (.str z) 101 = some [101] ∧ opsL (.str z) 107 = none)
  ∨ (needsZ z = 3 ∧ inV (.str z) modV = false ∧ opsL (.str z) 101 = some [101, 101, 101] ∧ opsL (.str z) 107 = none)
  ∨ (needsZ z = 2 ∧ inV (.str z) modV = false ∧ opsL (.str z) 101 = some [101, 101] ∧ opsL (.str z) 107 = none)
  ∨ (needsZ z = 2 ∧ inV (.str z) modV = true ∧ opsL (.str z) 101 = some [101, 107] ∧ opsL (.str z) 107 = none) := by decide +kernel
theorem mod_op : ∀ z ∈ (["mod", "div"] : List Str), z ∈ ops2L ++ ops1L := by decide
theorem kind (z : Str) : Kind z := by
  by_cases hz : z ∈ ops2L ++ ops1L
  · rcases kind_op z hz with ⟨a, b, c, d⟩ | ⟨a, b, c, d⟩ | ⟨a, b, c, d⟩ | ⟨a, b, c, d⟩
    · exact .one a b c d
    · exact .three a b c d
    · exact .two a b c d
    · exact .mod a b c d
  · have hm : inV (.str z) modV = false := by
      show inV (.str z) ((["mod", "div"] : List Str).map V.str) = false
      rw [inL]
      exact decide_eq_false fun h => hz (mod_op z h)
    have h2 : inV (.str z) (ops2L.map V.str) = false := by
      rw [inL]; exact decide_eq_false fun h => hz (List.mem_append_left _ h)
    have h1 : inV (.str z) (ops1L.map V.str) = false := by
      rw [inL]; exact decide_eq_false fun h => hz (List.mem_append_right _ h)
    have ho : opsOf z = none := by
      unfold opsOf
      rw [List.lookup_eq_none_iff]
      intro p hp
      have q : ∀ p ∈ opsTab, p.1 ∈ ops2L ++ ops1L := by decide
      refine bne_iff_ne.mpr fun (e : z = p.1) => hz ?_
      rw [e]; exact q p hp
    have nz : needsZ z = if (inV (.str z) nineV || isNameD (.str z)) = true then 0 else -1 := by
      unfold needsZ
      rw [h2, h1, if_neg (by decide), if_neg (by decide)]
    have ke : ((⟨#[101]⟩ : Str) = "k") = False := eq_false (by decide)
    have kk : ((⟨#[107]⟩ : Str) = "k") = True := eq_true (by decide)
    have oe : opsL (.str z) 101 = if (inV (.str z) nineV || isNameD (.str z)) = true then some [] else none := by
      unfold opsL opsBehind
      simp only [ke, if_false, int9, ho, Bool.or_comm (isNameD (.str z))]
      split <;> rfl
    have ok : opsL (.str z) 107 = if inV (.str z) numV = true then some [] else none := by
      unfold opsL opsBehind
      simp only [kk, if_true, int1]
      split <;> rfl
    by_cases hl : (inV (.str z) nineV || isNameD (.str z)) = true
    · rw [if_pos hl] at nz oe
      exact .leaf nz hm oe ok
    · rw [if_neg hl] at nz oe
      have n9 : inV (.str z) numV = false := by
        rw [← int1]
        rcases e : isInt z 1 9 with _ | _
        · rfl
        · obtain ⟨n, a, b, c⟩ := isInt_of e
          exfalso
          apply hl
          rw [← int9, Bool.or_eq_true]
          have q : ∀ y ∈ numL9, isInt y (-9) 9 = true := by decide +kernel
          rw [int1] at e
          unfold numV at e
          rw [inL] at e
          exact .inl (q z (of_decide_eq_true e))
      rw [n9] at ok
      exact .bad (by rw [nz]; decide) oe ok
/-- the wants against the stack, its top first -/
def mt : List Nat → List Str → Bool
  | [], [] => true
  | c :: w, y :: r => (decide (c = 101) || (decide (c = 107) && inV (.str y) numV)) && mt w r
  | _, _ => false
def stepR (R : List Str) (z : Str) : Option (List Str) :=
  if needsZ z < 0 ∨ (R.length : Int) < needsZ z then none
  else if inV (.str z) modV = true ∧ (∀ y, R[1]? = some y → inV (.str y) numV = false) then none
  else some ((if needsZ z = 0 then z else "") :: R.drop (needsZ z).toNat)
theorem stepP_R (st : List Str) (z : Str) : (stepP st z).map List.reverse = stepR st.reverse z := by
  unfold stepP stepR
  rw [List.length_reverse]
  split
  · rfl
  · rename_i h
    have hm : (inV (.str z) modV = true ∧ ∀ y, st[st.length - 2]? = some y → inV (.str y) numV = false) ↔ (inV (.str z) modV = true ∧ ∀ y, st.reverse[1]? = some y → inV (.str y) numV = false) := by
      refine and_congr_right fun m => ?_
      have n2 : needsZ z = 2 := by
        rcases kind z with ⟨h1, _, _⟩ | ⟨_, h2, _, _⟩ | ⟨_, h2, _, _⟩ | ⟨_, h2, _, _⟩ | ⟨_, h2, _, _⟩ | ⟨h1, _, _, _⟩
        · exact absurd (.inl h1) h
        all_goals first | exact h1 | (rw [h2] at m; cases m)
      rw [List.getElem?_reverse (by omega), show st.length - 1 - 1 = st.length - 2 by omega]
    simp only [hm]
    split
    · rfl
    · simp only [Option.map_some, List.reverse_append, List.reverse_cons, List.reverse_nil, List.nil_append, List.singleton_append]
      rw [List.drop_reverse]
theorem step_iff (z : Str) (c : Nat) (w : List Nat) (R : List Str) (hc : c = 101 ∨ c = 107) :
    (match opsL (.str z) c with | none => false | some o => mt (o ++ w) R) = (match stepR R z with | none => false | some R' => mt (c :: w) R') := by
  have en : inV (.str "") numV = false := by decide +kernel
  have k101 : decide ((101 : Nat) = 101) = true := rfl
  have k107 : decide ((107 : Nat) = 101) = false := rfl
  have k7 : decide ((107 : Nat) = 107) = true := rfl
  have k17 : decide ((101 : Nat) = 107) = false := rfl
  rcases kind z with ⟨h, e, k⟩ | ⟨h, m, e, k⟩ | ⟨h, m, e, k⟩ | ⟨h, m, e, k⟩ | ⟨h, m, e, k⟩ | ⟨h, m, e, k⟩
  · have q : stepR R z = none := by unfold stepR; rw [if_pos (.inl h)]
    rcases hc with rfl | rfl <;> rw [q] <;> (first | rw [e] | rw [k])
  · have q : stepR R z = some (z :: R) := by
      unfold stepR
      rw [if_neg (by omega), m, if_neg (by simp), if_pos h, h]; rfl
    rcases hc with rfl | rfl <;> rw [q] <;> (first | rw [e] | rw [k])
    · show mt w R = (_ && _)
      rw [k101]; rfl
    · show _ = ((_ || (_ && inV (.str z) numV)) && mt w R)
      rw [k107, k7, Bool.false_or, Bool.true_and]
      cases inV (.str z) numV <;> rfl
  · rcases R with _ | ⟨y, R⟩
    · have q : stepR [] z = none := by unfold stepR; rw [if_pos (.inr (by rw [h]; decide))]
      rcases hc with rfl | rfl <;> rw [q] <;> (first | rw [e] | rw [k]) <;> rfl
    · have q : stepR (y :: R) z = some (Str.ofString "" :: R) := by
        unfold stepR
        rw [if_neg (by rw [h, List.length_cons]; omega), m, if_neg (by simp), if_neg (by rw [h]; decide), h]; rfl
      rcases hc with rfl | rfl <;> rw [q] <;> (first | rw [e] | rw [k])
      · show (_ && mt w R) = (_ && mt w R)
        rw [k101]; rfl
      · show false = ((_ || (_ && inV (.str "") numV)) && mt w R)
        rw [k107, en]; rfl
  · rcases R with _ | ⟨y1, _ | ⟨y2, _ | ⟨y3, R⟩⟩⟩
    · have q : stepR [] z = none := by unfold stepR; rw [if_pos (.inr (by rw [h]; decide))]
      rcases hc with rfl | rfl <;> rw [q] <;> (first | rw [e] | rw [k]) <;> rfl
    · have q : stepR [y1] z = none := by unfold stepR; rw [if_pos (.inr (by rw [h]; exact (by decide : ((1 : Nat) : Int) < 3)))]
      rcases hc with rfl | rfl <;> rw [q] <;> (first | rw [e] | rw [k])
      exact Bool.and_false _
    · have q : stepR [y1, y2] z = none := by unfold stepR; rw [if_pos (.inr (by rw [h]; exact (by decide : ((2 : Nat) : Int) < 3)))]
      rcases hc with rfl | rfl <;> rw [q] <;> (first | rw [e] | rw [k])
      show (_ && (_ && false)) = false
      rw [Bool.and_false, Bool.and_false]
    · have q : stepR (y1 :: y2 :: y3 :: R) z = some (Str.ofString "" :: R) := by
        unfold stepR
        rw [if_neg (by rw [h, List.length_cons, List.length_cons, List.length_cons]; omega), m, if_neg (by simp), if_neg (by rw [h]; decide), h]; rfl
      rcases hc with rfl | rfl <;> rw [q] <;> (first | rw [e] | rw [k])
      · show (_ && (_ && (_ && mt w R))) = (_ && mt w R)
        rw [k101]; rfl
      · show false = ((_ || (_ && inV (.str "") numV)) && mt w R)
        rw [k107, en]; rfl
  · rcases R with _ | ⟨y1, _ | ⟨y2, R⟩⟩
    · have q : stepR [] z = none := by unfold stepR; rw [if_pos (.inr (by rw [h]; decide))]
      rcases hc with rfl | rfl <;> rw [q] <;> (first | rw [e] | rw [k]) <;> rfl
    · have q : stepR [y1] z = none := by unfold stepR; rw [if_pos (.inr (by rw [h]; exact (by decide : ((1 : Nat) : Int) < 2)))]
      rcases hc with rfl | rfl <;> rw [q] <;> (first | rw [e] | rw [k])
      exact Bool.and_false _
    · have q : stepR (y1 :: y2 :: R) z = some (Str.ofString "" :: R) := by
        unfold stepR
        rw [if_neg (by rw [h, List.length_cons, List.length_cons]; omega), m, if_neg (by simp), if_neg (by rw [h]; decide), h]; rfl
      rcases hc with rfl | rfl <;> rw [q] <;> (first | rw [e] | rw [k])
      · show (_ && (_ && mt w R)) = (_ && mt w R)
        rw [k101]; rfl
      · show false = ((_ || (_ && inV (.str "") numV)) && mt w R)
        rw [k107, en]; rfl
  · rcases R with _ | ⟨y1, _ | ⟨y2, R⟩⟩
    · have q : stepR [] z = none := by unfold stepR; rw [if_pos (.inr (by rw [h]; decide))]
      rcases hc with rfl | rfl <;> rw [q] <;> (first | rw [e] | rw [k]) <;> rfl
    · have q : stepR [y1] z = none := by unfold stepR; rw [if_pos (.inr (by rw [h]; exact (by decide : ((1 : Nat) : Int) < 2)))]
      rcases hc with rfl | rfl <;> rw [q] <;> (first | rw [e] | rw [k])
      exact Bool.and_false _
    · rcases e2 : inV (.str y2) numV with _ | _
      · have q : stepR (y1 :: y2 :: R) z = none := by
          unfold stepR
          rw [if_neg (by rw [h, List.length_cons, List.length_cons]; omega), if_pos ⟨m, fun y hy => by
            obtain rfl : y2 = y := by injection hy
            exact e2⟩]
        rcases hc with rfl | rfl <;> rw [q] <;> (first | rw [e] | rw [k])
        show (_ && ((_ || (_ && inV (.str y2) numV)) && mt w R)) = false
        rw [k107, e2]; rfl
      · have q : stepR (y1 :: y2 :: R) z = some (Str.ofString "" :: R) := by
          unfold stepR
          rw [if_neg (by rw [h, List.length_cons, List.length_cons]; omega), if_neg (fun c => by rw [c.2 y2 rfl] at e2; cases e2), if_neg (by rw [h]; decide), h]; rfl
        rcases hc with rfl | rfl <;> rw [q] <;> (first | rw [e] | rw [k])
        · show (_ && ((_ || (_ && inV (.str y2) numV)) && mt w R)) = (_ && mt w R)
          rw [e2, k101, k107, k7]; rfl
        · show false = ((_ || (_ && inV (.str "") numV)) && mt w R)
          rw [k107, en]; rfl
theorem walkP_app : ∀ (zs : List Str) (st : List Str) (z : Str), walkP st (zs ++ [z]) = match walkP st zs with | none => none | some st' => stepP st' z
  | [], st, z => by
    show (match stepP st z with | none => none | some st' => some st') = stepP st z
    cases stepP st z <;> rfl
  | y :: zs, st, z => by
    show (match stepP st y with | none => none | some st' => walkP st' (zs ++ [z])) = match (match stepP st y with | none => none | some st' => walkP st' zs) with | none => none | some st' => stepP st' z
    cases stepP st y with
    | none => rfl
    | some st' => exact walkP_app zs st' z
theorem ops_kinds (z : Str) {c : Nat} (hc : c = 101 ∨ c = 107) {o : List Nat} (h : opsL (.str z) c = some o) : ∀ x ∈ o, x = 101 ∨ x = 107 := by
  rcases kind z with ⟨_, e, k⟩ | ⟨_, _, e, k⟩ | ⟨_, _, e, k⟩ | ⟨_, _, e, k⟩ | ⟨_, _, e, k⟩ | ⟨_, _, e, k⟩ <;> rcases hc with rfl | rfl
  all_goals first | rw [e] at h | rw [k] at h
  all_goals first
    | (cases h; done)
    | (injection h with h; subst h; intro x hx; cases hx; done)
    | (obtain rfl := Option.some.inj h; intro x hx; simp only [List.mem_cons, List.mem_nil_iff, or_false] at hx; first | exact hx.elim | omega)
    | (split at h <;> first | (cases h; done) | (obtain rfl := Option.some.inj h; intro x hx; cases hx))
theorem mt_nil (R : List Str) : mt [] R = decide (R = []) := by cases R <;> rfl
theorem walk_both : ∀ (zs : List Str) (w : List Nat), (∀ x ∈ w, x = 101 ∨ x = 107) → walkL w (zs.map PyData.str) = match walkP [] zs.reverse with | none => false | some st => mt w st.reverse
  | [], w, _ => by cases w <;> rfl
  | z :: r, [], _ => by
    show false = _
    rw [List.reverse_cons, walkP_app]
    cases walkP [] r.reverse with
    | none => rfl
    | some st' =>
      show false = match stepP st' z with | none => false | some st => mt [] st.reverse
      rcases e : stepP st' z with _ | st
      · rfl
      · have q := stepP_R st' z
        rw [e] at q
        have ne : st.reverse ≠ [] := fun z0 => by
          rw [Option.map_some, z0] at q
          unfold stepR at q
          split at q
          · cases q
          · split at q <;> cases q
        show false = mt [] st.reverse
        rw [mt_nil, decide_eq_false ne]
  | z :: r, c :: w, hw => by
    have hc := hw c List.mem_cons_self
    show (match opsL (.str z) c with | none => false | some o => walkL (o ++ w) (r.map PyData.str)) = _
    rw [List.reverse_cons, walkP_app]
    have ih : ∀ o, opsL (.str z) c = some o → walkL (o ++ w) (r.map PyData.str) = match walkP [] r.reverse with | none => false | some st => mt (o ++ w) st.reverse := fun o ho => walk_both r (o ++ w) fun x hx => (List.mem_append.mp hx).elim (ops_kinds z hc ho x) (fun h => hw x (List.mem_cons_of_mem _ h))
    cases e : walkP [] r.reverse with
    | none =>
      rw [e] at ih
      show _ = false
      cases eo : opsL (.str z) c with
      | none => rfl
      | some o => exact ih o eo
    | some st' =>
      rw [e] at ih
      have s := step_iff z c w st'.reverse hc
      rw [← stepP_R] at s
      show _ = match stepP st' z with | none => false | some st => mt (c :: w) st.reverse
      have s2 : (match opsL (.str z) c with | none => false | some o => walkL (o ++ w) (r.map PyData.str)) = (match opsL (.str z) c with | none => false | some o => mt (o ++ w) st'.reverse) := by
        cases eo : opsL (.str z) c with
        | none => rfl
        | some o => exact ih o eo
      rw [s2, s]
      cases stepP st' z <;> rfl
theorem strs_some : ∀ {ds : List PyData} {zs : List Str}, strsOf ds = some zs → ds = zs.map PyData.str
  | [], zs, h => by
    obtain rfl := Option.some.inj h; rfl
  | .str z :: r, zs, h => by
    rcases e : strsOf r with _ | l
    · unfold strsOf at h; rw [e] at h; cases h
    · unfold strsOf at h; rw [e] at h
      obtain rfl := Option.some.inj h
      rw [strs_some e]; rfl
  | .none :: r, zs, h => by cases h
  | .bool _ :: r, zs, h => by cases h
  | .int _ :: r, zs, h => by cases h
  | .list _ :: r, zs, h => by cases h
  | .tuple _ :: r, zs, h => by cases h
  | .dict _ :: r, zs, h => by cases h
theorem walk_bad : ∀ {ds : List PyData} (w : List Nat), strsOf ds = none → walkL w ds = false
  | [], _, h => by cases h
  | _ :: _, [], _ => rfl
  | .str z :: r, c :: w, h => by
    show (match opsL (.str z) c with | none => false | some o => walkL (o ++ w) r) = false
    have e : strsOf r = none := by
      rcases e : strsOf r with _ | l
      · rfl
      · unfold strsOf at h; rw [e] at h; cases h
    cases opsL (.str z) c with
    | none => rfl
    | some o => exact walk_bad _ e
  | .none :: r, c :: w, _ => rfl
  | .bool _ :: r, c :: w, _ => rfl
  | .int _ :: r, c :: w, _ => rfl
  | .list _ :: r, c :: w, _ => rfl
  | .tuple _ :: r, c :: w, _ => rfl
  | .dict _ :: r, c :: w, _ => rfl
theorem mt_one (R : List Str) : mt [101] R = decide (R.length = 1) := by
  rcases R with _ | ⟨y, _ | ⟨y2, R⟩⟩
  · rfl
  · rfl
  · show (_ && false) = decide (R.length + 1 + 1 = 1)
    rw [Bool.and_false, decide_eq_false (by omega)]
theorem walk_pre (ds : List PyData) : walkE "e" ds = preZ (strsOf ds) := by
  rw [walkE_L]
  show walkL [101] ds = _
  rcases e : strsOf ds with _ | zs
  · rw [walk_bad _ e]; rfl
  · rw [strs_some e, walk_both zs [101] (by simp)]
    show _ = finP (walkP [] zs.reverse)
    cases walkP [] zs.reverse with
    | none => rfl
    | some st =>
      show mt [101] st.reverse = decide (st.length = 1)
      rw [mt_one, List.length_reverse]
theorem judge_eq {d : PyData} (_ : okD d = true) : isExpr d = isPre d := by
  cases d with
  | tuple ds =>
    show (_ && walkE "e" ds) = (_ && preZ (strsOf ds))
    rw [walk_pre]
  | none => rfl
  | bool => rfl
  | int => rfl
  | str => rfl
  | list => rfl
  | dict => rfl
end LK

set_option Elab.async false
set_option linter.all false
set_option maxRecDepth 100000
set_option pp.deepTerms true
set_option pp.maxSteps 20000
namespace LK
open PySem PySem.Spec PyProof.Rows L2
local macro_rules | `(tactic| walk_at "rs") => `(tactic| simp only [cxK, cxNK, tCallZ, tAsg, tOp, rI0, rS0, rB0, rI, rU, tUn, rEq, rNe, rIxL, rIxT, rIxS, rSetL, rSlLU, rSlS, rSlU, rCatL, rCatU, rRepL, rIn, tVar, tC, gName, gSub, tIfS, tTest, tB, tAnd, tOr, tNot, tNotV, tAndV, tOrV, tIf, tCall, tCons, tNil, tCB, tDrop, tRet, tRetN, tNext, tLstU, tTupU, tM0, tM1, tPar, tPar3, tAug, ipI, tBM, tBM0, rAppend, rPop, tBreak, tCont, tChain, tSl, tPart, tNoPart, L2.start, List.map, List.length_cons, List.length_nil, List.replicate, List.cons_append, List.nil_append, List.append_nil, List.getElem?_cons_zero, List.getElem?_cons_succ, List.set_cons_zero, List.set_cons_succ, Option.some.injEq, V.int.injEq, V.ref.injEq, V.str.injEq, V.bl.injEq, exists_eq_left', exists_eq_left, exists_and_left, decide_eq_true_eq, List.cons.injEq, and_true, true_and, scal, Bool.not_eq_true', decide_eq_false_iff_not, Nat.zero_add, Nat.reduceAdd, Nat.reduceSub, reduceCtorEq, false_and, exists_false, false_or, or_false, CPow, CMul, CDiv, Int.reduceToNat, ↓reduceIte, wipe, sw, List.nil_append, List.singleton_append])
local macro_rules | `(tactic| walk_at "st") => `(tactic| (refine seq_op fun N hN => ?_; walk_at "rs"))
local macro_rules | `(tactic| walk_at "sd") => `(tactic| first | assumption | decide | omega)
local macro_rules | `(tactic| walk_at "rd") => `(tactic| repeat (first
  | refine ⟨_, SqL.of (by assumption), ?_⟩ | refine ⟨_, SqL.of upd_same, ?_⟩ | refine ⟨_, .inl (SqL.of (by assumption)), ?_⟩ | refine ⟨_, (by assumption : _ = some (HO.lst _)), ?_⟩ | refine ⟨_, upd_same, ?_⟩
  | refine ⟨_, rfl, ?_⟩ | refine And.intro (by walk_at "sd") ?_))

section
variable {P : Program} {w : World} {K : PySem.W.Frag} {mg : Str → Option Value} {base : Heap}
theorem ok_is_value (T : Txt w K mg) : FnOk P w K mg base CX0 3 T.a_is_value T.d_is_value ["value"] (spP1 K fun d => .bl (isVal d)) := by
  refine T.F_is_value.ok sc_is_value (fun vs H Q E h => ?_) (fun cdv A outer s H vs Q E hr h => ?_)
  · obtain ⟨v, d, rfl, _⟩ := h
    rfl
  · obtain ⟨v, d, rfl, hd, k⟩ := h
    replace k : ∀ H', Same H H' → Q (.bl (isVal d)) H' := k
    have hr_is_fraction : Room 2 _ := hr.mono (by decide)
    have G_is_fraction := ok_is_fraction (P := P) (base := base) T
    refine ⟨_, (pss_cons (ps_if (pt_not (pt_val (pe_call G_is_fraction hr_is_fraction (by rfl) T.m_is_fraction T.F_is_fraction.kp T.B_is_fraction .nil pass0 (pa_cons (pv 0) pa_nil)))) (pss_one (ps_ret pe_bl)) pss_nil)
      (pss_cons (ps_asg (pv 0) (pg_tup rfl (pgs_cons (pg_name (i := 1) sc_is_value.nd rfl (Or.inl rfl)) (pgs_cons (pg_name (i := 2) sc_is_value.nd rfl (Or.inl rfl)) pgs_nil))))
      (pss_one (ps_ret (pe_and (pe_cmpR op_le (pv 2) pe_int (nomark _)) (pe_one (pe_cmpR op_le (pe_callB call_abs (by rfl) T.n_abs (by decide +kernel) (pa_cons (pv 1) pa_nil)) (pe_op op_mulW pe_int (pv 2)) (nomark _)))))))), ?_⟩
    refine seq_op fun N hN => ?_
    walk_at "rs"
    refine ⟨v, d, rfl, hd, fun H1 s1 => ⟨_, rfl, ite2 (fun e => ?_) (fun e => hN _ _ ?_)⟩⟩
    · have q := k H1 s1
      have e2 : isVal d = false := by
        unfold isVal
        split
        · rw [e]; rfl
        · rfl
      rw [e2] at q; exact q
    · clear hN N
      replace k := fun H' (s' : Same H1 H') => k H' (Same.trans s1 s')
      obtain ⟨a, p, q, rfl, rfl, hs, q1, hg⟩ := frac_dp (dp_same s1 hd) (by simpa using e)
      have e' : isFrac (.tuple [.int p, .int q]) = true := by simpa using e
      have kk := k H1 (Same.refl _)
      have ev : isVal (.tuple [.int p, .int q]) = (decide (q ≤ 9999) && decide ((p.natAbs : Int) ≤ 99 * q)) := by
        show (isFrac _ && _) = _
        rw [e', Bool.true_and]
      rw [ev] at kk
      refine seq_op fun N hN => ?_
      walk_at "rs"
      refine ⟨_, _, rfl, hs, rfl, ?_⟩
      unfold gCons gNil
      walk_at "rs"
      refine ⟨_, _, ⟨rfl, rfl⟩, _, _, rfl, rfl, hN _ _ ?_⟩
      clear hN N
      walk_at "rs"
      refine ite2 (fun h1 => ?_) (fun h1 => ?_)
      · refine ⟨wide_mul (a := 8) (b := 8000) (by decide) (pow_le (a := 14) (by omega) (by decide)) (by decide) (by decide) (by decide), ?_⟩
        rw [abs_if]
        rw [decide_eq_true h1, Bool.true_and] at kk
        exact kk
      · rw [decide_eq_false h1, Bool.false_and] at kk
        exact kk
def sp_vt (K : PySem.W.Frag) (C : Addr) : Sp := fun vs H Q E => ∃ v d, vs = [v] ∧ Dp K H v d ∧ okD d = true ∧ (∀ z, shortZ d = some z → ∀ H', Same H H' → Q (.str z) H') ∧
  (shortZ d = none → ∀ x H', Same H H' → H x = none → H' x = some (.xd (badF v)) → E (.ref C) (some x) H')
theorem log60 {i : Int} (h : i.natAbs < 10 ^ 60) : i.natAbs.log2 < 1920 := log_small h
theorem shortZ_none {d : PyData} (e : isFrac d = false) : shortZ d = none := by
  unfold shortZ
  split
  · rw [if_neg]
    rintro ⟨h, _⟩
    rw [e] at h; cases h
  · rfl
theorem ok_value_text (T : Txt w K mg) : FnOk P w K mg base (L2.CX P w) 4 T.a_value_text T.d_value_text ["value"] (sp_vt K T.C_BadValue) := by
  refine T.F_value_text.okX sc_value_text (fun vs H Q E h => ?_) (fun cdv A outer s H vs Q E hr h => ?_)
  · obtain ⟨v, d, rfl, _⟩ := h
    rfl
  · obtain ⟨v, d, rfl, hd, hok, k, kE⟩ := h
    have hr_is_fraction : Room 2 _ := hr.mono (by decide)
    have G_is_fraction := ok_is_fraction (P := P) (base := base) T
    have hr_BadValue : Room 2 _ := hr.mono (by decide)
    have G_BadValue := ok_BadValue (P := P) (base := base) T
    refine ⟨_, (pss_cons (ps_if (pt_not (pt_val (pe_call G_is_fraction hr_is_fraction (by rfl) T.m_is_fraction T.F_is_fraction.kp T.B_is_fraction .nil pass0 (pa_cons (pv 0) pa_nil)))) (pss_one (ps_raise rfl (takes_of rfl rfl rfl rfl) (pmk_oex T.X_BadValue T.i_BadValue T.t_BadValue G_BadValue hr_BadValue T.B_BadValue__init .nil pass0 (by rfl) T.m_BadValue (pa_cons (pv 0) pa_nil)))) pss_nil)
      (pss_cons (ps_asg (pv 0) (pg_tup rfl (pgs_cons (pg_name (i := 1) sc_value_text.nd rfl (Or.inl rfl)) (pgs_cons (pg_name (i := 2) sc_value_text.nd rfl (Or.inl rfl)) pgs_nil))))
      (pss_cons (ps_if (PW.pt (pw_or (pt_cmpR op_ge (pe_callB call_abs (by rfl) T.n_abs (by decide +kernel) (pa_cons (pv 1) pa_nil)) (pe_op op_pow pe_int pe_int) (nomark _)) (pw_or1 (pt_cmpR op_ge (pv 2) (pe_op op_pow pe_int pe_int) (nomark _))))) (pss_one (ps_raise rfl (takes_of rfl rfl rfl rfl) (pmk_oex T.X_BadValue T.i_BadValue T.t_BadValue G_BadValue hr_BadValue T.B_BadValue__init .nil pass0 (by rfl) T.m_BadValue (pa_cons (pv 0) pa_nil)))) pss_nil)
      (pss_one (ps_ret (pe_ifExp (pt_cmpR op_eqI (pv 2) pe_int (nomark _)) (pe_callTy call_str_int (by rfl) T.n_str (by decide +kernel) (pa_cons (pv 1) pa_nil)) (pe_joined (.cons (pe_fmt (pv 1)) (.cons pe_str (.cons (pe_fmt (pv 2)) .nil)))))))))), ?_⟩
    refine seq_op fun N hN => ?_
    walk_at "rs"
    refine ⟨v, d, rfl, hd, fun H1 s1 => ⟨_, rfl, ite2 (fun e => ?_) (fun e => hN _ _ ?_)⟩⟩
    · exact mk_badT (fun K h => by walk_at "rs"; exact h) fun x H2 s2 hx h2 => kE (shortZ_none e) x H2 (Same.trans s1 s2) (Same.dom s1 x hx) h2
    · clear hN N
      replace k := fun z e H' (s' : Same H1 H') => k z e H' (Same.trans s1 s')
      replace kE := fun e x H' (s' : Same H1 H') (hx : H1 x = none) h => kE e x H' (Same.trans s1 s') (Same.dom s1 x hx) h
      have e' : isFrac d = true := by simpa using e
      obtain ⟨a, p, q, rfl, rfl, hs, q1, hg⟩ := frac_dp (dp_same s1 hd) e'
      refine seq_op fun N hN => ?_
      walk_at "rs"
      refine ⟨_, _, rfl, hs, rfl, ?_⟩
      unfold gCons gNil
      walk_at "rs"
      refine ⟨_, _, ⟨rfl, rfl⟩, _, _, rfl, rfl, hN _ _ ?_⟩
      clear hN N
      refine seq_op fun N hN => ?_
      walk_at "rs"
      rw [abs_if]
      refine ⟨by decide, ?_⟩
      have bad : ¬ (p.natAbs < 10 ^ 60 ∧ q.natAbs < 10 ^ 60) → shortZ (.tuple [.int p, .int q]) = none := fun h => by
        show (if _ then _ else _) = none
        rw [if_neg]
        rintro ⟨_, h2, h3⟩
        exact h ⟨h2, h3⟩
      refine ite2 (fun h1 => ?_) (fun h1 => ?_)
      · exact mk_badT (fun K h => by walk_at "rs"; exact h) fun x H2 s2 hx h2 => kE (bad (by omega)) x H2 s2 hx h2
      refine ⟨by decide, ite2 (fun h2 => ?_) (fun h2 => hN _ _ ?_)⟩
      · exact mk_badT (fun K h => by walk_at "rs"; exact h) fun x H2 s2 hx h2 => kE (bad (by omega)) x H2 s2 hx h2
      clear hN N bad kE
      have b1 : p.natAbs < 10 ^ 60 := by omega
      have b2 : q.natAbs < 10 ^ 60 := by omega
      have es : shortZ (.tuple [.int p, .int q]) = some (txtF p q) := by
        show (if _ then _ else _) = _
        rw [if_pos ⟨e', b1, b2⟩]
      have kk := k _ es H1 (Same.refl _)
      unfold txtF at kk
      simp only [tJs, tFmt]
      walk_at "rs"
      refine ite2 (fun c => ⟨log60 b1, ?_⟩) (fun c => ?_)
      · rw [if_pos c] at kk; exact kk
      · rw [if_neg c] at kk
        rw [empty_append]
        have l1 := strI_len b1
        have l2 := strI_len b2
        have l0 : (Str.ofString "/").length = 1 := by decide +kernel
        change (Str.ofString (toString p)).length ≤ 61 at l1
        change (Str.ofString (toString q)).length ≤ 61 at l2
        have big : 200 ≤ sizeLine := by decide
        refine ⟨log60 b1, by omega, ?_, log60 b2, ?_, kk⟩
        · rw [str_append_len]; omega
        · rw [str_append_len, str_append_len]; omega
end
end LK

set_option Elab.async false
set_option linter.all false
set_option maxRecDepth 100000
set_option pp.deepTerms true
set_option pp.maxSteps 20000
namespace LK
open PySem PySem.Spec PyProof.Rows L2
local macro_rules | `(tactic| walk_at "rs") => `(tactic| simp only [cxK, cxNK, tCallZ, tAsg, tOp, rI0, rS0, rB0, rI, rU, tUn, rEq, rNe, rIxL, rIxT, rIxS, rSetL, rSlLU, rSlS, rSlU, rCatL, rCatU, rRepL, rIn, tVar, tC, gName, gSub, tIfS, tTest, tB, tAnd, tOr, tNot, tNotV, tAndV, tOrV, tIf, tCall, tCons, tNil, tCB, tDrop, tRet, tRetN, tNext, tLstU, tTupU, tM0, tM1, tPar, tPar3, tAug, ipI, tBM, tBM0, rAppend, rPop, tBreak, tCont, tChain, tSl, tPart, tNoPart, L2.start, List.map, List.length_cons, List.length_nil, List.replicate, List.cons_append, List.nil_append, List.append_nil, List.getElem?_cons_zero, List.getElem?_cons_succ, List.set_cons_zero, List.set_cons_succ, Option.some.injEq, V.int.injEq, V.ref.injEq, V.str.injEq, V.bl.injEq, exists_eq_left', exists_eq_left, exists_and_left, decide_eq_true_eq, List.cons.injEq, and_true, true_and, scal, Bool.not_eq_true', decide_eq_false_iff_not, Nat.zero_add, Nat.reduceAdd, Nat.reduceSub, reduceCtorEq, false_and, exists_false, false_or, or_false, CPow, CMul, CDiv, Int.reduceToNat, ↓reduceIte, wipe, sw, List.nil_append, List.singleton_append])
local macro_rules | `(tactic| walk_at "st") => `(tactic| (refine seq_op fun N hN => ?_; walk_at "rs"))
local macro_rules | `(tactic| walk_at "sd") => `(tactic| first | assumption | decide | omega)
local macro_rules | `(tactic| walk_at "rd") => `(tactic| repeat (first
  | refine ⟨_, SqL.of (by assumption), ?_⟩ | refine ⟨_, SqL.of upd_same, ?_⟩ | refine ⟨_, .inl (SqL.of (by assumption)), ?_⟩ | refine ⟨_, (by assumption : _ = some (HO.lst _)), ?_⟩ | refine ⟨_, upd_same, ?_⟩
  | refine ⟨_, rfl, ?_⟩ | refine And.intro (by walk_at "sd") ?_))

def optD : Option Int → PyData
  | none => .none
  | some i => .int i
theorem dp_opt {K : PySem.W.Frag} {H : Hp} (o : Option Int) : Dp K H (optI o) (optD o) := by
  cases o with
  | none => exact .non
  | some i => exact .int i
theorem part_len {z : Str} : (Txt.partition z "/").1.length ≤ z.length ∧ (Txt.partition z "/").2.1.length ≤ 1 ∧ (Txt.partition z "/").2.2.length ≤ z.length := by
  have l0 : Str.empty.length = 0 := rfl
  have l1 : (Str.ofString "/").length = 1 := by decide +kernel
  have sub : ∀ i j, (Builtin.Str.strSub z i j).length ≤ z.length := fun i j => by
    rw [TL.len_tl, TL.tl_strSub, List.length_take, List.length_drop, TL.len_tl z]
    omega
  rcases PyProof.Rows.partition_whole z "/" with ⟨e, _⟩ | ⟨i, e, _, _⟩
  · rw [e]
    exact ⟨Nat.le_refl _, by rw [l0]; omega, by rw [l0]; omega⟩
  · rw [e]
    exact ⟨sub _ _, by show (Str.ofString "/").length ≤ 1; omega, sub _ _⟩
theorem readZ_none {z : Str} (h : isFrac (.tuple [optD (readNum (Txt.partition z "/").1), optD (readQ (Txt.partition z "/"))]) = false) : readZ z = none := by
  unfold readZ
  split
  · rename_i p q hp hq
    rw [hp, hq] at h
    rw [if_neg]
    rintro ⟨h2, _⟩
    have h3 : isFrac (.tuple [.int p, .int q]) = false := h
    rw [h3] at h2; cases h2
  · rfl
theorem readQ_lt {r : Str × Str × Str} {q : Int} (h : readQ r = some q) : q.natAbs < 10 ^ 60 := by
  unfold readQ at h
  split at h
  · cases h; decide
  · exact (readNum_iff.mp h).2
section
variable {P : Program} {w : World} {K : PySem.W.Frag} {mg : Str → Option Value} {base : Heap}
theorem ok_read_value (T : Txt w K mg) : FnOk P w K mg base CX0 5 T.a_read_value T.d_read_value ["text"] (sp_read K) := by
  refine T.F_read_value.ok sc_read_value (fun vs H Q E h => ?_) (fun cdv A outer s H vs Q E hr h => ?_)
  · obtain ⟨v, d, rfl, _⟩ := h
    rfl
  · obtain ⟨v, d, rfl, hd, hok, k0, k1⟩ := h
    have hr_is_fraction : Room 2 _ := hr.mono (by decide)
    have G_is_fraction := ok_is_fraction (P := P) (base := base) T
    have hr_read_number : Room 1 _ := hr.mono (by decide)
    have G_read_number := ok_read_number (P := P) (base := base) T
    have hr_value_text : Room 4 _ := hr.mono (by decide)
    have G_value_text := ok_value_text (P := P) (base := base) T
    refine ⟨_, (pss_cons (ps_if (pt_not (pt_val (pe_callB (call_isiDK (K := K) rfl) (by rfl) T.n_isinstance (by decide +kernel) (pa_cons (pv 0) (pa_cons (pe_bltn (v := .ty "str") (u := .type "str") (by rfl) T.n_str (by decide +kernel) rfl) pa_nil))))) (pss_one (ps_ret pe_non)) pss_nil)
      (pss_cons (ps_asg (pe_partition (pv 0) pe_str) (pg_tup rfl (pgs_cons (pg_name (i := 1) sc_read_value.nd rfl (Or.inl rfl)) (pgs_cons (pg_name (i := 2) sc_read_value.nd rfl (Or.inl rfl)) (pgs_cons (pg_name (i := 3) sc_read_value.nd rfl (Or.inl rfl)) pgs_nil)))))
      (pss_cons (ps_set (i := 4) sc_read_value.nd rfl (Or.inl rfl) (pe_tupU (pa_cons (pe_call G_read_number hr_read_number (by rfl) T.m_read_number T.F_read_number.kp T.B_read_number .nil pass0 (pa_cons (pv 1) pa_nil)) (pa_cons (pe_ifExp (pt_truth (pv 2) (by intro _; rfl)) (pe_call G_read_number hr_read_number (by rfl) T.m_read_number T.F_read_number.kp T.B_read_number .nil pass0 (pa_cons (pv 3) pa_nil)) pe_int) pa_nil))))
      (pss_cons (ps_if (PW.pt (pw_or (pt_not (pt_val (pe_call G_is_fraction hr_is_fraction (by rfl) T.m_is_fraction T.F_is_fraction.kp T.B_is_fraction .nil pass0 (pa_cons (pv 4) pa_nil)))) (pw_or1 (pt_cmpR op_neS (pe_call G_value_text hr_value_text (by rfl) T.m_value_text T.F_value_text.kp T.B_value_text .nil passL (pa_cons (pv 4) pa_nil)) (pv 0) (nomark _))))) (pss_one (ps_ret pe_non)) pss_nil)
      (pss_one (ps_ret (pv 4))))))), ?_⟩
    refine seq_op fun N hN => ?_
    walk_at "rs"
    refine ⟨v, "str", ⟨rfl, rfl⟩, d, hd, by simp, ite2 (fun e => ?_) (fun e => hN _ _ ?_)⟩
    · refine k0 ?_ H (Same.refl _)
      cases d <;> first | rfl | simp [isTy] at e
    clear hN N
    obtain ⟨z, rfl⟩ : ∃ z, d = .str z := by cases d <;> first | exact ⟨_, rfl⟩ | exact absurd rfl e
    cases hd
    clear e
    replace k0 : readZ z = none → ∀ H', Same H H' → Q .non H' := k0
    replace k1 : ∀ p q, readZ z = some (p, q) → ∀ t H', Same H H' → H t = none → H' t = some (.tup [.int p, .int q]) → Q (.ref t) H' := k1
    have hz : z.length ≤ 100000 := of_decide_eq_true hok
    obtain ⟨l1, l2, l3⟩ := part_len (z := z)
    refine seq_op fun N hN => ?_
    simp only [tM1]
    walk_at "rs"
    refine ⟨⟨_, rfl⟩, by decide +kernel, Nat.le_trans hz (by decide), fun t0 ht0 => ?_⟩
    have h1 : L2.upd H t0 (HO.tup [V.str (Txt.partition z (Str.ofString "/")).1, V.str (Txt.partition z (Str.ofString "/")).2.1, V.str (Txt.partition z (Str.ofString "/")).2.2]) t0 = some _ := upd_same
    have s1 := same_upd (o := (HO.tup [V.str (Txt.partition z (Str.ofString "/")).1, V.str (Txt.partition z (Str.ofString "/")).2.1, V.str (Txt.partition z (Str.ofString "/")).2.2])) ht0
    revert h1 s1
    generalize L2.upd H t0 (HO.tup [V.str (Txt.partition z (Str.ofString "/")).1, V.str (Txt.partition z (Str.ofString "/")).2.1, V.str (Txt.partition z (Str.ofString "/")).2.2]) = H1
    intro h1 s1
    refine ⟨_, _, rfl, .inl (.inl h1), rfl, ?_⟩
    unfold gCons gNil
    walk_at "rs"
    refine ⟨_, _, ⟨rfl, rfl⟩, _, _, rfl, ?_⟩
    refine ⟨_, _, rfl, rfl, hN _ _ ?_⟩
    clear hN N h1
    replace k0 := fun e H' (s' : Same H1 H') => k0 e H' (Same.trans s1 s')
    replace k1 := fun p q e t H' (s' : Same H1 H') (ht : H1 t = none) h => k1 p q e t H' (Same.trans s1 s') (Same.dom s1 t ht) h
    clear s1 ht0
    refine cut_seq (fun σ H2 => ∃ t x y u, σ = [some (.str z), x, y, u, some (.ref t)] ∧ Same H1 H2 ∧ H1 t = none ∧ H2 t = some (.tup [optI (readNum (Txt.partition z "/").1), optI (readQ (Txt.partition z "/"))])) (fun N hN => ?_) ?_
    · walk_at "rs"
      refine ⟨_, rfl, Nat.le_trans l1 hz, fun H2 s2 => ?_⟩
      have fin : ∀ v H3, v = optI (readQ (Txt.partition z "/")) → Same H2 H3 → 2 ≤ sizeLine ∧ ∀ (p : Addr) (H4 : Hp), Same H3 H4 → H3 p = none → H4 p = some (HO.tup [optI (readNum (Txt.partition z (Str.ofString "/")).fst), v]) → N [some (V.str z), some (V.str (Txt.partition z (Str.ofString "/")).fst), some (V.str (Txt.partition z (Str.ofString "/")).2.1), some (V.str (Txt.partition z (Str.ofString "/")).2.2), some (V.ref p)] H4 := by
        rintro v H3 rfl s3
        exact ⟨by decide, fun p H4 s4 h04 h4 => hN _ _ ⟨p, _, _, _, rfl, Same.trans s2 (Same.trans s3 s4), Same.dom s2 p (Same.dom s3 p h04), h4⟩⟩
      refine ⟨_, ⟨Nat.le_trans l2 (by decide), rfl⟩, ite2 (fun e => ?_) (fun e => ?_)⟩
      · refine ⟨_, rfl, Nat.le_trans l3 hz, fun H3 s3 => fin _ H3 ?_ s3⟩
        unfold readQ
        rw [if_neg (by simpa using e)]
      · refine fin _ H2 ?_ (Same.refl _)
        unfold readQ
        rw [if_pos (by simpa using e)]
        rfl
    · rintro σ H2 ⟨t, x, y, u, rfl, s2, n2, h2⟩
      have hd2 : Dp K H2 (.ref t) (.tuple [optD (readNum (Txt.partition z "/").1), optD (readQ (Txt.partition z "/"))]) := .tup (.inl (.inl h2)) (.cons (dp_opt _) (.cons (dp_opt _) .nil))
      refine seq_op fun N hN => ?_
      walk_at "rs"
      refine ⟨_, _, rfl, hd2, fun H3 s3 => ⟨_, rfl, ite2 (fun e => k0 (readZ_none e) H3 (Same.trans s2 s3)) (fun e => ?_)⟩⟩
      cases ep : readNum (Txt.partition z "/").1 with
      | none => rw [ep] at e; exact absurd rfl e
      | some p =>
        cases eq : readQ (Txt.partition z "/") with
        | none => rw [ep, eq] at e; exact absurd rfl e
        | some q =>
          rw [ep, eq] at e hd2 h2
          replace e : isFrac (.tuple [.int p, .int q]) = true := by simpa [optD] using e
          have b1 := (readNum_iff.mp ep).2
          have b2 := readQ_lt eq
          have es : shortZ (.tuple [.int p, .int q]) = some (txtF p q) := by
            show (if _ then _ else _) = _
            rw [if_pos ⟨e, b1, b2⟩]
          have ez : readZ z = if isFrac (.tuple [.int p, .int q]) = true ∧ txtF p q = z then some (p, q) else none := by
            unfold readZ
            rw [ep, eq]
          have t60 : 10 ^ 60 ≤ 2 ^ 4000 := Nat.le_trans (show 10 ^ 60 ≤ 2 ^ 200 by decide) (Nat.pow_le_pow_right (by decide) (by decide))
          refine ⟨_, _, rfl, dp_same s3 hd2, okD_of2 (Nat.lt_of_lt_of_le b1 t60) (Nat.lt_of_lt_of_le b2 t60), fun z' e' H4 s4 => ?_, fun en => ?_⟩
          · replace e' : shortZ (.tuple [.int p, .int q]) = some z' := e'
            rw [es] at e'
            cases e'
            refine ⟨_, rfl, ite2 (fun c => ?_) (fun c => hN _ _ ?_)⟩
            · exact k0 (by rw [ez, if_neg]; rintro ⟨_, h⟩; exact c h) H4 (Same.trans s2 (Same.trans s3 s4))
            · clear hN N
              walk_at "rs"
              have c' : txtF p q = z := by simpa using c
              exact k1 p q (by rw [ez, if_pos ⟨e, c'⟩]) t H4 (Same.trans s2 (Same.trans s3 s4)) n2 (s4 _ _ (s3 _ _ h2))
          · exfalso
            have en2 : shortZ (.tuple [.int p, .int q]) = none := en
            rw [es] at en2; cases en2
end
end LK

set_option Elab.async false
set_option linter.all false
set_option maxRecDepth 100000
set_option pp.deepTerms true
set_option pp.maxSteps 20000
namespace LK
open PySem PySem.Spec PyProof.Rows L2
local macro_rules | `(tactic| walk_at "rs") => `(tactic| simp only [cxK, cxNK, tCallZ, tAsg, tOp, rI0, rS0, rB0, rI, rU, tUn, rEq, rNe, rIxL, rIxT, rIxS, rSetL, rSlLU, rSlS, rSlU, rCatL, rCatU, rRepL, rIn, tVar, tC, gName, gSub, tIfS, tTest, tB, tAnd, tOr, tNot, tNotV, tAndV, tOrV, tIf, tCall, tCons, tNil, tCB, tDrop, tRet, tRetN, tNext, tLstU, tTupU, tM0, tM1, tPar, tPar3, tAug, ipI, tBM, tBM0, rAppend, rPop, tBreak, tCont, tChain, tSl, tPart, tNoPart, L2.start, List.map, List.length_cons, List.length_nil, List.replicate, List.cons_append, List.nil_append, List.append_nil, List.getElem?_cons_zero, List.getElem?_cons_succ, List.set_cons_zero, List.set_cons_succ, Option.some.injEq, V.int.injEq, V.ref.injEq, V.str.injEq, V.bl.injEq, exists_eq_left', exists_eq_left, exists_and_left, decide_eq_true_eq, List.cons.injEq, and_true, true_and, scal, Bool.not_eq_true', decide_eq_false_iff_not, Nat.zero_add, Nat.reduceAdd, Nat.reduceSub, reduceCtorEq, false_and, exists_false, false_or, or_false, CPow, CMul, CDiv, Int.reduceToNat, ↓reduceIte, wipe, sw, List.nil_append, List.singleton_append])
local macro_rules | `(tactic| walk_at "st") => `(tactic| (refine seq_op fun N hN => ?_; walk_at "rs"))
local macro_rules | `(tactic| walk_at "sd") => `(tactic| first | assumption | decide | omega)
local macro_rules | `(tactic| walk_at "rd") => `(tactic| repeat (first
  | refine ⟨_, SqL.of (by assumption), ?_⟩ | refine ⟨_, SqL.of upd_same, ?_⟩ | refine ⟨_, .inl (SqL.of (by assumption)), ?_⟩ | refine ⟨_, (by assumption : _ = some (HO.lst _)), ?_⟩ | refine ⟨_, upd_same, ?_⟩
  | refine ⟨_, rfl, ?_⟩ | refine And.intro (by walk_at "sd") ?_))

def isPairD : PyData → Bool
  | .tuple [a, b] => isVal a && isVal b
  | _ => false
def isRelD : PyData → Bool
  | .str z => inV (.str z) relV
  | .tuple ds => ds.all isPairD
  | _ => false
def areNamesD : PyData → Bool
  | .tuple ds => decide (ds.length ≤ 12) && ds.all isNameD
  | _ => false
def areValsD : PyData → Bool
  | .tuple ds => decide (ds.length ≤ 400) && ds.all isVal
  | _ => false
def askedD : List PyData → Bool
  | [a, r, c] => isNameD a && (isRelD r && isNameD c)
  | _ => false
def nineD : PyData → Bool
  | .int i => decide (-9 ≤ i) && decide (i ≤ 9)
  | _ => false
def beK : List PyData → Bool
  | [e] => isExpr e
  | _ => false
def tabK : List PyData → Bool
  | [a, b] => areNamesD a && areValsD b
  | _ => false
def lastK : List PyData → Bool
  | [a, b, r, c, n] => isNameD a && (askedD [b, r, c] && nineD n)
  | _ => false
def lineK (z : Str) (ps : List PyData) : Bool := if z = "be" then beK ps else if z = "table" then tabK ps else if z = "count" then askedD ps else lastK ps
def isLineD : PyData → Bool
  | .tuple (k :: own :: ps) => decide (1 ≤ ps.length) && (isOwnD own && (match k with | .str z => inV (.str z) kindV && lineK z ps | _ => false))
  | _ => false
end LK

set_option Elab.async false
set_option linter.all false
set_option maxRecDepth 100000
set_option pp.deepTerms true
set_option pp.maxSteps 20000
namespace LK
open PySem PySem.Spec PyProof.Rows L2
local macro_rules | `(tactic| walk_at "rs") => `(tactic| simp only [cxK, cxNK, tCallZ, tAsg, tOp, rI0, rS0, rB0, rI, rU, tUn, rEq, rNe, rIxL, rIxT, rIxS, rSetL, rSlLU, rSlS, rSlU, rCatL, rCatU, rRepL, rIn, tVar, tC, gName, gSub, tIfS, tTest, tB, tAnd, tOr, tNot, tNotV, tAndV, tOrV, tIf, tCall, tCons, tNil, tCB, tDrop, tRet, tRetN, tNext, tLstU, tTupU, tM0, tM1, tPar, tPar3, tAug, ipI, tBM, tBM0, rAppend, rPop, tBreak, tCont, tChain, tSl, tPart, tNoPart, L2.start, List.map, List.length_cons, List.length_nil, List.replicate, List.cons_append, List.nil_append, List.append_nil, List.getElem?_cons_zero, List.getElem?_cons_succ, List.set_cons_zero, List.set_cons_succ, Option.some.injEq, V.int.injEq, V.ref.injEq, V.str.injEq, V.bl.injEq, exists_eq_left', exists_eq_left, exists_and_left, decide_eq_true_eq, List.cons.injEq, and_true, true_and, scal, Bool.not_eq_true', decide_eq_false_iff_not, Nat.zero_add, Nat.reduceAdd, Nat.reduceSub, reduceCtorEq, false_and, exists_false, false_or, or_false, CPow, CMul, CDiv, Int.reduceToNat, ↓reduceIte, wipe, sw, List.nil_append, List.singleton_append])
local macro_rules | `(tactic| walk_at "st") => `(tactic| (refine seq_op fun N hN => ?_; walk_at "rs"))
local macro_rules | `(tactic| walk_at "sd") => `(tactic| first | assumption | decide | omega)
local macro_rules | `(tactic| walk_at "rd") => `(tactic| repeat (first
  | refine ⟨_, SqL.of (by assumption), ?_⟩ | refine ⟨_, SqL.of upd_same, ?_⟩ | refine ⟨_, .inl (SqL.of (by assumption)), ?_⟩ | refine ⟨_, (by assumption : _ = some (HO.lst _)), ?_⟩ | refine ⟨_, upd_same, ?_⟩
  | refine ⟨_, rfl, ?_⟩ | refine And.intro (by walk_at "sd") ?_))

def kindOk : PyData → Bool
  | .str z => inV (.str z) kindV
  | _ => false
theorem dpa_at {K : PySem.W.Frag} {H : Hp} {xs : List V} {ds : List PyData} (h : DpAll K H xs ds) {i : Nat} {x : V} (e : xs[i]? = some x) : ∃ d, ds[i]? = some d ∧ Dp K H x d := dpa_get4 h e
/-- [f(x) for x in t], t a tuple of data -/
theorem lc_data {K : PySem.W.Frag} {a : Addr} {xs : List V} {ds : List PyData} {te : TE} {i : Nat} {σ : L2.St} {H1 : Hp} {D : Addr} {Qd : Hp → Prop} (f : PyData → V) (ha : SqT K H1 a xs) (hx : DpAll K H1 xs ds) (hD : H1 D = none) (hn : ds.length ≤ 1000000)
    (hs : ∀ x d H, d ∈ ds → Dp K H x d → Same H1 H → ∀ Q2 : V → Hp → Prop, (∀ H3, Same H H3 → Q2 (f d) H3) → te ((wipe σ [i]).set i (some x)) H Q2)
    (hq : ∀ H', Same H1 H' → H' D = some (.lst (ds.map f)) → Qd H') :
    ∃ W : Nat → Nat → Hp → Prop, (∃ m, W 0 m (L2.upd H1 D (.lst []))) ∧ ∀ i' m H, W i' m H →
      ((Itt K a).stop i' H ∧ Qd H) ∨ ((Itt K a).go i' H ∧ ∃ Nx : Hp → Prop, (∀ H', Nx H' → ∃ m', m' < m ∧ W (i' + 1) m' H') ∧ ∀ x H', (Itt K a).yld i' H x H' → gName i x (wipe σ [i]) H' fun σ2 H2 => wipe σ2 [i] = wipe σ [i] ∧ tYes σ2 H2 fun b H3 =>
        if b = true then te σ2 H3 fun y H4 => ∃ acc, H4 D = some (.lst acc) ∧ acc.length < sizeLine ∧ Nx (L2.upd H4 D (.lst (acc ++ [y]))) else Nx H3) := by
  have len := dpa_len4 hx
  refine lc_pure (walk_tup (K := K) (a := a) (xs := xs)) hD (by omega) (fun k => f (ds.getD k .none)) (fun H s => Same.seqT s ha) (fun k x H H' hk s1 y => ?_) (fun x σ0 H0 Q0 Q1 h q => h _ _ q) (fun H' s h => hq H' s ?_)
  · obtain ⟨rfl, e⟩ := y
    obtain ⟨d, e2, hd⟩ := dpa_at hx e
    refine ⟨Same.refl _, ?_, fun Q2 h2 => hs x d H' (List.mem_of_getElem? e2) (dp_same s1 hd) s1 Q2 fun H3 s3 => ?_⟩
    · show ((σ.set i none).set i (some x)).set i none = σ.set i none
      rw [List.set_set, List.set_set]
    · have := h2 H3 s3
      rw [List.getD_eq_getElem?_getD, e2] at this
      exact this
  · rw [h]
    congr 2
    refine List.ext_getElem? fun k => ?_
    rw [List.getElem?_map, List.getElem?_map]
    by_cases hk : k < ds.length
    · rw [List.getElem?_range (by omega), List.getElem?_eq_getElem hk]
      simp [List.getD_eq_getElem?_getD, List.getElem?_eq_getElem hk]
    · rw [List.getElem?_eq_none (by simpa using (by omega : xs.length ≤ k)), List.getElem?_eq_none (by omega)]
      rfl
/-- a tuple of data, taken apart -/
theorem dp_tup {K : PySem.W.Frag} {H : Hp} {v : V} {ds : List PyData} (h : Dp K H v (.tuple ds)) : ∃ a xs, v = .ref a ∧ SqT K H a xs ∧ DpAll K H xs ds := by
  cases h with
  | tup h1 h2 => exact ⟨_, _, rfl, h1, h2⟩
theorem not_tup {d : PyData} (h : isTy "tuple" d = false) (ds : List PyData) : d ≠ .tuple ds := fun e => by rw [e] at h; cases h
theorem is_tup {d : PyData} (h : isTy "tuple" d = true) : ∃ ds, d = .tuple ds := by cases d <;> first | exact ⟨_, rfl⟩ | cases h
theorem is_str {d : PyData} (h : isTy "str" d = true) : ∃ z, d = .str z := by cases d <;> first | exact ⟨_, rfl⟩ | cases h
theorem pair_not {d : PyData} (h : isTy "tuple" d = false) : isPairD d = false := by cases d <;> first | rfl | cases h
theorem pair_len {ds : List PyData} (h : ds.length ≠ 2) : isPairD (.tuple ds) = false := by
  rcases ds with _ | ⟨x, _ | ⟨y, _ | ⟨z, r⟩⟩⟩ <;> first | rfl | exact absurd rfl h
theorem two_of {ds : List PyData} (h : ds.length = 2) : ∃ x y, ds = [x, y] := match ds, h with | [x, y], _ => ⟨x, y, rfl⟩
theorem dpa_two {K : PySem.W.Frag} {H : Hp} {xs : List V} {x y : PyData} (h : DpAll K H xs [x, y]) : ∃ vx vy, xs = [vx, vy] ∧ Dp K H vx x ∧ Dp K H vy y := by
  cases h with
  | cons h1 h => cases h with
    | cons h2 h => cases h; exact ⟨_, _, rfl, h1, h2⟩
theorem three_of {ds : List PyData} (h : ds.length = 3) : ∃ x y z, ds = [x, y, z] := match ds, h with | [x, y, z], _ => ⟨x, y, z, rfl⟩
theorem dpa_three {K : PySem.W.Frag} {H : Hp} {xs : List V} {x y z : PyData} (h : DpAll K H xs [x, y, z]) : ∃ vx vy vz, xs = [vx, vy, vz] ∧ Dp K H vx x ∧ Dp K H vy y ∧ Dp K H vz z := by
  cases h with
  | cons h1 h =>
    obtain ⟨vy, vz, rfl, h2, h3⟩ := dpa_two h
    exact ⟨_, _, _, rfl, h1, h2, h3⟩
theorem asked_len {ds : List PyData} (h : ds.length ≠ 3) : askedD ds = false := by
  rcases ds with _ | ⟨x, _ | ⟨y, _ | ⟨z, _ | ⟨u, r⟩⟩⟩⟩ <;> first | rfl | exact absurd rfl h
theorem line_len {ds : List PyData} (h : ds.length < 3) : isLineD (.tuple ds) = false := by
  rcases ds with _ | ⟨x, _ | ⟨y, _ | ⟨z, r⟩⟩⟩
  · rfl
  · rfl
  · simp [isLineD]
  · simp at h; omega
theorem line_own {kd own p : PyData} {r : List PyData} (h : isOwnD own = false) : isLineD (.tuple (kd :: own :: p :: r)) = false := by
  show (decide (1 ≤ (p :: r).length) && (isOwnD own && _)) = false
  rw [h, Bool.false_and, Bool.and_false]
theorem more_of {ds : List PyData} (h : 3 ≤ ds.length) : ∃ x y z r, ds = x :: y :: z :: r := match ds, h with | x :: y :: z :: r, _ => ⟨x, y, z, r, rfl⟩
theorem dpa_two_more {K : PySem.W.Frag} {H : Hp} {xs : List V} {x y : PyData} {r : List PyData} (h : DpAll K H xs (x :: y :: r)) : ∃ vx vy ys, xs = vx :: vy :: ys ∧ Dp K H vx x ∧ Dp K H vy y ∧ DpAll K H ys r := by
  cases h with
  | cons h1 h => cases h with
    | cons h2 h => exact ⟨_, _, _, rfl, h1, h2, h⟩
theorem line_kind {kd own p : PyData} {r : List PyData} (h : kindOk kd = false) : isLineD (.tuple (kd :: own :: p :: r)) = false := by
  cases kd with
  | str z =>
    have h : inV (.str z) kindV = false := h
    show (decide (1 ≤ (p :: r).length) && (isOwnD own && (inV (.str z) kindV && lineK z (p :: r)))) = false
    rw [h, Bool.false_and, Bool.and_false, Bool.and_false]
  | _ =>
    show (decide (1 ≤ (p :: r).length) && (isOwnD own && false)) = false
    rw [Bool.and_false, Bool.and_false]
theorem kind_not {kd : PyData} (h : isTy "str" kd = false) : kindOk kd = false := by
  cases kd <;> first | rfl | cases h
theorem one_of {ds : List PyData} (h : ds.length = 1) : ∃ x, ds = [x] := match ds, h with | [x], _ => ⟨x, rfl⟩
theorem dpa_one {K : PySem.W.Frag} {H : Hp} {xs : List V} {x : PyData} (h : DpAll K H xs [x]) : ∃ vx, xs = [vx] ∧ Dp K H vx x := by
  cases h with
  | cons h1 h => cases h; exact ⟨_, rfl, h1⟩
theorem dpa_more {K : PySem.W.Frag} {H : Hp} {xs : List V} {x : PyData} {r : List PyData} (h : DpAll K H xs (x :: r)) : ∃ vx ys, xs = vx :: ys ∧ Dp K H vx x ∧ DpAll K H ys r := by
  cases h with
  | cons h1 h => exact ⟨_, _, rfl, h1, h⟩
theorem dpa_take {K : PySem.W.Frag} {H : Hp} : ∀ (n : Nat) {xs : List V} {ds : List PyData}, DpAll K H xs ds → DpAll K H (xs.take n) (ds.take n)
  | 0, _, _, _ => .nil
  | n + 1, _, _, .nil => .nil
  | n + 1, _, _, .cons h t => .cons h (dpa_take n t)
theorem dpa_drop {K : PySem.W.Frag} {H : Hp} : ∀ (n : Nat) {xs : List V} {ds : List PyData}, DpAll K H xs ds → DpAll K H (xs.drop n) (ds.drop n)
  | 0, _, _, h => h
  | n + 1, _, _, .nil => .nil
  | n + 1, _, _, .cons _ t => dpa_drop n t
theorem ok_take : ∀ (n : Nat) {ds : List PyData}, okAll ds = true → okAll (ds.take n) = true
  | 0, _, _ => rfl
  | n + 1, [], _ => rfl
  | n + 1, d :: ds, h => by
    unfold okAll at h
    rw [Bool.and_eq_true] at h
    show (okD d && okAll (ds.take n)) = true
    rw [h.1, ok_take n h.2]; rfl
theorem ok_drop : ∀ (n : Nat) {ds : List PyData}, okAll ds = true → okAll (ds.drop n) = true
  | 0, _, h => h
  | n + 1, [], _ => rfl
  | n + 1, d :: ds, h => by
    unfold okAll at h
    rw [Bool.and_eq_true] at h
    exact ok_drop n h.2
/-- a slice by whole numbers -/
theorem cutV_ij (xs : List V) (i j : Nat) (h : i ≤ j) : cutV xs (some (i : Int)) (some (j : Int)) = (xs.drop i).take (j - i) := by
  unfold cutV
  rw [HT.sIx_nat, HT.sIx_nat]
  by_cases c1 : i ≤ xs.length
  · rw [Nat.min_eq_left c1]
    by_cases c2 : j ≤ xs.length
    · rw [Nat.min_eq_left c2]
    · rw [Nat.min_eq_right (by omega), List.take_of_length_le (by rw [List.length_drop]; omega), List.take_of_length_le (by rw [List.length_drop]; omega)]
  · rw [List.drop_eq_nil_of_le (by omega : xs.length ≤ min i xs.length), List.drop_eq_nil_of_le (by omega)]
    simp
theorem cutV_13 (v : V) (xs : List V) : cutV (v :: xs) (some 1) (some 4) = xs.take 3 := cutV_ij (v :: xs) 1 4 (by decide)
theorem last_name {p : PyData} {r : List PyData} (h : isNameD p = false) : lastK (p :: r) = false := by
  rcases r with _ | ⟨b, _ | ⟨q, _ | ⟨c, _ | ⟨n, _ | ⟨y, r⟩⟩⟩⟩⟩ <;> first | rfl | skip
  show (isNameD p && _) = false
  rw [h, Bool.false_and]
theorem last_asked {p : PyData} {r : List PyData} (h : askedD (r.take 3) = false) : lastK (p :: r) = false := by
  rcases r with _ | ⟨b, _ | ⟨q, _ | ⟨c, _ | ⟨n, _ | ⟨y, r⟩⟩⟩⟩⟩ <;> first | rfl | skip
  have h : askedD [b, q, c] = false := h
  show (isNameD p && (askedD [b, q, c] && nineD n)) = false
  rw [h, Bool.false_and, Bool.and_false]
theorem last_len {p : PyData} {r : List PyData} (h : r.length ≠ 4) : lastK (p :: r) = false := by
  rcases r with _ | ⟨b, _ | ⟨q, _ | ⟨c, _ | ⟨n, _ | ⟨y, r⟩⟩⟩⟩⟩ <;> first | rfl | exact absurd rfl h
theorem four_of {ds : List PyData} (h : ds.length = 4) : ∃ x y z u, ds = [x, y, z, u] := match ds, h with | [x, y, z, u], _ => ⟨x, y, z, u, rfl⟩
theorem dpa_four {K : PySem.W.Frag} {H : Hp} {xs : List V} {x y z u : PyData} (h : DpAll K H xs [x, y, z, u]) : ∃ vx vy vz vu, xs = [vx, vy, vz, vu] ∧ Dp K H vx x ∧ Dp K H vy y ∧ Dp K H vz z ∧ Dp K H vu u := by
  cases h with
  | cons h1 h =>
    obtain ⟨vy, vz, vu, rfl, h2, h3, h4⟩ := dpa_three h
    exact ⟨_, _, _, _, rfl, h1, h2, h3, h4⟩
theorem ok_mem : ∀ {ds : List PyData} {d : PyData}, okAll ds = true → d ∈ ds → okD d = true
  | [], _, _, h => absurd h (by simp)
  | a :: ds, d, ok, h => by
    unfold okAll at ok
    rw [Bool.and_eq_true] at ok
    rcases List.mem_cons.mp h with rfl | h
    · exact ok.1
    · exact ok_mem ok.2 h
section
variable {P : Program} {w : World} {K : PySem.W.Frag} {mg : Str → Option Value} {base : Heap}
theorem ok_is_pair (T : Txt w K mg) : FnOk P w K mg base CX0 4 T.a_is_pair T.d_is_pair ["value"] (spP K fun d => .bl (isPairD d)) := by
  refine T.F_is_pair.ok sc_is_pair (fun vs H Q E h => ?_) (fun cdv A outer s H vs Q E hr h => ?_)
  · obtain ⟨v, d, rfl, _⟩ := h
    rfl
  · obtain ⟨v, d, rfl, hd, hok, k⟩ := h
    have hr_is_value : Room 3 _ := hr
    have G_is_value := ok_is_value (P := P) (base := base) T
    refine ⟨_, (pss_one (ps_ret (pe_and (pe_callB (call_isiDK (K := K) rfl) (by rfl) T.n_isinstance (by decide +kernel) (pa_cons (pv 0) (pa_cons (pe_bltn (v := .ty "tuple") (u := .type "tuple") (by rfl) T.n_tuple (by decide +kernel) rfl) pa_nil))) (pe_and (pe_cmpR op_eqI (pe_callB call_lenD (by rfl) T.n_len (by decide +kernel) (pa_cons (pv 0) pa_nil)) pe_int (nomark _)) (pe_and (pe_call G_is_value hr_is_value (by rfl) T.m_is_value T.F_is_value.kp T.B_is_value .nil pass0 (pa_cons (pe_ix ix_tup (pv 0) pe_int (fun _ _ => rfl)) pa_nil)) (pe_one (pe_call G_is_value hr_is_value (by rfl) T.m_is_value T.F_is_value.kp T.B_is_value .nil pass0 (pa_cons (pe_ix ix_tup (pv 0) pe_int (fun _ _ => rfl)) pa_nil)))))))), ?_⟩
    walk_at "rs"
    replace k : ∀ H', Same H H' → Q (.bl (isPairD d)) H' := k
    have no : isPairD d = false → Q (.bl false) H := fun e => by rw [← e]; exact k H (Same.refl _)
    refine ⟨v, "tuple", ⟨rfl, rfl⟩, d, hd, by decide, ite2 (fun e => ?_) (fun e => no (pair_not (by simpa using e)))⟩
    obtain ⟨ds, rfl⟩ := is_tup e
    refine ⟨_, hd, .inl ⟨ds, .inr rfl, ite2 (fun h2 => ?_) (fun h2 => no (pair_len (by omega)))⟩⟩
    obtain ⟨x, y, rfl⟩ := two_of (by omega : ds.length = 2)
    obtain ⟨a, xs, rfl, ha, hx⟩ := dp_tup hd
    obtain ⟨vx, vy, rfl, hdx, hdy⟩ := dpa_two hx
    refine ⟨a, rfl, _, ha, vx, rfl, vx, x, rfl, hdx, fun H1 s1 => ⟨isVal x, rfl, ite2 (fun e1 => ?_) (fun e1 => ?_)⟩⟩
    · refine ⟨a, rfl, _, Same.seqT s1 ha, vy, rfl, vy, y, rfl, dp_same s1 hdy, fun H2 s2 => ?_⟩
      have q := k H2 (Same.trans s1 s2)
      have e2 : isPairD (.tuple [x, y]) = isVal y := by
        show (isVal x && isVal y) = _
        rw [e1, Bool.true_and]
      rw [e2] at q
      exact q
    · have q := k H1 s1
      have e2 : isPairD (.tuple [x, y]) = false := by
        show (isVal x && isVal y) = _
        rw [Bool.eq_false_iff.mpr e1, Bool.false_and]
      rw [e2] at q
      exact q
theorem ok_is_relation (T : Txt w K mg) : FnOk P w K mg base CX0 5 T.a_is_relation T.d_is_relation ["value"] (spP K fun d => .bl (isRelD d)) := by
  refine T.F_is_relation.ok sc_is_relation (fun vs H Q E h => ?_) (fun cdv A outer s H vs Q E hr h => ?_)
  · obtain ⟨v, d, rfl, _⟩ := h
    rfl
  · obtain ⟨v, d, rfl, hd, hok, k⟩ := h
    have hr_is_pair : Room 4 _ := hr
    have G_is_pair := ok_is_pair (P := P) (base := base) T
    refine ⟨_, (pss_cons (ps_if (pt_val (pe_callB (call_isiDK (K := K) rfl) (by rfl) T.n_isinstance (by decide +kernel) (pa_cons (pv 0) (pa_cons (pe_bltn (v := .ty "str") (u := .type "str") (by rfl) T.n_str (by decide +kernel) rfl) pa_nil)))) (pss_one (ps_ret (pe_cmpR op_in_seq (pv 0) (pe_glob (v := .ref T.a_RELATIONS) (by rfl) T.m_RELATIONS rfl) (by rfl)))) pss_nil)
      (pss_one (ps_ret (pe_and (pe_callB (call_isiDK (K := K) rfl) (by rfl) T.n_isinstance (by decide +kernel) (pa_cons (pv 0) (pa_cons (pe_bltn (v := .ty "tuple") (u := .type "tuple") (by rfl) T.n_tuple (by decide +kernel) rfl) pa_nil))) (pe_one (pe_callB (cr_all rfl) (by rfl) T.n_all (by decide +kernel) (pa_cons (pe_lc (own := [("pair", 1)]) (g := gName 1) (tt := tYes) rfl sc_is_relation.nd (pi_tup (pv 0)) (blkOk_by (own := [("pair", 1)]) (N := N_is_relation) (sc := defScope s_is_relation) (by decide +kernel)) (fun _ _ _ _ _ => pg_name (i := 1) sc_is_relation.nd rfl (Or.inl rfl)) (fun _ _ _ _ _ => pts_nil) (fun _ _ _ _ _ => (pe_call G_is_pair hr_is_pair (by rfl) T.m_is_pair T.F_is_pair.kp T.B_is_pair .nil pass0 (pa_cons (pv 1) pa_nil)))) pa_nil))))))), ?_⟩
    refine seq_op fun N hN => ?_
    walk_at "rs"
    replace k : ∀ H', Same H H' → Q (.bl (isRelD d)) H' := k
    refine ⟨v, "str", ⟨rfl, rfl⟩, d, hd, by decide, ite2 (fun e => ?_) (fun e => hN _ _ ?_)⟩
    · obtain ⟨z, rfl⟩ := is_str e
      cases hd
      exact ⟨_, .inr (T.s_RELATIONS H), rfl, by decide +kernel, k H (Same.refl _)⟩
    clear hN N
    walk_at "rs"
    refine ⟨v, "tuple", ⟨rfl, rfl⟩, d, hd, by decide, ite2 (fun e2 => ?_) (fun e2 => ?_)⟩
    · obtain ⟨ds, rfl⟩ := is_tup e2
      obtain ⟨a, xs, rfl, ha, hx⟩ := dp_tup hd
      have hl := (okD_tup.mp hok).1
      refine ⟨_, rfl, a, rfl, ⟨_, ha⟩, fun D hD => lc_data (fun d => .bl (isPairD d)) ha hx hD (by omega) (fun x d1 H1 hm h1 s1 Q2 hq => ?_) (fun H1 s1 h1 => ?_)⟩
      · walk_at "rs"
        exact ⟨x, d1, rfl, h1, ok_mem (okD_tup.mp hok).2 hm, hq⟩
      · refine ⟨D, ds.map isPairD, rfl, SqL.of (by rw [h1, List.map_map]; rfl), ?_⟩
        rw [all_map_id]
        exact k H1 s1
    · have q := k H (Same.refl _)
      have e3 : isRelD d = false := by cases d <;> first | rfl | exact absurd rfl e | exact absurd rfl e2
      rw [e3] at q
      exact q
theorem ok_are_names (T : Txt w K mg) : FnOk P w K mg base CX0 4 T.a_are_names T.d_are_names ["value"] (spP K fun d => .bl (areNamesD d)) := by
  refine T.F_are_names.ok sc_are_names (fun vs H Q E h => ?_) (fun cdv A outer s H vs Q E hr h => ?_)
  · obtain ⟨v, d, rfl, _⟩ := h
    rfl
  · obtain ⟨v, d, rfl, hd, hok, k⟩ := h
    have hr_is_name : Room 3 _ := hr
    have G_is_name := ok_is_name (P := P) (base := base) T
    refine ⟨_, (pss_cons (ps_if (PW.pt (pw_or (pt_not (pt_val (pe_callB (call_isiDK (K := K) rfl) (by rfl) T.n_isinstance (by decide +kernel) (pa_cons (pv 0) (pa_cons (pe_bltn (v := .ty "tuple") (u := .type "tuple") (by rfl) T.n_tuple (by decide +kernel) rfl) pa_nil))))) (pw_or1 (pt_cmpR op_gt (pe_callB call_lenD (by rfl) T.n_len (by decide +kernel) (pa_cons (pv 0) pa_nil)) (pe_glob (v := .int 12) (by rfl) T.m_MOST_NAMES ⟨_, rfl⟩) (nomark _))))) (pss_one (ps_ret pe_bl)) pss_nil)
      (pss_one (ps_ret (pe_callB (cr_all rfl) (by rfl) T.n_all (by decide +kernel) (pa_cons (pe_lc (own := [("name", 1)]) (g := gName 1) (tt := tYes) rfl sc_are_names.nd (pi_tup (pv 0)) (blkOk_by (own := [("name", 1)]) (N := N_are_names) (sc := defScope s_are_names) (by decide +kernel)) (fun _ _ _ _ _ => pg_name (i := 1) sc_are_names.nd rfl (Or.inl rfl)) (fun _ _ _ _ _ => pts_nil) (fun _ _ _ _ _ => (pe_call G_is_name hr_is_name (by rfl) T.m_is_name T.F_is_name.kp T.B_is_name .nil pass0 (pa_cons (pv 1) pa_nil)))) pa_nil))))), ?_⟩
    refine seq_op fun N hN => ?_
    walk_at "rs"
    replace k : ∀ H', Same H H' → Q (.bl (areNamesD d)) H' := k
    have no : areNamesD d = false → Q (.bl false) H := fun e => by rw [← e]; exact k H (Same.refl _)
    refine ⟨v, "tuple", ⟨rfl, rfl⟩, d, hd, by decide, ite2 (fun e => no (by cases d <;> first | rfl | cases e)) (fun e => ?_)⟩
    obtain ⟨ds, rfl⟩ := is_tup (by simpa using e)
    have ev : areNamesD (.tuple ds) = (decide (ds.length ≤ 12) && ds.all isNameD) := rfl
    refine ⟨_, hd, .inl ⟨ds, .inr rfl, ite2 (fun h2 => no (by rw [ev, decide_eq_false (by omega), Bool.false_and])) (fun h2 => hN _ _ ?_)⟩⟩
    clear hN N no
    obtain ⟨a, xs, rfl, ha, hx⟩ := dp_tup hd
    rw [ev, decide_eq_true (by omega), Bool.true_and] at k
    walk_at "rs"
    have hl := (okD_tup.mp hok).1
    refine ⟨_, rfl, a, rfl, ⟨_, ha⟩, fun D hD => lc_data (fun d => .bl (isNameD d)) ha hx hD (by omega) (fun x d1 H1 hm h1 s1 Q2 hq => ?_) (fun H1 s1 h1 => ?_)⟩
    · walk_at "rs"
      exact ⟨x, d1, rfl, h1, ok_mem (okD_tup.mp hok).2 hm, hq⟩
    · refine ⟨D, ds.map isNameD, rfl, SqL.of (by rw [h1, List.map_map]; rfl), ?_⟩
      rw [all_map_id]
      exact k H1 s1
theorem ok_are_values (T : Txt w K mg) : FnOk P w K mg base CX0 4 T.a_are_values T.d_are_values ["value"] (spP K fun d => .bl (areValsD d)) := by
  refine T.F_are_values.ok sc_are_values (fun vs H Q E h => ?_) (fun cdv A outer s H vs Q E hr h => ?_)
  · obtain ⟨v, d, rfl, _⟩ := h
    rfl
  · obtain ⟨v, d, rfl, hd, hok, k⟩ := h
    have hr_is_value : Room 3 _ := hr
    have G_is_value := ok_is_value (P := P) (base := base) T
    refine ⟨_, (pss_cons (ps_if (PW.pt (pw_or (pt_not (pt_val (pe_callB (call_isiDK (K := K) rfl) (by rfl) T.n_isinstance (by decide +kernel) (pa_cons (pv 0) (pa_cons (pe_bltn (v := .ty "tuple") (u := .type "tuple") (by rfl) T.n_tuple (by decide +kernel) rfl) pa_nil))))) (pw_or1 (pt_cmpR op_gt (pe_callB call_lenD (by rfl) T.n_len (by decide +kernel) (pa_cons (pv 0) pa_nil)) (pe_glob (v := .int 400) (by rfl) T.m_MOST_VALUES ⟨_, rfl⟩) (nomark _))))) (pss_one (ps_ret pe_bl)) pss_nil)
      (pss_one (ps_ret (pe_callB (cr_all rfl) (by rfl) T.n_all (by decide +kernel) (pa_cons (pe_lc (own := [("part", 1)]) (g := gName 1) (tt := tYes) rfl sc_are_values.nd (pi_tup (pv 0)) (blkOk_by (own := [("part", 1)]) (N := N_are_values) (sc := defScope s_are_values) (by decide +kernel)) (fun _ _ _ _ _ => pg_name (i := 1) sc_are_values.nd rfl (Or.inl rfl)) (fun _ _ _ _ _ => pts_nil) (fun _ _ _ _ _ => (pe_call G_is_value hr_is_value (by rfl) T.m_is_value T.F_is_value.kp T.B_is_value .nil pass0 (pa_cons (pv 1) pa_nil)))) pa_nil))))), ?_⟩
    refine seq_op fun N hN => ?_
    walk_at "rs"
    replace k : ∀ H', Same H H' → Q (.bl (areValsD d)) H' := k
    have no : areValsD d = false → Q (.bl false) H := fun e => by rw [← e]; exact k H (Same.refl _)
    refine ⟨v, "tuple", ⟨rfl, rfl⟩, d, hd, by decide, ite2 (fun e => no (by cases d <;> first | rfl | cases e)) (fun e => ?_)⟩
    obtain ⟨ds, rfl⟩ := is_tup (by simpa using e)
    have ev : areValsD (.tuple ds) = (decide (ds.length ≤ 400) && ds.all isVal) := rfl
    refine ⟨_, hd, .inl ⟨ds, .inr rfl, ite2 (fun h2 => no (by rw [ev, decide_eq_false (by omega), Bool.false_and])) (fun h2 => hN _ _ ?_)⟩⟩
    clear hN N no
    obtain ⟨a, xs, rfl, ha, hx⟩ := dp_tup hd
    rw [ev, decide_eq_true (by omega), Bool.true_and] at k
    walk_at "rs"
    have hl := (okD_tup.mp hok).1
    refine ⟨_, rfl, a, rfl, ⟨_, ha⟩, fun D hD => lc_data (fun d => .bl (isVal d)) ha hx hD (by omega) (fun x d1 H1 hm h1 s1 Q2 hq => ?_) (fun H1 s1 h1 => ?_)⟩
    · walk_at "rs"
      exact ⟨x, d1, rfl, h1, hq⟩
    · refine ⟨D, ds.map isVal, rfl, SqL.of (by rw [h1, List.map_map]; rfl), ?_⟩
      rw [all_map_id]
      exact k H1 s1
theorem ok_are_asked (T : Txt w K mg) : FnOk P w K mg base CX0 6 T.a_are_asked T.d_are_asked ["parts"] (fun vs H Q _ => ∃ a xs ds, vs = [.ref a] ∧ SqT K H a xs ∧ DpAll K H xs ds ∧ okAll ds = true ∧ ∀ H', Same H H' → Q (.bl (askedD ds)) H') := by
  refine T.F_are_asked.ok sc_are_asked (fun vs H Q E h => ?_) (fun cdv A outer s H vs Q E hr h => ?_)
  · obtain ⟨a, xs, ds, rfl, _⟩ := h
    rfl
  · obtain ⟨a, xs, ds, rfl, ha, hx, hok, k⟩ := h
    have hr_is_name : Room 3 _ := hr.mono (by decide)
    have G_is_name := ok_is_name (P := P) (base := base) T
    have hr_is_relation : Room 5 _ := hr
    have G_is_relation := ok_is_relation (P := P) (base := base) T
    refine ⟨_, (pss_one (ps_ret (pe_and (pe_cmpR op_eqI (pe_callB call_len_seq (by rfl) T.n_len (by decide +kernel) (pa_cons (pv 0) pa_nil)) pe_int (nomark _)) (pe_and (pe_call G_is_name hr_is_name (by rfl) T.m_is_name T.F_is_name.kp T.B_is_name .nil pass0 (pa_cons (pe_ix ix_tup (pv 0) pe_int (fun _ _ => rfl)) pa_nil)) (pe_and (pe_call G_is_relation hr_is_relation (by rfl) T.m_is_relation T.F_is_relation.kp T.B_is_relation .nil pass0 (pa_cons (pe_ix ix_tup (pv 0) pe_int (fun _ _ => rfl)) pa_nil)) (pe_one (pe_call G_is_name hr_is_name (by rfl) T.m_is_name T.F_is_name.kp T.B_is_name .nil pass0 (pa_cons (pe_ix ix_tup (pv 0) pe_int (fun _ _ => rfl)) pa_nil)))))))), ?_⟩
    walk_at "rs"
    have len := dpa_len4 hx
    refine ⟨xs, .inr ha, ite2 (fun e => ?_) (fun e => ?_)⟩
    · obtain ⟨x, y, z, rfl⟩ := three_of (by omega : ds.length = 3)
      obtain ⟨vx, vy, vz, rfl, hdx, hdy, hdz⟩ := dpa_three hx
      unfold okAll okAll okAll okAll at hok
      simp only [Bool.and_eq_true, and_true] at hok
      have ev : askedD [x, y, z] = (isNameD x && (isRelD y && isNameD z)) := rfl
      rw [ev] at k
      refine ⟨_, ha, vx, rfl, vx, x, rfl, hdx, hok.1, fun H1 s1 => ⟨isNameD x, rfl, ite2 (fun e1 => ?_) (fun e1 => ?_)⟩⟩
      · rw [e1, Bool.true_and] at k
        refine ⟨_, Same.seqT s1 ha, vy, rfl, vy, y, rfl, dp_same s1 hdy, hok.2.1, fun H2 s2 => ⟨isRelD y, rfl, ite2 (fun e2 => ?_) (fun e2 => ?_)⟩⟩
        · rw [e2, Bool.true_and] at k
          exact ⟨_, Same.seqT (Same.trans s1 s2) ha, vz, rfl, vz, z, rfl, dp_same (Same.trans s1 s2) hdz, hok.2.2, fun H3 s3 => k H3 (Same.trans s1 (Same.trans s2 s3))⟩
        · rw [Bool.eq_false_iff.mpr e2, Bool.false_and] at k
          exact k H2 (Same.trans s1 s2)
      · rw [Bool.eq_false_iff.mpr e1, Bool.false_and] at k
        exact k H1 s1
    · have q := k H (Same.refl _)
      rw [asked_len (by omega)] at q
      exact q
theorem ok_is_line (T : Txt w K mg) : FnOk P w K mg base CX0 7 T.a_is_line T.d_is_line ["value"] (spP K fun d => .bl (isLineD d)) := by
  refine T.F_is_line.ok sc_is_line (fun vs H Q E h => ?_) (fun cdv A outer s H vs Q E hr h => ?_)
  · obtain ⟨v, d, rfl, _⟩ := h
    rfl
  · obtain ⟨v, d, rfl, hd, hok, k⟩ := h
    have hr_is_own_name : Room 2 _ := hr.mono (by decide)
    have G_is_own_name := ok_is_own_name (P := P) (base := base) T
    have hr_is_name : Room 3 _ := hr.mono (by decide)
    have G_is_name := ok_is_name (P := P) (base := base) T
    have hr_is_number : Room 1 _ := hr.mono (by decide)
    have G_is_number := ok_is_number (P := P) (base := base) T
    have hr_are_names : Room 4 _ := hr.mono (by decide)
    have G_are_names := ok_are_names (P := P) (base := base) T
    have hr_are_values : Room 4 _ := hr.mono (by decide)
    have G_are_values := ok_are_values (P := P) (base := base) T
    have hr_are_asked : Room 6 _ := hr
    have G_are_asked := ok_are_asked (P := P) (base := base) T
    have hr_is_expression : Room 5 _ := hr.mono (by decide)
    have G_is_expression := ok_is_expression (P := P) (base := base) T
    refine ⟨_, (pss_cons (ps_if (PW.pt (pw_or (pt_not (pt_val (pe_callB (call_isiDK (K := K) rfl) (by rfl) T.n_isinstance (by decide +kernel) (pa_cons (pv 0) (pa_cons (pe_bltn (v := .ty "tuple") (u := .type "tuple") (by rfl) T.n_tuple (by decide +kernel) rfl) pa_nil))))) (pw_or (pt_cmpR op_lt (pe_callB call_len_seq (by rfl) T.n_len (by decide +kernel) (pa_cons (pv 0) pa_nil)) pe_int (nomark _)) (pw_or1 (pt_not (pt_val (pe_call G_is_own_name hr_is_own_name (by rfl) T.m_is_own_name T.F_is_own_name.kp T.B_is_own_name .nil pass0 (pa_cons (pe_ix ix_tup (pv 0) pe_int (fun _ _ => rfl)) pa_nil)))))))) (pss_one (ps_ret pe_bl)) pss_nil)
      (pss_cons (ps_set (i := 1) sc_is_line.nd rfl (Or.inl rfl) (pe_ix ix_tup (pv 0) pe_int (fun _ _ => rfl)))
      (pss_cons (ps_set (i := 2) sc_is_line.nd rfl (Or.inl rfl) (pe_slice sl_tupU (pv 0) (po_some pe_int) po_none))
      (pss_cons (ps_if (PW.pt (pw_or (pt_not (pt_val (pe_callB (call_isiDK (K := K) rfl) (by rfl) T.n_isinstance (by decide +kernel) (pa_cons (pv 1) (pa_cons (pe_bltn (v := .ty "str") (u := .type "str") (by rfl) T.n_str (by decide +kernel) rfl) pa_nil))))) (pw_or1 (pt_cmpR op_notIn_seq (pv 1) (pe_glob (v := .ref T.a_KINDS) (by rfl) T.m_KINDS rfl) (by rfl))))) (pss_one (ps_ret pe_bl)) pss_nil)
      (pss_cons (ps_if (pt_cmpR op_eqS (pv 1) pe_str (nomark _)) (pss_one (ps_ret (pe_and (pe_cmpR op_eqI (pe_callB call_len_seq (by rfl) T.n_len (by decide +kernel) (pa_cons (pv 2) pa_nil)) pe_int (nomark _)) (pe_one (pe_call G_is_expression hr_is_expression (by rfl) T.m_is_expression T.F_is_expression.kp T.B_is_expression .nil pass0 (pa_cons (pe_ix ix_tup (pv 2) pe_int (fun _ _ => rfl)) pa_nil)))))) pss_nil)
      (pss_cons (ps_if (pt_cmpR op_eqS (pv 1) pe_str (nomark _)) (pss_one (ps_ret (pe_and (pe_cmpR op_eqI (pe_callB call_len_seq (by rfl) T.n_len (by decide +kernel) (pa_cons (pv 2) pa_nil)) pe_int (nomark _)) (pe_and (pe_call G_are_names hr_are_names (by rfl) T.m_are_names T.F_are_names.kp T.B_are_names .nil pass0 (pa_cons (pe_ix ix_tup (pv 2) pe_int (fun _ _ => rfl)) pa_nil)) (pe_one (pe_call G_are_values hr_are_values (by rfl) T.m_are_values T.F_are_values.kp T.B_are_values .nil pass0 (pa_cons (pe_ix ix_tup (pv 2) pe_int (fun _ _ => rfl)) pa_nil))))))) pss_nil)
      (pss_cons (ps_if (pt_cmpR op_eqS (pv 1) pe_str (nomark _)) (pss_one (ps_ret (pe_call G_are_asked hr_are_asked (by rfl) T.m_are_asked T.F_are_asked.kp T.B_are_asked .nil pass0 (pa_cons (pv 2) pa_nil)))) pss_nil)
      (pss_cons (ps_if (PW.pt (pw_or (pt_not (pt_val (pe_call G_is_name hr_is_name (by rfl) T.m_is_name T.F_is_name.kp T.B_is_name .nil pass0 (pa_cons (pe_ix ix_tup (pv 2) pe_int (fun _ _ => rfl)) pa_nil)))) (pw_or (pt_not (pt_val (pe_call G_are_asked hr_are_asked (by rfl) T.m_are_asked T.F_are_asked.kp T.B_are_asked .nil pass0 (pa_cons (pe_slice sl_tupU (pv 2) (po_some pe_int) (po_some pe_int)) pa_nil)))) (pw_or1 (pt_cmpR op_neI (pe_callB call_len_seq (by rfl) T.n_len (by decide +kernel) (pa_cons (pv 2) pa_nil)) pe_int (nomark _)))))) (pss_one (ps_ret pe_bl)) pss_nil)
      (pss_one (ps_ret (pe_and (pe_call G_is_number hr_is_number (by rfl) T.m_is_number T.F_is_number.kp T.B_is_number .nil pass0 (pa_cons (pe_ix ix_tup (pv 2) pe_int (fun _ _ => rfl)) pa_nil)) (pe_one (pe_chain op_le op_le (pe_un un_neg pe_int) (pe_ix ix_tup (pv 2) pe_int (fun _ _ => rfl)) pe_int))))))))))))), ?_⟩
    replace k : ∀ H', Same H H' → Q (.bl (isLineD d)) H' := k
    have no : isLineD d = false → ∀ H', Same H H' → Q (.bl false) H' := fun e H' s' => by rw [← e]; exact k H' s'
    refine seq_op fun N hN => ?_
    walk_at "rs"
    refine ⟨v, "tuple", ⟨rfl, rfl⟩, d, hd, by decide, ite2 (fun e => no (by cases d <;> first | rfl | cases e) H (Same.refl _)) (fun e => ?_)⟩
    obtain ⟨ds, rfl⟩ := is_tup (by simpa using e)
    clear e
    obtain ⟨a, xs, rfl, ha, hx⟩ := dp_tup hd
    have len := dpa_len4 hx
    refine ⟨a, rfl, xs, .inr ha, ite2 (fun e => no (line_len (by omega)) H (Same.refl _)) (fun e => ?_)⟩
    obtain ⟨kd, own, p, r, rfl⟩ := more_of (by omega : 3 ≤ ds.length)
    have okA := (okD_tup.mp hok).2
    have okL := (okD_tup.mp hok).1
    obtain ⟨vk, vo, ys, rfl, hk, ho, hy⟩ := dpa_two_more hx
    have ok2 : okD kd = true ∧ okD own = true ∧ okAll (p :: r) = true := by
      unfold okAll at okA
      rw [Bool.and_eq_true] at okA
      refine ⟨okA.1, ?_⟩
      have q := okA.2
      unfold okAll at q
      rw [Bool.and_eq_true] at q
      exact q
    refine ⟨a, rfl, _, ha, vo, at_ofN (j := 1) rfl rfl, vo, own, rfl, ho, ok2.2.1, fun H1 s1 => ⟨isOwnD own, rfl, ite2 (fun e1 => no (line_own e1) H1 s1) (fun e1 => hN _ _ ?_)⟩⟩
    clear hN N e
    have eown : isOwnD own = true := by simpa using e1
    refine seq_op fun N hN => ?_
    walk_at "rs"
    refine ⟨_, Same.seqT s1 ha, vk, at_ofN (j := 0) rfl rfl, hN _ _ ?_⟩
    clear hN N
    refine seq_op fun N hN => ?_
    walk_at "rs"
    refine ⟨_, Same.seqT s1 ha, fun q H2 s2 hq => hN _ _ ?_⟩
    clear hN N
    rw [show cutV (vk :: vo :: ys) (some 2) none = ys from cutV_drop _ 2] at hq
    have S2 := Same.trans s1 s2
    replace hy := dpa_same S2 hy
    replace hk := dp_same S2 hk
    replace k := fun H' (s' : Same H2 H') => k H' (Same.trans S2 s')
    replace no : isLineD (.tuple (kd :: own :: p :: r)) = false → ∀ H', Same H2 H' → Q (.bl false) H' := fun e H' s' => by rw [← e]; exact k H' s'
    clear ha s1 s2 S2 hx hd e1
    refine seq_op fun N hN => ?_
    walk_at "rs"
    refine ⟨vk, "str", ⟨rfl, rfl⟩, kd, hk, by decide, ite2 (fun e => no (line_kind (kind_not e)) _ (Same.refl _)) (fun e => ?_)⟩
    obtain ⟨z, rfl⟩ := is_str (by simpa using e)
    cases hk
    refine ⟨_, .inr (T.s_KINDS H2), rfl, by decide +kernel, ite2 (fun e => no (line_kind e) _ (Same.refl _)) (fun e2 => hN _ _ ?_)⟩
    clear hN N e no
    have ez : inV (.str z) kindV = true := by simpa using e2
    have ev : isLineD (.tuple (.str z :: own :: p :: r)) = lineK z (p :: r) := by
      show (decide (1 ≤ (p :: r).length) && (isOwnD own && (inV (.str z) kindV && lineK z (p :: r)))) = _
      rw [eown, ez, decide_eq_true (show 1 ≤ (p :: r).length by simp), Bool.true_and, Bool.true_and, Bool.true_and]
    rw [ev] at k
    have okP := ok2.2.2
    have len2 := dpa_len4 hy
    clear ev eown e2 ho ok2 okA okL hok len
    refine seq_op fun N hN => ?_
    walk_at "rs"
    refine ite2 (fun eb => ?_) (fun nb => hN _ _ ?_)
    · subst eb
      have ek : lineK "be" (p :: r) = beK (p :: r) := rfl
      rw [ek] at k
      refine ⟨ys, .inr hq, ite2 (fun e => ?_) (fun e => ?_)⟩
      · obtain rfl : r = [] := List.eq_nil_of_length_eq_zero (by simp at len2; omega)
        obtain ⟨vp, rfl, hp⟩ := dpa_one hy
        exact ⟨_, hq, vp, rfl, vp, p, rfl, hp, ok_mem okP (by simp), k⟩
      · have q1 := k H2 (Same.refl _)
        have ef : beK (p :: r) = false := by cases r <;> first | rfl | (simp at len2; omega)
        rw [ef] at q1
        exact q1
    clear hN N
    refine seq_op fun N hN => ?_
    walk_at "rs"
    refine ite2 (fun eb => ?_) (fun nt => hN _ _ ?_)
    · subst eb
      have ek : lineK "table" (p :: r) = tabK (p :: r) := rfl
      rw [ek] at k
      refine ⟨ys, .inr hq, ite2 (fun e => ?_) (fun e => ?_)⟩
      · obtain ⟨p2, rfl⟩ : ∃ p2, r = [p2] := one_of (by simp at len2; omega)
        obtain ⟨vp, vr, rfl, hp, hr2⟩ := dpa_two hy
        have ev : tabK [p, p2] = (areNamesD p && areValsD p2) := rfl
        rw [ev] at k
        refine ⟨_, hq, vp, rfl, vp, p, rfl, hp, ok_mem okP (by simp), fun H3 s3 => ⟨areNamesD p, rfl, ite2 (fun e1 => ?_) (fun e1 => ?_)⟩⟩
        · rw [e1, Bool.true_and] at k
          exact ⟨_, Same.seqT s3 hq, vr, rfl, vr, p2, rfl, dp_same s3 hr2, ok_mem okP (by simp), fun H4 s4 => k H4 (Same.trans s3 s4)⟩
        · rw [Bool.eq_false_iff.mpr e1, Bool.false_and] at k
          exact k H3 s3
      · have q1 := k H2 (Same.refl _)
        have ef : tabK (p :: r) = false := by
          rcases r with _ | ⟨x, _ | ⟨y, r⟩⟩
          · rfl
          · simp at len2; omega
          · rfl
        rw [ef] at q1
        exact q1
    clear hN N
    refine seq_op fun N hN => ?_
    walk_at "rs"
    refine ite2 (fun eb => ?_) (fun nc => hN _ _ ?_)
    · subst eb
      exact ⟨_, hq, _, hy, okP, k⟩
    clear hN N
    have ek : lineK z (p :: r) = lastK (p :: r) := by
      unfold lineK
      rw [if_neg nb, if_neg nt, if_neg nc]
    rw [ek] at k
    have no : lastK (p :: r) = false → ∀ H', Same H2 H' → Q (.bl false) H' := fun e H' s' => by rw [← e]; exact k H' s'
    refine seq_op fun N hN => ?_
    walk_at "rs"
    obtain ⟨vp, yr, rfl, hp, hyr⟩ := dpa_more hy
    refine ⟨_, hq, vp, at_ofN (j := 0) rfl rfl, vp, p, rfl, hp, ok_mem okP (by simp), fun H3 s3 => ⟨isNameD p, rfl, ite2 (fun e1 => no (last_name e1) H3 s3) (fun e1 => ?_)⟩⟩
    refine ⟨_, Same.seqT s3 hq, fun q2 H4 s4 hq2 => ?_⟩
    rw [show cutV (vp :: yr) (some 1) (some 4) = yr.take 3 from cutV_13 vp yr] at hq2
    refine ⟨_, hq2, r.take 3, dpa_take 3 (dpa_same (Same.trans s3 s4) hyr), ok_take 3 (by unfold okAll at okP; exact (Bool.and_eq_true_iff.mp okP).2), fun H5 s5 => ?_⟩
    have S5 := Same.trans s3 (Same.trans s4 s5)
    refine ite2 (fun e2 => no (last_asked e2) H5 S5) (fun e2 => ⟨_, .inr (Same.seqT S5 hq), ite2 (fun e3 => no (last_len (by simp at len2; simp at e3; omega)) H5 S5) (fun e3 => hN _ _ ?_)⟩)
    clear hN N no
    obtain ⟨b, rq, c, n, rfl⟩ := four_of (by simp at len2; simp at e3; omega : r.length = 4)
    obtain ⟨vb, vq, vc, vn, rfl, _, _, _, hn⟩ := dpa_four hyr
    have ev : lastK [p, b, rq, c, n] = nineD n := by
      show (isNameD p && (askedD [b, rq, c] && nineD n)) = _
      have f2 : askedD [b, rq, c] = true := by simpa using e2
      rw [show isNameD p = true by simpa using e1, f2, Bool.true_and, Bool.true_and]
    rw [ev] at k
    replace k := fun H' (s' : Same H5 H') => k H' (Same.trans S5 s')
    replace hn := dp_same S5 hn
    replace hq := Same.seqT S5 hq
    walk_at "rs"
    refine ⟨_, hq, vn, at_ofN (j := 4) rfl rfl, vn, n, rfl, hn, fun H6 s6 => ?_⟩
    have nf : isNum n = false → nineD n = false := fun e => by cases n <;> first | rfl | cases e
    refine ⟨isNum n, rfl, ite2 (fun e => ?_) (fun e => ?_)⟩
    · obtain ⟨i, rfl⟩ : ∃ i, n = .int i := by cases n <;> first | exact ⟨_, rfl⟩ | cases e
      cases hn
      have q1 := k H6 s6
      have ei : nineD (.int i) = (decide (-9 ≤ i) && decide (i ≤ 9)) := rfl
      rw [ei] at q1
      refine ⟨_, Same.seqT s6 hq, _, at_ofN (j := 4) rfl rfl, i, rfl, ite2 (fun e4 => ?_) (fun e4 => ?_)⟩
      · rw [decide_eq_true e4, Bool.true_and] at q1
        exact ⟨i, rfl, q1⟩
      · rw [decide_eq_false e4, Bool.false_and] at q1
        exact q1
    · have q1 := k H6 s6
      rw [nf (by simpa using e)] at q1
      exact q1
end
end LK

set_option Elab.async false
set_option linter.all false
set_option maxRecDepth 100000
set_option pp.deepTerms true
set_option pp.maxSteps 20000
namespace LK
open PySem PySem.Spec PyProof.Rows L2
local macro_rules | `(tactic| walk_at "rs") => `(tactic| simp only [cxK, cxNK, tCallZ, tAsg, tOp, rI0, rS0, rB0, rI, rU, tUn, rEq, rNe, rIxL, rIxT, rIxS, rSetL, rSlLU, rSlS, rSlU, rCatL, rCatU, rRepL, rIn, tVar, tC, gName, gSub, tIfS, tTest, tB, tAnd, tOr, tNot, tNotV, tAndV, tOrV, tIf, tCall, tCons, tNil, tCB, tDrop, tRet, tRetN, tNext, tLstU, tTupU, tM0, tM1, tPar, tPar3, tAug, ipI, tBM, tBM0, rAppend, rPop, tBreak, tCont, tChain, tSl, tPart, tNoPart, L2.start, List.map, List.length_cons, List.length_nil, List.replicate, List.cons_append, List.nil_append, List.append_nil, List.getElem?_cons_zero, List.getElem?_cons_succ, List.set_cons_zero, List.set_cons_succ, Option.some.injEq, V.int.injEq, V.ref.injEq, V.str.injEq, V.bl.injEq, exists_eq_left', exists_eq_left, exists_and_left, decide_eq_true_eq, List.cons.injEq, and_true, true_and, scal, Bool.not_eq_true', decide_eq_false_iff_not, Nat.zero_add, Nat.reduceAdd, Nat.reduceSub, reduceCtorEq, false_and, exists_false, false_or, or_false, CPow, CMul, CDiv, Int.reduceToNat, ↓reduceIte, wipe, sw, List.nil_append, List.singleton_append])
local macro_rules | `(tactic| walk_at "st") => `(tactic| (refine seq_op fun N hN => ?_; walk_at "rs"))
local macro_rules | `(tactic| walk_at "sd") => `(tactic| first | assumption | decide | omega)
local macro_rules | `(tactic| walk_at "rd") => `(tactic| repeat (first
  | refine ⟨_, SqL.of (by assumption), ?_⟩ | refine ⟨_, SqL.of upd_same, ?_⟩ | refine ⟨_, .inl (SqL.of (by assumption)), ?_⟩ | refine ⟨_, (by assumption : _ = some (HO.lst _)), ?_⟩ | refine ⟨_, upd_same, ?_⟩
  | refine ⟨_, rfl, ?_⟩ | refine And.intro (by walk_at "sd") ?_))

theorem low_eq {p q : Int} (h : 1 ≤ q) : PyData.eqv (.tuple [.int (frP p q), .int (frQ p q)]) (.tuple [.int p, .int q]) = decide (Nat.gcd p.natAbs q.natAbs = 1) := by
  rw [eqv_pair]
  by_cases c : Nat.gcd p.natAbs q.natAbs = 1
  · obtain ⟨a, b⟩ := fr_low h c
    rw [a, b, decide_eq_true c, decide_eq_true rfl, decide_eq_true rfl]
    rfl
  · rw [decide_eq_false c]
    obtain ⟨_, _, _, g, _⟩ := fr_spec p (show q ≠ 0 by omega)
    by_cases a : frP p q = p
    · by_cases b : frQ p q = q
      · rw [a, b] at g
        exact absurd g c
      · rw [decide_eq_false b, Bool.and_false]
    · rw [decide_eq_false a, Bool.false_and]
theorem call_lenDK {X : Cx} {K : PySem.W.Frag} (hK : X.K = K) : CallR X (.builtin "len") (fun xs H Q => ∃ x d, xs = [x] ∧ Dp K H x d ∧ ((∃ ds, (d = .list ds ∨ d = .tuple ds) ∧ Q (.int ds.length) H) ∨ ∃ z, d = .str z ∧ z.length ≤ sizeLine ∧ Q (.int z.length) H)) := by
  subst hK
  exact call_lenD
theorem kind_last {z : Str} (n1 : ¬ z = "be") (n2 : ¬ z = "table") (n3 : ¬ z = "count") (h : inV (.str z) [.str "first", .str "last", .str "mean"] = false) : inV (.str z) kindV = false := by
  have e : kindV = kindL.map V.str := rfl
  have e2 : ([.str "first", .str "last", .str "mean"] : List V) = (["first", "last", "mean"] : List Str).map V.str := rfl
  rw [e, inL]
  rw [e2, inL] at h
  rw [decide_eq_false_iff_not] at h ⊢
  simp only [kindL, List.mem_cons, List.mem_nil_iff, or_false] at h ⊢
  simp only [not_or] at h ⊢
  exact ⟨n1, n2, h.1, h.2.1, n3, h.2.2⟩
theorem kind_in {z : Str} (h : inV (.str z) [.str "first", .str "last", .str "mean"] = true) : inV (.str z) kindV = true := by
  have e : kindV = kindL.map V.str := rfl
  have e2 : ([.str "first", .str "last", .str "mean"] : List V) = (["first", "last", "mean"] : List Str).map V.str := rfl
  rw [e, inL]
  rw [e2, inL] at h
  rw [decide_eq_true_iff] at h ⊢
  simp only [kindL, List.mem_cons, List.mem_nil_iff, or_false] at h ⊢
  rcases h with h | h | h
  · exact .inr (.inr (.inl h))
  · exact .inr (.inr (.inr (.inl h)))
  · exact .inr (.inr (.inr (.inr (.inr h))))
def isTwo : PyData → Bool
  | .tuple ds => decide (ds.length = 2)
  | _ => false
theorem two_is {d : PyData} (h : isTwo d = true) : ∃ x y, d = .tuple [x, y] := by
  cases d with
  | tuple ds =>
    obtain ⟨x, y, rfl⟩ := two_of (of_decide_eq_true h)
    exact ⟨x, y, rfl⟩
  | _ => cases h
theorem rel_two {ds : List PyData} (h : ds.all isTwo = false) : isRelD (.tuple ds) = false := by
  show ds.all isPairD = false
  rw [Bool.eq_false_iff]
  intro a
  rw [Bool.eq_false_iff] at h
  refine h (List.all_eq_true.mpr fun d hd => ?_)
  have q := List.all_eq_true.mp a d hd
  cases d with
  | tuple xs =>
    refine decide_eq_true ?_
    by_cases c : xs.length = 2
    · exact c
    · rw [pair_len c] at q; cases q
  | _ => cases q
theorem val_len {ds : List PyData} (h : ds.length ≠ 2) : isVal (.tuple ds) = false := by
  rcases ds with _ | ⟨x, _ | ⟨y, _ | ⟨z, r⟩⟩⟩
  · rfl
  · cases x <;> rfl
  · exact absurd rfl h
  · cases x <;> cases y <;> rfl
theorem val_x {x y : PyData} (h : isNum x = false) : isVal (.tuple [x, y]) = false := by cases x <;> first | rfl | cases h
theorem val_y {x y : PyData} (h : isNum y = false) : isVal (.tuple [x, y]) = false := by cases x <;> cases y <;> first | rfl | cases h
section
variable {P : Program} {w : World} {K : PySem.W.Frag} {mg : Str → Option Value} {base : Heap}
theorem ok__law_whole (T : Txt w K mg) : FnOk P w K mg base CX0 1 T.a__law_whole T.d__law_whole ["thing"] (spP1 K fun d => .bl (isNum d)) := by
  refine T.F__law_whole.ok sc__law_whole (fun vs H Q E h => ?_) (fun cdv A outer s H vs Q E hr h => ?_)
  · obtain ⟨v, d, rfl, _⟩ := h
    rfl
  · obtain ⟨v, d, rfl, hD, k⟩ := h
    refine ⟨_, (pss_one (ps_ret (pe_and (pe_callB (call_isiDK (K := K) rfl) (by rfl) T.n_isinstance (by decide +kernel) (pa_cons (pv 0) (pa_cons (pe_bltn (v := .ty "int") (u := .type "int") (by rfl) T.n_int (by decide +kernel) rfl) pa_nil))) (pe_one (pe_not (pe_callB (call_isiDK (K := K) rfl) (by rfl) T.n_isinstance (by decide +kernel) (pa_cons (pv 0) (pa_cons (pe_bltn (v := .ty "bool") (u := .type "bool") (by rfl) T.n_bool (by decide +kernel) rfl) pa_nil)))))))), ?_⟩
    walk_at "rs"
    refine ⟨v, "int", ⟨rfl, rfl⟩, d, hD, by decide, ite2 (fun h => ⟨v, "bool", ⟨rfl, rfl⟩, d, hD, by decide, ?_⟩) (fun h => ?_)⟩
    · have e : isNum d = !isTy "bool" d := by cases d <;> first | rfl | cases h
      rw [← e]; exact k H (Same.refl _)
    · have e : isNum d = false := by cases d <;> first | rfl | (exact absurd rfl h)
      have q : Q (.bl (isNum d)) H := k H (Same.refl _)
      rw [e] at q; exact q
theorem ok__law_is_worth (T : Txt w K mg) : FnOk P w K mg base CX0 2 T.a__law_is_worth T.d__law_is_worth ["thing"] (spP K fun d => .bl (isVal d)) := by
  refine T.F__law_is_worth.ok sc__law_is_worth (fun vs H Q E h => ?_) (fun cdv A outer s H vs Q E hr h => ?_)
  · obtain ⟨v, d, rfl, _⟩ := h
    rfl
  · obtain ⟨v, d, rfl, hd, hok, k⟩ := h
    have hr__law_whole : Room 1 _ := hr
    have G__law_whole := ok__law_whole (P := P) (base := base) T
    have hr__law_low : Room 1 _ := hr
    have G__law_low := ok__law_low (P := P) (base := base) T
    refine ⟨_, (pss_cons (ps_if (PW.pt (pw_or (pt_not (pt_val (pe_callB (call_isiDK (K := K) rfl) (by rfl) T.n_isinstance (by decide +kernel) (pa_cons (pv 0) (pa_cons (pe_bltn (v := .ty "tuple") (u := .type "tuple") (by rfl) T.n_tuple (by decide +kernel) rfl) pa_nil))))) (pw_or (pt_cmpR op_neI (pe_callB call_lenD (by rfl) T.n_len (by decide +kernel) (pa_cons (pv 0) pa_nil)) pe_int (nomark _)) (pw_or (pt_not (pt_val (pe_call G__law_whole hr__law_whole (by rfl) T.m__law_whole T.F__law_whole.kp T.B__law_whole .nil pass0 (pa_cons (pe_ix ix_tup (pv 0) pe_int (fun _ _ => rfl)) pa_nil)))) (pw_or1 (pt_not (pt_val (pe_call G__law_whole hr__law_whole (by rfl) T.m__law_whole T.F__law_whole.kp T.B__law_whole .nil pass0 (pa_cons (pe_ix ix_tup (pv 0) pe_int (fun _ _ => rfl)) pa_nil))))))))) (pss_one (ps_ret pe_bl)) pss_nil)
      (pss_one (ps_ret (pe_and (pe_cmpR op_ge (pe_ix ix_tup (pv 0) pe_int (fun _ _ => rfl)) pe_int (nomark _)) (pe_and (pe_cmpR (op_eqD hr.units) (pe_call G__law_low hr__law_low (by rfl) T.m__law_low T.F__law_low.kp T.B__law_low .nil pass0 (pa_cons (pe_ix ix_tup (pv 0) pe_int (fun _ _ => rfl)) (pa_cons (pe_ix ix_tup (pv 0) pe_int (fun _ _ => rfl)) pa_nil))) (pv 0) (nomark _)) (pe_and (pe_cmpR op_le (pe_callB call_abs (by rfl) T.n_abs (by decide +kernel) (pa_cons (pe_ix ix_tup (pv 0) pe_int (fun _ _ => rfl)) pa_nil)) (pe_op op_mulW pe_int (pe_ix ix_tup (pv 0) pe_int (fun _ _ => rfl))) (nomark _)) (pe_one (pe_cmpR op_le (pe_ix ix_tup (pv 0) pe_int (fun _ _ => rfl)) pe_int (nomark _))))))))), ?_⟩
    replace k : ∀ H', Same H H' → Q (.bl (isVal d)) H' := k
    have no : isVal d = false → ∀ H', Same H H' → Q (.bl false) H' := fun e H' s' => by rw [← e]; exact k H' s'
    refine seq_op fun N hN => ?_
    walk_at "rs"
    refine ⟨v, "tuple", ⟨rfl, rfl⟩, d, hd, by decide, ite2 (fun e => no (by cases d <;> first | rfl | cases e) H (Same.refl _)) (fun e => ?_)⟩
    obtain ⟨ds, rfl⟩ := is_tup (by simpa using e)
    refine ⟨_, hd, .inl ⟨ds, .inr rfl, ite2 (fun e2 => no (val_len (by omega)) H (Same.refl _)) (fun e2 => ?_)⟩⟩
    obtain ⟨x, y, rfl⟩ := two_of (by omega : ds.length = 2)
    obtain ⟨a, xs, rfl, ha, hx⟩ := dp_tup hd
    obtain ⟨vx, vy, rfl, hdx, hdy⟩ := dpa_two hx
    refine ⟨a, rfl, _, ha, vx, rfl, vx, x, rfl, hdx, fun H1 s1 => ⟨isNum x, rfl, ite2 (fun e3 => no (val_x e3) H1 s1) (fun e3 => ?_)⟩⟩
    refine ⟨a, rfl, _, Same.seqT s1 ha, vy, rfl, vy, y, rfl, dp_same s1 hdy, fun H2 s2 => ⟨isNum y, rfl, ite2 (fun e4 => no (val_y e4) H2 (Same.trans s1 s2)) (fun e4 => hN _ _ ?_)⟩⟩
    clear hN N
    obtain ⟨p, rfl⟩ : ∃ p, x = .int p := by cases x <;> first | exact ⟨_, rfl⟩ | exact absurd rfl e3
    obtain ⟨q, rfl⟩ : ∃ q, y = .int q := by cases y <;> first | exact ⟨_, rfl⟩ | exact absurd rfl e4
    cases hdx
    cases hdy
    obtain ⟨bp, bq⟩ := okD_two hok
    have S2 := Same.trans s1 s2
    have ev : isVal (.tuple [.int p, .int q]) = ((decide (1 ≤ q) && decide (Nat.gcd p.natAbs q.natAbs = 1)) && (decide (q ≤ 9999) && decide ((p.natAbs : Int) ≤ 99 * q))) := rfl
    rw [ev] at k
    replace k := fun H' (s' : Same H2 H') => k H' (Same.trans S2 s')
    replace ha := Same.seqT S2 ha
    clear no e e2 e3 e4 s1 s2 S2 hd hx ev
    walk_at "rs"
    have pq : Pr K H2 a p q := ha
    refine ⟨_, ha, _, rfl, q, rfl, ite2 (fun e1 => ?_) (fun e1 => ?_)⟩
    · rw [decide_eq_true e1, Bool.true_and] at k
      refine ⟨_, ha, _, rfl, _, ha, _, rfl, p, q, ⟨rfl, rfl⟩, by omega, pow_le bp (by decide), pow_le bq (by decide), fun t H3 s3 n3 h3 => ⟨.tuple [.int (frP p q), .int (frQ p q)], .tuple [.int p, .int q], dp_pair (.inl (.inl h3)), dp_pair (Same.seqT s3 ha), shaped2 _ _, shaped2 _ _, _, rfl, ?_⟩⟩
      rw [low_eq e1]
      refine ite2 (fun e2 => ?_) (fun e2 => ?_)
      · rw [e2, Bool.true_and] at k
        have ha3 := Same.seqT s3 ha
        refine ⟨_, ha3, _, rfl, p, rfl, ?_⟩
        have q3 := k H3 s3
        refine ⟨_, ha3, _, rfl, q, rfl, wide_mul (a := 8) (b := 8000) (by decide) (pow_le bq (by decide)) (by decide) (by decide) (by decide), ?_⟩
        rw [abs_if]
        refine ite2 (fun e3 => ?_) (fun e3 => ?_)
        · rw [decide_eq_true e3, Bool.and_true] at q3
          exact ⟨_, ha3, _, rfl, q, rfl, q3⟩
        · rw [decide_eq_false e3, Bool.and_false] at q3
          exact q3
      · rw [Bool.eq_false_iff.mpr e2, Bool.false_and] at k
        exact k H3 s3
    · rw [decide_eq_false e1, Bool.false_and, Bool.false_and] at k
      exact k H2 (Same.refl _)
theorem ok__law_is_mark (T : Txt w K mg) : FnOk P w K mg base CX0 3 T.a__law_is_mark T.d__law_is_mark ["thing"] (spP K fun d => .bl (isRelD d)) := by
  refine T.F__law_is_mark.ok sc__law_is_mark (fun vs H Q E h => ?_) (fun cdv A outer s H vs Q E hr h => ?_)
  · obtain ⟨v, d, rfl, _⟩ := h
    rfl
  · obtain ⟨v, d, rfl, hd, hok, k⟩ := h
    have hr__law_is_worth : Room 2 _ := hr
    have G__law_is_worth := ok__law_is_worth (P := P) (base := base) T
    refine ⟨_, (pss_cons (ps_if (pt_val (pe_callB (call_isiDK (K := K) rfl) (by rfl) T.n_isinstance (by decide +kernel) (pa_cons (pv 0) (pa_cons (pe_bltn (v := .ty "str") (u := .type "str") (by rfl) T.n_str (by decide +kernel) rfl) pa_nil)))) (pss_one (ps_ret (pe_cmpR op_in_seq (pv 0) (pe_lstU (pa_cons pe_str (pa_cons pe_str (pa_cons pe_str (pa_cons pe_str (pa_cons pe_str (pa_cons pe_str pa_nil))))))) (by rfl)))) pss_nil)
      (pss_cons (ps_if (PW.pt (pw_or (pt_not (pt_val (pe_callB (call_isiDK (K := K) rfl) (by rfl) T.n_isinstance (by decide +kernel) (pa_cons (pv 0) (pa_cons (pe_bltn (v := .ty "tuple") (u := .type "tuple") (by rfl) T.n_tuple (by decide +kernel) rfl) pa_nil))))) (pw_or1 (pt_not (pt_val (pe_callB (cr_all rfl) (by rfl) T.n_all (by decide +kernel) (pa_cons (pe_lc (own := [("pair", 1)]) (g := gName 1) (tt := tYes) rfl sc__law_is_mark.nd (pi_tup (pv 0)) (blkOk_by (own := [("pair", 1)]) (N := N__law_is_mark) (sc := defScope s__law_is_mark) (by decide +kernel)) (fun _ _ _ _ _ => pg_name (i := 1) sc__law_is_mark.nd rfl (Or.inl rfl)) (fun _ _ _ _ _ => pts_nil) (fun _ _ _ _ _ => (pe_and (pe_callB (call_isiDK (K := K) rfl) (by rfl) T.n_isinstance (by decide +kernel) (pa_cons (pv 1) (pa_cons (pe_bltn (v := .ty "tuple") (u := .type "tuple") (by rfl) T.n_tuple (by decide +kernel) rfl) pa_nil))) (pe_one (pe_cmpR op_eqI (pe_callB (call_lenDK (K := K) rfl) (by rfl) T.n_len (by decide +kernel) (pa_cons (pv 1) pa_nil)) pe_int (nomark _)))))) pa_nil))))))) (pss_one (ps_ret pe_bl)) pss_nil)
      (pss_one (ps_ret (pe_callB (cr_all rfl) (by rfl) T.n_all (by decide +kernel) (pa_cons (pe_lc (own := [("pair", 1)]) (g := gName 1) (tt := tYes) rfl sc__law_is_mark.nd (pi_tup (pv 0)) (blkOk_by (own := [("pair", 1)]) (N := N__law_is_mark) (sc := defScope s__law_is_mark) (by decide +kernel)) (fun _ _ _ _ _ => pg_name (i := 1) sc__law_is_mark.nd rfl (Or.inl rfl)) (fun _ _ _ _ _ => pts_nil) (fun _ _ _ _ _ => (pe_and (pe_call G__law_is_worth hr__law_is_worth (by rfl) T.m__law_is_worth T.F__law_is_worth.kp T.B__law_is_worth .nil pass0 (pa_cons (pe_ix (ix_tupK (K := K) rfl) (pv 1) pe_int (fun _ _ => rfl)) pa_nil)) (pe_one (pe_call G__law_is_worth hr__law_is_worth (by rfl) T.m__law_is_worth T.F__law_is_worth.kp T.B__law_is_worth .nil pass0 (pa_cons (pe_ix (ix_tupK (K := K) rfl) (pv 1) pe_int (fun _ _ => rfl)) pa_nil)))))) pa_nil)))))), ?_⟩
    replace k : ∀ H', Same H H' → Q (.bl (isRelD d)) H' := k
    refine seq_op fun N hN => ?_
    walk_at "rs"
    refine ⟨v, "str", ⟨rfl, rfl⟩, d, hd, by decide, ite2 (fun e => ?_) (fun e => hN _ _ ?_)⟩
    · obtain ⟨z, rfl⟩ := is_str e
      cases hd
      exact ⟨by decide, fun p H1 s1 n1 h1 => ⟨_, .inl (SqL.of h1), rfl, by decide +kernel, k H1 s1⟩⟩
    clear hN N
    refine seq_op fun N hN => ?_
    walk_at "rs"
    have no : isRelD d = false → ∀ H', Same H H' → Q (.bl false) H' := fun e H' s' => by rw [← e]; exact k H' s'
    refine ⟨v, "tuple", ⟨rfl, rfl⟩, d, hd, by decide, ite2 (fun e2 => no (by cases d <;> first | rfl | exact absurd rfl e | cases e2) H (Same.refl _)) (fun e2 => ?_)⟩
    obtain ⟨ds, rfl⟩ := is_tup (by simpa using e2)
    obtain ⟨a, xs, rfl, ha, hx⟩ := dp_tup hd
    have hl := (okD_tup.mp hok).1
    refine ⟨_, rfl, a, rfl, ⟨_, ha⟩, fun D hD => lc_data (fun d => .bl (isTwo d)) ha hx hD (by omega) (fun x d1 H1 hm h1 s1 Q2 hq => ?_) (fun H1 s1 h1 => ?_)⟩
    · walk_at "rs"
      refine ⟨x, "tuple", ⟨rfl, rfl⟩, d1, h1, by decide, ite2 (fun e3 => ?_) (fun e3 => ?_)⟩
      · obtain ⟨es, rfl⟩ := is_tup e3
        refine ⟨_, h1, .inl ⟨es, .inr rfl, ?_⟩⟩
        have q := hq H1 (Same.refl _)
        have ee : isTwo (.tuple es) = decide ((es.length : Int) = 2) := by
          show decide (es.length = 2) = _
          exact decide_eq_decide.mpr (by omega)
        rw [ee] at q
        exact q
      · have q := hq H1 (Same.refl _)
        have ee : isTwo d1 = false := by cases d1 <;> first | rfl | exact absurd rfl e3
        rw [ee] at q
        exact q
    · refine ⟨D, ds.map isTwo, rfl, SqL.of (by rw [h1, List.map_map]; rfl), _, rfl, ?_⟩
      rw [all_map_id]
      refine ite2 (fun e3 => no (rel_two e3) H1 s1) (fun e3 => hN _ _ ?_)
      clear hN N
      have all2 : ∀ d ∈ ds, isTwo d = true := List.all_eq_true.mp (by simpa using e3)
      walk_at "rs"
      refine ⟨_, rfl, a, rfl, ⟨_, Same.seqT s1 ha⟩, fun D2 hD2 => lc_data (fun d => .bl (isPairD d)) (Same.seqT s1 ha) (dpa_same s1 hx) hD2 (by omega) (fun x d1 H2 hm h2 s2 Q2 hq => ?_) (fun H2 s2 h2 => ?_)⟩
      · obtain ⟨x1, y1, rfl⟩ := two_is (all2 d1 hm)
        have hok1 := okD_tup.mp (ok_mem (okD_tup.mp hok).2 hm)
        have o1 : okD x1 = true ∧ okD y1 = true := ⟨ok_mem hok1.2 (by simp), ok_mem hok1.2 (by simp)⟩
        obtain ⟨p, zs, rfl, hp, hz⟩ := dp_tup h2
        obtain ⟨vx, vy, rfl, hdx, hdy⟩ := dpa_two hz
        walk_at "rs"
        have ep : isPairD (.tuple [x1, y1]) = (isVal x1 && isVal y1) := rfl
        rw [ep] at hq
        refine ⟨_, hp, vx, rfl, vx, x1, rfl, hdx, o1.1, fun H3 s3 => ⟨isVal x1, rfl, ite2 (fun e4 => ?_) (fun e4 => ?_)⟩⟩
        · rw [e4, Bool.true_and] at hq
          exact ⟨_, Same.seqT s3 hp, vy, rfl, vy, y1, rfl, dp_same s3 hdy, o1.2, fun H4 s4 => hq H4 (Same.trans s3 s4)⟩
        · rw [Bool.eq_false_iff.mpr e4, Bool.false_and] at hq
          exact hq H3 s3
      · refine ⟨D2, ds.map isPairD, rfl, SqL.of (by rw [h2, List.map_map]; rfl), ?_⟩
        rw [all_map_id]
        exact k H2 (Same.trans s1 s2)
theorem ok__law_is_row (T : Txt w K mg) : FnOk P w K mg base CX0 6 T.a__law_is_row T.d__law_is_row ["thing"] (spP K fun d => .bl (isLineD d)) := by
  refine T.F__law_is_row.ok sc__law_is_row (fun vs H Q E h => ?_) (fun cdv A outer s H vs Q E hr h => ?_)
  · obtain ⟨v, d, rfl, _⟩ := h
    rfl
  · obtain ⟨v, d, rfl, hd, hok, k⟩ := h
    have hr__law_is_own : Room 2 _ := hr.mono (by decide)
    have G__law_is_own := ok__law_is_own (P := P) (base := base) T
    have hr__law_is_name : Room 3 _ := hr.mono (by decide)
    have G__law_is_name := ok__law_is_name (P := P) (base := base) T
    have hr__law_is_prefix : Room 5 _ := hr
    have G__law_is_prefix := ok__law_is_prefix (P := P) (base := base) T
    have hr__law_is_worth : Room 2 _ := hr.mono (by decide)
    have G__law_is_worth := ok__law_is_worth (P := P) (base := base) T
    have hr__law_is_mark : Room 3 _ := hr.mono (by decide)
    have G__law_is_mark := ok__law_is_mark (P := P) (base := base) T
    have hr__law_whole : Room 1 _ := hr.mono (by decide)
    have G__law_whole := ok__law_whole (P := P) (base := base) T
    refine ⟨_, (pss_cons (ps_if (PW.pt (pw_or (pt_not (pt_val (pe_callB (call_isiDK (K := K) rfl) (by rfl) T.n_isinstance (by decide +kernel) (pa_cons (pv 0) (pa_cons (pe_bltn (v := .ty "tuple") (u := .type "tuple") (by rfl) T.n_tuple (by decide +kernel) rfl) pa_nil))))) (pw_or (pt_cmpR op_lt (pe_callB call_lenD (by rfl) T.n_len (by decide +kernel) (pa_cons (pv 0) pa_nil)) pe_int (nomark _)) (pw_or (pt_not (pt_val (pe_callB (call_isiDK (K := K) rfl) (by rfl) T.n_isinstance (by decide +kernel) (pa_cons (pe_ix ix_tup (pv 0) pe_int (fun _ _ => rfl)) (pa_cons (pe_bltn (v := .ty "str") (u := .type "str") (by rfl) T.n_str (by decide +kernel) rfl) pa_nil))))) (pw_or1 (pt_not (pt_val (pe_call G__law_is_own hr__law_is_own (by rfl) T.m__law_is_own T.F__law_is_own.kp T.B__law_is_own .nil pass0 (pa_cons (pe_ix ix_tup (pv 0) pe_int (fun _ _ => rfl)) pa_nil))))))))) (pss_one (ps_ret pe_bl)) pss_nil)
      (pss_cons (ps_if (pt_cmpR op_eqS (pe_ix ix_tup (pv 0) pe_int (fun _ _ => rfl)) pe_str (nomark _)) (pss_one (ps_ret (pe_and (pe_cmpR op_eqI (pe_callB call_lenD (by rfl) T.n_len (by decide +kernel) (pa_cons (pv 0) pa_nil)) pe_int (nomark _)) (pe_one (pe_call G__law_is_prefix hr__law_is_prefix (by rfl) T.m__law_is_prefix T.F__law_is_prefix.kp T.B__law_is_prefix .nil pass0 (pa_cons (pe_ix ix_tup (pv 0) pe_int (fun _ _ => rfl)) pa_nil)))))) pss_nil)
      (pss_cons (ps_if (pt_cmpR op_eqS (pe_ix ix_tup (pv 0) pe_int (fun _ _ => rfl)) pe_str (nomark _)) (pss_cons (ps_if (PW.pt (pw_or (pt_cmpR op_neI (pe_callB call_lenD (by rfl) T.n_len (by decide +kernel) (pa_cons (pv 0) pa_nil)) pe_int (nomark _)) (pw_or (pt_not (pt_val (pe_callB (call_isiDK (K := K) rfl) (by rfl) T.n_isinstance (by decide +kernel) (pa_cons (pe_ix ix_tup (pv 0) pe_int (fun _ _ => rfl)) (pa_cons (pe_bltn (v := .ty "tuple") (u := .type "tuple") (by rfl) T.n_tuple (by decide +kernel) rfl) pa_nil))))) (pw_or1 (pt_not (pt_val (pe_callB (call_isiDK (K := K) rfl) (by rfl) T.n_isinstance (by decide +kernel) (pa_cons (pe_ix ix_tup (pv 0) pe_int (fun _ _ => rfl)) (pa_cons (pe_bltn (v := .ty "tuple") (u := .type "tuple") (by rfl) T.n_tuple (by decide +kernel) rfl) pa_nil))))))))) (pss_one (ps_ret pe_bl)) pss_nil)
      (pss_cons (ps_if (PW.pt (pw_or (pt_cmpR op_gt (pe_callB call_lenD (by rfl) T.n_len (by decide +kernel) (pa_cons (pe_ix ix_tup (pv 0) pe_int (fun _ _ => rfl)) pa_nil)) pe_int (nomark _)) (pw_or (pt_cmpR op_gt (pe_callB call_lenD (by rfl) T.n_len (by decide +kernel) (pa_cons (pe_ix ix_tup (pv 0) pe_int (fun _ _ => rfl)) pa_nil)) pe_int (nomark _)) (pw_or1 (pt_not (pt_val (pe_callB (cr_all rfl) (by rfl) T.n_all (by decide +kernel) (pa_cons (pe_lc (own := [("one", 1)]) (g := gName 1) (tt := tYes) rfl sc__law_is_row.nd (pi_tup (pe_ix ix_tup (pv 0) pe_int (fun _ _ => rfl))) (blkOk_by (own := [("one", 1)]) (N := N__law_is_row) (sc := defScope s__law_is_row) (by decide +kernel)) (fun _ _ _ _ _ => pg_name (i := 1) sc__law_is_row.nd rfl (Or.inl rfl)) (fun _ _ _ _ _ => pts_nil) (fun _ _ _ _ _ => (pe_call G__law_is_name hr__law_is_name (by rfl) T.m__law_is_name T.F__law_is_name.kp T.B__law_is_name .nil pass0 (pa_cons (pv 1) pa_nil)))) pa_nil)))))))) (pss_one (ps_ret pe_bl)) pss_nil)
      (pss_one (ps_ret (pe_callB (cr_all rfl) (by rfl) T.n_all (by decide +kernel) (pa_cons (pe_lc (own := [("one", 1)]) (g := gName 1) (tt := tYes) rfl sc__law_is_row.nd (pi_tup (pe_ix ix_tup (pv 0) pe_int (fun _ _ => rfl))) (blkOk_by (own := [("one", 1)]) (N := N__law_is_row) (sc := defScope s__law_is_row) (by decide +kernel)) (fun _ _ _ _ _ => pg_name (i := 1) sc__law_is_row.nd rfl (Or.inl rfl)) (fun _ _ _ _ _ => pts_nil) (fun _ _ _ _ _ => (pe_call G__law_is_worth hr__law_is_worth (by rfl) T.m__law_is_worth T.F__law_is_worth.kp T.B__law_is_worth .nil pass0 (pa_cons (pv 1) pa_nil)))) pa_nil)))))) pss_nil)
      (pss_cons (ps_if (pt_cmpR op_eqS (pe_ix ix_tup (pv 0) pe_int (fun _ _ => rfl)) pe_str (nomark _)) (pss_one (ps_ret (pe_and (pe_cmpR op_eqI (pe_callB call_lenD (by rfl) T.n_len (by decide +kernel) (pa_cons (pv 0) pa_nil)) pe_int (nomark _)) (pe_and (pe_call G__law_is_name hr__law_is_name (by rfl) T.m__law_is_name T.F__law_is_name.kp T.B__law_is_name .nil pass0 (pa_cons (pe_ix ix_tup (pv 0) pe_int (fun _ _ => rfl)) pa_nil)) (pe_and (pe_call G__law_is_mark hr__law_is_mark (by rfl) T.m__law_is_mark T.F__law_is_mark.kp T.B__law_is_mark .nil pass0 (pa_cons (pe_ix ix_tup (pv 0) pe_int (fun _ _ => rfl)) pa_nil)) (pe_one (pe_call G__law_is_name hr__law_is_name (by rfl) T.m__law_is_name T.F__law_is_name.kp T.B__law_is_name .nil pass0 (pa_cons (pe_ix ix_tup (pv 0) pe_int (fun _ _ => rfl)) pa_nil)))))))) pss_nil)
      (pss_cons (ps_if (PW.pt (pw_or (pt_cmpR op_notIn_seq (pe_ix ix_tup (pv 0) pe_int (fun _ _ => rfl)) (pe_lstU (pa_cons pe_str (pa_cons pe_str (pa_cons pe_str pa_nil)))) (by rfl)) (pw_or1 (pt_cmpR op_neI (pe_callB call_lenD (by rfl) T.n_len (by decide +kernel) (pa_cons (pv 0) pa_nil)) pe_int (nomark _))))) (pss_one (ps_ret pe_bl)) pss_nil)
      (pss_cons (ps_if (PW.pt (pw_or (pt_not (pt_val (pe_call G__law_is_name hr__law_is_name (by rfl) T.m__law_is_name T.F__law_is_name.kp T.B__law_is_name .nil pass0 (pa_cons (pe_ix ix_tup (pv 0) pe_int (fun _ _ => rfl)) pa_nil)))) (pw_or (pt_not (pt_val (pe_call G__law_is_name hr__law_is_name (by rfl) T.m__law_is_name T.F__law_is_name.kp T.B__law_is_name .nil pass0 (pa_cons (pe_ix ix_tup (pv 0) pe_int (fun _ _ => rfl)) pa_nil)))) (pw_or (pt_not (pt_val (pe_call G__law_is_mark hr__law_is_mark (by rfl) T.m__law_is_mark T.F__law_is_mark.kp T.B__law_is_mark .nil pass0 (pa_cons (pe_ix ix_tup (pv 0) pe_int (fun _ _ => rfl)) pa_nil)))) (pw_or1 (pt_not (pt_val (pe_call G__law_is_name hr__law_is_name (by rfl) T.m__law_is_name T.F__law_is_name.kp T.B__law_is_name .nil pass0 (pa_cons (pe_ix ix_tup (pv 0) pe_int (fun _ _ => rfl)) pa_nil))))))))) (pss_one (ps_ret pe_bl)) pss_nil)
      (pss_one (ps_ret (pe_and (pe_call G__law_whole hr__law_whole (by rfl) T.m__law_whole T.F__law_whole.kp T.B__law_whole .nil pass0 (pa_cons (pe_ix ix_tup (pv 0) pe_int (fun _ _ => rfl)) pa_nil)) (pe_one (pe_cmpR op_le (pe_callB call_abs (by rfl) T.n_abs (by decide +kernel) (pa_cons (pe_ix ix_tup (pv 0) pe_int (fun _ _ => rfl)) pa_nil)) pe_int (nomark _)))))))))))), ?_⟩
    replace k : ∀ H', Same H H' → Q (.bl (isLineD d)) H' := k
    have no : isLineD d = false → ∀ H', Same H H' → Q (.bl false) H' := fun e H' s' => by rw [← e]; exact k H' s'
    refine seq_op fun N hN => ?_
    walk_at "rs"
    refine ⟨v, "tuple", ⟨rfl, rfl⟩, d, hd, by decide, ite2 (fun e => no (by cases d <;> first | rfl | cases e) H (Same.refl _)) (fun e => ?_)⟩
    obtain ⟨ds, rfl⟩ := is_tup (by simpa using e)
    clear e
    have hd0 := hd
    obtain ⟨a, xs, rfl, ha, hx⟩ := dp_tup hd
    have len := dpa_len4 hx
    refine ⟨_, hd0, .inl ⟨ds, .inr rfl, ite2 (fun e => no (line_len (by omega)) H (Same.refl _)) (fun e => ?_)⟩⟩
    obtain ⟨kd, own, p, r, rfl⟩ := more_of (by omega : 3 ≤ ds.length)
    have okA := (okD_tup.mp hok).2
    have okL := (okD_tup.mp hok).1
    obtain ⟨vk, vo, ys, rfl, hk, ho, hy⟩ := dpa_two_more hx
    have ok2 : okD kd = true ∧ okD own = true ∧ okAll (p :: r) = true := by
      unfold okAll at okA
      rw [Bool.and_eq_true] at okA
      refine ⟨okA.1, ?_⟩
      have q := okA.2
      unfold okAll at q
      rw [Bool.and_eq_true] at q
      exact q
    refine ⟨a, rfl, _, ha, vk, at_ofN (j := 0) rfl rfl, vk, "str", ⟨rfl, rfl⟩, kd, hk, by decide, ite2 (fun e1 => no (line_kind (kind_not e1)) H (Same.refl _)) (fun e1 => ?_)⟩
    obtain ⟨z, rfl⟩ := is_str (by simpa using e1)
    cases hk
    refine ⟨a, rfl, _, ha, vo, at_ofN (j := 1) rfl rfl, vo, own, rfl, ho, ok2.2.1, fun H1 s1 => ⟨isOwnD own, rfl, ite2 (fun e2 => no (line_own e2) H1 s1) (fun e2 => hN _ _ ?_)⟩⟩
    clear hN N e e1
    have eown : isOwnD own = true := by simpa using e2
    have ev : isLineD (.tuple (.str z :: own :: p :: r)) = (inV (.str z) kindV && lineK z (p :: r)) := by
      show (decide (1 ≤ (p :: r).length) && (isOwnD own && (inV (.str z) kindV && lineK z (p :: r)))) = _
      rw [eown, decide_eq_true (show 1 ≤ (p :: r).length by simp), Bool.true_and, Bool.true_and]
    rw [ev] at k no
    have okP := ok2.2.2
    have hlp : r.length ≤ 100000 := by simp at okL; omega
    replace k := fun H' (s' : Same H1 H') => k H' (Same.trans s1 s')
    replace no := fun e H' (s' : Same H1 H') => no e H' (Same.trans s1 s')
    replace ha := Same.seqT s1 ha
    replace hy := dpa_same s1 hy
    replace hd0 := dp_same s1 hd0
    have len2 := dpa_len4 hy
    clear ev eown e2 ho ok2 okA okL hok len hx hd s1
    obtain ⟨vp, yr, rfl, hp, hyr⟩ := dpa_more hy
    have o1 : okD p = true := ok_mem okP (by simp)
    have ix2 : ∀ (l : List V), atI (V.str z :: vo :: vp :: l) 2 = some vp := fun l => at_ofN (j := 2) rfl rfl
    have ix0 : ∀ (l : List V), atI (V.str z :: vo :: vp :: l) 0 = some (.str z) := fun l => at_ofN (j := 0) rfl rfl
    refine seq_op fun N hN => ?_
    walk_at "rs"
    refine ⟨_, ha, _, ix0 _, z, rfl, ite2 (fun eb => ?_) (fun nb => hN _ _ ?_)⟩
    · subst eb
      have ek : (inV (.str "be") kindV && lineK "be" (p :: r)) = beK (p :: r) := rfl
      rw [ek] at k no
      refine ⟨_, hd0, .inl ⟨_, .inr rfl, ite2 (fun e => ?_) (fun e => no ?_ _ (Same.refl _))⟩⟩
      · obtain rfl : r = [] := List.eq_nil_of_length_eq_zero (by simp at e; omega)
        have ej : beK [p] = isPre p := judge_eq o1
        rw [ej] at k
        exact ⟨_, ha, vp, ix2 _, vp, p, rfl, hp, o1, k⟩
      · cases r with
        | nil => exact absurd rfl e
        | cons _ _ => rfl
    clear hN N
    refine seq_op fun N hN => ?_
    walk_at "rs"
    refine ⟨_, ha, _, ix0 _, z, rfl, ite2 (fun eb => ?_) (fun nt => hN _ _ ?_)⟩
    · subst eb
      have ek : (inV (.str "table") kindV && lineK "table" (p :: r)) = tabK (p :: r) := rfl
      rw [ek] at k no
      refine seq_op fun N2 hN2 => ?_
      walk_at "rs"
      refine ⟨_, hd0, .inl ⟨_, .inr rfl, ite2 (fun e => no ?_ _ (Same.refl _)) (fun e => ?_)⟩⟩
      · rcases r with _ | ⟨x, _ | ⟨y, r⟩⟩
        · rfl
        · exact absurd rfl e
        · rfl
      obtain ⟨p2, rfl⟩ := one_of (by simp at e; omega : r.length = 1)
      obtain ⟨vr, rfl, hp2⟩ := dpa_one hyr
      have o2 : okD p2 = true := ok_mem okP (by simp)
      have ev2 : tabK [p, p2] = (areNamesD p && areValsD p2) := rfl
      rw [ev2] at k no
      refine ⟨_, ha, vp, ix2 _, vp, "tuple", ⟨rfl, rfl⟩, p, hp, by decide, ite2 (fun e1 => no (by cases p <;> first | rfl | cases e1) _ (Same.refl _)) (fun e1 => ?_)⟩
      obtain ⟨ns, rfl⟩ := is_tup (by simpa using e1)
      refine ⟨_, ha, vr, at_ofN (j := 3) rfl rfl, vr, "tuple", ⟨rfl, rfl⟩, p2, hp2, by decide, ite2 (fun e2 => no (by cases p2 <;> first | exact Bool.and_false _ | cases e2) _ (Same.refl _)) (fun e2 => hN2 _ _ ?_)⟩
      clear hN2 N2
      obtain ⟨ws, rfl⟩ := is_tup (by simpa using e2)
      have ev3 : (areNamesD (.tuple ns) && areValsD (.tuple ws)) = ((decide (ns.length ≤ 12) && ns.all isNameD) && (decide (ws.length ≤ 400) && ws.all isVal)) := rfl
      rw [ev3] at k no
      have hp0 := hp
      have hp20 := hp2
      obtain ⟨a1, xs1, rfl, ha1, hx1⟩ := dp_tup hp
      obtain ⟨a2, xs2, rfl, ha2, hx2⟩ := dp_tup hp2
      have ho1 := okD_tup.mp o1
      have ho2 := okD_tup.mp o2
      refine seq_op fun N2 hN2 => ?_
      walk_at "rs"
      refine ⟨_, ha, _, ix2 _, .tuple ns, hp0, .inl ⟨ns, .inr rfl, ite2 (fun e1 => no (by rw [decide_eq_false (by omega), Bool.false_and, Bool.false_and]) _ (Same.refl _)) (fun e1 => ?_)⟩⟩
      refine ⟨_, ha, _, at_ofN (j := 3) rfl rfl, .tuple ws, hp20, .inl ⟨ws, .inr rfl, ite2 (fun e3 => no (by rw [decide_eq_false (by omega : ¬ ws.length ≤ 400), Bool.false_and, Bool.and_false]) _ (Same.refl _)) (fun e3 => ?_)⟩⟩
      rw [decide_eq_true (by omega : ns.length ≤ 12), decide_eq_true (by omega : ws.length ≤ 400), Bool.true_and, Bool.true_and] at k no
      refine ⟨_, rfl, _, _, _, _, rfl, rfl, ha, ix2 _, a1, rfl, ⟨_, ha1⟩, fun D hD => lc_data (fun d => .bl (isNameD d)) ha1 hx1 hD (by omega) (fun x d1 H2 hm h1 s1 Q2 hq => ?_) (fun H2 s2 h2 => ?_)⟩
      · walk_at "rs"
        exact ⟨x, d1, rfl, h1, ok_mem ho1.2 hm, hq⟩
      refine ⟨D, ns.map isNameD, rfl, SqL.of (by rw [h2, List.map_map]; rfl), ?_⟩
      rw [all_map_id]
      refine ⟨_, rfl, ite2 (fun e4 => no (by rw [e4, Bool.false_and]) _ s2) (fun e4 => hN2 _ _ ?_)⟩
      clear hN2 N2
      have e5 : ns.all isNameD = true := by simpa using e4
      rw [e5, Bool.true_and] at k
      walk_at "rs"
      have hb := Same.seqT s2 ha
      have hb2 := Same.seqT s2 ha2
      refine ⟨_, rfl, _, _, _, _, rfl, rfl, hb, at_ofN (j := 3) rfl rfl, a2, rfl, ⟨_, hb2⟩, fun D2 hD2 => lc_data (fun d => .bl (isVal d)) hb2 (dpa_same s2 hx2) hD2 (by omega) (fun x d1 H3 hm h1 s3 Q2 hq => ?_) (fun H3 s3 h3 => ?_)⟩
      · walk_at "rs"
        exact ⟨x, d1, rfl, h1, ok_mem ho2.2 hm, hq⟩
      refine ⟨D2, ws.map isVal, rfl, SqL.of (by rw [h3, List.map_map]; rfl), ?_⟩
      rw [all_map_id]
      exact k H3 (Same.trans s2 s3)
    clear hN N
    refine seq_op fun N hN => ?_
    walk_at "rs"
    refine ⟨_, ha, _, ix0 _, z, rfl, ite2 (fun eb => ?_) (fun nc => hN _ _ ?_)⟩
    · subst eb
      have ek : (inV (.str "count") kindV && lineK "count" (p :: r)) = askedD (p :: r) := rfl
      rw [ek] at k no
      refine ⟨_, hd0, .inl ⟨_, .inr rfl, ite2 (fun e => ?_) (fun e => no (asked_len (by simp at e ⊢; omega)) _ (Same.refl _))⟩⟩
      obtain ⟨x, y, rfl⟩ := two_of (by simp at e; omega : r.length = 2)
      obtain ⟨vx, vy, rfl, hdx, hdy⟩ := dpa_two hyr
      have ev2 : askedD [p, x, y] = (isNameD p && (isRelD x && isNameD y)) := rfl
      rw [ev2] at k
      refine ⟨_, ha, vp, ix2 _, vp, p, rfl, hp, o1, fun H2 s2 => ⟨isNameD p, rfl, ite2 (fun e1 => ?_) (fun e1 => ?_)⟩⟩
      · rw [e1, Bool.true_and] at k
        refine ⟨_, Same.seqT s2 ha, vx, at_ofN (j := 3) rfl rfl, vx, x, rfl, dp_same s2 hdx, ok_mem okP (by simp), fun H3 s3 => ⟨isRelD x, rfl, ite2 (fun e2 => ?_) (fun e2 => ?_)⟩⟩
        · rw [e2, Bool.true_and] at k
          exact ⟨_, Same.seqT (Same.trans s2 s3) ha, vy, at_ofN (j := 4) rfl rfl, vy, y, rfl, dp_same (Same.trans s2 s3) hdy, ok_mem okP (by simp), fun H4 s4 => k H4 (Same.trans s2 (Same.trans s3 s4))⟩
        · rw [Bool.eq_false_iff.mpr e2, Bool.false_and] at k
          exact k H3 (Same.trans s2 s3)
      · rw [Bool.eq_false_iff.mpr e1, Bool.false_and] at k
        exact k H2 s2
    clear hN N
    have ek : lineK z (p :: r) = lastK (p :: r) := by
      unfold lineK
      rw [if_neg nb, if_neg nt, if_neg nc]
    rw [ek] at k no
    refine seq_op fun N hN => ?_
    walk_at "rs"
    refine ⟨_, ha, _, ix0 _, by decide, fun q H2 s2 n2 h2 => ⟨_, .inl (SqL.of h2), rfl, by decide +kernel, ite2 (fun e => no (by rw [kind_last nb nt nc e]; rfl) _ s2) (fun e => ?_)⟩⟩
    refine ⟨_, dp_same s2 hd0, .inl ⟨_, .inr rfl, ite2 (fun e2 => no (by rw [last_len (by simp at e2; omega), Bool.and_false]) _ s2) (fun e2 => hN _ _ ?_)⟩⟩
    clear hN N
    have ez : inV (.str z) kindV = true := kind_in (by simpa using e)
    rw [ez, Bool.true_and] at k no
    obtain ⟨x, y, c, n, rfl⟩ := four_of (by simp at e2; omega : r.length = 4)
    obtain ⟨vx, vy, vc, vn, rfl, hdx, hdy, hdc, hdn⟩ := dpa_four hyr
    replace k := fun H' (s' : Same H2 H') => k H' (Same.trans s2 s')
    replace no := fun e H' (s' : Same H2 H') => no e H' (Same.trans s2 s')
    replace ha := Same.seqT s2 ha
    have ev2 : lastK [p, x, y, c, n] = (isNameD p && ((isNameD x && (isRelD y && isNameD c)) && nineD n)) := rfl
    rw [ev2] at k no
    replace hp := dp_same s2 hp
    replace hdx := dp_same s2 hdx
    replace hdy := dp_same s2 hdy
    replace hdc := dp_same s2 hdc
    replace hdn := dp_same s2 hdn
    have ox : okD x = true := ok_mem okP (by simp)
    have oy : okD y = true := ok_mem okP (by simp)
    have oc : okD c = true := ok_mem okP (by simp)
    have on : okD n = true := ok_mem okP (by simp)
    refine seq_op fun N hN => ?_
    walk_at "rs"
    refine ⟨_, ha, vp, ix2 _, vp, p, rfl, hp, o1, fun H3 s3 => ⟨isNameD p, rfl, ite2 (fun e3 => no (by rw [e3, Bool.false_and]) _ s3) (fun e3 => ?_)⟩⟩
    refine ⟨_, Same.seqT s3 ha, vx, at_ofN (j := 3) rfl rfl, vx, x, rfl, dp_same s3 hdx, ox, fun H4 s4 => ⟨isNameD x, rfl, ite2 (fun e4 => no (by rw [e4, Bool.false_and, Bool.false_and, Bool.and_false]) _ (Same.trans s3 s4)) (fun e4 => ?_)⟩⟩
    have t4 := Same.trans s3 s4
    refine ⟨_, Same.seqT t4 ha, vy, at_ofN (j := 4) rfl rfl, vy, y, rfl, dp_same t4 hdy, oy, fun H5 s5 => ⟨isRelD y, rfl, ite2 (fun e5 => no (by rw [e5, Bool.false_and, Bool.and_false, Bool.false_and, Bool.and_false]) _ (Same.trans t4 s5)) (fun e5 => ?_)⟩⟩
    have t5 := Same.trans t4 s5
    refine ⟨_, Same.seqT t5 ha, vc, at_ofN (j := 5) rfl rfl, vc, c, rfl, dp_same t5 hdc, oc, fun H6 s6 => ⟨isNameD c, rfl, ite2 (fun e6 => no (by rw [e6, Bool.and_false, Bool.and_false, Bool.false_and, Bool.and_false]) _ (Same.trans t5 s6)) (fun e6 => hN _ _ ?_)⟩⟩
    have t6 := Same.trans t5 s6
    clear hN N
    have f3 : isNameD p = true := by simpa using e3
    have f4 : isNameD x = true := by simpa using e4
    have f5 : isRelD y = true := by simpa using e5
    have f6 : isNameD c = true := by simpa using e6
    have ev : (isNameD p && ((isNameD x && (isRelD y && isNameD c)) && nineD n)) = nineD n := by
      rw [f3, f4, f5, f6, Bool.true_and, Bool.true_and, Bool.true_and, Bool.true_and]
    rw [ev] at k no
    walk_at "rs"
    refine ⟨_, Same.seqT t6 ha, vn, at_ofN (j := 6) rfl rfl, vn, n, rfl, dp_same t6 hdn, fun H7 s7 => ⟨isNum n, rfl, ite2 (fun e7 => ?_) (fun e7 => ?_)⟩⟩
    · have t7 := Same.trans t6 s7
      cases n with
      | int i =>
        have ei : nineD (.int i) = (decide (-9 ≤ i) && decide (i ≤ 9)) := rfl
        cases hdn
        refine ⟨_, Same.seqT t7 ha, .int i, at_ofN (j := 6) rfl rfl, i, rfl, ?_⟩
        rw [ei] at k
        have e8 : decide ((if i < 0 then -i else i) ≤ 9) = (decide (-9 ≤ i) && decide (i ≤ 9)) := by
          rw [← Bool.decide_and, decide_eq_decide]
          split <;> omega
        rw [e8]
        exact k _ t7
      | _ => cases e7
    · have e8 : nineD n = false := by
        cases n <;> first | rfl | exact absurd rfl e7
      exact no e8 _ (Same.trans t6 s7)
end
end LK

set_option Elab.async false
set_option linter.all false
set_option maxRecDepth 100000
set_option pp.deepTerms true
set_option pp.maxSteps 20000
namespace LK
open PySem PySem.Spec PyProof.Rows L2
local macro_rules | `(tactic| walk_at "rs") => `(tactic| simp only [cxK, cxNK, tCallZ, tAsg, tOp, rI0, rS0, rB0, rI, rU, tUn, rEq, rNe, rIxL, rIxT, rIxS, rSetL, rSlLU, rSlS, rSlU, rCatL, rCatU, rRepL, rIn, tVar, tC, gName, gSub, tIfS, tTest, tB, tAnd, tOr, tNot, tNotV, tAndV, tOrV, tIf, tCall, tCons, tNil, tCB, tDrop, tRet, tRetN, tNext, tLstU, tTupU, tM0, tM1, tPar, tPar3, tAug, ipI, tBM, tBM0, rAppend, rPop, tBreak, tCont, tChain, tSl, tPart, tNoPart, L2.start, List.map, List.length_cons, List.length_nil, List.replicate, List.cons_append, List.nil_append, List.append_nil, List.getElem?_cons_zero, List.getElem?_cons_succ, List.set_cons_zero, List.set_cons_succ, Option.some.injEq, V.int.injEq, V.ref.injEq, V.str.injEq, V.bl.injEq, exists_eq_left', exists_eq_left, exists_and_left, decide_eq_true_eq, List.cons.injEq, and_true, true_and, scal, Bool.not_eq_true', decide_eq_false_iff_not, Nat.zero_add, Nat.reduceAdd, Nat.reduceSub, reduceCtorEq, false_and, exists_false, false_or, or_false, CPow, CMul, CDiv, Int.reduceToNat, ↓reduceIte, wipe, sw, List.nil_append, List.singleton_append])
local macro_rules | `(tactic| walk_at "st") => `(tactic| (refine seq_op fun N hN => ?_; walk_at "rs"))
local macro_rules | `(tactic| walk_at "sd") => `(tactic| first | assumption | decide | omega)
local macro_rules | `(tactic| walk_at "rd") => `(tactic| repeat (first
  | refine ⟨_, SqL.of (by assumption), ?_⟩ | refine ⟨_, SqL.of upd_same, ?_⟩ | refine ⟨_, .inl (SqL.of (by assumption)), ?_⟩ | refine ⟨_, (by assumption : _ = some (HO.lst _)), ?_⟩ | refine ⟨_, upd_same, ?_⟩
  | refine ⟨_, rfl, ?_⟩ | refine And.intro (by walk_at "sd") ?_))

open TL
/-! ### the words of a line -/
abbrev frD (f : Int × Int) : PyData := .tuple [.int f.1, .int f.2]
def itemsD : PyData → List PyData
  | .tuple ds => ds
  | _ => []
def strD : PyData → Str
  | .str z => z
  | _ => ""
def numW : PyData → Str
  | .int i => strI i
  | _ => ""
def valW : PyData → Str
  | .tuple [.int p, .int q] => txtF p q
  | _ => ""
def pairW : PyData → Str
  | .tuple [a, b] => valW a ++ ":" ++ valW b
  | _ => ""
def relW (a : Str) (r : PyData) (c : Str) : List Str := match r with
  | .str z => [a, z, c]
  | r => a :: "pairs" :: c :: (itemsD r).map pairW
def tailW (k : Str) (ps : List PyData) : List Str :=
  if k = "be" then (itemsD (ps.getD 0 .none)).map strD
  else if k = "table" then (itemsD (ps.getD 0 .none)).map strD ++ (":" : Str) :: (itemsD (ps.getD 1 .none)).map valW
  else if k = "count" then "where" :: relW (strD (ps.getD 0 .none)) (ps.getD 1 .none) (strD (ps.getD 2 .none))
  else strD (ps.getD 0 .none) :: "where" :: (relW (strD (ps.getD 1 .none)) (ps.getD 2 .none) (strD (ps.getD 3 .none)) ++ [("else" : Str), numW (ps.getD 4 .none)])
def wordsD : PyData → List Str
  | .tuple (k :: own :: ps) => "let" :: strD own :: strD k :: tailW (strD k) ps
  | _ => []
def textD (d : PyData) : Str := Txt.join " " (wordsD d)
/-- what a valid line is made of -/
inductive Line : PyData → Prop
  | be (own : Str) (zs : List Str) (ho : isOwnD (.str own) = true) (hp : isPre (.tuple (zs.map .str)) = true) : Line (.tuple [.str "be", .str own, .tuple (zs.map .str)])
  | tab (own : Str) (ns : List Str) (fs : List (Int × Int)) (ho : isOwnD (.str own) = true) (ln : ns.length ≤ 12) (hn : ∀ z ∈ ns, isNameD (.str z) = true) (lf : fs.length ≤ 400) (hf : ∀ f ∈ fs, isVal (frD f) = true) :
      Line (.tuple [.str "table", .str own, .tuple (ns.map .str), .tuple (fs.map frD)])
  | cnt (own a c : Str) (r : PyData) (ho : isOwnD (.str own) = true) (ha : isNameD (.str a) = true) (hr : isRelD r = true) (hc : isNameD (.str c) = true) : Line (.tuple [.str "count", .str own, .str a, r, .str c])
  | lst (k own p a c : Str) (r : PyData) (i : Int) (hk : k = "first" ∨ k = "last" ∨ k = "mean") (ho : isOwnD (.str own) = true) (hp : isNameD (.str p) = true) (ha : isNameD (.str a) = true) (hr : isRelD r = true) (hc : isNameD (.str c) = true)
      (h1 : -9 ≤ i) (h2 : i ≤ 9) : Line (.tuple [.str k, .str own, .str p, .str a, r, .str c, .int i])
theorem name_str {d : PyData} (h : isNameD d = true) : ∃ z, d = .str z := by
  cases d <;> first | exact ⟨_, rfl⟩ | cases h
theorem own_str {d : PyData} (h : isOwnD d = true) : ∃ z, d = .str z := by
  cases d <;> first | exact ⟨_, rfl⟩ | cases h
theorem val_fr {d : PyData} (h : isVal d = true) : ∃ f : Int × Int, d = frD f := by
  unfold isVal at h
  split at h
  · exact ⟨(_, _), rfl⟩
  · cases h
theorem all_str : ∀ {ds : List PyData}, ds.all isNameD = true → ∃ zs : List Str, ds = zs.map .str ∧ ∀ z ∈ zs, isNameD (.str z) = true
  | [], _ => ⟨[], rfl, fun _ h => by cases h⟩
  | d :: ds, h => by
    rw [List.all_cons, Bool.and_eq_true] at h
    obtain ⟨zs, rfl, hz⟩ := all_str h.2
    obtain ⟨z, rfl⟩ := name_str h.1
    exact ⟨z :: zs, rfl, fun y hy => by
      rcases List.mem_cons.mp hy with rfl | hy
      · exact h.1
      · exact hz y hy⟩
theorem all_fr : ∀ {ds : List PyData}, ds.all isVal = true → ∃ fs : List (Int × Int), ds = fs.map frD ∧ ∀ f ∈ fs, isVal (frD f) = true
  | [], _ => ⟨[], rfl, fun _ h => by cases h⟩
  | d :: ds, h => by
    rw [List.all_cons, Bool.and_eq_true] at h
    obtain ⟨fs, rfl, hf⟩ := all_fr h.2
    obtain ⟨f, rfl⟩ := val_fr h.1
    exact ⟨f :: fs, rfl, fun y hy => by
      rcases List.mem_cons.mp hy with rfl | hy
      · exact h.1
      · exact hf y hy⟩
abbrev prD (p : (Int × Int) × (Int × Int)) : PyData := .tuple [frD p.1, frD p.2]
theorem all_pr : ∀ {ds : List PyData}, ds.all isPairD = true → ∃ ps : List ((Int × Int) × (Int × Int)), ds = ps.map prD ∧ ∀ p ∈ ps, isVal (frD p.1) = true ∧ isVal (frD p.2) = true
  | [], _ => ⟨[], rfl, fun _ h => by cases h⟩
  | d :: ds, h => by
    rw [List.all_cons, Bool.and_eq_true] at h
    obtain ⟨ps, rfl, hp⟩ := all_pr h.2
    have h1 := h.1
    unfold isPairD at h1
    split at h1
    · rw [Bool.and_eq_true] at h1
      obtain ⟨f, rfl⟩ := val_fr h1.1
      obtain ⟨g, rfl⟩ := val_fr h1.2
      exact ⟨(f, g) :: ps, rfl, fun y hy => by
        rcases List.mem_cons.mp hy with rfl | hy
        · exact h1
        · exact hp y hy⟩
    · cases h1
/-- the two kinds of relation -/
theorem rel_cases {r : PyData} (h : isRelD r = true) : (∃ z ∈ relL, r = .str z) ∨ ∃ ps : List ((Int × Int) × (Int × Int)), r = .tuple (ps.map prD) ∧ ∀ p ∈ ps, isVal (frD p.1) = true ∧ isVal (frD p.2) = true := by
  cases r with
  | str z =>
    have h : inV (.str z) (relL.map V.str) = true := h
    rw [inL] at h
    exact .inl ⟨z, of_decide_eq_true h, rfl⟩
  | tuple ds =>
    obtain ⟨ps, rfl, hp⟩ := all_pr (ds := ds) h
    exact .inr ⟨ps, rfl, hp⟩
  | _ => cases h
theorem line_of {d : PyData} (h : isLineD d = true) : Line d := by
  unfold isLineD at h
  split at h
  · rename_i k own ps
    rw [Bool.and_eq_true, Bool.and_eq_true] at h
    obtain ⟨h1, h2, h3⟩ := h
    obtain ⟨o, rfl⟩ := own_str h2
    split at h3
    · rename_i z
      rw [Bool.and_eq_true] at h3
      have hk : inV (.str z) (kindL.map V.str) = true := h3.1
      rw [inL] at hk
      have hk := of_decide_eq_true hk
      have h4 := h3.2
      unfold lineK at h4
      split at h4
      · rename_i e
        subst e
        unfold beK at h4
        split at h4
        · rename_i e
          have okk : isPre e = true := by
            rw [← h4]
            cases e with
            | tuple ds =>
              show (_ && preZ (strsOf ds)) = (_ && walkE "e" ds)
              rw [walk_pre]
            | _ => rfl
          obtain ⟨zs, rfl⟩ : ∃ zs : List Str, e = .tuple (zs.map .str) := by
            cases e with
            | tuple ds =>
              have q : (decide (1 ≤ ds.length) && decide (ds.length ≤ 30) && preZ (strsOf ds)) = true := okk
              rw [Bool.and_eq_true] at q
              rcases e : strsOf ds with _ | zs
              · rw [e] at q; exact absurd q.2 (by decide)
              · exact ⟨zs, by rw [strs_some e]⟩
            | _ => cases okk
          exact .be o zs h2 okk
        · cases h4
      · rename_i nb
        split at h4
        · rename_i e
          subst e
          unfold tabK at h4
          split at h4
          · rename_i a b
            rw [Bool.and_eq_true] at h4
            obtain ⟨ha, hb⟩ := h4
            cases a with
            | tuple ns =>
              cases b with
              | tuple ws =>
                have ha : (decide (ns.length ≤ 12) && ns.all isNameD) = true := ha
                have hb : (decide (ws.length ≤ 400) && ws.all isVal) = true := hb
                rw [Bool.and_eq_true] at ha hb
                obtain ⟨zs, rfl, hz⟩ := all_str ha.2
                obtain ⟨fs, rfl, hf⟩ := all_fr hb.2
                have l1 := of_decide_eq_true ha.1
                have l2 := of_decide_eq_true hb.1
                rw [List.length_map] at l1 l2
                exact .tab o zs fs h2 l1 hz l2 hf
              | _ => cases hb
            | _ => cases ha
          · cases h4
        · rename_i nt
          split at h4
          · rename_i e
            subst e
            unfold askedD at h4
            split at h4
            · rename_i a r c
              rw [Bool.and_eq_true, Bool.and_eq_true] at h4
              obtain ⟨ha, hr, hc⟩ := h4
              obtain ⟨a, rfl⟩ := name_str ha
              obtain ⟨c, rfl⟩ := name_str hc
              exact .cnt o a c r h2 ha hr hc
            · cases h4
          · rename_i nc
            unfold lastK at h4
            split at h4
            · rename_i p a r c n
              rw [Bool.and_eq_true, Bool.and_eq_true] at h4
              obtain ⟨hp, h5, hn⟩ := h4
              have h5 : (isNameD a && (isRelD r && isNameD c)) = true := h5
              rw [Bool.and_eq_true, Bool.and_eq_true] at h5
              obtain ⟨ha, hr, hc⟩ := h5
              obtain ⟨p, rfl⟩ := name_str hp
              obtain ⟨a, rfl⟩ := name_str ha
              obtain ⟨c, rfl⟩ := name_str hc
              cases n with
              | int i =>
                have hn : (decide (-9 ≤ i) && decide (i ≤ 9)) = true := hn
                rw [Bool.and_eq_true] at hn
                refine .lst z o p a c r i ?_ h2 hp ha hr hc (of_decide_eq_true hn.1) (of_decide_eq_true hn.2)
                simp only [kindL, List.mem_cons, List.mem_nil_iff, or_false] at hk
                rcases hk with e | e | e | e | e | e
                · exact absurd e nb
                · exact absurd e nt
                · exact .inl e
                · exact .inr (.inl e)
                · exact absurd e nc
                · exact .inr (.inr e)
              | _ => cases hn
            · cases h4
    · cases h3
  · cases h
end LK

set_option Elab.async false
set_option linter.all false
set_option maxRecDepth 100000
set_option pp.deepTerms true
set_option pp.maxSteps 20000
namespace LK
open PySem PySem.Spec PyProof.Rows L2
local macro_rules | `(tactic| walk_at "rs") => `(tactic| simp only [cxK, cxNK, tCallZ, tAsg, tOp, rI0, rS0, rB0, rI, rU, tUn, rEq, rNe, rIxL, rIxT, rIxS, rSetL, rSlLU, rSlS, rSlU, rCatL, rCatU, rRepL, rIn, tVar, tC, gName, gSub, tIfS, tTest, tB, tAnd, tOr, tNot, tNotV, tAndV, tOrV, tIf, tCall, tCons, tNil, tCB, tDrop, tRet, tRetN, tNext, tLstU, tTupU, tM0, tM1, tPar, tPar3, tAug, ipI, tBM, tBM0, rAppend, rPop, tBreak, tCont, tChain, tSl, tPart, tNoPart, L2.start, List.map, List.length_cons, List.length_nil, List.replicate, List.cons_append, List.nil_append, List.append_nil, List.getElem?_cons_zero, List.getElem?_cons_succ, List.set_cons_zero, List.set_cons_succ, Option.some.injEq, V.int.injEq, V.ref.injEq, V.str.injEq, V.bl.injEq, exists_eq_left', exists_eq_left, exists_and_left, decide_eq_true_eq, List.cons.injEq, and_true, true_and, scal, Bool.not_eq_true', decide_eq_false_iff_not, Nat.zero_add, Nat.reduceAdd, Nat.reduceSub, reduceCtorEq, false_and, exists_false, false_or, or_false, CPow, CMul, CDiv, Int.reduceToNat, ↓reduceIte, wipe, sw, List.nil_append, List.singleton_append])
local macro_rules | `(tactic| walk_at "st") => `(tactic| (refine seq_op fun N hN => ?_; walk_at "rs"))
local macro_rules | `(tactic| walk_at "sd") => `(tactic| first | assumption | decide | omega)
local macro_rules | `(tactic| walk_at "rd") => `(tactic| repeat (first
  | refine ⟨_, SqL.of (by assumption), ?_⟩ | refine ⟨_, SqL.of upd_same, ?_⟩ | refine ⟨_, .inl (SqL.of (by assumption)), ?_⟩ | refine ⟨_, (by assumption : _ = some (HO.lst _)), ?_⟩ | refine ⟨_, upd_same, ?_⟩
  | refine ⟨_, rfl, ?_⟩ | refine And.intro (by walk_at "sd") ?_))

open TL
/-! ### words: no blank, and short -/
structure OkW (z : Str) : Prop where
  len : z.length ≤ 27
  bl : 32 ∉ tl z
theorem free_of {z : Str} {c : Nat} (hl : inS c LETs = false) (hf : inS c FIGs = false) (h : isWordS z = true) : c ∉ tl z ∧ z.length ≤ 6 ∧ 1 ≤ z.length := by
  unfold isWordS at h
  split at h
  · cases h
  · rename_i x r e
    rw [Bool.and_eq_true, Bool.and_eq_true] at h
    refine ⟨fun hc => ?_, of_decide_eq_true h.1, ?_⟩
    · have hc : c ∈ x :: r := by rw [← e]; exact hc
      have q := List.all_eq_true.mp h.2.2 c hc
      rw [hl, hf] at q
      cases q
    · rw [len_tl, tl_cps, e]; simp
theorem own_word {z : Str} (h : isOwnD (.str z) = true) : isWordS z = true ∧ z ∉ keptL := by
  have h : (isWordS z && !inV (.str z) (keptL.map V.str)) = true := h
  rw [Bool.and_eq_true, inL] at h
  exact ⟨h.1, of_decide_eq_false (by simpa using h.2)⟩
theorem name_word {z : Str} (h : isNameD (.str z) = true) : isWordS z = true := by
  have h : (isOwnD (.str z) || inV (.str z) ((["sign", "place"] : List Str).map V.str)) = true := h
  rw [Bool.or_eq_true] at h
  rcases h with h | h
  · exact (own_word h).1
  · rw [inL] at h
    have h := of_decide_eq_true h
    have q : ∀ y ∈ (["sign", "place"] : List Str), isWordS y = true := by decide +kernel
    exact q z h
theorem word_ok {z : Str} (h : isWordS z = true) : OkW z := by
  obtain ⟨a, b, _⟩ := free_of (c := 32) (by decide +kernel) (by decide +kernel) h
  exact ⟨by omega, a⟩
theorem word_colon {z : Str} (h : isWordS z = true) : 58 ∉ tl z := (free_of (by decide +kernel) (by decide +kernel) h).1
theorem opt_kind {z : Str} {c : Nat} (hc : c = 101 ∨ c = 107) {o : List Nat} (h : opsL (.str z) c = some o) : 0 ≤ needsZ z := by
  cases kind z with
  | bad _ e k =>
    rcases hc with rfl | rfl
    · rw [e] at h; cases h
    · rw [k] at h; cases h
  | leaf a => omega
  | one a => omega
  | three a => omega
  | two a => omega
  | mod a => omega
theorem needs_ok {z : Str} (h : 0 ≤ needsZ z) : OkW z := by
  unfold needsZ at h
  split at h
  · rename_i e
    rw [inL] at e
    have q : ∀ y ∈ ops2L, y.length ≤ 27 ∧ 32 ∉ tl y := by decide +kernel
    exact ⟨(q z (of_decide_eq_true e)).1, (q z (of_decide_eq_true e)).2⟩
  · split at h
    · rename_i e
      rw [inL] at e
      have q : ∀ y ∈ ops1L, y.length ≤ 27 ∧ 32 ∉ tl y := by decide +kernel
      exact ⟨(q z (of_decide_eq_true e)).1, (q z (of_decide_eq_true e)).2⟩
    · split at h
      · rename_i e
        rw [Bool.or_eq_true] at e
        rcases e with e | e
        · rw [nineV_eq, inL] at e
          have q : ∀ y ∈ nineL, y.length ≤ 27 ∧ 32 ∉ tl y := by decide +kernel
          exact ⟨(q z (of_decide_eq_true e)).1, (q z (of_decide_eq_true e)).2⟩
        · exact word_ok (name_word e)
      · omega
theorem walk_ok : ∀ (zs : List Str) (w : List Nat), (∀ x ∈ w, x = 101 ∨ x = 107) → walkL w (zs.map PyData.str) = true → ∀ z ∈ zs, 0 ≤ needsZ z
  | [], _, _, _, _, h => by cases h
  | z :: zs, [], _, h, _, _ => by cases h
  | z :: zs, c :: w, hw, h, y, hy => by
    have h : (match opsL (.str z) c with | none => false | some o => walkL (o ++ w) (zs.map PyData.str)) = true := h
    rcases e : opsL (.str z) c with _ | o
    · rw [e] at h; cases h
    · rw [e] at h
      have hc := hw c (by simp)
      rcases List.mem_cons.mp hy with rfl | hy
      · exact opt_kind hc e
      · refine walk_ok zs (o ++ w) (fun x hx => ?_) h y hy
        rcases List.mem_append.mp hx with hx | hx
        · exact ops_kinds z hc e x hx
        · exact hw x (List.mem_cons_of_mem _ hx)
theorem strsOf_map : ∀ zs : List Str, strsOf (zs.map PyData.str) = some zs
  | [] => rfl
  | z :: zs => by
    rw [List.map_cons]
    unfold strsOf
    rw [strsOf_map zs]
    rfl
theorem pre_ok {zs : List Str} (h : isPre (.tuple (zs.map .str)) = true) : (1 ≤ zs.length ∧ zs.length ≤ 30) ∧ ∀ z ∈ zs, 0 ≤ needsZ z := by
  have h : (decide (1 ≤ (zs.map PyData.str).length) && decide ((zs.map PyData.str).length ≤ 30) && preZ (strsOf (zs.map PyData.str))) = true := h
  rw [Bool.and_eq_true, Bool.and_eq_true, List.length_map] at h
  refine ⟨⟨of_decide_eq_true h.1.1, of_decide_eq_true h.1.2⟩, walk_ok zs [101] (by simp) ?_⟩
  have q := walk_pre (zs.map PyData.str)
  rw [h.2, walkE_L] at q
  exact q
theorem tl_txt (p q : Int) : tl (txtF p q) = (if p < 0 then [45] else []) ++ (numL p.natAbs ++ (if q = 1 then [] else 47 :: tl (strI q))) := by
  unfold txtF
  split
  · rw [tl_strI, List.append_nil]
  · rw [tl_append, tl_append, tl_strI, tl_slash]
    simp [List.append_assoc]
theorem val_iff {f : Int × Int} (h : isVal (frD f) = true) : isFrac (frD f) = true ∧ 1 ≤ f.2 ∧ f.2 ≤ 9999 ∧ f.1.natAbs ≤ 989901 ∧ f.1.natAbs < 10 ^ 60 ∧ f.2.natAbs < 10 ^ 60 := by
  have h : (isFrac (frD f) && (decide (f.2 ≤ 9999) && decide ((f.1.natAbs : Int) ≤ 99 * f.2))) = true := h
  rw [Bool.and_eq_true, Bool.and_eq_true, decide_eq_true_iff, decide_eq_true_iff] at h
  have a := (isFrac_iff.mp h.1).1
  refine ⟨h.1, a, h.2.1, by omega, Nat.lt_of_le_of_lt (m := 989901) (by omega) (by decide), Nat.lt_of_le_of_lt (m := 9999) (by omega) (by decide)⟩
theorem txt_free {c : Nat} (hc : c < 45 ∨ 57 < c) {p q : Int} : c ∉ tl (txtF p q) := by
  have s : ∀ i : Int, c ∉ tl (strI i) := fun i => by
    rw [tl_strI]
    intro h
    rcases List.mem_append.mp h with h | h
    · split at h <;> simp at h
      omega
    · exact numL_free (by omega) h
  rw [tl_txt]
  intro h
  rcases List.mem_append.mp h with h | h
  · split at h <;> simp at h
    omega
  · rcases List.mem_append.mp h with h | h
    · exact numL_free (by omega) h
    · split at h
      · cases h
      · rcases List.mem_cons.mp h with h | h
        · omega
        · exact s _ h
theorem valW_len {f : Int × Int} (h : isVal (frD f) = true) : (valW (frD f)).length ≤ 12 := by
  obtain ⟨_, a, b, c, _⟩ := val_iff h
  show (txtF f.1 f.2).length ≤ 12
  rw [len_tl, tl_txt, tl_strI, if_neg (by omega : ¬ f.2 < 0)]
  have l1 := numL_len (n := f.1.natAbs) (k := 6) (by decide) (by omega)
  have l2 := numL_len (n := f.2.natAbs) (k := 4) (by decide) (by omega)
  simp only [List.length_append, List.nil_append]
  split <;> split <;> simp <;> omega
theorem val_ok {f : Int × Int} (h : isVal (frD f) = true) : OkW (valW (frD f)) := ⟨by have := valW_len h; omega, txt_free (by decide)⟩
theorem val_colon (f : Int × Int) : 58 ∉ tl (valW (frD f)) := txt_free (by decide)
theorem tl_colon : tl (":" : Str) = [58] := by decide +kernel
theorem pair_ok {p : (Int × Int) × (Int × Int)} (h : isVal (frD p.1) = true ∧ isVal (frD p.2) = true) : OkW (pairW (prD p)) := by
  have a := val_ok h.1
  have b := val_ok h.2
  have a2 := valW_len h.1
  have b2 := valW_len h.2
  have e : tl (pairW (prD p)) = tl (valW (frD p.1)) ++ 58 :: tl (valW (frD p.2)) := by
    show tl (valW (frD p.1) ++ ":" ++ valW (frD p.2)) = _
    rw [tl_append, tl_append, tl_colon, List.append_assoc]
    rfl
  constructor
  · rw [len_tl, e, List.length_append, List.length_cons, ← len_tl, ← len_tl]
    omega
  · rw [e]
    intro h
    rcases List.mem_append.mp h with h | h
    · exact a.bl h
    · rcases List.mem_cons.mp h with h | h
      · omega
      · exact b.bl h
theorem rel_ok {a c : Str} {r : PyData} (ha : OkW a) (hc : OkW c) (h : isRelD r = true) : ∀ z ∈ relW a r c, OkW z := by
  rcases rel_cases h with ⟨z, hz, rfl⟩ | ⟨ps, rfl, hp⟩
  · intro y hy
    have q : ∀ y ∈ relL, y.length ≤ 27 ∧ 32 ∉ tl y := by decide +kernel
    simp only [relW, List.mem_cons, List.mem_nil_iff, or_false] at hy
    rcases hy with rfl | rfl | rfl
    · exact ha
    · exact ⟨(q _ hz).1, (q _ hz).2⟩
    · exact hc
  · intro y hy
    have hy : y ∈ a :: "pairs" :: c :: (ps.map prD).map pairW := hy
    rcases List.mem_cons.mp hy with rfl | hy
    · exact ha
    rcases List.mem_cons.mp hy with rfl | hy
    · exact ⟨by decide +kernel, by decide +kernel⟩
    rcases List.mem_cons.mp hy with rfl | hy
    · exact hc
    obtain ⟨d, hd, rfl⟩ := List.mem_map.mp hy
    obtain ⟨p, hp2, rfl⟩ := List.mem_map.mp hd
    exact pair_ok (hp p hp2)
theorem strs_map (zs : List Str) : (zs.map PyData.str).map strD = zs := by
  rw [List.map_map]
  exact List.map_id'' (fun _ => rfl) zs
theorem small_ok {i : Int} (h1 : -9 ≤ i) (h2 : i ≤ 9) : OkW (strI i) := by
  have q : ∀ k : Fin 19, (strI ((k.val : Int) - 9)).length ≤ 27 ∧ 32 ∉ tl (strI ((k.val : Int) - 9)) := by decide +kernel
  have e : (((⟨(i + 9).toNat, by omega⟩ : Fin 19).val : Int) - 9) = i := by show ((i + 9).toNat : Int) - 9 = i; omega
  have z := q ⟨(i + 9).toNat, by omega⟩
  rw [e] at z
  exact ⟨z.1, z.2⟩
theorem lit_ok : ∀ z ∈ (["let", "be", "table", "count", "first", "last", "mean", "where", "else", ":"] : List Str), z.length ≤ 27 ∧ 32 ∉ tl z := by decide +kernel
theorem lit_okW {z : Str} (h : z ∈ (["let", "be", "table", "count", "first", "last", "mean", "where", "else", ":"] : List Str)) : OkW z := ⟨(lit_ok z h).1, (lit_ok z h).2⟩
theorem words_be (own : Str) (zs : List Str) : wordsD (.tuple [.str "be", .str own, .tuple (zs.map .str)]) = ("let" : Str) :: own :: "be" :: zs := by
  show ("let" : Str) :: own :: "be" :: (zs.map PyData.str).map strD = _
  rw [strs_map]
theorem vals_map (fs : List (Int × Int)) : (fs.map frD).map valW = fs.map fun f => txtF f.1 f.2 := by
  rw [List.map_map]; rfl
theorem words_tab (own : Str) (ns : List Str) (fs : List (Int × Int)) : wordsD (.tuple [.str "table", .str own, .tuple (ns.map .str), .tuple (fs.map frD)]) = ("let" : Str) :: own :: "table" :: (ns ++ (":" : Str) :: (fs.map frD).map valW) := by
  show ("let" : Str) :: own :: "table" :: ((ns.map PyData.str).map strD ++ _) = _
  rw [strs_map]
  rfl
theorem words_cnt (own a c : Str) (r : PyData) : wordsD (.tuple [.str "count", .str own, .str a, r, .str c]) = ("let" : Str) :: own :: "count" :: "where" :: relW a r c := rfl
theorem words_lst {k : Str} (hk : k = "first" ∨ k = "last" ∨ k = "mean") (own p a c : Str) (r : PyData) (i : Int) : wordsD (.tuple [.str k, .str own, .str p, .str a, r, .str c, .int i]) = ("let" : Str) :: own :: k :: p :: "where" :: (relW a r c ++ [("else" : Str), strI i]) := by
  rcases hk with rfl | rfl | rfl <;> rfl
theorem words_ok {d : PyData} (h : Line d) : ∀ z ∈ wordsD d, OkW z := by
  have hd : ∀ {l : List Str} {own k : Str}, isOwnD (.str own) = true → k ∈ (["let", "be", "table", "count", "first", "last", "mean", "where", "else", ":"] : List Str) → (∀ z ∈ l, OkW z) → ∀ z ∈ ("let" : Str) :: own :: k :: l, OkW z := fun ho hk hl z hz => by
    rcases List.mem_cons.mp hz with rfl | hz
    · exact lit_okW (by decide)
    rcases List.mem_cons.mp hz with rfl | hz
    · exact word_ok (own_word ho).1
    rcases List.mem_cons.mp hz with rfl | hz
    · exact lit_okW hk
    · exact hl z hz
  cases h with
  | be own zs ho hp =>
    rw [words_be]
    exact hd ho (by decide) fun z hz => needs_ok ((pre_ok hp).2 z hz)
  | tab own ns fs ho ln hn lf hf =>
    rw [words_tab]
    refine hd ho (by decide) fun z hz => ?_
    rcases List.mem_append.mp hz with hz | hz
    · exact word_ok (name_word (hn z hz))
    rcases List.mem_cons.mp hz with rfl | hz
    · exact lit_okW (by decide)
    obtain ⟨d, hd, rfl⟩ := List.mem_map.mp hz
    obtain ⟨f, hf2, rfl⟩ := List.mem_map.mp hd
    exact val_ok (hf f hf2)
  | cnt own a c r ho ha hr hc =>
    rw [words_cnt]
    refine hd ho (by decide) fun z hz => ?_
    rcases List.mem_cons.mp hz with rfl | hz
    · exact lit_okW (by decide)
    exact rel_ok (word_ok (name_word ha)) (word_ok (name_word hc)) hr z hz
  | lst k own p a c r i hk ho hp ha hr hc h1 h2 =>
    rw [words_lst hk]
    refine hd ho (by rcases hk with rfl | rfl | rfl <;> decide) fun z hz => ?_
    rcases List.mem_cons.mp hz with rfl | hz
    · exact word_ok (name_word hp)
    rcases List.mem_cons.mp hz with rfl | hz
    · exact lit_okW (by decide)
    rcases List.mem_append.mp hz with hz | hz
    · exact rel_ok (word_ok (name_word ha)) (word_ok (name_word hc)) hr z hz
    rcases List.mem_cons.mp hz with rfl | hz
    · exact lit_okW (by decide)
    rcases List.mem_cons.mp hz with rfl | hz
    · exact small_ok h1 h2
    · cases hz
theorem tl_blank : tl (" " : Str) = [32] := by decide +kernel
theorem words_ne {d : PyData} (h : Line d) : wordsD d ≠ [] := by
  cases h <;> exact fun e => by cases e
theorem split_text {d : PyData} (h : Line d) : Txt.split (textD d) " " = wordsD d := split_join tl_blank (by decide +kernel) (words_ne h) fun z hz => (words_ok h z hz).bl
theorem words_size : ∀ {l : List Str}, (∀ z ∈ l, OkW z) → (l.map (·.length)).sum ≤ l.length * 27
  | [], _ => by simp
  | z :: l, h => by
    have a := words_size (l := l) fun y hy => h y (List.mem_cons_of_mem _ hy)
    have b := (h z (by simp)).len
    simp only [List.map_cons, List.sum_cons, List.length_cons]
    omega
end LK

set_option Elab.async false
set_option linter.all false
set_option maxRecDepth 100000
set_option pp.deepTerms true
set_option pp.maxSteps 20000
namespace LK
open PySem PySem.Spec PyProof.Rows L2
local macro_rules | `(tactic| walk_at "rs") => `(tactic| simp only [cxK, cxNK, tCallZ, tAsg, tOp, rI0, rS0, rB0, rI, rU, tUn, rEq, rNe, rIxL, rIxT, rIxS, rSetL, rSlLU, rSlS, rSlU, rCatL, rCatU, rRepL, rIn, tVar, tC, gName, gSub, tIfS, tTest, tB, tAnd, tOr, tNot, tNotV, tAndV, tOrV, tIf, tCall, tCons, tNil, tCB, tDrop, tRet, tRetN, tNext, tLstU, tTupU, tM0, tM1, tPar, tPar3, tAug, ipI, tBM, tBM0, rAppend, rPop, tBreak, tCont, tChain, tSl, tPart, tNoPart, L2.start, List.map, List.length_cons, List.length_nil, List.replicate, List.cons_append, List.nil_append, List.append_nil, List.getElem?_cons_zero, List.getElem?_cons_succ, List.set_cons_zero, List.set_cons_succ, Option.some.injEq, V.int.injEq, V.ref.injEq, V.str.injEq, V.bl.injEq, exists_eq_left', exists_eq_left, exists_and_left, decide_eq_true_eq, List.cons.injEq, and_true, true_and, scal, Bool.not_eq_true', decide_eq_false_iff_not, Nat.zero_add, Nat.reduceAdd, Nat.reduceSub, reduceCtorEq, false_and, exists_false, false_or, or_false, CPow, CMul, CDiv, Int.reduceToNat, ↓reduceIte, wipe, sw, List.nil_append, List.singleton_append])
local macro_rules | `(tactic| walk_at "st") => `(tactic| (refine seq_op fun N hN => ?_; walk_at "rs"))
local macro_rules | `(tactic| walk_at "sd") => `(tactic| first | assumption | decide | omega)
local macro_rules | `(tactic| walk_at "rd") => `(tactic| repeat (first
  | refine ⟨_, SqL.of (by assumption), ?_⟩ | refine ⟨_, SqL.of upd_same, ?_⟩ | refine ⟨_, .inl (SqL.of (by assumption)), ?_⟩ | refine ⟨_, (by assumption : _ = some (HO.lst _)), ?_⟩ | refine ⟨_, upd_same, ?_⟩
  | refine ⟨_, rfl, ?_⟩ | refine And.intro (by walk_at "sd") ?_))

open TL
/-! ### reading words -/
def frO : Option (Int × Int) → PyData
  | some f => frD f
  | none => .none
def vZ (z : Str) : PyData := frO (readZ z)
def pr1 (z : Str) : PyData := .tuple [vZ (Txt.partition z ":").1, vZ (Txt.partition z ":").2.2]
def pr2 (z : Str) : PyData := .tuple ((Txt.split z ":").map vZ)
def tS (zs : List Str) : PyData := .tuple (zs.map .str)
def rdA (ws : List Str) : List PyData := if 3 ≤ ws.length ∧ ws.getD 1 "" = "pairs" then [.str (ws.getD 0 ""), .tuple ((ws.drop 3).map pr1), .str (ws.getD 2 "")] else ws.map .str
def ixS (w : Str) : List Str → Nat
  | [] => 0
  | x :: r => if x = w then 0 else ixS w r + 1
def rd1T (own : Str) (r : List Str) : PyData := if (":" : Str) ∈ r then .tuple [.str "table", .str own, tS (r.take (ixS ":" r)), .tuple ((r.drop (ixS ":" r + 1)).map vZ)] else .none
def rd1 (W : List Str) : PyData :=
  if W.length < 4 then .none
  else if W.getD 2 "" = "be" then .tuple [.str "be", .str (W.getD 1 ""), tS (W.drop 3)]
  else if W.getD 2 "" = "table" then rd1T (W.getD 1 "") (W.drop 3)
  else if W.getD 2 "" = "count" then .tuple (.str "count" :: .str (W.getD 1 "") :: rdA (W.drop 4))
  else .tuple (.str (W.getD 2 "") :: .str (W.getD 1 "") :: .str (W.getD 3 "") :: (rdA ((W.drop 5).take (W.length - 7)) ++ [optD (readNum (W.getD (W.length - 1) ""))]))
def markD (z : Str) (more : List Str) : PyData := if z = "pairs" then .tuple (more.map pr2) else .str z
def lastZ (z : Str) : PyData := if inV (.str z) nineV = true then optD (readNum z) else .none
def rd2 (W : List Str) : PyData :=
  if W.length < 4 then .none
  else if W.getD 2 "" = "be" then .tuple [.str "be", .str (W.getD 1 ""), tS (W.drop 3)]
  else if W.getD 2 "" = "table" then (if (":" : Str) ∈ W then .tuple [.str "table", .str (W.getD 1 ""), tS ((W.drop 3).take (ixS ":" W - 3)), .tuple ((W.drop (ixS ":" W + 1)).map vZ)] else .none)
  else if W.getD 2 "" = "count" then (if 6 < W.length then .tuple [.str "count", .str (W.getD 1 ""), .str (W.getD 4 ""), markD (W.getD 5 "") (W.drop 7), .str (W.getD 6 "")] else .none)
  else if W.getD 2 "" = "first" ∨ W.getD 2 "" = "last" ∨ W.getD 2 "" = "mean" then
    (if 7 < W.length then .tuple [.str (W.getD 2 ""), .str (W.getD 1 ""), .str (W.getD 3 ""), .str (W.getD 5 ""), markD (W.getD 6 "") ((W.drop 8).take (W.length - 10)), .str (W.getD 7 ""), lastZ (W.getD (W.length - 1) "")] else .none)
  else .none
theorem vZ_val {f : Int × Int} (h : isVal (frD f) = true) : vZ (valW (frD f)) = frD f := by
  obtain ⟨a, _, _, _, b, c⟩ := val_iff h
  have e : readZ (txtF f.1 f.2) = some (f.1, f.2) := readZ_iff.mpr ⟨a, b, c, rfl⟩
  show frO (readZ (txtF f.1 f.2)) = _
  rw [e]; rfl
theorem vZ_map {fs : List (Int × Int)} (h : ∀ f ∈ fs, isVal (frD f) = true) : ((fs.map frD).map valW).map vZ = fs.map frD := by
  rw [List.map_map, List.map_map]
  exact List.map_congr_left fun f hf => vZ_val (h f hf)
theorem pr1_pair {p : (Int × Int) × (Int × Int)} (h : isVal (frD p.1) = true ∧ isVal (frD p.2) = true) : pr1 (pairW (prD p)) = prD p := by
  have e : Txt.partition (pairW (prD p)) ":" = (valW (frD p.1), (":" : Str), valW (frD p.2)) := partition_app tl_colon (val_colon p.1)
  unfold pr1
  rw [e]
  dsimp only
  rw [vZ_val h.1, vZ_val h.2]
theorem pr2_pair {p : (Int × Int) × (Int × Int)} (h : isVal (frD p.1) = true ∧ isVal (frD p.2) = true) : pr2 (pairW (prD p)) = prD p := by
  have e : Txt.split (pairW (prD p)) ":" = [valW (frD p.1), valW (frD p.2)] := by
    have e2 : pairW (prD p) = Txt.join ":" [valW (frD p.1), valW (frD p.2)] := by
      apply str_ext
      rw [← tl_cps, ← tl_cps, join_eq, tl_join]
      show tl (valW (frD p.1) ++ ":" ++ valW (frD p.2)) = _
      rw [tl_append, tl_append]
      simp [joinL]
    rw [e2]
    exact split_join tl_colon (by decide +kernel) (by simp) fun z hz => by
      rcases List.mem_cons.mp hz with rfl | hz
      · exact val_colon _
      rcases List.mem_cons.mp hz with rfl | hz
      · exact val_colon _
      · cases hz
  unfold pr2
  rw [e]
  show PyData.tuple [vZ _, vZ _] = _
  rw [vZ_val h.1, vZ_val h.2]
theorem pairs_map {pr : Str → PyData} {ps : List ((Int × Int) × (Int × Int))} (h : ∀ p ∈ ps, pr (pairW (prD p)) = prD p) : ((ps.map prD).map pairW).map pr = ps.map prD := by
  rw [List.map_map, List.map_map]
  exact List.map_congr_left fun p hp => h p hp
theorem rel_np {z : Str} (h : z ∈ relL) : z ≠ "pairs" := by
  have q : ∀ y ∈ relL, y ≠ "pairs" := by decide +kernel
  exact q z h
theorem rdA_eq (a x c : Str) (r : List Str) : rdA (a :: x :: c :: r) = if x = "pairs" then [.str a, .tuple (r.map pr1), .str c] else .str a :: .str x :: .str c :: r.map .str := by
  unfold rdA
  by_cases e : x = "pairs"
  · rw [if_pos ⟨by simp, e⟩, if_pos e]; rfl
  · rw [if_neg fun h => e h.2, if_neg e]; rfl
theorem rdA_rel {a c : Str} {r : PyData} (h : isRelD r = true) : rdA (relW a r c) = [.str a, r, .str c] := by
  rcases rel_cases h with ⟨z, hz, rfl⟩ | ⟨ps, rfl, hp⟩
  · have e : relW a (.str z) c = [a, z, c] := rfl
    rw [e, rdA_eq, if_neg (rel_np hz)]
    rfl
  · have e : relW a (.tuple (ps.map prD)) c = a :: "pairs" :: c :: (ps.map prD).map pairW := rfl
    rw [e, rdA_eq, if_pos rfl, pairs_map fun p h => pr1_pair (hp p h)]
theorem rd1_eq (l own k x : Str) (r : List Str) : rd1 (l :: own :: k :: x :: r) = if k = "be" then .tuple [.str "be", .str own, tS (x :: r)] else if k = "table" then rd1T own (x :: r) else if k = "count" then .tuple (.str "count" :: .str own :: rdA r)
    else .tuple (.str k :: .str own :: .str x :: (rdA ((r.drop 1).take (r.length + 4 - 7)) ++ [optD (readNum ((l :: own :: k :: x :: r).getD (r.length + 3) ""))])) := by
  unfold rd1
  rw [if_neg (by simp only [List.length_cons]; omega)]
  rfl
theorem rd2_eq (l own k x : Str) (r : List Str) : rd2 (l :: own :: k :: x :: r) = if k = "be" then .tuple [.str "be", .str own, tS (x :: r)]
    else if k = "table" then (if (":" : Str) ∈ l :: own :: k :: x :: r then .tuple [.str "table", .str own, tS ((x :: r).take (ixS ":" (l :: own :: k :: x :: r) - 3)), .tuple (((l :: own :: k :: x :: r).drop (ixS ":" (l :: own :: k :: x :: r) + 1)).map vZ)] else .none)
    else if k = "count" then (if 6 < r.length + 4 then .tuple [.str "count", .str own, .str (r.getD 0 ""), markD (r.getD 1 "") (r.drop 3), .str (r.getD 2 "")] else .none)
    else if k = "first" ∨ k = "last" ∨ k = "mean" then
      (if 7 < r.length + 4 then .tuple [.str k, .str own, .str x, .str (r.getD 1 ""), markD (r.getD 2 "") ((r.drop 4).take (r.length + 4 - 10)), .str (r.getD 3 ""), lastZ ((l :: own :: k :: x :: r).getD (r.length + 3) "")] else .none)
    else .none := by
  unfold rd2
  rw [if_neg (by simp only [List.length_cons]; omega)]
  rfl
theorem mark_rel {a c : Str} {r : PyData} (h : isRelD r = true) : ∃ z more, relW a r c = a :: z :: c :: more ∧ markD z more = r := by
  rcases rel_cases h with ⟨z, hz, rfl⟩ | ⟨ps, rfl, hp⟩
  · exact ⟨z, [], rfl, if_neg (rel_np hz)⟩
  · refine ⟨"pairs", (ps.map prD).map pairW, rfl, ?_⟩
    show (if _ then _ else _) = _
    rw [if_pos rfl, pairs_map fun p h => pr2_pair (hp p h)]
theorem name_nc {z : Str} (h : isWordS z = true) : z ≠ ":" := fun e => by
  rw [e] at h
  exact absurd h (by decide +kernel)
theorem ix_app : ∀ (ns : List Str) (r : List Str), (∀ z ∈ ns, z ≠ ":") → ixS ":" (ns ++ (":" : Str) :: r) = ns.length
  | [], _, _ => if_pos rfl
  | z :: ns, r, h => by
    show (if z = ":" then 0 else ixS ":" (ns ++ (":" : Str) :: r) + 1) = _
    rw [if_neg (h z (by simp)), ix_app ns r fun y hy => h y (List.mem_cons_of_mem _ hy)]
    rfl
theorem last_get (l : List Str) (z : Str) : (l ++ [z]).getD ((l ++ [z]).length - 1) "" = z := by
  rw [List.length_append, List.getD_eq_getElem?_getD, List.getElem?_append_right (by simp)]
  simp
theorem strI_num {i : Int} (h1 : -9 ≤ i) (h2 : i ≤ 9) : optD (readNum (strI i)) = .int i := by
  rw [readNum_iff.mpr ⟨rfl, Nat.lt_of_le_of_lt (m := 9) (by omega) (by decide)⟩]; rfl
theorem strI_nine {i : Int} (h1 : -9 ≤ i) (h2 : i ≤ 9) : inV (.str (strI i)) nineV = true := by
  have q : ∀ k : Fin 19, inV (.str (strI ((k.val : Int) - 9))) nineV = true := by decide +kernel
  have e : (((⟨(i + 9).toNat, by omega⟩ : Fin 19).val : Int) - 9) = i := by show ((i + 9).toNat : Int) - 9 = i; omega
  have z := q ⟨(i + 9).toNat, by omega⟩
  rw [e] at z
  exact z
theorem more_w {zs : List Str} (h : 1 ≤ zs.length) : ∃ x r, zs = x :: r := by
  cases zs with
  | nil => exact absurd h (by decide)
  | cons x r => exact ⟨x, r, rfl⟩
theorem drop_app (ns r : List Str) (z : Str) : (ns ++ z :: r).drop (ns.length + 1) = r := by
  rw [← List.drop_drop, List.drop_left]; rfl
theorem not_kinds {k : Str} (hk : k = "first" ∨ k = "last" ∨ k = "mean") : ¬ k = "be" ∧ ¬ k = "table" ∧ ¬ k = "count" := by
  rcases hk with rfl | rfl | rfl <;> decide +kernel
theorem tab_be : ¬ (("table" : Str) = "be") := by decide +kernel
theorem cnt_be : ¬ (("count" : Str) = "be") := by decide +kernel
theorem cnt_tab : ¬ (("count" : Str) = "table") := by decide +kernel
theorem last_word (l own k x y : Str) (m : List Str) (z : Str) : (l :: own :: k :: x :: (y :: m ++ [z])).getD ((y :: m ++ [z]).length + 3) "" = z := by
  have e : (l :: own :: k :: x :: (y :: m ++ [z])) = (l :: own :: k :: x :: y :: m) ++ [z] := rfl
  have e2 : (y :: m ++ [z]).length + 3 = ((l :: own :: k :: x :: y :: m) ++ [z]).length - 1 := by simp
  rw [e2, e, last_get]
theorem rd1_line {d : PyData} (h : Line d) : rd1 (wordsD d) = d := by
  cases h with
  | be own zs ho hp =>
    obtain ⟨x, r, rfl⟩ := more_w (pre_ok hp).1.1
    rw [words_be, rd1_eq, if_pos rfl]
    rfl
  | tab own ns fs ho ln hn lf hf =>
    rw [words_tab]
    obtain ⟨x, r, e⟩ := more_w (zs := ns ++ (":" : Str) :: (fs.map frD).map valW) (by simp; omega)
    rw [e, rd1_eq, if_neg tab_be, if_pos rfl, ← e]
    unfold rd1T
    rw [if_pos (by simp), ix_app _ _ fun z hz => name_nc (name_word (hn z hz)), List.take_left' rfl, drop_app, vZ_map hf]
    rfl
  | cnt own a c r ho ha hr hc =>
    rw [words_cnt, rd1_eq, if_neg cnt_be, if_neg cnt_tab, if_pos rfl, rdA_rel hr]
  | lst k own p a c r i hk ho hp ha hr hc h1 h2 =>
    obtain ⟨n1, n2, n3⟩ := not_kinds hk
    have e : (("where" : Str) :: (relW a r c ++ [("else" : Str), strI i])) = ("where" : Str) :: (relW a r c ++ [("else" : Str)]) ++ [strI i] := by simp
    have e2 : ((("where" : Str) :: (relW a r c ++ [("else" : Str), strI i])).drop 1).take ((("where" : Str) :: (relW a r c ++ [("else" : Str), strI i])).length + 4 - 7) = relW a r c := by
      show (relW a r c ++ [("else" : Str), strI i]).take _ = _
      exact List.take_left' (by simp)
    rw [words_lst hk, rd1_eq, if_neg n1, if_neg n2, if_neg n3, e2, e, last_word, rdA_rel hr, strI_num h1 h2]
    rfl
theorem rd2_line {d : PyData} (h : Line d) : rd2 (wordsD d) = d := by
  cases h with
  | be own zs ho hp =>
    obtain ⟨x, r, rfl⟩ := more_w (pre_ok hp).1.1
    rw [words_be, rd2_eq, if_pos rfl]
    rfl
  | tab own ns fs ho ln hn lf hf =>
    have hx : ixS ":" (("let" : Str) :: own :: "table" :: (ns ++ (":" : Str) :: (fs.map frD).map valW)) = ns.length + 3 := by
      have e0 : (("let" : Str) :: own :: "table" :: (ns ++ (":" : Str) :: (fs.map frD).map valW)) = (("let" : Str) :: own :: "table" :: ns) ++ (":" : Str) :: (fs.map frD).map valW := rfl
      rw [e0, ix_app]
      · rfl
      · intro z hz
        rcases List.mem_cons.mp hz with rfl | hz
        · decide +kernel
        rcases List.mem_cons.mp hz with rfl | hz
        · exact name_nc (own_word ho).1
        rcases List.mem_cons.mp hz with rfl | hz
        · decide +kernel
        · exact name_nc (name_word (hn z hz))
    have hm : (":" : Str) ∈ (("let" : Str) :: own :: "table" :: (ns ++ (":" : Str) :: (fs.map frD).map valW)) := by simp
    have e2 : (("let" : Str) :: own :: "table" :: (ns ++ (":" : Str) :: (fs.map frD).map valW)).drop (ns.length + 3 + 1) = (fs.map frD).map valW := drop_app ns _ _
    rw [words_tab]
    obtain ⟨x, r, e⟩ := more_w (zs := ns ++ (":" : Str) :: (fs.map frD).map valW) (by simp; omega)
    rw [e] at hx hm e2
    rw [e, rd2_eq, if_neg tab_be, if_pos rfl, if_pos hm, hx, e2, vZ_map hf, ← e]
    have e1 : (ns ++ (":" : Str) :: (fs.map frD).map valW).take (ns.length + 3 - 3) = ns := List.take_left' (by omega)
    rw [e1]
    rfl
  | cnt own a c r ho ha hr hc =>
    obtain ⟨z, m, e, em⟩ := mark_rel (a := a) (c := c) hr
    rw [words_cnt, e, rd2_eq, if_neg cnt_be, if_neg cnt_tab, if_pos rfl, if_pos (by simp only [List.length_cons]; omega)]
    show PyData.tuple [.str "count", .str own, .str a, markD z m, .str c] = _
    rw [em]
  | lst k own p a c r i hk ho hp ha hr hc h1 h2 =>
    obtain ⟨n1, n2, n3⟩ := not_kinds hk
    obtain ⟨z, m, e, em⟩ := mark_rel (a := a) (c := c) hr
    have f : (("where" : Str) :: (a :: z :: c :: m ++ [("else" : Str), strI i])) = ("where" : Str) :: (a :: z :: c :: m ++ [("else" : Str)]) ++ [strI i] := by simp
    have f2 : (m ++ [("else" : Str), strI i]).take ((("where" : Str) :: (a :: z :: c :: m ++ [("else" : Str), strI i])).length + 4 - 10) = m := List.take_left' (by simp)
    have f3 := last_word "let" own k p "where" (a :: z :: c :: m ++ [("else" : Str)]) (strI i)
    rw [← f] at f3
    have e4 : lastZ (strI i) = .int i := by
      unfold lastZ
      rw [if_pos (strI_nine h1 h2), strI_num h1 h2]
    rw [words_lst hk, e, rd2_eq, if_neg n1, if_neg n2, if_neg n3, if_pos hk, if_pos (by simp only [List.length_cons, List.length_append]; omega), f3, e4]
    show PyData.tuple [.str k, .str own, .str p, .str a, markD z ((m ++ [("else" : Str), strI i]).take ((("where" : Str) :: (a :: z :: c :: m ++ [("else" : Str), strI i])).length + 4 - 10)), .str c, .int i] = _
    rw [f2, em]
/-- a text read back -/
def backD (d : PyData) (z : Str) : PyData := if isLineD d = true ∧ textD d = z then d else .none
def lineZ (z : Str) : PyData := backD (rd1 (Txt.split z " ")) z
theorem lineZ_eq (z : Str) : backD (rd2 (Txt.split z " ")) z = lineZ z := by
  unfold lineZ backD
  by_cases c1 : isLineD (rd1 (Txt.split z " ")) = true ∧ textD (rd1 (Txt.split z " ")) = z
  · have l := line_of c1.1
    have e : Txt.split z " " = wordsD (rd1 (Txt.split z " ")) := by
      have q := split_text l
      rw [c1.2] at q
      exact q
    have e2 : rd2 (Txt.split z " ") = rd1 (Txt.split z " ") := by
      have q := rd2_line l
      rw [← e] at q
      exact q
    rw [e2]
  · rw [if_neg c1]
    by_cases c2 : isLineD (rd2 (Txt.split z " ")) = true ∧ textD (rd2 (Txt.split z " ")) = z
    · have l := line_of c2.1
      have e : Txt.split z " " = wordsD (rd2 (Txt.split z " ")) := by
        have q := split_text l
        rw [c2.2] at q
        exact q
      have e2 : rd1 (Txt.split z " ") = rd2 (Txt.split z " ") := by
        have q := rd1_line l
        rw [← e] at q
        exact q
      rw [e2] at c1
      exact absurd c2 c1
    · rw [if_neg c2]
theorem lineZ_text {d : PyData} (h : isLineD d = true) : lineZ (textD d) = d := by
  unfold lineZ backD
  rw [split_text (line_of h), rd1_line (line_of h), if_pos ⟨h, rfl⟩]
end LK

set_option Elab.async false
set_option linter.all false
set_option maxRecDepth 100000
set_option pp.deepTerms true
set_option pp.maxSteps 20000
namespace LK
open PySem PySem.Spec PyProof.Rows L2
local macro_rules | `(tactic| walk_at "rs") => `(tactic| simp only [cxK, cxNK, tCallZ, tAsg, tOp, rI0, rS0, rB0, rI, rU, tUn, rEq, rNe, rIxL, rIxT, rIxS, rSetL, rSlLU, rSlS, rSlU, rCatL, rCatU, rRepL, rIn, tVar, tC, gName, gSub, tIfS, tTest, tB, tAnd, tOr, tNot, tNotV, tAndV, tOrV, tIf, tCall, tCons, tNil, tCB, tDrop, tRet, tRetN, tNext, tLstU, tTupU, tM0, tM1, tPar, tPar3, tAug, ipI, tBM, tBM0, rAppend, rPop, tBreak, tCont, tChain, tSl, tPart, tNoPart, L2.start, List.map, List.length_cons, List.length_nil, List.replicate, List.cons_append, List.nil_append, List.append_nil, List.getElem?_cons_zero, List.getElem?_cons_succ, List.set_cons_zero, List.set_cons_succ, Option.some.injEq, V.int.injEq, V.ref.injEq, V.str.injEq, V.bl.injEq, exists_eq_left', exists_eq_left, exists_and_left, decide_eq_true_eq, List.cons.injEq, and_true, true_and, scal, Bool.not_eq_true', decide_eq_false_iff_not, Nat.zero_add, Nat.reduceAdd, Nat.reduceSub, reduceCtorEq, false_and, exists_false, false_or, or_false, CPow, CMul, CDiv, Int.reduceToNat, ↓reduceIte, wipe, sw, List.nil_append, List.singleton_append])
local macro_rules | `(tactic| walk_at "st") => `(tactic| (refine seq_op fun N hN => ?_; walk_at "rs"))
local macro_rules | `(tactic| walk_at "sd") => `(tactic| first | assumption | decide | omega)
local macro_rules | `(tactic| walk_at "rd") => `(tactic| repeat (first
  | refine ⟨_, SqL.of (by assumption), ?_⟩ | refine ⟨_, SqL.of upd_same, ?_⟩ | refine ⟨_, .inl (SqL.of (by assumption)), ?_⟩ | refine ⟨_, (by assumption : _ = some (HO.lst _)), ?_⟩ | refine ⟨_, upd_same, ?_⟩
  | refine ⟨_, rfl, ?_⟩ | refine And.intro (by walk_at "sd") ?_))

theorem set2 {σ : L2.St} {i j : Nat} (x y : Option V) : wipe (((wipe σ [i, j]).set i x).set j y) [i, j] = wipe σ [i, j] := by
  refine List.ext_getElem? fun n => ?_
  simp only [wipe, List.getElem?_set, List.length_set]
  by_cases a : i = n <;> by_cases b : j = n <;> simp [a, b]
/-- [f(p) for x, y in t], t a tuple of pairs -/
theorem lc_pr {K : PySem.W.Frag} {a : Addr} {xs : List V} {ps : List ((Int × Int) × (Int × Int))} {te : TE} {i j : Nat} {σ : L2.St} {H1 : Hp} {D : Addr} {Qd : Hp → Prop} (f : (Int × Int) × (Int × Int) → V) (hij : i ≠ j) (ha : SqT K H1 a xs) (hx : DpAll K H1 xs (ps.map prD)) (hD : H1 D = none) (hn : ps.length ≤ 1000000)
    (hs : ∀ x y p H, p ∈ ps → Dp K H x (frD p.1) → Dp K H y (frD p.2) → Same H1 H → ∀ Q2 : V → Hp → Prop, (∀ H3, Same H H3 → Q2 (f p) H3) → te (((wipe σ [i, j]).set i (some x)).set j (some y)) H Q2)
    (hq : ∀ H', Same H1 H' → H' D = some (.lst (ps.map f)) → Qd H') :
    ∃ W : Nat → Nat → Hp → Prop, (∃ m, W 0 m (L2.upd H1 D (.lst []))) ∧ ∀ i' m H, W i' m H →
      ((Itt K a).stop i' H ∧ Qd H) ∨ ((Itt K a).go i' H ∧ ∃ Nx : Hp → Prop, (∀ H', Nx H' → ∃ m', m' < m ∧ W (i' + 1) m' H') ∧ ∀ x H', (Itt K a).yld i' H x H' → gTup K 2 (gCons (gName i) (gCons (gName j) gNil)) x (wipe σ [i, j]) H' fun σ2 H2 => wipe σ2 [i, j] = wipe σ [i, j] ∧ tYes σ2 H2 fun b H3 =>
        if b = true then te σ2 H3 fun y H4 => ∃ acc, H4 D = some (.lst acc) ∧ acc.length < sizeLine ∧ Nx (L2.upd H4 D (.lst (acc ++ [y]))) else Nx H3) := by
  have len := dpa_len4 hx
  rw [List.length_map] at len
  refine lc_pure (walk_tup (K := K) (a := a) (xs := xs)) hD (by omega) (fun k => f (ps.getD k ((0, 1), (0, 1)))) (fun H s => Same.seqT s ha) (fun k x H H' hk s1 y => ?_)
    (fun x σ0 H0 Q0 Q1 h ⟨a, xs, e1, e2, e3, v, r, e4, v2, r2, e5, e6, q⟩ => ⟨a, xs, e1, e2, e3, v, r, e4, v2, r2, e5, e6, h _ _ q⟩) (fun H' s h => hq H' s ?_)
  · obtain ⟨rfl, e⟩ := y
    obtain ⟨d, e2, hd⟩ := dpa_at hx e
    rw [List.getElem?_map] at e2
    obtain ⟨p, hp, rfl⟩ : ∃ p, ps[k]? = some p ∧ prD p = d := by
      cases hh : ps[k]? with
      | none => rw [hh] at e2; cases e2
      | some p => rw [hh] at e2; exact ⟨p, rfl, Option.some.inj e2⟩
    obtain ⟨b, ys, rfl, hb, hy⟩ := dp_tup (dp_same s1 hd)
    obtain ⟨v1, v2, rfl, h1, h2⟩ := dpa_two hy
    refine ⟨b, [v1, v2], rfl, hb, rfl, v1, [v2], rfl, v2, [], rfl, rfl, Same.refl _, ?_, fun Q2 k2 => hs v1 v2 p H' (List.mem_of_getElem? hp) h1 h2 s1 Q2 fun H3 s3 => ?_⟩
    · exact set2 (some v1) (some v2)
    · have := k2 H3 s3
      rw [List.getD_eq_getElem?_getD, hp] at this
      exact this
  · rw [h]
    congr 2
    refine List.ext_getElem? fun k => ?_
    rw [List.getElem?_map, List.getElem?_map]
    by_cases hk : k < ps.length
    · rw [List.getElem?_range (by omega), List.getElem?_eq_getElem hk]
      simp [List.getD_eq_getElem?_getD, List.getElem?_eq_getElem hk]
    · rw [List.getElem?_eq_none (by simpa using (by omega : xs.length ≤ k)), List.getElem?_eq_none (by omega)]
      rfl
theorem small_log {i : Int} (h1 : -20 ≤ i) (h2 : i ≤ 20) : i.natAbs.log2 < 1920 := Nat.lt_of_le_of_lt (Nat.log2_le_self _) (by omega)
theorem dpa_strs {K : PySem.W.Frag} {H : Hp} : ∀ {zs : List Str} {ys : List V}, DpAll K H ys (zs.map PyData.str) → ys = zs.map V.str
  | [], _, h => by
    have := dpa_len4 h
    exact List.eq_nil_of_length_eq_zero (by simpa using this)
  | z :: zs, ys, h => by
    obtain ⟨v, r, rfl, h1, h2⟩ := dpa_more (x := .str z) (r := zs.map PyData.str) h
    cases h1
    rw [dpa_strs h2]
    rfl
theorem relW_len {a c : Str} {r : PyData} (h : okD r = true) : (relW a r c).length ≤ 100003 := by
  cases r with
  | tuple ds =>
    have := (okD_tup.mp h).1
    show (a :: "pairs" :: c :: ds.map pairW).length ≤ _
    simp only [List.length_cons, List.length_map]
    omega
  | str z => exact (by decide : 3 ≤ 100003)
  | _ => exact (by decide : 3 ≤ 100003)
theorem fr_ok {f : Int × Int} (h : isVal (frD f) = true) : okD (frD f) = true := by
  obtain ⟨_, a, b, c, _⟩ := val_iff h
  exact okD_of2 (pow_le (a := 20) (by omega) (by decide)) (pow_le (a := 20) (by omega) (by decide))
theorem short_val {f : Int × Int} (h : isVal (frD f) = true) : shortZ (frD f) = some (valW (frD f)) := by
  obtain ⟨e, _, _, _, b1, b2⟩ := val_iff h
  show (if _ then _ else _) = _
  rw [if_pos ⟨e, b1, b2⟩]
  rfl
theorem vt_val {K : PySem.W.Frag} {C : Addr} {H : Hp} {x : V} {f : Int × Int} {Q : VK} (hf : isVal (frD f) = true) (hx : Dp K H x (frD f)) (k : ∀ H', Same H H' → Q (.str (valW (frD f))) H') : sp_vt K C [x] H Q E0 :=
  ⟨x, frD f, rfl, hx, fr_ok hf, fun z e H' s => by rw [short_val hf] at e; cases e; exact k H' s, fun e => by rw [short_val hf] at e; cases e⟩
section
variable {P : Program} {w : World} {K : PySem.W.Frag} {mg : Str → Option Value} {base : Heap}
def lookS (z : Str) : Bool := !inV (.str z) [.str "be", .str "table"]
theorem ok_is_look (T : Txt w K mg) : FnOk P w K mg base CX0 1 T.a_is_look T.d_is_look ["line"] (fun vs H Q _ => ∃ a z xs, vs = [.ref a] ∧ SqT K H a (.str z :: xs) ∧ ∀ H', Same H H' → Q (.bl (lookS z)) H') := by
  refine T.F_is_look.ok sc_is_look (fun vs H Q E h => ?_) (fun cdv A outer s H vs Q E hr h => ?_)
  · obtain ⟨a, z, xs, rfl, _⟩ := h
    rfl
  · obtain ⟨a, z, xs, rfl, ha, k⟩ := h
    refine ⟨_, (pss_one (ps_ret (pe_cmpR op_notIn_seq (pe_ix ix_tup (pv 0) pe_int (fun _ _ => rfl)) (pe_tupU (pa_cons pe_str (pa_cons pe_str pa_nil))) (by rfl)))), ?_⟩
    walk_at "rs"
    exact ⟨_, ha, _, at_ofN (j := 0) rfl rfl, by decide, fun q H2 s2 n2 h2 => ⟨_, .inr (SqT.of h2), rfl, by decide +kernel, k H2 s2⟩⟩
def askX (z : Str) (xs : List V) : List V := if z = "count" then (xs.drop 2).take 3 else (xs.drop 3).take 3
theorem ok_asked (T : Txt w K mg) : FnOk P w K mg base CX0 1 T.a_asked T.d_asked ["line"] (fun vs H Q _ => ∃ a z xs, vs = [.ref a] ∧ SqT K H a (.str z :: xs) ∧ ∀ t H', Same H H' → SqT K H' t (askX z (.str z :: xs)) → Q (.ref t) H') := by
  refine T.F_asked.ok sc_asked (fun vs H Q E h => ?_) (fun cdv A outer s H vs Q E hr h => ?_)
  · obtain ⟨a, z, xs, rfl, _⟩ := h
    rfl
  · obtain ⟨a, z, xs, rfl, ha, k⟩ := h
    refine ⟨_, (pss_one (ps_ret (pe_ifExp (pt_cmpR op_eqS (pe_ix ix_tup (pv 0) pe_int (fun _ _ => rfl)) pe_str (nomark _)) (pe_slice sl_tupU (pv 0) (po_some pe_int) (po_some pe_int)) (pe_slice sl_tupU (pv 0) (po_some pe_int) (po_some pe_int))))), ?_⟩
    walk_at "rs"
    refine ⟨_, ha, _, at_ofN (j := 0) rfl rfl, _, rfl, ite2 (fun e => ?_) (fun e => ?_)⟩
    · refine ⟨_, ha, fun q H' s' hq => k q H' s' ?_⟩
      rw [show cutV (V.str z :: xs) (some 2) (some 5) = ((V.str z :: xs).drop 2).take 3 from cutV_ij _ 2 5 (by decide)] at hq
      unfold askX
      rw [if_pos e]; exact hq
    · refine ⟨_, ha, fun q H' s' hq => k q H' s' ?_⟩
      rw [show cutV (V.str z :: xs) (some 3) (some 6) = ((V.str z :: xs).drop 3).take 3 from cutV_ij _ 3 6 (by decide)] at hq
      unfold askX
      rw [if_neg e]; exact hq
/-- what stands behind where -/
def sp_asked_words (K : PySem.W.Frag) : Sp := fun vs H Q _ => ∃ l z xs a c vr r, vs = [.ref l] ∧ SqT K H l (.str z :: xs) ∧ askX z (.str z :: xs) = [.str a, vr, .str c] ∧ Dp K H vr r ∧ okD r = true ∧ isRelD r = true ∧
  ∀ t H', Same H H' → H t = none → H' t = some (.lst ((relW a r c).map V.str)) → Q (.ref t) H'
theorem ok_asked_words (T : Txt w K mg) : FnOk P w K mg base CX0 5 T.a_asked_words T.d_asked_words ["line"] (sp_asked_words K) := by
  refine T.F_asked_words.ok sc_asked_words (fun vs H Q E h => ?_) (fun cdv A outer s H vs Q E hr h => ?_)
  · obtain ⟨l, z, xs, a, c, vr, r, rfl, _⟩ := h
    rfl
  · obtain ⟨l, z, xs, a, c, vr, r, rfl, hl, ex, hvr, hok, hrel, k⟩ := h
    have hr_asked : Room 1 _ := hr.mono (by decide)
    have G_asked := ok_asked (P := P) (base := base) T
    have hr_value_text : Room 4 _ := hr
    have G_value_text := ok_value_text (P := P) (base := base) T
    refine ⟨_, (pss_cons (ps_asg (pe_call G_asked hr_asked (by rfl) T.m_asked T.F_asked.kp T.B_asked .nil pass0 (pa_cons (pv 0) pa_nil)) (pg_tup rfl (pgs_cons (pg_name (i := 1) sc_asked_words.nd rfl (Or.inl rfl)) (pgs_cons (pg_name (i := 2) sc_asked_words.nd rfl (Or.inl rfl)) (pgs_cons (pg_name (i := 3) sc_asked_words.nd rfl (Or.inl rfl)) pgs_nil)))))
      (pss_cons (ps_if (pt_val (pe_callB (call_isiDK (K := K) rfl) (by rfl) T.n_isinstance (by decide +kernel) (pa_cons (pv 2) (pa_cons (pe_bltn (v := .ty "str") (u := .type "str") (by rfl) T.n_str (by decide +kernel) rfl) pa_nil)))) (pss_one (ps_ret (pe_lstU (pa_cons (pv 1) (pa_cons (pv 2) (pa_cons (pv 3) pa_nil)))))) pss_nil)
      (pss_one (ps_ret (pe_op op_catL (pe_lstU (pa_cons (pv 1) (pa_cons pe_str (pa_cons (pv 3) pa_nil)))) (pe_lc (own := [("a", 4), ("b", 5)]) (g := gTup K 2 (gCons (gName 4) (gCons (gName 5) (gNil)))) (tt := tYes) rfl sc_asked_words.nd (pi_tup (pv 2)) (blkOk_by (own := [("a", 4), ("b", 5)]) (N := N_asked_words) (sc := defScope s_asked_words) (by decide +kernel)) (fun _ _ _ _ _ => by exact (pg_tup rfl (pgs_cons (pg_name (i := 4) sc_asked_words.nd rfl (Or.inl rfl)) (pgs_cons (pg_name (i := 5) sc_asked_words.nd rfl (Or.inl rfl)) pgs_nil)))) (fun _ _ _ _ _ => pts_nil) (fun _ _ _ _ _ => (pe_joined (.cons (pe_fmt (pe_call G_value_text hr_value_text (by rfl) T.m_value_text T.F_value_text.kp T.B_value_text .nil passL (pa_cons (pv 4) pa_nil))) (.cons pe_str (.cons (pe_fmt (pe_call G_value_text hr_value_text (by rfl) T.m_value_text T.F_value_text.kp T.B_value_text .nil passL (pa_cons (pv 5) pa_nil))) .nil))))))))))), ?_⟩
    refine seq_op fun N hN => ?_
    walk_at "rs"
    refine ⟨z, xs, hl, fun t H1 s1 ht => ?_⟩
    rw [ex] at ht
    refine ⟨_, _, rfl, ht, rfl, ?_⟩
    unfold gCons gNil
    walk_at "rs"
    refine ⟨_, _, ⟨rfl, rfl⟩, _, _, rfl, _, _, rfl, rfl, hN _ _ ?_⟩
    clear hN N
    refine seq_op fun N hN => ?_
    walk_at "rs"
    refine ⟨vr, "str", ⟨rfl, rfl⟩, r, dp_same s1 hvr, by decide, ite2 (fun e => ?_) (fun e => hN _ _ ?_)⟩
    · obtain ⟨y, rfl⟩ := is_str e
      cases hvr
      exact ⟨by decide, fun q H2 s2 n2 h2 => k q H2 (Same.trans s1 s2) (Same.dom s1 _ n2) h2⟩
    clear hN N
    obtain ⟨y, hy, rfl⟩ | ⟨ps, rfl, hp⟩ := rel_cases hrel
    · exact absurd rfl e
    walk_at "rs"
    obtain ⟨b, ys, rfl, hb, hy⟩ := dp_tup (dp_same s1 hvr)
    have hl := (okD_tup.mp hok).1
    rw [List.length_map] at hl
    refine ⟨by decide, fun q H2 s2 n2 h2 => ⟨_, rfl, b, rfl, ⟨_, Same.seqT s2 hb⟩, fun D hD => lc_pr (i := 4) (j := 5) (te := fun σ H Q => tJs [tFmt (tCall (sp_vt K T.C_BadValue) [] E0 (tCons (tVar 4) tNil)), tC (.str ":"), tFmt (tCall (sp_vt K T.C_BadValue) [] E0 (tCons (tVar 5) tNil))] Str.empty σ H fun out H1 => Q (V.str out) H1) (fun p => .str (pairW (prD p))) (by decide) (Same.seqT s2 hb) (dpa_same s2 hy) hD (by omega) (fun x y p H3 hm hx hy s3 Q2 hq => ?_) (fun H3 s3 h3 => ?_)⟩⟩
    · walk_at "rs"
      simp only [tJs, tFmt]
      walk_at "rs"
      have l1 := valW_len (hp p hm).1
      have l2 := valW_len (hp p hm).2
      have l0 : (Str.ofString ":").length = 1 := by decide +kernel
      have big : 200 ≤ sizeLine := by decide
      refine vt_val (hp p hm).1 hx fun H4 s4 => .inl ⟨_, rfl, by omega, ?_, ?_, vt_val (hp p hm).2 (dp_same s4 hy) fun H5 s5 => .inl ⟨_, rfl, by omega, ?_, ?_⟩⟩
      · rw [empty_append]; omega
      · rw [empty_append, str_append_len]; omega
      · rw [empty_append, str_append_len, str_append_len]; omega
      · rw [empty_append]
        exact hq _ (Same.trans s4 s5)
    · refine ⟨D, rfl, _, s3 _ _ h2, _, h3, ?_, fun q2 H4 s4 n4 h4 => ?_⟩
      · rw [List.length_map]
        exact Nat.le_trans (show 3 + ps.length ≤ 3 + 100000 by omega) (by decide)
      · refine k q2 H4 (Same.trans s1 (Same.trans s2 (Same.trans s3 s4))) (Same.dom s1 _ (Same.dom s2 _ (Same.dom s3 _ n4))) ?_
        rw [h4]
        show some (HO.lst _) = some (HO.lst ((a :: "pairs" :: c :: (ps.map prD).map pairW).map V.str))
        rw [List.map_cons, List.map_cons, List.map_cons, List.map_map, List.map_map]
        rfl

/-- the words behind the kind -/
theorem ok_own_words (T : Txt w K mg) : FnOk P w K mg base CX0 6 T.a_own_words T.d_own_words ["line"] (fun vs H Q _ => ∃ v d, vs = [v] ∧ Dp K H v d ∧ okD d = true ∧ isLineD d = true ∧ ∀ t H', Same H H' → H t = none → H' t = some (.lst (((wordsD d).drop 3).map V.str)) → Q (.ref t) H') := by
  refine T.F_own_words.ok sc_own_words (fun vs H Q E h => ?_) (fun cdv A outer s H vs Q E hr h => ?_)
  · obtain ⟨v, d, rfl, _⟩ := h
    rfl
  · obtain ⟨v, d, rfl, hd, hok, hL, k⟩ := h
    have hr_asked_words : Room 5 _ := hr
    have G_asked_words := ok_asked_words (P := P) (base := base) T
    have hr_value_text : Room 4 _ := hr.mono (by decide)
    have G_value_text := ok_value_text (P := P) (base := base) T
    refine ⟨_, (pss_cons (ps_if (pt_cmpR op_eqS (pe_ix ix_tup (pv 0) pe_int (fun _ _ => rfl)) pe_str (nomark _)) (pss_one (ps_ret (pe_callTy call_listU (by rfl) T.n_list (by decide +kernel) (pa_cons (pe_ix ix_tup (pv 0) pe_int (fun _ _ => rfl)) pa_nil)))) pss_nil)
      (pss_cons (ps_if (pt_cmpR op_eqS (pe_ix ix_tup (pv 0) pe_int (fun _ _ => rfl)) pe_str (nomark _)) (pss_one (ps_ret (pe_op op_catL (pe_op op_catL (pe_callTy call_listU (by rfl) T.n_list (by decide +kernel) (pa_cons (pe_ix ix_tup (pv 0) pe_int (fun _ _ => rfl)) pa_nil)) (pe_lstU (pa_cons pe_str pa_nil))) (pe_lc (own := [("value", 1)]) (g := gName 1) (tt := tYes) rfl sc_own_words.nd (pi_tup (pe_ix ix_tup (pv 0) pe_int (fun _ _ => rfl))) (blkOk_by (own := [("value", 1)]) (N := N_own_words) (sc := defScope s_own_words) (by decide +kernel)) (fun _ _ _ _ _ => pg_name (i := 1) sc_own_words.nd rfl (Or.inl rfl)) (fun _ _ _ _ _ => pts_nil) (fun _ _ _ _ _ => (pe_call G_value_text hr_value_text (by rfl) T.m_value_text T.F_value_text.kp T.B_value_text .nil passL (pa_cons (pv 1) pa_nil))))))) pss_nil)
      (pss_cons (ps_if (pt_cmpR op_eqS (pe_ix ix_tup (pv 0) pe_int (fun _ _ => rfl)) pe_str (nomark _)) (pss_one (ps_ret (pe_op op_catL (pe_lstU (pa_cons pe_str pa_nil)) (pe_call G_asked_words hr_asked_words (by rfl) T.m_asked_words T.F_asked_words.kp T.B_asked_words .nil pass0 (pa_cons (pv 0) pa_nil))))) pss_nil)
      (pss_one (ps_ret (pe_op op_catL (pe_op op_catL (pe_lstU (pa_cons (pe_ix ix_tup (pv 0) pe_int (fun _ _ => rfl)) (pa_cons pe_str pa_nil))) (pe_call G_asked_words hr_asked_words (by rfl) T.m_asked_words T.F_asked_words.kp T.B_asked_words .nil pass0 (pa_cons (pv 0) pa_nil))) (pe_lstU (pa_cons pe_str (pa_cons (pe_callTy call_str_int (by rfl) T.n_str (by decide +kernel) (pa_cons (pe_ix ix_tup (pv 0) pe_int (fun _ _ => rfl)) pa_nil)) pa_nil))))))))), ?_⟩
    refine seq_op fun N hN => ?_
    walk_at "rs"
    have hl := line_of hL
    obtain ⟨a, xs, kd, own, ps, rfl, rfl, ha, hx⟩ : ∃ a xs kd own ps, v = .ref a ∧ d = .tuple (.str kd :: .str own :: ps) ∧ SqT K H a (.str kd :: .str own :: xs) ∧ DpAll K H xs ps := by
      have g : ∃ kd own ps, d = .tuple (.str kd :: .str own :: ps) := by cases hl <;> exact ⟨_, _, _, rfl⟩
      obtain ⟨kd, own, ps, rfl⟩ := g
      obtain ⟨a, ys, rfl, ha, hy⟩ := dp_tup hd
      obtain ⟨v1, v2, xs, rfl, h1, h2, hx⟩ := dpa_two_more hy
      cases h1
      cases h2
      exact ⟨a, xs, kd, own, ps, rfl, rfl, ha, hx⟩
    cases hl with
    | be own zs ho hp =>
      refine ⟨a, rfl, _, ha, _, at_ofN (j := 0) rfl rfl, _, rfl, ite2 (fun _ => ?_) (fun e => absurd rfl e)⟩
      obtain ⟨v, rfl, hv⟩ := dpa_one hx
      obtain ⟨b, ys, rfl, hb, hy⟩ := dp_tup hv
      obtain rfl := dpa_strs hy
      refine ⟨a, rfl, _, ha, _, at_ofN (j := 2) rfl rfl, b, rfl, _, .inr hb, fun l H2 s2 n2 h2 => k l H2 s2 n2 ?_⟩
      rw [h2, words_be]
      rfl
    | tab own ns fs ho ln hn lf hf =>
      refine ⟨a, rfl, _, ha, _, at_ofN (j := 0) rfl rfl, _, rfl, ite2 (fun e => absurd e tab_be) (fun _ => hN _ _ ?_)⟩
      clear hN N
      refine seq_op fun N hN => ?_
      walk_at "rs"
      refine ⟨_, ha, _, at_ofN (j := 0) rfl rfl, _, rfl, ite2 (fun _ => ?_) (fun e => absurd rfl e)⟩
      clear hN N
      obtain ⟨v1, v2, rfl, hv1, hv2⟩ := dpa_two hx
      obtain ⟨b, ys, rfl, hb, hy⟩ := dp_tup hv1
      obtain rfl := dpa_strs hy
      obtain ⟨b2, ws, rfl, hb2, hw⟩ := dp_tup hv2
      refine ⟨_, ha, _, at_ofN (j := 2) rfl rfl, b, rfl, _, .inr hb, fun l H2 s2 n2 h2 => ⟨by decide, fun p H3 s3 n3 h3 => ⟨_, s3 _ _ h2, _, h3, ?_, fun q H4 s4 n4 h4 => ?_⟩⟩⟩
      · rw [List.length_map]
        exact Nat.le_trans (show ns.length + 1 ≤ 13 by omega) (by decide)
      have s24 := Same.trans s2 (Same.trans s3 s4)
      refine ⟨_, rfl, _, _, _, _, rfl, rfl, Same.seqT s24 ha, at_ofN (j := 3) rfl rfl, b2, rfl, ⟨_, Same.seqT s24 hb2⟩, fun D hD => lc_data (fun d => .str (valW d)) (Same.seqT s24 hb2) (dpa_same s24 hw) hD (by rw [List.length_map]; omega) (fun x d1 H5 hm h1 s5 Q2 hq => ?_) (fun H5 s5 h5 => ?_)⟩
      · obtain ⟨f, hf2, rfl⟩ := List.mem_map.mp hm
        walk_at "rs"
        exact vt_val (hf f hf2) h1 hq
      · refine ⟨D, rfl, _, s5 _ _ h4, _, h5, ?_, fun q2 H6 s6 n6 h6 => ?_⟩
        · simp only [List.length_append, List.length_map, List.length_cons, List.length_nil]
          exact Nat.le_trans (show ns.length + 1 + fs.length ≤ 413 by omega) (by decide)
        · refine k q2 H6 (Same.trans s24 (Same.trans s5 s6)) ?_ ?_
          · exact Same.dom s24 _ (Same.dom s5 _ n6)
          · rw [h6, words_tab]
            show _ = some (HO.lst ((ns ++ (":" : Str) :: (fs.map frD).map valW).map V.str))
            rw [List.map_append, List.map_cons, List.map_map, List.map_map, List.map_map, List.append_assoc]
            rfl
    | cnt own x c r ho hx1 hr1 hc =>
      refine ⟨a, rfl, _, ha, _, at_ofN (j := 0) rfl rfl, _, rfl, ite2 (fun e => absurd e cnt_be) (fun _ => hN _ _ ?_)⟩
      clear hN N
      refine seq_op fun N hN => ?_
      walk_at "rs"
      refine ⟨_, ha, _, at_ofN (j := 0) rfl rfl, _, rfl, ite2 (fun e => absurd e cnt_tab) (fun _ => hN _ _ ?_)⟩
      clear hN N
      refine seq_op fun N hN => ?_
      walk_at "rs"
      refine ⟨_, ha, _, at_ofN (j := 0) rfl rfl, _, rfl, ite2 (fun _ => ?_) (fun e => absurd rfl e)⟩
      clear hN N
      obtain ⟨v1, vr, ys, rfl, hv1, hvr, hy⟩ := dpa_two_more hx
      obtain ⟨v3, rfl, hv3⟩ := dpa_one hy
      cases hv1
      cases hv3
      have okr : okD r = true := ok_mem (okD_tup.mp hok).2 (by simp)
      refine ⟨by decide, fun p H2 s2 n2 h2 => ⟨a, "count", _, x, c, vr, r, rfl, Same.seqT s2 ha, ?_, dp_same s2 hvr, okr, hr1, fun t H3 s3 n3 h3 => ⟨t, rfl, _, s3 _ _ h2, _, h3, ?_, fun q H4 s4 n4 h4 => ?_⟩⟩⟩
      · show (if _ then _ else _) = _
        rw [if_pos rfl]
        rfl
      · rw [List.length_map]
        exact Nat.le_trans (show 1 + (relW x r c).length ≤ 100004 by have := relW_len (a := x) (c := c) okr; omega) (by decide)
      · refine k q H4 (Same.trans s2 (Same.trans s3 s4)) (Same.dom s2 _ (Same.dom s3 _ n4)) ?_
        rw [h4, words_cnt]
        rfl
    | lst kd own p x c r i hk ho hp hx1 hr1 hc h1 h2 =>
      obtain ⟨n1, n2, n3⟩ := not_kinds hk
      refine ⟨a, rfl, _, ha, _, at_ofN (j := 0) rfl rfl, _, rfl, ite2 (fun e => absurd e n1) (fun _ => hN _ _ ?_)⟩
      clear hN N
      refine seq_op fun N hN => ?_
      walk_at "rs"
      refine ⟨_, ha, _, at_ofN (j := 0) rfl rfl, _, rfl, ite2 (fun e => absurd e n2) (fun _ => hN _ _ ?_)⟩
      clear hN N
      refine seq_op fun N hN => ?_
      walk_at "rs"
      refine ⟨_, ha, _, at_ofN (j := 0) rfl rfl, _, rfl, ite2 (fun e => absurd e n3) (fun _ => hN _ _ ?_)⟩
      clear hN N
      walk_at "rs"
      obtain ⟨vp, v1, ys, rfl, hvp, hv1, hy⟩ := dpa_two_more hx
      obtain ⟨vr, vc, ys, rfl, hvr, hvc, hy⟩ := dpa_two_more hy
      obtain ⟨vi, rfl, hvi⟩ := dpa_one hy
      cases hvp
      cases hv1
      cases hvc
      cases hvi
      have okr : okD r = true := ok_mem (okD_tup.mp hok).2 (by simp)
      have rl := relW_len (a := x) (c := c) okr
      refine ⟨_, ha, _, at_ofN (j := 2) rfl rfl, by decide, fun pl H2 s2 n2 h2 => ⟨a, kd, _, x, c, vr, r, rfl, Same.seqT s2 ha, ?_, dp_same s2 hvr, okr, hr1, fun t H3 s3 n3 h3 => ⟨t, rfl, _, s3 _ _ h2, _, h3, ?_, fun q H4 s4 n4 h4 => ?_⟩⟩⟩
      · show (if _ then _ else _) = _
        rw [if_neg n3]
        rfl
      · rw [List.length_map]
        exact Nat.le_trans (show 2 + (relW x r c).length ≤ 100005 by omega) (by decide)
      have s24 := Same.trans s2 (Same.trans s3 s4)
      refine ⟨_, Same.seqT s24 ha, _, at_ofN (j := 6) rfl rfl, i, rfl, small_log (by omega) (by omega), by decide, fun q2 H5 s5 n5 h5 => ⟨_, s5 _ _ h4, _, h5, ?_, fun q3 H6 s6 n6 h6 => ?_⟩⟩
      · simp only [List.length_append, List.length_map, List.length_cons, List.length_nil]
        exact Nat.le_trans (show 0 + 1 + 1 + (relW x r c).length + (0 + 1 + 1) ≤ 100010 by omega) (by decide)
      · refine k q3 H6 (Same.trans s24 (Same.trans s5 s6)) (Same.dom s24 _ (Same.dom s5 _ n6)) ?_
        rw [h6, words_lst hk]
        show _ = some (HO.lst ((p :: "where" :: (relW x r c ++ [("else" : Str), strI i])).map V.str))
        rw [List.map_cons, List.map_cons, List.map_append]
        rfl
theorem text_size {d : PyData} (h : Line d) (hok : okD d = true) : (wordsD d).length ≤ 100020 := by
  have okr : ∀ {ds : List PyData} {r : PyData}, okD (.tuple ds) = true → r ∈ ds → okD r = true := fun h m => ok_mem (okD_tup.mp h).2 m
  cases h with
  | be own zs ho hp =>
    rw [words_be]
    have := (pre_ok hp).1
    simp only [List.length_cons]
    omega
  | tab own ns fs ho ln hn lf hf =>
    rw [words_tab]
    simp only [List.length_cons, List.length_append, List.length_map]
    omega
  | cnt own a c r ho ha hr hc =>
    rw [words_cnt]
    have := relW_len (a := a) (c := c) (okr hok (by simp : r ∈ _))
    simp only [List.length_cons]
    omega
  | lst k own p a c r i hk ho hp ha hr hc h1 h2 =>
    rw [words_lst hk]
    have := relW_len (a := a) (c := c) (okr hok (by simp : r ∈ _))
    simp only [List.length_cons, List.length_append, List.length_nil]
    omega
theorem words_three {d : PyData} (h : Line d) : ∃ own kd, isOwnD (.str own) = true ∧ wordsD d = ("let" : Str) :: own :: kd :: (wordsD d).drop 3 ∧ ∃ ps, d = .tuple (.str kd :: .str own :: ps) := by
  cases h with
  | be own zs ho => exact ⟨own, "be", ho, rfl, _, rfl⟩
  | tab own ns fs ho => exact ⟨own, "table", ho, rfl, _, rfl⟩
  | cnt own a c r ho => exact ⟨own, "count", ho, rfl, _, rfl⟩
  | lst k own p a c r i hk ho => exact ⟨own, k, ho, rfl, _, rfl⟩
theorem ok_line_text (T : Txt w K mg) : FnOk P w K mg base CX0 7 T.a_line_text T.d_line_text ["line"] (fun vs H Q _ => ∃ v d, vs = [v] ∧ Dp K H v d ∧ okD d = true ∧ isLineD d = true ∧ ∀ H', Same H H' → Q (.str (textD d)) H') := by
  refine T.F_line_text.ok sc_line_text (fun vs H Q E h => ?_) (fun cdv A outer s H vs Q E hr h => ?_)
  · obtain ⟨v, d, rfl, _⟩ := h
    rfl
  · obtain ⟨v, d, rfl, hd, hok, hL, k⟩ := h
    have hr_own_words : Room 6 _ := hr
    have G_own_words := ok_own_words (P := P) (base := base) T
    refine ⟨_, (pss_one (ps_ret (pe_join pe_str (pe_op op_catL (pe_lstU (pa_cons pe_str (pa_cons (pe_ix ix_tup (pv 0) pe_int (fun _ _ => rfl)) (pa_cons (pe_ix ix_tup (pv 0) pe_int (fun _ _ => rfl)) pa_nil)))) (pe_call G_own_words hr_own_words (by rfl) T.m_own_words T.F_own_words.kp T.B_own_words .nil pass0 (pa_cons (pv 0) pa_nil)))))), ?_⟩
    walk_at "rs"
    have hl := line_of hL
    obtain ⟨own, kd, ho, ew, ps, rfl⟩ := words_three hl
    obtain ⟨a, ys, rfl, ha, hy⟩ := dp_tup hd
    obtain ⟨v1, v2, xs, rfl, h1, h2, hx⟩ := dpa_two_more hy
    cases h1
    cases h2
    have sz := text_size hl hok
    have hws := words_size (words_ok hl)
    have l1 : (Str.ofString " ").length = 1 := by decide +kernel
    have tx : textD (.tuple (.str kd :: .str own :: ps)) = Txt.join (Str.ofString " ") (wordsD (.tuple (.str kd :: .str own :: ps))) := rfl
    replace k : ∀ H', Same H H' → Q (.str (textD (.tuple (.str kd :: .str own :: ps)))) H' := k
    rw [tx] at k
    generalize hW : wordsD (.tuple (.str kd :: .str own :: ps)) = W at *
    refine ⟨⟨_, rfl⟩, a, rfl, _, ha, _, at_ofN (j := 1) rfl rfl, a, rfl, _, ha, _, at_ofN (j := 0) rfl rfl, by decide, fun p H2 s2 n2 h2 => ⟨_, dp_same s2 hd, hok, hL, fun t H3 s3 n3 h3 => ⟨_, s3 _ _ h2, _, h3, ?_, fun q H4 s4 n4 h4 => ⟨W, .inl (SqL.of ?_), ?_, k H4 (Same.trans s2 (Same.trans s3 s4))⟩⟩⟩⟩
    · rw [hW]
      simp only [List.length_map, List.length_drop, List.length_cons, List.length_nil]
      exact Nat.le_trans (show 0 + 1 + 1 + 1 + (W.length - 3) ≤ 100030 by omega) (by decide)
    · rw [h4, hW]
      conv => rhs; rw [ew]
      rfl
    · rw [l1]
      omega
end
end LK

set_option Elab.async false
set_option linter.all false
set_option maxRecDepth 100000
set_option pp.deepTerms true
set_option pp.maxSteps 20000
namespace LK
open PySem PySem.Spec PyProof.Rows L2
local macro_rules | `(tactic| walk_at "rs") => `(tactic| simp only [cxK, cxNK, tCallZ, tAsg, tOp, rI0, rS0, rB0, rI, rU, tUn, rEq, rNe, rIxL, rIxT, rIxS, rSetL, rSlLU, rSlS, rSlU, rCatL, rCatU, rRepL, rIn, tVar, tC, gName, gSub, tIfS, tTest, tB, tAnd, tOr, tNot, tNotV, tAndV, tOrV, tIf, tCall, tCons, tNil, tCB, tDrop, tRet, tRetN, tNext, tLstU, tTupU, tM0, tM1, tPar, tPar3, tAug, ipI, tBM, tBM0, rAppend, rPop, tBreak, tCont, tChain, tSl, tPart, tNoPart, L2.start, List.map, List.length_cons, List.length_nil, List.replicate, List.cons_append, List.nil_append, List.append_nil, List.getElem?_cons_zero, List.getElem?_cons_succ, List.set_cons_zero, List.set_cons_succ, Option.some.injEq, V.int.injEq, V.ref.injEq, V.str.injEq, V.bl.injEq, exists_eq_left', exists_eq_left, exists_and_left, decide_eq_true_eq, List.cons.injEq, and_true, true_and, scal, Bool.not_eq_true', decide_eq_false_iff_not, Nat.zero_add, Nat.reduceAdd, Nat.reduceSub, reduceCtorEq, false_and, exists_false, false_or, or_false, CPow, CMul, CDiv, Int.reduceToNat, ↓reduceIte, wipe, sw, List.nil_append, List.singleton_append])
local macro_rules | `(tactic| walk_at "st") => `(tactic| (refine seq_op fun N hN => ?_; walk_at "rs"))
local macro_rules | `(tactic| walk_at "sd") => `(tactic| first | assumption | decide | omega)
local macro_rules | `(tactic| walk_at "rd") => `(tactic| repeat (first
  | refine ⟨_, SqL.of (by assumption), ?_⟩ | refine ⟨_, SqL.of upd_same, ?_⟩ | refine ⟨_, .inl (SqL.of (by assumption)), ?_⟩ | refine ⟨_, (by assumption : _ = some (HO.lst _)), ?_⟩ | refine ⟨_, upd_same, ?_⟩
  | refine ⟨_, rfl, ?_⟩ | refine And.intro (by walk_at "sd") ?_))

theorem dpa_snoc {K : PySem.W.Frag} {H : Hp} : ∀ {xs : List V} {ds : List PyData} {v : V} {d : PyData}, DpAll K H xs ds → Dp K H v d → DpAll K H (xs ++ [v]) (ds ++ [d])
  | _, _, _, _, .nil, h => .cons h .nil
  | _, _, _, _, .cons a r, h => .cons a (dpa_snoc r h)
theorem nw_mono {H H1 H' H2 : Hp} (a : ∀ x, H' x ≠ none → H x = none → H1 x = none) (b : ∀ x o, H x = none → H' x = some o → H2 x = some o) : Same (nw H H') (nw H1 H2) := fun x o e => by
  obtain ⟨q1, q2⟩ := nw_some e
  exact nw_of (a x (by rw [q2]; exact Option.some_ne_none _) q1) (b x o q1 q2)
/-- what is new from H1 on is new from H on -/
theorem nw_back {H H1 H' : Hp} (s : Same H H1) : Same (nw H1 H') (nw H H') := nw_mono (fun x _ e => s.free e) fun _ _ _ h => h
theorem nw_on {H H' H2 : Hp} (s : Same H' H2) : Same (nw H H') (nw H H2) := nw_mono (fun x _ e => e) fun x o _ h => s x o h
theorem nw_in {H H' : Hp} : Same (nw H H') H' := fun x o e => (nw_some e).2
/-- a comprehension of new data -/
theorem lc_new {K : PySem.W.Frag} {J : It} {n : Nat} {G : Hp → Prop} {Y : Nat → Hp → V → Hp → Prop} (w : Walk J n G Y) {g : TG} {te : TE} {vs : List Nat} {σ : L2.St} {H1 : Hp} {D : Addr} {Qd : Hp → Prop} (ds : List PyData) (hl : ds.length = n) (hD : H1 D = none) (hn : n ≤ 1000000)
    (hG : ∀ H, Same H1 H → G H)
    (hs : ∀ i x H H' d, ds[i]? = some d → Same H1 H → Y i H x H' → g x (wipe σ vs) H' fun σ2 H2 => Same H H2 ∧ wipe σ2 vs = wipe σ vs ∧ ∀ Q2 : V → Hp → Prop, (∀ v H3, Same H2 H3 → Dp K (nw H2 H3) v d → Q2 v H3) → te σ2 H2 Q2)
    (gm : ∀ x σ0 H0 Q0 Q1, (∀ σ2 H2, Q0 σ2 H2 → Q1 σ2 H2) → g x σ0 H0 Q0 → g x σ0 H0 Q1)
    (hq : ∀ H' ys, Same H1 H' → H' D = some (.lst ys) → DpAll K (nw H1 H') ys ds → Qd H') :
    ∃ W : Nat → Nat → Hp → Prop, (∃ m, W 0 m (L2.upd H1 D (.lst []))) ∧ ∀ i m H, W i m H →
      (J.stop i H ∧ Qd H) ∨ (J.go i H ∧ ∃ Nx : Hp → Prop, (∀ H', Nx H' → ∃ m', m' < m ∧ W (i + 1) m' H') ∧ ∀ x H', J.yld i H x H' → g x (wipe σ vs) H' fun σ2 H2 => wipe σ2 vs = wipe σ vs ∧ tYes σ2 H2 fun b H3 =>
        if b = true then te σ2 H3 fun y H4 => ∃ acc, H4 D = some (.lst acc) ∧ acc.length < sizeLine ∧ Nx (L2.upd H4 D (.lst (acc ++ [y]))) else Nx H3) := by
  have keep : ∀ {H : Hp} {o : HO}, Same H1 H → Same H1 (L2.upd H D o) := fun s a u e => by
    rw [upd_ne (ne_of_none e hD)]; exact s _ _ e
  refine lc_it w (fun i H => Same H1 H ∧ ∃ ys, H D = some (.lst ys) ∧ ys.length = i ∧ DpAll K (nw (L2.upd H1 D (.lst [])) H) ys (ds.take i)) ⟨keep (Same.refl _), [], upd_same, rfl, .nil⟩ (fun i H _ h => hG H h.1) (fun i x H H' hi ⟨s1, ys, h1, hl1, hr⟩ hY => ?_) (fun H ⟨s1, ys, h1, hl1, hr⟩ => hq H ys s1 h1 ?_)
  · have hd : ds[i]? = some (ds[i]'(by omega)) := List.getElem?_eq_getElem (by omega)
    refine gm _ _ _ _ _ (fun σ2 H2 ⟨s2, e2, kq⟩ => ⟨e2, ?_⟩) (hs i x H H' _ hd s1 hY)
    simp only [tYes, eq_self, ite_true]
    refine kq _ fun v H3 s3 hv => ?_
    have hD2 := s2 _ _ h1
    have hD3 := s3 _ _ hD2
    refine ⟨ys, hD3, ?_, keep (Same.trans s1 (Same.trans s2 s3)), ys ++ [v], upd_same, by rw [List.length_append, hl1]; rfl, ?_⟩
    · rw [hl1]
      exact Nat.lt_of_lt_of_le (Nat.lt_of_lt_of_le hi hn) (by decide)
    · have kk : ∀ a o, L2.upd H1 D (.lst []) a = none → H3 a = some o → L2.upd H3 D (.lst (ys ++ [v])) a = some o := fun a o q e => by
        have n : a ≠ D := fun z => by rw [z, upd_same] at q; cases q
        rw [upd_ne n]; exact e
      have e3 : ds.take (i + 1) = ds.take i ++ [ds[i]'(by omega)] := by rw [List.take_succ, hd]; rfl
      rw [e3]
      refine dpa_snoc (dpa_same (nw_mono (fun _ _ e => e) fun a o q e => kk a o q (Same.trans s2 s3 _ _ e)) hr) (dp_same (fun a o e => ?_) hv)
      obtain ⟨q1, q2⟩ := nw_some e
      have d1 : L2.upd H1 D (.lst []) a = none := by
        by_cases n : a = D
        · rw [n, hD2] at q1; cases q1
        · rw [upd_ne n]
          exact Same.dom (Same.trans s1 s2) a q1
      exact nw_of d1 (kk _ _ d1 q2)
  · have e : ds.take n = ds := List.take_of_length_le (by omega)
    rw [e] at hr
    refine dpa_same (nw_mono (fun a _ q => ?_) fun _ _ _ h => h) hr
    by_cases n : a = D
    · rw [n]; exact hD
    · rw [upd_ne n] at q; exact q
theorem colon_len {z : Str} : (Txt.partition z ":").1.length ≤ z.length ∧ (Txt.partition z ":").2.1.length ≤ 1 ∧ (Txt.partition z ":").2.2.length ≤ z.length := by
  have l0 : Str.empty.length = 0 := rfl
  have l1 : (Str.ofString ":").length = 1 := by decide +kernel
  have sub : ∀ i j, (Builtin.Str.strSub z i j).length ≤ z.length := fun i j => by
    rw [TL.len_tl, TL.tl_strSub, List.length_take, List.length_drop, TL.len_tl z]
    omega
  rcases PyProof.Rows.partition_whole z ":" with ⟨e, _⟩ | ⟨i, e, _, _⟩
  · rw [e]
    exact ⟨Nat.le_refl _, by rw [l0]; omega, by rw [l0]; omega⟩
  · rw [e]
    exact ⟨sub _ _, by show (Str.ofString ":").length ≤ 1; omega, sub _ _⟩
theorem strs_dpa {K : PySem.W.Frag} {H : Hp} : ∀ (zs : List Str), DpAll K H (zs.map V.str) (zs.map PyData.str)
  | [] => .nil
  | z :: zs => .cons (.str z) (strs_dpa zs)
/-- [f(word) for word in words], new data -/
theorem lc_rd {K : PySem.W.Frag} {a : Addr} {ws : List Str} {te : TE} {i : Nat} {σ : L2.St} {H1 : Hp} {D : Addr} {Qd : Hp → Prop} (f : Str → PyData) (ha : SqL K H1 a (ws.map V.str)) (hD : H1 D = none) (hn : ws.length ≤ 1000000)
    (hs : ∀ z H, z ∈ ws → Same H1 H → ∀ Q2 : V → Hp → Prop, (∀ v H3, Same H H3 → Dp K (nw H H3) v (f z) → Q2 v H3) → te ((wipe σ [i]).set i (some (.str z))) H Q2)
    (hq : ∀ H' ys, Same H1 H' → H' D = some (.lst ys) → DpAll K (nw H1 H') ys (ws.map f) → Qd H') :
    ∃ W : Nat → Nat → Hp → Prop, (∃ m, W 0 m (L2.upd H1 D (.lst []))) ∧ ∀ i' m H, W i' m H →
      ((Itl K a).stop i' H ∧ Qd H) ∨ ((Itl K a).go i' H ∧ ∃ Nx : Hp → Prop, (∀ H', Nx H' → ∃ m', m' < m ∧ W (i' + 1) m' H') ∧ ∀ x H', (Itl K a).yld i' H x H' → gName i x (wipe σ [i]) H' fun σ2 H2 => wipe σ2 [i] = wipe σ [i] ∧ tYes σ2 H2 fun b H3 =>
        if b = true then te σ2 H3 fun y H4 => ∃ acc, H4 D = some (.lst acc) ∧ acc.length < sizeLine ∧ Nx (L2.upd H4 D (.lst (acc ++ [y]))) else Nx H3) := by
  refine lc_new (walk_list (K := K) (a := a) (xs := ws.map V.str)) (ws.map f) (by rw [List.length_map, List.length_map]) hD (by rw [List.length_map]; exact hn) (fun H s => Same.seq s ha) (fun k x H H' d hd s1 y => ?_) (fun x σ0 H0 Q0 Q1 h q => h _ _ q) hq
  obtain ⟨rfl, e⟩ := y
  rw [List.getElem?_map] at hd e
  obtain ⟨z, hz, rfl, rfl⟩ : ∃ z, ws[k]? = some z ∧ V.str z = x ∧ f z = d := by
    cases hh : ws[k]? with
    | none => rw [hh] at hd; cases hd
    | some z => rw [hh] at hd e; exact ⟨z, rfl, Option.some.inj e, Option.some.inj hd⟩
  refine ⟨Same.refl _, ?_, fun Q2 h2 => hs z H' (List.mem_of_getElem? hz) s1 Q2 h2⟩
  show ((σ.set i none).set i (some _)).set i none = σ.set i none
  rw [List.set_set, List.set_set]
theorem ix_spec (w : Str) : ∀ l : List Str, w ∈ l → (l.map V.str)[ixS w l]? = some (.str w) ∧ ∀ (m : Nat) (z : V), m < ixS w l → (l.map V.str)[m]? = some z → eqV z (.str w) = false
  | [], h => by cases h
  | x :: l, h => by
    by_cases e : x = w
    · subst e
      have e0 : ixS x (x :: l) = 0 := if_pos rfl
      rw [e0]
      exact ⟨rfl, fun m z hm => absurd hm (by omega)⟩
    · have e0 : ixS w (x :: l) = ixS w l + 1 := if_neg e
      rw [e0]
      have hw : w ∈ l := by
        rcases List.mem_cons.mp h with h | h
        · exact absurd h.symm e
        · exact h
      obtain ⟨a, b⟩ := ix_spec w l hw
      refine ⟨a, fun m z hm hz => ?_⟩
      cases m with
      | zero =>
        cases hz
        show (x == w) = false
        exact beq_eq_false_iff_ne.mpr e
      | succ m => exact b m z (by omega) hz
theorem flat_strs (l : List Str) : (l.map V.str).all flatV = true := List.all_eq_true.mpr fun v hv => by
  obtain ⟨z, _, rfl⟩ := List.mem_map.mp hv
  rfl
theorem last_of : ∀ (y : Str) (r : List Str), ∃ m z, y :: r = m ++ [z]
  | y, [] => ⟨[], y, rfl⟩
  | y, x :: r => by
    obtain ⟨m, z, e⟩ := last_of x r
    exact ⟨y :: m, z, by rw [e]; rfl⟩
theorem cutV_22 (xs : List V) : cutV xs (some 2) (some (-2)) = (xs.drop 2).take (xs.length - 4) := by
  unfold cutV
  have e1 : HT.sIx xs.length 0 (some 2) = min 2 xs.length := rfl
  have e2 : HT.sIx xs.length xs.length (some (-2)) = xs.length - 2 := by
    show (if (-2 : Int) < 0 then ((-2 : Int) + (xs.length : Int)).toNat else min (-2 : Int).toNat xs.length) = _
    rw [if_pos (by decide)]
    omega
  rw [e1, e2]
  by_cases c : 2 ≤ xs.length
  · rw [Nat.min_eq_left c]
    congr 1
  · rw [List.drop_eq_nil_of_le (by omega), List.drop_eq_nil_of_le (by omega)]
    simp
theorem dpa_app {K : PySem.W.Frag} {H : Hp} : ∀ {xs ys : List V} {ds es : List PyData}, DpAll K H xs ds → DpAll K H ys es → DpAll K H (xs ++ ys) (ds ++ es)
  | _, _, _, _, .nil, h => h
  | _, _, _, _, .cons a r, h => .cons a (dpa_app r h)
theorem rdA_len (ws : List Str) : (rdA ws).length ≤ ws.length := by
  unfold rdA
  split
  · rename_i h
    exact h.1
  · rw [List.length_map]; exact Nat.le_refl _
section
variable {P : Program} {w : World} {K : PySem.W.Frag} {mg : Str → Option Value} {base : Heap}
/-- a value read, or None: new -/
theorem rd_new {H : Hp} {z : Str} {Q : VK} (hz : z.length ≤ 100000) (k : ∀ v H', Same H H' → Dp K (nw H H') v (vZ z) → Q v H') : sp_read K [.str z] H Q E0 := by
  refine ⟨_, .str z, rfl, .str z, decide_eq_true hz, fun e H' s => k _ H' s ?_, fun p q e t H' s h0 h1 => k _ H' s ?_⟩
  · have e : readZ z = none := e
    unfold vZ
    rw [e]
    exact .non
  · have e : readZ z = some (p, q) := e
    unfold vZ
    rw [e]
    exact .tup (SqT.of (nw_of h0 h1)) (.cons (.int _) (.cons (.int _) .nil))
theorem ok_read_pair (T : Txt w K mg) : FnOk P w K mg base CX0 6 T.a_read_pair T.d_read_pair ["word"] (fun vs H Q _ => ∃ z, vs = [.str z] ∧ z.length ≤ 100000 ∧ ∀ v H', Same H H' → Dp K (nw H H') v (pr1 z) → Q v H') := by
  refine T.F_read_pair.ok sc_read_pair (fun vs H Q E h => ?_) (fun cdv A outer s H vs Q E hr h => ?_)
  · obtain ⟨z, rfl, _⟩ := h
    rfl
  · obtain ⟨z, rfl, hz, k⟩ := h
    have hr_read_value : Room 5 _ := hr
    have G_read_value := ok_read_value (P := P) (base := base) T
    refine ⟨_, (pss_cons (ps_asg (pe_partition (pv 0) pe_str) (pg_tup rfl (pgs_cons (pg_name (i := 1) sc_read_pair.nd rfl (Or.inl rfl)) (pgs_cons (pg_name (i := 2) sc_read_pair.nd rfl (Or.inl rfl)) (pgs_cons (pg_name (i := 3) sc_read_pair.nd rfl (Or.inl rfl)) pgs_nil)))))
      (pss_one (ps_ret (pe_tupU (pa_cons (pe_call G_read_value hr_read_value (by rfl) T.m_read_value T.F_read_value.kp T.B_read_value .nil pass0 (pa_cons (pv 1) pa_nil)) (pa_cons (pe_call G_read_value hr_read_value (by rfl) T.m_read_value T.F_read_value.kp T.B_read_value .nil pass0 (pa_cons (pv 3) pa_nil)) pa_nil)))))), ?_⟩
    refine seq_op fun N hN => ?_
    walk_at "rs"
    have pl := colon_len (z := z)
    have big : 100000 ≤ sizeLine := by decide
    refine ⟨⟨_, rfl⟩, by decide +kernel, by omega, fun p hp => ?_⟩
    have s1 : Same H (L2.upd H p (HO.tup [.str (Txt.partition z ":").1, .str (Txt.partition z ":").2.1, .str (Txt.partition z ":").2.2])) := same_upd hp
    refine ⟨_, _, rfl, SqT.of upd_same, rfl, ?_⟩
    unfold gCons gNil
    walk_at "rs"
    refine ⟨_, _, ⟨rfl, rfl⟩, _, _, rfl, _, _, rfl, rfl, hN _ _ ?_⟩
    clear hN N
    generalize L2.upd H p _ = H1 at s1
    walk_at "rs"
    refine rd_new (by omega) fun v H2 s2 h2 => rd_new (by omega) fun v2 H3 s3 h3 => ⟨by decide, fun t H4 s4 n4 h4 => k _ H4 (Same.trans s1 (Same.trans s2 (Same.trans s3 s4))) ?_⟩
    have n4' : H t = none := Same.dom s1 _ (Same.dom s2 _ (Same.dom s3 _ n4))
    refine .tup (SqT.of (nw_of n4' h4)) (.cons (dp_same (Same.trans (nw_back s1) (nw_on (Same.trans s3 s4))) h2) (.cons (dp_same (Same.trans (nw_back (Same.trans s1 s2)) (nw_on s4)) h3) .nil))
def sp_read_asked (K : PySem.W.Frag) : Sp := fun vs H Q _ => ∃ a ws, vs = [.ref a] ∧ SqL K H a (ws.map V.str) ∧ ws.length ≤ 100001 ∧ (∀ z ∈ ws, z.length ≤ 100000) ∧ ∀ t ys H', Same H H' → SqT K H' t ys → DpAll K H' ys (rdA ws) → Q (.ref t) H'
theorem ok_read_asked (T : Txt w K mg) : FnOk P w K mg base CX0 7 T.a_read_asked T.d_read_asked ["words"] (sp_read_asked K) := by
  refine T.F_read_asked.ok sc_read_asked (fun vs H Q E h => ?_) (fun cdv A outer s H vs Q E hr h => ?_)
  · obtain ⟨a, ws, rfl, _⟩ := h
    rfl
  · obtain ⟨a, ws, rfl, ha, hl, hz, k⟩ := h
    have hr_read_pair : Room 6 _ := hr
    have G_read_pair := ok_read_pair (P := P) (base := base) T
    refine ⟨_, (pss_cons (ps_if (PW.pt (pw_or (pt_cmpR op_lt (pe_callB call_len_seq (by rfl) T.n_len (by decide +kernel) (pa_cons (pv 0) pa_nil)) pe_int (nomark _)) (pw_or1 (pt_cmpR op_neS (pe_ix ix_list (pv 0) pe_int (fun _ _ => rfl)) pe_str (nomark _))))) (pss_one (ps_ret (pe_callTy call_tupleN (by rfl) T.n_tuple (by decide +kernel) (pa_cons (pv 0) pa_nil)))) pss_nil)
      (pss_one (ps_ret (pe_tupU (pa_cons (pe_ix ix_list (pv 0) pe_int (fun _ _ => rfl)) (pa_cons (pe_callTy call_tupleN (by rfl) T.n_tuple (by decide +kernel) (pa_cons (pe_lc (own := [("word", 1)]) (g := gName 1) (tt := tYes) rfl sc_read_asked.nd (pi_list (pe_slice sl_listU (pv 0) (po_some pe_int) po_none)) (blkOk_by (own := [("word", 1)]) (N := N_read_asked) (sc := defScope s_read_asked) (by decide +kernel)) (fun _ _ _ _ _ => pg_name (i := 1) sc_read_asked.nd rfl (Or.inl rfl)) (fun _ _ _ _ _ => pts_nil) (fun _ _ _ _ _ => (pe_call G_read_pair hr_read_pair (by rfl) T.m_read_pair T.F_read_pair.kp T.B_read_pair .nil pass0 (pa_cons (pv 1) pa_nil)))) pa_nil)) (pa_cons (pe_ix ix_list (pv 0) pe_int (fun _ _ => rfl)) pa_nil))))))), ?_⟩
    refine seq_op fun N hN => ?_
    walk_at "rs"
    have tupd : ∀ (q : Addr) (H' : Hp), Same H H' → H q = none → H' q = some (HO.tup (ws.map V.str)) → rdA ws = ws.map PyData.str → Q (.ref q) H' := fun q H' s' _ hq e => k q _ H' s' (SqT.of hq) (by rw [e]; exact strs_dpa ws)
    refine ⟨_, .inl ha, ite2 (fun e => ⟨_, ha, fun q H' s' n' hq => tupd q H' s' n' hq ?_⟩) (fun e => ?_)⟩
    · unfold rdA
      rw [if_neg]
      rw [List.length_map] at e
      omega
    rw [List.length_map] at e
    obtain ⟨x, y, c, r, rfl⟩ : ∃ x y c r, ws = x :: y :: c :: r := by
      match ws, e with
      | x :: y :: c :: r, _ => exact ⟨x, y, c, r, rfl⟩
      | [], e => exact absurd (by decide) e
      | [_], e => exact absurd (show ((1 : Nat) : Int) < 3 by decide) e
      | [_, _], e => exact absurd (show ((2 : Nat) : Int) < 3 by decide) e
    refine ⟨_, ha, _, at_ofN (j := 1) rfl rfl, _, rfl, ite2 (fun e2 => ⟨_, ha, fun q H' s' n' hq => tupd q H' s' n' hq ?_⟩) (fun e2 => hN _ _ ?_)⟩
    · rw [rdA_eq, if_neg e2]; rfl
    clear hN N
    obtain rfl : y = "pairs" := Decidable.not_not.mp e2
    walk_at "rs"
    rw [rdA_eq, if_pos rfl] at k
    refine ⟨_, ha, _, at_ofN (j := 0) rfl rfl, _, rfl, _, rfl, _, _, rfl, ha, fun p H2 s2 n2 h2 => ?_⟩
    rw [show cutV ((x :: "pairs" :: c :: r).map V.str) (some 3) none = r.map V.str from cutV_drop _ 3] at h2
    simp only [List.length_cons] at hl
    refine ⟨p, rfl, ⟨_, SqL.of h2⟩, fun D hD => lc_rd pr1 (SqL.of h2) hD (by omega) (fun z H3 hm s3 Q2 hq => ?_) (fun H3 ys s3 h3 hy => ?_)⟩
    · walk_at "rs"
      exact ⟨hz z (by simp [hm]), hq⟩
    · refine ⟨D, rfl, _, SqL.of h3, fun q H4 s4 n4 h4 => ⟨_, Same.seq (Same.trans s2 (Same.trans s3 s4)) ha, _, at_ofN (j := 2) rfl rfl, by decide, fun t H5 s5 n5 h5 => ?_⟩⟩
      refine k t _ H5 (Same.trans (Same.trans s2 (Same.trans s3 s4)) s5) (SqT.of h5) (.cons (.str _) (.cons (.tup (SqT.of (s5 _ _ h4)) (dpa_same (Same.trans nw_in (Same.trans s4 s5)) hy)) (.cons (.str _) .nil)))
/-- words as a line -/
theorem ok_line_of_words (T : Txt w K mg) : FnOk P w K mg base CX0 8 T.a_line_of_words T.d_line_of_words ["words"] (fun vs H Q _ => ∃ a ws, vs = [.ref a] ∧ SqL K H a (ws.map V.str) ∧ ws.length ≤ 100001 ∧ (∀ z ∈ ws, z.length ≤ 100000) ∧ ∀ v H', Same H H' → Dp K H' v (rd1 ws) → Q v H') := by
  refine T.F_line_of_words.ok sc_line_of_words (fun vs H Q E h => ?_) (fun cdv A outer s H vs Q E hr h => ?_)
  · obtain ⟨a, ws, rfl, _⟩ := h
    rfl
  · obtain ⟨a, ws, rfl, ha, hl, hz, k⟩ := h
    have hr_read_asked : Room 7 _ := hr
    have G_read_asked := ok_read_asked (P := P) (base := base) T
    have hr_read_value : Room 5 _ := hr.mono (by decide)
    have G_read_value := ok_read_value (P := P) (base := base) T
    have hr_read_number : Room 1 _ := hr.mono (by decide)
    have G_read_number := ok_read_number (P := P) (base := base) T
    refine ⟨_, (pss_cons (ps_if (pt_cmpR op_lt (pe_callB call_len_seq (by rfl) T.n_len (by decide +kernel) (pa_cons (pv 0) pa_nil)) pe_int (nomark _)) (pss_one (ps_ret pe_non)) pss_nil)
      (pss_cons (ps_set (i := 1) sc_line_of_words.nd rfl (Or.inl rfl) (pe_tupU (pa_cons (pe_ix ix_list (pv 0) pe_int (fun _ _ => rfl)) (pa_cons (pe_ix ix_list (pv 0) pe_int (fun _ _ => rfl)) pa_nil))))
      (pss_cons (ps_set (i := 2) sc_line_of_words.nd rfl (Or.inl rfl) (pe_slice sl_listU (pv 0) (po_some pe_int) po_none))
      (pss_cons (ps_if (pt_cmpR op_eqS (pe_ix ix_list (pv 0) pe_int (fun _ _ => rfl)) pe_str (nomark _)) (pss_one (ps_ret (pe_op op_catU (pv 1) (pe_tupU (pa_cons (pe_callTy call_tupleN (by rfl) T.n_tuple (by decide +kernel) (pa_cons (pv 2) pa_nil)) pa_nil))))) pss_nil)
      (pss_cons (ps_if (pt_cmpR op_eqS (pe_ix ix_list (pv 0) pe_int (fun _ _ => rfl)) pe_str (nomark _)) (pss_cons (ps_if (pt_cmpR op_notIn_seq pe_str (pv 2) (by rfl)) (pss_one (ps_ret pe_non)) pss_nil)
      (pss_cons (ps_set (i := 3) sc_line_of_words.nd rfl (Or.inl rfl) (pe_bm PySem.F.plainAttrs_list PySem.F.slot_list_index PySem.F.type_list_index mt_index (pv 2) (pa_cons pe_str pa_nil)))
      (pss_one (ps_ret (pe_op op_catU (pv 1) (pe_tupU (pa_cons (pe_callTy call_tupleN (by rfl) T.n_tuple (by decide +kernel) (pa_cons (pe_slice sl_listU (pv 2) po_none (po_some (pv 3))) pa_nil)) (pa_cons (pe_callTy call_tupleN (by rfl) T.n_tuple (by decide +kernel) (pa_cons (pe_lc (own := [("word", 4)]) (g := gName 4) (tt := tYes) rfl sc_line_of_words.nd (pi_list (pe_slice sl_listU (pv 2) (po_some (pe_op op_add (pv 3) pe_int)) po_none)) (blkOk_by (own := [("word", 4)]) (N := N_line_of_words) (sc := defScope s_line_of_words) (by decide +kernel)) (fun _ _ _ _ _ => pg_name (i := 4) sc_line_of_words.nd rfl (Or.inl rfl)) (fun _ _ _ _ _ => pts_nil) (fun _ _ _ _ _ => (pe_call G_read_value hr_read_value (by rfl) T.m_read_value T.F_read_value.kp T.B_read_value .nil pass0 (pa_cons (pv 4) pa_nil)))) pa_nil)) pa_nil)))))))) pss_nil)
      (pss_cons (ps_if (pt_cmpR op_eqS (pe_ix ix_list (pv 0) pe_int (fun _ _ => rfl)) pe_str (nomark _)) (pss_one (ps_ret (pe_op op_catU (pv 1) (pe_call G_read_asked hr_read_asked (by rfl) T.m_read_asked T.F_read_asked.kp T.B_read_asked .nil pass0 (pa_cons (pe_slice sl_listU (pv 2) (po_some pe_int) po_none) pa_nil))))) pss_nil)
      (pss_one (ps_ret (pe_op op_catU (pe_op op_catU (pe_op op_catU (pv 1) (pe_tupU (pa_cons (pe_ix ix_list (pv 2) pe_int (fun _ _ => rfl)) pa_nil))) (pe_call G_read_asked hr_read_asked (by rfl) T.m_read_asked T.F_read_asked.kp T.B_read_asked .nil pass0 (pa_cons (pe_slice sl_listU (pv 2) (po_some pe_int) (po_some (pe_un un_neg pe_int))) pa_nil))) (pe_tupU (pa_cons (pe_call G_read_number hr_read_number (by rfl) T.m_read_number T.F_read_number.kp T.B_read_number .nil pass0 (pa_cons (pe_ix ix_list (pv 2) (pe_un un_neg pe_int) (fun _ _ => rfl)) pa_nil)) pa_nil))))))))))), ?_⟩
    refine seq_op fun N hN => ?_
    walk_at "rs"
    refine ⟨_, .inl ha, ite2 (fun e => ?_) (fun e => hN _ _ ?_)⟩
    · refine k _ H (Same.refl _) ?_
      unfold rd1
      rw [List.length_map] at e
      rw [if_pos (by omega)]
      exact .non
    clear hN N
    rw [List.length_map] at e
    obtain ⟨x, own, kd, y, r, rfl⟩ : ∃ x own kd y r, ws = x :: own :: kd :: y :: r := by
      match ws, e with
      | x :: own :: kd :: y :: r, _ => exact ⟨x, own, kd, y, r, rfl⟩
      | [], e => exact absurd (by decide) e
      | [_], e => exact absurd (show ((1 : Nat) : Int) < 4 by decide) e
      | [_, _], e => exact absurd (show ((2 : Nat) : Int) < 4 by decide) e
      | [_, _, _], e => exact absurd (show ((3 : Nat) : Int) < 4 by decide) e
    rw [rd1_eq] at k
    refine seq_op fun N hN => ?_
    walk_at "rs"
    refine ⟨_, ha, _, at_ofN (j := 2) rfl rfl, _, ha, _, at_ofN (j := 1) rfl rfl, by decide, fun t H1 s1 n1 h1 => hN _ _ ?_⟩
    clear hN N
    refine seq_op fun N hN => ?_
    walk_at "rs"
    refine ⟨_, Same.seq s1 ha, fun u H2 s2 n2 h2 => hN _ _ ?_⟩
    clear hN N
    rw [show cutV ((x :: own :: kd :: y :: r).map V.str) (some 3) none = (y :: r).map V.str from cutV_drop _ 3] at h2
    have S := Same.trans s1 s2
    replace ha := Same.seq S ha
    replace k := fun v H' (s' : Same H2 H') => k v H' (Same.trans S s')
    have ht : SqT K H2 t [.str kd, .str own] := SqT.of (s2 _ _ h1)
    have hu : SqL K H2 u ((y :: r).map V.str) := SqL.of h2
    clear s1 n1 h1 s2 n2 S
    refine seq_op fun N hN => ?_
    walk_at "rs"
    refine ⟨_, ha, _, at_ofN (j := 2) rfl rfl, _, rfl, ite2 (fun e => ?_) (fun nb => hN _ _ ?_)⟩
    · subst e
      rw [if_pos rfl] at k
      refine ⟨_, hu, fun q H3 s3 n3 h3 => ⟨by decide, fun p H4 s4 n4 h4 => ⟨_, Same.seqT (Same.trans s3 s4) ht, _, SqT.of h4, (by decide : 3 ≤ sizeLine), fun q2 H5 s5 h5 => ?_⟩⟩⟩
      refine k _ H5 (Same.trans s3 (Same.trans s4 s5)) (.tup h5 (.cons (.str _) (.cons (.str _) (.cons (.tup (SqT.of (Same.trans s4 s5 _ _ h3)) (strs_dpa _)) .nil))))
    clear hN N
    rw [if_neg nb] at k
    refine seq_op fun N hN => ?_
    walk_at "rs"
    refine ⟨_, ha, _, at_ofN (j := 2) rfl rfl, _, rfl, ite2 (fun e => ?_) (fun nt => hN _ _ ?_)⟩
    · subst e
      rw [if_pos rfl] at k
      clear hN
      refine seq_op fun N hN => ?_
      walk_at "rs"
      have cm : inV (.str ":") ((y :: r).map V.str) = decide ((":" : Str) ∈ y :: r) := inL _ _
      refine ⟨_, .inl hu, rfl, flat_strs _, ite2 (fun e => ?_) (fun e => hN _ _ ?_)⟩
      · rw [cm] at e
        refine k _ H2 (Same.refl _) ?_
        unfold rd1T
        rw [if_neg (of_decide_eq_false e)]
        exact .non
      clear hN N
      have hm : (":" : Str) ∈ y :: r := by
        rw [cm] at e
        by_cases c : (":" : Str) ∈ y :: r
        · exact c
        · exact absurd (decide_eq_false c) e
      unfold rd1T at k
      rw [if_pos hm] at k
      obtain ⟨i1, i2⟩ := ix_spec ":" (y :: r) hm
      have hj : ixS ":" (y :: r) < (y :: r).length := by
        have := (List.getElem?_eq_some_iff.mp i1).1
        rwa [List.length_map] at this
      generalize ixS ":" (y :: r) = j at k i1 i2 hj
      refine seq_op fun N hN => ?_
      walk_at "rs"
      refine ⟨.inl ⟨rfl, _, hu⟩, u, _, .str ":", j, _, rfl, rfl, hu, rfl, flat_strs _, i1, rfl, fun m z' hm hz' => i2 m z' hm hz', hN _ _ ?_⟩
      clear hN N
      walk_at "rs"
      simp only [List.length_cons] at hl
      refine ⟨_, hu, fun p H3 s3 n3 h3 => ⟨_, SqL.of h3, fun q H4 s4 n4 h4 => ?_⟩⟩
      rw [show cutV ((y :: r).map V.str) none (some ((j : Nat) : Int)) = ((y :: r).take j).map V.str by rw [cutV_take, List.map_take]] at h4
      have S := Same.trans s3 s4
      refine ⟨_, rfl, _, rfl, _, _, rfl, rfl, _, rfl, _, _, rfl, Same.seq S hu, fun p2 H5 s5 n5 h5 => ?_⟩
      rw [show cutV ((y :: r).map V.str) (some (((j : Nat) : Int) + 1)) none = ((y :: r).drop (j + 1)).map V.str by rw [show ((j : Nat) : Int) + 1 = ((j + 1 : Nat) : Int) from rfl, cutV_drop, List.map_drop]] at h5
      have ld : ((y :: r).drop (j + 1)).length ≤ r.length + 1 := by rw [List.length_drop, List.length_cons]; omega
      refine ⟨p2, rfl, ⟨_, SqL.of h5⟩, fun D hD => lc_rd vZ (SqL.of h5) hD (by omega) (fun z H6 hm s6 Q2 hq => ?_) (fun H6 ys s6 h6 hy => ?_)⟩
      · walk_at "rs"
        exact rd_new (hz z (by have := List.mem_of_mem_drop hm; simp only [List.mem_cons] at this ⊢; exact .inr (.inr (.inr this)))) hq
      · refine ⟨D, rfl, _, SqL.of h6, fun q2 H7 s7 n7 h7 => ⟨by decide, fun q3 H8 s8 n8 h8 => ⟨_, Same.seqT (Same.trans S (Same.trans s5 (Same.trans s6 (Same.trans s7 s8)))) ht, _, SqT.of h8, (by decide : 4 ≤ sizeLine), fun q4 H9 s9 h9 => ?_⟩⟩⟩
        refine k _ H9 (Same.trans S (Same.trans s5 (Same.trans s6 (Same.trans s7 (Same.trans s8 s9))))) (.tup h9 ?_)
        exact .cons (.str _) (.cons (.str _) (.cons (.tup (SqT.of (Same.trans s5 (Same.trans s6 (Same.trans s7 (Same.trans s8 s9))) _ _ h4)) (strs_dpa _)) (.cons (.tup (SqT.of (Same.trans s8 s9 _ _ h7)) (dpa_same (Same.trans nw_in (Same.trans s7 (Same.trans s8 s9))) hy)) .nil)))
    clear hN N
    rw [if_neg nt] at k
    refine seq_op fun N hN => ?_
    walk_at "rs"
    refine ⟨_, ha, _, at_ofN (j := 2) rfl rfl, _, rfl, ite2 (fun e => ?_) (fun nc => hN _ _ ?_)⟩
    · subst e
      rw [if_pos rfl] at k
      refine ⟨_, hu, fun p H3 s3 n3 h3 => ?_⟩
      rw [show cutV ((y :: r).map V.str) (some 1) none = r.map V.str from cutV_drop _ 1] at h3
      simp only [List.length_cons] at hl
      refine ⟨p, r, rfl, SqL.of h3, by omega, fun z hz2 => hz z (by simp [hz2]), fun t2 ys H4 s4 ht2 hys => ⟨t2, rfl, _, Same.seqT (Same.trans s3 s4) ht, _, ht2, ?_, fun q H5 s5 h5 => k _ H5 (Same.trans s3 (Same.trans s4 s5)) (.tup h5 (.cons (.str _) (.cons (.str _) (dpa_same s5 hys))))⟩⟩
      have := dpa_len4 hys
      have l2 := rdA_len r
      exact Nat.le_trans (show 2 + ys.length ≤ 100010 by omega) (by decide)
    clear hN N
    rw [if_neg nc] at k
    walk_at "rs"
    simp only [List.length_cons] at hl
    refine ⟨_, hu, _, at_ofN (j := 0) rfl rfl, by decide, fun p H3 s3 n3 h3 => ⟨_, Same.seqT s3 ht, _, SqT.of h3, (by decide : 3 ≤ sizeLine), fun q H4 s4 h4 => ⟨_, Same.seq (Same.trans s3 s4) hu, fun u2 H5 s5 n5 h5 => ?_⟩⟩⟩
    have ec : cutV ((y :: r).map V.str) (some 2) (some (-2)) = (((r.drop 1).take (r.length + 4 - 7))).map V.str := by
      rw [cutV_22, ← List.map_drop, ← List.map_take, List.length_map]
      rfl
    rw [ec] at h5
    have lt : ((r.drop 1).take (r.length + 4 - 7)).length ≤ r.length := by rw [List.length_take, List.length_drop]; omega
    refine ⟨u2, _, rfl, SqL.of h5, by omega, fun z hz2 => hz z (by have := List.mem_of_mem_drop (List.mem_of_mem_take hz2); simp [this]), fun t2 ys H6 s6 ht2 hys => ?_⟩
    have S := Same.trans s3 (Same.trans s4 (Same.trans s5 s6))
    have ly := dpa_len4 hys
    have l2 := rdA_len ((r.drop 1).take (r.length + 4 - 7))
    refine ⟨t2, rfl, _, Same.seqT (Same.trans s5 s6) h4, _, ht2, Nat.le_trans (show 3 + ys.length ≤ 100010 by omega) (by decide), fun q2 H7 s7 h7 => ?_⟩
    obtain ⟨m, z, em⟩ := last_of y r
    have eg : (x :: own :: kd :: y :: r).getD (r.length + 3) "" = z := by
      have e1 : x :: own :: kd :: y :: r = (x :: own :: kd :: m) ++ [z] := by rw [em]; rfl
      have e2 : r.length + 3 = ((x :: own :: kd :: m) ++ [z]).length - 1 := by
        have := congrArg List.length em
        simp only [List.length_cons, List.length_append, List.length_nil] at this ⊢
        omega
      rw [e1, e2, last_get]
    rw [eg] at k
    have ev : (y :: r).map V.str = m.map V.str ++ [V.str z] := by rw [em, List.map_append]; rfl
    rw [ev] at hu
    have hzz : z.length ≤ 100000 := hz z (by rw [em]; simp)
    refine ⟨_, Same.seq (Same.trans S s7) hu, _, atI_last _ _, z, rfl, hzz, fun H8 s8 => ⟨by decide, fun p2 H9 s9 n9 h9 => ⟨_, Same.seqT (Same.trans s8 s9) h7, _, SqT.of h9, ?_, fun q3 H10 s10 h10 => ?_⟩⟩⟩
    · simp only [List.length_append, List.length_cons, List.length_nil]
      exact Nat.le_trans (show 0 + 1 + 1 + (0 + 1) + ys.length + (0 + 1) ≤ 100010 by omega) (by decide)
    · refine k _ H10 (Same.trans S (Same.trans s7 (Same.trans s8 (Same.trans s9 s10)))) (.tup h10 ?_)
      exact .cons (.str _) (.cons (.str _) (.cons (.str _) (dpa_app (dpa_same (Same.trans s7 (Same.trans s8 (Same.trans s9 s10))) hys) (.cons (dp_opt _) .nil))))
end
end LK

set_option Elab.async false
set_option linter.all false
set_option maxRecDepth 100000
set_option pp.deepTerms true
set_option pp.maxSteps 20000
namespace LK
open PySem PySem.Spec PyProof.Rows L2
local macro_rules | `(tactic| walk_at "rs") => `(tactic| simp only [cxK, cxNK, tCallZ, tAsg, tOp, rI0, rS0, rB0, rI, rU, tUn, rEq, rNe, rIxL, rIxT, rIxS, rSetL, rSlLU, rSlS, rSlU, rCatL, rCatU, rRepL, rIn, tVar, tC, gName, gSub, tIfS, tTest, tB, tAnd, tOr, tNot, tNotV, tAndV, tOrV, tIf, tCall, tCons, tNil, tCB, tDrop, tRet, tRetN, tNext, tLstU, tTupU, tM0, tM1, tPar, tPar3, tAug, ipI, tBM, tBM0, rAppend, rPop, tBreak, tCont, tChain, tSl, tPart, tNoPart, L2.start, List.map, List.length_cons, List.length_nil, List.replicate, List.cons_append, List.nil_append, List.append_nil, List.getElem?_cons_zero, List.getElem?_cons_succ, List.set_cons_zero, List.set_cons_succ, Option.some.injEq, V.int.injEq, V.ref.injEq, V.str.injEq, V.bl.injEq, exists_eq_left', exists_eq_left, exists_and_left, decide_eq_true_eq, List.cons.injEq, and_true, true_and, scal, Bool.not_eq_true', decide_eq_false_iff_not, Nat.zero_add, Nat.reduceAdd, Nat.reduceSub, reduceCtorEq, false_and, exists_false, false_or, or_false, CPow, CMul, CDiv, Int.reduceToNat, ↓reduceIte, wipe, sw, List.nil_append, List.singleton_append])
local macro_rules | `(tactic| walk_at "st") => `(tactic| (refine seq_op fun N hN => ?_; walk_at "rs"))
local macro_rules | `(tactic| walk_at "sd") => `(tactic| first | assumption | decide | omega)
local macro_rules | `(tactic| walk_at "rd") => `(tactic| repeat (first
  | refine ⟨_, SqL.of (by assumption), ?_⟩ | refine ⟨_, SqL.of upd_same, ?_⟩ | refine ⟨_, .inl (SqL.of (by assumption)), ?_⟩ | refine ⟨_, (by assumption : _ = some (HO.lst _)), ?_⟩ | refine ⟨_, upd_same, ?_⟩
  | refine ⟨_, rfl, ?_⟩ | refine And.intro (by walk_at "sd") ?_))

open TL
theorem okAll_of : ∀ {ds : List PyData}, (∀ d ∈ ds, okD d = true) → okAll ds = true
  | [], _ => rfl
  | d :: ds, h => by
    unfold okAll
    rw [Bool.and_eq_true]
    exact ⟨h d (by simp), okAll_of fun x hx => h x (List.mem_cons_of_mem _ hx)⟩
theorem okStrs {zs : List Str} (h : ∀ z ∈ zs, z.length ≤ 100000) : okAll (zs.map PyData.str) = true := okAll_of fun d hd => by
  obtain ⟨z, hz, rfl⟩ := List.mem_map.mp hd
  exact decide_eq_true (h z hz)
theorem big60 {n : Nat} (h : n < 10 ^ 60) : n < 2 ^ 4000 := pow_le (a := 200) (Nat.lt_of_lt_of_le h (by decide)) (by decide)
theorem okV (z : Str) : okD (vZ z) = true := by
  unfold vZ
  rcases e : readZ z with _ | ⟨p, q⟩
  · rfl
  · obtain ⟨_, a, b, _⟩ := readZ_iff.mp e
    exact okD_of2 (big60 a) (big60 b)
theorem okP1 (z : Str) : okD (pr1 z) = true := okD_tup.mpr ⟨by simp, okAll_of fun d hd => by
  rcases List.mem_cons.mp hd with rfl | hd
  · exact okV _
  rcases List.mem_cons.mp hd with rfl | hd
  · exact okV _
  · cases hd⟩
theorem okNum (z : Str) : okD (optD (readNum z)) = true := by
  rcases e : readNum z with _ | n
  · rfl
  · have := (readNum_iff.mp e).2
    exact decide_eq_true (big60 this)
theorem mem_getD {ws : List Str} (h : ∀ z ∈ ws, z.length ≤ 100000) (i : Nat) : (ws.getD i "").length ≤ 100000 := by
  rw [List.getD_eq_getElem?_getD]
  cases e : ws[i]? with
  | none => exact (by decide +kernel : (Str.ofString "").length ≤ 100000)
  | some z => exact h z (List.mem_of_getElem? e)
theorem ok_rdA {ws : List Str} (hl : ws.length ≤ 100003) (h : ∀ z ∈ ws, z.length ≤ 100000) : ∀ d ∈ rdA ws, okD d = true := by
  unfold rdA
  split
  · intro d hd
    rcases List.mem_cons.mp hd with rfl | hd
    · exact decide_eq_true (mem_getD h 0)
    rcases List.mem_cons.mp hd with rfl | hd
    · refine okD_tup.mpr ⟨by rw [List.length_map, List.length_drop]; omega, okAll_of fun d hd => ?_⟩
      obtain ⟨z, _, rfl⟩ := List.mem_map.mp hd
      exact okP1 z
    rcases List.mem_cons.mp hd with rfl | hd
    · exact decide_eq_true (mem_getD h 2)
    · cases hd
  · intro d hd
    obtain ⟨z, hz, rfl⟩ := List.mem_map.mp hd
    exact decide_eq_true (h z hz)
theorem ok_rd1 {ws : List Str} (hl : ws.length ≤ 100001) (h : ∀ z ∈ ws, z.length ≤ 100000) : okD (rd1 ws) = true := by
  have two : ∀ {k : Str} {ds : List PyData} (i : Nat), k.length ≤ 100000 → ds.length ≤ 99998 → (∀ d ∈ ds, okD d = true) → okD (.tuple (.str k :: .str (ws.getD i "") :: ds)) = true := fun {k ds} i hk hd ha => okD_tup.mpr ⟨by simp only [List.length_cons]; omega, okAll_of fun d hm => by
    rcases List.mem_cons.mp hm with rfl | hm
    · exact decide_eq_true hk
    rcases List.mem_cons.mp hm with rfl | hm
    · exact decide_eq_true (mem_getD h i)
    · exact ha d hm⟩
  have tsk : ∀ {zs : List Str}, zs.length ≤ 100000 → (∀ z ∈ zs, z ∈ ws) → okD (tS zs) = true := fun {zs} hz hm => okD_tup.mpr ⟨by rw [List.length_map]; exact hz, okStrs fun z q => h z (hm z q)⟩
  have lit : ∀ {z : Str}, z ∈ (["be", "table", "count"] : List Str) → z.length ≤ 100000 := fun {z} hz => by
    have q : ∀ y ∈ (["be", "table", "count"] : List Str), y.length ≤ 100000 := by decide +kernel
    exact q z hz
  unfold rd1
  split
  · rfl
  rename_i h4
  split
  · refine two 1 (lit (by decide)) (by simp) fun d hd => ?_
    obtain rfl : d = tS (ws.drop 3) := by simpa using hd
    exact tsk (by rw [List.length_drop]; omega) fun z hz => List.mem_of_mem_drop hz
  split
  · unfold rd1T
    split
    · refine two 1 (lit (by decide)) (by simp) fun d hd => ?_
      rcases List.mem_cons.mp hd with rfl | hd
      · refine tsk ?_ fun z hz => List.mem_of_mem_drop (List.mem_of_mem_take hz)
        rw [List.length_take, List.length_drop]; omega
      rcases List.mem_cons.mp hd with rfl | hd
      · refine okD_tup.mpr ⟨by rw [List.length_map, List.length_drop, List.length_drop]; omega, okAll_of fun d hd => ?_⟩
        obtain ⟨z, _, rfl⟩ := List.mem_map.mp hd
        exact okV z
      · cases hd
    · rfl
  split
  · have l := rdA_len (ws.drop 4)
    rw [List.length_drop] at l
    exact two 1 (lit (by decide)) (by omega) (ok_rdA (by rw [List.length_drop]; omega) fun z hz => h z (List.mem_of_mem_drop hz))
  · have l := rdA_len ((ws.drop 5).take (ws.length - 7))
    have l2 : ((ws.drop 5).take (ws.length - 7)).length ≤ ws.length - 7 := by rw [List.length_take]; omega
    refine two 1 (mem_getD h 2) (by simp only [List.length_cons, List.length_append, List.length_nil]; omega) fun d hd => ?_
    rcases List.mem_cons.mp hd with rfl | hd
    · exact decide_eq_true (mem_getD h 3)
    rcases List.mem_append.mp hd with hd | hd
    · exact ok_rdA (by omega) (fun z hz => h z (List.mem_of_mem_drop (List.mem_of_mem_take hz))) d hd
    rcases List.mem_cons.mp hd with rfl | hd
    · exact okNum _
    · cases hd
theorem split_len (z : Str) : (Txt.split z " ").length ≤ z.length + 1 ∧ ∀ y ∈ Txt.split z " ", y.length ≤ z.length + 1 := by
  have h := split_weight z " " (by decide +kernel)
  have m : ∀ (l : List Str) (y : Str), y ∈ l → y.length ≤ (l.map (·.length)).sum := fun l => by
    induction l with
    | nil => intro y hy; cases hy
    | cons a l ih =>
      intro y hy
      rw [List.map_cons, List.sum_cons]
      rcases List.mem_cons.mp hy with rfl | hy
      · omega
      · have := ih y hy; omega
  exact ⟨by omega, fun y hy => by have := m _ y hy; omega⟩
def lineD : PyData → PyData
  | .str z => lineZ z
  | _ => .none
section
variable {P : Program} {w : World} {K : PySem.W.Frag} {mg : Str → Option Value} {base : Heap}
theorem ok_read_line (T : Txt w K mg) : FnOk P w K mg base CX0 9 T.a_read_line T.d_read_line ["text"] (fun vs H Q _ => ∃ v d, vs = [v] ∧ Dp K H v d ∧ okD d = true ∧ (∀ z, d = .str z → z.length ≤ 99999) ∧ ∀ u H', Same H H' → Dp K H' u (lineD d) → Q u H') := by
  refine T.F_read_line.ok sc_read_line (fun vs H Q E h => ?_) (fun cdv A outer s H vs Q E hr h => ?_)
  · obtain ⟨v, d, rfl, _⟩ := h
    rfl
  · obtain ⟨v, d, rfl, hd, hok, hz, k⟩ := h
    have hr_line_of_words : Room 8 _ := hr
    have G_line_of_words := ok_line_of_words (P := P) (base := base) T
    have hr_is_line : Room 7 _ := hr.mono (by decide)
    have G_is_line := ok_is_line (P := P) (base := base) T
    have hr_line_text : Room 7 _ := hr.mono (by decide)
    have G_line_text := ok_line_text (P := P) (base := base) T
    refine ⟨_, (pss_cons (ps_if (pt_not (pt_val (pe_callB (call_isiDK (K := K) rfl) (by rfl) T.n_isinstance (by decide +kernel) (pa_cons (pv 0) (pa_cons (pe_bltn (v := .ty "str") (u := .type "str") (by rfl) T.n_str (by decide +kernel) rfl) pa_nil))))) (pss_one (ps_ret pe_non)) pss_nil)
      (pss_cons (ps_set (i := 1) sc_read_line.nd rfl (Or.inl rfl) (pe_call G_line_of_words hr_line_of_words (by rfl) T.m_line_of_words T.F_line_of_words.kp T.B_line_of_words .nil pass0 (pa_cons (pe_split (pv 0) pe_str) pa_nil)))
      (pss_cons (ps_if (PW.pt (pw_or (pt_not (pt_val (pe_call G_is_line hr_is_line (by rfl) T.m_is_line T.F_is_line.kp T.B_is_line .nil pass0 (pa_cons (pv 1) pa_nil)))) (pw_or1 (pt_cmpR op_neS (pe_call G_line_text hr_line_text (by rfl) T.m_line_text T.F_line_text.kp T.B_line_text .nil pass0 (pa_cons (pv 1) pa_nil)) (pv 0) (nomark _))))) (pss_one (ps_ret pe_non)) pss_nil)
      (pss_one (ps_ret (pv 1)))))), ?_⟩
    refine seq_op fun N hN => ?_
    walk_at "rs"
    refine ⟨v, "str", ⟨rfl, rfl⟩, d, hd, by decide, ite2 (fun e => ?_) (fun e => hN _ _ ?_)⟩
    · refine k _ H (Same.refl _) ?_
      have : lineD d = .none := by cases d <;> first | rfl | cases e
      rw [this]
      exact .non
    clear hN N
    obtain ⟨z, rfl⟩ := is_str (by simpa using e)
    cases hd
    have hz := hz z rfl
    refine seq_op fun N hN => ?_
    walk_at "rs"
    obtain ⟨sl1, sl2⟩ := split_len z
    have wl : (Txt.split z " ").length ≤ 100001 := by omega
    have wz : ∀ y ∈ Txt.split z " ", y.length ≤ 100000 := fun y hy => by have := sl2 y hy; omega
    refine ⟨⟨_, rfl⟩, by decide +kernel, Nat.le_trans (show z.length + 2 ≤ 100010 by omega) (by decide), fun l hl => ⟨l, rfl, Txt.split z " ", SqL.of upd_same, wl, wz, fun v H1 s1 hv => hN _ _ ?_⟩⟩
    clear hN N
    have S : Same H H1 := Same.trans (same_upd hl) s1
    replace k := fun u H' (s' : Same H1 H') => k u H' (Same.trans S s')
    have hokD := ok_rd1 wl wz
    have el : lineD (.str z) = backD (rd1 (Txt.split z " ")) z := rfl
    rw [el] at k
    unfold backD at k
    generalize rd1 (Txt.split z " ") = D at hv hokD k
    refine seq_op fun N hN => ?_
    walk_at "rs"
    refine ⟨v, D, rfl, hv, hokD, fun H2 s2 => ⟨isLineD D, rfl, ite2 (fun e => ?_) (fun e => ⟨D, dp_same s2 hv, hokD, by simpa using e, fun H3 s3 => ite2 (fun e2 => ?_) (fun e2 => hN _ _ ?_)⟩)⟩⟩
    · rw [if_neg (fun c => by rw [e] at c; exact absurd c.1 (by decide))] at k
      exact k _ H2 s2 .non
    · rw [if_neg (fun c => e2 c.2)] at k
      exact k _ H3 (Same.trans s2 s3) .non
    clear hN N
    rw [if_pos ⟨by simpa using e, Decidable.not_not.mp e2⟩] at k
    walk_at "rs"
    exact k _ H3 (Same.trans s2 s3) (dp_same (Same.trans s2 s3) hv)
end
end LK

set_option Elab.async false
set_option linter.all false
set_option maxRecDepth 100000
set_option pp.deepTerms true
set_option pp.maxSteps 20000
namespace LK
open PySem PySem.Spec PyProof.Rows L2
local macro_rules | `(tactic| walk_at "rs") => `(tactic| simp only [cxK, cxNK, tCallZ, tAsg, tOp, rI0, rS0, rB0, rI, rU, tUn, rEq, rNe, rIxL, rIxT, rIxS, rSetL, rSlLU, rSlS, rSlU, rCatL, rCatU, rRepL, rIn, tVar, tC, gName, gSub, tIfS, tTest, tB, tAnd, tOr, tNot, tNotV, tAndV, tOrV, tIf, tCall, tCons, tNil, tCB, tDrop, tRet, tRetN, tNext, tLstU, tTupU, tM0, tM1, tPar, tPar3, tAug, ipI, tBM, tBM0, rAppend, rPop, tBreak, tCont, tChain, tSl, tPart, tNoPart, L2.start, List.map, List.length_cons, List.length_nil, List.replicate, List.cons_append, List.nil_append, List.append_nil, List.getElem?_cons_zero, List.getElem?_cons_succ, List.set_cons_zero, List.set_cons_succ, Option.some.injEq, V.int.injEq, V.ref.injEq, V.str.injEq, V.bl.injEq, exists_eq_left', exists_eq_left, exists_and_left, decide_eq_true_eq, List.cons.injEq, and_true, true_and, scal, Bool.not_eq_true', decide_eq_false_iff_not, Nat.zero_add, Nat.reduceAdd, Nat.reduceSub, reduceCtorEq, false_and, exists_false, false_or, or_false, CPow, CMul, CDiv, Int.reduceToNat, ↓reduceIte, wipe, sw, List.nil_append, List.singleton_append])
local macro_rules | `(tactic| walk_at "st") => `(tactic| (refine seq_op fun N hN => ?_; walk_at "rs"))
local macro_rules | `(tactic| walk_at "sd") => `(tactic| first | assumption | decide | omega)
local macro_rules | `(tactic| walk_at "rd") => `(tactic| repeat (first
  | refine ⟨_, SqL.of (by assumption), ?_⟩ | refine ⟨_, SqL.of upd_same, ?_⟩ | refine ⟨_, .inl (SqL.of (by assumption)), ?_⟩ | refine ⟨_, (by assumption : _ = some (HO.lst _)), ?_⟩ | refine ⟨_, upd_same, ?_⟩
  | refine ⟨_, rfl, ?_⟩ | refine And.intro (by walk_at "sd") ?_))

open TL
theorem cut1 (w : Str) : (cutS w none (some 1)).cps.toList = w.cps.toList.take 1 := by
  have e1 : HT.sIx w.length 0 none = 0 := rfl
  have e2 : HT.sIx w.length w.length (some 1) = min 1 w.length := rfl
  unfold cutS
  rw [e1, e2]
  show (w.cps.toList.drop 0).take (min 1 w.length - 0) = _
  rw [List.drop_zero, Nat.sub_zero]
  by_cases c : 1 ≤ w.length
  · rw [Nat.min_eq_left c]
  · have l : w.cps.toList.length = w.length := by rw [Array.length_toList]; rfl
    have : w.cps.toList = [] := List.eq_nil_of_length_eq_zero (by omega)
    rw [this]; simp
theorem minus_tl : (Str.ofString "-").cps.toList = [45] := by decide +kernel
theorem head_minus {w : Str} : cutS w none (some 1) = "-" ↔ ∃ r, tl w = 45 :: r := by
  constructor
  · intro e
    have q := cut1 w
    rw [e, minus_tl] at q
    rw [tl_cps]
    cases h : w.cps.toList with
    | nil => rw [h] at q; cases q
    | cons c r => rw [h] at q; cases q; exact ⟨r, rfl⟩
  · rintro ⟨r, hr⟩
    apply str_ext
    rw [cut1, minus_tl, ← tl_cps, hr]
    rfl
theorem figs_cut {w : Str} (h : cutS w none (some 1) = "-") : figures w = cutS w (some 1) none := by
  obtain ⟨r, hr⟩ := head_minus.mp h
  exact if_pos (starts_of hr)
theorem figs_nocut {w : Str} (h : ¬ cutS w none (some 1) = "-") : figures w = w := figs_pos fun r hr => h (head_minus.mpr ⟨r, hr⟩)
theorem split_ne47 (z : Str) : ∃ w r, Txt.split z "/" = w :: r := by
  have h := split_spl z "/" (by rw [tl_slash]; simp) (kind_ok (by decide +kernel))
  cases e : Txt.split z "/" with
  | cons w r => exact ⟨w, r, rfl⟩
  | nil =>
    rw [e] at h
    exfalso
    have q : ∀ (l acc : List Nat) (k : Nat), spl (tl ("/" : Str)) k acc l ≠ [] := by
      intro l
      induction l with
      | nil => intro acc k; rw [spl_nil]; simp
      | cons c r ih =>
        intro acc k
        cases k with
        | zero =>
          unfold spl
          split
          · simp
          · exact ih _ _
        | succ k =>
          unfold spl
          exact ih _ _
    exact q _ _ _ h.symm
def ckS (w : Str) : Bool := (decide (1 ≤ w.length) && decide (w.length ≤ 60)) && w.cps.toList.all fun c => inS c FIGs
def ckV : V → V
  | .str w => .bl (ckS w)
  | _ => .non
theorem mem_sum : ∀ (l : List Str) (y : Str), y ∈ l → y.length ≤ (l.map (·.length)).sum
  | [], _, h => by cases h
  | a :: l, y, hy => by
    rw [List.map_cons, List.sum_cons]
    rcases List.mem_cons.mp hy with rfl | hy
    · omega
    · have := mem_sum l y hy; omega
theorem figs_len (w : Str) : (figures w).length ≤ w.length := by
  unfold figures
  split
  · exact cutS_length _ _ _
  · exact Nat.le_refl _
theorem ck_iff {w : Str} : ckS w = true ↔ 1 ≤ w.length ∧ w.length ≤ 60 ∧ NumText.AllDigits w.cps.toList := by
  unfold ckS
  rw [Bool.and_eq_true, Bool.and_eq_true, decide_eq_true_iff, decide_eq_true_iff, and_assoc]
  refine and_congr_right fun _ => and_congr_right fun _ => ⟨fun h c hc => FIG_digit (List.all_eq_true.mp h c hc), fun h => List.all_eq_true.mpr fun c hc => FIG_in (h c hc)⟩
theorem len_list (w : Str) : w.cps.toList.length = w.length := by rw [Array.length_toList]; rfl
theorem ne_list {w : Str} (h : 1 ≤ w.length) : w.cps.toList ≠ [] := fun e => by
  have := len_list w
  rw [e] at this
  simp at this
  omega
/-- int of figures -/
theorem int_nat {w : Str} (h : ckS w = true) : ∃ n : Nat, intText? w = some (n : Int) ∧ n < 10 ^ 60 ∧ w.length ≤ 640 := by
  obtain ⟨a, b, c⟩ := ck_iff.mp h
  refine ⟨_, intText_digits c (ne_list a) (by omega), ?_, by omega⟩
  exact val_lt60 c (by rw [len_list]; exact b)
theorem int_fig {w : Str} (h : ckS (figures w) = true) : ∃ n : Int, intText? w = some n ∧ n.natAbs < 10 ^ 60 ∧ w.length ≤ 640 := by
  by_cases e : ∃ r, tl w = 45 :: r
  · obtain ⟨r, hr⟩ := e
    obtain ⟨a, b, c⟩ := ck_iff.mp h
    have ef := figs_neg hr
    have ne := ne_list a
    have ln := len_list (figures w)
    rw [ef] at c ne ln
    have lw : w.length = r.length + 1 := by rw [len_tl, hr]; rfl
    refine ⟨_, intText_neg (x := w) (cs := r) hr c ne (by omega), ?_, by omega⟩
    rw [Int.natAbs_neg, Int.natAbs_natCast]
    exact val_lt60 c (by omega)
  · have ef : figures w = w := figs_pos fun r hr => e ⟨r, hr⟩
    rw [ef] at h
    obtain ⟨n, a, b, c⟩ := int_nat h
    exact ⟨n, a, by rw [Int.natAbs_natCast]; exact b, c⟩
theorem ck_strI {i : Int} (h : i.natAbs < 10 ^ 60) : ckS (figures (strI i)) = true := by
  have e := figs_strI i
  have l := len_list (figures (strI i))
  rw [e] at l
  have l1 := numL_len (by decide : 0 < 60) h
  refine ck_iff.mpr ⟨?_, by omega, by rw [e]; exact numL_digits _⟩
  cases hn : numL i.natAbs with
  | nil => exact absurd hn (numL_ne _)
  | cons a r => rw [hn] at l; simp at l; omega
theorem figs_pos_strI {q : Int} (h : 1 ≤ q) : figures (strI q) = strI q := figs_pos fun r hr => by
  rw [tl_strI, if_neg (by omega), List.nil_append] at hr
  have := numL_digits q.natAbs 45 (by rw [hr]; simp)
  omega
theorem rz_fact {z : Str} {p q : Int} (h : readZ z = some (p, q)) : (q = 1 ∧ Txt.split z "/" = [strI p] ∨ q ≠ 1 ∧ Txt.split z "/" = [strI p, strI q]) ∧ 1 ≤ q ∧ Nat.gcd p.natAbs q.natAbs = 1 ∧ p.natAbs < 10 ^ 60 ∧ q.natAbs < 10 ^ 60 ∧ z = txtF p q := by
  obtain ⟨hf, hp, hq, rfl⟩ := readZ_iff.mp h
  obtain ⟨a, b⟩ := isFrac_iff.mp hf
  refine ⟨?_, a, b, hp, hq, rfl⟩
  by_cases c : q = 1
  · have e : txtF p q = Txt.join "/" [strI p] := by
      apply str_ext
      unfold txtF
      rw [if_pos c, ← tl_cps, ← tl_cps, join_eq, tl_join]
      simp [joinL]
    refine .inl ⟨c, ?_⟩
    rw [e]
    exact split_join tl_slash (by decide +kernel) (by simp) fun y hy => by
      obtain rfl : y = strI p := by simpa using hy
      exact strI_free p
  · have e : txtF p q = Txt.join "/" [strI p, strI q] := by
      apply str_ext
      unfold txtF
      rw [if_neg c, ← tl_cps, ← tl_cps, join_eq, tl_join, tl_append, tl_append]
      simp [joinL]
    refine .inr ⟨c, ?_⟩
    rw [e]
    exact split_join tl_slash (by decide +kernel) (by simp) fun y hy => by
      rcases List.mem_cons.mp hy with rfl | hy
      · exact strI_free p
      obtain rfl : y = strI q := by simpa using hy
      exact strI_free q
theorem at_last2 (x y : V) : atI [x, y] (-1) = some y := atI_last [x] y
section
variable {P : Program} {w : World} {K : PySem.W.Frag} {mg : Str → Option Value} {base : Heap}
theorem ok__law_trio (T : Txt w K mg) : FnOk P w K mg base CX0 1 T.a__law_trio T.d__law_trio ["row"] (fun vs H Q _ => ∃ a z xs, vs = [.ref a] ∧ SqT K H a (.str z :: xs) ∧ ∀ t H', Same H H' → SqT K H' t (askX z (.str z :: xs)) → Q (.ref t) H') := by
  refine T.F__law_trio.ok sc__law_trio (fun vs H Q E h => ?_) (fun cdv A outer s H vs Q E hr h => ?_)
  · obtain ⟨a, z, xs, rfl, _⟩ := h
    rfl
  · obtain ⟨a, z, xs, rfl, ha, k⟩ := h
    refine ⟨_, (pss_one (ps_ret (pe_ifExp (pt_cmpR op_eqS (pe_ix ix_tup (pv 0) pe_int (fun _ _ => rfl)) pe_str (nomark _)) (pe_slice sl_tupU (pv 0) (po_some pe_int) (po_some pe_int)) (pe_slice sl_tupU (pv 0) (po_some pe_int) (po_some pe_int))))), ?_⟩
    walk_at "rs"
    refine ⟨_, ha, _, at_ofN (j := 0) rfl rfl, _, rfl, ite2 (fun e => ?_) (fun e => ?_)⟩
    · refine ⟨_, ha, fun q H' s' hq => k q H' s' ?_⟩
      rw [show cutV (V.str z :: xs) (some 2) (some 5) = ((V.str z :: xs).drop 2).take 3 from cutV_ij _ 2 5 (by decide)] at hq
      unfold askX
      rw [if_pos e]; exact hq
    · refine ⟨_, ha, fun q H' s' hq => k q H' s' ?_⟩
      rw [show cutV (V.str z :: xs) (some 3) (some 6) = ((V.str z :: xs).drop 3).take 3 from cutV_ij _ 3 6 (by decide)] at hq
      unfold askX
      rw [if_neg e]; exact hq
theorem ok__law_short (T : Txt w K mg) : FnOk P w K mg base CX0 1 T.a__law_short T.d__law_short ["one"] (fun vs H Q _ => ∃ (a : Addr) (p q : Int), vs = [.ref a] ∧ SqT K H a [.int p, .int q] ∧ p.natAbs < 10 ^ 60 ∧ q.natAbs < 10 ^ 60 ∧ Q (.str (txtF p q)) H) := by
  refine T.F__law_short.ok sc__law_short (fun vs H Q E h => ?_) (fun cdv A outer s H vs Q E hr h => ?_)
  · obtain ⟨a, p, q, rfl, _⟩ := h
    rfl
  · obtain ⟨a, p, q, rfl, ha, b1, b2, k⟩ := h
    refine ⟨_, (pss_one (ps_ret (pe_ifExp (pt_cmpR op_eqI (pe_ix ix_tup (pv 0) pe_int (fun _ _ => rfl)) pe_int (nomark _)) (pe_callTy call_str_int (by rfl) T.n_str (by decide +kernel) (pa_cons (pe_ix ix_tup (pv 0) pe_int (fun _ _ => rfl)) pa_nil)) (pe_op op_add_str (pe_op op_add_str (pe_callTy call_str_int (by rfl) T.n_str (by decide +kernel) (pa_cons (pe_ix ix_tup (pv 0) pe_int (fun _ _ => rfl)) pa_nil)) pe_str) (pe_callTy call_str_int (by rfl) T.n_str (by decide +kernel) (pa_cons (pe_ix ix_tup (pv 0) pe_int (fun _ _ => rfl)) pa_nil)))))), ?_⟩
    walk_at "rs"
    have l1 := strI_len b1
    have l2 := strI_len b2
    have l0 : (Str.ofString "/").length = 1 := by decide +kernel
    change (Str.ofString (toString p)).length ≤ 61 at l1
    change (Str.ofString (toString q)).length ≤ 61 at l2
    have big : 200 ≤ sizeLine := by decide
    unfold txtF at k
    refine ⟨_, ha, _, at_ofN (j := 1) rfl rfl, q, rfl, ite2 (fun e => ?_) (fun e => ?_)⟩
    · rw [if_pos e] at k
      exact ⟨_, ha, _, at_ofN (j := 0) rfl rfl, p, rfl, log60 b1, k⟩
    · rw [if_neg e] at k
      refine ⟨_, ha, _, at_ofN (j := 0) rfl rfl, p, rfl, log60 b1, by omega, _, ha, _, at_ofN (j := 1) rfl rfl, q, rfl, log60 b2, ?_, k⟩
      rw [str_append_len]; omega
/-- the law's own reading of a value -/
theorem ok__law_read_short (T : Txt w K mg) : FnOk P w K mg base CX0 2 T.a__law_read_short T.d__law_read_short ["word"] (fun vs H Q _ => ∃ z, vs = [.str z] ∧ z.length ≤ 100000 ∧ ∀ v H', Same H H' → Dp K (nw H H') v (vZ z) → Q v H') := by
  refine T.F__law_read_short.ok sc__law_read_short (fun vs H Q E h => ?_) (fun cdv A outer s H vs Q E hr h => ?_)
  · obtain ⟨z, rfl, _⟩ := h
    rfl
  · obtain ⟨z, rfl, hz, k⟩ := h
    have hr__law_short : Room 1 _ := hr
    have G__law_short := ok__law_short (P := P) (base := base) T
    have hr__law_low : Room 1 _ := hr
    have G__law_low := ok__law_low (P := P) (base := base) T
    refine ⟨_, (pss_cons (ps_set (i := 1) sc__law_read_short.nd rfl (Or.inl rfl) (pe_split (pv 0) pe_str))
      (pss_cons (ps_set (i := 2) sc__law_read_short.nd rfl (Or.inl rfl) (pe_op op_catL (pe_lstU (pa_cons (pe_ifExp (pt_cmpR op_eqS (pe_slice sl_str (pe_ix ix_list (pv 1) pe_int (fun _ _ => rfl)) po_none (po_some pe_int)) pe_str (nomark _)) (pe_slice sl_str (pe_ix ix_list (pv 1) pe_int (fun _ _ => rfl)) (po_some pe_int) po_none) (pe_ix ix_list (pv 1) pe_int (fun _ _ => rfl))) pa_nil)) (pe_slice sl_listU (pv 1) (po_some pe_int) po_none)))
      (pss_cons (ps_if (PW.pt (pw_or (pt_cmpR op_gt (pe_callB call_len_seq (by rfl) T.n_len (by decide +kernel) (pa_cons (pv 2) pa_nil)) pe_int (nomark _)) (pw_or1 (pt_not (pt_val (pe_callB (cr_all rfl) (by rfl) T.n_all (by decide +kernel) (pa_cons (pe_lc (own := [("one", 5)]) (g := gName 5) (tt := tYes) rfl sc__law_read_short.nd (pi_list (pv 2)) (blkOk_by (own := [("one", 5)]) (N := N__law_read_short) (sc := defScope s__law_read_short) (by decide +kernel)) (fun _ _ _ _ _ => pg_name (i := 5) sc__law_read_short.nd rfl (Or.inl rfl)) (fun _ _ _ _ _ => pts_nil) (fun _ _ _ _ _ => (pe_and (pe_chain op_le op_le pe_int (pe_callB call_len_str (by rfl) T.n_len (by decide +kernel) (pa_cons (pv 5) pa_nil)) pe_int) (pe_one (pe_callB (cr_allK (K := K) rfl rfl) (by rfl) T.n_all (by decide +kernel) (pa_cons (pe_lc (own := [("sign", 6)]) (g := gName 6) (tt := tYes) rfl sc__law_read_short.nd (pi_str (pv 5)) (blkOk_by (own := [("sign", 6)]) (N := N__law_read_short) (by kernel_rfl)) (fun _ _ _ _ _ => pg_name (i := 6) sc__law_read_short.nd rfl (Or.inl rfl)) (fun _ _ _ _ _ => pts_nil) (fun _ _ _ _ _ => (pe_cmpR op_in_sign (pv 6) pe_str (by rfl)))) pa_nil)))))) pa_nil))))))) (pss_one (ps_ret pe_non)) pss_nil)
      (pss_cons (ps_par (i := 3) (j := 4) (by rfl) sc__law_read_short.nd rfl rfl (by decide) rfl rfl (pa_cons (pe_callTy call_int_str (by rfl) T.n_int (by decide +kernel) (pa_cons (pe_ix ix_list (pv 1) pe_int (fun _ _ => rfl)) pa_nil)) (pa_cons (pe_ifExp (pt_cmpR op_eqI (pe_callB call_len_seq (by rfl) T.n_len (by decide +kernel) (pa_cons (pv 2) pa_nil)) pe_int (nomark _)) (pe_callTy call_int_str (by rfl) T.n_int (by decide +kernel) (pa_cons (pe_ix ix_list (pv 2) (pe_un un_neg pe_int) (fun _ _ => rfl)) pa_nil)) pe_int) pa_nil)) (by rfl))
      (pss_cons (ps_if (PW.pt (pw_or (pt_cmpR op_eqI (pv 4) pe_int (nomark _)) (pw_or1 (pt_cmpR op_neS (pe_call G__law_short hr__law_short (by rfl) T.m__law_short T.F__law_short.kp T.B__law_short .nil pass0 (pa_cons (pe_call G__law_low hr__law_low (by rfl) T.m__law_low T.F__law_low.kp T.B__law_low .nil pass0 (pa_cons (pv 3) (pa_cons (pv 4) pa_nil))) pa_nil)) (pv 0) (nomark _))))) (pss_one (ps_ret pe_non)) pss_nil)
      (pss_one (ps_ret (pe_call G__law_low hr__law_low (by rfl) T.m__law_low T.F__law_low.kp T.B__law_low .nil pass0 (pa_cons (pv 3) (pa_cons (pv 4) pa_nil)))))))))), ?_⟩
    refine seq_op fun N hN => ?_
    walk_at "rs"
    refine ⟨⟨_, rfl⟩, by decide +kernel, Nat.le_trans (show z.length + 2 ≤ 100010 by omega) (by decide), fun l hl => hN _ _ ?_⟩
    clear hN N
    have s1 : Same H (L2.upd H l (.lst ((Txt.split z "/").map V.str))) := same_upd hl
    have h1 : SqL K (L2.upd H l (.lst ((Txt.split z "/").map V.str))) l ((Txt.split z "/").map V.str) := SqL.of upd_same
    change tSeq _ _ _ _ (L2.upd H l (.lst ((Txt.split z "/").map V.str)))
    generalize hW : Txt.split z "/" = W at h1 s1 ⊢
    generalize L2.upd H l (.lst (W.map V.str)) = H1 at h1 s1 ⊢
    refine seq_op fun N hN => ?_
    walk_at "rs"
    obtain ⟨w0, wr, rfl⟩ : ∃ w0 wr, W = w0 :: wr := by rw [← hW]; exact split_ne47 z
    have lenW : (w0 :: wr).length ≤ 100001 ∧ ∀ y ∈ w0 :: wr, y.length ≤ 100001 := by
      have h := split_weight z "/" (by decide +kernel)
      rw [show Txt.split z (Str.ofString "/") = w0 :: wr from hW] at h
      exact ⟨by omega, fun y hy => by have := mem_sum _ y hy; omega⟩
    have big : 200000 ≤ sizeLine := by decide
    have l0 := lenW.2 w0 (by simp)
    have l1 : wr.length ≤ 100000 := by have := lenW.1; simp only [List.length_cons] at this; omega
    have go : ∀ p H2, Same H1 H2 → H2 p = some (.lst ((figures w0 :: wr).map V.str)) → N [some (V.str z), some (V.ref l), some (V.ref p), none, none, none, none] H2 := by
      intro p H2 s2 h2
      refine hN _ _ ?_
      clear hN N
      have hp : SqL K H2 p ((figures w0 :: wr).map V.str) := SqL.of h2
      refine seq_op fun N hN => ?_
      walk_at "rs"
      have noZ : ∀ H', Same H H' → readZ z = none → Q .non H' := fun H' s' er => k _ H' s' (by
        unfold vZ
        rw [er]
        exact .non)
      refine ⟨_, .inl hp, ite2 (fun e => ?_) (fun e => ?_)⟩
      · refine noZ H2 (Same.trans s1 s2) ?_
        cases er : readZ z with
        | none => rfl
        | some pq =>
          obtain ⟨f1, _⟩ := rz_fact er
          exfalso
          rw [List.length_map] at e
          rcases f1 with ⟨_, f1⟩ | ⟨_, f1⟩ <;> rw [hW] at f1 <;> cases f1 <;> simp at e
      rw [List.length_map] at e
      simp only [List.length_cons] at e
      refine ⟨_, rfl, p, rfl, ⟨_, hp⟩, fun D hD => lc_map walk_list ((figures w0 :: wr).map V.str) ckV hD (by simp only [List.length_map, List.length_cons]; omega) rfl (fun k H x H' _ y => y) (fun H' s' => Same.seq s' hp) (fun x H3 hm s3 Q2 hq => ?_) (fun H3 s3 h3 => ?_)⟩
      · obtain ⟨y, hy, rfl⟩ := List.mem_map.mp hm
        walk_at "rs"
        have hy2 : y.length ≤ 100001 := by
          rcases List.mem_cons.mp hy with rfl | hy
          · have := figs_len w0
            omega
          · exact lenW.2 y (by simp [hy])
        have ck0 : ckV (.str y) = .bl (ckS y) := rfl
        rw [ck0] at hq
        unfold ckS at hq
        refine ⟨by omega, ite2 (fun e1 => ?_) (fun e1 => ?_)⟩
        · rw [decide_eq_true (show 1 ≤ y.length by omega), Bool.true_and] at hq
          refine ite2 (fun e2 => ?_) (fun e2 => ?_)
          · rw [decide_eq_true (show y.length ≤ 60 by omega), Bool.true_and] at hq
            refine ⟨_, rfl, _, rfl, fun D2 hD2 => lc_signs (z := y) (fun c => inS c FIGs) hD2 (by omega) ?_ ?_⟩
            · intro c H4 hc s4 Q3 hq3
              walk_at "rs"
              exact ⟨c, rfl, hq3 H4 (Same.refl _)⟩
            · intro H4 s4 h4
              refine ⟨D2, _, rfl, SqL.of h4, ?_⟩
              rw [all_map_id]
              exact hq H4 s4
          · rw [decide_eq_false (show ¬ y.length ≤ 60 by omega), Bool.false_and] at hq
            exact hq _ (Same.refl _)
        · rw [decide_eq_false (show ¬ 1 ≤ y.length by omega), Bool.false_and, Bool.false_and] at hq
          exact hq _ (Same.refl _)
      · refine ⟨D, (figures w0 :: wr).map ckS, rfl, SqL.of (by rw [h3, List.map_map, List.map_map]; rfl), ?_⟩
        rw [all_map_id]
        refine ⟨_, rfl, ite2 (fun e2 => ?_) (fun e2 => hN _ _ ?_)⟩
        · refine noZ H3 (Same.trans (Same.trans s1 s2) s3) ?_
          cases er : readZ z with
          | none => rfl
          | some pq =>
            obtain ⟨f1, f2, _, f4, f5, _⟩ := rz_fact er
            exfalso
            have eb : ckS (figures w0) = true ∧ ∀ y ∈ wr, ckS y = true := by
              rcases f1 with ⟨_, f1⟩ | ⟨_, f1⟩
              · rw [hW] at f1
                cases f1
                exact ⟨ck_strI f4, fun y hy => by cases hy⟩
              · rw [hW] at f1
                cases f1
                refine ⟨ck_strI f4, fun y hy => ?_⟩
                obtain rfl : y = strI pq.2 := by simpa using hy
                rw [← figs_pos_strI f2]
                exact ck_strI f5
            have : (figures w0 :: wr).all ckS = true := List.all_eq_true.mpr fun y hy => by
              rcases List.mem_cons.mp hy with rfl | hy
              · exact eb.1
              · exact eb.2 y hy
            rw [this] at e2
            cases e2
        clear hN N
        have ea : (figures w0 :: wr).all ckS = true := by simpa using e2
        rw [List.all_cons, Bool.and_eq_true] at ea
        obtain ⟨n0, i0, b0, g0⟩ := int_fig ea.1
        have S3 := Same.trans (Same.trans s1 s2) s3
        refine seq_op fun N hN => ?_
        walk_at "rs"
        have go2 : ∀ m : Int, 0 ≤ m → m.natAbs < 10 ^ 60 → (∀ p q, readZ z = some (p, q) → p = n0 ∧ q = m) → N [some (V.str z), some (V.ref l), some (V.ref p), some (.int n0), some (.int m), none, none] H3 := by
          intro m m0 bm fm
          refine hN _ _ ?_
          clear hN N
          refine seq_op fun N hN => ?_
          walk_at "rs"
          refine ite2 (fun e0 => noZ H3 S3 ?_) (fun e0 => ?_)
          · cases er : readZ z with
            | none => rfl
            | some pq =>
              exfalso
              have q1 := (rz_fact er).2.1
              have q2 := (fm pq.1 pq.2 er).2
              omega
          obtain ⟨_, _, q1, q2, q3, q4, _⟩ := fr_spec n0 e0
          have B1 : (frP n0 m).natAbs < 10 ^ 60 := Nat.lt_of_le_of_lt q3 b0
          have B2 : (frQ n0 m).natAbs < 10 ^ 60 := Nat.lt_of_le_of_lt q4 bm
          have up : ∀ {n : Nat}, n < 10 ^ 60 → n < 2 ^ 8001 := fun h => pow_le (a := 200) (Nat.lt_of_lt_of_le h (by decide)) (by decide)
          refine ⟨n0, m, ⟨rfl, rfl⟩, e0, up b0, up bm, fun t H4 s4 n4 h4 => ⟨_, _, SqT.of h4, B1, B2, ite2 (fun e5 => noZ H4 (Same.trans S3 s4) ?_) (fun e5 => hN _ _ ?_)⟩⟩
          · cases er : readZ z with
            | none => rfl
            | some pq =>
              exfalso
              obtain ⟨_, c1, c2, _, _, c3⟩ := rz_fact er
              obtain ⟨d1, d2⟩ := fm pq.1 pq.2 er
              rw [← d1, ← d2] at e5
              obtain ⟨g1, g2⟩ := fr_low c1 c2
              rw [g1, g2] at e5
              exact e5 c3.symm
          clear hN N
          have rz : readZ z = some (frP n0 m, frQ n0 m) := readZ_iff.mpr ⟨isFrac_iff.mpr ⟨q1, q2⟩, B1, B2, (Decidable.not_not.mp e5).symm⟩
          walk_at "rs"
          refine ⟨n0, m, ⟨rfl, rfl⟩, e0, up b0, up bm, fun t2 H5 s5 n5 h5 => k _ H5 (Same.trans S3 (Same.trans s4 s5)) ?_⟩
          unfold vZ
          rw [rz]
          exact .tup (SqT.of (nw_of (Same.dom S3 _ (Same.dom s4 _ n5)) h5)) (.cons (.int _) (.cons (.int _) .nil))
        refine ⟨_, Same.seq (Same.trans s2 s3) h1, _, at_ofN (j := 0) rfl rfl, w0, rfl, n0, i0, g0, _, .inl (Same.seq s3 hp), ?_⟩
        rw [List.length_map]
        refine ite2 (fun el => ?_) (fun el => ?_)
        · obtain ⟨y, rfl⟩ : ∃ y, wr = [y] := by
            simp only [List.length_cons] at el
            match wr, el with
            | [y], _ => exact ⟨y, rfl⟩
            | [], el => exact absurd el (by decide)
            | _ :: _ :: _, el => exact absurd el (by simp only [List.length_cons]; omega)
          have cy : ckS y = true := by
            have := ea.2
            simpa using this
          obtain ⟨m, i1, b1, g1⟩ := int_nat cy
          refine ⟨_, Same.seq s3 hp, _, at_last2 _ _, y, rfl, m, i1, g1, _, _, ⟨rfl, rfl⟩, go2 m (by omega) (by omega) fun p q h => ?_⟩
          obtain ⟨f1, f2, _, f4, f5, _⟩ := rz_fact h
          rcases f1 with ⟨_, f1⟩ | ⟨_, f1⟩
          · rw [hW] at f1; cases f1
          · rw [hW] at f1
            cases f1
            rw [intText_strI f4] at i0
            rw [intText_strI f5] at i1
            exact ⟨Option.some.inj i0, Option.some.inj i1⟩
        · obtain rfl : wr = [] := by
            simp only [List.length_cons] at el
            match wr, el, e with
            | [], _, _ => rfl
            | [y], el, _ => exact absurd rfl el
            | _ :: _ :: _, _, e => exact absurd (by simp only [List.length_cons]; omega) e
          refine ⟨_, _, ⟨rfl, rfl⟩, go2 1 (by decide) (by decide) fun p q h => ?_⟩
          obtain ⟨f1, f2, _, f4, f5, _⟩ := rz_fact h
          rcases f1 with ⟨f0, f1⟩ | ⟨_, f1⟩
          · rw [hW] at f1
            cases f1
            rw [intText_strI f4] at i0
            exact ⟨Option.some.inj i0, f0⟩
          · rw [hW] at f1; cases f1
    refine ⟨_, h1, _, at_ofN (j := 0) rfl rfl, w0, rfl, by omega, ite2 (fun e => ?_) (fun e => ?_)⟩
    · refine ⟨_, h1, _, at_ofN (j := 0) rfl rfl, w0, rfl, by omega, by omega, fun p H2 s2 n2 h2 => ⟨_, Same.seq s2 h1, fun q H3 s3 n3 h3 => ⟨_, s3 _ _ h2, _, h3, ?_, fun t H4 s4 n4 h4 => go t H4 (Same.trans s2 (Same.trans s3 s4)) ?_⟩⟩⟩
      · have := cutV_length ((w0 :: wr).map V.str) (some 1) none
        simp only [List.length_cons, List.length_map, List.length_nil] at this ⊢
        omega
      · rw [h4, figs_cut e]
        rw [show cutV ((w0 :: wr).map V.str) (some 1) none = wr.map V.str from cutV_drop _ 1]
        rfl
    · refine ⟨_, h1, _, at_ofN (j := 0) rfl rfl, by omega, fun p H2 s2 n2 h2 => ⟨_, Same.seq s2 h1, fun q H3 s3 n3 h3 => ⟨_, s3 _ _ h2, _, h3, ?_, fun t H4 s4 n4 h4 => go t H4 (Same.trans s2 (Same.trans s3 s4)) ?_⟩⟩⟩
      · have := cutV_length ((w0 :: wr).map V.str) (some 1) none
        simp only [List.length_cons, List.length_map, List.length_nil] at this ⊢
        omega
      · rw [h4, figs_nocut e]
        rw [show cutV ((w0 :: wr).map V.str) (some 1) none = wr.map V.str from cutV_drop _ 1]
        rfl
end
end LK

set_option Elab.async false
set_option linter.all false
set_option maxRecDepth 100000
set_option pp.deepTerms true
set_option pp.maxSteps 20000
namespace LK
open PySem PySem.Spec PyProof.Rows L2
local macro_rules | `(tactic| walk_at "rs") => `(tactic| simp only [cxK, cxNK, tCallZ, tAsg, tOp, rI0, rS0, rB0, rI, rU, tUn, rEq, rNe, rIxL, rIxT, rIxS, rSetL, rSlLU, rSlS, rSlU, rCatL, rCatU, rRepL, rIn, tVar, tC, gName, gSub, tIfS, tTest, tB, tAnd, tOr, tNot, tNotV, tAndV, tOrV, tIf, tCall, tCons, tNil, tCB, tDrop, tRet, tRetN, tNext, tLstU, tTupU, tM0, tM1, tPar, tPar3, tAug, ipI, tBM, tBM0, rAppend, rPop, tBreak, tCont, tChain, tSl, tPart, tNoPart, L2.start, List.map, List.length_cons, List.length_nil, List.replicate, List.cons_append, List.nil_append, List.append_nil, List.getElem?_cons_zero, List.getElem?_cons_succ, List.set_cons_zero, List.set_cons_succ, Option.some.injEq, V.int.injEq, V.ref.injEq, V.str.injEq, V.bl.injEq, exists_eq_left', exists_eq_left, exists_and_left, decide_eq_true_eq, List.cons.injEq, and_true, true_and, scal, Bool.not_eq_true', decide_eq_false_iff_not, Nat.zero_add, Nat.reduceAdd, Nat.reduceSub, reduceCtorEq, false_and, exists_false, false_or, or_false, CPow, CMul, CDiv, Int.reduceToNat, ↓reduceIte, wipe, sw, List.nil_append, List.singleton_append])
local macro_rules | `(tactic| walk_at "st") => `(tactic| (refine seq_op fun N hN => ?_; walk_at "rs"))
local macro_rules | `(tactic| walk_at "sd") => `(tactic| first | assumption | decide | omega)
local macro_rules | `(tactic| walk_at "rd") => `(tactic| repeat (first
  | refine ⟨_, SqL.of (by assumption), ?_⟩ | refine ⟨_, SqL.of upd_same, ?_⟩ | refine ⟨_, .inl (SqL.of (by assumption)), ?_⟩ | refine ⟨_, (by assumption : _ = some (HO.lst _)), ?_⟩ | refine ⟨_, upd_same, ?_⟩
  | refine ⟨_, rfl, ?_⟩ | refine And.intro (by walk_at "sd") ?_))

open TL
theorem split_each (z : Str) {y : Str} (hy : 1 ≤ y.length) : (Txt.split z y).length ≤ z.length + 1 ∧ ∀ x ∈ Txt.split z y, x.length ≤ z.length := by
  have h := split_weight z y hy
  refine ⟨by omega, fun x hx => ?_⟩
  have a := mem_sum _ x hx
  have b : 1 ≤ (Txt.split z y).length := List.length_pos_of_mem hx
  omega
theorem short_call {K : PySem.W.Frag} {H : Hp} {x : V} {f : Int × Int} {Q : VK} (b1 : f.1.natAbs < 10 ^ 60) (b2 : f.2.natAbs < 10 ^ 60) (hx : Dp K H x (frD f)) (k : ∀ H', Same H H' → Q (.str (valW (frD f))) H') : ∃ a, x = V.ref a ∧ ∃ p q, SqT K H a [.int p, .int q] ∧ p.natAbs < 10 ^ 60 ∧ q.natAbs < 10 ^ 60 ∧ Q (.str (txtF p q)) H := by
  obtain ⟨a, ys, rfl, ha, hy⟩ := dp_tup hx
  obtain ⟨v1, v2, rfl, h1, h2⟩ := dpa_two hy
  cases h1
  cases h2
  exact ⟨a, rfl, _, _, ha, b1, b2, k H (Same.refl _)⟩
section
variable {P : Program} {w : World} {K : PySem.W.Frag} {mg : Str → Option Value} {base : Heap}
theorem ok__law_read_pair (T : Txt w K mg) : FnOk P w K mg base CX0 3 T.a__law_read_pair T.d__law_read_pair ["word"] (fun vs H Q _ => ∃ z, vs = [.str z] ∧ z.length ≤ 100000 ∧ ∀ v H', Same H H' → Dp K (nw H H') v (pr2 z) → Q v H') := by
  refine T.F__law_read_pair.ok sc__law_read_pair (fun vs H Q E h => ?_) (fun cdv A outer s H vs Q E hr h => ?_)
  · obtain ⟨z, rfl, _⟩ := h
    rfl
  · obtain ⟨z, rfl, hz, k⟩ := h
    have hr__law_read_short : Room 2 _ := hr
    have G__law_read_short := ok__law_read_short (P := P) (base := base) T
    refine ⟨_, (pss_cons (ps_set (i := 1) sc__law_read_pair.nd rfl (Or.inl rfl) (pe_split (pv 0) pe_str))
      (pss_one (ps_ret (pe_callTy call_tupleN (by rfl) T.n_tuple (by decide +kernel) (pa_cons (pe_lc (own := [("one", 2)]) (g := gName 2) (tt := tYes) rfl sc__law_read_pair.nd (pi_list (pv 1)) (blkOk_by (own := [("one", 2)]) (N := N__law_read_pair) (sc := defScope s__law_read_pair) (by decide +kernel)) (fun _ _ _ _ _ => pg_name (i := 2) sc__law_read_pair.nd rfl (Or.inl rfl)) (fun _ _ _ _ _ => pts_nil) (fun _ _ _ _ _ => (pe_call G__law_read_short hr__law_read_short (by rfl) T.m__law_read_short T.F__law_read_short.kp T.B__law_read_short .nil pass0 (pa_cons (pv 2) pa_nil)))) pa_nil))))), ?_⟩
    refine seq_op fun N hN => ?_
    walk_at "rs"
    obtain ⟨sl1, sl2⟩ := split_each z (y := ":") (by decide +kernel)
    refine ⟨⟨_, rfl⟩, by decide +kernel, Nat.le_trans (show z.length + 2 ≤ 100010 by omega) (by decide), fun l hl => hN _ _ ?_⟩
    clear hN N
    have s1 : Same H (L2.upd H l (.lst ((Txt.split z ":").map V.str))) := same_upd hl
    have h1 : SqL K (L2.upd H l (.lst ((Txt.split z ":").map V.str))) l ((Txt.split z ":").map V.str) := SqL.of upd_same
    change tRet _ _ _ (L2.upd H l (.lst ((Txt.split z ":").map V.str)))
    have ep : pr2 z = .tuple ((Txt.split z ":").map vZ) := rfl
    rw [ep] at k
    generalize Txt.split z ":" = W at h1 s1 k sl1 sl2 ⊢
    generalize L2.upd H l (.lst (W.map V.str)) = H1 at h1 s1 ⊢
    walk_at "rs"
    refine ⟨_, rfl, l, rfl, ⟨_, h1⟩, fun D hD => lc_rd vZ h1 hD (by omega) (fun y H2 hm s2 Q2 hq => ?_) (fun H2 ys s2 h2 hy => ?_)⟩
    · walk_at "rs"
      exact ⟨by have := sl2 y hm; omega, hq⟩
    · refine ⟨D, rfl, _, SqL.of h2, fun q H3 s3 n3 h3 => k _ H3 (Same.trans s1 (Same.trans s2 s3)) ?_⟩
      exact .tup (SqT.of (nw_of (Same.dom s1 _ (Same.dom s2 _ n3)) h3)) (dpa_same (Same.trans (nw_back s1) (nw_on s3)) hy)
theorem ok__law_read_last (T : Txt w K mg) : FnOk P w K mg base CX0 1 T.a__law_read_last T.d__law_read_last ["word"] (fun vs H Q _ => ∃ z, vs = [.str z] ∧ z.length ≤ 100000 ∧ ∀ v H', Same H H' → Dp K H' v (lastZ z) → Q v H') := by
  refine T.F__law_read_last.ok sc__law_read_last (fun vs H Q E h => ?_) (fun cdv A outer s H vs Q E hr h => ?_)
  · obtain ⟨z, rfl, _⟩ := h
    rfl
  · obtain ⟨z, rfl, hz, k⟩ := h
    refine ⟨_, (pss_one (ps_ret (pe_ifExp (pt_cmpR op_in_seq (pv 0) (pe_lc (own := [("k", 1)]) (g := gName 1) (tt := tYes) rfl sc__law_read_last.nd (pi_range1 (by rfl) T.n_range (pa_cons pe_int pa_nil)) (blkOk_by (own := [("k", 1)]) (N := N__law_read_last) (sc := defScope s__law_read_last) (by decide +kernel)) (fun _ _ _ _ _ => pg_name (i := 1) sc__law_read_last.nd rfl (Or.inl rfl)) (fun _ _ _ _ _ => pts_nil) (fun _ _ _ _ _ => (pe_callTy call_str_int (by rfl) T.n_str (by decide +kernel) (pa_cons (pe_op op_sub (pv 1) pe_int) pa_nil)))) (by rfl)) (pe_callTy call_int_str (by rfl) T.n_int (by decide +kernel) (pa_cons (pv 0) pa_nil)) pe_non))), ?_⟩
    walk_at "rs"
    refine ⟨19, rfl, by decide, by decide, fun D hD => lc_rng (fun j => .str (Str.ofString (toString (j - 9)))) hD (by decide) ?_ ?_⟩
    · intro k H3 hk s3 Q2 hq
      walk_at "rs"
      refine ⟨?_, hq H3 (Same.refl _)⟩
      exact Nat.lt_of_le_of_lt (Nat.log2_le_self _) (by omega)
    · intro H3 s3 h3
      have e9 : (List.range (19 : Int).toNat).map (fun (k : Nat) => V.str (Str.ofString (toString ((0 : Int) + (k : Int) - 9)))) = nineV := by
        unfold nineV
        refine List.map_congr_left fun k hk => ?_
        rw [Int.zero_add]
      rw [e9] at h3
      unfold lastZ at k
      refine ⟨D, rfl, nineV, .inl (SqL.of h3), rfl, by decide +kernel, ite2 (fun e2 => ?_) (fun e2 => ?_)⟩
      · rw [if_pos e2] at k
        have q : ∀ y ∈ nineL, y.length ≤ 640 ∧ intText? y = readNum y ∧ (readNum y).isSome = true := by decide +kernel
        rw [nineV_eq, inL] at e2
        obtain ⟨q1, q2, q3⟩ := q z (of_decide_eq_true e2)
        cases er : readNum z with
        | none => rw [er] at q3; cases q3
        | some n =>
          rw [er] at k q2
          exact ⟨n, q2, q1, k _ H3 s3 (.int n)⟩
      · rw [if_neg e2] at k
        exact k _ H3 s3 .non
/-- the law's own text of a line -/
theorem ok__law_written (T : Txt w K mg) : FnOk P w K mg base CX0 2 T.a__law_written T.d__law_written ["row"] (fun vs H Q _ => ∃ v d, vs = [v] ∧ Dp K H v d ∧ okD d = true ∧ isLineD d = true ∧ ∀ H', Same H H' → Q (.str (textD d)) H') := by
  refine T.F__law_written.ok sc__law_written (fun vs H Q E h => ?_) (fun cdv A outer s H vs Q E hr h => ?_)
  · obtain ⟨v, d, rfl, _⟩ := h
    rfl
  · obtain ⟨v, d, rfl, hd, hok, hL, k⟩ := h
    have hr__law_short : Room 1 _ := hr
    have G__law_short := ok__law_short (P := P) (base := base) T
    have hr__law_trio : Room 1 _ := hr
    have G__law_trio := ok__law_trio (P := P) (base := base) T
    refine ⟨_, (pss_cons (ps_set (i := 1) sc__law_written.nd rfl (Or.inl rfl) (pe_lstU (pa_cons pe_str (pa_cons (pe_ix ix_tup (pv 0) pe_int (fun _ _ => rfl)) (pa_cons (pe_ix ix_tup (pv 0) pe_int (fun _ _ => rfl)) pa_nil)))))
      (pss_cons (ps_if (pt_cmpR op_eqS (pe_ix ix_tup (pv 0) pe_int (fun _ _ => rfl)) pe_str (nomark _)) (pss_one (ps_ret (pe_join pe_str (pe_op op_catL (pv 1) (pe_callTy call_listU (by rfl) T.n_list (by decide +kernel) (pa_cons (pe_ix ix_tup (pv 0) pe_int (fun _ _ => rfl)) pa_nil)))))) pss_nil)
      (pss_cons (ps_if (pt_cmpR op_eqS (pe_ix ix_tup (pv 0) pe_int (fun _ _ => rfl)) pe_str (nomark _)) (pss_one (ps_ret (pe_join pe_str (pe_op op_catL (pe_op op_catL (pe_op op_catL (pv 1) (pe_callTy call_listU (by rfl) T.n_list (by decide +kernel) (pa_cons (pe_ix ix_tup (pv 0) pe_int (fun _ _ => rfl)) pa_nil))) (pe_lstU (pa_cons pe_str pa_nil))) (pe_lc (own := [("one", 4)]) (g := gName 4) (tt := tYes) rfl sc__law_written.nd (pi_tup (pe_ix ix_tup (pv 0) pe_int (fun _ _ => rfl))) (blkOk_by (own := [("one", 4)]) (N := N__law_written) (sc := defScope s__law_written) (by decide +kernel)) (fun _ _ _ _ _ => pg_name (i := 4) sc__law_written.nd rfl (Or.inl rfl)) (fun _ _ _ _ _ => pts_nil) (fun _ _ _ _ _ => (pe_call G__law_short hr__law_short (by rfl) T.m__law_short T.F__law_short.kp T.B__law_short .nil pass0 (pa_cons (pv 4) pa_nil)))))))) pss_nil)
      (pss_cons (ps_if (pt_cmpR op_neS (pe_ix ix_tup (pv 0) pe_int (fun _ _ => rfl)) pe_str (nomark _)) (pss_one (ps_set (i := 1) sc__law_written.nd rfl (Or.inl rfl) (pe_op op_catL (pv 1) (pe_lstU (pa_cons (pe_ix ix_tup (pv 0) pe_int (fun _ _ => rfl)) pa_nil))))) pss_nil)
      (pss_cons (ps_set (i := 2) sc__law_written.nd rfl (Or.inl rfl) (pe_call G__law_trio hr__law_trio (by rfl) T.m__law_trio T.F__law_trio.kp T.B__law_trio .nil pass0 (pa_cons (pv 0) pa_nil)))
      (pss_cons (ps_set (i := 1) sc__law_written.nd rfl (Or.inl rfl) (pe_op op_catL (pv 1) (pe_lstU (pa_cons pe_str (pa_cons (pe_ix ix_tup (pv 2) pe_int (fun _ _ => rfl)) pa_nil)))))
      (pss_cons (ps_if (pt_val (pe_callB (call_isiDK (K := K) rfl) (by rfl) T.n_isinstance (by decide +kernel) (pa_cons (pe_ix ix_tup (pv 2) pe_int (fun _ _ => rfl)) (pa_cons (pe_bltn (v := .ty "tuple") (u := .type "tuple") (by rfl) T.n_tuple (by decide +kernel) rfl) pa_nil)))) (pss_one (ps_set (i := 1) sc__law_written.nd rfl (Or.inl rfl) (pe_op op_catL (pe_op op_catL (pv 1) (pe_lstU (pa_cons pe_str (pa_cons (pe_ix ix_tup (pv 2) pe_int (fun _ _ => rfl)) pa_nil)))) (pe_lc (own := [("pair", 3)]) (g := gName 3) (tt := tYes) rfl sc__law_written.nd (pi_tup (pe_ix ix_tup (pv 2) pe_int (fun _ _ => rfl))) (blkOk_by (own := [("pair", 3)]) (N := N__law_written) (sc := defScope s__law_written) (by decide +kernel)) (fun _ _ _ _ _ => pg_name (i := 3) sc__law_written.nd rfl (Or.inl rfl)) (fun _ _ _ _ _ => pts_nil) (fun _ _ _ _ _ => (pe_op op_add_str (pe_op op_add_str (pe_call G__law_short hr__law_short (by rfl) T.m__law_short T.F__law_short.kp T.B__law_short .nil pass0 (pa_cons (pe_ix (ix_tupK (K := K) rfl) (pv 3) pe_int (fun _ _ => rfl)) pa_nil)) pe_str) (pe_call G__law_short hr__law_short (by rfl) T.m__law_short T.F__law_short.kp T.B__law_short .nil pass0 (pa_cons (pe_ix (ix_tupK (K := K) rfl) (pv 3) pe_int (fun _ _ => rfl)) pa_nil)))))))) (pss_one (ps_set (i := 1) sc__law_written.nd rfl (Or.inl rfl) (pe_op op_catL (pv 1) (pe_lstU (pa_cons (pe_ix ix_tup (pv 2) pe_int (fun _ _ => rfl)) (pa_cons (pe_ix ix_tup (pv 2) pe_int (fun _ _ => rfl)) pa_nil)))))))
      (pss_cons (ps_if (pt_cmpR op_neS (pe_ix ix_tup (pv 0) pe_int (fun _ _ => rfl)) pe_str (nomark _)) (pss_one (ps_set (i := 1) sc__law_written.nd rfl (Or.inl rfl) (pe_op op_catL (pv 1) (pe_lstU (pa_cons pe_str (pa_cons (pe_callTy call_str_int (by rfl) T.n_str (by decide +kernel) (pa_cons (pe_ix ix_tup (pv 0) pe_int (fun _ _ => rfl)) pa_nil)) pa_nil)))))) pss_nil)
      (pss_one (ps_ret (pe_join pe_str (pv 1)))))))))))), ?_⟩
    refine seq_op fun N hN => ?_
    walk_at "rs"
    have hl := line_of hL
    obtain ⟨a, xs, kd, own, ps, rfl, rfl, ha, hx⟩ : ∃ a xs kd own ps, v = .ref a ∧ d = .tuple (.str kd :: .str own :: ps) ∧ SqT K H a (.str kd :: .str own :: xs) ∧ DpAll K H xs ps := by
      have g : ∃ kd own ps, d = .tuple (.str kd :: .str own :: ps) := by cases hl <;> exact ⟨_, _, _, rfl⟩
      obtain ⟨kd, own, ps, rfl⟩ := g
      obtain ⟨a, ys, rfl, ha, hy⟩ := dp_tup hd
      obtain ⟨v1, v2, xs, rfl, h1, h2, hx⟩ := dpa_two_more hy
      cases h1
      cases h2
      exact ⟨a, xs, kd, own, ps, rfl, rfl, ha, hx⟩
    have sz := text_size hl hok
    have hws := words_size (words_ok hl)
    have l1 : (Str.ofString " ").length = 1 := by decide +kernel
    /- the words at hand, joined -/
    have fin : ∀ q H', Same H H' → H' q = some (.lst ((wordsD (.tuple (.str kd :: .str own :: ps))).map V.str)) → ∃ x, (SqL K H' q (List.map V.str x) ∨ SqT K H' q (List.map V.str x)) ∧ (List.map (fun x => x.length) x).sum + x.length * (Str.ofString " ").length ≤ 16777216 ∧ Q (V.str (Txt.join (Str.ofString " ") x)) H' := fun q H' s' hq => by
      refine ⟨_, .inl (SqL.of hq), ?_, k H' s'⟩
      rw [l1]
      omega
    refine ⟨a, rfl, _, ha, _, at_ofN (j := 1) rfl rfl, a, rfl, _, ha, _, at_ofN (j := 0) rfl rfl, by decide, fun p H1 s1 n1 h1 => hN _ _ ?_⟩
    clear hN N
    have okr : ∀ r ∈ ps, okD r = true := fun r hr => ok_mem (okD_tup.mp hok).2 (by simp [hr])
    replace fin := fun q H' (s' : Same H1 H') hq => fin q H' (Same.trans s1 s') hq
    replace ha := Same.seqT s1 ha
    replace hx := dpa_same s1 hx
    refine seq_op fun N hN => ?_
    walk_at "rs"
    have split3 : (kd = "be" ∨ kd = "table") ∨ (¬ kd = "be" ∧ ¬ kd = "table" ∧ ∃ x c vr r, askX kd (.str kd :: .str own :: xs) = [.str x, vr, .str c] ∧ Dp K H1 vr r ∧ okD r = true ∧ isRelD r = true ∧
        ((kd = "count" ∧ wordsD (.tuple (.str kd :: .str own :: ps)) = ("let" : Str) :: own :: kd :: "where" :: relW x r c) ∨
        (¬ kd = "count" ∧ ∃ pn i, xs[0]? = some (.str pn) ∧ xs[4]? = some (.int i) ∧ -9 ≤ i ∧ i ≤ 9 ∧ wordsD (.tuple (.str kd :: .str own :: ps)) = ("let" : Str) :: own :: kd :: pn :: "where" :: (relW x r c ++ [("else" : Str), strI i])))) := by
      cases hl with
      | be own zs ho hp => exact .inl (.inl rfl)
      | tab own ns fs ho ln hn lf hf => exact .inl (.inr rfl)
      | cnt own x c r ho hx1 hr1 hc =>
        obtain ⟨v1, vr, ys, rfl, hv1, hvr, hy⟩ := dpa_two_more hx
        obtain ⟨v3, rfl, hv3⟩ := dpa_one hy
        cases hv1
        cases hv3
        refine .inr ⟨cnt_be, cnt_tab, x, c, vr, r, ?_, hvr, okr r (by simp), hr1, .inl ⟨rfl, rfl⟩⟩
        show (if _ then _ else _) = _
        rw [if_pos rfl]
        rfl
      | lst kd own p x c r i hk ho hp hx1 hr1 hc h1 h2 =>
        obtain ⟨m1, m2, m3⟩ := not_kinds hk
        obtain ⟨vp, v1, ys, rfl, hvp, hv1, hy⟩ := dpa_two_more hx
        obtain ⟨vr, vc, ys, rfl, hvr, hvc, hy⟩ := dpa_two_more hy
        obtain ⟨vi, rfl, hvi⟩ := dpa_one hy
        cases hvp
        cases hv1
        cases hvc
        cases hvi
        refine .inr ⟨m1, m2, x, c, vr, r, ?_, hvr, okr r (by simp), hr1, .inr ⟨m3, p, i, rfl, rfl, h1, h2, words_lst hk _ _ _ _ _ _⟩⟩
        show (if _ then _ else _) = _
        rw [if_neg m3]
        rfl
    rcases split3 with hbt | ⟨m1, m2, x, c, vr, r, hask, hvr, okr, hrel, hcl⟩
    · cases hl with
      | be own zs ho hp =>
        refine ⟨_, ha, _, at_ofN (j := 0) rfl rfl, _, rfl, ite2 (fun _ => ?_) (fun e => absurd rfl e)⟩
        obtain ⟨v, rfl, hv⟩ := dpa_one hx
        obtain ⟨b, ys, rfl, hb, hy⟩ := dp_tup hv
        obtain rfl := dpa_strs hy
        refine ⟨⟨_, rfl⟩, _, ha, _, at_ofN (j := 2) rfl rfl, b, rfl, _, .inr hb, fun l H2 s2 n2 h2 => ⟨_, s2 _ _ h1, _, h2, ?_, fun q H3 s3 n3 h3 => fin q H3 (Same.trans s2 s3) (by rw [h3, words_be]; rfl)⟩⟩
        have := (pre_ok hp).1
        simp only [List.length_cons, List.length_nil, List.length_map]
        exact Nat.le_trans (show 0 + 1 + 1 + 1 + zs.length ≤ 33 by omega) (by decide)
      | tab own ns fs ho ln hn lf hf =>
        refine ⟨_, ha, _, at_ofN (j := 0) rfl rfl, _, rfl, ite2 (fun e => absurd e tab_be) (fun _ => hN _ _ ?_)⟩
        clear hN N
        refine seq_op fun N hN => ?_
        walk_at "rs"
        refine ⟨_, ha, _, at_ofN (j := 0) rfl rfl, _, rfl, ite2 (fun _ => ?_) (fun e => absurd rfl e)⟩
        clear hN N
        obtain ⟨v1, v2, rfl, hv1, hv2⟩ := dpa_two hx
        obtain ⟨b, ys, rfl, hb, hy⟩ := dp_tup hv1
        obtain rfl := dpa_strs hy
        obtain ⟨b2, ws, rfl, hb2, hw⟩ := dp_tup hv2
        refine ⟨⟨_, rfl⟩, _, ha, _, at_ofN (j := 2) rfl rfl, b, rfl, _, .inr hb, fun l H2 s2 n2 h2 => ⟨_, s2 _ _ h1, _, h2, ?_, fun q H3 s3 n3 h3 => ⟨by decide, fun q2 H4 s4 n4 h4 => ⟨_, s4 _ _ h3, _, h4, ?_, fun q3 H5 s5 n5 h5 => ?_⟩⟩⟩⟩
        · simp only [List.length_cons, List.length_nil, List.length_map]
          exact Nat.le_trans (show 0 + 1 + 1 + 1 + ns.length ≤ 33 by omega) (by decide)
        · simp only [List.length_cons, List.length_nil, List.length_map, List.length_append]
          exact Nat.le_trans (show 0 + 1 + 1 + 1 + ns.length + (0 + 1) ≤ 33 by omega) (by decide)
        have S := Same.trans s2 (Same.trans s3 (Same.trans s4 s5))
        refine ⟨_, rfl, _, _, _, _, rfl, rfl, Same.seqT S ha, at_ofN (j := 3) rfl rfl, b2, rfl, ⟨_, Same.seqT S hb2⟩, fun D hD => lc_data (fun d => .str (valW d)) (Same.seqT S hb2) (dpa_same S hw) hD (by rw [List.length_map]; omega) (fun x d1 H6 hm h6 s6 Q2 hq => ?_) (fun H6 s6 h6 => ?_)⟩
        · obtain ⟨f, hf2, rfl⟩ := List.mem_map.mp hm
          walk_at "rs"
          obtain ⟨_, _, _, _, b1, b2⟩ := val_iff (hf f hf2)
          exact short_call b1 b2 h6 hq
        · refine ⟨D, rfl, _, s6 _ _ h5, _, h6, ?_, fun q4 H7 s7 n7 h7 => fin q4 H7 (Same.trans S (Same.trans s6 s7)) ?_⟩
          · simp only [List.length_append, List.length_map, List.length_cons, List.length_nil]
            exact Nat.le_trans (show 0 + 1 + 1 + 1 + ns.length + (0 + 1) + fs.length ≤ 430 by omega) (by decide)
          · rw [h7, words_tab]
            show _ = some (HO.lst ((("let" : Str) :: own :: "table" :: (ns ++ (":" : Str) :: (fs.map frD).map valW)).map V.str))
            simp only [List.map_cons, List.map_append, List.map_map, List.append_assoc, List.cons_append, List.nil_append]
            rfl
      | cnt own x c r ho hx1 hr1 hc => rcases hbt with e | e <;> exact absurd e (by decide +kernel)
      | lst kd own p x c r i hk ho hp hx1 hr1 hc h1 h2 =>
        obtain ⟨m1, m2, m3⟩ := not_kinds hk
        rcases hbt with e | e
        · exact absurd e m1
        · exact absurd e m2
    refine ⟨_, ha, _, at_ofN (j := 0) rfl rfl, _, rfl, ite2 (fun e => absurd e m1) (fun _ => hN _ _ ?_)⟩
    clear hN N
    refine seq_op fun N hN => ?_
    walk_at "rs"
    refine ⟨_, ha, _, at_ofN (j := 0) rfl rfl, _, rfl, ite2 (fun e => absurd e m2) (fun _ => hN _ _ ?_)⟩
    clear hN N
    have rl := relW_len (a := x) (c := c) okr
    refine seq_op fun N hN => ?_
    walk_at "rs"
    have tail : ∀ (L : List Str) p2 H2, Same H1 H2 → H2 p2 = some (.lst (L.map V.str)) → L.length ≤ 5 →
        (kd = "count" ∧ wordsD (.tuple (.str kd :: .str own :: ps)) = L ++ ("where" : Str) :: relW x r c ∨ ¬ kd = "count" ∧ ∃ i, xs[4]? = some (.int i) ∧ -9 ≤ i ∧ i ≤ 9 ∧ wordsD (.tuple (.str kd :: .str own :: ps)) = L ++ ("where" : Str) :: (relW x r c ++ [("else" : Str), strI i])) →
        N [some (V.ref a), some (V.ref p2), none, none, none] H2 := by
      intro L p2 H2 s2 h2 lL hcl
      refine hN _ _ ?_
      clear hN N
      refine seq_op fun N hN => ?_
      walk_at "rs"
      refine ⟨kd, _, Same.seqT s2 ha, fun t H3 s3 ht => hN _ _ ?_⟩
      clear hN N
      rw [hask] at ht
      refine seq_op fun N hN => ?_
      walk_at "rs"
      refine ⟨_, ht, _, at_ofN (j := 0) rfl rfl, by decide, fun q H4 s4 n4 h4 => ⟨_, Same.trans s3 s4 _ _ h2, _, h4, ?_, fun q2 H5 s5 n5 h5 => hN _ _ ?_⟩⟩
      · simp only [List.length_map, List.length_cons, List.length_nil]
        exact Nat.le_trans (show L.length + (0 + 1 + 1) ≤ 7 by omega) (by decide)
      clear hN N
      refine seq_op fun N hN => ?_
      walk_at "rs"
      have S := Same.trans s2 (Same.trans s3 (Same.trans s4 s5))
      replace ht := Same.seqT (Same.trans s4 s5) ht
      replace hvr := dp_same S hvr
      have h5' : H5 q2 = some (.lst ((L ++ [("where" : Str), x]).map V.str)) := by rw [h5, List.map_append]; rfl
      /- the relation's words written -/
      have tail2 : ∀ q3 H6, Same H5 H6 → H6 q3 = some (.lst ((L ++ ("where" : Str) :: relW x r c).map V.str)) → N [some (V.ref a), some (V.ref q3), some (V.ref t), none, none] H6 := by
        intro q3 H6 s6 h6
        refine hN _ _ ?_
        clear hN N
        refine seq_op fun N hN => ?_
        walk_at "rs"
        have S6 := Same.trans S s6
        have sz6 : L.length + (relW x r c).length + 10 ≤ sizeLine := Nat.le_trans (show L.length + (relW x r c).length + 10 ≤ 100100 by omega) (by decide)
        refine ⟨_, Same.seqT S6 ha, _, at_ofN (j := 0) rfl rfl, _, rfl, ite2 (fun e => ?_) (fun e => ?_)⟩
        · obtain ⟨e2, _⟩ | ⟨e2, i, x4, i1, i2, ew⟩ := hcl
          · exact absurd e2 e
          refine ⟨_, Same.seqT S6 ha, _, at_ofN (j := 6) rfl x4, i, rfl, small_log (by omega) (by omega), by decide, fun q4 H7 s7 n7 h7 => ⟨_, s7 _ _ h6, _, h7, ?_, fun q5 H8 s8 n8 h8 => hN _ _ ?_⟩⟩
          · simp only [List.length_map, List.length_append, List.length_cons, List.length_nil]
            omega
          clear hN N
          walk_at "rs"
          refine ⟨⟨_, rfl⟩, fin q5 H8 (Same.trans S6 (Same.trans s7 s8)) ?_⟩
          rw [h8, ew]
          simp only [List.map_cons, List.map_append, List.map_map, List.append_assoc, List.cons_append, List.nil_append, List.map_nil]
          rfl
        · obtain ⟨e2, ew⟩ | ⟨e2, _⟩ := hcl
          · refine hN _ _ ?_
            clear hN N
            walk_at "rs"
            exact ⟨⟨_, rfl⟩, fin q3 H6 S6 (by rw [h6, ew])⟩
          · exact absurd e2 e
      refine ⟨_, ht, vr, at_ofN (j := 1) rfl rfl, vr, "tuple", ⟨rfl, rfl⟩, r, hvr, by decide, ite2 (fun e => ?_) (fun e => ?_)⟩
      · obtain ⟨y, hy, rfl⟩ | ⟨prs, rfl, hp⟩ := rel_cases hrel
        · cases e
        obtain ⟨b, ys, rfl, hb, hy⟩ := dp_tup hvr
        have hlp := (okD_tup.mp okr).1
        rw [List.length_map] at hlp
        refine ⟨_, ht, _, at_ofN (j := 2) rfl rfl, by decide, fun q3 H6 s6 n6 h6 => ⟨_, s6 _ _ h5', _, h6, ?_, fun q4 H7 s7 n7 h7 => ?_⟩⟩
        · simp only [List.length_map, List.length_append, List.length_cons, List.length_nil]
          exact Nat.le_trans (show L.length + (0 + 1 + 1) + (0 + 1 + 1) ≤ 10 by omega) (by decide)
        have S67 := Same.trans s6 s7
        refine ⟨_, rfl, _, _, _, _, rfl, rfl, Same.seqT S67 ht, at_ofN (j := 1) rfl rfl, b, rfl, ⟨_, Same.seqT S67 hb⟩, fun D hD => lc_data (fun d => .str (pairW d)) (Same.seqT S67 hb) (dpa_same S67 hy) hD (by rw [List.length_map]; omega) (fun v d1 H8 hm h8 s8 Q2 hq => ?_) (fun H8 s8 h8 => ?_)⟩
        · obtain ⟨pr, hm2, rfl⟩ := List.mem_map.mp hm
          obtain ⟨hv1, hv2⟩ := hp pr hm2
          obtain ⟨u, us, rfl, hu, hus⟩ := dp_tup h8
          obtain ⟨u1, u2, rfl, hu1, hu2⟩ := dpa_two hus
          obtain ⟨_, _, _, _, b1, b2⟩ := val_iff hv1
          obtain ⟨_, _, _, _, b3, b4⟩ := val_iff hv2
          have m1 := valW_len hv1
          have m2 := valW_len hv2
          have m0 : (Str.ofString ":").length = 1 := by decide +kernel
          have big : 200 ≤ sizeLine := by decide
          walk_at "rs"
          obtain ⟨w1, ws1, rfl, hw1, hx1⟩ := dp_tup hu1
          obtain ⟨c1, c2, rfl, hc1, hc2⟩ := dpa_two hx1
          cases hc1
          cases hc2
          obtain ⟨w2, ws2, rfl, hw2, hx2⟩ := dp_tup hu2
          obtain ⟨c1, c2, rfl, hc1, hc2⟩ := dpa_two hx2
          cases hc1
          cases hc2
          change (txtF pr.1.1 pr.1.2).length ≤ 12 at m1
          change (txtF pr.2.1 pr.2.2).length ≤ 12 at m2
          refine ⟨_, hu, _, at_ofN (j := 0) rfl rfl, w1, rfl, _, _, hw1, b1, b2, by omega, _, hu, _, at_ofN (j := 1) rfl rfl, w2, rfl, _, _, hw2, b3, b4, ?_, hq _ (Same.refl _)⟩
          rw [str_append_len]
          omega
        · refine ⟨D, rfl, _, s8 _ _ h7, _, h8, ?_, fun q5 H9 s9 n9 h9 => tail2 q5 H9 (Same.trans S67 (Same.trans s8 s9)) ?_⟩
          · simp only [List.length_map, List.length_append, List.length_cons, List.length_nil]
            exact Nat.le_trans (show L.length + (0 + 1 + 1) + (0 + 1 + 1) + prs.length ≤ 100100 by omega) (by decide)
          · rw [h9]
            show _ = some (HO.lst ((L ++ ("where" : Str) :: x :: "pairs" :: c :: (prs.map prD).map pairW).map V.str))
            simp only [List.map_cons, List.map_append, List.map_map, List.append_assoc, List.cons_append, List.nil_append, List.map_nil]
            rfl
      · obtain ⟨y, hy, rfl⟩ | ⟨prs, rfl, hp⟩ := rel_cases hrel
        · cases hvr
          refine ⟨_, ht, _, at_ofN (j := 1) rfl rfl, _, ht, _, at_ofN (j := 2) rfl rfl, by decide, fun q3 H6 s6 n6 h6 => ⟨_, s6 _ _ h5', _, h6, ?_, fun q4 H7 s7 n7 h7 => tail2 q4 H7 (Same.trans s6 s7) ?_⟩⟩
          · simp only [List.length_map, List.length_append, List.length_cons, List.length_nil]
            exact Nat.le_trans (show L.length + (0 + 1 + 1) + (0 + 1 + 1) ≤ 10 by omega) (by decide)
          · rw [h7]
            show _ = some (HO.lst ((L ++ [("where" : Str), x, y, c]).map V.str))
            simp only [List.map_cons, List.map_append, List.map_map, List.append_assoc, List.cons_append, List.nil_append, List.map_nil]
        · exact absurd rfl e
    refine ⟨_, ha, _, at_ofN (j := 0) rfl rfl, _, rfl, ite2 (fun e => ?_) (fun e => ?_)⟩
    · obtain ⟨e2, _⟩ | ⟨e2, pn, i, x0, x4, i1, i2, ew⟩ := hcl
      · exact absurd e2 e
      refine ⟨_, ha, _, at_ofN (j := 2) rfl x0, by decide, fun q H2 s2 n2 h2 => ⟨_, s2 _ _ h1, _, h2, (by decide : 4 ≤ sizeLine), fun q2 H3 s3 n3 h3 => tail ["let", own, kd, pn] q2 H3 (Same.trans s2 s3) h3 (by simp) (.inr ⟨e, i, x4, i1, i2, ew⟩)⟩⟩
    · obtain ⟨e2, ew⟩ | ⟨e2, _⟩ := hcl
      · exact tail ["let", own, kd] p H1 (Same.refl _) h1 (by simp) (.inl ⟨e2, ew⟩)
      · exact absurd e2 e
end
end LK

set_option Elab.async false
set_option linter.all false
set_option maxRecDepth 100000
set_option pp.deepTerms true
set_option pp.maxSteps 20000
namespace LK
open PySem PySem.Spec PyProof.Rows L2
local macro_rules | `(tactic| walk_at "rs") => `(tactic| simp only [cxK, cxNK, tCallZ, tAsg, tOp, rI0, rS0, rB0, rI, rU, tUn, rEq, rNe, rIxL, rIxT, rIxS, rSetL, rSlLU, rSlS, rSlU, rCatL, rCatU, rRepL, rIn, tVar, tC, gName, gSub, tIfS, tTest, tB, tAnd, tOr, tNot, tNotV, tAndV, tOrV, tIf, tCall, tCons, tNil, tCB, tDrop, tRet, tRetN, tNext, tLstU, tTupU, tM0, tM1, tPar, tPar3, tAug, ipI, tBM, tBM0, rAppend, rPop, tBreak, tCont, tChain, tSl, tPart, tNoPart, L2.start, List.map, List.length_cons, List.length_nil, List.replicate, List.cons_append, List.nil_append, List.append_nil, List.getElem?_cons_zero, List.getElem?_cons_succ, List.set_cons_zero, List.set_cons_succ, Option.some.injEq, V.int.injEq, V.ref.injEq, V.str.injEq, V.bl.injEq, exists_eq_left', exists_eq_left, exists_and_left, decide_eq_true_eq, List.cons.injEq, and_true, true_and, scal, Bool.not_eq_true', decide_eq_false_iff_not, Nat.zero_add, Nat.reduceAdd, Nat.reduceSub, reduceCtorEq, false_and, exists_false, false_or, or_false, CPow, CMul, CDiv, Int.reduceToNat, ↓reduceIte, wipe, sw, List.nil_append, List.singleton_append])
local macro_rules | `(tactic| walk_at "st") => `(tactic| (refine seq_op fun N hN => ?_; walk_at "rs"))
local macro_rules | `(tactic| walk_at "sd") => `(tactic| first | assumption | decide | omega)
local macro_rules | `(tactic| walk_at "rd") => `(tactic| repeat (first
  | refine ⟨_, SqL.of (by assumption), ?_⟩ | refine ⟨_, SqL.of upd_same, ?_⟩ | refine ⟨_, .inl (SqL.of (by assumption)), ?_⟩ | refine ⟨_, (by assumption : _ = some (HO.lst _)), ?_⟩ | refine ⟨_, upd_same, ?_⟩
  | refine ⟨_, rfl, ?_⟩ | refine And.intro (by walk_at "sd") ?_))

open TL
theorem cutV_any (xs : List V) (i j : Nat) : cutV xs (some (i : Int)) (some (j : Int)) = (xs.drop i).take (j - i) := by
  by_cases h : i ≤ j
  · exact cutV_ij xs i j h
  · unfold cutV
    rw [HT.sIx_nat, HT.sIx_nat]
    rw [show j - i = 0 by omega, show min j xs.length - min i xs.length = 0 by omega]
    rw [List.take_zero, List.take_zero]
def fourL : List Str := ["count", "first", "last", "mean"]
theorem four_in {z : Str} (h : inV (.str z) [.str "count", .str "first", .str "last", .str "mean"] = true) : z = "count" ∨ z = "first" ∨ z = "last" ∨ z = "mean" := by
  have e : ([.str "count", .str "first", .str "last", .str "mean"] : List V) = fourL.map V.str := rfl
  rw [e, inL] at h
  have q := of_decide_eq_true h
  simpa only [fourL, List.mem_cons, List.mem_nil_iff, or_false] using q
theorem four_not {z : Str} (h : ¬ inV (.str z) [.str "count", .str "first", .str "last", .str "mean"] = true) : ¬ z = "count" ∧ ¬ (z = "first" ∨ z = "last" ∨ z = "mean") := by
  have e : ([.str "count", .str "first", .str "last", .str "mean"] : List V) = fourL.map V.str := rfl
  rw [e, inL] at h
  have q : ¬ z ∈ fourL := fun c => h (decide_eq_true c)
  simp only [fourL, List.mem_cons, List.mem_nil_iff, or_false, not_or] at q
  exact ⟨q.1, fun c => by rcases c with c | c | c; exact q.2.1 c; exact q.2.2.1 c; exact q.2.2.2 c⟩
theorem okP2 {z : Str} (h : z.length ≤ 99999) : okD (pr2 z) = true := okD_tup.mpr ⟨by
    have := (split_each z (y := ":") (by decide +kernel)).1
    rw [List.length_map]
    omega, okAll_of fun d hd => by
  obtain ⟨y, _, rfl⟩ := List.mem_map.mp hd
  exact okV y⟩
theorem ok_mark {z : Str} {more : List Str} (h : z.length ≤ 99999) (hl : more.length ≤ 100000) (hm : ∀ y ∈ more, y.length ≤ 99999) : okD (markD z more) = true := by
  unfold markD
  split
  · refine okD_tup.mpr ⟨by rw [List.length_map]; exact hl, okAll_of fun d hd => ?_⟩
    obtain ⟨y, hy, rfl⟩ := List.mem_map.mp hd
    exact okP2 (hm y hy)
  · exact decide_eq_true (show z.length ≤ 100000 by omega)
theorem okLast (z : Str) : okD (lastZ z) = true := by
  unfold lastZ
  split
  · exact okNum z
  · rfl
theorem mem_getD9 {ws : List Str} (h : ∀ z ∈ ws, z.length ≤ 99999) (i : Nat) : (ws.getD i "").length ≤ 99999 := by
  rw [List.getD_eq_getElem?_getD]
  cases e : ws[i]? with
  | none => exact (by decide +kernel : (Str.ofString "").length ≤ 99999)
  | some z => exact h z (List.mem_of_getElem? e)
theorem okOf {ds : List PyData} (hl : ds.length ≤ 100000) (h : ∀ d ∈ ds, okD d = true) : okD (.tuple ds) = true := okD_tup.mpr ⟨hl, okAll_of h⟩
theorem okS {z : Str} (h : z.length ≤ 99999) : okD (.str z) = true := decide_eq_true (show z.length ≤ 100000 by omega)
theorem ok_rd2 {ws : List Str} (hl : ws.length ≤ 100000) (h : ∀ z ∈ ws, z.length ≤ 99999) : okD (rd2 ws) = true := by
  have tsk : ∀ {zs : List Str}, zs.length ≤ 100000 → (∀ z ∈ zs, z ∈ ws) → okD (tS zs) = true := fun {zs} hz hm => okOf (by rw [List.length_map]; exact hz) fun d hd => by
    obtain ⟨z, q, rfl⟩ := List.mem_map.mp hd
    exact okS (h z (hm z q))
  have g : ∀ i, okD (.str (ws.getD i "")) = true := fun i => okS (mem_getD9 h i)
  have l1 : okD (.str "be") = true := okS (by decide +kernel)
  have l2 : okD (.str "table") = true := okS (by decide +kernel)
  have l3 : okD (.str "count") = true := okS (by decide +kernel)
  unfold rd2
  split
  · rfl
  split
  · refine okOf (by simp) fun d hd => ?_
    simp only [List.mem_cons, List.mem_nil_iff, or_false] at hd
    rcases hd with rfl | rfl | rfl
    · exact l1
    · exact g 1
    · exact tsk (by rw [List.length_drop]; omega) fun z hz => List.mem_of_mem_drop hz
  split
  · split
    · refine okOf (by simp) fun d hd => ?_
      simp only [List.mem_cons, List.mem_nil_iff, or_false] at hd
      rcases hd with rfl | rfl | rfl | rfl
      · exact l2
      · exact g 1
      · exact tsk (by rw [List.length_take, List.length_drop]; omega) fun z hz => List.mem_of_mem_drop (List.mem_of_mem_take hz)
      · refine okOf (by rw [List.length_map, List.length_drop]; omega) fun d hd => ?_
        obtain ⟨z, _, rfl⟩ := List.mem_map.mp hd
        exact okV z
    · rfl
  split
  · split
    · refine okOf (by simp) fun d hd => ?_
      simp only [List.mem_cons, List.mem_nil_iff, or_false] at hd
      rcases hd with rfl | rfl | rfl | rfl | rfl
      · exact l3
      · exact g 1
      · exact g 4
      · exact ok_mark (mem_getD9 h 5) (by rw [List.length_drop]; omega) fun z hz => h z (List.mem_of_mem_drop hz)
      · exact g 6
    · rfl
  split
  · split
    · refine okOf (by simp) fun d hd => ?_
      simp only [List.mem_cons, List.mem_nil_iff, or_false] at hd
      rcases hd with rfl | rfl | rfl | rfl | rfl | rfl | rfl
      · exact g 2
      · exact g 1
      · exact g 3
      · exact g 5
      · exact ok_mark (mem_getD9 h 6) (by rw [List.length_take, List.length_drop]; omega) fun z hz => h z (List.mem_of_mem_drop (List.mem_of_mem_take hz))
      · exact g 7
      · exact okLast _
    · rfl
  · rfl
theorem cut8 (x own kd y r0 r1 r2 r3 : Str) (m : List Str) : cutV ((x :: own :: kd :: y :: r0 :: r1 :: r2 :: r3 :: m).map V.str) (some (((5 : Nat) : Int) + 3)) (some (-2)) = (m.take (m.length + 8 - 10)).map V.str := by
  unfold cutV
  have e1 : ∀ n, HT.sIx n 0 (some (((5 : Nat) : Int) + 3)) = min 8 n := fun n => rfl
  have e2 : ∀ n : Nat, HT.sIx n n (some (-2)) = n - 2 := fun n => by
    show (if (-2 : Int) < 0 then ((-2 : Int) + (n : Int)).toNat else min (-2 : Int).toNat n) = _
    rw [if_pos (by decide)]
    omega
  rw [e1, e2]
  have l : ((x :: own :: kd :: y :: r0 :: r1 :: r2 :: r3 :: m).map V.str).length = m.length + 8 := by rw [List.length_map]; rfl
  rw [l, Nat.min_eq_left (by omega), List.map_take]
  show (m.map V.str).take _ = _
  congr 1
section
variable {P : Program} {w : World} {K : PySem.W.Frag} {mg : Str → Option Value} {base : Heap}
theorem ok__law_read_row (T : Txt w K mg) : FnOk P w K mg base CX0 7 T.a__law_read_row T.d__law_read_row ["thing"] (fun vs H Q _ => ∃ z, vs = [.str z] ∧ z.length ≤ 99999 ∧ ∀ u H', Same H H' → Dp K H' u (lineZ z) → Q u H') := by
  refine T.F__law_read_row.ok sc__law_read_row (fun vs H Q E h => ?_) (fun cdv A outer s H vs Q E hr h => ?_)
  · obtain ⟨z, rfl, _⟩ := h
    rfl
  · obtain ⟨z, rfl, hz, k⟩ := h
    have hr__law_read_pair : Room 3 _ := hr.mono (by decide)
    have G__law_read_pair := ok__law_read_pair (P := P) (base := base) T
    have hr__law_read_short : Room 2 _ := hr.mono (by decide)
    have G__law_read_short := ok__law_read_short (P := P) (base := base) T
    have hr__law_read_last : Room 1 _ := hr.mono (by decide)
    have G__law_read_last := ok__law_read_last (P := P) (base := base) T
    have hr__law_is_row : Room 6 _ := hr
    have G__law_is_row := ok__law_is_row (P := P) (base := base) T
    have hr__law_written : Room 2 _ := hr.mono (by decide)
    have G__law_written := ok__law_written (P := P) (base := base) T
    refine ⟨_, (pss_cons (ps_set (i := 1) sc__law_read_row.nd rfl (Or.inl rfl) (pe_split (pv 0) pe_str))
      (pss_cons (ps_if (pt_cmpR op_lt (pe_callB call_len_seq (by rfl) T.n_len (by decide +kernel) (pa_cons (pv 1) pa_nil)) pe_int (nomark _)) (pss_one (ps_ret pe_non)) pss_nil)
      (pss_cons (ps_par3 (i := 2) (j := 3) (l := 4) (by rfl) sc__law_read_row.nd rfl rfl rfl (by decide) (by decide) (by decide) rfl rfl rfl (pa_cons pe_non (pa_cons (pe_ix ix_list (pv 1) pe_int (fun _ _ => rfl)) (pa_cons (pe_ix ix_list (pv 1) pe_int (fun _ _ => rfl)) pa_nil))) (by rfl))
      (pss_cons (ps_if (pt_cmpR op_eqS (pv 4) pe_str (nomark _)) (pss_one (ps_set (i := 2) sc__law_read_row.nd rfl (Or.inl rfl) (pe_tupU (pa_cons pe_str (pa_cons (pv 3) (pa_cons (pe_callTy call_tupleN (by rfl) T.n_tuple (by decide +kernel) (pa_cons (pe_slice sl_listU (pv 1) (po_some pe_int) po_none) pa_nil)) pa_nil)))))) pss_nil)
      (pss_cons (ps_if (PW.pt (pw_and (pt_cmpR op_eqS (pv 4) pe_str (nomark _)) (pw_and1 (pt_cmpR op_in_seq pe_str (pv 1) (by rfl))))) (pss_cons (ps_set (i := 5) sc__law_read_row.nd rfl (Or.inl rfl) (pe_bm PySem.F.plainAttrs_list PySem.F.slot_list_index PySem.F.type_list_index mt_index (pv 1) (pa_cons pe_str pa_nil)))
      (pss_one (ps_set (i := 2) sc__law_read_row.nd rfl (Or.inl rfl) (pe_tupU (pa_cons pe_str (pa_cons (pv 3) (pa_cons (pe_callTy call_tupleN (by rfl) T.n_tuple (by decide +kernel) (pa_cons (pe_slice sl_listU (pv 1) (po_some pe_int) (po_some (pv 5))) pa_nil)) (pa_cons (pe_callTy call_tupleN (by rfl) T.n_tuple (by decide +kernel) (pa_cons (pe_lc (own := [("one", 9)]) (g := gName 9) (tt := tYes) rfl sc__law_read_row.nd (pi_list (pe_slice sl_listU (pv 1) (po_some (pe_op op_add (pv 5) pe_int)) po_none)) (blkOk_by (own := [("one", 9)]) (N := N__law_read_row) (sc := defScope s__law_read_row) (by decide +kernel)) (fun _ _ _ _ _ => pg_name (i := 9) sc__law_read_row.nd rfl (Or.inl rfl)) (fun _ _ _ _ _ => pts_nil) (fun _ _ _ _ _ => (pe_call G__law_read_short hr__law_read_short (by rfl) T.m__law_read_short T.F__law_read_short.kp T.B__law_read_short .nil pass0 (pa_cons (pv 9) pa_nil)))) pa_nil)) pa_nil)))))))) pss_nil)
      (pss_cons (ps_set (i := 6) sc__law_read_row.nd rfl (Or.inl rfl) (pe_ifExp (pt_cmpR op_eqS (pv 4) pe_str (nomark _)) pe_int pe_int))
      (pss_cons (ps_if (PW.pt (pw_and (pt_cmpR op_in_seq (pv 4) (pe_lstU (pa_cons pe_str (pa_cons pe_str (pa_cons pe_str (pa_cons pe_str pa_nil))))) (by rfl)) (pw_and1 (pt_cmpR op_gt (pe_callB call_len_seq (by rfl) T.n_len (by decide +kernel) (pa_cons (pv 1) pa_nil)) (pe_op op_add (pv 6) pe_int) (nomark _))))) (pss_cons (ps_set (i := 7) sc__law_read_row.nd rfl (Or.inl rfl) (pe_ifExp (pt_cmpR op_eqS (pv 4) pe_str (nomark _)) (pe_slice sl_listU (pv 1) (po_some (pe_op op_add (pv 6) pe_int)) po_none) (pe_slice sl_listU (pv 1) (po_some (pe_op op_add (pv 6) pe_int)) (po_some (pe_un un_neg pe_int)))))
      (pss_cons (ps_set (i := 8) sc__law_read_row.nd rfl (Or.inl rfl) (pe_ix ix_list (pv 1) (pe_op op_add (pv 6) pe_int) (fun _ _ => rfl)))
      (pss_cons (ps_if (pt_cmpR op_eqS (pv 8) pe_str (nomark _)) (pss_one (ps_set (i := 8) sc__law_read_row.nd rfl (Or.inl rfl) (pe_callTy call_tupleN (by rfl) T.n_tuple (by decide +kernel) (pa_cons (pe_lc (own := [("one", 9)]) (g := gName 9) (tt := tYes) rfl sc__law_read_row.nd (pi_list (pv 7)) (blkOk_by (own := [("one", 9)]) (N := N__law_read_row) (sc := defScope s__law_read_row) (by decide +kernel)) (fun _ _ _ _ _ => pg_name (i := 9) sc__law_read_row.nd rfl (Or.inl rfl)) (fun _ _ _ _ _ => pts_nil) (fun _ _ _ _ _ => (pe_call G__law_read_pair hr__law_read_pair (by rfl) T.m__law_read_pair T.F__law_read_pair.kp T.B__law_read_pair .nil pass0 (pa_cons (pv 9) pa_nil)))) pa_nil)))) pss_nil)
      (pss_cons (ps_set (i := 2) sc__law_read_row.nd rfl (Or.inl rfl) (pe_tupU (pa_cons (pv 4) (pa_cons (pv 3) (pa_cons (pe_ix ix_list (pv 1) (pv 6) (fun _ _ => rfl)) (pa_cons (pv 8) (pa_cons (pe_ix ix_list (pv 1) (pe_op op_add (pv 6) pe_int) (fun _ _ => rfl)) pa_nil)))))))
      (pss_one (ps_if (pt_cmpR op_neS (pv 4) pe_str (nomark _)) (pss_one (ps_set (i := 2) sc__law_read_row.nd rfl (Or.inl rfl) (pe_tupU (pa_cons (pv 4) (pa_cons (pv 3) (pa_cons (pe_ix ix_list (pv 1) pe_int (fun _ _ => rfl)) (pa_cons (pe_ix ix_list (pv 1) (pv 6) (fun _ _ => rfl)) (pa_cons (pv 8) (pa_cons (pe_ix ix_list (pv 1) (pe_op op_add (pv 6) pe_int) (fun _ _ => rfl)) (pa_cons (pe_call G__law_read_last hr__law_read_last (by rfl) T.m__law_read_last T.F__law_read_last.kp T.B__law_read_last .nil pass0 (pa_cons (pe_ix ix_list (pv 1) (pe_un un_neg pe_int) (fun _ _ => rfl)) pa_nil)) pa_nil)))))))))) pss_nil)))))) pss_nil)
      (pss_cons (ps_if (PW.pt (pw_or (pt_cmpR op_isN (pv 2) pe_non (nomark _)) (pw_or (pt_not (pt_val (pe_call G__law_is_row hr__law_is_row (by rfl) T.m__law_is_row T.F__law_is_row.kp T.B__law_is_row .nil pass0 (pa_cons (pv 2) pa_nil)))) (pw_or1 (pt_cmpR op_neS (pe_call G__law_written hr__law_written (by rfl) T.m__law_written T.F__law_written.kp T.B__law_written .nil pass0 (pa_cons (pv 2) pa_nil)) (pv 0) (nomark _)))))) (pss_one (ps_ret pe_non)) pss_nil)
      (pss_one (ps_ret (pv 2))))))))))), ?_⟩
    refine seq_op fun N hN => ?_
    walk_at "rs"
    obtain ⟨sl1, sl2⟩ := split_each z (y := " ") (by decide +kernel)
    refine ⟨⟨_, rfl⟩, by decide +kernel, Nat.le_trans (show z.length + 2 ≤ 100010 by omega) (by decide), fun l hl => hN _ _ ?_⟩
    clear hN N
    have s1 : Same H (L2.upd H l (.lst ((Txt.split z " ").map V.str))) := same_upd hl
    have h1 : SqL K (L2.upd H l (.lst ((Txt.split z " ").map V.str))) l ((Txt.split z " ").map V.str) := SqL.of upd_same
    change tSeq _ _ _ _ (L2.upd H l (.lst ((Txt.split z " ").map V.str)))
    rw [← lineZ_eq] at k
    generalize Txt.split z " " = W at h1 s1 k sl1 sl2 ⊢
    generalize L2.upd H l (.lst (W.map V.str)) = H1 at h1 s1 ⊢
    replace k := fun u H' (s' : Same H1 H') => k u H' (Same.trans s1 s')
    clear s1
    refine seq_op fun N hN => ?_
    walk_at "rs"
    refine ⟨_, .inl h1, ite2 (fun e => ?_) (fun e => hN _ _ ?_)⟩
    · refine k _ H1 (Same.refl _) ?_
      have e2 : rd2 W = .none := by
        unfold rd2
        rw [List.length_map] at e
        rw [if_pos (by omega)]
      rw [e2]
      exact .non
    clear hN N
    rw [List.length_map] at e
    obtain ⟨x, own, kd, y, r, rfl⟩ : ∃ x own kd y r, W = x :: own :: kd :: y :: r := by
      match W, e with
      | x :: own :: kd :: y :: r, _ => exact ⟨x, own, kd, y, r, rfl⟩
      | [], e => exact absurd (by decide) e
      | [_], e => exact absurd (show ((1 : Nat) : Int) < 4 by decide) e
      | [_, _], e => exact absurd (show ((2 : Nat) : Int) < 4 by decide) e
      | [_, _, _], e => exact absurd (show ((3 : Nat) : Int) < 4 by decide) e
    generalize hA : PyData.tuple [.str "be", .str own, tS (y :: r)] = dA
    generalize hB : (if (":" : Str) ∈ x :: own :: kd :: y :: r then PyData.tuple [.str "table", .str own, tS ((y :: r).take (ixS ":" (x :: own :: kd :: y :: r) - 3)), .tuple (((x :: own :: kd :: y :: r).drop (ixS ":" (x :: own :: kd :: y :: r) + 1)).map vZ)] else .none) = dB
    have okW : ∀ u ∈ x :: own :: kd :: y :: r, u.length ≤ 99999 := fun u hu => by have := sl2 u hu; omega
    have lenW : (x :: own :: kd :: y :: r).length ≤ 100000 := by omega
    refine seq_op fun N hN => ?_
    walk_at "rs"
    refine ⟨_, h1, _, at_ofN (j := 1) rfl rfl, _, h1, _, at_ofN (j := 2) rfl rfl, ?_⟩
    refine ⟨_, _, _, ⟨rfl, rfl, rfl⟩, hN _ _ ?_⟩
    clear hN N
    refine seq_op fun N hN => ?_
    walk_at "rs"
    have go4 : ∀ v H2, Same H1 H2 → Dp K H2 v (if kd = "be" then dA else .none) → N [some (V.str z), some (V.ref l), some v, some (V.str own), some (V.str kd), none, none, none, none, none] H2 := by
      intro v H2 s2 hv
      refine hN _ _ ?_
      clear hN N
      replace h1 := Same.seq s2 h1
      refine seq_op fun N hN => ?_
      walk_at "rs"
      have go5 : ∀ v c5 H3, Same H2 H3 → Dp K H3 v (if kd = "be" then dA else if kd = "table" then dB else .none) → N [some (V.str z), some (V.ref l), some v, some (V.str own), some (V.str kd), c5, none, none, none, none] H3 := by
        intro v c5 H3 s3 hv
        refine hN _ _ ?_
        clear hN N
        replace h1 := Same.seq s3 h1
        refine seq_op fun N hN => ?_
        walk_at "rs"
        have go6 : ∀ sk : Nat, sk = (if kd = "count" then 4 else 5) → N [some (V.str z), some (V.ref l), some v, some (V.str own), some (V.str kd), c5, some (.int sk), none, none, none] H3 := by
          intro sk hsk
          refine hN _ _ ?_
          clear hN N
          refine seq_op fun N hN => ?_
          walk_at "rs"
          have go7 : ∀ v c7 c8 c9 H4, Same H3 H4 → Dp K H4 v (rd2 (x :: own :: kd :: y :: r)) → N [some (V.str z), some (V.ref l), some v, some (V.str own), some (V.str kd), c5, some (.int sk), c7, c8, c9] H4 := by
            intro v c7 c8 c9 H4 s4 hv
            refine hN _ _ ?_
            clear hN N
            refine seq_op fun N hN => ?_
            walk_at "rs"
            have kk := fun u H' (s' : Same H4 H') => k u H' (Same.trans s2 (Same.trans s3 (Same.trans s4 s')))
            have hokD := ok_rd2 lenW okW
            generalize rd2 (x :: own :: kd :: y :: r) = D at hv hokD kk
            unfold backD at kk
            refine ite2 (fun e => ?_) (fun e => ?_)
            · subst e
              obtain rfl : D = .none := by cases hv; rfl
              exact kk _ H4 (Same.refl _) .non
            refine ⟨v, D, rfl, hv, hokD, fun H5 s5 => ⟨isLineD D, rfl, ite2 (fun e => ?_) (fun e => ⟨D, dp_same s5 hv, hokD, by simpa using e, fun H6 s6 => ite2 (fun e2 => ?_) (fun e2 => hN _ _ ?_)⟩)⟩⟩
            · rw [if_neg (fun c => by rw [e] at c; exact absurd c.1 (by decide))] at kk
              exact kk _ H5 s5 .non
            · rw [if_neg (fun c => e2 c.2)] at kk
              exact kk _ H6 (Same.trans s5 s6) .non
            clear hN N
            rw [if_pos ⟨by simpa using e, Decidable.not_not.mp e2⟩] at kk
            walk_at "rs"
            exact kk _ H6 (Same.trans s5 s6) (dp_same (Same.trans s5 s6) hv)
          refine ⟨by decide, fun p H4 s4 n4 h4 => ⟨_, .inl (SqL.of h4), rfl, by decide +kernel, ite2 (fun e => ?_) (fun e => ?_)⟩⟩
          · have h1' := Same.seq s4 h1
            have km := four_in e
            refine ⟨_, .inl h1', ite2 (fun e2 => ?_) (fun e2 => ?_)⟩
            · rcases km with rfl | km
              · rw [if_pos rfl] at hsk
                subst hsk
                obtain ⟨r0, r1, r2, m, rfl⟩ : ∃ r0 r1 r2 m, r = r0 :: r1 :: r2 :: m := by
                  simp only [List.length_map, List.length_cons] at e2
                  match r, e2 with
                  | r0 :: r1 :: r2 :: m, _ => exact ⟨r0, r1, r2, m, rfl⟩
                  | [], e2 => exact absurd e2 (by decide)
                  | [_], e2 => exact absurd e2 (by simp)
                  | [_, _], e2 => exact absurd e2 (by simp)
                refine seq_op fun N2 hN2 => ?_
                walk_at "rs"
                refine ⟨_, h1', fun u H5 s5 n5 h5 => hN2 _ _ ?_⟩
                clear hN2 N2
                rw [show cutV ((x :: own :: "count" :: y :: r0 :: r1 :: r2 :: m).map V.str) (some (((4 : Nat) : Int) + 3)) none = m.map V.str from cutV_drop _ 7] at h5
                replace h1' := Same.seq s5 h1'
                refine seq_op fun N2 hN2 => ?_
                walk_at "rs"
                refine ⟨_, h1', _, at_ofN (j := 5) rfl rfl, hN2 _ _ ?_⟩
                clear hN2 N2
                refine seq_op fun N2 hN2 => ?_
                walk_at "rs"
                have go8 : ∀ v8 c9 H6, Same H5 H6 → Dp K H6 v8 (markD r1 m) → N2 [some (V.str z), some (V.ref l), some v, some (V.str own), some (V.str "count"), c5, some (.int ((4 : Nat) : Int)), some (V.ref u), some v8, c9] H6 := by
                  intro v8 c9 H6 s6 h8
                  refine hN2 _ _ ?_
                  clear hN2 N2
                  replace h1' := Same.seq s6 h1'
                  refine seq_op fun N2 hN2 => ?_
                  walk_at "rs"
                  refine ⟨_, h1', _, at_ofN (j := 4) rfl rfl, _, h1', _, at_ofN (j := 6) rfl rfl, by decide, fun q H7 s7 n7 h7 => hN2 _ _ ?_⟩
                  clear hN2 N2
                  walk_at "rs"
                  refine go7 _ _ _ _ H7 (Same.trans s4 (Same.trans s5 (Same.trans s6 s7))) ?_
                  rw [rd2_eq, if_neg cnt_be, if_neg cnt_tab, if_pos rfl, if_pos (by simp only [List.length_cons]; omega)]
                  exact .tup (SqT.of h7) (.cons (.str _) (.cons (.str _) (.cons (.str _) (.cons (dp_same s7 h8) (.cons (.str _) .nil)))))
                refine ite2 (fun e => ?_) (fun e => go8 _ _ H5 (Same.refl _) (by unfold markD; rw [if_neg e]; exact .str _))
                have hm5 : ∀ y ∈ m, y.length ≤ 99999 := fun y hy => okW y (by simp [hy])
                have l5 : (m).length ≤ 100000 := by
                  simp only [List.length_cons] at lenW; omega
                refine ⟨_, rfl, u, rfl, ⟨_, SqL.of h5⟩, fun D hD => lc_rd pr2 (SqL.of h5) hD (by omega) (fun b H6 hm s6 Q2 hq => ?_) (fun H6 ys s6 h6 hy => ?_)⟩
                · walk_at "rs"
                  exact ⟨by have := hm5 b hm; omega, hq⟩
                · refine ⟨D, rfl, _, SqL.of h6, fun q H7 s7 n7 h7 => go8 _ _ H7 (Same.trans s6 s7) ?_⟩
                  unfold markD
                  rw [if_pos e]
                  exact .tup (SqT.of h7) (dpa_same (Same.trans nw_in s7) hy)
              · obtain ⟨m1, m2, m3⟩ := not_kinds km
                rw [if_neg m3] at hsk
                subst hsk
                obtain ⟨r0, r1, r2, r3, m, rfl⟩ : ∃ r0 r1 r2 r3 m, r = r0 :: r1 :: r2 :: r3 :: m := by
                  simp only [List.length_map, List.length_cons] at e2
                  match r, e2 with
                  | r0 :: r1 :: r2 :: r3 :: m, _ => exact ⟨r0, r1, r2, r3, m, rfl⟩
                  | [], e2 => exact absurd e2 (by decide)
                  | [_], e2 => exact absurd e2 (by simp)
                  | [_, _], e2 => exact absurd e2 (by simp)
                  | [_, _, _], e2 => exact absurd e2 (by simp)
                refine seq_op fun N2 hN2 => ?_
                walk_at "rs"
                refine ite2 (fun e => absurd e m3) (fun _ => ⟨_, h1', fun u H5 s5 n5 h5 => hN2 _ _ ?_⟩)
                clear hN2 N2
                rw [cut8 x own kd y r0 r1 r2 r3 m] at h5
                replace h1' := Same.seq s5 h1'
                refine seq_op fun N2 hN2 => ?_
                walk_at "rs"
                refine ⟨_, h1', _, at_ofN (j := 6) rfl rfl, hN2 _ _ ?_⟩
                clear hN2 N2
                refine seq_op fun N2 hN2 => ?_
                walk_at "rs"
                have go8 : ∀ v8 c9 H6, Same H5 H6 → Dp K H6 v8 (markD r2 (m.take (m.length + 8 - 10))) → N2 [some (V.str z), some (V.ref l), some v, some (V.str own), some (V.str kd), c5, some (.int ((5 : Nat) : Int)), some (V.ref u), some v8, c9] H6 := by
                  intro v8 c9 H6 s6 h8
                  refine hN2 _ _ ?_
                  clear hN2 N2
                  replace h1' := Same.seq s6 h1'
                  refine seq_op fun N2 hN2 => ?_
                  walk_at "rs"
                  refine ⟨_, h1', _, at_ofN (j := 5) rfl rfl, _, h1', _, at_ofN (j := 7) rfl rfl, by decide, fun q H7 s7 n7 h7 => hN2 _ _ ?_⟩
                  clear hN2 N2
                  replace h1' := Same.seq s7 h1'
                  walk_at "rs"
                  refine ite2 (fun _ => ?_) (fun e => absurd m3 e)
                  obtain ⟨q0, z0, em⟩ := last_of y (r0 :: r1 :: r2 :: r3 :: m)
                  have ew : x :: own :: kd :: y :: r0 :: r1 :: r2 :: r3 :: m = (x :: own :: kd :: q0) ++ [z0] := by rw [em]; rfl
                  have eg : (x :: own :: kd :: y :: r0 :: r1 :: r2 :: r3 :: m).getD ((r0 :: r1 :: r2 :: r3 :: m).length + 3) "" = z0 := by
                    have e2 : (r0 :: r1 :: r2 :: r3 :: m).length + 3 = ((x :: own :: kd :: q0) ++ [z0]).length - 1 := by
                      have := congrArg List.length em
                      simp only [List.length_cons, List.length_append, List.length_nil] at this ⊢
                      omega
                    rw [ew, e2, last_get]
                  have ez : atI ((x :: own :: kd :: y :: r0 :: r1 :: r2 :: r3 :: m).map V.str) (-1) = some (.str z0) := by
                    rw [ew, List.map_append]
                    exact atI_last _ _
                  refine ⟨_, h1', _, at_ofN (j := 3) rfl rfl, _, h1', _, at_ofN (j := 5) rfl rfl, _, h1', _, at_ofN (j := 7) rfl rfl, _, h1', _, ez, z0, rfl, by have := okW z0 (by rw [ew]; simp); omega, fun v9 H8 s8 h9 => ⟨by decide, fun q2 H9 s9 n9 h9' => go7 _ _ _ _ H9 (Same.trans s4 (Same.trans s5 (Same.trans s6 (Same.trans s7 (Same.trans s8 s9))))) ?_⟩⟩
                  rw [rd2_eq, if_neg m1, if_neg m2, if_neg m3, if_pos km, if_pos (by simp only [List.length_cons]; omega), eg]
                  exact .tup (SqT.of h9') (.cons (.str _) (.cons (.str _) (.cons (.str _) (.cons (.str _) (.cons (dp_same (Same.trans s7 (Same.trans s8 s9)) h8) (.cons (.str _) (.cons (dp_same s9 h9) .nil)))))))
                refine ite2 (fun e => ?_) (fun e => go8 _ _ H5 (Same.refl _) (by unfold markD; rw [if_neg e]; exact .str _))
                have hm5 : ∀ y ∈ m.take (m.length + 8 - 10), y.length ≤ 99999 := fun y hy => okW y (by have := List.mem_of_mem_take hy; simp [this])
                have l5 : (m.take (m.length + 8 - 10)).length ≤ 100000 := by
                  simp only [List.length_cons] at lenW
                  rw [List.length_take]; omega
                refine ⟨_, rfl, u, rfl, ⟨_, SqL.of h5⟩, fun D hD => lc_rd pr2 (SqL.of h5) hD (by omega) (fun b H6 hm s6 Q2 hq => ?_) (fun H6 ys s6 h6 hy => ?_)⟩
                · walk_at "rs"
                  exact ⟨by have := hm5 b hm; omega, hq⟩
                · refine ⟨D, rfl, _, SqL.of h6, fun q H7 s7 n7 h7 => go8 _ _ H7 (Same.trans s6 s7) ?_⟩
                  unfold markD
                  rw [if_pos e]
                  exact .tup (SqT.of h7) (dpa_same (Same.trans nw_in s7) hy)
            · refine go7 v none none none H4 s4 ?_
              rw [rd2_eq]
              rw [List.length_map] at e2
              simp only [List.length_cons] at e2
              rcases km with rfl | km
              · rw [if_neg cnt_be, if_neg cnt_tab] at hv
                rw [if_neg cnt_be, if_neg cnt_tab, if_pos rfl, if_neg (by rw [if_pos rfl] at hsk; omega)]
                exact dp_same s4 hv
              · obtain ⟨m1, m2, m3⟩ := not_kinds km
                rw [if_neg m1, if_neg m2] at hv
                rw [if_neg m1, if_neg m2, if_neg m3, if_pos km, if_neg (by rw [if_neg m3] at hsk; omega)]
                exact dp_same s4 hv
          · refine go7 v none none none H4 s4 ?_
            rw [rd2_eq, hA, hB]
            have ne := four_not e
            rw [if_neg ne.1, if_neg ne.2]
            exact dp_same s4 hv
        exact ite2 (fun e => go6 4 (if_pos e).symm) (fun e => go6 5 (if_neg e).symm)
      refine ite2 (fun e => ?_) (fun e => go5 v none H2 (Same.refl _) (by rw [if_neg e]; exact hv))
      have cm : inV (.str ":") ((x :: own :: kd :: y :: r).map V.str) = decide ((":" : Str) ∈ x :: own :: kd :: y :: r) := inL _ _
      subst e
      rw [if_neg tab_be] at hv
      refine ⟨_, .inl h1, rfl, flat_strs _, ite2 (fun e => ?_) (fun e => ?_)⟩
      · rw [cm] at e
        have hm := of_decide_eq_true e
        rw [if_pos hm] at hB
        obtain ⟨i1, i2⟩ := ix_spec ":" _ hm
        have hj : ixS ":" (x :: own :: "table" :: y :: r) < (x :: own :: "table" :: y :: r).length := by
          have := (List.getElem?_eq_some_iff.mp i1).1
          rwa [List.length_map] at this
        generalize ixS ":" (x :: own :: "table" :: y :: r) = j at i1 i2 hj hB
        refine seq_op fun N2 hN2 => ?_
        walk_at "rs"
        refine ⟨.inl ⟨rfl, _, h1⟩, l, _, .str ":", j, _, rfl, rfl, h1, rfl, flat_strs _, i1, rfl, fun m z' hm hz' => i2 m z' hm hz', hN2 _ _ ?_⟩
        clear hN2 N2
        walk_at "rs"
        refine ⟨_, h1, fun p H3 s3 n3 h3 => ⟨_, SqL.of h3, fun q H4 s4 n4 h4 => ?_⟩⟩
        rw [show cutV ((x :: own :: "table" :: y :: r).map V.str) (some 3) (some ((j : Nat) : Int)) = ((y :: r).take (j - 3)).map V.str by rw [show (3 : Int) = ((3 : Nat) : Int) from rfl, cutV_any, List.map_take]; rfl] at h4
        have S := Same.trans s3 s4
        refine ⟨_, rfl, _, rfl, _, _, rfl, rfl, _, rfl, _, _, rfl, Same.seq S h1, fun p2 H5 s5 n5 h5 => ?_⟩
        rw [show cutV ((x :: own :: "table" :: y :: r).map V.str) (some (((j : Nat) : Int) + 1)) none = ((x :: own :: "table" :: y :: r).drop (j + 1)).map V.str by rw [show ((j : Nat) : Int) + 1 = ((j + 1 : Nat) : Int) from rfl, cutV_drop, List.map_drop]] at h5
        have ld : ((x :: own :: "table" :: y :: r).drop (j + 1)).length ≤ 100000 := by rw [List.length_drop]; omega
        refine ⟨p2, rfl, ⟨_, SqL.of h5⟩, fun D hD => lc_rd vZ (SqL.of h5) hD (by omega) (fun u H6 hm s6 Q2 hq => ?_) (fun H6 ys s6 h6 hy => ?_)⟩
        · walk_at "rs"
          exact ⟨by have := okW u (List.mem_of_mem_drop hm); omega, hq⟩
        · refine ⟨D, rfl, _, SqL.of h6, fun q2 H7 s7 n7 h7 => ⟨by decide, fun q3 H8 s8 n8 h8 => go5 _ _ H8 (Same.trans S (Same.trans s5 (Same.trans s6 (Same.trans s7 s8)))) ?_⟩⟩
          rw [if_neg tab_be, if_pos rfl, ← hB]
          refine .tup (SqT.of h8) (.cons (.str _) (.cons (.str _) (.cons (.tup (SqT.of (Same.trans s5 (Same.trans s6 (Same.trans s7 s8)) _ _ h4)) (strs_dpa _)) (.cons (.tup (SqT.of (s8 _ _ h7)) (dpa_same (Same.trans nw_in (Same.trans s7 s8)) hy)) .nil))))
      · rw [cm] at e
        refine go5 v none H2 (Same.refl _) ?_
        rw [if_neg tab_be, if_pos rfl, ← hB, if_neg (fun hm => e (decide_eq_true hm))]
        exact hv
    refine ite2 (fun e => ?_) (fun e => go4 _ H1 (Same.refl _) (by rw [if_neg e]; exact .non))
    subst e
    refine ⟨_, h1, fun p H2 s2 n2 h2 => ⟨_, SqL.of h2, fun q H3 s3 n3 h3 => ⟨by decide, fun p2 H4 s4 n4 h4 => go4 _ H4 (Same.trans s2 (Same.trans s3 s4)) ?_⟩⟩⟩
    rw [if_pos rfl, ← hA]
    rw [show cutV ((x :: own :: "be" :: y :: r).map V.str) (some 3) none = (y :: r).map V.str from cutV_drop _ 3] at h3
    exact .tup (SqT.of h4) (.cons (.str _) (.cons (.str _) (.cons (.tup (SqT.of (s4 _ _ h3)) (strs_dpa _)) .nil)))
end
end LK

set_option Elab.async false
set_option linter.all false
set_option maxRecDepth 100000
set_option pp.deepTerms true
set_option pp.maxSteps 20000
namespace LK
open PySem PySem.Spec PyProof.Rows L2
local macro_rules | `(tactic| walk_at "rs") => `(tactic| simp only [cxK, cxNK, tCallZ, tAsg, tOp, rI0, rS0, rB0, rI, rU, tUn, rEq, rNe, rIxL, rIxT, rIxS, rSetL, rSlLU, rSlS, rSlU, rCatL, rCatU, rRepL, rIn, tVar, tC, gName, gSub, tIfS, tTest, tB, tAnd, tOr, tNot, tNotV, tAndV, tOrV, tIf, tCall, tCons, tNil, tCB, tDrop, tRet, tRetN, tNext, tLstU, tTupU, tM0, tM1, tPar, tPar3, tAug, ipI, tBM, tBM0, rAppend, rPop, tBreak, tCont, tChain, tSl, tPart, tNoPart, L2.start, List.map, List.length_cons, List.length_nil, List.replicate, List.cons_append, List.nil_append, List.append_nil, List.getElem?_cons_zero, List.getElem?_cons_succ, List.set_cons_zero, List.set_cons_succ, Option.some.injEq, V.int.injEq, V.ref.injEq, V.str.injEq, V.bl.injEq, exists_eq_left', exists_eq_left, exists_and_left, decide_eq_true_eq, List.cons.injEq, and_true, true_and, scal, Bool.not_eq_true', decide_eq_false_iff_not, Nat.zero_add, Nat.reduceAdd, Nat.reduceSub, reduceCtorEq, false_and, exists_false, false_or, or_false, CPow, CMul, CDiv, Int.reduceToNat, ↓reduceIte, wipe, sw, List.nil_append, List.singleton_append])
local macro_rules | `(tactic| walk_at "st") => `(tactic| (refine seq_op fun N hN => ?_; walk_at "rs"))
local macro_rules | `(tactic| walk_at "sd") => `(tactic| first | assumption | decide | omega)
local macro_rules | `(tactic| walk_at "rd") => `(tactic| repeat (first
  | refine ⟨_, SqL.of (by assumption), ?_⟩ | refine ⟨_, SqL.of upd_same, ?_⟩ | refine ⟨_, .inl (SqL.of (by assumption)), ?_⟩ | refine ⟨_, (by assumption : _ = some (HO.lst _)), ?_⟩ | refine ⟨_, upd_same, ?_⟩
  | refine ⟨_, rfl, ?_⟩ | refine And.intro (by walk_at "sd") ?_))

theorem op_notIn_seqK {X : Cx} {K : PySem.W.Frag} (hK : X.K = K) : OpR X (compareOp .NotIn) (rIn K true) := by subst hK; exact op_notIn_seq
/-! ### the names within an expression -/
def nm (z : Str) : Bool := isNameD (.str z)
theorem ops_named : ∀ z ∈ ops2L ++ ops1L, (Txt.islower (cutS z none (some 1)) && !inV (.str z) [.str "min", .str "max", .str "mod", .str "div", .str "and", .str "or", .str "not", .str "if"]) = false ∧ isNameD (.str z) = false := by decide +kernel
theorem nine_named : ∀ z ∈ nineL, (Txt.islower (cutS z none (some 1)) && !inV (.str z) [.str "min", .str "max", .str "mod", .str "div", .str "and", .str "or", .str "not", .str "if"]) = false ∧ isNameD (.str z) = false := by decide +kernel
theorem low_lets : ∀ c ∈ LETs.cps.toList, Txt.islower ⟨#[c]⟩ = true := by decide +kernel
def eightL : List Str := ["min", "max", "mod", "div", "and", "or", "not", "if"]
theorem eight_kept : ∀ z ∈ eightL, z ∈ keptL ∧ z ∉ (["sign", "place"] : List Str) := by decide +kernel
theorem name_eight {z : Str} (h : isNameD (.str z) = true) : z ∉ eightL := fun c => by
  obtain ⟨a, b⟩ := eight_kept z c
  have h : (isOwnD (.str z) || inV (.str z) ((["sign", "place"] : List Str).map V.str)) = true := h
  rw [Bool.or_eq_true] at h
  rcases h with h | h
  · exact (own_word h).2 a
  · rw [inL] at h
    exact b (of_decide_eq_true h)
theorem name_low {z : Str} (h : isNameD (.str z) = true) : Txt.islower (cutS z none (some 1)) = true := by
  have w := name_word h
  unfold isWordS at w
  split at w
  · cases w
  · rename_i c r e
    rw [Bool.and_eq_true, Bool.and_eq_true] at w
    have e2 : cutS z none (some 1) = ⟨#[c]⟩ := str_ext (by rw [cut1, e]; rfl)
    rw [e2]
    exact low_lets c (of_decide_eq_true w.2.1)
theorem w_named {z : Str} (h : 0 ≤ needsZ z) : (Txt.islower (cutS z none (some 1)) && !inV (.str z) [.str "min", .str "max", .str "mod", .str "div", .str "and", .str "or", .str "not", .str "if"]) = nm z := by
  have of_name : isNameD (.str z) = true → (Txt.islower (cutS z none (some 1)) && !inV (.str z) (eightL.map V.str)) = nm z := fun hn => by
    rw [inL, decide_eq_false (name_eight hn), name_low hn]
    exact hn.symm
  unfold needsZ at h
  split at h
  · rename_i e
    rw [inL] at e
    obtain ⟨a, b⟩ := ops_named z (List.mem_append_left _ (of_decide_eq_true e))
    rw [a]; exact b.symm
  · split at h
    · rename_i e
      rw [inL] at e
      obtain ⟨a, b⟩ := ops_named z (List.mem_append_right _ (of_decide_eq_true e))
      rw [a]; exact b.symm
    · split at h
      · rename_i e
        rw [Bool.or_eq_true] at e
        rcases e with e | e
        · rw [nineV_eq, inL] at e
          obtain ⟨a, b⟩ := nine_named z (of_decide_eq_true e)
          rw [a]; exact b.symm
        · exact of_name e
      · omega
def addS (acc : List Str) (z : Str) : List Str := if z ∈ acc then acc else acc ++ [z]
def onceS (l : List Str) : List Str := l.foldl addS []
def namesOf (ws : List Str) : List Str := onceS (ws.filter nm)
theorem namesOf_snoc (l : List Str) (z : Str) : namesOf (l ++ [z]) = if nm z = true then addS (namesOf l) z else namesOf l := by
  unfold namesOf onceS
  rw [List.filter_append]
  by_cases h : nm z = true
  · rw [if_pos h, List.filter_cons_of_pos h, List.filter_nil, List.foldl_append]; rfl
  · rw [if_neg h, List.filter_cons_of_neg h, List.filter_nil, List.append_nil]
theorem mem_addS {x z : Str} {acc : List Str} : x ∈ addS acc z ↔ x ∈ acc ∨ x = z := by
  unfold addS
  split
  · rename_i h
    exact ⟨.inl, fun q => by rcases q with q | rfl; exact q; exact h⟩
  · simp
theorem mem_foldS {x : Str} : ∀ {l acc : List Str}, x ∈ l.foldl addS acc ↔ x ∈ acc ∨ x ∈ l
  | [], acc => by simp
  | a :: l, acc => by
    rw [List.foldl_cons, mem_foldS, mem_addS]
    simp [or_assoc]
theorem mem_names {ws : List Str} {x : Str} : x ∈ namesOf ws ↔ x ∈ ws ∧ nm x = true := by
  unfold namesOf onceS
  rw [mem_foldS]
  simp
theorem len_addS (acc : List Str) (z : Str) : (addS acc z).length ≤ acc.length + 1 := by
  unfold addS; split <;> simp
theorem len_foldS : ∀ (l acc : List Str), (l.foldl addS acc).length ≤ acc.length + l.length
  | [], acc => by simp
  | a :: l, acc => by
    rw [List.foldl_cons, List.length_cons]
    have h1 := len_foldS l (addS acc a)
    have h2 := len_addS acc a
    omega
theorem len_names (ws : List Str) : (namesOf ws).length ≤ ws.length := by
  have h1 := len_foldS (ws.filter nm) []
  have h2 := List.length_filter_le nm ws
  unfold namesOf onceS
  simp at h1 ⊢
  omega
def mkT (z : Str) : Key × V := (.inr z, .bl true)
theorem putT (l : List Str) (z : Str) : putK (l.map mkT) (.inr z) (.bl true) = (addS l z).map mkT := by
  unfold addS
  by_cases h : z ∈ l
  · rw [if_pos h]
    unfold putK
    rw [if_pos (List.any_eq_true.mpr ⟨mkT z, List.mem_map.mpr ⟨z, h, rfl⟩, decide_eq_true rfl⟩), List.map_map]
    refine List.map_congr_left fun a _ => ?_
    show (if (Sum.inr a : Key) = Sum.inr z then _ else _) = _
    split
    · rename_i e; cases e; rfl
    · rfl
  · rw [if_neg h]
    unfold putK
    rw [if_neg, List.map_append]
    · rfl
    · intro q
      obtain ⟨p, h1, h2⟩ := List.any_eq_true.mp q
      obtain ⟨a, h3, rfl⟩ := List.mem_map.mp h1
      have e : (Sum.inr a : Key) = Sum.inr z := of_decide_eq_true h2
      cases e
      exact h h3
section
variable {P : Program} {w : World} {K : PySem.W.Frag} {mg : Str → Option Value} {base : Heap}
def sp_names_in (K : PySem.W.Frag) : Sp := fun vs H Q _ => ∃ (a : Addr) (ws : List Str), vs = [.ref a] ∧ SqT K H a (ws.map V.str) ∧ (∀ z ∈ ws, 0 ≤ needsZ z) ∧ ws.length ≤ 30 ∧ ∀ t H', Same H H' → H t = none → H' t = some (.tup ((namesOf ws).map V.str)) → Q (.ref t) H'
theorem ok_names_in (T : Txt w K mg) : FnOk P w K mg base CX0 4 T.a_names_in T.d_names_in ["words"] (sp_names_in K) := by
  refine T.F_names_in.ok sc_names_in (fun vs H Q E h => ?_) (fun cdv A outer s H vs Q E hr h => ?_)
  · obtain ⟨a, ws, rfl, _⟩ := h
    rfl
  · obtain ⟨a, ws, rfl, ha, hw, hl, k⟩ := h
    have hr_is_name : Room 3 _ := hr.mono (by decide)
    have G_is_name := ok_is_name (P := P) (base := base) T
    refine ⟨_, (pss_one (ps_ret (pe_callTy (call_tupleD rfl) (by rfl) T.n_tuple (by decide +kernel) (pa_cons (pe_dc (own := [("word", 1)]) (g := gName 1) (tt := _) rfl sc_names_in.nd (pi_tup (pv 0)) (blkOk_by (own := [("word", 1)]) (N := N_names_in) (sc := defScope s_names_in) (by decide +kernel)) (fun _ _ _ _ _ => pg_name (i := 1) sc_names_in.nd rfl (Or.inl rfl)) (fun _ _ _ _ _ => pts_one (pt_val (pe_call G_is_name hr_is_name (by rfl) T.m_is_name T.F_is_name.kp T.B_is_name .nil pass0 (pa_cons (pv 1) pa_nil)))) (fun _ _ _ _ _ => (pv 1)) (fun _ _ _ _ _ => pe_bl)) pa_nil)))), ?_⟩
    walk_at "rs"
    refine ⟨_, rfl, a, rfl, ⟨_, ha⟩, fun D hD => dc_tup (K := K) (a := a) (xs := ws.map V.str) (fun i G => G D = some (.dK ((namesOf (ws.take i)).map mkT)) ∧ Same H G) ⟨by rw [upd_same]; rfl, same_upd hD⟩ (fun i G _ h => Same.seqT h.2 ha) ?_ ?_⟩
    · rintro i x G hi ⟨h1, h2⟩
      rw [List.getElem?_map] at hi
      obtain ⟨z, hz, rfl⟩ := Option.map_eq_some_iff.mp hi
      have hzm : z ∈ ws := List.mem_of_getElem? hz
      have hil : i < ws.length := (List.getElem?_eq_some_iff.mp hz).1
      have et : ws.take (i + 1) = ws.take i ++ [z] := by rw [List.take_succ, hz]; rfl
      have en := namesOf_snoc (ws.take i) z
      rw [← et] at en
      walk_at "rs"
      refine ⟨.str z, .str z, rfl, .str z, decide_eq_true (Nat.le_trans (needs_ok (hw z hzm)).len (by decide)), fun H1 s1 => ⟨_, rfl, ite2 (fun c => ?_) (fun c => ?_)⟩⟩
      · replace c : nm z = true := c
        rw [if_pos c] at en
        have hlen : ((namesOf (ws.take i)).map mkT).length < 1000 := by
          rw [List.length_map]
          have h3 := len_names (ws.take i)
          rw [List.length_take] at h3
          omega
        refine ⟨_, .inr z, rfl, s1 _ _ h1, Nat.lt_of_lt_of_le hlen (by decide), ?_, fun b o e => ?_⟩
        · rw [upd_same, putT, en]
        · rw [upd_ne (ne_of_none e hD)]
          exact s1 _ _ (h2 b o e)
      · replace c : ¬ nm z = true := c
        rw [if_neg c] at en
        exact ⟨by rw [en]; exact s1 _ _ h1, Same.trans h2 s1⟩
    · rintro G ⟨h1, h2⟩
      have e : ws.take (ws.map V.str).length = ws := by rw [List.length_map]; exact List.take_length
      rw [e] at h1
      refine ⟨D, rfl, _, .inl h1, fun p H' s2 h3 h4 => k p H' (Same.trans h2 s2) (Same.dom h2 p h3) ?_⟩
      rw [h4, List.map_map]
      rfl
theorem ok__law_once (T : Txt w K mg) : FnOk P w K mg base CX0 1 T.a__law_once T.d__law_once ["things"] (fun vs H Q _ => ∃ (a : Addr) (ws : List Str), vs = [.ref a] ∧ (SqL K H a (ws.map V.str) ∨ SqT K H a (ws.map V.str)) ∧ ws.length ≤ 30 ∧ ∀ t H', Same H H' → H t = none → H' t = some (.lst ((onceS ws).map V.str)) → Q (.ref t) H') := by
  refine T.F__law_once.ok sc__law_once (fun vs H Q E h => ?_) (fun cdv A outer s H vs Q E hr h => ?_)
  · obtain ⟨a, ws, rfl, _⟩ := h
    rfl
  · obtain ⟨a, ws, rfl, ha, hl, k⟩ := h
    refine ⟨_, (pss_cons (ps_set (i := 1) sc__law_once.nd rfl (Or.inl rfl) (pe_lstU pa_nil))
      (pss_cons (ps_for PassesOwn.never rfl (pi_lt (pv 0)) (pg_name (i := 2) sc__law_once.nd rfl (Or.inl rfl)) (pss_one (ps_if (pt_cmpR op_notIn_seq (pv 2) (pv 1) (by rfl)) (pss_one (ps_expr (pe_bm PySem.F.plainAttrs_list PySem.F.slot_list_append PySem.F.type_list_append mt_append (pv 1) (pa_cons (pv 2) pa_nil)))) pss_nil)))
      (pss_one (ps_ret (pv 1))))), ?_⟩
    refine seq_op fun N hN => ?_
    walk_at "rs"
    refine ⟨by decide, fun p H1 s1 h0 h1 => hN _ _ ?_⟩
    clear hN N
    refine cut_seq (fun σ G => ∃ x, σ = [some (.ref a), some (.ref p), x] ∧ Same H G ∧ G p = some (.lst ((onceS ws).map V.str))) (fun N hN => ?_) ?_
    · rcases ha with ha | ha
      · refine .inl ⟨_, rfl, a, rfl, ⟨_, Same.seq s1 ha⟩, for_list (K := K) (a := a) (xs := ws.map V.str) (fun i σ G => ∃ x, σ = [some (.ref a), some (.ref p), x] ∧ Same H G ∧ G p = some (.lst ((onceS (ws.take i)).map V.str))) ⟨none, rfl, s1, h1⟩ (fun i σ G _ ⟨_, _, sg, _⟩ => Same.seq sg ha) ?_ ?_⟩
        · rintro i y σ G hy ⟨x, rfl, sg, gp⟩
          rw [List.getElem?_map] at hy
          obtain ⟨z, hz, rfl⟩ := Option.map_eq_some_iff.mp hy
          have et : ws.take (i + 1) = ws.take i ++ [z] := by rw [List.take_succ, hz]; rfl
          have en : onceS (ws.take (i + 1)) = addS (onceS (ws.take i)) z := by
            rw [et]; unfold onceS; rw [List.foldl_append]; rfl
          have hl2 : (onceS (ws.take i)).length ≤ 30 := by
            have h3 := len_foldS (ws.take i) []
            rw [List.length_take] at h3
            unfold onceS
            simp at h3 ⊢
            omega
          walk_at "rs"
          refine ⟨_, .inl (.inl (.inl gp)), rfl, flat_strs _, ?_⟩
          rw [inL]
          refine ite2 (fun c => ?_) (fun c => ?_)
          · have c' : z ∉ onceS (ws.take i) := of_decide_eq_false c
            refine ⟨.inl ⟨rfl, _, .inl (.inl gp)⟩, _, gp, ?_, fun b o e => by rw [upd_ne (ne_of_none e h0)]; exact sg b o e, ?_⟩
            · rw [List.length_map]; exact Nat.lt_of_le_of_lt hl2 (by decide)
            · rw [upd_same, en, addS, if_neg c', List.map_append]; rfl
          · have c' : z ∈ onceS (ws.take i) := by
              simpa using c
            exact ⟨sg, by rw [en, addS, if_pos c']; exact gp⟩
        · rintro σ G ⟨x, rfl, sg, gp⟩
          rw [List.length_map, List.take_length] at gp
          exact hN _ _ ⟨x, rfl, sg, gp⟩
      · refine .inr ⟨_, rfl, a, rfl, ⟨_, Same.seqT s1 ha⟩, for_tup (K := K) (a := a) (xs := ws.map V.str) (fun i σ G => ∃ x, σ = [some (.ref a), some (.ref p), x] ∧ Same H G ∧ G p = some (.lst ((onceS (ws.take i)).map V.str))) ⟨none, rfl, s1, h1⟩ (fun i σ G _ ⟨_, _, sg, _⟩ => Same.seqT sg ha) ?_ ?_⟩
        · rintro i y σ G hy ⟨x, rfl, sg, gp⟩
          rw [List.getElem?_map] at hy
          obtain ⟨z, hz, rfl⟩ := Option.map_eq_some_iff.mp hy
          have et : ws.take (i + 1) = ws.take i ++ [z] := by rw [List.take_succ, hz]; rfl
          have en : onceS (ws.take (i + 1)) = addS (onceS (ws.take i)) z := by
            rw [et]; unfold onceS; rw [List.foldl_append]; rfl
          have hl2 : (onceS (ws.take i)).length ≤ 30 := by
            have h3 := len_foldS (ws.take i) []
            rw [List.length_take] at h3
            unfold onceS
            simp at h3 ⊢
            omega
          walk_at "rs"
          refine ⟨_, .inl (.inl (.inl gp)), rfl, flat_strs _, ?_⟩
          rw [inL]
          refine ite2 (fun c => ?_) (fun c => ?_)
          · have c' : z ∉ onceS (ws.take i) := of_decide_eq_false c
            refine ⟨.inl ⟨rfl, _, .inl (.inl gp)⟩, _, gp, ?_, fun b o e => by rw [upd_ne (ne_of_none e h0)]; exact sg b o e, ?_⟩
            · rw [List.length_map]; exact Nat.lt_of_le_of_lt hl2 (by decide)
            · rw [upd_same, en, addS, if_neg c', List.map_append]; rfl
          · have c' : z ∈ onceS (ws.take i) := by
              simpa using c
            exact ⟨sg, by rw [en, addS, if_pos c']; exact gp⟩
        · rintro σ G ⟨x, rfl, sg, gp⟩
          rw [List.length_map, List.take_length] at gp
          exact hN _ _ ⟨x, rfl, sg, gp⟩
    · rintro σ G ⟨x, rfl, s2, h2⟩
      walk_at "rs"
      exact k p G s2 h0 h2
theorem ok__law_named (T : Txt w K mg) : FnOk P w K mg base CX0 2 T.a__law_named T.d__law_named ["prefix"] (fun vs H Q _ => ∃ (a : Addr) (ws : List Str), vs = [.ref a] ∧ SqT K H a (ws.map V.str) ∧ (∀ z ∈ ws, 0 ≤ needsZ z) ∧ ws.length ≤ 30 ∧ ∀ t H', Same H H' → H t = none → H' t = some (.lst ((namesOf ws).map V.str)) → Q (.ref t) H') := by
  refine T.F__law_named.ok sc__law_named (fun vs H Q E h => ?_) (fun cdv A outer s H vs Q E hr h => ?_)
  · obtain ⟨a, ws, rfl, _⟩ := h
    rfl
  · obtain ⟨a, ws, rfl, ha, hw, hl, k⟩ := h
    have hr__law_once : Room 1 _ := hr.mono (by decide)
    have G__law_once := ok__law_once (P := P) (base := base) T
    refine ⟨_, (pss_cons (ps_set (i := 1) sc__law_named.nd rfl (Or.inr rfl) (pe_lstU (pa_cons pe_str (pa_cons pe_str (pa_cons pe_str (pa_cons pe_str (pa_cons pe_str (pa_cons pe_str (pa_cons pe_str (pa_cons pe_str pa_nil))))))))))
      (pss_one (ps_ret (pe_call G__law_once hr__law_once (by rfl) T.m__law_once T.F__law_once.kp T.B__law_once .nil pass0 (pa_cons (pe_lc (own := [("part", 2)]) (g := gName 2) (tt := _) rfl sc__law_named.nd (pi_tup (pv 0)) (blkOk_by (own := [("part", 2)]) (N := N__law_named) (sc := defScope s__law_named) (by decide +kernel)) (fun _ _ _ _ _ => pg_name (i := 2) sc__law_named.nd rfl (Or.inl rfl)) (fun _ _ _ _ _ => pts_one (PW.pt (pw_and (pt_val (pe_m0 PySem.F.slot_str_islower PySem.F.type_str_islower mt_islower (pe_slice sl_str (pv 2) po_none (po_some pe_int)))) (pw_and1 (pt_cmpR (op_notIn_seqK (K := K) rfl) (pv 2) (pv 1) (by rfl)))))) (fun _ _ _ _ _ => (pv 2))) pa_nil))))), ?_⟩
    refine seq_op fun N hN => ?_
    walk_at "rs"
    refine ⟨by decide, fun p H1 s1 h0 h1 => hN _ _ ?_⟩
    clear hN N
    walk_at "rs"
    have ha1 := Same.seqT s1 ha
    refine ⟨_, rfl, a, rfl, ⟨_, ha1⟩, fun D hD => lc_it (walk_tup (K := K) (a := a) (xs := ws.map V.str)) (fun i G => G D = some (.lst ((ws.take i).filter nm |>.map V.str)) ∧ Same H1 G) ⟨upd_same, same_upd hD⟩ (fun i G _ h => Same.seqT h.2 ha1) ?_ ?_⟩
    · rintro i x G G' hi ⟨h3, h4⟩ ⟨rfl, hy⟩
      rw [List.getElem?_map] at hy
      obtain ⟨z, hz, rfl⟩ := Option.map_eq_some_iff.mp hy
      have hza := hw z (List.mem_of_getElem? hz)
      have et : ws.take (i + 1) = ws.take i ++ [z] := by rw [List.take_succ, hz]; rfl
      have w1 := w_named hza
      walk_at "rs"
      have yes : nm z = true → upd G' D (.lst ((((ws.take i).filter nm).map V.str) ++ [V.str z])) D = some (.lst (((ws.take (i + 1)).filter nm).map V.str)) := fun n => by
        rw [upd_same, et, List.filter_append, List.filter_cons_of_pos n, List.map_append]; rfl
      have no : ¬ nm z = true → G' D = some (.lst (((ws.take (i + 1)).filter nm).map V.str)) := fun n => by
        rw [h3, et, List.filter_append, List.filter_cons_of_neg n, List.filter_nil, List.append_nil]
      have up : ∀ o, Same H1 (upd G' D o) := fun o b u e => by rw [upd_ne (ne_of_none e hD)]; exact h4 b u e
      have sl : (((ws.take i).filter nm).map V.str).length < sizeLine := by
        rw [List.length_map]
        have q := List.length_filter_le nm (ws.take i)
        rw [List.length_take] at q
        exact Nat.lt_of_le_of_lt (show _ ≤ 30 by omega) (by decide)
      refine ⟨Nat.le_trans (needs_ok hza).len (by decide), ⟨_, rfl⟩, ite2 (fun c => ?_) (fun c => ?_)⟩
      · rw [c, Bool.true_and] at w1
        refine ⟨_, .inl (.inl (.inl (h4 _ _ h1))), rfl, rfl, ite2 (fun c2 => ?_) (fun c2 => ?_)⟩
        · rw [c2] at w1
          exact ⟨_, h3, sl, yes w1.symm, up _⟩
        · refine ⟨no ?_, h4⟩
          simp only [Bool.not_eq_false] at c2
          rw [c2] at w1
          rw [← w1]; decide
      · refine ⟨no ?_, h4⟩
        simp only [Bool.not_eq_true] at c
        rw [c, Bool.false_and] at w1
        rw [← w1]; decide
    · rintro G ⟨h3, h4⟩
      rw [List.length_map, List.take_length] at h3
      refine ⟨D, rfl, ws.filter nm, .inl (.inl (.inl h3)), Nat.le_trans (List.length_filter_le _ _) hl, fun t H' s2 h02 h2 => ?_⟩
      exact k t H' (Same.trans s1 (Same.trans h4 s2)) (Same.dom (Same.trans s1 h4) t h02) h2
end
end LK

set_option Elab.async false
set_option linter.all false
set_option maxRecDepth 100000
set_option pp.deepTerms true
set_option pp.maxSteps 20000
namespace LK
open PySem PySem.Spec PyProof.Rows L2
local macro_rules | `(tactic| walk_at "rs") => `(tactic| simp only [cxK, cxNK, tCallZ, tAsg, tOp, rI0, rS0, rB0, rI, rU, tUn, rEq, rNe, rIxL, rIxT, rIxS, rSetL, rSlLU, rSlS, rSlU, rCatL, rCatU, rRepL, rIn, tVar, tC, gName, gSub, tIfS, tTest, tB, tAnd, tOr, tNot, tNotV, tAndV, tOrV, tIf, tCall, tCons, tNil, tCB, tDrop, tRet, tRetN, tNext, tLstU, tTupU, tM0, tM1, tPar, tPar3, tAug, ipI, tBM, tBM0, rAppend, rPop, tBreak, tCont, tChain, tSl, tPart, tNoPart, L2.start, List.map, List.length_cons, List.length_nil, List.replicate, List.cons_append, List.nil_append, List.append_nil, List.getElem?_cons_zero, List.getElem?_cons_succ, List.set_cons_zero, List.set_cons_succ, Option.some.injEq, V.int.injEq, V.ref.injEq, V.str.injEq, V.bl.injEq, exists_eq_left', exists_eq_left, exists_and_left, decide_eq_true_eq, List.cons.injEq, and_true, true_and, scal, Bool.not_eq_true', decide_eq_false_iff_not, Nat.zero_add, Nat.reduceAdd, Nat.reduceSub, reduceCtorEq, false_and, exists_false, false_or, or_false, CPow, CMul, CDiv, Int.reduceToNat, ↓reduceIte, wipe, sw, List.nil_append, List.singleton_append])
local macro_rules | `(tactic| walk_at "st") => `(tactic| (refine seq_op fun N hN => ?_; walk_at "rs"))
local macro_rules | `(tactic| walk_at "sd") => `(tactic| first | assumption | decide | omega)
local macro_rules | `(tactic| walk_at "rd") => `(tactic| repeat (first
  | refine ⟨_, SqL.of (by assumption), ?_⟩ | refine ⟨_, SqL.of upd_same, ?_⟩ | refine ⟨_, .inl (SqL.of (by assumption)), ?_⟩ | refine ⟨_, (by assumption : _ = some (HO.lst _)), ?_⟩ | refine ⟨_, upd_same, ?_⟩
  | refine ⟨_, rfl, ?_⟩ | refine And.intro (by walk_at "sd") ?_))

def usesD : PyData → List Str
  | .tuple (k :: _ :: ps) =>
    if strD k = "be" then namesOf ((itemsD (ps.getD 0 .none)).map strD)
    else if strD k = "table" then onceS ((itemsD (ps.getD 0 .none)).map strD)
    else if strD k = "count" then onceS [strD (ps.getD 0 .none), strD (ps.getD 2 .none)]
    else onceS [strD (ps.getD 0 .none), strD (ps.getD 1 .none), strD (ps.getD 3 .none)]
  | _ => []
theorem onceS_snoc (l : List Str) (z : Str) : onceS (l ++ [z]) = addS (onceS l) z := by
  unfold onceS; rw [List.foldl_append]; rfl
theorem onceS_len (l : List Str) : (onceS l).length ≤ l.length := by
  have h := len_foldS l []
  unfold onceS
  simpa using h
theorem kv_mkT (l : List Str) : ((l.map mkT).map fun kv : Key × V => kV kv.1) = l.map V.str := by
  rw [List.map_map]; rfl
/-- {name: True for name in t}, its keys as a tuple -/
theorem dc_once {K : PySem.W.Frag} {tl : TE} {σ : L2.St} {H : Hp} {Q : VK} {b : Addr} {ns : List Str} {i : Nat} (hi : i < σ.length) (hn : ns.length ≤ 100) (hv : ∀ R : VK, R (.ref b) H → tl σ H R) (hb : SqT K H b (ns.map V.str))
    (k : ∀ p H', Same H H' → H' p = some (.tup ((onceS ns).map V.str)) → Q (.ref p) H') :
    tDc (iTup K tl) (gName i) tYes (tVar i) (tC (.bl true)) [i] σ H fun x H1 => ∃ a, x = V.ref a ∧ ∃ y, Rd H1 a (.dK y) ∧ ∀ (p : Addr) (H' : Hp), Same H1 H' → H1 p = none → H' p = some (.tup (y.map fun kv => kV kv.1)) → Q (.ref p) H' := by
  refine hv _ ⟨b, rfl, ⟨_, hb⟩, fun D hD => dc_tup (K := K) (a := b) (xs := ns.map V.str) (fun i G => G D = some (.dK ((onceS (ns.take i)).map mkT)) ∧ Same H G) ⟨by rw [upd_same]; rfl, same_upd hD⟩ (fun i G _ h => Same.seqT h.2 hb) ?_ ?_⟩
  · rintro j x G hj ⟨h1, h2⟩
    rw [List.getElem?_map] at hj
    obtain ⟨z, hz, rfl⟩ := Option.map_eq_some_iff.mp hj
    have et : ns.take (j + 1) = ns.take j ++ [z] := by rw [List.take_succ, hz]; rfl
    have hl : ((onceS (ns.take j)).map mkT).length < 1000 := by
      rw [List.length_map]
      have := onceS_len (ns.take j)
      rw [List.length_take] at this
      omega
    refine ⟨?_, ?_⟩
    · show ((σ.set i none).set i (some _)).set i none = σ.set i none
      rw [List.set_set, List.set_set]
    · simp only [tYes, eq_self, ite_true]
      refine ⟨.str z, ?_, _, .inr z, rfl, h1, Nat.lt_of_lt_of_le hl (by decide), ?_, fun c o e => ?_⟩
      · show ((σ.set i none).set i (some _))[i]? = _
        rw [List.set_set, List.getElem?_set_self hi]
      · rw [upd_same, putT, et, onceS_snoc]
      · rw [upd_ne (ne_of_none e hD)]
        exact h2 c o e
  · rintro G ⟨h1, h2⟩
    rw [List.length_map, List.take_length] at h1
    refine ⟨D, rfl, _, .inl h1, fun p H' s2 n2 h3 => k p H' (Same.trans h2 s2) ?_⟩
    rw [h3, kv_mkT]
section
variable {P : Program} {w : World} {K : PySem.W.Frag} {mg : Str → Option Value} {base : Heap}
theorem ok_line_names (T : Txt w K mg) : FnOk P w K mg base CX0 5 T.a_line_names T.d_line_names ["line"] (fun vs H Q _ => ∃ v d, vs = [v] ∧ Dp K H v d ∧ okD d = true ∧ isLineD d = true ∧ ∀ t H', Same H H' → SqT K H' t ((usesD d).map V.str) → Q (.ref t) H') := by
  refine T.F_line_names.ok sc_line_names (fun vs H Q E h => ?_) (fun cdv A outer s H vs Q E hr h => ?_)
  · obtain ⟨v, d, rfl, _⟩ := h
    rfl
  · obtain ⟨v, d, rfl, hd, hok, hL, k⟩ := h
    have hr_names_in : Room 4 _ := hr
    have G_names_in := ok_names_in (P := P) (base := base) T
    have hr_asked : Room 1 _ := hr.mono (by decide)
    have G_asked := ok_asked (P := P) (base := base) T
    refine ⟨_, (pss_cons (ps_if (pt_cmpR op_eqS (pe_ix ix_tup (pv 0) pe_int (fun _ _ => rfl)) pe_str (nomark _)) (pss_one (ps_ret (pe_call G_names_in hr_names_in (by rfl) T.m_names_in T.F_names_in.kp T.B_names_in .nil pass0 (pa_cons (pe_ix ix_tup (pv 0) pe_int (fun _ _ => rfl)) pa_nil)))) pss_nil)
      (pss_cons (ps_if (pt_cmpR op_eqS (pe_ix ix_tup (pv 0) pe_int (fun _ _ => rfl)) pe_str (nomark _)) (pss_one (ps_ret (pe_callTy (call_tupleD rfl) (by rfl) T.n_tuple (by decide +kernel) (pa_cons (pe_dc (own := [("name", 5)]) (g := gName 5) (tt := tYes) rfl sc_line_names.nd (pi_tup (pe_ix ix_tup (pv 0) pe_int (fun _ _ => rfl))) (blkOk_by (own := [("name", 5)]) (N := N_line_names) (sc := defScope s_line_names) (by decide +kernel)) (fun _ _ _ _ _ => pg_name (i := 5) sc_line_names.nd rfl (Or.inl rfl)) (fun _ _ _ _ _ => pts_nil) (fun _ _ _ _ _ => (pv 5)) (fun _ _ _ _ _ => pe_bl)) pa_nil)))) pss_nil)
      (pss_cons (ps_asg (pe_call G_asked hr_asked (by rfl) T.m_asked T.F_asked.kp T.B_asked .nil pass0 (pa_cons (pv 0) pa_nil)) (pg_tup rfl (pgs_cons (pg_name (i := 1) sc_line_names.nd rfl (Or.inl rfl)) (pgs_cons (pg_name (i := 2) sc_line_names.nd rfl (Or.inl rfl)) (pgs_cons (pg_name (i := 3) sc_line_names.nd rfl (Or.inl rfl)) pgs_nil)))))
      (pss_cons (ps_set (i := 4) sc_line_names.nd rfl (Or.inl rfl) (pe_ifExp (pt_cmpR op_eqS (pe_ix ix_tup (pv 0) pe_int (fun _ _ => rfl)) pe_str (nomark _)) (pe_tupU (pa_cons (pv 1) (pa_cons (pv 3) pa_nil))) (pe_tupU (pa_cons (pe_ix ix_tup (pv 0) pe_int (fun _ _ => rfl)) (pa_cons (pv 1) (pa_cons (pv 3) pa_nil))))))
      (pss_one (ps_ret (pe_callTy (call_tupleD rfl) (by rfl) T.n_tuple (by decide +kernel) (pa_cons (pe_dc (own := [("name", 5)]) (g := gName 5) (tt := tYes) rfl sc_line_names.nd (pi_tup (pv 4)) (blkOk_by (own := [("name", 5)]) (N := N_line_names) (sc := defScope s_line_names) (by decide +kernel)) (fun _ _ _ _ _ => pg_name (i := 5) sc_line_names.nd rfl (Or.inl rfl)) (fun _ _ _ _ _ => pts_nil) (fun _ _ _ _ _ => (pv 5)) (fun _ _ _ _ _ => pe_bl)) pa_nil)))))))), ?_⟩
    have hl := line_of hL
    obtain ⟨a, xs, kd, own, ps, rfl, rfl, ha, hx⟩ : ∃ a xs kd own ps, v = .ref a ∧ d = .tuple (.str kd :: .str own :: ps) ∧ SqT K H a (.str kd :: .str own :: xs) ∧ DpAll K H xs ps := by
      have g : ∃ kd own ps, d = .tuple (.str kd :: .str own :: ps) := by cases hl <;> exact ⟨_, _, _, rfl⟩
      obtain ⟨kd, own, ps, rfl⟩ := g
      obtain ⟨a, ys, rfl, ha, hy⟩ := dp_tup hd
      obtain ⟨v1, v2, xs, rfl, h1, h2, hx⟩ := dpa_two_more hy
      cases h1
      cases h2
      exact ⟨a, xs, kd, own, ps, rfl, rfl, ha, hx⟩
    refine seq_op fun N hN => ?_
    walk_at "rs"
    cases hl with
    | be own zs ho hp =>
      refine ⟨_, ha, _, at_ofN (j := 0) rfl rfl, _, rfl, ite2 (fun _ => ?_) (fun e => absurd rfl e)⟩
      obtain ⟨v, rfl, hv⟩ := dpa_one hx
      obtain ⟨b, ys, rfl, hb, hy⟩ := dp_tup hv
      obtain rfl := dpa_strs hy
      obtain ⟨⟨q1, q2⟩, q3⟩ := pre_ok hp
      refine ⟨_, ha, _, at_ofN (j := 2) rfl rfl, b, zs, rfl, hb, q3, q2, fun t H' s' n' h' => k t H' s' ?_⟩
      have e : usesD (.tuple [.str "be", .str own, .tuple (zs.map .str)]) = namesOf zs := by
        show namesOf ((zs.map PyData.str).map strD) = _
        rw [strs_map]
      rw [e]
      exact SqT.of h'
    | tab own ns fs ho ln hn lf hf =>
      refine ⟨_, ha, _, at_ofN (j := 0) rfl rfl, _, rfl, ite2 (fun e => absurd e tab_be) (fun _ => hN _ _ ?_)⟩
      clear hN N
      refine seq_op fun N hN => ?_
      walk_at "rs"
      refine ⟨_, ha, _, at_ofN (j := 0) rfl rfl, _, rfl, ite2 (fun _ => ?_) (fun e => absurd rfl e)⟩
      clear hN N
      obtain ⟨v1, v2, rfl, hv1, hv2⟩ := dpa_two hx
      obtain ⟨b, ys, rfl, hb, hy⟩ := dp_tup hv1
      obtain rfl := dpa_strs hy
      refine dc_once (i := 5) (by simp) (by omega) (fun R r => ⟨_, rfl, _, _, _, _, rfl, rfl, ha, at_ofN (j := 2) rfl rfl, r⟩) hb fun p H' s' h' => k p H' s' ?_
      have e : usesD (.tuple [.str "table", .str own, .tuple (ns.map .str), .tuple (fs.map frD)]) = onceS ns := by
        show onceS ((ns.map PyData.str).map strD) = _
        rw [strs_map]
      rw [e]
      exact SqT.of h'
    | cnt own x c r ho hx1 hr1 hc =>
      refine ⟨_, ha, _, at_ofN (j := 0) rfl rfl, _, rfl, ite2 (fun e => absurd e cnt_be) (fun _ => hN _ _ ?_)⟩
      clear hN N
      refine seq_op fun N hN => ?_
      walk_at "rs"
      refine ⟨_, ha, _, at_ofN (j := 0) rfl rfl, _, rfl, ite2 (fun e => absurd e cnt_tab) (fun _ => hN _ _ ?_)⟩
      clear hN N
      refine seq_op fun N hN => ?_
      walk_at "rs"
      obtain ⟨v1, vr, ys, rfl, hv1, hvr, hy⟩ := dpa_two_more hx
      obtain ⟨v3, rfl, hv3⟩ := dpa_one hy
      cases hv1
      cases hv3
      refine ⟨"count", _, ha, fun t H1 s1 ht => ?_⟩
      rw [show askX "count" (.str "count" :: .str own :: .str x :: vr :: [.str c]) = [.str x, vr, .str c] by show (if _ then _ else _) = _; rw [if_pos rfl]; rfl] at ht
      refine ⟨_, _, rfl, ht, rfl, ?_⟩
      unfold gCons gNil
      walk_at "rs"
      refine ⟨_, _, ⟨rfl, rfl⟩, _, _, rfl, _, _, rfl, rfl, hN _ _ ?_⟩
      clear hN N
      refine seq_op fun N hN => ?_
      walk_at "rs"
      refine ⟨_, Same.seqT s1 ha, _, at_ofN (j := 0) rfl rfl, _, rfl, ite2 (fun _ => ⟨by decide, fun q H2 s2 n2 h2 => hN _ _ ?_⟩) (fun e => absurd rfl e)⟩
      clear hN N
      walk_at "rs"
      refine dc_once (i := 5) (b := q) (ns := [x, c]) (by simp) (by simp) (fun R r => ⟨_, rfl, r⟩) (SqT.of h2) fun p H' s' h' => k p H' (Same.trans s1 (Same.trans s2 s')) (SqT.of h')
    | lst kd own p x c r i hk ho hp hx1 hr1 hc h1 h2 =>
      obtain ⟨n1, n2, n3⟩ := not_kinds hk
      refine ⟨_, ha, _, at_ofN (j := 0) rfl rfl, _, rfl, ite2 (fun e => absurd e n1) (fun _ => hN _ _ ?_)⟩
      clear hN N
      refine seq_op fun N hN => ?_
      walk_at "rs"
      refine ⟨_, ha, _, at_ofN (j := 0) rfl rfl, _, rfl, ite2 (fun e => absurd e n2) (fun _ => hN _ _ ?_)⟩
      clear hN N
      refine seq_op fun N hN => ?_
      walk_at "rs"
      obtain ⟨vp, v1, ys, rfl, hvp, hv1, hy⟩ := dpa_two_more hx
      obtain ⟨vr, vc, ys, rfl, hvr, hvc, hy⟩ := dpa_two_more hy
      cases hvp
      cases hv1
      cases hvc
      refine ⟨kd, _, ha, fun t H1 s1 ht => ?_⟩
      rw [show askX kd (.str kd :: .str own :: .str p :: .str x :: vr :: .str c :: ys) = [.str x, vr, .str c] by show (if _ then _ else _) = _; rw [if_neg n3]; rfl] at ht
      refine ⟨_, _, rfl, ht, rfl, ?_⟩
      unfold gCons gNil
      walk_at "rs"
      refine ⟨_, _, ⟨rfl, rfl⟩, _, _, rfl, _, _, rfl, rfl, hN _ _ ?_⟩
      clear hN N
      refine seq_op fun N hN => ?_
      walk_at "rs"
      refine ⟨_, Same.seqT s1 ha, _, at_ofN (j := 0) rfl rfl, _, rfl, ite2 (fun e => absurd e n3) (fun _ => ⟨_, Same.seqT s1 ha, _, at_ofN (j := 2) rfl rfl, by decide, fun q H2 s2 m2 h2 => hN _ _ ?_⟩)⟩
      clear hN N
      walk_at "rs"
      refine dc_once (i := 5) (b := q) (ns := [p, x, c]) (by simp) (by simp) (fun R r => ⟨_, rfl, r⟩) (SqT.of h2) fun p2 H' s' h' => k p2 H' (Same.trans s1 (Same.trans s2 s')) (SqT.of ?_)
      rw [h']
      have e : usesD (.tuple [.str kd, .str own, .str p, .str x, r, .str c, .int i]) = onceS [p, x, c] := by
        show (if kd = "be" then _ else if kd = "table" then _ else if kd = "count" then _ else _) = _
        rw [if_neg n1, if_neg n2, if_neg n3]
        rfl
      rw [e]
theorem ok__law_uses (T : Txt w K mg) : FnOk P w K mg base CX0 3 T.a__law_uses T.d__law_uses ["row"] (fun vs H Q _ => ∃ v d, vs = [v] ∧ Dp K H v d ∧ okD d = true ∧ isLineD d = true ∧ ∀ t H', Same H H' → H t = none → H' t = some (.lst ((usesD d).map V.str)) → Q (.ref t) H') := by
  refine T.F__law_uses.ok sc__law_uses (fun vs H Q E h => ?_) (fun cdv A outer s H vs Q E hr h => ?_)
  · obtain ⟨v, d, rfl, _⟩ := h
    rfl
  · obtain ⟨v, d, rfl, hd, hok, hL, k⟩ := h
    have hr__law_named : Room 2 _ := hr
    have G__law_named := ok__law_named (P := P) (base := base) T
    have hr__law_trio : Room 1 _ := hr.mono (by decide)
    have G__law_trio := ok__law_trio (P := P) (base := base) T
    have hr__law_once : Room 1 _ := hr.mono (by decide)
    have G__law_once := ok__law_once (P := P) (base := base) T
    refine ⟨_, (pss_cons (ps_if (pt_cmpR op_eqS (pe_ix ix_tup (pv 0) pe_int (fun _ _ => rfl)) pe_str (nomark _)) (pss_one (ps_ret (pe_call G__law_named hr__law_named (by rfl) T.m__law_named T.F__law_named.kp T.B__law_named .nil pass0 (pa_cons (pe_ix ix_tup (pv 0) pe_int (fun _ _ => rfl)) pa_nil)))) pss_nil)
      (pss_cons (ps_if (pt_cmpR op_eqS (pe_ix ix_tup (pv 0) pe_int (fun _ _ => rfl)) pe_str (nomark _)) (pss_one (ps_ret (pe_call G__law_once hr__law_once (by rfl) T.m__law_once T.F__law_once.kp T.B__law_once .nil pass0 (pa_cons (pe_ix ix_tup (pv 0) pe_int (fun _ _ => rfl)) pa_nil)))) pss_nil)
      (pss_cons (ps_set (i := 1) sc__law_uses.nd rfl (Or.inl rfl) (pe_call G__law_trio hr__law_trio (by rfl) T.m__law_trio T.F__law_trio.kp T.B__law_trio .nil pass0 (pa_cons (pv 0) pa_nil)))
      (pss_one (ps_ret (pe_call G__law_once hr__law_once (by rfl) T.m__law_once T.F__law_once.kp T.B__law_once .nil pass0 (pa_cons (pe_ifExp (pt_cmpR op_eqS (pe_ix ix_tup (pv 0) pe_int (fun _ _ => rfl)) pe_str (nomark _)) (pe_lstU (pa_cons (pe_ix ix_tup (pv 1) pe_int (fun _ _ => rfl)) (pa_cons (pe_ix ix_tup (pv 1) pe_int (fun _ _ => rfl)) pa_nil))) (pe_lstU (pa_cons (pe_ix ix_tup (pv 0) pe_int (fun _ _ => rfl)) (pa_cons (pe_ix ix_tup (pv 1) pe_int (fun _ _ => rfl)) (pa_cons (pe_ix ix_tup (pv 1) pe_int (fun _ _ => rfl)) pa_nil))))) pa_nil))))))), ?_⟩
    have hl := line_of hL
    obtain ⟨a, xs, kd, own, ps, rfl, rfl, ha, hx⟩ : ∃ a xs kd own ps, v = .ref a ∧ d = .tuple (.str kd :: .str own :: ps) ∧ SqT K H a (.str kd :: .str own :: xs) ∧ DpAll K H xs ps := by
      have g : ∃ kd own ps, d = .tuple (.str kd :: .str own :: ps) := by cases hl <;> exact ⟨_, _, _, rfl⟩
      obtain ⟨kd, own, ps, rfl⟩ := g
      obtain ⟨a, ys, rfl, ha, hy⟩ := dp_tup hd
      obtain ⟨v1, v2, xs, rfl, h1, h2, hx⟩ := dpa_two_more hy
      cases h1
      cases h2
      exact ⟨a, xs, kd, own, ps, rfl, rfl, ha, hx⟩
    refine seq_op fun N hN => ?_
    walk_at "rs"
    cases hl with
    | be own zs ho hp =>
      refine ⟨_, ha, _, at_ofN (j := 0) rfl rfl, _, rfl, ite2 (fun _ => ?_) (fun e => absurd rfl e)⟩
      obtain ⟨v, rfl, hv⟩ := dpa_one hx
      obtain ⟨b, ys, rfl, hb, hy⟩ := dp_tup hv
      obtain rfl := dpa_strs hy
      obtain ⟨⟨q1, q2⟩, q3⟩ := pre_ok hp
      refine ⟨_, ha, _, at_ofN (j := 2) rfl rfl, b, rfl, zs, hb, q3, q2, fun t H' s' n' h' => k t H' s' n' ?_⟩
      have e : usesD (.tuple [.str "be", .str own, .tuple (zs.map .str)]) = namesOf zs := by
        show namesOf ((zs.map PyData.str).map strD) = _
        rw [strs_map]
      rw [e]
      exact h'
    | tab own ns fs ho ln hn lf hf =>
      refine ⟨_, ha, _, at_ofN (j := 0) rfl rfl, _, rfl, ite2 (fun e => absurd e tab_be) (fun _ => hN _ _ ?_)⟩
      clear hN N
      refine seq_op fun N hN => ?_
      walk_at "rs"
      refine ⟨_, ha, _, at_ofN (j := 0) rfl rfl, _, rfl, ite2 (fun _ => ?_) (fun e => absurd rfl e)⟩
      clear hN N
      obtain ⟨v1, v2, rfl, hv1, hv2⟩ := dpa_two hx
      obtain ⟨b, ys, rfl, hb, hy⟩ := dp_tup hv1
      obtain rfl := dpa_strs hy
      refine ⟨_, ha, _, at_ofN (j := 2) rfl rfl, b, rfl, ns, .inr hb, by omega, fun t H' s' n' h' => k t H' s' n' ?_⟩
      have e : usesD (.tuple [.str "table", .str own, .tuple (ns.map .str), .tuple (fs.map frD)]) = onceS ns := by
        show onceS ((ns.map PyData.str).map strD) = _
        rw [strs_map]
      rw [e]
      exact h'
    | cnt own x c r ho hx1 hr1 hc =>
      refine ⟨_, ha, _, at_ofN (j := 0) rfl rfl, _, rfl, ite2 (fun e => absurd e cnt_be) (fun _ => hN _ _ ?_)⟩
      clear hN N
      refine seq_op fun N hN => ?_
      walk_at "rs"
      refine ⟨_, ha, _, at_ofN (j := 0) rfl rfl, _, rfl, ite2 (fun e => absurd e cnt_tab) (fun _ => hN _ _ ?_)⟩
      clear hN N
      refine seq_op fun N hN => ?_
      walk_at "rs"
      obtain ⟨v1, vr, ys, rfl, hv1, hvr, hy⟩ := dpa_two_more hx
      obtain ⟨v3, rfl, hv3⟩ := dpa_one hy
      cases hv1
      cases hv3
      refine ⟨"count", _, ha, fun t H1 s1 ht => hN _ _ ?_⟩
      clear hN N
      rw [show askX "count" (.str "count" :: .str own :: .str x :: vr :: [.str c]) = [.str x, vr, .str c] by show (if _ then _ else _) = _; rw [if_pos rfl]; rfl] at ht
      walk_at "rs"
      refine ⟨_, Same.seqT s1 ha, _, at_ofN (j := 0) rfl rfl, _, rfl, ite2 (fun _ => ?_) (fun e => absurd rfl e)⟩
      refine ⟨_, ht, _, at_ofN (j := 0) rfl rfl, _, ht, _, at_ofN (j := 2) rfl rfl, by decide, fun p H2 s2 n2 h2 => ⟨[x, c], .inl (SqL.of h2), by simp, fun t2 H3 s3 n3 h3 => k t2 H3 (Same.trans s1 (Same.trans s2 s3)) (Same.dom s1 _ (Same.dom s2 _ n3)) h3⟩⟩
    | lst kd own p x c r i hk ho hp hx1 hr1 hc h1 h2 =>
      obtain ⟨n1, n2, n3⟩ := not_kinds hk
      refine ⟨_, ha, _, at_ofN (j := 0) rfl rfl, _, rfl, ite2 (fun e => absurd e n1) (fun _ => hN _ _ ?_)⟩
      clear hN N
      refine seq_op fun N hN => ?_
      walk_at "rs"
      refine ⟨_, ha, _, at_ofN (j := 0) rfl rfl, _, rfl, ite2 (fun e => absurd e n2) (fun _ => hN _ _ ?_)⟩
      clear hN N
      refine seq_op fun N hN => ?_
      walk_at "rs"
      obtain ⟨vp, v1, ys, rfl, hvp, hv1, hy⟩ := dpa_two_more hx
      obtain ⟨vr, vc, ys, rfl, hvr, hvc, hy⟩ := dpa_two_more hy
      cases hvp
      cases hv1
      cases hvc
      refine ⟨kd, _, ha, fun t H1 s1 ht => hN _ _ ?_⟩
      clear hN N
      rw [show askX kd (.str kd :: .str own :: .str p :: .str x :: vr :: .str c :: ys) = [.str x, vr, .str c] by show (if _ then _ else _) = _; rw [if_neg n3]; rfl] at ht
      have e : usesD (.tuple [.str kd, .str own, .str p, .str x, r, .str c, .int i]) = onceS [p, x, c] := by
        show (if kd = "be" then _ else if kd = "table" then _ else if kd = "count" then _ else _) = _
        rw [if_neg n1, if_neg n2, if_neg n3]
        rfl
      rw [e] at k
      walk_at "rs"
      refine ⟨_, Same.seqT s1 ha, _, at_ofN (j := 0) rfl rfl, _, rfl, ite2 (fun e => absurd e n3) (fun _ => ?_)⟩
      refine ⟨_, Same.seqT s1 ha, _, at_ofN (j := 2) rfl rfl, _, ht, _, at_ofN (j := 0) rfl rfl, _, ht, _, at_ofN (j := 2) rfl rfl, by decide, fun p2 H2 s2 n2 h2 => ⟨[p, x, c], .inl (SqL.of h2), by simp, fun t2 H3 s3 n3 h3 => k t2 H3 (Same.trans s1 (Same.trans s2 s3)) (Same.dom s1 _ (Same.dom s2 _ n3)) h3⟩⟩
end
end LK

set_option Elab.async false
set_option linter.all false
set_option maxRecDepth 100000
set_option pp.deepTerms true
set_option pp.maxSteps 20000
namespace LK
open PySem PySem.Spec PyProof.Rows L2
local macro_rules | `(tactic| walk_at "rs") => `(tactic| simp only [cxK, cxNK, tCallZ, tAsg, tOp, rI0, rS0, rB0, rI, rU, tUn, rEq, rNe, rIxL, rIxT, rIxS, rSetL, rSlLU, rSlS, rSlU, rCatL, rCatU, rRepL, rIn, tVar, tC, gName, gSub, tIfS, tTest, tB, tAnd, tOr, tNot, tNotV, tAndV, tOrV, tIf, tCall, tCons, tNil, tCB, tDrop, tRet, tRetN, tNext, tLstU, tTupU, tM0, tM1, tPar, tPar3, tAug, ipI, tBM, tBM0, rAppend, rPop, tBreak, tCont, tChain, tSl, tPart, tNoPart, L2.start, List.map, List.length_cons, List.length_nil, List.replicate, List.cons_append, List.nil_append, List.append_nil, List.getElem?_cons_zero, List.getElem?_cons_succ, List.set_cons_zero, List.set_cons_succ, Option.some.injEq, V.int.injEq, V.ref.injEq, V.str.injEq, V.bl.injEq, exists_eq_left', exists_eq_left, exists_and_left, decide_eq_true_eq, List.cons.injEq, and_true, true_and, scal, Bool.not_eq_true', decide_eq_false_iff_not, Nat.zero_add, Nat.reduceAdd, Nat.reduceSub, reduceCtorEq, false_and, exists_false, false_or, or_false, CPow, CMul, CDiv, Int.reduceToNat, ↓reduceIte, wipe, sw, List.nil_append, List.singleton_append])
local macro_rules | `(tactic| walk_at "st") => `(tactic| (refine seq_op fun N hN => ?_; walk_at "rs"))
local macro_rules | `(tactic| walk_at "sd") => `(tactic| first | assumption | decide | omega)
local macro_rules | `(tactic| walk_at "rd") => `(tactic| repeat (first
  | refine ⟨_, SqL.of (by assumption), ?_⟩ | refine ⟨_, SqL.of upd_same, ?_⟩ | refine ⟨_, .inl (SqL.of (by assumption)), ?_⟩ | refine ⟨_, (by assumption : _ = some (HO.lst _)), ?_⟩ | refine ⟨_, upd_same, ?_⟩
  | refine ⟨_, rfl, ?_⟩ | refine And.intro (by walk_at "sd") ?_))

abbrev Fr := Int × Int
def lowF (p q : Int) : Fr := (frP p q, frQ p q)
def tf (b : Bool) : Fr := if b = true then (1, 1) else (0, 1)
def gapF (a b : Fr) : Int := a.1 * b.2 - b.1 * a.2
def holdsF (z : Str) (a b : Fr) : Bool :=
  if z = "=" then decide (a = b) else if z = "/=" then !decide (a = b) else if z = "<" then decide (gapF a b < 0) else if z = "<=" then !decide (0 < gapF a b)
  else if z = ">" then decide (0 < gapF a b) else !decide (gapF a b < 0)
/-- lowest terms, at most so many bits -/
def okB (m : Nat) (f : Fr) : Prop := 1 ≤ f.2 ∧ Nat.gcd f.1.natAbs f.2.natAbs = 1 ∧ f.1.natAbs < 2 ^ m ∧ f.2.natAbs < 2 ^ m
theorem okB.le {m n : Nat} {f : Fr} (h : okB m f) (l : m ≤ n) : okB n f := ⟨h.1, h.2.1, pow_le h.2.2.1 l, pow_le h.2.2.2 l⟩
def relF (r : PyData) (f g : Fr) : Bool := match r with
  | .str z => holdsF z f g
  | .tuple ds => ds.any fun z => PyData.eqv z (prD (f, g))
  | _ => false
theorem prs_lay : ∀ ps : List ((Int × Int) × (Int × Int)), PyData.canLayAll0 (ps.map prD) = true
  | [] => rfl
  | p :: ps => by
    rw [List.map_cons]
    unfold PyData.canLayAll0
    rw [prs_lay ps, Bool.and_true]
    rfl
theorem pr_shaped (p : (Int × Int) × (Int × Int)) : SeqAt.shaped (prD p) = true := by rfl
theorem fr_unique {P Q p q : Int} (hQ : Q ≠ 0) (h : P * q = p * Q) (hq : 1 ≤ q) (hg : Nat.gcd p.natAbs q.natAbs = 1) : frP P Q = p ∧ frQ P Q = q := by
  obtain ⟨e1, e2, e3, e4, _, _, g0⟩ := fr_spec P hQ
  have h2 : frP P Q * q = p * frQ P Q := by
    have e : (frP P Q * q) * frG P Q = (p * frQ P Q) * frG P Q := by
      have a : (frP P Q * q) * frG P Q = (frP P Q * frG P Q) * q := by
        rw [Int.mul_assoc, Int.mul_comm q, ← Int.mul_assoc]
      have b : (p * frQ P Q) * frG P Q = p * (frQ P Q * frG P Q) := Int.mul_assoc _ _ _
      rw [a, b, e1, e2, h]
    exact Int.eq_of_mul_eq_mul_right g0 e
  have hn : (frP P Q).natAbs * q.natAbs = p.natAbs * (frQ P Q).natAbs := by rw [← Int.natAbs_mul, ← Int.natAbs_mul, h2]
  have d1 : q.natAbs ∣ (frQ P Q).natAbs := by
    have d : q.natAbs ∣ p.natAbs * (frQ P Q).natAbs := ⟨(frP P Q).natAbs, by rw [← hn, Nat.mul_comm]⟩
    exact Nat.Coprime.dvd_of_dvd_mul_left (Nat.Coprime.symm hg) d
  have d2 : (frQ P Q).natAbs ∣ q.natAbs := by
    have d : (frQ P Q).natAbs ∣ (frP P Q).natAbs * q.natAbs := ⟨p.natAbs, by rw [hn, Nat.mul_comm]⟩
    exact Nat.Coprime.dvd_of_dvd_mul_left (Nat.Coprime.symm e4) d
  have en := Nat.dvd_antisymm d1 d2
  have eq : frQ P Q = q := by omega
  refine ⟨?_, eq⟩
  rw [eq] at h2
  exact Int.eq_of_mul_eq_mul_right (by omega) h2
theorem gap_zero {m : Nat} {f g : Fr} (hf : okB m f) (hg : okB m g) : gapF f g = 0 ↔ f = g := by
  constructor
  · intro h
    unfold gapF at h
    obtain ⟨a1, a2⟩ := fr_unique (P := f.1) (Q := f.2) (p := g.1) (q := g.2) (by have := hf.1; omega) (by omega) hg.1 hg.2.1
    obtain ⟨b1, b2⟩ := fr_low hf.1 hf.2.1
    exact Prod.ext (by rw [← b1, a1]) (by rw [← b2, a2])
  · rintro rfl
    unfold gapF; omega
def ord3 (d : Int) : Int := (if 0 < d then 1 else 0) - (if d < 0 then 1 else 0)
theorem ord3_lt (d : Int) : ord3 d < 0 ↔ d < 0 := by unfold ord3; split <;> split <;> omega
theorem ord3_gt (d : Int) : 0 < ord3 d ↔ 0 < d := by unfold ord3; split <;> split <;> omega
theorem ord3_eq (d : Int) : ord3 d = 0 ↔ d = 0 := by unfold ord3; split <;> split <;> omega
def hbF (z : Str) (lt gt eq : Bool) : Bool :=
  if z = "=" then eq else if z = "/=" then !eq else if z = "<" then lt else if z = "<=" then !gt else if z = ">" then gt else !lt
theorem hb_tab : ∀ z ∈ relL, z ≠ "/=" → hbF z true false false = decide (60 ∈ z.cps.toList) ∧ hbF z false true false = decide (62 ∈ z.cps.toList) ∧ hbF z false false true = decide (61 ∈ z.cps.toList) := by decide +kernel
section
variable {P : Program} {w : World} {K : PySem.W.Frag} {mg : Str → Option Value} {base : Heap}
/-- two fractions at the heap -/
def sp_rel (K : PySem.W.Frag) : Sp := fun vs H Q _ => ∃ (z : Str) (a b : Addr) (f g : Fr), vs = [.str z, .ref a, .ref b] ∧ Pr K H a f.1 f.2 ∧ Pr K H b g.1 g.2 ∧ okB 4000 f ∧ okB 4000 g ∧ ∀ H', Same H H' → Q (.bl (holdsF z f g)) H'
theorem ok_compared (T : Txt w K mg) : FnOk P w K mg base CX0 2 T.a_compared T.d_compared ["relation", "a", "b"] (sp_rel K) := by
  refine T.F_compared.ok sc_compared (fun vs H Q E h => ?_) (fun cdv A outer s H vs Q E hr h => ?_)
  · obtain ⟨z, a, b, f, g, rfl, _⟩ := h
    rfl
  · obtain ⟨z, a, b, f, g, rfl, ha, hb, hf, hg, k⟩ := h
    have hr_below : Room 1 _ := hr.mono (by decide)
    have G_below := ok_below (P := P) (base := base) T
    refine ⟨_, (pss_cons (ps_if (pt_cmpR op_eqS (pv 0) pe_str (nomark _)) (pss_one (ps_ret (pe_cmpR (op_eqD hr.units) (pv 1) (pv 2) (nomark _)))) pss_nil)
      (pss_cons (ps_if (pt_cmpR op_eqS (pv 0) pe_str (nomark _)) (pss_one (ps_ret (pe_cmpR (op_neD hr.units) (pv 1) (pv 2) (nomark _)))) pss_nil)
      (pss_cons (ps_if (pt_cmpR op_eqS (pv 0) pe_str (nomark _)) (pss_one (ps_ret (pe_call G_below hr_below (by rfl) T.m_below T.F_below.kp T.B_below .nil pass0 (pa_cons (pv 1) (pa_cons (pv 2) pa_nil))))) pss_nil)
      (pss_cons (ps_if (pt_cmpR op_eqS (pv 0) pe_str (nomark _)) (pss_one (ps_ret (pe_not (pe_call G_below hr_below (by rfl) T.m_below T.F_below.kp T.B_below .nil pass0 (pa_cons (pv 2) (pa_cons (pv 1) pa_nil)))))) pss_nil)
      (pss_cons (ps_if (pt_cmpR op_eqS (pv 0) pe_str (nomark _)) (pss_one (ps_ret (pe_call G_below hr_below (by rfl) T.m_below T.F_below.kp T.B_below .nil pass0 (pa_cons (pv 2) (pa_cons (pv 1) pa_nil))))) pss_nil)
      (pss_one (ps_ret (pe_not (pe_call G_below hr_below (by rfl) T.m_below T.F_below.kp T.B_below .nil pass0 (pa_cons (pv 1) (pa_cons (pv 2) pa_nil))))))))))), ?_⟩
    obtain ⟨f1, f2, f3, f4⟩ := hf
    obtain ⟨g1, g2, g3, g4⟩ := hg
    replace k := k H (Same.refl _)
    unfold holdsF gapF at k
    have eq : (decide (f.1 = g.1) && decide (f.2 = g.2)) = decide (f = g) := by
      rw [← Bool.decide_and]
      exact decide_eq_decide.mpr ⟨fun h => Prod.ext h.1 h.2, fun h => by rw [h]; exact ⟨rfl, rfl⟩⟩
    refine seq_op fun N hN => ?_
    walk_at "rs"
    refine ite2 (fun c => ?_) (fun c => hN _ _ ?_)
    · rw [if_pos c] at k
      refine ⟨_, .tuple [.int g.1, .int g.2], dp_pair ha, dp_pair hb, shaped2 _ _, shaped2 _ _, ?_⟩
      rw [eqv_pair, eq]; exact k
    rw [if_neg c] at k
    clear hN N
    refine seq_op fun N hN => ?_
    walk_at "rs"
    refine ite2 (fun c => ?_) (fun c => hN _ _ ?_)
    · rw [if_pos c] at k
      refine ⟨_, .tuple [.int g.1, .int g.2], dp_pair ha, dp_pair hb, shaped2 _ _, shaped2 _ _, ?_⟩
      rw [eqv_pair, eq]; exact k
    rw [if_neg c] at k
    clear hN N
    refine seq_op fun N hN => ?_
    walk_at "rs"
    refine ite2 (fun c => ?_) (fun c => hN _ _ ?_)
    · rw [if_pos c] at k
      refine ⟨_, _, ⟨rfl, rfl⟩, _, _, ha, _, _, hb, f3, f4, g3, g4, ?_⟩
      rw [show decide (f.1 * g.2 < g.1 * f.2) = decide (f.1 * g.2 - g.1 * f.2 < 0) from decide_eq_decide.mpr ⟨fun h => by omega, fun h => by omega⟩]; exact k
    rw [if_neg c] at k
    clear hN N
    refine seq_op fun N hN => ?_
    walk_at "rs"
    refine ite2 (fun c => ?_) (fun c => hN _ _ ?_)
    · rw [if_pos c] at k
      refine ⟨_, _, ⟨rfl, rfl⟩, _, _, hb, _, _, ha, g3, g4, f3, f4, ?_⟩
      rw [show decide (g.1 * f.2 < f.1 * g.2) = decide (0 < f.1 * g.2 - g.1 * f.2) from decide_eq_decide.mpr ⟨fun h => by omega, fun h => by omega⟩]; exact k
    rw [if_neg c] at k
    clear hN N
    refine seq_op fun N hN => ?_
    walk_at "rs"
    refine ite2 (fun c => ?_) (fun c => hN _ _ ?_)
    · rw [if_pos c] at k
      refine ⟨_, _, ⟨rfl, rfl⟩, _, _, hb, _, _, ha, g3, g4, f3, f4, ?_⟩
      rw [show decide (g.1 * f.2 < f.1 * g.2) = decide (0 < f.1 * g.2 - g.1 * f.2) from decide_eq_decide.mpr ⟨fun h => by omega, fun h => by omega⟩]; exact k
    rw [if_neg c] at k
    clear hN N
    walk_at "rs"
    refine ⟨_, _, ⟨rfl, rfl⟩, _, _, ha, _, _, hb, f3, f4, g3, g4, ?_⟩
    rw [show decide (f.1 * g.2 < g.1 * f.2) = decide (f.1 * g.2 - g.1 * f.2 < 0) from decide_eq_decide.mpr ⟨fun h => by omega, fun h => by omega⟩]; exact k
theorem fdiv_low (p : Int) {q : Int} (h : 1 ≤ q) : (frP p q).fdiv (frQ p q) = p.fdiv q := by
  obtain ⟨e1, e2, e3, _, _, _, e7⟩ := fr_spec p (q := q) (by omega)
  have g0 : 0 < frG p q := by unfold frG at e7 ⊢; rw [if_neg (by omega)] at e7 ⊢; omega
  rw [Int.fdiv_eq_ediv_of_nonneg _ (by omega), Int.fdiv_eq_ediv_of_nonneg _ (by omega)]
  generalize frG p q = G at *
  generalize frP p q = a at *
  generalize frQ p q = b at *
  subst e1; subst e2
  rw [Int.mul_ediv_mul_of_pos_left _ _ g0]
theorem fr_one (p : Int) : frP p 1 = p ∧ frQ p 1 = 1 := fr_low (Int.le_refl 1) (by simp)
def sp_whole (K : PySem.W.Frag) : Sp := fun vs H Q _ => ∃ (a b : Addr) (f g : Fr), vs = [.ref a, .ref b] ∧ Pr K H a f.1 f.2 ∧ Pr K H b g.1 g.2 ∧ okB 3900 f ∧ g.2 = 1 ∧ 1 ≤ g.1 ∧ g.1 ≤ 9 ∧ ∀ t H', Same H H' → H t = none → Pr K H' t (f.1.fdiv (f.2 * g.1)) 1 → Q (.ref t) H'
theorem ok__law_order (T : Txt w K mg) : FnOk P w K mg base CX0 1 T.a__law_order T.d__law_order ["one", "two"] (fun vs H Q _ => ∃ (a b : Addr) (f g : Fr), vs = [.ref a, .ref b] ∧ Pr K H a f.1 f.2 ∧ Pr K H b g.1 g.2 ∧ okB 4000 f ∧ okB 4000 g ∧ Q (.int (ord3 (gapF f g))) H) := by
  refine T.F__law_order.ok sc__law_order (fun vs H Q E h => ?_) (fun cdv A outer s H vs Q E hr h => ?_)
  · obtain ⟨a, b, f, g, rfl, _⟩ := h
    rfl
  · obtain ⟨a, b, f, g, rfl, ha, hb, hf, hg, k⟩ := h
    refine ⟨_, (pss_cons (ps_set (i := 2) sc__law_order.nd rfl (Or.inl rfl) (pe_op op_sub (pe_op op_mulW (pe_ix ix_tup (pv 0) pe_int (fun _ _ => rfl)) (pe_ix ix_tup (pv 1) pe_int (fun _ _ => rfl))) (pe_op op_mulW (pe_ix ix_tup (pv 1) pe_int (fun _ _ => rfl)) (pe_ix ix_tup (pv 0) pe_int (fun _ _ => rfl)))))
      (pss_one (ps_ret (pe_op op_sub (pe_callTy call_int1 (by rfl) T.n_int (by decide +kernel) (pa_cons (pe_cmpR op_gt (pv 2) pe_int (nomark _)) pa_nil)) (pe_callTy call_int1 (by rfl) T.n_int (by decide +kernel) (pa_cons (pe_cmpR op_lt (pv 2) pe_int (nomark _)) pa_nil)))))), ?_⟩
    refine seq_op fun N hN => ?_
    walk_at "rs"
    refine ⟨_, ha, _, rfl, _, hb, _, rfl, _, rfl, _, rfl, mulW hf.2.2.1 hg.2.2.2, _, hb, _, rfl, _, ha, _, rfl, _, rfl, _, rfl, mulW hg.2.2.1 hf.2.2.2, hN _ _ ?_⟩
    clear hN N
    walk_at "rs"
    exact k
def sp_holds (K : PySem.W.Frag) : Sp := fun vs H Q _ => ∃ (v : V) (r : PyData) (a b : Addr) (f g : Fr), vs = [v, .ref a, .ref b] ∧ Dp K H v r ∧ isRelD r = true ∧ Pr K H a f.1 f.2 ∧ Pr K H b g.1 g.2 ∧ okB 4000 f ∧ okB 4000 g ∧ ∀ H', Same H H' → Q (.bl (relF r f g)) H'
theorem ok__law_holds (T : Txt w K mg) : FnOk P w K mg base CX0 2 T.a__law_holds T.d__law_holds ["mark", "one", "two"] (sp_holds K) := by
  refine T.F__law_holds.ok sc__law_holds (fun vs H Q E h => ?_) (fun cdv A outer s H vs Q E hr h => ?_)
  · obtain ⟨v, r, a, b, f, g, rfl, _⟩ := h
    rfl
  · obtain ⟨v, r, a, b, f, g, rfl, hv, hrel, ha, hb, hf, hg, k⟩ := h
    have hu65 : (A.deeper (envOfC "_law_holds" (defScope s__law_holds) s.heap.objs.size T.a__law_holds cdv)).units + 65 < cLine := Nat.lt_of_le_of_lt (Nat.add_le_add_left (by decide : 65 ≤ 16 * 1 + 200) _) hr.un
    have hr__law_order : Room 1 _ := hr.mono (by decide)
    have G__law_order := ok__law_order (P := P) (base := base) T
    refine ⟨_, (pss_cons (ps_if (pt_val (pe_callB (call_isiDK (K := K) rfl) (by rfl) T.n_isinstance (by decide +kernel) (pa_cons (pv 0) (pa_cons (pe_bltn (v := .ty "tuple") (u := .type "tuple") (by rfl) T.n_tuple (by decide +kernel) rfl) pa_nil)))) (pss_one (ps_ret (pe_cmpR (op_inDT hu65) (pe_tupU (pa_cons (pv 1) (pa_cons (pv 2) pa_nil))) (pv 0) (by rfl)))) pss_nil)
      (pss_cons (ps_set (i := 3) sc__law_holds.nd rfl (Or.inl rfl) (pe_call G__law_order hr__law_order (by rfl) T.m__law_order T.F__law_order.kp T.B__law_order .nil pass0 (pa_cons (pv 1) (pa_cons (pv 2) pa_nil))))
      (pss_cons (ps_if (pt_cmpR op_eqS (pv 0) pe_str (nomark _)) (pss_one (ps_ret (pe_cmpR op_neI (pv 3) pe_int (nomark _)))) pss_nil)
      (pss_one (ps_ret (pe_or (pe_and (pe_cmpR op_lt (pv 3) pe_int (nomark _)) (pe_one (pe_cmpR op_in_sign pe_str (pv 0) (by rfl)))) (pe_or (pe_and (pe_cmpR op_gt (pv 3) pe_int (nomark _)) (pe_one (pe_cmpR op_in_sign pe_str (pv 0) (by rfl)))) (pe_one (pe_and (pe_cmpR op_eqI (pv 3) pe_int (nomark _)) (pe_one (pe_cmpR op_in_sign pe_str (pv 0) (by rfl)))))))))))), ?_⟩
    refine seq_op fun N hN => ?_
    walk_at "rs"
    obtain ⟨z, hz, rfl⟩ | ⟨ps, rfl, hp⟩ := rel_cases hrel
    rotate_left
    · refine ⟨v, "tuple", ⟨rfl, rfl⟩, _, hv, by decide, iteTT rfl ?_⟩
      refine ⟨by decide, fun q H1 s1 n1 h1 => ⟨prD (f, g), ps.map prD, ?_, dp_same s1 hv, pr_shaped _, prs_lay _, k H1 s1⟩⟩
      exact .tup (SqT.of h1) (.cons (dp_same s1 (dp_pair ha)) (.cons (dp_same s1 (dp_pair hb)) .nil))
    cases hv
    replace k : Q (.bl (holdsF z f g)) H := k H (Same.refl _)
    refine ⟨_, _, ⟨rfl, rfl⟩, .str z, .str z, by decide, iteFF (by exact Bool.false_ne_true) (hN _ _ ?_)⟩
    clear hN N
    refine seq_op fun N hN => ?_
    walk_at "rs"
    refine ⟨_, _, ⟨rfl, rfl⟩, f, ha, g, hb, hf, hg, hN _ _ ?_⟩
    clear hN N
    have gz := gap_zero hf hg
    have o1 := ord3_lt (gapF f g)
    have o2 := ord3_gt (gapF f g)
    have o3 := ord3_eq (gapF f g)
    generalize ord3 (gapF f g) = o at *
    have eqd : decide (f = g) = decide (o = 0) := decide_eq_decide.mpr (gz.symm.trans o3.symm)
    have ltd : decide (gapF f g < 0) = decide (o < 0) := decide_eq_decide.mpr o1.symm
    have gtd : decide (0 < gapF f g) = decide (0 < o) := decide_eq_decide.mpr o2.symm
    unfold holdsF at k
    rw [eqd, ltd, gtd] at k
    refine seq_op fun N hN => ?_
    walk_at "rs"
    refine ite2 (fun c => ?_) (fun c => hN _ _ ?_)
    · subst c
      rw [if_neg (by decide), if_pos rfl] at k
      exact k
    clear hN N
    obtain ⟨t1, t2, t3⟩ := hb_tab z hz c
    have hk : Q (.bl (hbF z (decide (o < 0)) (decide (0 < o)) (decide (o = 0)))) H := k
    walk_at "rs"
    rcases Int.lt_trichotomy o 0 with c0 | c0 | c0
    · rw [decide_eq_true c0, decide_eq_false (show ¬ 0 < o by omega), decide_eq_false (show ¬ o = 0 by omega), t1] at hk
      refine iteTT c0 ⟨60, by rfl, ite2 (fun m => ?_) (fun m => iteFF (by omega) (iteFF (by omega) ?_))⟩
      · rw [decide_eq_true m] at hk; exact hk
      · rw [decide_eq_false m] at hk; exact hk
    · rw [decide_eq_false (show ¬ o < 0 by omega), decide_eq_false (show ¬ 0 < o by omega), decide_eq_true c0, t3] at hk
      exact iteFF (by omega) (iteFF (by omega) (iteTT c0 ⟨61, by rfl, hk⟩))
    · rw [decide_eq_false (show ¬ o < 0 by omega), decide_eq_true c0, decide_eq_false (show ¬ o = 0 by omega), t2] at hk
      refine iteFF (by omega) (iteTT c0 ⟨62, by rfl, ite2 (fun m => ?_) (fun m => iteFF (by omega) ?_)⟩)
      · rw [decide_eq_true m] at hk; exact hk
      · rw [decide_eq_false m] at hk; exact hk
theorem ok_related (T : Txt w K mg) : FnOk P w K mg base CX0 3 T.a_related T.d_related ["relation", "a", "b"] (sp_holds K) := by
  refine T.F_related.ok sc_related (fun vs H Q E h => ?_) (fun cdv A outer s H vs Q E hr h => ?_)
  · obtain ⟨v, r, a, b, f, g, rfl, _⟩ := h
    rfl
  · obtain ⟨v, r, a, b, f, g, rfl, hv, hrel, ha, hb, hf, hg, k⟩ := h
    have hu65 : (A.deeper (envOfC "related" (defScope s_related) s.heap.objs.size T.a_related cdv)).units + 65 < cLine := Nat.lt_of_le_of_lt (Nat.add_le_add_left (by decide : 65 ≤ 16 * 2 + 200) _) hr.un
    have hr_compared : Room 2 _ := hr
    have G_compared := ok_compared (P := P) (base := base) T
    refine ⟨_, (pss_cons (ps_if (pt_val (pe_callB (call_isiDK (K := K) rfl) (by rfl) T.n_isinstance (by decide +kernel) (pa_cons (pv 0) (pa_cons (pe_bltn (v := .ty "str") (u := .type "str") (by rfl) T.n_str (by decide +kernel) rfl) pa_nil)))) (pss_one (ps_ret (pe_call G_compared hr_compared (by rfl) T.m_compared T.F_compared.kp T.B_compared .nil pass0 (pa_cons (pv 0) (pa_cons (pv 1) (pa_cons (pv 2) pa_nil)))))) pss_nil)
      (pss_one (ps_ret (pe_cmpR (op_inDT hu65) (pe_tupU (pa_cons (pv 1) (pa_cons (pv 2) pa_nil))) (pv 0) (by rfl))))), ?_⟩
    refine seq_op fun N hN => ?_
    walk_at "rs"
    obtain ⟨z, hz, rfl⟩ | ⟨ps, rfl, hp⟩ := rel_cases hrel
    · refine ⟨v, "str", ⟨rfl, rfl⟩, _, hv, by decide, iteTT rfl ?_⟩
      cases hv
      exact ⟨z, a, b, f, g, rfl, ha, hb, hf, hg, k⟩
    · refine ⟨v, "str", ⟨rfl, rfl⟩, _, hv, by decide, iteFF (by exact Bool.false_ne_true) (hN _ _ ?_)⟩
      clear hN N
      walk_at "rs"
      refine ⟨by decide, fun q H1 s1 n1 h1 => ⟨prD (f, g), ps.map prD, ?_, dp_same s1 hv, pr_shaped _, prs_lay _, k H1 s1⟩⟩
      exact .tup (SqT.of h1) (.cons (dp_same s1 (dp_pair ha)) (.cons (dp_same s1 (dp_pair hb)) .nil))
end
end LK

set_option Elab.async false
set_option linter.all false
set_option maxRecDepth 100000
set_option pp.deepTerms true
set_option pp.maxSteps 20000
namespace LK
open PySem PySem.Spec PyProof.Rows L2
local macro_rules | `(tactic| walk_at "rs") => `(tactic| simp only [cxK, cxNK, tCallZ, tAsg, tOp, rI0, rS0, rB0, rI, rU, tUn, rEq, rNe, rIxL, rIxT, rIxS, rSetL, rSlLU, rSlS, rSlU, rCatL, rCatU, rRepL, rIn, tVar, tC, gName, gSub, tIfS, tTest, tB, tAnd, tOr, tNot, tNotV, tAndV, tOrV, tIf, tCall, tCons, tNil, tCB, tDrop, tRet, tRetN, tNext, tLstU, tTupU, tM0, tM1, tPar, tPar3, tAug, ipI, tBM, tBM0, rAppend, rPop, tBreak, tCont, tChain, tSl, tPart, tNoPart, L2.start, List.map, List.length_cons, List.length_nil, List.replicate, List.cons_append, List.nil_append, List.append_nil, List.getElem?_cons_zero, List.getElem?_cons_succ, List.set_cons_zero, List.set_cons_succ, Option.some.injEq, V.int.injEq, V.ref.injEq, V.str.injEq, V.bl.injEq, exists_eq_left', exists_eq_left, exists_and_left, decide_eq_true_eq, List.cons.injEq, and_true, true_and, scal, Bool.not_eq_true', decide_eq_false_iff_not, Nat.zero_add, Nat.reduceAdd, Nat.reduceSub, reduceCtorEq, false_and, exists_false, false_or, or_false, CPow, CMul, CDiv, Int.reduceToNat, ↓reduceIte, wipe, sw, List.nil_append, List.singleton_append])
local macro_rules | `(tactic| walk_at "st") => `(tactic| (refine seq_op fun N hN => ?_; walk_at "rs"))
local macro_rules | `(tactic| walk_at "sd") => `(tactic| first | assumption | decide | omega)
local macro_rules | `(tactic| walk_at "rd") => `(tactic| repeat (first
  | refine ⟨_, SqL.of (by assumption), ?_⟩ | refine ⟨_, SqL.of upd_same, ?_⟩ | refine ⟨_, .inl (SqL.of (by assumption)), ?_⟩ | refine ⟨_, (by assumption : _ = some (HO.lst _)), ?_⟩ | refine ⟨_, upd_same, ?_⟩
  | refine ⟨_, rfl, ?_⟩ | refine And.intro (by walk_at "sd") ?_))

open TL
/-- one of a text's signs -/
theorem of_sign {K : PySem.W.Frag} {H : Hp} {b c : Addr} (B : Bag H b c) {z : Str} (h0 : 0 < z.length) (h1 : z.length ≤ 100000) {Q : VK} {E : XK} (k : ∀ c0 H', c0 ∈ z.cps.toList → Bag H' b c → Kp b H H' → Q (.str ⟨#[c0]⟩) H') : sp__law_of K [.ref b, .str z] H Q E := by
  have l : z.cps.toList.length = z.length := len_list z
  refine ⟨b, c, .str z, z.cps.toList.map fun c => V.str ⟨#[c]⟩, rfl, B, .inr (.inr ⟨z, rfl, h1, rfl⟩), .inr (.inr ⟨z, rfl, h1, rfl⟩), fun e => ?_, by rw [List.length_map]; omega, fun y H' hy B' k' => ?_⟩
  · have := congrArg List.length e
    rw [List.length_map] at this
    simp at this
    simp [this] at l
    omega
  · obtain ⟨c0, hc, rfl⟩ := List.mem_map.mp hy
    exact k c0 H' hc B' k'
theorem joinL_mem : ∀ {ps : List (List Nat)} {c : Nat}, c ∈ joinL [] ps → ∃ p ∈ ps, c ∈ p
  | [], _, h => by cases h
  | [p], c, h => ⟨p, by simp, h⟩
  | p :: q :: r, c, h => by
    have h : c ∈ p ++ ([] ++ joinL [] (q :: r)) := h
    rcases List.mem_append.mp h with h | h
    · exact ⟨p, by simp, h⟩
    · obtain ⟨x, hx, hc⟩ := joinL_mem (ps := q :: r) (by simpa using h)
      exact ⟨x, List.mem_cons_of_mem _ hx, hc⟩
theorem signs_of : ∀ {l : List V} {p : Nat → Prop}, (∀ v ∈ l, ∃ c, v = V.str ⟨#[c]⟩ ∧ p c) → ∃ zs : List Str, l = zs.map V.str ∧ ∀ z ∈ zs, ∃ c, z = ⟨#[c]⟩ ∧ p c
  | [], _, _ => ⟨[], rfl, fun _ h => by cases h⟩
  | v :: l, p, h => by
    obtain ⟨zs, rfl, hz⟩ := signs_of (l := l) fun x hx => h x (List.mem_cons_of_mem _ hx)
    obtain ⟨c, rfl, hc⟩ := h v (by simp)
    exact ⟨⟨#[c]⟩ :: zs, rfl, fun z hz2 => by
      rcases List.mem_cons.mp hz2 with rfl | hz2
      · exact ⟨c, rfl, hc⟩
      · exact hz z hz2⟩
/-- a sign, and some more: a word -/
theorem word_of {c0 : Nat} (h0 : inS c0 LETs = true) {zs : List Str} (hl : zs.length ≤ 5) (hz : ∀ z ∈ zs, ∃ c, z = ⟨#[c]⟩ ∧ (inS c LETs || inS c FIGs) = true) : isWordS (⟨#[c0]⟩ ++ Txt.join "" zs) = true ∧ (⟨#[c0]⟩ ++ Txt.join "" zs : Str).length ≤ 6 := by
  have e : (⟨#[c0]⟩ ++ Txt.join "" zs : Str).cps.toList = c0 :: joinL [] (zs.map tl) := by
    show tl (⟨#[c0]⟩ ++ Txt.join "" zs) = _
    rw [tl_append, join_eq, tl_join]
    rfl
  have hlen : (⟨#[c0]⟩ ++ Txt.join "" zs : Str).length ≤ 6 := by
    rw [str_append_len]
    have j := join_len "" zs
    have sm : (zs.map (·.length)).sum ≤ zs.length * 1 := sum_le fun z hz2 => by
      obtain ⟨c, rfl, _⟩ := hz z hz2
      exact Nat.le_refl 1
    have l1 : (⟨#[c0]⟩ : Str).length = 1 := rfl
    have l2 : zs.length * (Str.ofString "").length = 0 := Nat.mul_zero _
    have j2 : (Txt.join (Str.ofString "") zs).length ≤ 5 := by omega
    omega
  refine ⟨?_, hlen⟩
  unfold isWordS
  split
  · rename_i e2
    rw [e] at e2
    cases e2
  · rename_i x r e2
    rw [e] at e2
    cases e2
    rw [Bool.and_eq_true, Bool.and_eq_true, decide_eq_true_iff]
    refine ⟨hlen, h0, List.all_eq_true.mpr fun c hc => ?_⟩
    rcases List.mem_cons.mp hc with rfl | hc
    · rw [h0]; rfl
    · obtain ⟨p, hp, hc⟩ := joinL_mem hc
      obtain ⟨z, hz2, rfl⟩ := List.mem_map.mp hp
      obtain ⟨c1, rfl, h1⟩ := hz z hz2
      have : c ∈ [c1] := hc
      obtain rfl : c = c1 := by simpa using this
      exact h1
theorem own9 {z : Str} (h : isWordS z = true) : isOwnD (.str (cutS z none (some 1) ++ "9")) = true := by
  have w := h
  unfold isWordS at w
  split at w
  · cases w
  · rename_i c r e
    rw [Bool.and_eq_true, Bool.and_eq_true] at w
    have e2 : cutS z none (some 1) = ⟨#[c]⟩ := str_ext (by rw [cut1, e]; rfl)
    have e3 : (⟨#[c]⟩ ++ ("9" : Str) : Str).cps.toList = [c, 57] := by
      have e1 : tl (⟨#[c]⟩ ++ ("9" : Str)) = tl ⟨#[c]⟩ ++ tl ("9" : Str) := tl_append _ _
      have e9 : tl ("9" : Str) = [57] := by decide +kernel
      rw [e9] at e1
      exact e1
    have l3 : (⟨#[c]⟩ ++ ("9" : Str) : Str).length ≤ 6 := by rw [← len_list, e3]; simp
    rw [e2]
    show (isWordS _ && !inV _ (keptL.map V.str)) = true
    rw [Bool.and_eq_true, inL]
    constructor
    · unfold isWordS
      split
      · rename_i e4; rw [e3] at e4; cases e4
      · rename_i e4
        rw [e3] at e4
        cases e4
        rw [Bool.and_eq_true, Bool.and_eq_true, decide_eq_true_iff]
        refine ⟨l3, w.2.1, ?_⟩
        have f9 : inS 57 FIGs = true := by decide +kernel
        simp [w.2.1, f9]
    · have q : ∀ y ∈ keptL, y.cps.toList.getLastD 0 ≠ 57 := by decide +kernel
      have : ¬ (⟨#[c]⟩ ++ ("9" : Str) : Str) ∈ keptL := fun hm => q _ hm (by rw [e3]; rfl)
      rw [decide_eq_false this]; rfl
theorem own_name {z : Str} (h : isOwnD (.str z) = true) : isNameD (.str z) = true := by
  show (isOwnD (.str z) || _) = true
  rw [h]; rfl
/-- lowest terms, and small -/
def FrOk (f : Int × Int) : Prop := isFrac (frD f) = true ∧ f.2 ≤ 9999 ∧ f.1.natAbs ≤ 1000000
theorem nw_kp {H G G' : Hp} {b : Addr} {xb : HO} (e : H b = some xb) (k : Kp b G G') : Same (nw H G) (nw H G') := nw_mono (fun _ _ q => q) fun x o q h => k.hd h (fun z => by rw [z, e] at q; cases q)
/-- items at hand: fractions new from H on -/
structure Gn (K : PySem.W.Frag) (H : Hp) (b c : Addr) (G : Hp) (L : List V) : Prop where
  b0 : Bag H b c
  bag : Bag G b c
  kp : Kp b H G
  all : ∀ v ∈ L, ∃ f, FrOk f ∧ Dp K (nw H G) v (frD f)
theorem Gn.free {K : PySem.W.Frag} {H : Hp} {b c : Addr} {G : Hp} {L : List V} (g : Gn K H b c G L) {t : Addr} (n : G t = none) : H t = none := by
  obtain ⟨xb, e⟩ := g.bag.at
  exact Kp.bn g.kp e n
theorem Gn.step {K : PySem.W.Frag} {H : Hp} {b c : Addr} {G G' : Hp} {L : List V} (g : Gn K H b c G L) (B : Bag G' b c) (k : Kp b G G') : Gn K H b c G' L := by
  obtain ⟨xb, e⟩ := g.b0.at
  exact ⟨g.b0, B, Same.trans g.kp k, fun v hv => by
    obtain ⟨f, a, d⟩ := g.all v hv
    exact ⟨f, a, dp_same (nw_kp e k) d⟩⟩
theorem Gn.same {K : PySem.W.Frag} {H : Hp} {b c : Addr} {G G' : Hp} {L : List V} (g : Gn K H b c G L) (s : Same G G') : Gn K H b c G' L := g.step (g.bag.same s) (Kp.of s)
theorem Gn.new {K : PySem.W.Frag} {H : Hp} {b c : Addr} {G G' : Hp} {L : List V} {t : Addr} {p q : Int} (g : Gn K H b c G L) (s : Same G G') (n : G t = none) (h : G' t = some (.tup [.int p, .int q])) (ok : FrOk (p, q)) : Gn K H b c G' (L ++ [.ref t]) := by
  have g2 := g.same s
  refine ⟨g2.b0, g2.bag, g2.kp, fun v hv => ?_⟩
  rcases List.mem_append.mp hv with hv | hv
  · exact g2.all v hv
  · obtain rfl : v = .ref t := by simpa using hv
    exact ⟨(p, q), ok, .tup (SqT.of (nw_of (g.free n) h)) (.cons (.int _) (.cons (.int _) .nil))⟩
theorem hb2 {H H' : Hp} {b D : Addr} (k : Kp b H H') : Same (hb (hb H b) D) (hb (hb H' b) D) := fun x o h => by
  obtain ⟨n1, h1⟩ := hb_some h
  obtain ⟨n2, h2⟩ := hb_some h1
  rw [hb_ne n1, hb_ne n2]
  exact k.hd h2 n2
theorem nw_hide {H0 G H3 : Hp} {b D : Addr} {xb : HO} (e : H0 b = some xb) (k : Kp b G H3) (hD : G D = none) : Same (nw H0 G) (nw H0 (hb (hb H3 b) D)) := nw_mono (fun _ _ q => q) fun x o q h => by
  have n1 : x ≠ b := fun z => by rw [z, e] at q; cases q
  have n2 : x ≠ D := fun z => by rw [z, hD] at h; cases h
  rw [hb_ne n2, hb_ne n1]
  exact k.hd h n1
theorem nw_show {H0 H3 : Hp} {b D : Addr} : Same (nw H0 (hb (hb H3 b) D)) (nw H0 H3) := nw_mono (fun _ _ q => q) fun x o _ h => (hb_some (hb_some h).2).2
/-- a comprehension that draws, its items made of what is at hand -/
theorem lc_keep {J : It} {n : Nat} {G : Hp → Prop} {Y : Nat → Hp → V → Hp → Prop} (w : Walk J n G Y) {te : TE} {i : Nat} {σ : L2.St} {H1 : Hp} {D b c : Addr} {Qd : Hp → Prop} (R : Hp → V → Prop) (mono : ∀ G G' v, Same G G' → R G v → R G' v) (hD : H1 D = none) (hB : Bag H1 b c) (hn : n ≤ 1000000)
    (hY : ∀ k H x H', Y k H x H' → H' = H) (hG : ∀ H, Kp b H1 H → G H)
    (hs : ∀ x H, Kp b H1 H → Bag H b c → H D ≠ none → ∀ Q2 : V → Hp → Prop, (∀ v H3, Bag H3 b c → Kp b H H3 → R (hb (hb H3 b) D) v → Q2 v H3) → te ((wipe σ [i]).set i (some x)) H Q2)
    (hq : ∀ H' ys, Bag H' b c → Kp b H1 H' → H' D = some (.lst ys) → ys.length = n → (∀ v ∈ ys, R (hb (hb H' b) D) v) → Qd H') :
    ∃ W : Nat → Nat → Hp → Prop, (∃ m, W 0 m (L2.upd H1 D (.lst []))) ∧ ∀ i' m H, W i' m H →
      (J.stop i' H ∧ Qd H) ∨ (J.go i' H ∧ ∃ Nx : Hp → Prop, (∀ H', Nx H' → ∃ m', m' < m ∧ W (i' + 1) m' H') ∧ ∀ x H', J.yld i' H x H' → gName i x (wipe σ [i]) H' fun σ2 H2 => wipe σ2 [i] = wipe σ [i] ∧ tYes σ2 H2 fun b H3 =>
        if b = true then te σ2 H3 fun y H4 => ∃ acc, H4 D = some (.lst acc) ∧ acc.length < sizeLine ∧ Nx (L2.upd H4 D (.lst (acc ++ [y]))) else Nx H3) := by
  obtain ⟨xb, eb⟩ := hB.at
  obtain ⟨xc, ec⟩ := hB.at2
  have nbD : b ≠ D := fun e => by rw [← e, eb] at hD; cases hD
  have ncD : c ≠ D := fun e => by rw [← e, ec] at hD; cases hD
  have up : ∀ {H : Hp} {o : HO}, Kp b H1 H → Kp b H1 (L2.upd H D o) := fun s a u e => by
    obtain ⟨h1, h2⟩ := hb_some e
    rw [hb_ne h1, upd_ne (ne_of_none h2 hD)]
    exact s.hd h2 h1
  have hid : ∀ {H : Hp} {o : HO}, Same (hb (hb H b) D) (hb (hb (L2.upd H D o) b) D) := fun x u e => by
    obtain ⟨n1, h1⟩ := hb_some e
    obtain ⟨n2, h2⟩ := hb_some h1
    rw [hb_ne n1, hb_ne n2, upd_ne n1]
    exact h2
  refine lc_it w (fun i H => Kp b H1 H ∧ Bag H b c ∧ ∃ ys, H D = some (.lst ys) ∧ ys.length = i ∧ ∀ v ∈ ys, R (hb (hb H b) D) v) ⟨up (Kp.refl _ _), hB.upd nbD ncD, [], upd_same, rfl, fun v hv => absurd hv (by simp)⟩ (fun i H _ h => hG H h.1) (fun i' x H H' hi ⟨s1, B1, ys, h1, hl, hp⟩ hY' => ?_) (fun H ⟨s1, B1, ys, h1, hl, hp⟩ => hq H ys B1 s1 h1 hl hp)
  have e := hY _ _ _ _ hY'
  subst e
  refine ⟨?_, ?_⟩
  · show ((σ.set i none).set i (some x)).set i none = σ.set i none
    rw [List.set_set, List.set_set]
  simp only [tYes, eq_self, ite_true]
  refine hs x H' s1 B1 (by rw [h1]; exact Option.some_ne_none _) _ fun v H3 B3 k3 hv => ⟨ys, k3.hd h1 nbD.symm, ?_, up (Same.trans s1 k3), B3.upd nbD ncD, ys ++ [v], upd_same, by rw [List.length_append, hl]; rfl, fun u hu => ?_⟩
  · rw [hl]
    exact Nat.lt_of_lt_of_le (Nat.lt_of_lt_of_le hi hn) (by decide)
  · rcases List.mem_append.mp hu with hu | hu
    · exact mono _ _ _ (Same.trans (hb2 k3) hid) (hp u hu)
    · obtain rfl : u = v := by simpa using hu
      exact mono _ _ _ hid hv
theorem prs_of {K : PySem.W.Frag} {G : Hp} : ∀ {l : List V}, (∀ v ∈ l, ∃ p : (Int × Int) × (Int × Int), (isVal (frD p.1) = true ∧ isVal (frD p.2) = true) ∧ Dp K G v (prD p)) → ∃ ps : List ((Int × Int) × (Int × Int)), DpAll K G l (ps.map prD) ∧ (∀ p ∈ ps, isVal (frD p.1) = true ∧ isVal (frD p.2) = true) ∧ ps.length = l.length
  | [], _ => ⟨[], .nil, fun _ h => (by cases h), rfl⟩
  | v :: l, h => by
    obtain ⟨ps, a, b, c⟩ := prs_of (l := l) fun x hx => h x (List.mem_cons_of_mem _ hx)
    obtain ⟨p, hp, hd⟩ := h v (by simp)
    exact ⟨p :: ps, .cons hd a, fun y hy => by
      rcases List.mem_cons.mp hy with rfl | hy
      · exact hp
      · exact b y hy, by simp [c]⟩
theorem frs_of {K : PySem.W.Frag} {G : Hp} : ∀ {l : List V}, (∀ v ∈ l, ∃ f : Int × Int, isVal (frD f) = true ∧ Dp K G v (frD f)) → ∃ fs : List (Int × Int), DpAll K G l (fs.map frD) ∧ (∀ f ∈ fs, isVal (frD f) = true) ∧ fs.length = l.length
  | [], _ => ⟨[], .nil, fun _ h => (by cases h), rfl⟩
  | v :: l, h => by
    obtain ⟨fs, a, b, c⟩ := frs_of (l := l) fun x hx => h x (List.mem_cons_of_mem _ hx)
    obtain ⟨f, hf, hd⟩ := h v (by simp)
    exact ⟨f :: fs, .cons hd a, fun y hy => by
      rcases List.mem_cons.mp hy with rfl | hy
      · exact hf
      · exact b y hy, by simp [c]⟩
section
variable {P : Program} {w : World} {K : PySem.W.Frag} {mg : Str → Option Value} {base : Heap}
/-- a name -/
theorem ok__law_name (T : Txt w K mg) : FnOk P w K mg base CX0 3 T.a__law_name T.d__law_name ["bag"] (fun vs H Q _ => ∃ b c, vs = [.ref b] ∧ Bag H b c ∧ ∀ z H', isNameD (.str z) = true → Bag H' b c → Kp b H H' → Q (.str z) H') := by
  refine T.F__law_name.ok sc__law_name (fun vs H Q E h => ?_) (fun cdv A outer s H vs Q E hr h => ?_)
  · obtain ⟨b, c, rfl, _⟩ := h
    rfl
  · obtain ⟨b, c, rfl, B, k⟩ := h
    have hr__law_draw : Room 1 _ := hr.mono (by decide)
    have G__law_draw := ok__law_draw (P := P) (base := base) T
    have hr__law_of : Room 2 _ := hr
    have G__law_of := ok__law_of (P := P) (base := base) T
    have hr__law_kept : Room 1 _ := hr.mono (by decide)
    have G__law_kept := ok__law_kept (P := P) (base := base) T
    refine ⟨_, (pss_cons (ps_set (i := 1) sc__law_name.nd rfl (Or.inr rfl) pe_str)
      (pss_cons (ps_set (i := 2) sc__law_name.nd rfl (Or.inl rfl) (pe_op op_add_str (pe_call G__law_of hr__law_of (by rfl) T.m__law_of T.F__law_of.kp T.B__law_of .nil pass0 (pa_cons (pv 0) (pa_cons (pv 1) pa_nil))) (pe_join pe_str (pe_lc (own := [("k", 3)]) (g := gName 3) (tt := tYes) rfl sc__law_name.nd (pi_range1 (by rfl) T.n_range (pa_cons (pe_call G__law_draw hr__law_draw (by rfl) T.m__law_draw T.F__law_draw.kp T.B__law_draw .nil pass0 (pa_cons (pv 0) (pa_cons pe_int pa_nil))) pa_nil)) (blkOk_by (own := [("k", 3)]) (N := N__law_name) (sc := defScope s__law_name) (by decide +kernel)) (fun _ _ _ _ _ => pg_name (i := 3) sc__law_name.nd rfl (Or.inl rfl)) (fun _ _ _ _ _ => pts_nil) (fun _ _ _ _ _ => (pe_call G__law_of hr__law_of (by rfl) T.m__law_of T.F__law_of.kp T.B__law_of .nil pass0 (pa_cons (pv 0) (pa_cons (pe_op op_add_str (pv 1) pe_str) pa_nil))))))))
      (pss_cons (ps_if (pt_cmpR op_in_seq (pv 2) (pe_call0 G__law_kept hr__law_kept (by rfl) T.m__law_kept T.F__law_kept.kp T.B__law_kept .nil pass0) (by rfl)) (pss_one (ps_set (i := 2) sc__law_name.nd rfl (Or.inl rfl) (pe_op op_add_str (pe_slice sl_str (pv 2) po_none (po_some pe_int)) pe_str))) pss_nil)
      (pss_one (ps_ret (pe_call G__law_of hr__law_of (by rfl) T.m__law_of T.F__law_of.kp T.B__law_of .nil pass0 (pa_cons (pv 0) (pa_cons (pe_lstU (pa_cons (pv 2) (pa_cons (pv 2) (pa_cons pe_str (pa_cons pe_str (pa_cons pe_str (pa_cons pe_str (pa_cons pe_str (pa_cons pe_str pa_nil))))))))) pa_nil)))))))), ?_⟩
    refine seq_op fun N hN => ?_
    walk_at "rs"
    refine hN _ _ ?_
    clear hN N
    refine seq_op fun N hN => ?_
    walk_at "rs"
    refine of_sign B (by decide +kernel) (by decide +kernel) fun c0 H1 hc0 B1 K1 => ⟨⟨_, rfl⟩, ?_⟩
    have i0 : inS c0 LETs = true := decide_eq_true hc0
    refine ⟨_, rfl, b, c, 6, rfl, B1, by decide, by decide, fun r H2 r0 r1 B2 K2 => ⟨r, rfl, by omega, by omega, fun D hD => lc_draw walk_range (fun _ v => ∃ c1, v = V.str ⟨#[c1]⟩ ∧ (inS c1 LETs || inS c1 FIGs) = true) (fun _ _ _ _ h => h) hD B2 (by omega) (fun _ _ _ _ y => y.1) (fun _ _ => trivial) ?_ ?_⟩⟩
    · intro x H3 K3 B3 Q2 hq
      walk_at "rs"
      refine ⟨by decide +kernel, of_sign B3 (by decide +kernel) (by decide +kernel) fun c1 H4 hc1 B4 K4 => hq _ H4 B4 K4 ⟨c1, rfl, ?_⟩⟩
      have hc2 : c1 ∈ tl (LETs ++ FIGs) := hc1
      rw [tl_append] at hc2
      rw [Bool.or_eq_true]
      rcases List.mem_append.mp hc2 with h | h
      · exact .inl (decide_eq_true h)
      · exact .inr (decide_eq_true h)
    · intro H3 ys B3 K3 h3 hl hp
      obtain ⟨zs, rfl, hz⟩ := signs_of hp
      rw [List.length_map] at hl
      obtain ⟨w1, w2⟩ := word_of i0 (zs := zs) (by omega) hz
      have sm : (zs.map (·.length)).sum ≤ zs.length * 1 := sum_le fun z hz2 => by
        obtain ⟨c, rfl, _⟩ := hz z hz2
        exact Nat.le_refl 1
      have l2 : zs.length * (Str.ofString "").length = 0 := Nat.mul_zero _
      have l1 : (⟨#[c0]⟩ : Str).length = 1 := rfl
      rw [str_append_len] at w2
      refine ⟨D, rfl, zs, .inl (SqL.of h3), by omega, _, rfl, Nat.le_trans w2 (by decide), hN _ _ ?_⟩
      clear hN N
      have K123 := Same.trans K1 (Same.trans K2 K3)
      generalize (⟨#[c0]⟩ ++ Txt.join (Str.ofString "") zs : Str) = own at w1
      refine seq_op fun N hN => ?_
      walk_at "rs"
      have go : ∀ z H4, isOwnD (.str z) = true → Bag H4 b c → Kp b H3 H4 → N [some (.ref b), some (.str LETs), some (.str z), none] H4 := by
        intro z H4 hz2 B4 K4
        refine hN _ _ ?_
        clear hN N
        walk_at "rs"
        refine ⟨by decide, fun p H5 s5 n5 h5 => ?_⟩
        have hn := own_name hz2
        refine of_newR (R := fun z => isNameD (.str z) = true) B4 [z, z, "a", "b1", "sign", "place", "zz", "tables"] s5 n5 h5 (by simp) (by simp) (fun y hy => ?_) fun y H6 hy B6 K6 => k y H6 hy B6 (Same.trans K123 (Same.trans K4 K6))
        rcases List.mem_cons.mp hy with rfl | hy
        · exact hn
        rcases List.mem_cons.mp hy with rfl | hy
        · exact hn
        have q : ∀ y ∈ (["a", "b1", "sign", "place", "zz", "tables"] : List Str), isNameD (.str y) = true := by decide +kernel
        exact q y hy
      have wl : own.length ≤ 6 := (free_of (c := 32) (by decide +kernel) (by decide +kernel) w1).2.1
      refine ⟨rfl, fun p H4 s4 n4 h4 => ⟨p, rfl, keptV, .inl (SqL.of h4), rfl, by decide +kernel, ite2 (fun e => ?_) (fun e => ?_)⟩⟩
      · have c1 := cutS_length own none (some 1)
        have l9 : (Str.ofString "9").length = 1 := by decide +kernel
        exact ⟨Nat.le_trans wl (by decide), Nat.le_trans (show _ ≤ 7 by omega) (by decide), go _ H4 (own9 w1) (B3.same s4) (Kp.of s4)⟩
      · refine go _ H4 ?_ (B3.same s4) (Kp.of s4)
        show (isWordS own && !inV _ keptV) = true
        rw [w1, Bool.eq_false_iff.mpr e]
        rfl
/-- a value: a fraction allowed -/
theorem ok__law_value (T : Txt w K mg) : FnOk P w K mg base CX0 3 T.a__law_value T.d__law_value ["bag"] (fun vs H Q _ => ∃ b c, vs = [.ref b] ∧ Bag H b c ∧ ∀ v f H', isVal (frD f) = true → Dp K (nw H H') v (frD f) → Bag H' b c → Kp b H H' → Q v H') := by
  refine T.F__law_value.ok sc__law_value (fun vs H Q E h => ?_) (fun cdv A outer s H vs Q E hr h => ?_)
  · obtain ⟨b, c, rfl, _⟩ := h
    rfl
  · obtain ⟨b, c, rfl, B, k⟩ := h
    have hr__law_draw : Room 1 _ := hr.mono (by decide)
    have G__law_draw := ok__law_draw (P := P) (base := base) T
    have hr__law_of : Room 2 _ := hr
    have G__law_of := ok__law_of (P := P) (base := base) T
    have hr__law_low : Room 1 _ := hr.mono (by decide)
    have G__law_low := ok__law_low (P := P) (base := base) T
    refine ⟨_, (pss_cons (ps_set (i := 1) sc__law_value.nd rfl (Or.inl rfl) (pe_lstU (pa_cons (pe_tupU (pa_cons pe_int (pa_cons pe_int pa_nil))) (pa_cons (pe_tupU (pa_cons pe_int (pa_cons pe_int pa_nil))) (pa_cons (pe_tupU (pa_cons (pe_un un_neg pe_int) (pa_cons pe_int pa_nil))) (pa_cons (pe_tupU (pa_cons pe_int (pa_cons pe_int pa_nil))) (pa_cons (pe_tupU (pa_cons (pe_un un_neg pe_int) (pa_cons pe_int pa_nil))) (pa_cons (pe_tupU (pa_cons pe_int (pa_cons pe_int pa_nil))) (pa_cons (pe_tupU (pa_cons (pe_un un_neg pe_int) (pa_cons pe_int pa_nil))) (pa_cons (pe_call G__law_low hr__law_low (by rfl) T.m__law_low T.F__law_low.kp T.B__law_low .nil pass0 (pa_cons (pe_op op_sub (pe_call G__law_draw hr__law_draw (by rfl) T.m__law_draw T.F__law_draw.kp T.B__law_draw .nil pass0 (pa_cons (pv 0) (pa_cons pe_int pa_nil))) pe_int) (pa_cons (pe_op op_add pe_int (pe_call G__law_draw hr__law_draw (by rfl) T.m__law_draw T.F__law_draw.kp T.B__law_draw .nil pass0 (pa_cons (pv 0) (pa_cons pe_int pa_nil)))) pa_nil))) pa_nil))))))))))
      (pss_cons (ps_set (i := 2) sc__law_value.nd rfl (Or.inl rfl) (pe_call G__law_of hr__law_of (by rfl) T.m__law_of T.F__law_of.kp T.B__law_of .nil pass0 (pa_cons (pv 0) (pa_cons (pv 1) pa_nil))))
      (pss_one (ps_ret (pe_ifExp (pt_cmpR op_le (pe_callB call_abs (by rfl) T.n_abs (by decide +kernel) (pa_cons (pe_ix ix_tup (pv 2) pe_int (fun _ _ => rfl)) pa_nil)) (pe_op op_mul pe_int (pe_ix ix_tup (pv 2) pe_int (fun _ _ => rfl))) (nomark _)) (pv 2) (pe_tupU (pa_cons pe_int (pa_cons pe_int pa_nil)))))))), ?_⟩
    refine seq_op fun N hN => ?_
    walk_at "rs"
    have g0 : Gn K H b c H [] := ⟨B, B, Kp.refl _ _, fun v h => by cases h⟩
    refine ⟨by decide, fun p0 H0 s0 n0 h0 => ⟨by decide, fun p1 H1 s1 n1 h1 => ⟨by decide, fun p2 H2 s2 n2 h2 => ⟨by decide, fun p3 H3 s3 n3 h3 => ⟨by decide, fun p4 H4 s4 n4 h4 => ⟨by decide, fun p5 H5 s5 n5 h5 => ⟨by decide, fun p6 H6 s6 n6 h6 => ?_⟩⟩⟩⟩⟩⟩⟩
    have g6 := ((((((g0.new s0 n0 h0 (by exact ⟨rfl, by decide, by decide⟩)).new s1 n1 h1 (by exact ⟨rfl, by decide, by decide⟩)).new s2 n2 h2 (by exact ⟨rfl, by decide, by decide⟩)).new s3 n3 h3 (by exact ⟨rfl, by decide, by decide⟩)).new s4 n4 h4 (by exact ⟨rfl, by decide, by decide⟩)).new s5 n5 h5 (by exact ⟨rfl, by decide, by decide⟩)).new s6 n6 h6 (by exact ⟨by decide +kernel, by decide, by decide⟩)
    refine ⟨b, c, 1999, rfl, g6.bag, by decide, by decide, fun r1 H7 r10 r11 B7 K7 => ⟨r1, rfl, b, c, 9999, rfl, B7, by decide, by decide, fun r2 H8 r20 r21 B8 K8 => ⟨r2, rfl, _, _, ⟨rfl, rfl⟩, by omega, ?_, ?_, fun t H9 s9 n9 h9 => ?_⟩⟩⟩
    · exact pow_le (a := 14) (by omega) (by decide)
    · exact pow_le (a := 14) (by omega) (by decide)
    obtain ⟨_, _, q1, q2, q3, q4, _⟩ := fr_spec (r1 - 999) (q := 1 + r2) (by omega)
    have g9 := (g6.step B8 (Same.trans K7 K8)).new s9 n9 h9 ⟨isFrac_iff.mpr ⟨q1, q2⟩, by show frQ _ _ ≤ 9999; omega, by show (frP _ _).natAbs ≤ 1000000; omega⟩
    refine ⟨by decide, fun p10 H10 s10 n10 h10 => hN _ _ ?_⟩
    clear hN N
    have g10 := g9.same s10
    have hb10 : SqL K H10 p10 _ := SqL.of h10
    refine seq_op fun N hN => ?_
    walk_at "rs"
    refine of_lst g10.bag h10 (new_ne g9.bag n10) (by simp) (by simp) fun v H11 hv B11 K11 => hN _ _ ?_
    clear hN N
    obtain ⟨f, ⟨f1, f2, f3⟩, hd⟩ := (g10.step B11 K11).all v hv
    have g11 := g10.step B11 K11
    have hd2 := dp_same nw_in hd
    obtain ⟨a, us, rfl, ha, hus⟩ := dp_tup hd2
    obtain ⟨u1, u2, rfl, hu1, hu2⟩ := dpa_two hus
    cases hu1
    cases hu2
    have f4 := (isFrac_iff.mp f1).1
    walk_at "rs"
    have big : (99 : Int) * f.2 ≤ 99 * 9999 := by omega
    refine ⟨_, ha, _, at_ofN (j := 0) rfl rfl, _, rfl, _, ha, _, at_ofN (j := 1) rfl rfl, _, rfl, .inl (by decide), ite2 (fun e => ?_) (fun e => ?_)⟩
    · refine k _ f H11 ?_ hd B11 g11.kp
      show (isFrac (frD f) && (decide (f.2 ≤ 9999) && decide ((f.1.natAbs : Int) ≤ 99 * f.2))) = true
      rw [f1, decide_eq_true f2, decide_eq_true (by rw [← abs_if]; exact e)]
      rfl
    · refine ⟨by decide, fun p H12 s12 n12 h12 => k _ (7, 3) H12 (by decide +kernel) ?_ (B11.same s12) (Same.trans g11.kp (Kp.of s12))⟩
      exact .tup (SqT.of (nw_of (g11.free n12) h12)) (.cons (.int _) (.cons (.int _) .nil))
theorem ok__law_pairs (T : Txt w K mg) : FnOk P w K mg base CX0 4 T.a__law_pairs T.d__law_pairs ["bag"] (fun vs H Q _ => ∃ b c, vs = [.ref b] ∧ Bag H b c ∧ ∀ v (ps : List ((Int × Int) × (Int × Int))) H', (∀ p ∈ ps, isVal (frD p.1) = true ∧ isVal (frD p.2) = true) → ps.length ≤ 20 → Dp K (nw H H') v (.tuple (ps.map prD)) → Bag H' b c → Kp b H H' → Q v H') := by
  refine T.F__law_pairs.ok sc__law_pairs (fun vs H Q E h => ?_) (fun cdv A outer s H vs Q E hr h => ?_)
  · obtain ⟨b, c, rfl, _⟩ := h
    rfl
  · obtain ⟨b, c, rfl, B, k⟩ := h
    have hr__law_value : Room 3 _ := hr
    have G__law_value := ok__law_value (P := P) (base := base) T
    have hr__law_of : Room 2 _ := hr.mono (by decide)
    have G__law_of := ok__law_of (P := P) (base := base) T
    refine ⟨_, (pss_cons (ps_set (i := 1) sc__law_pairs.nd rfl (Or.inr rfl) (pe_lc (own := [("k", 2)]) (g := gName 2) (tt := tYes) rfl sc__law_pairs.nd (pi_range1 (by rfl) T.n_range (pa_cons pe_int pa_nil)) (blkOk_by (own := [("k", 2)]) (N := N__law_pairs) (sc := defScope s__law_pairs) (by decide +kernel)) (fun _ _ _ _ _ => pg_name (i := 2) sc__law_pairs.nd rfl (Or.inl rfl)) (fun _ _ _ _ _ => pts_nil) (fun _ _ _ _ _ => (pe_call G__law_value hr__law_value (by rfl) T.m__law_value T.F__law_value.kp T.B__law_value .nil pass0 (pa_cons (pv 0) pa_nil)))))
      (pss_one (ps_ret (pe_callTy call_tupleN (by rfl) T.n_tuple (by decide +kernel) (pa_cons (pe_lc (own := [("k", 2)]) (g := gName 2) (tt := tYes) rfl sc__law_pairs.nd (pi_range1 (by rfl) T.n_range (pa_cons (pe_call G__law_of hr__law_of (by rfl) T.m__law_of T.F__law_of.kp T.B__law_of .nil pass0 (pa_cons (pv 0) (pa_cons (pe_lstU (pa_cons pe_int (pa_cons pe_int (pa_cons pe_int (pa_cons pe_int (pa_cons pe_int pa_nil)))))) pa_nil))) pa_nil)) (blkOk_by (own := [("k", 2)]) (N := N__law_pairs) (sc := defScope s__law_pairs) (by decide +kernel)) (fun _ _ _ _ _ => pg_name (i := 2) sc__law_pairs.nd rfl (Or.inl rfl)) (fun _ _ _ _ _ => pts_nil) (fun _ _ _ _ _ => (pe_tupU (pa_cons (pe_call G__law_of hr__law_of (by rfl) T.m__law_of T.F__law_of.kp T.B__law_of .nil pass0 (pa_cons (pv 0) (pa_cons (pv 1) pa_nil))) (pa_cons (pe_call G__law_of hr__law_of (by rfl) T.m__law_of T.F__law_of.kp T.B__law_of .nil pass0 (pa_cons (pv 0) (pa_cons (pv 1) pa_nil))) pa_nil))))) pa_nil))))), ?_⟩
    refine seq_op fun N hN => ?_
    walk_at "rs"
    refine ⟨3, rfl, by decide, by decide, fun D hD => lc_draw walk_range (fun G v => ∃ f : Int × Int, isVal (frD f) = true ∧ Dp K G v (frD f)) (fun _ _ _ s ⟨f, a, d⟩ => ⟨f, a, dp_same s d⟩) hD B (by decide) (fun _ _ _ _ y => y.1) (fun _ _ => trivial) ?_ ?_⟩
    · intro x H1 K1 B1 Q2 hq
      walk_at "rs"
      exact ⟨c, B1, fun v f H2 hf hd B2 K2 => hq v H2 B2 K2 ⟨f, hf, hd⟩⟩
    · intro H1 ys B1 K1 h3 hl hp
      refine hN _ _ ?_
      clear hN N
      walk_at "rs"
      obtain ⟨xb, eb⟩ := B.at
      have hpool : ∀ v ∈ ys, ∃ f : Int × Int, isVal (frD f) = true ∧ Dp K (nw H H1) v (frD f) := fun v hv => by
        obtain ⟨f, hf, hd⟩ := hp v hv
        refine ⟨f, hf, dp_same (nw_mono (fun x _ q => ?_) fun _ _ _ h => h) hd⟩
        by_cases n : x = D
        · rw [n]; exact hD
        · rw [upd_ne n] at q; exact q
      have neD : D ≠ b := new_ne B hD
      refine ⟨_, rfl, by decide, fun p H2 s2 n2 h2 => of_new (E := E0) B1 s2 n2 h2 (by simp) (by simp) fun v H3 hv B3 K3 => ?_⟩
      obtain ⟨n, rfl, n0, n1⟩ : ∃ n : Int, v = .int n ∧ 0 ≤ n ∧ n ≤ 20 := by
        simp only [List.mem_cons, List.mem_nil_iff, or_false] at hv
        rcases hv with rfl | rfl | rfl | rfl | rfl <;> exact ⟨_, rfl, by decide, by decide⟩
      refine ⟨n, rfl, by omega, by omega, fun D2 hD2 => lc_keep walk_range (fun G v => ∃ p : (Int × Int) × (Int × Int), (isVal (frD p.1) = true ∧ isVal (frD p.2) = true) ∧ Dp K (nw H G) v (prD p)) (fun _ _ _ s ⟨p, a, d⟩ => ⟨p, a, dp_same (nw_on s) d⟩) hD2 B3 (by omega) (fun _ _ _ _ y => y.1) (fun _ _ => trivial) ?_ ?_⟩
      · intro x H4 K4 B4 hne Q2 hq
        walk_at "rs"
        have K34 : Kp b H1 H4 := Same.trans K3 K4
        have hD4 := K34.hd h3 neD
        refine of_lst B4 hD4 neD (by intro e; rw [e] at hl; cases hl) (by omega) fun v1 H5 hv1 B5 K5 => ?_
        have hD5 := K5.hd hD4 neD
        refine of_lst B5 hD5 neD (by intro e; rw [e] at hl; cases hl) (by omega) fun v2 H6 hv2 B6 K6 => ⟨by decide, fun t H7 s7 n7 h7 => hq _ H7 (B6.same s7) (Same.trans K5 (Same.trans K6 (Kp.of s7))) ?_⟩
        obtain ⟨f, hf, hdf⟩ := hpool v1 hv1
        obtain ⟨g, hg, hdg⟩ := hpool v2 hv2
        have Kx : Kp b H3 H7 := Same.trans K4 (Same.trans K5 (Same.trans K6 (Kp.of s7)))
        have hid := nw_hide (D := D2) eb (Same.trans K3 Kx) (by
          obtain ⟨x3, e3⟩ := B3.at
          exact Kp.bn K3 e3 hD2)
        refine ⟨(f, g), ⟨hf, hg⟩, .tup (SqT.of (nw_of ?_ ?_)) (.cons (dp_same hid hdf) (.cons (dp_same hid hdg) .nil))⟩
        · obtain ⟨x6, e6⟩ := B6.at
          exact Kp.bn (Same.trans K1 (Same.trans K3 (Same.trans K4 (Same.trans K5 K6)))) e6 n7
        · have nt : t ≠ D2 := fun z => by
            rw [z] at n7
            obtain ⟨x6, e6⟩ := B6.at
            exact hne (Kp.bn (Same.trans K5 K6) e6 n7)
          rw [hb_ne nt, hb_ne (new_ne B6 n7)]
          exact h7
      · intro H4 zs B4 K4 h4 hl4 hp4
        obtain ⟨ps, q1, q2, q3⟩ := prs_of (G := nw H (hb (hb H4 b) D2)) hp4
        have K14 := Same.trans K1 (Same.trans K3 K4)
        refine ⟨D2, rfl, _, SqL.of h4, fun q H5 s5 n5 h5 => k _ ps H5 q2 (by omega) ?_ (B4.same s5) (Same.trans K14 (Kp.of s5))⟩
        refine .tup (SqT.of (nw_of ?_ h5)) (dpa_same (Same.trans nw_show (nw_on s5)) q1)
        obtain ⟨x4, e4⟩ := B4.at
        exact Kp.bn K14 e4 n5
end
end LK

set_option Elab.async false
set_option linter.all false
set_option maxRecDepth 100000
set_option pp.deepTerms true
set_option pp.maxSteps 20000
namespace LK
open PySem PySem.Spec PyProof.Rows L2
local macro_rules | `(tactic| walk_at "rs") => `(tactic| simp only [cxK, cxNK, tCallZ, tAsg, tOp, rI0, rS0, rB0, rI, rU, tUn, rEq, rNe, rIxL, rIxT, rIxS, rSetL, rSlLU, rSlS, rSlU, rCatL, rCatU, rRepL, rIn, tVar, tC, gName, gSub, tIfS, tTest, tB, tAnd, tOr, tNot, tNotV, tAndV, tOrV, tIf, tCall, tCons, tNil, tCB, tDrop, tRet, tRetN, tNext, tLstU, tTupU, tM0, tM1, tPar, tPar3, tAug, ipI, tBM, tBM0, rAppend, rPop, tBreak, tCont, tChain, tSl, tPart, tNoPart, L2.start, List.map, List.length_cons, List.length_nil, List.replicate, List.cons_append, List.nil_append, List.append_nil, List.getElem?_cons_zero, List.getElem?_cons_succ, List.set_cons_zero, List.set_cons_succ, Option.some.injEq, V.int.injEq, V.ref.injEq, V.str.injEq, V.bl.injEq, exists_eq_left', exists_eq_left, exists_and_left, decide_eq_true_eq, List.cons.injEq, and_true, true_and, scal, Bool.not_eq_true', decide_eq_false_iff_not, Nat.zero_add, Nat.reduceAdd, Nat.reduceSub, reduceCtorEq, false_and, exists_false, false_or, or_false, CPow, CMul, CDiv, Int.reduceToNat, ↓reduceIte, wipe, sw, List.nil_append, List.singleton_append])
local macro_rules | `(tactic| walk_at "st") => `(tactic| (refine seq_op fun N hN => ?_; walk_at "rs"))
local macro_rules | `(tactic| walk_at "sd") => `(tactic| first | assumption | decide | omega)
local macro_rules | `(tactic| walk_at "rd") => `(tactic| repeat (first
  | refine ⟨_, SqL.of (by assumption), ?_⟩ | refine ⟨_, SqL.of upd_same, ?_⟩ | refine ⟨_, .inl (SqL.of (by assumption)), ?_⟩ | refine ⟨_, (by assumption : _ = some (HO.lst _)), ?_⟩ | refine ⟨_, upd_same, ?_⟩
  | refine ⟨_, rfl, ?_⟩ | refine And.intro (by walk_at "sd") ?_))

open TL
theorem small_str {i : Int} (h1 : -20 ≤ i) (h2 : i ≤ 20) : (Str.ofString (toString i)).length ≤ 20 := by
  have q : ∀ k : Fin 41, (Str.ofString (toString (((k.val : Nat) : Int) - 20))).length ≤ 20 := by decide +kernel
  have e := q ⟨(i + 20).toNat, by omega⟩
  rw [show (((i + 20).toNat : Nat) : Int) - 20 = i by omega] at e
  exact e
/-- what holds of the two lists of _law_prefix -/
structure Pfx (b c : Addr) (H H2 : Hp) (o m : Addr) (os ms : List Str) : Prop where
  bag : Bag H2 b c
  kp : Kp b H H2
  o0 : H o = none
  m0 : H m = none
  om : o ≠ m
  ob : o ≠ b
  mb : m ≠ b
  oc : c ≠ o
  mc : c ≠ m
  ho : H2 o = some (.lst (os.map V.str))
  hm : H2 m = some (.lst (ms.map V.str))
  eo : ∀ z ∈ os, z = "e" ∨ z = "k"
  em : ∀ z ∈ ms, z.length ≤ 20
theorem kp_upd {b p : Addr} {H H2 : Hp} {o : HO} (k : Kp b H H2) (h0 : H p = none) : Kp b H (L2.upd H2 p o) := fun a u e => by
  obtain ⟨h1, h2⟩ := hb_some e
  rw [hb_ne h1, upd_ne (ne_of_none h2 h0)]
  exact k.hd h2 h1
section
variable {b c : Addr} {H H2 H3 : Hp} {o m : Addr} {os ms : List Str}
theorem Pfx.call (p : Pfx b c H H2 o m os ms) (B : Bag H3 b c) (k : Kp b H2 H3) : Pfx b c H H3 o m os ms :=
  ⟨B, Same.trans p.kp k, p.o0, p.m0, p.om, p.ob, p.mb, p.oc, p.mc, k.hd p.ho p.ob, k.hd p.hm p.mb, p.eo, p.em⟩
theorem Pfx.same (p : Pfx b c H H2 o m os ms) (s : Same H2 H3) : Pfx b c H H3 o m os ms := p.call (p.bag.same s) (Kp.of s)
theorem Pfx.pushm (p : Pfx b c H H2 o m os ms) {z : Str} (hz : z.length ≤ 20) : Pfx b c H (L2.upd H2 m (.lst (ms.map V.str ++ [V.str z]))) o m os (ms ++ [z]) :=
  ⟨p.bag.upd p.mb.symm p.mc, kp_upd p.kp p.m0, p.o0, p.m0, p.om, p.ob, p.mb, p.oc, p.mc, by rw [upd_ne p.om]; exact p.ho, by rw [upd_same, List.map_append]; rfl, p.eo, fun y hy => by
    rcases List.mem_append.mp hy with hy | hy
    · exact p.em y hy
    · obtain rfl : y = z := by simpa using hy
      exact hz⟩
theorem Pfx.pusho (p : Pfx b c H H2 o m os ms) {z : Str} (hz : z = "e" ∨ z = "k") : Pfx b c H (L2.upd H2 o (.lst (os.map V.str ++ [V.str z]))) o m (os ++ [z]) ms :=
  ⟨p.bag.upd p.ob.symm p.oc, kp_upd p.kp p.o0, p.o0, p.m0, p.om, p.ob, p.mb, p.oc, p.mc, by rw [upd_same, List.map_append]; rfl, by rw [upd_ne p.om.symm]; exact p.hm, fun y hy => by
    rcases List.mem_append.mp hy with hy | hy
    · exact p.eo y hy
    · obtain rfl : y = z := by simpa using hy
      exact hz, p.em⟩
theorem Pfx.pop (p : Pfx b c H H2 o m os ms) : Pfx b c H (L2.upd H2 o (.lst (os.map V.str).dropLast)) o m os.dropLast ms :=
  ⟨p.bag.upd p.ob.symm p.oc, kp_upd p.kp p.o0, p.o0, p.m0, p.om, p.ob, p.mb, p.oc, p.mc, by rw [upd_same, List.map_dropLast], by rw [upd_ne p.om.symm]; exact p.hm, fun y hy => p.eo y (List.dropLast_sublist _ |>.subset hy), p.em⟩
/-- another list in o's place -/
theorem Pfx.newo (p : Pfx b c H H2 o m os ms) (s : Same H2 H3) {o2 : Addr} {os2 : List Str} (h0 : H2 o2 = none) (h : H3 o2 = some (.lst (os2.map V.str))) (eo : ∀ z ∈ os2, z = "e" ∨ z = "k") : Pfx b c H H3 o2 m os2 ms := by
  have q := p.same s
  obtain ⟨xb, eb⟩ := p.bag.at
  obtain ⟨xc, ec⟩ := p.bag.at2
  refine ⟨q.bag, q.kp, Kp.bn p.kp eb h0, p.m0, fun e => ?_, fun e => ?_, p.mb, fun e => ?_, p.mc, h, q.hm, eo, p.em⟩
  · rw [e, p.hm] at h0; cases h0
  · rw [e, eb] at h0; cases h0
  · rw [← e, ec] at h0; cases h0
end
theorem strs_lay : ∀ {zs : List Str}, (∀ z ∈ zs, PyData.canLay0 (.str z) = true) → PyData.canLayAll0 (zs.map PyData.str) = true
  | [], _ => rfl
  | z :: zs, h => by
    show (PyData.canLay0 (.str z) && PyData.canLayAll0 (zs.map PyData.str)) = true
    rw [h z List.mem_cons_self, strs_lay fun y hy => h y (List.mem_cons_of_mem _ hy)]; rfl
theorem strs_depth : ∀ zs : List Str, PyData.depthAll (zs.map PyData.str) = 0
  | [] => rfl
  | z :: zs => by
    show max (PyData.depth (.str z)) (PyData.depthAll (zs.map PyData.str)) = 0
    rw [strs_depth zs]; rfl
theorem strs_shaped {zs : List Str} (h : ∀ z ∈ zs, PyData.canLay0 (.str z) = true) : SeqAt.shaped (.list (zs.map PyData.str)) = true := by
  unfold SeqAt.shaped
  rw [Bool.and_eq_true]
  refine ⟨strs_lay h, decide_eq_true ?_⟩
  show PyData.depthAll (zs.map PyData.str) + 1 ≤ 64
  rw [strs_depth]; decide
/-! ### what the words made so far leave to be made -/
theorem if_ofP {c : TT} {t u : TS} {D : Ends} {σ : L2.St} {H : Hp} (Φ : Bool → Prop) (hc : ∀ K : Bool → Hp → Prop, (∀ b, Φ b → K b H) → c σ H K) (hA : Φ true → t D σ H) (hB : Φ false → u D σ H) : tIfS c t u D σ H := hc _ fun b hb => by
  cases b
  · exact iteFF (by decide) (hB hb)
  · exact iteTT rfl (hA hb)
def code (z : Str) : Nat := if z = "k" then 107 else 101
def codes (os : List Str) : List Nat := (os.map code).reverse
theorem codes_app (a b : List Str) : codes (a ++ b) = codes b ++ codes a := by unfold codes; rw [List.map_append, List.reverse_append]
structure PfW (parts : List Str) (size : Int) (os ms : List Str) : Prop where
  wd : ∀ z ∈ ms, 0 ≤ needsZ z ∧ (nm z = true → z ∈ parts)
  wk : ∀ r, walkL [101] (ms.map PyData.str ++ r) = walkL (codes os) r
  ln : (ms.length : Int) + os.length ≤ size
theorem PfW.step {parts : List Str} {size : Int} {os ms L : List Str} {z0 z : Str} (W : PfW parts size (os ++ [z0]) ms) (hz : 0 ≤ needsZ z) (hn : nm z = true → z ∈ parts) (ho : opsL (.str z) (code z0) = some (codes L)) (hl : (ms.length : Int) + 1 + os.length + L.length ≤ size) : PfW parts size (os ++ L) (ms ++ [z]) where
  wd := fun y hy => by
    rcases List.mem_append.mp hy with hy | hy
    · exact W.wd y hy
    · obtain rfl : y = z := by simpa using hy
      exact ⟨hz, hn⟩
  wk := fun r => by
    have e1 : (ms ++ [z]).map PyData.str ++ r = ms.map PyData.str ++ (PyData.str z :: r) := by simp
    rw [e1, W.wk, codes_app, codes_app]
    show walkL (code z0 :: codes os) (.str z :: r) = _
    simp only [walkL, ho]
  ln := by
    rw [List.length_append, List.length_append, List.length_singleton]
    omega
theorem f_int : ∀ k : Fin 19, ("".length = 0) ∧ 0 ≤ needsZ (Str.ofString (toString ((k.val : Int) - 9))) ∧ nm (Str.ofString (toString ((k.val : Int) - 9))) = false ∧ opsL (.str (Str.ofString (toString ((k.val : Int) - 9)))) 101 = some [] := by decide +kernel
theorem f_fig : ∀ k : Fin 9, 0 ≤ needsZ (Str.ofString (toString (1 + (k.val : Int)))) ∧ nm (Str.ofString (toString (1 + (k.val : Int)))) = false ∧ opsL (.str (Str.ofString (toString (1 + (k.val : Int))))) 107 = some [] ∧ opsL (.str (Str.ofString (toString (1 + (k.val : Int))))) 101 = some [] := by decide +kernel
theorem f_md : ∀ z ∈ (["mod", "div"] : List Str), 0 ≤ needsZ z ∧ nm z = false ∧ opsL (.str z) 101 = some (codes ["k", "e"]) := by decide +kernel
theorem f_op : ∀ z ∈ (["+", "-", "*", "+", "-", "min", "max", "=", "/=", "<", "<=", ">", ">=", "and", "or"] : List Str), 0 ≤ needsZ z ∧ nm z = false ∧ opsL (.str z) 101 = some (codes ["e", "e"]) := by decide +kernel
theorem f_one : 0 ≤ needsZ "not" ∧ nm "not" = false ∧ opsL (.str "not") 101 = some (codes ["e"]) ∧ 0 ≤ needsZ "if" ∧ nm "if" = false ∧ opsL (.str "if") 101 = some (codes ["e", "e", "e"]) := by decide +kernel
theorem f_nm {z : Str} (h : isNameD (.str z) = true) : 0 ≤ needsZ z ∧ nm z = true ∧ opsL (.str z) 101 = some (codes []) := by
  have n2 : ¬ z ∈ ops2L ++ ops1L := fun c => by
    rw [(ops_named z c).2] at h; cases h
  have nz : needsZ z = 0 := by
    unfold needsZ
    rw [inL, inL, decide_eq_false (fun c => n2 (List.mem_append_left _ c)), decide_eq_false (fun c => n2 (List.mem_append_right _ c)), h, Bool.or_true]
    rfl
  refine ⟨by omega, h, ?_⟩
  cases kind z with
  | bad a => omega
  | leaf a m e => exact e
  | one a => omega
  | three a => omega
  | two a => omega
  | mod a => omega
theorem lets_small : ∀ c ∈ LETs.cps.toList, c < 0x110000 := by decide +kernel
theorem figs_small : ∀ c ∈ FIGs.cps.toList, c < 0x110000 := by decide +kernel
theorem word_lay {z : Str} (h : isWordS z = true) : PyData.canLay0 (.str z) = true := by
  unfold isWordS at h
  split at h
  · cases h
  · rename_i c r e
    rw [Bool.and_eq_true, Bool.and_eq_true] at h
    show (z.cps.all fun c => decide (c < 0x110000)) = true
    rw [← Array.all_toList, e]
    refine List.all_eq_true.mpr fun x hx => ?_
    have q := List.all_eq_true.mp h.2.2 x hx
    rw [Bool.or_eq_true] at q
    rcases q with q | q
    · exact decide_eq_true (lets_small x (of_decide_eq_true q))
    · exact decide_eq_true (figs_small x (of_decide_eq_true q))
theorem f_int' {i : Int} (h1 : -9 ≤ i) (h2 : i ≤ 9) : 0 ≤ needsZ (Str.ofString (toString i)) ∧ nm (Str.ofString (toString i)) = false ∧ opsL (.str (Str.ofString (toString i))) 101 = some [] := by
  have q := f_int ⟨(i + 9).toNat, by omega⟩
  rw [show (((i + 9).toNat : Nat) : Int) - 9 = i by omega] at q
  exact q.2
theorem f_fig' {i : Int} (h1 : 1 ≤ i) (h2 : i ≤ 9) : 0 ≤ needsZ (Str.ofString (toString i)) ∧ nm (Str.ofString (toString i)) = false ∧ opsL (.str (Str.ofString (toString i))) 107 = some [] ∧ opsL (.str (Str.ofString (toString i))) 101 = some [] := by
  have q := f_fig ⟨(i - 1).toNat, by omega⟩
  rw [show 1 + (((i - 1).toNat : Nat) : Int) = i by omega] at q
  exact q
def sp_pre (K : PySem.W.Frag) : Sp := fun vs H Q _ => ∃ (b c p : Addr) (parts : List Str) (size : Int), vs = [.ref b, .ref p, .int size] ∧ Bag H b c ∧ hb H b p = some (.lst (parts.map V.str)) ∧ (∀ z ∈ parts, isNameD (.str z) = true) ∧ parts.length ≤ 20 ∧ 1 ≤ size ∧ size ≤ 30 ∧
  ∀ q (ws : List Str) H', Bag H' b c → Kp b H H' → H q = none → H' q = some (.tup (ws.map V.str)) → ws.length ≤ 30 → (∀ z ∈ ws, 0 ≤ needsZ z ∧ (nm z = true → z ∈ parts)) → walkL [101] (ws.map PyData.str) = true → Q (.ref q) H'
section
variable {P : Program} {w : World} {K : PySem.W.Frag} {mg : Str → Option Value} {base : Heap}
theorem ok__law_prefix (T : Txt w K mg) : FnOk P w K mg base CX0 3 T.a__law_prefix T.d__law_prefix ["bag", "parts", "size"] (sp_pre K) := by
  refine T.F__law_prefix.ok sc__law_prefix (fun vs H Q E h => ?_) (fun cdv A outer s H vs Q E hr h => ?_)
  · obtain ⟨b, c, p, parts, size, rfl, _⟩ := h
    rfl
  · obtain ⟨b, c, p, parts, size, rfl, B, hp, hpl, hpn, sz1, sz30, k⟩ := h
    have hr__law_draw : Room 1 _ := hr.mono (by decide)
    have G__law_draw := ok__law_draw (P := P) (base := base) T
    have hr__law_of : Room 2 _ := hr.mono (by decide)
    have G__law_of := ok__law_of (P := P) (base := base) T
    refine ⟨_, (pss_cons (ps_par (i := 3) (j := 4) (by rfl) sc__law_prefix.nd rfl rfl (by decide) rfl rfl (pa_cons (pe_lstU (pa_cons pe_str pa_nil)) (pa_cons (pe_lstU pa_nil) pa_nil)) (by rfl))
      (pss_cons (ps_for PassesOwn.never rfl (pi_range1 (by rfl) T.n_range (pa_cons pe_int pa_nil)) (pg_name (i := 5) sc__law_prefix.nd rfl (Or.inl rfl)) (pss_cons (ps_if (pt_cmpR (op_eqD hr.units) (pv 3) (pe_lstU pa_nil) (nomark _)) (pss_one ps_break) pss_nil)
      (pss_cons (ps_set (i := 6) sc__law_prefix.nd rfl (Or.inl rfl) (pe_bm0 PySem.F.plainAttrs_list PySem.F.slot_list_pop PySem.F.type_list_pop mt_pop (pv 3)))
      (pss_cons (ps_set (i := 7) sc__law_prefix.nd rfl (Or.inl rfl) (pe_op op_sub (pe_op op_sub (pe_op op_sub (pv 2) (pe_callB call_len_seq (by rfl) T.n_len (by decide +kernel) (pa_cons (pv 4) pa_nil))) (pe_callB call_len_seq (by rfl) T.n_len (by decide +kernel) (pa_cons (pv 3) pa_nil))) pe_int))
      (pss_cons (ps_set (i := 8) sc__law_prefix.nd rfl (Or.inl rfl) (pe_call G__law_draw hr__law_draw (by rfl) T.m__law_draw T.F__law_draw.kp T.B__law_draw .nil pass0 (pa_cons (pv 0) (pa_cons pe_int pa_nil))))
      (pss_one (ps_if (pt_cmpR op_eqS (pv 6) pe_str (nomark _)) (pss_one (ps_expr (pe_bm PySem.F.plainAttrs_list PySem.F.slot_list_append PySem.F.type_list_append mt_append (pv 4) (pa_cons (pe_callTy call_str_int (by rfl) T.n_str (by decide +kernel) (pa_cons (pe_op op_add pe_int (pe_call G__law_draw hr__law_draw (by rfl) T.m__law_draw T.F__law_draw.kp T.B__law_draw .nil pass0 (pa_cons (pv 0) (pa_cons pe_int pa_nil)))) pa_nil)) pa_nil)))) (pss_one (ps_if (PW.pt (pw_and (pt_cmpR op_eqI (pv 8) pe_int (nomark _)) (pw_and1 (pt_cmpR op_gt (pv 7) pe_int (nomark _))))) (pss_cons (ps_expr (pe_bm PySem.F.plainAttrs_list PySem.F.slot_list_append PySem.F.type_list_append mt_append (pv 4) (pa_cons pe_str pa_nil)))
      (pss_one (ps_expr (pe_bm PySem.F.plainAttrs_list PySem.F.slot_list_append PySem.F.type_list_append mt_append (pv 3) (pa_cons pe_str pa_nil))))) (pss_one (ps_if (PW.pt (pw_and (pt_cmpR op_eqI (pv 8) pe_int (nomark _)) (pw_and1 (pt_cmpR op_gt (pv 7) pe_int (nomark _))))) (pss_cons (ps_expr (pe_bm PySem.F.plainAttrs_list PySem.F.slot_list_append PySem.F.type_list_append mt_append (pv 4) (pa_cons pe_str pa_nil)))
      (pss_one (ps_set (i := 3) sc__law_prefix.nd rfl (Or.inl rfl) (pe_op op_catL (pv 3) (pe_lstU (pa_cons pe_str (pa_cons pe_str (pa_cons pe_str pa_nil)))))))) (pss_one (ps_if (PW.pt (pw_and (pt_cmpR op_eqI (pv 8) pe_int (nomark _)) (pw_and1 (pt_cmpR op_gt (pv 7) pe_int (nomark _))))) (pss_cons (ps_expr (pe_bm PySem.F.plainAttrs_list PySem.F.slot_list_append PySem.F.type_list_append mt_append (pv 4) (pa_cons (pe_call G__law_of hr__law_of (by rfl) T.m__law_of T.F__law_of.kp T.B__law_of .nil pass0 (pa_cons (pv 0) (pa_cons (pe_lstU (pa_cons pe_str (pa_cons pe_str pa_nil))) pa_nil))) pa_nil)))
      (pss_one (ps_set (i := 3) sc__law_prefix.nd rfl (Or.inl rfl) (pe_op op_catL (pv 3) (pe_lstU (pa_cons pe_str (pa_cons pe_str pa_nil))))))) (pss_one (ps_if (PW.pt (pw_and (pt_cmpR op_gt (pv 8) pe_int (nomark _)) (pw_and1 (pt_cmpR op_gt (pv 7) pe_int (nomark _))))) (pss_cons (ps_expr (pe_bm PySem.F.plainAttrs_list PySem.F.slot_list_append PySem.F.type_list_append mt_append (pv 4) (pa_cons (pe_call G__law_of hr__law_of (by rfl) T.m__law_of T.F__law_of.kp T.B__law_of .nil pass0 (pa_cons (pv 0) (pa_cons (pe_lstU (pa_cons pe_str (pa_cons pe_str (pa_cons pe_str (pa_cons pe_str (pa_cons pe_str (pa_cons pe_str (pa_cons pe_str (pa_cons pe_str (pa_cons pe_str (pa_cons pe_str (pa_cons pe_str (pa_cons pe_str (pa_cons pe_str (pa_cons pe_str (pa_cons pe_str pa_nil)))))))))))))))) pa_nil))) pa_nil)))
      (pss_one (ps_set (i := 3) sc__law_prefix.nd rfl (Or.inl rfl) (pe_op op_catL (pv 3) (pe_lstU (pa_cons pe_str (pa_cons pe_str pa_nil))))))) (pss_one (ps_if (PW.pt (pw_or (pt_cmpR op_eqI (pv 8) pe_int (nomark _)) (pw_or1 (pt_cmpR (op_eqD hr.units) (pv 1) (pe_lstU pa_nil) (nomark _))))) (pss_one (ps_expr (pe_bm PySem.F.plainAttrs_list PySem.F.slot_list_append PySem.F.type_list_append mt_append (pv 4) (pa_cons (pe_callTy call_str_int (by rfl) T.n_str (by decide +kernel) (pa_cons (pe_op op_sub (pe_call G__law_draw hr__law_draw (by rfl) T.m__law_draw T.F__law_draw.kp T.B__law_draw .nil pass0 (pa_cons (pv 0) (pa_cons pe_int pa_nil))) pe_int) pa_nil)) pa_nil)))) (pss_one (ps_expr (pe_bm PySem.F.plainAttrs_list PySem.F.slot_list_append PySem.F.type_list_append mt_append (pv 4) (pa_cons (pe_call G__law_of hr__law_of (by rfl) T.m__law_of T.F__law_of.kp T.B__law_of .nil pass0 (pa_cons (pv 0) (pa_cons (pv 1) pa_nil))) pa_nil)))))))))))))))))))))
      (pss_one (ps_ret (pe_callTy call_tupleN (by rfl) T.n_tuple (by decide +kernel) (pa_cons (pv 4) pa_nil)))))), ?_⟩
    refine seq_op fun N hN => ?_
    walk_at "rs"
    refine ⟨by decide, fun o H1 s1 o0 h1 => ⟨by decide, fun m H2 s2 m0 h2 => ⟨_, _, ⟨rfl, rfl⟩, hN _ _ ?_⟩⟩⟩
    clear hN N
    obtain ⟨xb, eb⟩ := B.at
    obtain ⟨xc, ec⟩ := B.at2
    have P0 : Pfx b c H H2 o m ["e"] [] := by
      refine ⟨(B.same s1).same s2, Kp.of (Same.trans s1 s2), o0, Same.dom s1 m m0, fun e => ?_, fun e => ?_, fun e => ?_, fun e => ?_, fun e => ?_, s2 _ _ h1, h2, fun z hz => .inl (by simpa using hz), fun z hz => absurd hz (by simp)⟩
      · rw [e, m0] at h1; cases h1
      · rw [e, eb] at o0; cases o0
      · rw [e, s1 _ _ eb] at m0; cases m0
      · rw [← e, ec] at o0; cases o0
      · rw [← e, s1 _ _ ec] at m0; cases m0
    have W0 : PfW parts size ["e"] [] := ⟨fun z hz => absurd hz (by simp), fun r => rfl, by simp; omega⟩
    refine cut_seq (fun σ H3 => ∃ (o : Addr) (os ms : List Str) (x1 x2 x3 x4 : Option V), σ = [some (.ref b), some (.ref p), some (.int size), some (.ref o), some (.ref m), x1, x2, x3, x4] ∧ Pfx b c H H3 o m os ms ∧ PfW parts size [] ms) (fun N hN => ?_) ?_
    · refine ⟨30, rfl, by decide, by decide, for_range (lo := 0) (n := (30 : Int).toNat) (fun i σ H3 => ∃ (o : Addr) (os ms : List Str) (x1 x2 x3 x4 : Option V), σ = [some (.ref b), some (.ref p), some (.int size), some (.ref o), some (.ref m), x1, x2, x3, x4] ∧ Pfx b c H H3 o m os ms ∧ ms.length = i ∧ PfW parts size os ms)
        ⟨o, _, _, none, none, none, none, rfl, P0, rfl, W0⟩ ?_ ?_⟩
      · rintro i σ H3 hi ⟨o, os, ms, x1, x2, x3, x4, rfl, P3, hml, W3⟩
        have hol : os.length ≤ 30 := by have := W3.ln; omega
        have hi30 : i < 30 := hi
        refine seq_op fun N2 hN2 => ?_
        walk_at "rs"
        have d1 : Dp K H3 (.ref o) (.list (os.map PyData.str)) := .lst (SqL.of P3.ho) (strs_dpa os)
        refine ⟨by decide, fun q H4 s4 h04 h4 => ⟨_, .list [], dp_same s4 d1, .lst (SqL.of h4) .nil, ?_, by decide, _, rfl, ite2 (fun e => ?_) (fun e => hN2 _ _ ?_)⟩⟩
        · refine strs_shaped fun z hz => ?_
          rcases P3.eo z hz with rfl | rfl <;> decide +kernel
        · have en : os = [] := by
            cases os with
            | nil => rfl
            | cons x r => exact absurd e (by simp [PyData.eqv, PyData.eqvAll])
          exact hN _ _ ⟨o, os, ms, _, _, _, _, rfl, P3.same s4, by rw [en] at W3; exact W3⟩
        clear hN2 N2
        have P4 := P3.same s4
        have one : os ≠ [] := fun z => e (by subst z; rfl)
        have ol : 0 < os.length := by cases os with | nil => exact absurd rfl one | cons => exact Nat.succ_pos _
        obtain ⟨z0, hz0⟩ : ∃ z0, os[os.length - 1]? = some z0 := ⟨_, List.getElem?_eq_getElem (by omega)⟩
        refine seq_op fun N2 hN2 => ?_
        walk_at "rs"
        refine ⟨.inl ⟨rfl, _, SqL.of P4.ho⟩, _, P4.ho, .str z0, by rw [List.length_map, List.getElem?_map, hz0] <;> rfl, hN2 _ _ ?_⟩
        clear hN2 N2
        have P5 := P4.pop
        have ol5 : os.dropLast.length ≤ 30 := by rw [List.length_dropLast]; omega
        have eos : os = os.dropLast ++ [z0] := by
          have gl : os.getLast one = z0 := by
            rw [List.getLast_eq_getElem]
            exact Option.some.inj ((List.getElem?_eq_getElem _).symm.trans hz0)
          rw [← gl]
          exact (List.dropLast_concat_getLast one).symm
        have ez : z0 = "e" ∨ z0 = "k" := P3.eo z0 (List.mem_of_getElem? hz0)
        have W5 : PfW parts size (os.dropLast ++ [z0]) ms := by rw [← eos]; exact W3
        show tSeq _ _ _ _ (L2.upd H4 o (.lst (os.map V.str).dropLast))
        generalize L2.upd H4 o (.lst (os.map V.str).dropLast) = H5 at P5
        generalize os.dropLast = os5 at P5 ol5 W5
        clear P4 d1 e one ol hz0 P3 eos W3 hol
        refine seq_op fun N2 hN2 => ?_
        walk_at "rs"
        refine ⟨_, .inl (SqL.of P5.hm), _, .inl (SqL.of P5.ho), hN2 _ _ ?_⟩
        clear hN2 N2
        refine seq_op fun N2 hN2 => ?_
        walk_at "rs"
        refine ⟨b, c, 6, rfl, P5.bag, by decide, by decide, fun way H6 w0 w1 B6 K6 => hN2 _ _ ?_⟩
        clear hN2 N2
        have P6 := P5.call B6 K6
        have mlen : (ms.map V.str).length < sizeLine := Nat.lt_of_le_of_lt (show _ ≤ 100 by rw [List.length_map]; omega) (by decide)
        -- a word and two lists are put on, the invariant at the next turn
        have next : ∀ (o7 : Addr) (os7 : List Str) (z7 : Str) (H7 : Hp) (y1 y2 y3 y4 : Option V), Pfx b c H H7 o7 m os7 (ms ++ [z7]) → PfW parts size os7 (ms ++ [z7]) → ∃ (o : Addr) (os ms : List Str) (x1 x2 x3 x4 : Option V), [some (V.ref b), some (.ref p), some (.int size), some (.ref o7), some (.ref m), y1, y2, y3, y4] = [some (.ref b), some (.ref p), some (.int size), some (.ref o), some (.ref m), x1, x2, x3, x4] ∧ Pfx b c H H7 o m os ms ∧ ms.length = i + 1 ∧ PfW parts size os ms :=
          fun o7 os7 z7 H7 y1 y2 y3 y4 P7 l7 => ⟨o7, os7, ms ++ [z7], y1, y2, y3, y4, rfl, P7, by rw [List.length_append, List.length_singleton, hml], l7⟩
        clear P5
        refine nx_op fun N2 hN2 => ?_
        replace hN2 := fun o7 os7 z7 H7 y1 y2 y3 y4 hP hl => hN2 _ _ (next o7 os7 z7 H7 y1 y2 y3 y4 hP hl)
        clear next
        have rm : ∀ n : Int, decide (n < size - ((ms.map V.str).length : Int) - ((os5.map V.str).length : Int) - 1) = true → n < size - ms.length - os5.length - 1 := fun n e => by
          have q := of_decide_eq_true e
          rw [List.length_map, List.length_map] at q
          exact q
        have lW : (0 : Int) ≤ size - ms.length - os5.length - 1 := by
          have := W5.ln
          rw [List.length_append, List.length_singleton] at this
          omega
        have st : ∀ (z : Str) (L : List Str), 0 ≤ needsZ z → (nm z = true → z ∈ parts) → opsL (.str z) (code z0) = some (codes L) → ((L.length : Int) ≤ size - ms.length - os5.length - 1) → PfW parts size (os5 ++ L) (ms ++ [z]) := fun z L h1 h2 h3 h4 => W5.step h1 h2 h3 (by omega)
        have st0 : ∀ (z : Str), 0 ≤ needsZ z → (nm z = true → z ∈ parts) → opsL (.str z) (code z0) = some [] → PfW parts size os5 (ms ++ [z]) := fun z h1 h2 h3 => by
          have q := st z [] h1 h2 h3 lW
          rw [List.append_nil] at q
          exact q
        have ck : code "k" = 107 := by decide +kernel
        have ce : code "e" = 101 := by decide +kernel
        have nono : ∀ {z : Str}, nm z = false → nm z = true → z ∈ parts := fun h1 h2 => by rw [h1] at h2; cases h2
        have ofL : ∀ (L : List Str), (∀ z ∈ L, z.length ≤ 20) → L ≠ [] → L.length ≤ 1000 → ∀ (q : Addr) (H7 : Hp), Same H6 H7 → H6 q = none → H7 q = some (HO.lst (L.map V.str)) → ∀ (Q2 : VK), (∀ z H8, z ∈ L → z.length ≤ 20 → Pfx b c H H8 o m os5 ms → Q2 (.str z) H8) → sp__law_of K [V.ref b, V.ref q] H7 Q2 E0 := by
          intro L hL ne ln q H7 s7 h07 h7 Q2 hq
          have P7 := P6.same s7
          refine of_lst P7.bag h7 (fun e => ?_) (by simpa using ne) (by rw [List.length_map]; omega) fun y H8 hy B8 K8 => ?_
          · obtain ⟨xs, z⟩ := P6.bag.at
            rw [e, z] at h07; cases h07
          · obtain ⟨z, hz, rfl⟩ := List.mem_map.mp hy
            exact hq z H8 hz (hL z hz) (P7.call B8 K8)
        have catL : ∀ (L : List Str) (z7 : Str) (H7 : Hp), (∀ z ∈ L, z = "e" ∨ z = "k") → L.length ≤ 3 → PfW parts size (os5 ++ L) (ms ++ [z7]) → Pfx b c H H7 o m os5 (ms ++ [z7]) → ∀ (y1 y2 y3 y4 : Option V), ∀ (q : Addr) (H8 : Hp), Same H7 H8 → H7 q = none → H8 q = some (HO.lst (L.map V.str)) →
            ∃ x, H8 o = some (HO.lst x) ∧ ∃ x_1, H8 q = some (HO.lst x_1) ∧ x.length + x_1.length ≤ sizeLine ∧ ∀ (p' : Addr) (H9 : Hp), Same H8 H9 → H8 p' = none → H9 p' = some (HO.lst (x ++ x_1)) → N2 [some (V.ref b), some (.ref p), some (.int size), some (.ref p'), some (.ref m), y1, y2, y3, y4] H9 := by
          intro L z7 H7 hL hl W7 P7 y1 y2 y3 y4 q H8 s8 h08 h8
          have P8 := P7.same s8
          refine ⟨_, P8.ho, _, h8, Nat.le_trans (show _ ≤ 200 by rw [List.length_map, List.length_map]; omega) (by decide), fun p' H9 s9 h09 h9 => ?_⟩
          refine hN2 p' (os5 ++ L) z7 H9 y1 y2 y3 y4 (P8.newo s9 h09 (by rw [h9, List.map_append]) fun z hz => ?_) W7
          rcases List.mem_append.mp hz with hz | hz
          · exact P8.eo z hz
          · exact hL z hz
        have tm : tyV K "list" (V.ref m) H6 := .inl ⟨rfl, _, SqL.of P6.hm⟩
        refine if_ofP (fun b => b = decide (z0 = "k")) (fun K hK => by walk_at "rs"; exact hK _ rfl) (fun e0 => ?_) (fun e0 => ?_)
        · have ek : z0 = "k" := of_decide_eq_true e0.symm
          walk_at "rs"
          refine ⟨tm, b, c, 9, rfl, P6.bag, by decide, by decide, fun r H7 r0 r1 B7 K7 => ⟨r, rfl, small_log (by omega) (by omega), _, (P6.call B7 K7).hm, mlen, hN2 o os5 _ _ _ _ _ _ ((P6.call B7 K7).pushm (small_str (by omega) (by omega))) ?_⟩⟩
          obtain ⟨g1, g2, g3, _⟩ := f_fig' (i := 1 + r) (by omega) (by omega)
          exact st0 _ g1 (nono g2) (by rw [ek, ck]; exact g3)
        have ee : z0 = "e" := by
          rcases ez with h | h
          · exact h
          · exact absurd h (of_decide_eq_false e0.symm)
        have cz : code z0 = 101 := by rw [ee, ce]
        clear e0
        refine if_ofP (fun b => b = true → 0 < size - ms.length - os5.length - 1) (fun K hK => by walk_at "rs"; exact ite2 (fun _ => hK _ fun e => rm 0 e) (fun _ => hK _ fun e => by cases e)) (fun e0 => ?_) (fun _ => ?_)
        · refine seq_op fun N3 hN3 => ?_
          walk_at "rs"
          refine ⟨tm, _, P6.hm, mlen, hN3 _ _ ?_⟩
          have P7 := P6.pushm (z := "not") (by decide)
          walk_at "rs"
          refine ⟨.inl ⟨rfl, _, SqL.of P7.ho⟩, _, P7.ho, Nat.lt_of_le_of_lt (show _ ≤ 100 by rw [List.length_map]; omega) (by decide), hN2 o _ _ _ _ _ _ _ (P7.pusho (z := "e") (.inl rfl)) (st "not" ["e"] f_one.1 (nono f_one.2.1) (by rw [cz]; exact f_one.2.2.1) (by have := e0 rfl; simp; omega))⟩
        refine if_ofP (fun b => b = true → 2 < size - ms.length - os5.length - 1) (fun K hK => by walk_at "rs"; exact ite2 (fun _ => hK _ fun e => rm 2 e) (fun _ => hK _ fun e => by cases e)) (fun e0 => ?_) (fun _ => ?_)
        · refine seq_op fun N3 hN3 => ?_
          walk_at "rs"
          refine ⟨tm, _, P6.hm, mlen, hN3 _ _ ?_⟩
          have P7 := P6.pushm (z := "if") (by decide)
          walk_at "rs"
          exact ⟨by decide, fun q H8 s8 h08 h8 => catL ["e", "e", "e"] "if" _ (by simp) (by decide) (st "if" ["e", "e", "e"] f_one.2.2.2.1 (nono f_one.2.2.2.2.1) (by rw [cz]; exact f_one.2.2.2.2.2) (by have := e0 rfl; simp; omega)) P7 _ _ _ _ q H8 s8 h08 h8⟩
        refine if_ofP (fun b => b = true → 1 < size - ms.length - os5.length - 1) (fun K hK => by walk_at "rs"; exact ite2 (fun _ => hK _ fun e => rm 1 e) (fun _ => hK _ fun e => by cases e)) (fun e0 => ?_) (fun _ => ?_)
        · refine seq_op fun N3 hN3 => ?_
          walk_at "rs"
          refine ⟨tm, by decide, fun q H7 s7 h07 h7 => ofL ["mod", "div"] (by decide) (by simp) (by decide) q H7 s7 h07 h7 _ fun z H8 hzL hz P8 => ⟨_, P8.hm, mlen, hN3 _ _ ?_⟩⟩
          have P9 := P8.pushm hz
          obtain ⟨g1, g2, g3⟩ := f_md z hzL
          walk_at "rs"
          exact ⟨by decide, fun q H8 s8 h08 h8 => catL ["k", "e"] z _ (by simp) (by decide) (st z ["k", "e"] g1 (nono g2) (by rw [cz]; exact g3) (by have := e0 rfl; simp; omega)) P9 _ _ _ _ q H8 s8 h08 h8⟩
        refine if_ofP (fun b => b = true → 1 < size - ms.length - os5.length - 1) (fun K hK => by walk_at "rs"; exact ite2 (fun _ => hK _ fun e => rm 1 e) (fun _ => hK _ fun e => by cases e)) (fun e0 => ?_) (fun _ => ?_)
        · refine seq_op fun N3 hN3 => ?_
          walk_at "rs"
          refine ⟨tm, by decide, fun q H7 s7 h07 h7 => ofL ["+", "-", "*", "+", "-", "min", "max", "=", "/=", "<", "<=", ">", ">=", "and", "or"] (by decide) (by simp) (by decide) q H7 s7 h07 h7 _ fun z H8 hzL hz P8 => ⟨_, P8.hm, mlen, hN3 _ _ ?_⟩⟩
          have P9 := P8.pushm hz
          obtain ⟨g1, g2, g3⟩ := f_op z hzL
          walk_at "rs"
          exact ⟨by decide, fun q H8 s8 h08 h8 => catL ["e", "e"] z _ (by simp) (by decide) (st z ["e", "e"] g1 (nono g2) (by rw [cz]; exact g3) (by have := e0 rfl; simp; omega)) P9 _ _ _ _ q H8 s8 h08 h8⟩
        have hp6 : hb H6 b p = some (.lst (parts.map V.str)) := P6.kp _ _ hp
        have hpH : H6 p = some (.lst (parts.map V.str)) := (hb_some hp6).2
        refine if_of (fun b => b = false → parts ≠ []) (fun Kc hK => ?_) (fun H7 _ s7 => ?_) (fun H7 hne s7 => ?_)
        · walk_at "rs"
          refine ite2 (fun _ => hK _ _ (fun z => absurd z (by decide)) (Same.refl _)) (fun _ => ⟨by decide, fun q H7 s7 h07 h7 => ?_⟩)
          refine ⟨.list (parts.map PyData.str), .list [], .lst (SqL.of (s7 _ _ hpH)) (strs_dpa parts), .lst (SqL.of h7) .nil, strs_shaped fun z hz => word_lay (name_word (hpl z hz)), by decide, _, rfl, hK _ _ (fun e z => ?_) s7⟩
          subst z
          exact absurd e (by decide)
        · have P7 := P6.same s7
          walk_at "rs"
          refine ⟨.inl ⟨rfl, _, SqL.of P7.hm⟩, b, c, 19, rfl, P7.bag, by decide, by decide, fun r H8 r0 r1 B8 K8 => ⟨r, rfl, small_log (by omega) (by omega), _, (P7.call B8 K8).hm, mlen, hN2 o os5 _ _ _ _ _ _ ((P7.call B8 K8).pushm (small_str (by omega) (by omega))) ?_⟩⟩
          obtain ⟨g1, g2, g3⟩ := f_int' (i := r - 9) (by omega) (by omega)
          exact st0 _ g1 (nono g2) (by rw [cz]; exact g3)
        · have P7 := P6.same s7
          walk_at "rs"
          refine ⟨.inl ⟨rfl, _, SqL.of P7.hm⟩, of_lst P7.bag (s7 _ _ hpH) (hb_some hp).1 (by simpa using hne rfl) (by rw [List.length_map]; omega) fun y H8 hy B8 K8 => ?_⟩
          obtain ⟨z, hz, rfl⟩ := List.mem_map.mp hy
          obtain ⟨g1, g2, g3⟩ := f_nm (hpl z hz)
          exact ⟨_, (P7.call B8 K8).hm, mlen, hN2 o os5 _ _ _ _ _ _ ((P7.call B8 K8).pushm (by have := (free_of (c := 32) (by decide +kernel) (by decide +kernel) (name_word (hpl z hz))).2.1; omega)) (st0 z g1 (fun _ => hz) (by rw [cz]; exact g3))⟩
      · rintro σ H3 ⟨o, os, ms, x1, x2, x3, x4, rfl, P3, hml, W3⟩
        have en : os = [] := by
          have q := W3.ln
          have q2 : ms.length = 30 := hml
          exact List.eq_nil_of_length_eq_zero (by omega)
        rw [en] at W3
        exact hN _ _ ⟨o, os, ms, x1, x2, x3, x4, rfl, P3, W3⟩
    · rintro σ H3 ⟨o, os, ms, x1, x2, x3, x4, rfl, P3, W3⟩
      walk_at "rs"
      obtain ⟨xb3, eb3⟩ := P3.bag.at
      refine ⟨_, SqL.of P3.hm, fun q H4 s4 h04 h4 => k q ms H4 (P3.bag.same s4) (Same.trans P3.kp (Kp.of s4)) (Kp.bn P3.kp eb3 h04) h4 (by have := W3.ln; omega) W3.wd ?_⟩
      have q := W3.wk []
      rw [List.append_nil] at q
      rw [q]; rfl
end
end LK

set_option Elab.async false
set_option linter.all false
set_option maxRecDepth 100000
set_option pp.deepTerms true
set_option pp.maxSteps 20000
namespace LK
open PySem PySem.Spec PyProof.Rows L2
local macro_rules | `(tactic| walk_at "rs") => `(tactic| simp only [cxK, cxNK, tCallZ, tAsg, tOp, rI0, rS0, rB0, rI, rU, tUn, rEq, rNe, rIxL, rIxT, rIxS, rSetL, rSlLU, rSlS, rSlU, rCatL, rCatU, rRepL, rIn, tVar, tC, gName, gSub, tIfS, tTest, tB, tAnd, tOr, tNot, tNotV, tAndV, tOrV, tIf, tCall, tCons, tNil, tCB, tDrop, tRet, tRetN, tNext, tLstU, tTupU, tM0, tM1, tPar, tPar3, tAug, ipI, tBM, tBM0, rAppend, rPop, tBreak, tCont, tChain, tSl, tPart, tNoPart, L2.start, List.map, List.length_cons, List.length_nil, List.replicate, List.cons_append, List.nil_append, List.append_nil, List.getElem?_cons_zero, List.getElem?_cons_succ, List.set_cons_zero, List.set_cons_succ, Option.some.injEq, V.int.injEq, V.ref.injEq, V.str.injEq, V.bl.injEq, exists_eq_left', exists_eq_left, exists_and_left, decide_eq_true_eq, List.cons.injEq, and_true, true_and, scal, Bool.not_eq_true', decide_eq_false_iff_not, Nat.zero_add, Nat.reduceAdd, Nat.reduceSub, reduceCtorEq, false_and, exists_false, false_or, or_false, CPow, CMul, CDiv, Int.reduceToNat, ↓reduceIte, wipe, sw, List.nil_append, List.singleton_append])
local macro_rules | `(tactic| walk_at "st") => `(tactic| (refine seq_op fun N hN => ?_; walk_at "rs"))
local macro_rules | `(tactic| walk_at "sd") => `(tactic| first | assumption | decide | omega)
local macro_rules | `(tactic| walk_at "rd") => `(tactic| repeat (first
  | refine ⟨_, SqL.of (by assumption), ?_⟩ | refine ⟨_, SqL.of upd_same, ?_⟩ | refine ⟨_, .inl (SqL.of (by assumption)), ?_⟩ | refine ⟨_, (by assumption : _ = some (HO.lst _)), ?_⟩ | refine ⟨_, upd_same, ?_⟩
  | refine ⟨_, rfl, ?_⟩ | refine And.intro (by walk_at "sd") ?_))

open TL
theorem pre_is {ws : List Str} (h : walkL [101] (ws.map PyData.str) = true) (hl : ws.length ≤ 30) : isPre (.tuple (ws.map .str)) = true := by
  have h1 : 1 ≤ ws.length := by
    cases ws with
    | nil => cases h
    | cons x r => simp
  show (decide (1 ≤ (ws.map PyData.str).length) && decide ((ws.map PyData.str).length ≤ 30) && preZ (strsOf (ws.map PyData.str))) = true
  rw [← walk_pre, walkE_L, List.length_map, decide_eq_true h1, decide_eq_true hl]
  exact h
theorem names_is {ns : List Str} (h : ∀ z ∈ ns, isNameD (.str z) = true) : (ns.map PyData.str).all isNameD = true := List.all_eq_true.mpr fun d hd => by
  obtain ⟨z, hz, rfl⟩ := List.mem_map.mp hd
  exact h z hz
theorem vals_is {fs : List (Int × Int)} (h : ∀ f ∈ fs, isVal (frD f) = true) : (fs.map frD).all isVal = true := List.all_eq_true.mpr fun d hd => by
  obtain ⟨f, hf, rfl⟩ := List.mem_map.mp hd
  exact h f hf
theorem pairs_is {ps : List ((Int × Int) × (Int × Int))} (h : ∀ p ∈ ps, isVal (frD p.1) = true ∧ isVal (frD p.2) = true) : isRelD (.tuple (ps.map prD)) = true := List.all_eq_true.mpr fun d hd => by
  obtain ⟨p, hp, rfl⟩ := List.mem_map.mp hd
  show (isVal _ && isVal _) = true
  rw [(h p hp).1, (h p hp).2]; rfl
theorem line_is {d : PyData} (h : Line d) : isLineD d = true := by
  cases h with
  | be own zs ho hp =>
    have e : beK [.tuple (zs.map .str)] = true := by
      rw [← hp]
      show (_ && walkE "e" (zs.map PyData.str)) = (_ && preZ (strsOf (zs.map PyData.str)))
      rw [walk_pre]
    show (decide (1 ≤ 1) && (isOwnD (.str own) && (inV (.str "be") kindV && beK [.tuple (zs.map .str)]))) = true
    rw [ho, e]
    decide +kernel
  | tab own ns fs ho ln hn lf hf =>
    show (decide (1 ≤ 2) && (isOwnD (.str own) && (inV (.str "table") kindV && ((decide ((ns.map PyData.str).length ≤ 12) && (ns.map PyData.str).all isNameD) && (decide ((fs.map frD).length ≤ 400) && (fs.map frD).all isVal))))) = true
    rw [ho, names_is hn, vals_is hf, List.length_map, List.length_map, decide_eq_true ln, decide_eq_true lf]
    decide +kernel
  | cnt own a c r ho ha hr hc =>
    show (decide (1 ≤ 3) && (isOwnD (.str own) && (inV (.str "count") kindV && (isNameD (.str a) && (isRelD r && isNameD (.str c)))))) = true
    rw [ho, ha, hr, hc]
    decide +kernel
  | lst k own p a c r i hk ho hp ha hr hc h1 h2 =>
    obtain ⟨n1, n2, n3⟩ := not_kinds hk
    have e : lineK k [.str p, .str a, r, .str c, .int i] = lastK [.str p, .str a, r, .str c, .int i] := by
      unfold lineK
      rw [if_neg n1, if_neg n2, if_neg n3]
    have ek : inV (.str k) kindV = true := by rcases hk with rfl | rfl | rfl <;> decide +kernel
    show (decide (1 ≤ 5) && (isOwnD (.str own) && (inV (.str k) kindV && lineK k [.str p, .str a, r, .str c, .int i]))) = true
    rw [e, ho, ek]
    show (true && (true && (true && (isNameD (.str p) && ((isNameD (.str a) && (isRelD r && isNameD (.str c))) && (decide (-9 ≤ i) && decide (i ≤ 9))))))) = true
    rw [hp, ha, hr, hc, decide_eq_true h1, decide_eq_true h2]
    rfl
theorem own_of {z : Str} (h : isNameD (.str z) = true) (n : inV (.str z) [.str "sign", .str "place"] = false) : isOwnD (.str z) = true := by
  have h : (isOwnD (.str z) || inV (.str z) [.str "sign", .str "place"]) = true := h
  rw [n, Bool.or_false] at h
  exact h
def names_of {l : List V} (h : ∀ v ∈ l, ∃ z, v = V.str z ∧ isNameD (.str z) = true) : ∃ zs : List Str, l = zs.map V.str ∧ ∀ z ∈ zs, isNameD (.str z) = true := by
  induction l with
  | nil => exact ⟨[], rfl, fun _ h => by cases h⟩
  | cons v l ih =>
    obtain ⟨zs, rfl, hz⟩ := ih fun x hx => h x (List.mem_cons_of_mem _ hx)
    obtain ⟨z, rfl, hn⟩ := h v (by simp)
    exact ⟨z :: zs, rfl, fun y hy => by
      rcases List.mem_cons.mp hy with rfl | hy
      · exact hn
      · exact hz y hy⟩
theorem nw_backK {H G H' : Hp} {b : Addr} {o : HO} (k : Kp b H G) (e : G b = some o) : Same (nw G H') (nw H H') := nw_mono (fun x _ q => Kp.bn k e q) fun _ _ _ h => h
section
variable {P : Program} {w : World} {K : PySem.W.Frag} {mg : Str → Option Value} {base : Heap}
def sp_row (K : PySem.W.Frag) : Sp := fun vs H Q _ => ∃ b c, vs = [.ref b] ∧ Bag H b c ∧ ∀ v d H', Line d → (wordsD d).length ≤ 500 → Dp K (nw H H') v d → Bag H' b c → Kp b H H' → Q v H'
theorem ok__law_row (T : Txt w K mg) : FnOk P w K mg base CX0 5 T.a__law_row T.d__law_row ["bag"] (sp_row K) := by
  refine T.F__law_row.ok sc__law_row (fun vs H Q E h => ?_) (fun cdv A outer s H vs Q E hr h => ?_)
  · obtain ⟨b, c, rfl, _⟩ := h
    rfl
  · obtain ⟨b, c, rfl, B, k⟩ := h
    have hr__law_name : Room 3 _ := hr.mono (by decide)
    have G__law_name := ok__law_name (P := P) (base := base) T
    have hr__law_draw : Room 1 _ := hr.mono (by decide)
    have G__law_draw := ok__law_draw (P := P) (base := base) T
    have hr__law_prefix : Room 3 _ := hr.mono (by decide)
    have G__law_prefix := ok__law_prefix (P := P) (base := base) T
    have hr__law_of : Room 2 _ := hr.mono (by decide)
    have G__law_of := ok__law_of (P := P) (base := base) T
    have hr__law_value : Room 3 _ := hr.mono (by decide)
    have G__law_value := ok__law_value (P := P) (base := base) T
    have hr__law_pairs : Room 4 _ := hr
    have G__law_pairs := ok__law_pairs (P := P) (base := base) T
    refine ⟨_, (pss_cons (ps_set (i := 1) sc__law_row.nd rfl (Or.inl rfl) (pe_call G__law_name hr__law_name (by rfl) T.m__law_name T.F__law_name.kp T.B__law_name .nil pass0 (pa_cons (pv 0) pa_nil)))
      (pss_cons (ps_if (pt_cmpR op_in_seq (pv 1) (pe_lstU (pa_cons pe_str (pa_cons pe_str pa_nil))) (by rfl)) (pss_one (ps_set (i := 1) sc__law_row.nd rfl (Or.inl rfl) pe_str)) pss_nil)
      (pss_cons (ps_asg (pe_tupU (pa_cons (pe_call G__law_draw hr__law_draw (by rfl) T.m__law_draw T.F__law_draw.kp T.B__law_draw .nil pass0 (pa_cons (pv 0) (pa_cons pe_int pa_nil))) (pa_cons (pe_lc (own := [("k", 8)]) (g := gName 8) (tt := tYes) rfl sc__law_row.nd (pi_range1 (by rfl) T.n_range (pa_cons pe_int pa_nil)) (blkOk_by (own := [("k", 8)]) (N := N__law_row) (sc := defScope s__law_row) (by decide +kernel)) (fun _ _ _ _ _ => pg_name (i := 8) sc__law_row.nd rfl (Or.inl rfl)) (fun _ _ _ _ _ => pts_nil) (fun _ _ _ _ _ => (pe_call G__law_name hr__law_name (by rfl) T.m__law_name T.F__law_name.kp T.B__law_name .nil pass0 (pa_cons (pv 0) pa_nil)))) pa_nil))) (pg_tup rfl (pgs_cons (pg_name (i := 2) sc__law_row.nd rfl (Or.inl rfl)) (pgs_cons (pg_name (i := 3) sc__law_row.nd rfl (Or.inr rfl)) pgs_nil))))
      (pss_cons (ps_if (pt_cmpR op_eqI (pv 2) pe_int (nomark _)) (pss_one (ps_ret (pe_tupU (pa_cons pe_str (pa_cons (pv 1) (pa_cons (pe_call G__law_prefix hr__law_prefix (by rfl) T.m__law_prefix T.F__law_prefix.kp T.B__law_prefix .nil pass0 (pa_cons (pv 0) (pa_cons (pv 3) (pa_cons (pe_call G__law_of hr__law_of (by rfl) T.m__law_of T.F__law_of.kp T.B__law_of .nil pass0 (pa_cons (pv 0) (pa_cons (pe_lstU (pa_cons pe_int (pa_cons pe_int (pa_cons pe_int (pa_cons pe_int pa_nil))))) pa_nil))) pa_nil)))) pa_nil)))))) pss_nil)
      (pss_cons (ps_if (pt_cmpR op_eqI (pv 2) pe_int (nomark _)) (pss_cons (ps_setLc (i := 4) (own := [("k", 8)]) (g := gName 8) (tt := tYes) rfl sc__law_row.nd rfl rfl (sw_true rfl rfl rfl (by decide +kernel)) (pi_range1 (by rfl) T.n_range (pa_cons (pe_op op_add pe_int (pe_call G__law_draw hr__law_draw (by rfl) T.m__law_draw T.F__law_draw.kp T.B__law_draw .nil pass0 (pa_cons (pv 0) (pa_cons pe_int pa_nil)))) pa_nil)) (blkOk_by (own := [("k", 8)]) (N := N__law_row) (sc := defScope s__law_row) (by decide +kernel)) (fun _ _ _ _ _ => pg_name (i := 8) sc__law_row.nd rfl (Or.inl rfl)) (fun _ _ _ _ _ => pts_nil) (fun _ _ _ _ _ => (pe_call G__law_value hr__law_value (by rfl) T.m__law_value T.F__law_value.kp T.B__law_value .nil pass0 (pa_cons (pv 0) pa_nil))))
      (pss_cons (ps_par (i := 5) (j := 6) (by rfl) sc__law_row.nd rfl rfl (by decide) rfl rfl (pa_cons (pe_call G__law_of hr__law_of (by rfl) T.m__law_of T.F__law_of.kp T.B__law_of .nil pass0 (pa_cons (pv 0) (pa_cons (pe_lstU (pa_cons pe_int (pa_cons pe_int (pa_cons pe_int (pa_cons pe_int (pa_cons pe_int (pa_cons (pe_ifExp (pt_cmpR op_eqI (pe_call G__law_draw hr__law_draw (by rfl) T.m__law_draw T.F__law_draw.kp T.B__law_draw .nil pass0 (pa_cons (pv 0) (pa_cons pe_int pa_nil))) pe_int (nomark _)) pe_int pe_int) pa_nil))))))) pa_nil))) (pa_cons (pe_call G__law_of hr__law_of (by rfl) T.m__law_of T.F__law_of.kp T.B__law_of .nil pass0 (pa_cons (pv 0) (pa_cons (pe_lstU (pa_cons pe_int (pa_cons pe_int (pa_cons pe_int (pa_cons pe_int (pa_cons pe_int (pa_cons pe_int pa_nil))))))) pa_nil))) pa_nil)) (by rfl))
      (pss_one (ps_ret (pe_tupU (pa_cons pe_str (pa_cons (pv 1) (pa_cons (pe_callTy call_tupleN (by rfl) T.n_tuple (by decide +kernel) (pa_cons (pe_lc (own := [("k", 8)]) (g := gName 8) (tt := tYes) rfl sc__law_row.nd (pi_range1 (by rfl) T.n_range (pa_cons (pv 6) pa_nil)) (blkOk_by (own := [("k", 8)]) (N := N__law_row) (sc := defScope s__law_row) (by decide +kernel)) (fun _ _ _ _ _ => pg_name (i := 8) sc__law_row.nd rfl (Or.inl rfl)) (fun _ _ _ _ _ => pts_nil) (fun _ _ _ _ _ => (pe_call G__law_of hr__law_of (by rfl) T.m__law_of T.F__law_of.kp T.B__law_of .nil pass0 (pa_cons (pv 0) (pa_cons (pv 3) pa_nil))))) pa_nil)) (pa_cons (pe_callTy call_tupleN (by rfl) T.n_tuple (by decide +kernel) (pa_cons (pe_slice sl_listU (pe_op op_repL (pv 4) pe_int) po_none (po_some (pv 5))) pa_nil)) pa_nil))))))))) pss_nil)
      (pss_cons (ps_set (i := 7) sc__law_row.nd rfl (Or.inl rfl) (pe_call G__law_of hr__law_of (by rfl) T.m__law_of T.F__law_of.kp T.B__law_of .nil pass0 (pa_cons (pv 0) (pa_cons (pe_lstU (pa_cons pe_str (pa_cons pe_str (pa_cons pe_str (pa_cons pe_str (pa_cons pe_str (pa_cons pe_str (pa_cons pe_str (pa_cons pe_str (pa_cons pe_str pa_nil)))))))))) pa_nil))))
      (pss_cons (ps_if (pt_cmpR op_eqS (pv 7) pe_str (nomark _)) (pss_one (ps_set (i := 7) sc__law_row.nd rfl (Or.inl rfl) (pe_call G__law_pairs hr__law_pairs (by rfl) T.m__law_pairs T.F__law_pairs.kp T.B__law_pairs .nil pass0 (pa_cons (pv 0) pa_nil)))) pss_nil)
      (pss_cons (ps_if (pt_cmpR op_lt (pv 2) pe_int (nomark _)) (pss_one (ps_ret (pe_tupU (pa_cons pe_str (pa_cons (pv 1) (pa_cons (pe_ix ix_list (pv 3) pe_int (fun _ _ => rfl)) (pa_cons (pv 7) (pa_cons (pe_ix ix_list (pv 3) pe_int (fun _ _ => rfl)) pa_nil)))))))) pss_nil)
      (pss_one (ps_ret (pe_tupU (pa_cons (pe_ix ix_list (pe_lstU (pa_cons pe_str (pa_cons pe_str (pa_cons pe_str pa_nil)))) (pe_op op_sub (pv 2) pe_int) (fun _ _ => rfl)) (pa_cons (pv 1) (pa_cons (pe_ix ix_list (pv 3) pe_int (fun _ _ => rfl)) (pa_cons (pe_ix ix_list (pv 3) pe_int (fun _ _ => rfl)) (pa_cons (pv 7) (pa_cons (pe_ix ix_list (pv 3) pe_int (fun _ _ => rfl)) (pa_cons (pe_op op_sub (pe_call G__law_draw hr__law_draw (by rfl) T.m__law_draw T.F__law_draw.kp T.B__law_draw .nil pass0 (pa_cons (pv 0) (pa_cons pe_int pa_nil))) pe_int) pa_nil)))))))))))))))))), ?_⟩
    refine seq_op fun N hN => ?_
    walk_at "rs"
    refine ⟨c, B, fun z H1 hz B1 K1 => hN _ _ ?_⟩
    clear hN N
    refine seq_op fun N hN => ?_
    walk_at "rs"
    have go : ∀ own H2, isOwnD (.str own) = true → Bag H2 b c → Kp b H H2 → N [some (.ref b), some (.str own), none, none, none, none, none, none, none] H2 := by
      intro own H2 ho B2 K2
      refine hN _ _ ?_
      clear hN N
      refine seq_op fun N hN => ?_
      walk_at "rs"
      refine ⟨b, c, 7, rfl, B2, by decide, by decide, fun way H3 w0 w1 B3 K3 => ?_⟩
      refine ⟨3, rfl, by decide, by decide, fun D hD => lc_draw walk_range (fun _ v => ∃ z, v = V.str z ∧ isNameD (.str z) = true) (fun _ _ _ _ h => h) hD B3 (by decide) (fun _ _ _ _ y => y.1) (fun _ _ => trivial) ?_ ?_⟩
      · intro x H4 K4 B4 Q2 hq
        walk_at "rs"
        exact ⟨c, B4, fun z H5 hz B5 K5 => hq _ H5 B5 K5 ⟨z, rfl, hz⟩⟩
      intro H4 ys B4 K4 h4 hl hp
      obtain ⟨zs, rfl, hzs⟩ := names_of hp
      rw [List.length_map] at hl
      obtain ⟨z0, z1, z2, rfl⟩ : ∃ z0 z1 z2, zs = [z0, z1, z2] := by
        match zs, hl with
        | [z0, z1, z2], _ => exact ⟨z0, z1, z2, rfl⟩
      have nD : D ≠ b := new_ne B3 hD
      refine ⟨by decide, fun p H5 s5 n5 h5 => ⟨_, _, rfl, SqT.of h5, rfl, ?_⟩⟩
      unfold gCons gNil
      walk_at "rs"
      refine ⟨_, _, ⟨rfl, rfl⟩, _, _, rfl, rfl, hN _ _ ?_⟩
      clear hN N
      have B5 := B4.same s5
      have K5 : Kp b H H5 := Same.trans K2 (Same.trans K3 (Same.trans K4 (Kp.of s5)))
      have hT : H5 D = some (.lst ([z0, z1, z2].map V.str)) := s5 _ _ h4
      have hn0 := hzs z0 (by simp)
      have hn1 := hzs z1 (by simp)
      have hn2 := hzs z2 (by simp)
      refine seq_op fun N hN => ?_
      walk_at "rs"
      refine ite2 (fun e => ?_) (fun e0 => hN _ _ ?_)
      · refine ⟨by decide, fun p6 H6 s6 n6 h6 => of_new (E := E0) B5 s6 n6 h6 (by simp) (by simp) fun v H7 hv B7 K7 => ?_⟩
        obtain ⟨n, rfl, q1, q2⟩ : ∃ n : Int, v = .int n ∧ 1 ≤ n ∧ n ≤ 30 := by
          simp only [List.mem_cons, List.mem_nil_iff, or_false] at hv
          rcases hv with rfl | rfl | rfl | rfl <;> exact ⟨_, rfl, by decide, by decide⟩
        have hT7 := K7.hd hT nD
        have K57 : Kp b H H7 := Same.trans K5 K7
        refine ⟨b, c, D, [z0, z1, z2], n, rfl, B7, by rw [hb_ne nD]; exact hT7, hzs, by simp, q1, q2, fun q ws H8 B8 K8 n8 h8 hl8 hw8 hwalk => ⟨by decide, fun t H9 s9 n9 h9 => k _ _ H9 (.be own ws ho (pre_is hwalk hl8)) (by rw [words_be]; simp only [List.length_cons]; omega) ?_ (B8.same s9) (Same.trans K57 (Same.trans K8 (Kp.of s9)))⟩⟩
        obtain ⟨x7, e7⟩ := B7.at
        obtain ⟨x8, e8⟩ := B8.at
        have K58 : Kp b H H8 := Same.trans K57 K8
        exact .tup (SqT.of (nw_of (Kp.bn K58 e8 n9) h9)) (.cons (.str _) (.cons (.str _) (.cons (.tup (SqT.of (nw_of (Kp.bn K57 e7 n8) (s9 _ _ h8))) (strs_dpa ws)) .nil)))
      clear hN N
      refine seq_op fun N hN => ?_
      walk_at "rs"
      refine ite2 (fun e => ?_) (fun e1 => hN _ _ ?_)
      · refine seq_op fun N hN => ?_
        walk_at "rs"
        refine ⟨_, rfl, b, c, 4, rfl, B5, by decide, by decide, fun r H6 r0 r1 B6 K6 => ⟨_, _, rfl, rfl, _, rfl, by omega, by omega, fun D2 hD2 => lc_draw walk_range (fun G v => ∃ f : Int × Int, isVal (frD f) = true ∧ Dp K G v (frD f)) (fun _ _ _ s ⟨f, a, d⟩ => ⟨f, a, dp_same s d⟩) hD2 B6 (by omega) (fun _ _ _ _ y => y.1) (fun _ _ => trivial) ?_ ?_⟩⟩
        · intro x H7 K7 B7 Q2 hq
          walk_at "rs"
          exact ⟨c, B7, fun v f H8 hf hd B8 K8 => hq v H8 B8 K8 ⟨f, hf, hd⟩⟩
        intro H7 ys B7 K7 h7 hl7 hp7
        refine hN _ _ ?_
        clear hN N
        have K56 : Kp b H H6 := Same.trans K5 K6
        obtain ⟨x6, e6⟩ := B6.at
        have hpool : ∀ v ∈ ys, ∃ f : Int × Int, isVal (frD f) = true ∧ Dp K (nw H H7) v (frD f) := fun v hv => by
          obtain ⟨f, hf, hd⟩ := hp7 v hv
          refine ⟨f, hf, dp_same (nw_mono (fun x _ q => ?_) fun _ _ _ h => h) hd⟩
          by_cases n : x = D2
          · rw [n]; exact Kp.bn K56 e6 hD2
          · rw [upd_ne n] at q; exact Kp.bn K56 e6 q
        have hT7 : H7 D = some (.lst ([z0, z1, z2].map V.str)) := by
          have K57 : Kp b H5 H7 := Same.trans K6 K7
          exact K57.hd hT nD
        have nD2 : D2 ≠ b := new_ne B6 hD2
        have K57 : Kp b H H7 := Same.trans K56 K7
        refine seq_op fun N hN => ?_
        walk_at "rs"
        have go9 : ∀ sz wd H8, 0 ≤ sz → sz ≤ 400 → 0 ≤ wd → wd ≤ 12 → Bag H8 b c → Kp b H7 H8 → N [some (.ref b), some (.str own), some (.int way), some (.ref D), some (.ref D2), some (.int sz), some (.int wd), none, none] H8 := by
          intro sz wd H8 a0 a1 d0 d1 B8 K8
          refine hN _ _ ?_
          clear hN N
          have K58 : Kp b H H8 := Same.trans K57 K8
          have hT8 := K8.hd hT7 nD
          have hP8 := K8.hd h7 nD2
          walk_at "rs"
          refine ⟨_, rfl, wd, rfl, by omega, by omega, fun D3 hD3 => lc_draw walk_range (fun _ v => ∃ z, v = V.str z ∧ isNameD (.str z) = true) (fun _ _ _ _ h => h) hD3 B8 (by omega) (fun _ _ _ _ y => y.1) (fun _ _ => trivial) ?_ ?_⟩
          · intro x H9 K9 B9 Q2 hq
            walk_at "rs"
            refine of_lst B9 (K9.hd hT8 nD) nD (by simp) (by simp) fun v H10 hv B10 K10 => hq v H10 B10 K10 ?_
            obtain ⟨z, hz, rfl⟩ := List.mem_map.mp hv
            exact ⟨z, rfl, hzs z hz⟩
          intro H9 us B9 K9 h9 hl9 hp9
          obtain ⟨ns, rfl, hns⟩ := names_of hp9
          rw [List.length_map] at hl9
          have K59 : Kp b H H9 := Same.trans K58 K9
          obtain ⟨x9, e9⟩ := B9.at
          obtain ⟨xb, eb⟩ := B.at
          refine ⟨D3, rfl, _, SqL.of h9, fun q H10 s10 n10 h10 => ⟨ys, s10 _ _ (K9.hd hP8 nD2), by decide, by decide, Nat.le_trans (show ys.length * 400 ≤ 1600 by omega) (by decide), fun p11 H11 s11 n11 h11 => ?_⟩⟩
          have h11' : H11 p11 = some (.lst (List.replicate 400 ys).flatten) := h11
          clear h11
          have hflat : ∀ v ∈ (List.replicate 400 ys).flatten, v ∈ ys := fun v hv => by
            obtain ⟨l, hl, hv⟩ := List.mem_flatten.mp hv
            rw [List.eq_of_mem_replicate hl] at hv
            exact hv
          generalize (List.replicate 400 ys).flatten = big at h11' hflat
          refine ⟨_, SqL.of h11', fun p12 H12 s12 n12 h12 => ⟨_, SqL.of h12, fun q2 H13 s13 n13 h13 => ⟨by decide, fun t H14 s14 n14 h14 => ?_⟩⟩⟩
          obtain ⟨m, rfl⟩ : ∃ m : Nat, sz = (m : Int) := ⟨sz.toNat, by omega⟩
          rw [cutV_take] at h13
          have S9 : Same H9 H14 := Same.trans s10 (Same.trans s11 (Same.trans s12 (Same.trans s13 s14)))
          have K714 : Kp b H7 H14 := Same.trans K8 (Same.trans K9 (Kp.of S9))
          obtain ⟨fs, f1, f2, f3⟩ := frs_of (K := K) (G := nw H H14) (l := big.take m) fun v hv => by
            obtain ⟨f, hf, hd⟩ := hpool v (hflat v (List.mem_of_mem_take hv))
            exact ⟨f, hf, dp_same (nw_kp eb K714) hd⟩
          have fl : fs.length ≤ 400 := by rw [f3, List.length_take]; omega
          have K14 : Kp b H H14 := Same.trans K59 (Kp.of S9)
          have free : ∀ x, H9 x = none → H x = none := fun x hx => Kp.bn K59 e9 hx
          refine k _ _ H14 (.tab own ns fs ho (by omega) hns fl f2) ?_ ?_ (B9.same S9) K14
          · rw [words_tab]
            simp only [List.length_cons, List.length_append, List.length_map]
            omega
          · refine .tup (SqT.of (nw_of (free _ (Same.dom (Same.trans s10 (Same.trans s11 (Same.trans s12 s13))) _ n14)) h14)) (.cons (.str _) (.cons (.str _) (.cons (.tup (SqT.of (nw_of (free _ n10) (Same.trans s11 (Same.trans s12 (Same.trans s13 s14)) _ _ h10))) (strs_dpa ns)) (.cons (.tup (SqT.of (nw_of (free _ (Same.dom (Same.trans s10 (Same.trans s11 s12)) _ n13)) (s14 _ _ h13))) f1) .nil))))
        have six : ∀ (x : Int) H8, 0 ≤ x → x ≤ 400 → Bag H8 b c → Kp b H7 H8 → ∀ (p : Addr) (H9 : Hp), Same H8 H9 → H8 p = none → H9 p = some (HO.lst [V.int 0, V.int 1, V.int 2, V.int 5, V.int 12, V.int x]) →
            sp__law_of K [V.ref b, V.ref p] H9 (fun x H1 => 6 ≤ sizeLine ∧ ∀ (p : Addr) (H2 : Hp), Same H1 H2 → H1 p = none → H2 p = some (HO.lst [V.int 0, V.int 1, V.int 2, V.int 3, V.int 4, V.int 12]) →
              sp__law_of K [V.ref b, V.ref p] H2 (fun x_1 H1 => ∃ v w, (x = v ∧ x_1 = w) ∧ N [some (V.ref b), some (V.str own), some (V.int way), some (V.ref D), some (V.ref D2), some v, some w, none, none] H1) E0) E0 := by
          intro x H8 x0 x1 B8 K8 p H9 s9 n9 h9
          refine of_new (E := E0) B8 s9 n9 h9 (by simp) (by simp) fun v H10 hv B10 K10 => ⟨by decide, fun p2 H11 s11 n11 h11 => of_new (E := E0) B10 s11 n11 h11 (by simp) (by simp) fun v2 H12 hv2 B12 K12 => ?_⟩
          obtain ⟨n, rfl, q1, q2⟩ : ∃ n : Int, v = .int n ∧ 0 ≤ n ∧ n ≤ 400 := by
            simp only [List.mem_cons, List.mem_nil_iff, or_false] at hv
            rcases hv with rfl | rfl | rfl | rfl | rfl | rfl <;> exact ⟨_, rfl, by omega, by omega⟩
          obtain ⟨n2, rfl, q3, q4⟩ : ∃ n : Int, v2 = .int n ∧ 0 ≤ n ∧ n ≤ 12 := by
            simp only [List.mem_cons, List.mem_nil_iff, or_false] at hv2
            rcases hv2 with rfl | rfl | rfl | rfl | rfl | rfl <;> exact ⟨_, rfl, by omega, by omega⟩
          exact ⟨_, _, ⟨rfl, rfl⟩, go9 n n2 H12 q1 q2 q3 q4 B12 (Same.trans K8 (Same.trans K10 K12))⟩
        refine ⟨b, c, 8, rfl, B7, by decide, by decide, fun r8 H8 r80 r81 B8 K8 => ⟨r8, rfl, ite2 (fun _ => ⟨by decide, fun p H9 s9 n9 h9 => six 400 H8 (by decide) (by decide) B8 K8 p H9 s9 n9 h9⟩) (fun _ => ⟨by decide, fun p H9 s9 n9 h9 => six 3 H8 (by decide) (by decide) B8 K8 p H9 s9 n9 h9⟩)⟩⟩
      clear hN N
      refine seq_op fun N hN => ?_
      walk_at "rs"
      refine ⟨by decide, fun p6 H6 s6 n6 h6 => of_new (E := E0) B5 s6 n6 h6 (by simp) (by simp) fun v H7 hv B7 K7 => hN _ _ ?_⟩
      clear hN N
      obtain ⟨mk, rfl, hmk⟩ : ∃ mk : Str, v = .str mk ∧ (mk = "" ∨ mk ∈ relL) := by
        simp only [List.mem_cons, List.mem_nil_iff, or_false] at hv
        rcases hv with rfl | rfl | rfl | rfl | rfl | rfl | rfl | rfl | rfl <;> exact ⟨_, rfl, by decide +kernel⟩
      have K57 : Kp b H H7 := Same.trans K5 K7
      have hT7 := K7.hd hT nD
      refine seq_op fun N hN => ?_
      walk_at "rs"
      have tail : ∀ vr r H8, isRelD r = true → (relW z0 r z1).length ≤ 30 → (relW z1 r z2).length ≤ 30 → Dp K (nw H H8) vr r → Bag H8 b c → Kp b H7 H8 → N [some (.ref b), some (.str own), some (.int way), some (.ref D), none, none, none, some vr, none] H8 := by
        intro vr r H8 hrel l1 l2 hvr B8 K8
        refine hN _ _ ?_
        clear hN N
        have K58 : Kp b H H8 := Same.trans K57 K8
        have hT8 := K8.hd hT7 nD
        obtain ⟨x8, e8⟩ := B8.at
        refine seq_op fun N hN => ?_
        walk_at "rs"
        refine ite2 (fun e => ?_) (fun e4 => hN _ _ ?_)
        · refine ⟨_, SqL.of hT8, _, at_ofN (j := 0) rfl rfl, _, SqL.of hT8, _, at_ofN (j := 1) rfl rfl, by decide, fun t H9 s9 n9 h9 => k _ _ H9 (.cnt own z0 z1 r ho hn0 hrel hn1) (by rw [words_cnt]; simp only [List.length_cons]; omega) ?_ (B8.same s9) (Same.trans K58 (Kp.of s9))⟩
          exact .tup (SqT.of (nw_of (Kp.bn K58 e8 n9) h9)) (.cons (.str _) (.cons (.str _) (.cons (.str _) (.cons (dp_same (nw_on s9) hvr) (.cons (.str _) .nil)))))
        clear hN N
        walk_at "rs"
        obtain ⟨kd, hk, hat⟩ : ∃ kd : Str, (kd = "first" ∨ kd = "last" ∨ kd = "mean") ∧ atI [V.str "first", V.str "last", V.str "mean"] (way - 4) = some (.str kd) := by
          have : way = 4 ∨ way = 5 ∨ way = 6 := by omega
          rcases this with rfl | rfl | rfl
          · exact ⟨"first", .inl rfl, rfl⟩
          · exact ⟨"last", .inr (.inl rfl), rfl⟩
          · exact ⟨"mean", .inr (.inr rfl), rfl⟩
        refine ⟨by decide, fun p9 H9 s9 n9 h9 => ?_⟩
        have hT9 := s9 _ _ hT8
        refine ⟨_, SqL.of h9, _, hat, _, SqL.of hT9, _, at_ofN (j := 0) rfl rfl, _, SqL.of hT9, _, at_ofN (j := 1) rfl rfl, _, SqL.of hT9, _, at_ofN (j := 2) rfl rfl, b, c, 19, rfl, B8.same s9, by decide, by decide, fun i H10 i0 i1 B10 K10 => ⟨i, rfl, by decide, fun t H11 s11 n11 h11 => k _ _ H11 (.lst kd own z0 z1 z2 r (i - 9) hk ho hn0 hn1 hrel hn2 (by omega) (by omega)) ?_ ?_ (B10.same s11) ?_⟩⟩
        · rw [words_lst hk]
          simp only [List.length_cons, List.length_append, List.length_nil]
          omega
        · have K9 : Kp b H H10 := Same.trans K58 (Same.trans (Kp.of s9) K10)
          obtain ⟨x10, e10⟩ := B10.at
          obtain ⟨xb, eb⟩ := B.at
          exact .tup (SqT.of (nw_of (Kp.bn K9 e10 n11) h11)) (.cons (.str _) (.cons (.str _) (.cons (.str _) (.cons (.str _) (.cons (dp_same (Same.trans (nw_on s9) (Same.trans (nw_kp eb K10) (nw_on s11))) hvr) (.cons (.str _) (.cons (.int _) .nil)))))))
        · exact Same.trans K58 (Same.trans (Kp.of s9) (Same.trans K10 (Kp.of s11)))
      refine ite2 (fun e => ?_) (fun e => ?_)
      · refine ⟨c, B7, fun v ps H8 hps lps hv B8 K8 => ?_⟩
        obtain ⟨x7, e7⟩ := B7.at
        have lw : ∀ x y, (relW x (.tuple (ps.map prD)) y).length ≤ 30 := fun x y => by
          show (x :: "pairs" :: y :: (ps.map prD).map pairW).length ≤ 30
          simp only [List.length_cons, List.length_map]
          omega
        exact tail v _ H8 (pairs_is hps) (lw _ _) (lw _ _) (dp_same (nw_backK K57 e7) hv) B8 K8
      · have hm : mk ∈ relL := hmk.resolve_left e
        refine tail _ (.str mk) H7 ?_ (by show 3 ≤ 30; decide) (by show 3 ≤ 30; decide) (.str _) B7 (Kp.refl _ _)
        show inV (.str mk) (relL.map V.str) = true
        rw [inL]; exact decide_eq_true hm
    refine ⟨by decide, fun p H2 s2 n2 h2 => ⟨_, .inl (SqL.of h2), rfl, rfl, ite2 (fun e => ?_) (fun e => ?_)⟩⟩
    · exact go "x" H2 (by decide +kernel) (B1.same s2) (Same.trans K1 (Kp.of s2))
    · exact go z H2 (own_of hz (by simpa using e)) (B1.same s2) (Same.trans K1 (Kp.of s2))
end
end LK

set_option Elab.async false
set_option linter.all false
set_option maxRecDepth 100000
set_option pp.deepTerms true
set_option pp.maxSteps 20000
namespace LK
open PySem PySem.Spec PyProof.Rows L2
local macro_rules | `(tactic| walk_at "rs") => `(tactic| simp only [cxK, cxNK, tCallZ, tAsg, tOp, rI0, rS0, rB0, rI, rU, tUn, rEq, rNe, rIxL, rIxT, rIxS, rSetL, rSlLU, rSlS, rSlU, rCatL, rCatU, rRepL, rIn, tVar, tC, gName, gSub, tIfS, tTest, tB, tAnd, tOr, tNot, tNotV, tAndV, tOrV, tIf, tCall, tCons, tNil, tCB, tDrop, tRet, tRetN, tNext, tLstU, tTupU, tM0, tM1, tPar, tPar3, tAug, ipI, tBM, tBM0, rAppend, rPop, tBreak, tCont, tChain, tSl, tPart, tNoPart, L2.start, List.map, List.length_cons, List.length_nil, List.replicate, List.cons_append, List.nil_append, List.append_nil, List.getElem?_cons_zero, List.getElem?_cons_succ, List.set_cons_zero, List.set_cons_succ, Option.some.injEq, V.int.injEq, V.ref.injEq, V.str.injEq, V.bl.injEq, exists_eq_left', exists_eq_left, exists_and_left, decide_eq_true_eq, List.cons.injEq, and_true, true_and, scal, Bool.not_eq_true', decide_eq_false_iff_not, Nat.zero_add, Nat.reduceAdd, Nat.reduceSub, reduceCtorEq, false_and, exists_false, false_or, or_false, CPow, CMul, CDiv, Int.reduceToNat, ↓reduceIte, wipe, sw, List.nil_append, List.singleton_append])
local macro_rules | `(tactic| walk_at "st") => `(tactic| (refine seq_op fun N hN => ?_; walk_at "rs"))
local macro_rules | `(tactic| walk_at "sd") => `(tactic| first | assumption | decide | omega)
local macro_rules | `(tactic| walk_at "rd") => `(tactic| repeat (first
  | refine ⟨_, SqL.of (by assumption), ?_⟩ | refine ⟨_, SqL.of upd_same, ?_⟩ | refine ⟨_, .inl (SqL.of (by assumption)), ?_⟩ | refine ⟨_, (by assumption : _ = some (HO.lst _)), ?_⟩ | refine ⟨_, upd_same, ?_⟩
  | refine ⟨_, rfl, ?_⟩ | refine And.intro (by walk_at "sd") ?_))

open TL
/-! ### data kept small -/
def leafD : PyData → Bool
  | .none | .bool _ => true
  | .int i => decide (i.natAbs < 2 ^ 4000)
  | .str z => decide (z.length ≤ 100000) && PyData.canLay0 (.str z)
  | _ => false
/-- at most n items each, at most m deep -/
def gd (n : Nat) : Nat → PyData → Bool
  | 0, d => leafD d
  | m + 1, .tuple ds => decide (ds.length ≤ n) && ds.all (gd n m)
  | m + 1, .list ds => decide (ds.length ≤ n) && ds.all (gd n m)
  | _ + 1, d => leafD d
theorem gd_tup {n m : Nat} {ds : List PyData} : gd n (m + 1) (.tuple ds) = true ↔ ds.length ≤ n ∧ ∀ d ∈ ds, gd n m d = true := by
  show (decide (ds.length ≤ n) && ds.all (gd n m)) = true ↔ _
  rw [Bool.and_eq_true, decide_eq_true_iff, List.all_eq_true]
theorem gd_lst {n m : Nat} {ds : List PyData} : gd n (m + 1) (.list ds) = true ↔ ds.length ≤ n ∧ ∀ d ∈ ds, gd n m d = true := by
  show (decide (ds.length ≤ n) && ds.all (gd n m)) = true ↔ _
  rw [Bool.and_eq_true, decide_eq_true_iff, List.all_eq_true]
theorem gd_leaf {n m : Nat} {d : PyData} (h : leafD d = true) : gd n m d = true := by
  cases m with
  | zero => exact h
  | succ m => cases d <;> first | exact h | cases h
theorem gd_mono {n n2 : Nat} (hn : n ≤ n2) : ∀ {m m2 : Nat}, m ≤ m2 → ∀ {d : PyData}, gd n m d = true → gd n2 m2 d = true
  | 0, _, _, d, h => gd_leaf h
  | m + 1, 0, hm, _, _ => absurd hm (by omega)
  | m + 1, m2 + 1, hm, .tuple ds, h => by
    obtain ⟨a, b⟩ := gd_tup.mp h
    exact gd_tup.mpr ⟨by omega, fun d hd => gd_mono hn (by omega) (b d hd)⟩
  | m + 1, m2 + 1, hm, .list ds, h => by
    obtain ⟨a, b⟩ := gd_lst.mp h
    exact gd_lst.mpr ⟨by omega, fun d hd => gd_mono hn (by omega) (b d hd)⟩
  | m + 1, m2 + 1, _, .none, h => h
  | m + 1, m2 + 1, _, .bool _, h => h
  | m + 1, m2 + 1, _, .int _, h => h
  | m + 1, m2 + 1, _, .str _, h => h
  | m + 1, m2 + 1, _, .dict _, h => h
theorem leaf_facts {d : PyData} (h : leafD d = true) : okD d = true ∧ d.canLay0 = true ∧ d.depth = 0 ∧ dep d = 0 := by
  cases d with
  | none => exact ⟨rfl, rfl, rfl, rfl⟩
  | bool b => exact ⟨rfl, rfl, rfl, rfl⟩
  | int i => exact ⟨h, rfl, rfl, rfl⟩
  | str z =>
    have h : (decide (z.length ≤ 100000) && PyData.canLay0 (.str z)) = true := h
    rw [Bool.and_eq_true] at h
    exact ⟨h.1, h.2, rfl, rfl⟩
  | _ => cases h
theorem lay_all : ∀ {ds : List PyData}, (∀ d ∈ ds, d.canLay0 = true) → PyData.canLayAll0 ds = true
  | [], _ => rfl
  | d :: ds, h => by
    unfold PyData.canLayAll0
    rw [h d (by simp), lay_all fun x hx => h x (List.mem_cons_of_mem _ hx)]
    rfl
theorem depth_all {k : Nat} : ∀ {ds : List PyData}, (∀ d ∈ ds, d.depth ≤ k) → PyData.depthAll ds ≤ k
  | [], _ => Nat.zero_le _
  | d :: ds, h => by
    unfold PyData.depthAll
    exact Nat.max_le.mpr ⟨h d (by simp), depth_all fun x hx => h x (List.mem_cons_of_mem _ hx)⟩
theorem dep_all {k : Nat} : ∀ {ds : List PyData}, (∀ d ∈ ds, dep d ≤ k) → depAll ds ≤ k
  | [], _ => Nat.zero_le _
  | d :: ds, h => by
    unfold depAll
    exact Nat.max_le.mpr ⟨h d (by simp), dep_all fun x hx => h x (List.mem_cons_of_mem _ hx)⟩
theorem gd_facts {n : Nat} (hn : n ≤ 100000) : ∀ {m : Nat} {d : PyData}, gd n m d = true → okD d = true ∧ d.canLay0 = true ∧ d.depth ≤ m ∧ dep d ≤ m
  | 0, d, h => by
    obtain ⟨a, b, c, e⟩ := leaf_facts (d := d) h
    exact ⟨a, b, by omega, by omega⟩
  | m + 1, .tuple ds, h => by
    obtain ⟨a, b⟩ := gd_tup.mp h
    have ih : ∀ d ∈ ds, _ := fun d hd => gd_facts hn (b d hd)
    refine ⟨okOf (by omega) fun d hd => (ih d hd).1, lay_all fun d hd => (ih d hd).2.1, ?_, ?_⟩
    · show PyData.depthAll ds + 1 ≤ m + 1
      have := depth_all fun d hd => (ih d hd).2.2.1
      omega
    · show depAll ds + 1 ≤ m + 1
      have := dep_all fun d hd => (ih d hd).2.2.2
      omega
  | m + 1, .list ds, h => by
    obtain ⟨a, b⟩ := gd_lst.mp h
    have ih : ∀ d ∈ ds, _ := fun d hd => gd_facts hn (b d hd)
    refine ⟨?_, lay_all fun d hd => (ih d hd).2.1, ?_, ?_⟩
    · have q := okOf (ds := ds) (by omega) fun d hd => (ih d hd).1
      exact q
    · show PyData.depthAll ds + 1 ≤ m + 1
      have := depth_all fun d hd => (ih d hd).2.2.1
      omega
    · show depAll ds + 1 ≤ m + 1
      have := dep_all fun d hd => (ih d hd).2.2.2
      omega
  | m + 1, .none, h => by
    obtain ⟨a, b, c, e⟩ := leaf_facts (d := .none) h
    exact ⟨a, b, by omega, by omega⟩
  | m + 1, .bool x, h => by
    obtain ⟨a, b, c, e⟩ := leaf_facts (d := .bool x) h
    exact ⟨a, b, by omega, by omega⟩
  | m + 1, .int x, h => by
    obtain ⟨a, b, c, e⟩ := leaf_facts (d := .int x) h
    exact ⟨a, b, by omega, by omega⟩
  | m + 1, .str x, h => by
    obtain ⟨a, b, c, e⟩ := leaf_facts (d := .str x) h
    exact ⟨a, b, by omega, by omega⟩
  | m + 1, .dict x, h => by cases h
theorem gd_shaped {n m : Nat} (hn : n ≤ 100000) (hm : m ≤ 64) {d : PyData} (h : gd n m d = true) : SeqAt.shaped d = true := by
  obtain ⟨_, a, b, _⟩ := gd_facts hn h
  show (d.canLay0 && decide (d.depth ≤ 64)) = true
  rw [a, decide_eq_true (by omega)]
  rfl
/-- items at hand, beside the bag -/
structure Ob (K : PySem.W.Frag) (b c : Addr) (G : Hp) (L : List (V × PyData)) : Prop where
  bag : Bag G b c
  all : ∀ x ∈ L, Dp K (hb G b) x.1 x.2
theorem hb_kp {G G' : Hp} {b : Addr} (k : Kp b G G') : Same (hb G b) (hb G' b) := fun x o h => by
  obtain ⟨n1, h1⟩ := hb_some h
  rw [hb_ne n1]
  exact k.hd h1 n1
theorem hb_in {G : Hp} {b : Addr} : Same (hb G b) G := fun x o h => (hb_some h).2
theorem Ob.step {K : PySem.W.Frag} {b c : Addr} {G G' : Hp} {L : List (V × PyData)} (g : Ob K b c G L) (B : Bag G' b c) (k : Kp b G G') : Ob K b c G' L := ⟨B, fun x hx => dp_same (hb_kp k) (g.all x hx)⟩
theorem Ob.newT {K : PySem.W.Frag} {b c : Addr} {G G' : Hp} {L : List (V × PyData)} {t : Addr} {vs : List V} {ds : List PyData} (g : Ob K b c G L) (s : Same G G') (n : G t = none) (h : G' t = some (.tup vs)) (hd : DpAll K (hb G b) vs ds) : Ob K b c G' ((.ref t, .tuple ds) :: L) := by
  have g2 := g.step (g.bag.same s) (Kp.of s)
  refine ⟨g2.bag, fun x hx => ?_⟩
  rcases List.mem_cons.mp hx with rfl | hx
  · exact .tup (SqT.of (by rw [hb_ne (new_ne g.bag n)]; exact h)) (dpa_same (hb_kp (Kp.of s)) hd)
  · exact g2.all x hx
theorem Ob.newL {K : PySem.W.Frag} {b c : Addr} {G G' : Hp} {L : List (V × PyData)} {t : Addr} {vs : List V} {ds : List PyData} (g : Ob K b c G L) (s : Same G G') (n : G t = none) (h : G' t = some (.lst vs)) (hd : DpAll K (hb G b) vs ds) : Ob K b c G' ((.ref t, .list ds) :: L) := by
  have g2 := g.step (g.bag.same s) (Kp.of s)
  refine ⟨g2.bag, fun x hx => ?_⟩
  rcases List.mem_cons.mp hx with rfl | hx
  · exact .lst (SqL.of (by rw [hb_ne (new_ne g.bag n)]; exact h)) (dpa_same (hb_kp (Kp.of s)) hd)
  · exact g2.all x hx
end LK

set_option Elab.async false
set_option linter.all false
set_option maxRecDepth 100000
set_option pp.deepTerms true
set_option pp.maxSteps 20000
namespace LK
open PySem PySem.Spec PyProof.Rows L2
local macro_rules | `(tactic| walk_at "rs") => `(tactic| simp only [cxK, cxNK, tCallZ, tAsg, tOp, rI0, rS0, rB0, rI, rU, tUn, rEq, rNe, rIxL, rIxT, rIxS, rSetL, rSlLU, rSlS, rSlU, rCatL, rCatU, rRepL, rIn, tVar, tC, gName, gSub, tIfS, tTest, tB, tAnd, tOr, tNot, tNotV, tAndV, tOrV, tIf, tCall, tCons, tNil, tCB, tDrop, tRet, tRetN, tNext, tLstU, tTupU, tM0, tM1, tPar, tPar3, tAug, ipI, tBM, tBM0, rAppend, rPop, tBreak, tCont, tChain, tSl, tPart, tNoPart, L2.start, List.map, List.length_cons, List.length_nil, List.replicate, List.cons_append, List.nil_append, List.append_nil, List.getElem?_cons_zero, List.getElem?_cons_succ, List.set_cons_zero, List.set_cons_succ, Option.some.injEq, V.int.injEq, V.ref.injEq, V.str.injEq, V.bl.injEq, exists_eq_left', exists_eq_left, exists_and_left, decide_eq_true_eq, List.cons.injEq, and_true, true_and, scal, Bool.not_eq_true', decide_eq_false_iff_not, Nat.zero_add, Nat.reduceAdd, Nat.reduceSub, reduceCtorEq, false_and, exists_false, false_or, or_false, CPow, CMul, CDiv, Int.reduceToNat, ↓reduceIte, wipe, sw, List.nil_append, List.singleton_append])
local macro_rules | `(tactic| walk_at "st") => `(tactic| (refine seq_op fun N hN => ?_; walk_at "rs"))
local macro_rules | `(tactic| walk_at "sd") => `(tactic| first | assumption | decide | omega)
local macro_rules | `(tactic| walk_at "rd") => `(tactic| repeat (first
  | refine ⟨_, SqL.of (by assumption), ?_⟩ | refine ⟨_, SqL.of upd_same, ?_⟩ | refine ⟨_, .inl (SqL.of (by assumption)), ?_⟩ | refine ⟨_, (by assumption : _ = some (HO.lst _)), ?_⟩ | refine ⟨_, upd_same, ?_⟩
  | refine ⟨_, rfl, ?_⟩ | refine And.intro (by walk_at "sd") ?_))

open TL
section
variable {P : Program} {w : World} {K : PySem.W.Frag} {mg : Str → Option Value} {base : Heap}
/-- something odd -/
def sp_odd (K : PySem.W.Frag) : Sp := fun vs H Q _ => ∃ b c, vs = [.ref b] ∧ Bag H b c ∧ ∀ v d H', gd 400 4 d = true → Dp K (hb H' b) v d → Bag H' b c → Kp b H H' → Q v H'
theorem ok__law_odd (T : Txt w K mg) : FnOk P w K mg base CX0 3 T.a__law_odd T.d__law_odd ["bag"] (sp_odd K) := by
  refine T.F__law_odd.ok sc__law_odd (fun vs H Q E h => ?_) (fun cdv A outer s H vs Q E hr h => ?_)
  · obtain ⟨b, c, rfl, _⟩ := h
    rfl
  · obtain ⟨b, c, rfl, B, k⟩ := h
    have hr__law_draw : Room 1 _ := hr.mono (by decide)
    have G__law_draw := ok__law_draw (P := P) (base := base) T
    have hr__law_of : Room 2 _ := hr
    have G__law_of := ok__law_of (P := P) (base := base) T
    refine ⟨_, (pss_cons (ps_set (i := 1) sc__law_odd.nd rfl (Or.inl rfl) (pe_call G__law_draw hr__law_draw (by rfl) T.m__law_draw T.F__law_draw.kp T.B__law_draw .nil pass0 (pa_cons (pv 0) (pa_cons pe_int pa_nil))))
      (pss_cons (ps_if (pt_cmpR op_eqI (pv 1) pe_int (nomark _)) (pss_one (ps_ret (pe_call G__law_of hr__law_of (by rfl) T.m__law_of T.F__law_of.kp T.B__law_of .nil pass0 (pa_cons (pv 0) (pa_cons (pe_lstU (pa_cons pe_str (pa_cons pe_str (pa_cons pe_str (pa_cons pe_str (pa_cons pe_str (pa_cons pe_str (pa_cons pe_str (pa_cons pe_str (pa_cons pe_str (pa_cons pe_str (pa_cons pe_str (pa_cons pe_str (pa_cons pe_str (pa_cons pe_str (pa_cons pe_str (pa_cons pe_str (pa_cons pe_str pa_nil)))))))))))))))))) pa_nil))))) pss_nil)
      (pss_cons (ps_if (pt_cmpR op_eqI (pv 1) pe_int (nomark _)) (pss_one (ps_ret (pe_call G__law_of hr__law_of (by rfl) T.m__law_of T.F__law_of.kp T.B__law_of .nil pass0 (pa_cons (pv 0) (pa_cons (pe_lstU (pa_cons pe_non (pa_cons pe_bl (pa_cons pe_bl (pa_cons pe_int (pa_cons pe_int (pa_cons pe_int (pa_cons (pe_un un_neg pe_int) (pa_cons pe_int (pa_cons (pe_un un_neg pe_int) (pa_cons (pe_tupU pa_nil) (pa_cons (pe_tupU (pa_cons pe_str pa_nil)) (pa_cons (pe_lstU (pa_cons pe_str pa_nil)) (pa_cons (pe_tupU (pa_cons pe_str pa_nil)) (pa_cons (pe_tupU (pa_cons pe_str (pa_cons pe_str pa_nil))) (pa_cons (pe_tupU (pa_cons (pe_tupU (pa_cons pe_str pa_nil)) pa_nil)) (pa_cons pe_str pa_nil))))))))))))))))) pa_nil))))) pss_nil)
      (pss_cons (ps_set (i := 2) sc__law_odd.nd rfl (Or.inl rfl) (pe_lstU (pa_cons (pe_tupU (pa_cons pe_int (pa_cons pe_int pa_nil))) (pa_cons (pe_tupU (pa_cons pe_int (pa_cons pe_int pa_nil))) (pa_cons (pe_tupU (pa_cons pe_int (pa_cons pe_int pa_nil))) (pa_cons (pe_tupU (pa_cons pe_int (pa_cons pe_int pa_nil))) (pa_cons (pe_tupU (pa_cons pe_int (pa_cons pe_int pa_nil))) (pa_cons (pe_tupU (pa_cons pe_int (pa_cons pe_int pa_nil))) (pa_cons (pe_tupU (pa_cons pe_bl (pa_cons pe_int pa_nil))) (pa_cons (pe_tupU (pa_cons pe_int (pa_cons pe_int pa_nil))) (pa_cons (pe_tupU (pa_cons (pe_tupU (pa_cons pe_int (pa_cons pe_int pa_nil))) pa_nil)) (pa_cons (pe_lstU (pa_cons (pe_tupU (pa_cons pe_int (pa_cons pe_int pa_nil))) pa_nil)) (pa_cons (pe_tupU (pa_cons (pe_tupU (pa_cons pe_int (pa_cons pe_int pa_nil))) (pa_cons (pe_tupU (pa_cons pe_int (pa_cons pe_int pa_nil))) pa_nil))) (pa_cons (pe_tupU (pa_cons (pe_tupU (pa_cons (pe_tupU (pa_cons pe_int (pa_cons pe_int pa_nil))) (pa_cons (pe_tupU (pa_cons pe_int (pa_cons pe_int pa_nil))) pa_nil))) pa_nil)) pa_nil))))))))))))))
      (pss_one (ps_ret (pe_call G__law_of hr__law_of (by rfl) T.m__law_of T.F__law_of.kp T.B__law_of .nil pass0 (pa_cons (pv 0) (pa_cons (pv 2) pa_nil))))))))), ?_⟩
    refine seq_op fun N hN => ?_
    walk_at "rs"
    refine ⟨b, c, 3, rfl, B, by decide, by decide, fun way H1 w0 w1 B1 K1 => hN _ _ ?_⟩
    clear hN N
    refine seq_op fun N hN => ?_
    walk_at "rs"
    refine ite2 (fun _ => ⟨by decide, fun p H2 s2 n2 h2 => ?_⟩) (fun _ => hN _ _ ?_)
    · refine of_newR (R := fun z => leafD (.str z) = true) B1 ["a", "sign", "place", "let", "count", "be", "A", "", "abcdefg", "zz9", "=", "==", "<>", "<=", "pairs", "1", "-0"] s2 n2 h2 (by simp) (by simp) (by decide +kernel) fun z H3 hz B3 K3 => k _ (.str z) H3 (gd_leaf hz) (.str z) B3 (Same.trans K1 K3)
    clear hN N
    refine seq_op fun N hN => ?_
    walk_at "rs"
    refine ite2 (fun _ => ?_) (fun _ => hN _ _ ?_)
    · refine ⟨by decide, fun q0 G0 s0 n0 h0 => ⟨by decide, fun q1 G1 s1 n1 h1 => ⟨by decide, fun q2 G2 s2 n2 h2 => ⟨by decide, fun q3 G3 s3 n3 h3 => ⟨by decide, fun q4 G4 s4 n4 h4 => ⟨by decide, fun q5 G5 s5 n5 h5 => ⟨by decide, fun q6 G6 s6 n6 h6 => ⟨by decide, fun q7 G7 s7 n7 h7 => ?_⟩⟩⟩⟩⟩⟩⟩⟩
      have g : Ob K b c H1 [] := ⟨B1, fun x hx => (by cases hx)⟩
      replace g := g.newT s0 n0 h0 (ds := []) .nil
      replace g := g.newT s1 n1 h1 (ds := [.str "1"]) (.cons (.str _) .nil)
      replace g := g.newL s2 n2 h2 (ds := [.str "1"]) (.cons (.str _) .nil)
      replace g := g.newT s3 n3 h3 (ds := [.str "a"]) (.cons (.str _) .nil)
      replace g := g.newT s4 n4 h4 (ds := [.str "a", .str "a"]) (.cons (.str _) (.cons (.str _) .nil))
      replace g := g.newT s5 n5 h5 (ds := [.str "a"]) (.cons (.str _) .nil)
      replace g := g.newT s6 n6 h6 (ds := [.tuple [.str "a"]]) (.cons (g.all _ List.mem_cons_self) .nil)
      have KL : Kp b H G6 := Same.trans K1 (Kp.of (Same.trans (Same.trans (Same.trans (Same.trans (Same.trans (Same.trans s0 s1) s2) s3) s4) s5) s6))
      refine of_new (E := E0) g.bag s7 n7 h7 (by simp) (by simp) fun v H2 hv B2 K2 => ?_
      replace g := g.step B2 K2
      replace KL : Kp b H H2 := Same.trans KL K2
      simp only [List.mem_cons, List.mem_nil_iff, or_false] at hv
      rcases hv with rfl | rfl | rfl | rfl | rfl | rfl | rfl | rfl | rfl | rfl | rfl | rfl | rfl | rfl | rfl | rfl
      · exact k _ (.none) _ (by decide +kernel) (.non) g.bag KL
      · exact k _ (.bool true) _ (by decide +kernel) (.bl _) g.bag KL
      · exact k _ (.bool false) _ (by decide +kernel) (.bl _) g.bag KL
      · exact k _ (.int 0) _ (by decide +kernel) (.int _) g.bag KL
      · exact k _ (.int 1) _ (by decide +kernel) (.int _) g.bag KL
      · exact k _ (.int 9) _ (by decide +kernel) (.int _) g.bag KL
      · exact k _ (.int (-9)) _ (by decide +kernel) (.int _) g.bag KL
      · exact k _ (.int 10) _ (by decide +kernel) (.int _) g.bag KL
      · exact k _ (.int (-10)) _ (by decide +kernel) (.int _) g.bag KL
      · exact k _ (.tuple []) _ (by decide +kernel) (g.all _ (List.mem_cons_of_mem _ (List.mem_cons_of_mem _ (List.mem_cons_of_mem _ (List.mem_cons_of_mem _ (List.mem_cons_of_mem _ (List.mem_cons_of_mem _ List.mem_cons_self))))))) g.bag KL
      · exact k _ (.tuple [.str "1"]) _ (by decide +kernel) (g.all _ (List.mem_cons_of_mem _ (List.mem_cons_of_mem _ (List.mem_cons_of_mem _ (List.mem_cons_of_mem _ (List.mem_cons_of_mem _ List.mem_cons_self)))))) g.bag KL
      · exact k _ (.list [.str "1"]) _ (by decide +kernel) (g.all _ (List.mem_cons_of_mem _ (List.mem_cons_of_mem _ (List.mem_cons_of_mem _ (List.mem_cons_of_mem _ List.mem_cons_self))))) g.bag KL
      · exact k _ (.tuple [.str "a"]) _ (by decide +kernel) (g.all _ (List.mem_cons_of_mem _ (List.mem_cons_of_mem _ (List.mem_cons_of_mem _ List.mem_cons_self)))) g.bag KL
      · exact k _ (.tuple [.str "a", .str "a"]) _ (by decide +kernel) (g.all _ (List.mem_cons_of_mem _ (List.mem_cons_of_mem _ List.mem_cons_self))) g.bag KL
      · exact k _ (.tuple [.tuple [.str "a"]]) _ (by decide +kernel) (g.all _ List.mem_cons_self) g.bag KL
      · exact k _ (.str "sign place") _ (by decide +kernel) (.str _) g.bag KL
    clear hN N
    refine seq_op fun N hN => ?_
    walk_at "rs"
    refine ⟨by decide, fun q0 G0 s0 n0 h0 => ⟨by decide, fun q1 G1 s1 n1 h1 => ⟨by decide, fun q2 G2 s2 n2 h2 => ⟨by decide, fun q3 G3 s3 n3 h3 => ⟨by decide, fun q4 G4 s4 n4 h4 => ⟨by decide, fun q5 G5 s5 n5 h5 => ⟨by decide, fun q6 G6 s6 n6 h6 => ⟨by decide, fun q7 G7 s7 n7 h7 => ⟨by decide, fun q8 G8 s8 n8 h8 => ⟨by decide, fun q9 G9 s9 n9 h9 => ⟨by decide, fun q10 G10 s10 n10 h10 => ⟨by decide, fun q11 G11 s11 n11 h11 => ⟨by decide, fun q12 G12 s12 n12 h12 => ⟨by decide, fun q13 G13 s13 n13 h13 => ⟨by decide, fun q14 G14 s14 n14 h14 => ⟨by decide, fun q15 G15 s15 n15 h15 => ⟨by decide, fun q16 G16 s16 n16 h16 => ⟨by decide, fun q17 G17 s17 n17 h17 => ⟨by decide, fun q18 G18 s18 n18 h18 => ⟨by decide, fun q19 G19 s19 n19 h19 => hN _ _ ?_⟩⟩⟩⟩⟩⟩⟩⟩⟩⟩⟩⟩⟩⟩⟩⟩⟩⟩⟩⟩
    have g : Ob K b c H1 [] := ⟨B1, fun x hx => (by cases hx)⟩
    replace g := g.newT s0 n0 h0 (ds := [.int 3, .int 1]) (.cons (.int _) (.cons (.int _) .nil))
    replace g := g.newT s1 n1 h1 (ds := [.int 2, .int 4]) (.cons (.int _) (.cons (.int _) .nil))
    replace g := g.newT s2 n2 h2 (ds := [.int 1, .int 10000]) (.cons (.int _) (.cons (.int _) .nil))
    replace g := g.newT s3 n3 h3 (ds := [.int 99, .int 1]) (.cons (.int _) (.cons (.int _) .nil))
    replace g := g.newT s4 n4 h4 (ds := [.int 100, .int 1]) (.cons (.int _) (.cons (.int _) .nil))
    replace g := g.newT s5 n5 h5 (ds := [.int 0, .int 1]) (.cons (.int _) (.cons (.int _) .nil))
    replace g := g.newT s6 n6 h6 (ds := [.bool true, .int 1]) (.cons (.bl _) (.cons (.int _) .nil))
    replace g := g.newT s7 n7 h7 (ds := [.int 1, .int 0]) (.cons (.int _) (.cons (.int _) .nil))
    replace g := g.newT s8 n8 h8 (ds := [.int 0, .int 1]) (.cons (.int _) (.cons (.int _) .nil))
    replace g := g.newT s9 n9 h9 (ds := [.tuple [.int 0, .int 1]]) (.cons (g.all _ List.mem_cons_self) .nil)
    replace g := g.newT s10 n10 h10 (ds := [.int 0, .int 1]) (.cons (.int _) (.cons (.int _) .nil))
    replace g := g.newL s11 n11 h11 (ds := [.tuple [.int 0, .int 1]]) (.cons (g.all _ List.mem_cons_self) .nil)
    replace g := g.newT s12 n12 h12 (ds := [.int 0, .int 1]) (.cons (.int _) (.cons (.int _) .nil))
    replace g := g.newT s13 n13 h13 (ds := [.int 1, .int 1]) (.cons (.int _) (.cons (.int _) .nil))
    replace g := g.newT s14 n14 h14 (ds := [.tuple [.int 0, .int 1], .tuple [.int 1, .int 1]]) (.cons (g.all _ (List.mem_cons_of_mem _ List.mem_cons_self)) (.cons (g.all _ List.mem_cons_self) .nil))
    replace g := g.newT s15 n15 h15 (ds := [.int 0, .int 1]) (.cons (.int _) (.cons (.int _) .nil))
    replace g := g.newT s16 n16 h16 (ds := [.int 1, .int 2]) (.cons (.int _) (.cons (.int _) .nil))
    replace g := g.newT s17 n17 h17 (ds := [.tuple [.int 0, .int 1], .tuple [.int 1, .int 2]]) (.cons (g.all _ (List.mem_cons_of_mem _ List.mem_cons_self)) (.cons (g.all _ List.mem_cons_self) .nil))
    replace g := g.newT s18 n18 h18 (ds := [.tuple [.tuple [.int 0, .int 1], .tuple [.int 1, .int 2]]]) (.cons (g.all _ List.mem_cons_self) .nil)
    have KL : Kp b H G18 := Same.trans K1 (Kp.of (Same.trans (Same.trans (Same.trans (Same.trans (Same.trans (Same.trans (Same.trans (Same.trans (Same.trans (Same.trans (Same.trans (Same.trans (Same.trans (Same.trans (Same.trans (Same.trans (Same.trans (Same.trans s0 s1) s2) s3) s4) s5) s6) s7) s8) s9) s10) s11) s12) s13) s14) s15) s16) s17) s18))
    clear hN N
    have hq : G19 q19 = some (.lst _) := h19
    have nq : q19 ≠ b := new_ne g.bag n19
    replace KL : Kp b H G19 := Same.trans KL (Kp.of s19)
    replace g := g.step (g.bag.same s19) (Kp.of s19)
    walk_at "rs"
    refine of_lst g.bag hq nq (by simp) (by simp) fun v H2 hv B2 K2 => ?_
    replace g := g.step B2 K2
    replace KL : Kp b H H2 := Same.trans KL K2
    simp only [List.mem_cons, List.mem_nil_iff, or_false] at hv
    rcases hv with rfl | rfl | rfl | rfl | rfl | rfl | rfl | rfl | rfl | rfl | rfl | rfl
    · exact k _ (.tuple [.int 3, .int 1]) _ (by decide +kernel) (g.all _ (List.mem_cons_of_mem _ (List.mem_cons_of_mem _ (List.mem_cons_of_mem _ (List.mem_cons_of_mem _ (List.mem_cons_of_mem _ (List.mem_cons_of_mem _ (List.mem_cons_of_mem _ (List.mem_cons_of_mem _ (List.mem_cons_of_mem _ (List.mem_cons_of_mem _ (List.mem_cons_of_mem _ (List.mem_cons_of_mem _ (List.mem_cons_of_mem _ (List.mem_cons_of_mem _ (List.mem_cons_of_mem _ (List.mem_cons_of_mem _ (List.mem_cons_of_mem _ (List.mem_cons_of_mem _ List.mem_cons_self))))))))))))))))))) g.bag KL
    · exact k _ (.tuple [.int 2, .int 4]) _ (by decide +kernel) (g.all _ (List.mem_cons_of_mem _ (List.mem_cons_of_mem _ (List.mem_cons_of_mem _ (List.mem_cons_of_mem _ (List.mem_cons_of_mem _ (List.mem_cons_of_mem _ (List.mem_cons_of_mem _ (List.mem_cons_of_mem _ (List.mem_cons_of_mem _ (List.mem_cons_of_mem _ (List.mem_cons_of_mem _ (List.mem_cons_of_mem _ (List.mem_cons_of_mem _ (List.mem_cons_of_mem _ (List.mem_cons_of_mem _ (List.mem_cons_of_mem _ (List.mem_cons_of_mem _ List.mem_cons_self)))))))))))))))))) g.bag KL
    · exact k _ (.tuple [.int 1, .int 10000]) _ (by decide +kernel) (g.all _ (List.mem_cons_of_mem _ (List.mem_cons_of_mem _ (List.mem_cons_of_mem _ (List.mem_cons_of_mem _ (List.mem_cons_of_mem _ (List.mem_cons_of_mem _ (List.mem_cons_of_mem _ (List.mem_cons_of_mem _ (List.mem_cons_of_mem _ (List.mem_cons_of_mem _ (List.mem_cons_of_mem _ (List.mem_cons_of_mem _ (List.mem_cons_of_mem _ (List.mem_cons_of_mem _ (List.mem_cons_of_mem _ (List.mem_cons_of_mem _ List.mem_cons_self))))))))))))))))) g.bag KL
    · exact k _ (.tuple [.int 99, .int 1]) _ (by decide +kernel) (g.all _ (List.mem_cons_of_mem _ (List.mem_cons_of_mem _ (List.mem_cons_of_mem _ (List.mem_cons_of_mem _ (List.mem_cons_of_mem _ (List.mem_cons_of_mem _ (List.mem_cons_of_mem _ (List.mem_cons_of_mem _ (List.mem_cons_of_mem _ (List.mem_cons_of_mem _ (List.mem_cons_of_mem _ (List.mem_cons_of_mem _ (List.mem_cons_of_mem _ (List.mem_cons_of_mem _ (List.mem_cons_of_mem _ List.mem_cons_self)))))))))))))))) g.bag KL
    · exact k _ (.tuple [.int 100, .int 1]) _ (by decide +kernel) (g.all _ (List.mem_cons_of_mem _ (List.mem_cons_of_mem _ (List.mem_cons_of_mem _ (List.mem_cons_of_mem _ (List.mem_cons_of_mem _ (List.mem_cons_of_mem _ (List.mem_cons_of_mem _ (List.mem_cons_of_mem _ (List.mem_cons_of_mem _ (List.mem_cons_of_mem _ (List.mem_cons_of_mem _ (List.mem_cons_of_mem _ (List.mem_cons_of_mem _ (List.mem_cons_of_mem _ List.mem_cons_self))))))))))))))) g.bag KL
    · exact k _ (.tuple [.int 0, .int 1]) _ (by decide +kernel) (g.all _ (List.mem_cons_of_mem _ (List.mem_cons_of_mem _ (List.mem_cons_of_mem _ (List.mem_cons_of_mem _ (List.mem_cons_of_mem _ (List.mem_cons_of_mem _ (List.mem_cons_of_mem _ (List.mem_cons_of_mem _ (List.mem_cons_of_mem _ (List.mem_cons_of_mem _ (List.mem_cons_of_mem _ (List.mem_cons_of_mem _ (List.mem_cons_of_mem _ List.mem_cons_self)))))))))))))) g.bag KL
    · exact k _ (.tuple [.bool true, .int 1]) _ (by decide +kernel) (g.all _ (List.mem_cons_of_mem _ (List.mem_cons_of_mem _ (List.mem_cons_of_mem _ (List.mem_cons_of_mem _ (List.mem_cons_of_mem _ (List.mem_cons_of_mem _ (List.mem_cons_of_mem _ (List.mem_cons_of_mem _ (List.mem_cons_of_mem _ (List.mem_cons_of_mem _ (List.mem_cons_of_mem _ (List.mem_cons_of_mem _ List.mem_cons_self))))))))))))) g.bag KL
    · exact k _ (.tuple [.int 1, .int 0]) _ (by decide +kernel) (g.all _ (List.mem_cons_of_mem _ (List.mem_cons_of_mem _ (List.mem_cons_of_mem _ (List.mem_cons_of_mem _ (List.mem_cons_of_mem _ (List.mem_cons_of_mem _ (List.mem_cons_of_mem _ (List.mem_cons_of_mem _ (List.mem_cons_of_mem _ (List.mem_cons_of_mem _ (List.mem_cons_of_mem _ List.mem_cons_self)))))))))))) g.bag KL
    · exact k _ (.tuple [.tuple [.int 0, .int 1]]) _ (by decide +kernel) (g.all _ (List.mem_cons_of_mem _ (List.mem_cons_of_mem _ (List.mem_cons_of_mem _ (List.mem_cons_of_mem _ (List.mem_cons_of_mem _ (List.mem_cons_of_mem _ (List.mem_cons_of_mem _ (List.mem_cons_of_mem _ (List.mem_cons_of_mem _ List.mem_cons_self)))))))))) g.bag KL
    · exact k _ (.list [.tuple [.int 0, .int 1]]) _ (by decide +kernel) (g.all _ (List.mem_cons_of_mem _ (List.mem_cons_of_mem _ (List.mem_cons_of_mem _ (List.mem_cons_of_mem _ (List.mem_cons_of_mem _ (List.mem_cons_of_mem _ (List.mem_cons_of_mem _ List.mem_cons_self)))))))) g.bag KL
    · exact k _ (.tuple [.tuple [.int 0, .int 1], .tuple [.int 1, .int 1]]) _ (by decide +kernel) (g.all _ (List.mem_cons_of_mem _ (List.mem_cons_of_mem _ (List.mem_cons_of_mem _ (List.mem_cons_of_mem _ List.mem_cons_self))))) g.bag KL
    · exact k _ (.tuple [.tuple [.tuple [.int 0, .int 1], .tuple [.int 1, .int 2]]]) _ (by decide +kernel) (g.all _ List.mem_cons_self) g.bag KL
end
end LK

set_option Elab.async false
set_option linter.all false
set_option maxRecDepth 100000
set_option pp.deepTerms true
set_option pp.maxSteps 20000
namespace LK
open PySem PySem.Spec PyProof.Rows L2
local macro_rules | `(tactic| walk_at "rs") => `(tactic| simp only [cxK, cxNK, tCallZ, tAsg, tOp, rI0, rS0, rB0, rI, rU, tUn, rEq, rNe, rIxL, rIxT, rIxS, rSetL, rSlLU, rSlS, rSlU, rCatL, rCatU, rRepL, rIn, tVar, tC, gName, gSub, tIfS, tTest, tB, tAnd, tOr, tNot, tNotV, tAndV, tOrV, tIf, tCall, tCons, tNil, tCB, tDrop, tRet, tRetN, tNext, tLstU, tTupU, tM0, tM1, tPar, tPar3, tAug, ipI, tBM, tBM0, rAppend, rPop, tBreak, tCont, tChain, tSl, tPart, tNoPart, L2.start, List.map, List.length_cons, List.length_nil, List.replicate, List.cons_append, List.nil_append, List.append_nil, List.getElem?_cons_zero, List.getElem?_cons_succ, List.set_cons_zero, List.set_cons_succ, Option.some.injEq, V.int.injEq, V.ref.injEq, V.str.injEq, V.bl.injEq, exists_eq_left', exists_eq_left, exists_and_left, decide_eq_true_eq, List.cons.injEq, and_true, true_and, scal, Bool.not_eq_true', decide_eq_false_iff_not, Nat.zero_add, Nat.reduceAdd, Nat.reduceSub, reduceCtorEq, false_and, exists_false, false_or, or_false, CPow, CMul, CDiv, Int.reduceToNat, ↓reduceIte, wipe, sw, List.nil_append, List.singleton_append])
local macro_rules | `(tactic| walk_at "st") => `(tactic| (refine seq_op fun N hN => ?_; walk_at "rs"))
local macro_rules | `(tactic| walk_at "sd") => `(tactic| first | assumption | decide | omega)
local macro_rules | `(tactic| walk_at "rd") => `(tactic| repeat (first
  | refine ⟨_, SqL.of (by assumption), ?_⟩ | refine ⟨_, SqL.of upd_same, ?_⟩ | refine ⟨_, .inl (SqL.of (by assumption)), ?_⟩ | refine ⟨_, (by assumption : _ = some (HO.lst _)), ?_⟩ | refine ⟨_, upd_same, ?_⟩
  | refine ⟨_, rfl, ?_⟩ | refine And.intro (by walk_at "sd") ?_))

open TL
theorem dpa_dropN {K : PySem.W.Frag} {H : Hp} : ∀ (n : Nat) {xs : List V} {ds : List PyData}, DpAll K H xs ds → DpAll K H (xs.drop n) (ds.drop n)
  | 0, _, _, h => h
  | n + 1, _, _, .nil => .nil
  | n + 1, _, _, .cons _ t => dpa_dropN n t
theorem mem_td {ds : List PyData} {p : PyData → Prop} (h : ∀ d ∈ ds, p d) (i k : Nat) : (∀ d ∈ ds.take i, p d) ∧ ∀ d ∈ ds.drop k, p d := ⟨fun d hd => h d (List.mem_of_mem_take hd), fun d hd => h d (List.mem_of_mem_drop hd)⟩
section
variable {P : Program} {w : World} {K : PySem.W.Frag} {mg : Str → Option Value} {base : Heap}
/-- data bent -/
def sp_bend (K : PySem.W.Frag) (n : Nat) : Sp := fun vs H Q _ => ∃ (b c : Addr) (v : V) (d : PyData) (k : Int) (j m : Nat), vs = [.ref b, v, .int k] ∧ Bag H b c ∧ Dp K (hb H b) v d ∧ gd j m d = true ∧ k ≤ n ∧ 5 + n ≤ m ∧ m ≤ 20 ∧ 400 ≤ j ∧ j ≤ 1000 ∧
  ∀ v' d' H', gd (j + 1) m d' = true → Dp K (hb H' b) v' d' → Bag H' b c → Kp b H H' → Q v' H'
theorem bend_step (T : Txt w K mg) (n : Nat) (sp0 : Sp) (G__law_bend : FnOk P w K mg base CX0 (n + 3) T.a__law_bend T.d__law_bend ["bag", "thing", "deep"] sp0) (h0 : ∀ (m : Nat) vs H Q E, n = m + 1 → sp_bend K m vs H Q E → sp0 vs H Q E) :
    FnOk P w K mg base CX0 (n + 4) T.a__law_bend T.d__law_bend ["bag", "thing", "deep"] (sp_bend K n) := by
  refine T.F__law_bend.ok sc__law_bend (fun vs H Q E h => ?_) (fun cdv A outer s H vs Q E hr h => ?_)
  · obtain ⟨b, c, v, d, k, j, m, rfl, _⟩ := h
    rfl
  · obtain ⟨b, c, v, d, dp, j, m, rfl, B, hd, hg, hk, hm, hm2, hj, hj2, k⟩ := h
    have hr__law_bend : Room (n + 3) _ := hr
    have hr__law_draw : Room 1 _ := hr.mono (by omega)
    have G__law_draw := ok__law_draw (P := P) (base := base) T
    have hr__law_odd : Room 3 _ := hr.mono (by omega)
    have G__law_odd := ok__law_odd (P := P) (base := base) T
    refine ⟨_, (pss_cons (ps_if (PW.pt (pw_and (pt_val (pe_callB (call_isiDK (K := K) rfl) (by rfl) T.n_isinstance (by decide +kernel) (pa_cons (pv 1) (pa_cons (pe_bltn (v := .ty "tuple") (u := .type "tuple") (by rfl) T.n_tuple (by decide +kernel) rfl) pa_nil)))) (pw_and (pt_cmpR (op_neD hr.units) (pv 1) (pe_tupU pa_nil) (nomark _)) (pw_and (pt_cmpR op_gt (pv 2) pe_int (nomark _)) (pw_and1 (pt_cmpR op_gt (pe_call G__law_draw hr__law_draw (by rfl) T.m__law_draw T.F__law_draw.kp T.B__law_draw .nil pass0 (pa_cons (pv 0) (pa_cons pe_int pa_nil))) pe_int (nomark _))))))) (pss_cons (ps_set (i := 3) sc__law_bend.nd rfl (Or.inl rfl) (pe_call G__law_draw hr__law_draw (by rfl) T.m__law_draw T.F__law_draw.kp T.B__law_draw .nil pass0 (pa_cons (pv 0) (pa_cons (pe_callB call_len_seq (by rfl) T.n_len (by decide +kernel) (pa_cons (pv 1) pa_nil)) pa_nil))))
      (pss_one (ps_ret (pe_op op_catU (pe_op op_catU (pe_slice sl_tupU (pv 1) po_none (po_some (pv 3))) (pe_tupU (pa_cons (pe_call G__law_bend hr__law_bend (by rfl) T.m__law_bend T.F__law_bend.kp T.B__law_bend .nil pass0 (pa_cons (pv 0) (pa_cons (pe_ix ix_tup (pv 1) (pv 3) (fun _ _ => rfl)) (pa_cons (pe_op op_sub (pv 2) pe_int) pa_nil)))) pa_nil))) (pe_slice sl_tupU (pv 1) (po_some (pe_op op_add (pv 3) pe_int)) po_none))))) pss_nil)
      (pss_cons (ps_set (i := 4) sc__law_bend.nd rfl (Or.inl rfl) (pe_call G__law_draw hr__law_draw (by rfl) T.m__law_draw T.F__law_draw.kp T.B__law_draw .nil pass0 (pa_cons (pv 0) (pa_cons pe_int pa_nil))))
      (pss_cons (ps_if (PW.pt (pw_and (pt_val (pe_callB (call_isiDK (K := K) rfl) (by rfl) T.n_isinstance (by decide +kernel) (pa_cons (pv 1) (pa_cons (pe_bltn (v := .ty "tuple") (u := .type "tuple") (by rfl) T.n_tuple (by decide +kernel) rfl) pa_nil)))) (pw_and1 (pt_cmpR op_eqI (pv 4) pe_int (nomark _))))) (pss_one (ps_ret (pe_callTy call_listU (by rfl) T.n_list (by decide +kernel) (pa_cons (pv 1) pa_nil)))) pss_nil)
      (pss_cons (ps_if (PW.pt (pw_and (pt_val (pe_callB (call_isiDK (K := K) rfl) (by rfl) T.n_isinstance (by decide +kernel) (pa_cons (pv 1) (pa_cons (pe_bltn (v := .ty "tuple") (u := .type "tuple") (by rfl) T.n_tuple (by decide +kernel) rfl) pa_nil)))) (pw_and (pt_cmpR (op_neD hr.units) (pv 1) (pe_tupU pa_nil) (nomark _)) (pw_and1 (pt_cmpR op_lt (pv 4) pe_int (nomark _)))))) (pss_cons (ps_set (i := 3) sc__law_bend.nd rfl (Or.inl rfl) (pe_call G__law_draw hr__law_draw (by rfl) T.m__law_draw T.F__law_draw.kp T.B__law_draw .nil pass0 (pa_cons (pv 0) (pa_cons (pe_callB call_len_seq (by rfl) T.n_len (by decide +kernel) (pa_cons (pv 1) pa_nil)) pa_nil))))
      (pss_cons (ps_if (pt_cmpR op_eqI (pv 4) pe_int (nomark _)) (pss_one (ps_ret (pe_op op_catU (pe_slice sl_tupU (pv 1) po_none (po_some (pv 3))) (pe_slice sl_tupU (pv 1) (po_some (pe_op op_add (pv 3) pe_int)) po_none)))) pss_nil)
      (pss_one (ps_ret (pe_ifExp (pt_cmpR op_eqI (pv 4) pe_int (nomark _)) (pe_op op_catU (pe_op op_catU (pe_slice sl_tupU (pv 1) po_none (po_some (pv 3))) (pe_tupU (pa_cons (pe_ix ix_tup (pv 1) (pv 3) (fun _ _ => rfl)) pa_nil))) (pe_slice sl_tupU (pv 1) (po_some (pv 3)) po_none)) (pe_op op_catU (pv 1) (pe_tupU (pa_cons (pe_call G__law_odd hr__law_odd (by rfl) T.m__law_odd T.F__law_odd.kp T.B__law_odd .nil pass0 (pa_cons (pv 0) pa_nil)) pa_nil)))))))) pss_nil)
      (pss_one (ps_ret (pe_call G__law_odd hr__law_odd (by rfl) T.m__law_odd T.F__law_odd.kp T.B__law_odd .nil pass0 (pa_cons (pv 0) pa_nil)))))))), ?_⟩
    have sh := gd_shaped (by omega) (by omega) hg
    obtain ⟨m, rfl⟩ : ∃ m', m = m' + 1 := ⟨m - 1, by omega⟩
    refine seq_op fun N hN => ?_
    walk_at "rs"
    have nx : ∀ H', Bag H' b c → Kp b H H' → N [some (.ref b), some v, some (.int dp), none, none] H' := by
      intro H1 B1 K1
      refine hN _ _ ?_
      clear hN N
      have hd1 := dp_same (hb_kp K1) hd
      refine seq_op fun N hN => ?_
      walk_at "rs"
      refine ⟨b, c, 6, rfl, B1, by decide, by decide, fun way H2 w0 w1 B2 K2 => hN _ _ ?_⟩
      clear hN N
      have K12 : Kp b H H2 := Same.trans K1 K2
      have hd2 := dp_same (hb_kp K12) hd
      refine seq_op fun N hN => ?_
      walk_at "rs"
      have nx2 : N [some (.ref b), some v, some (.int dp), none, some (.int way)] H2 := by
        refine hN _ _ ?_
        clear hN N
        refine seq_op fun N hN => ?_
        walk_at "rs"
        have odd : ∀ H', Bag H' b c → Kp b H H' → N [some (.ref b), some v, some (.int dp), none, some (.int way)] H' := by
          intro H3 B3 K3
          refine hN _ _ ?_
          clear hN N
          walk_at "rs"
          exact ⟨b, c, rfl, B3, fun v' d' H' hg' hd' B' K' => k v' d' H' (gd_mono (by omega) (by omega) hg') hd' B' (Same.trans K3 K')⟩
        refine ⟨v, _, ⟨rfl, rfl⟩, d, dp_same hb_in hd2, by decide, ite2 (fun e => ?_) (fun e => odd H2 B2 K12)⟩
        obtain ⟨ds, rfl⟩ := is_tup e
        refine ⟨by decide, fun p H3 s3 n3 h3 => ⟨_, .tuple [], dp_same (Same.trans hb_in s3) hd2, .tup (SqT.of h3) .nil, sh, by decide, _, rfl, ite2 (fun e2 => ite2 (fun e3 => ?_) (fun _ => odd H3 (B2.same s3) (Same.trans K12 (Kp.of s3)))) (fun _ => odd H3 (B2.same s3) (Same.trans K12 (Kp.of s3)))⟩⟩
        clear odd
        have B3 := B2.same s3
        have K3' : Kp b H H3 := Same.trans K12 (Kp.of s3)
        have hd3 := dp_same (hb_kp K3') hd
        obtain ⟨a, xs, rfl, ha, hx⟩ := dp_tup hd3
        have len := dpa_len4 hx
        obtain ⟨gl, ga⟩ := gd_tup.mp hg
        have ne : 0 < ds.length := by
          cases ds with
          | nil => exact absurd e2 (by decide)
          | cons => simp
        refine seq_op fun N2 hN2 => ?_
        walk_at "rs"
        refine ⟨_, .inr (Same.seqT hb_in ha), b, c, _, rfl, B3, by omega, by omega, fun i H4 i0 i1 B4 K4 => hN2 _ _ ?_⟩
        clear hN2 N2
        have K4' : Kp b H H4 := Same.trans K3' K4
        replace ha := Same.seqT (hb_kp K4) ha
        replace hx := dpa_same (hb_kp K4) hx
        refine seq_op fun N2 hN2 => ?_
        walk_at "rs"
        refine ite2 (fun e5 => ?_) (fun e5 => hN2 _ _ ?_)
        · obtain ⟨i, rfl⟩ : ∃ i' : Nat, i = (i' : Int) := ⟨i.toNat, by omega⟩
          refine ⟨_, Same.seqT hb_in ha, fun q H5 s5 h5 => ⟨_, Same.seqT (Same.trans hb_in s5) ha, fun q2 H6 s6 h6 => ⟨_, Same.seqT s6 h5, _, h6, ?_, fun q3 H7 s7 h7 => ?_⟩⟩⟩
          · have c1 := cutV_length xs none (some (i : Int))
            have c2 := cutV_length xs (some ((i : Int) + 1)) none
            exact Nat.le_trans (show _ ≤ 2000 by omega) (by decide)
          rw [cutV_take, show ((i : Nat) : Int) + 1 = ((i + 1 : Nat) : Int) from rfl, cutV_drop] at h7
          have S : Same H4 H7 := Same.trans s5 (Same.trans s6 s7)
          have B7 := B4.same S
          obtain ⟨m1, m2⟩ := mem_td ga i (i + 1)
          refine k _ (.tuple (ds.take i ++ ds.drop (i + 1))) H7 (gd_tup.mpr ⟨?_, fun d hd => gd_mono (n := j) (m := m) (by omega) (Nat.le_refl _) ?_⟩) ?_ B7 (Same.trans K4' (Kp.of S))
          · rw [List.length_append, List.length_take, List.length_drop]; omega
          · rcases List.mem_append.mp hd with hd | hd
            · exact m1 d hd
            · exact m2 d hd
          · exact .tup (sqT_hb B7 h7) (dpa_app (dpa_take i (dpa_same (hb_kp (Kp.of S)) hx)) (dpa_dropN (i + 1) (dpa_same (hb_kp (Kp.of S)) hx)))
        clear hN2 N2
        walk_at "rs"
        refine ite2 (fun e6 => ?_) (fun e6 => ?_)
        · obtain ⟨i, rfl⟩ : ∃ i' : Nat, i = (i' : Int) := ⟨i.toNat, by omega⟩
          have hi : i < ds.length := by omega
          obtain ⟨u, hu⟩ : ∃ u, xs[i]? = some u := ⟨_, List.getElem?_eq_getElem (by omega)⟩
          obtain ⟨du, hdu, hdp⟩ := dpa_at hx hu
          refine ⟨_, Same.seqT hb_in ha, fun q H5 s5 h5 => ⟨_, Same.seqT (Same.trans hb_in s5) ha, u, atI_nat hu, by decide, fun q2 H6 s6 n6 h6 => ⟨_, Same.seqT s6 h5, _, SqT.of h6, ?_, fun q3 H7 s7 h7 => ⟨_, Same.seqT (Same.trans hb_in (Same.trans s5 (Same.trans s6 s7))) ha, fun q4 H8 s8 h8 => ⟨_, Same.seqT s8 h7, _, h8, ?_, fun q5 H9 s9 h9 => ?_⟩⟩⟩⟩⟩
          · have c1 := cutV_length xs none (some (i : Int))
            simp only [List.length_cons, List.length_nil]
            exact Nat.le_trans (show _ ≤ 2000 by omega) (by decide)
          · have c1 := cutV_length xs none (some (i : Int))
            have c2 := cutV_length xs (some (i : Int)) none
            simp only [List.length_append, List.length_cons, List.length_nil]
            exact Nat.le_trans (show _ ≤ 3000 by omega) (by decide)
          rw [cutV_take, cutV_drop] at h9
          have S : Same H4 H9 := Same.trans s5 (Same.trans s6 (Same.trans s7 (Same.trans s8 s9)))
          have B9 := B4.same S
          obtain ⟨m1, m2⟩ := mem_td ga i i
          have hx9 := dpa_same (hb_kp (Kp.of S)) hx
          refine k _ (.tuple (ds.take i ++ [du] ++ ds.drop i)) H9 (gd_tup.mpr ⟨?_, fun d hd => gd_mono (n := j) (m := m) (by omega) (Nat.le_refl _) ?_⟩) ?_ B9 (Same.trans K4' (Kp.of S))
          · simp only [List.length_append, List.length_take, List.length_drop, List.length_cons, List.length_nil]; omega
          · rcases List.mem_append.mp hd with hd | hd
            · rcases List.mem_append.mp hd with hd | hd
              · exact m1 d hd
              · obtain rfl : d = du := by simpa using hd
                exact ga d (List.mem_of_getElem? hdu)
            · exact m2 d hd
          · exact .tup (sqT_hb B9 h9) (dpa_app (dpa_app (dpa_take i hx9) (.cons (dp_same (hb_kp (Kp.of S)) hdp) .nil)) (dpa_dropN i hx9))
        · refine ⟨b, c, rfl, B4, fun v' d' H5 hg' hd' B5 K5 => ⟨by decide, fun q H6 s6 n6 h6 => ⟨_, Same.seqT (Same.trans hb_in s6) (Same.seqT (hb_kp K5) ha), _, SqT.of h6, ?_, fun q2 H7 s7 h7 => ?_⟩⟩⟩
          · simp only [List.length_cons, List.length_nil]
            exact Nat.le_trans (show _ ≤ 2000 by omega) (by decide)
          have S : Same H5 H7 := Same.trans s6 s7
          have B7 := B5.same S
          have hx7 := dpa_same (Same.trans (hb_kp K5) (hb_kp (Kp.of S))) hx
          refine k _ (.tuple (ds ++ [d'])) H7 (gd_tup.mpr ⟨?_, fun d hd => ?_⟩) ?_ B7 (Same.trans K4' (Same.trans K5 (Kp.of S)))
          · simp only [List.length_append, List.length_cons, List.length_nil]; omega
          · rcases List.mem_append.mp hd with hd | hd
            · exact gd_mono (by omega) (Nat.le_refl _) (ga d hd)
            · obtain rfl : d = d' := by simpa using hd
              exact gd_mono (by omega) (by omega) hg'
          · exact .tup (sqT_hb B7 h7) (dpa_app hx7 (.cons (dp_same (hb_kp (Kp.of S)) hd') .nil))
      refine ⟨v, _, ⟨rfl, rfl⟩, d, dp_same hb_in hd2, by decide, ite2 (fun e => ite2 (fun e1 => ?_) (fun _ => nx2)) (fun e => nx2)⟩
      obtain ⟨ds, rfl⟩ := is_tup e
      obtain ⟨a, xs, rfl, ha, hx⟩ := dp_tup hd2
      obtain ⟨gl, ga⟩ := gd_tup.mp hg
      refine ⟨a, rfl, _, .inr (Same.seqT hb_in ha), fun l H3 s3 n3 h3 => k _ (.list ds) H3 ?_ ?_ (B2.same s3) (Same.trans K12 (Kp.of s3))⟩
      · exact gd_lst.mpr ⟨by omega, fun d hd => gd_mono (by omega) (Nat.le_refl _) (ga d hd)⟩
      · exact .lst (SqL.of (by rw [hb_ne (new_ne B2 n3)]; exact h3)) (dpa_same (hb_kp (Kp.of s3)) hx)
    refine ⟨v, _, ⟨rfl, rfl⟩, d, dp_same hb_in hd, by decide, ite2 (fun e => ?_) (fun e => nx H B (Kp.refl _ _))⟩
    obtain ⟨ds, rfl⟩ := is_tup e
    refine ⟨by decide, fun p H2 s2 n2 h2 => ⟨_, .tuple [], dp_same (Same.trans hb_in s2) hd, .tup (SqT.of h2) .nil, sh, by decide, _, rfl, ite2 (fun e2 => ite2 (fun e3 => ⟨b, c, 4, rfl, B.same s2, by decide, by decide, fun r H3 r0 r1 B3 K3 => ⟨r, rfl, ite2 (fun e4 => ?_) (fun _ => nx H3 B3 (Same.trans (Kp.of s2) K3))⟩⟩) (fun _ => nx H2 (B.same s2) (Kp.of s2))) (fun _ => nx H2 (B.same s2) (Kp.of s2))⟩⟩
    clear nx
    have K3' : Kp b H H3 := Same.trans (Kp.of s2) K3
    have hd3 := dp_same (hb_kp K3') hd
    obtain ⟨a, xs, rfl, ha, hx⟩ := dp_tup hd3
    have len := dpa_len4 hx
    obtain ⟨gl, ga⟩ := gd_tup.mp hg
    have ne : 0 < ds.length := by
      cases ds with
      | nil => exact absurd e2 (by decide)
      | cons => simp
    refine seq_op fun N hN => ?_
    walk_at "rs"
    refine ⟨_, .inr (Same.seqT hb_in ha), b, c, _, rfl, B3, by omega, by omega, fun i H4 i0 i1 B4 K4 => hN _ _ ?_⟩
    clear hN N
    walk_at "rs"
    obtain ⟨i, rfl⟩ : ∃ i' : Nat, i = (i' : Int) := ⟨i.toNat, by omega⟩
    have K4' : Kp b H H4 := Same.trans K3' K4
    replace ha := Same.seqT (hb_kp K4) ha
    replace hx := dpa_same (hb_kp K4) hx
    obtain ⟨u, hu⟩ : ∃ u, xs[i]? = some u := ⟨_, List.getElem?_eq_getElem (by omega)⟩
    obtain ⟨du, hdu, hdp⟩ := dpa_at hx hu
    obtain ⟨n', rfl⟩ : ∃ n', n = n' + 1 := ⟨n - 1, by omega⟩
    refine ⟨_, Same.seqT hb_in ha, fun q H5 s5 h5 => ⟨_, Same.seqT (Same.trans hb_in s5) ha, u, atI_nat hu, h0 n' _ _ _ _ rfl ⟨b, c, u, du, dp - 1, j, m, rfl, B4.same s5, dp_same (hb_kp (Kp.of s5)) hdp, ga _ (List.mem_of_getElem? hdu), by omega, by omega, by omega, hj, hj2, fun v' d' H6 hg' hd' B6 K6 => ⟨by decide, fun q2 H7 s7 n7 h7 => ?_⟩⟩⟩⟩
    have h5' : SqT K H6 q (cutV xs none (some (i : Int))) := Same.seqT hb_in (Same.seqT (hb_kp K6) (sqT_hb (B4.same s5) h5))
    have ha6 : SqT K H6 a xs := Same.seqT hb_in (Same.seqT (hb_kp (Same.trans (Kp.of s5) K6)) ha)
    refine ⟨_, Same.seqT s7 h5', _, SqT.of h7, ?_, fun q3 H8 s8 h8 => ⟨_, Same.seqT (Same.trans s7 s8) ha6, fun q4 H9 s9 h9 => ⟨_, Same.seqT s9 h8, _, h9, ?_, fun q5 H10 s10 h10 => ?_⟩⟩⟩
    · have c1 := cutV_length xs none (some (i : Int))
      simp only [List.length_cons, List.length_nil]
      exact Nat.le_trans (show _ ≤ 2000 by omega) (by decide)
    · have c1 := cutV_length xs none (some (i : Int))
      have c2 := cutV_length xs (some ((i : Int) + 1)) none
      simp only [List.length_append, List.length_cons, List.length_nil]
      exact Nat.le_trans (show _ ≤ 3000 by omega) (by decide)
    rw [cutV_take, show ((i : Nat) : Int) + 1 = ((i + 1 : Nat) : Int) from rfl, cutV_drop] at h10
    have S : Same H6 H10 := Same.trans s7 (Same.trans s8 (Same.trans s9 s10))
    have B10 := B6.same S
    have K410 : Kp b H4 H10 := Same.trans (Kp.of s5) (Same.trans K6 (Kp.of S))
    obtain ⟨m1, m2⟩ := mem_td ga i (i + 1)
    have hx10 := dpa_same (hb_kp K410) hx
    refine k _ (.tuple (ds.take i ++ [d'] ++ ds.drop (i + 1))) H10 (gd_tup.mpr ⟨?_, fun d hd => ?_⟩) ?_ B10 (Same.trans K4' K410)
    · simp only [List.length_append, List.length_take, List.length_drop, List.length_cons, List.length_nil]; omega
    · rcases List.mem_append.mp hd with hd | hd
      · rcases List.mem_append.mp hd with hd | hd
        · exact gd_mono (by omega) (Nat.le_refl _) (m1 d hd)
        · obtain rfl : d = d' := by simpa using hd
          exact hg'
      · exact gd_mono (by omega) (Nat.le_refl _) (m2 d hd)
    · exact .tup (sqT_hb B10 h10) (dpa_app (dpa_app (dpa_take i hx10) (.cons (dp_same (hb_kp (Kp.of S)) hd') .nil)) (dpa_dropN (i + 1) hx10))
theorem ok__law_bend (T : Txt w K mg) : ∀ n : Nat, FnOk P w K mg base CX0 (n + 4) T.a__law_bend T.d__law_bend ["bag", "thing", "deep"] (sp_bend K n)
  | 0 => bend_step T 0 (fun _ _ _ _ => False) ⟨fun _ _ _ _ h => h.elim, fun _ _ _ _ _ _ _ _ _ _ _ _ _ h => h.elim⟩ fun m _ _ _ _ e => absurd e (by omega)
  | n + 1 => bend_step T (n + 1) (sp_bend K n) (ok__law_bend T n) fun m _ _ _ _ e h => by
    obtain rfl : n = m := by omega
    exact h
end
end LK

set_option Elab.async false
set_option linter.all false
set_option maxRecDepth 100000
set_option pp.deepTerms true
set_option pp.maxSteps 20000
namespace LK
open PySem PySem.Spec PyProof.Rows L2
local macro_rules | `(tactic| walk_at "rs") => `(tactic| simp only [cxK, cxNK, tCallZ, tAsg, tOp, rI0, rS0, rB0, rI, rU, tUn, rEq, rNe, rIxL, rIxT, rIxS, rSetL, rSlLU, rSlS, rSlU, rCatL, rCatU, rRepL, rIn, tVar, tC, gName, gSub, tIfS, tTest, tB, tAnd, tOr, tNot, tNotV, tAndV, tOrV, tIf, tCall, tCons, tNil, tCB, tDrop, tRet, tRetN, tNext, tLstU, tTupU, tM0, tM1, tPar, tPar3, tAug, ipI, tBM, tBM0, rAppend, rPop, tBreak, tCont, tChain, tSl, tPart, tNoPart, L2.start, List.map, List.length_cons, List.length_nil, List.replicate, List.cons_append, List.nil_append, List.append_nil, List.getElem?_cons_zero, List.getElem?_cons_succ, List.set_cons_zero, List.set_cons_succ, Option.some.injEq, V.int.injEq, V.ref.injEq, V.str.injEq, V.bl.injEq, exists_eq_left', exists_eq_left, exists_and_left, decide_eq_true_eq, List.cons.injEq, and_true, true_and, scal, Bool.not_eq_true', decide_eq_false_iff_not, Nat.zero_add, Nat.reduceAdd, Nat.reduceSub, reduceCtorEq, false_and, exists_false, false_or, or_false, CPow, CMul, CDiv, Int.reduceToNat, ↓reduceIte, wipe, sw, List.nil_append, List.singleton_append])
local macro_rules | `(tactic| walk_at "st") => `(tactic| (refine seq_op fun N hN => ?_; walk_at "rs"))
local macro_rules | `(tactic| walk_at "sd") => `(tactic| first | assumption | decide | omega)
local macro_rules | `(tactic| walk_at "rd") => `(tactic| repeat (first
  | refine ⟨_, SqL.of (by assumption), ?_⟩ | refine ⟨_, SqL.of upd_same, ?_⟩ | refine ⟨_, .inl (SqL.of (by assumption)), ?_⟩ | refine ⟨_, (by assumption : _ = some (HO.lst _)), ?_⟩ | refine ⟨_, upd_same, ?_⟩
  | refine ⟨_, rfl, ?_⟩ | refine And.intro (by walk_at "sd") ?_))

open TL
theorem okB_val {f : Int × Int} (h : isVal (frD f) = true) : okB 4000 f := by
  obtain ⟨a, b, c, d, _⟩ := val_iff h
  exact ⟨b, (isFrac_iff.mp a).2, pow_le (a := 20) (by omega) (by decide), pow_le (a := 14) (by omega) (by decide)⟩
theorem fr_at {K : PySem.W.Frag} {H : Hp} {v : V} {f : Int × Int} (h : Dp K H v (frD f)) : ∃ a, v = .ref a ∧ Pr K H a f.1 f.2 := by
  obtain ⟨a, ys, rfl, ha, hy⟩ := dp_tup h
  obtain ⟨v1, v2, rfl, h1, h2⟩ := dpa_two hy
  cases h1
  cases h2
  exact ⟨a, rfl, ha⟩
theorem big_okB : okB 4000 (10 ^ 18 - 1, 10 ^ 17) ∧ okB 4000 (1, 2) := by
  refine ⟨⟨by decide, by decide +kernel, pow_le (a := 64) (by decide) (by decide), pow_le (a := 64) (by decide) (by decide)⟩, ⟨by decide, by decide, pow_le (a := 4) (by decide) (by decide), pow_le (a := 4) (by decide) (by decide)⟩⟩
theorem hb_hide {G H7 H3 : Hp} {b D : Addr} (k : Kp b G H7) (k2 : Kp b H7 H3) (hD : H7 D = none) : Same (hb G b) (hb (hb H3 b) D) := fun x o h => by
  obtain ⟨n1, h1⟩ := hb_some h
  have h7 := k.hd h1 n1
  have n2 : x ≠ D := fun z => by rw [z, hD] at h7; cases h7
  rw [hb_ne n2, hb_ne n1]
  exact k2.hd h7 n1
section
variable {P : Program} {w : World} {K : PySem.W.Frag} {mg : Str → Option Value} {base : Heap}
theorem ok__law_compared (T : Txt w K mg) : FnOk P w K mg base CX0 4 T.a__law_compared T.d__law_compared ["bag"] (fun vs H Q _ => ∃ b c, vs = [.ref b] ∧ Bag H b c ∧ ∀ H', Bag H' b c → Kp b H H' → Q (.bl true) H') := by
  refine T.F__law_compared.ok sc__law_compared (fun vs H Q E h => ?_) (fun cdv A outer s H vs Q E hr h => ?_)
  · obtain ⟨b, c, rfl, _⟩ := h
    rfl
  · obtain ⟨b, c, rfl, B, k⟩ := h
    have hr__law_value : Room 3 _ := hr
    have G__law_value := ok__law_value (P := P) (base := base) T
    have hr__law_of : Room 2 _ := hr.mono (by decide)
    have G__law_of := ok__law_of (P := P) (base := base) T
    have hr__law_draw : Room 1 _ := hr.mono (by decide)
    have G__law_draw := ok__law_draw (P := P) (base := base) T
    have hr__law_like : Room 1 _ := hr.mono (by decide)
    have G__law_like := ok__law_like (P := P) (base := base) T 0
    have hr_related : Room 3 _ := hr
    have G_related := ok_related (P := P) (base := base) T
    have hr__law_holds : Room 2 _ := hr.mono (by decide)
    have G__law_holds := ok__law_holds (P := P) (base := base) T
    refine ⟨_, (pss_cons (ps_set (i := 1) sc__law_compared.nd rfl (Or.inr rfl) (pe_op op_catL (pe_lc (own := [("k", 5)]) (g := gName 5) (tt := tYes) rfl sc__law_compared.nd (pi_range1 (by rfl) T.n_range (pa_cons pe_int pa_nil)) (blkOk_by (own := [("k", 5)]) (N := N__law_compared) (sc := defScope s__law_compared) (by decide +kernel)) (fun _ _ _ _ _ => pg_name (i := 5) sc__law_compared.nd rfl (Or.inl rfl)) (fun _ _ _ _ _ => pts_nil) (fun _ _ _ _ _ => (pe_call G__law_value hr__law_value (by rfl) T.m__law_value T.F__law_value.kp T.B__law_value .nil pass0 (pa_cons (pv 0) pa_nil)))) (pe_lstU (pa_cons (pe_tupU (pa_cons (pe_op op_sub (pe_op op_pow pe_int pe_int) pe_int) (pa_cons (pe_op op_pow pe_int pe_int) pa_nil))) (pa_cons (pe_tupU (pa_cons pe_int (pa_cons pe_int pa_nil))) pa_nil)))))
      (pss_cons (ps_set (i := 2) sc__law_compared.nd rfl (Or.inl rfl) (pe_call G__law_of hr__law_of (by rfl) T.m__law_of T.F__law_of.kp T.B__law_of .nil pass0 (pa_cons (pv 0) (pa_cons (pe_lstU (pa_cons pe_str (pa_cons pe_str (pa_cons pe_str (pa_cons pe_str (pa_cons pe_str (pa_cons pe_str (pa_cons pe_str pa_nil)))))))) pa_nil))))
      (pss_cons (ps_if (pt_cmpR op_eqS (pv 2) pe_str (nomark _)) (pss_one (ps_set (i := 2) sc__law_compared.nd rfl (Or.inl rfl) (pe_callTy call_tupleN (by rfl) T.n_tuple (by decide +kernel) (pa_cons (pe_lc (own := [("k", 5)]) (g := gName 5) (tt := tYes) rfl sc__law_compared.nd (pi_range1 (by rfl) T.n_range (pa_cons (pe_call G__law_draw hr__law_draw (by rfl) T.m__law_draw T.F__law_draw.kp T.B__law_draw .nil pass0 (pa_cons (pv 0) (pa_cons pe_int pa_nil))) pa_nil)) (blkOk_by (own := [("k", 5)]) (N := N__law_compared) (sc := defScope s__law_compared) (by decide +kernel)) (fun _ _ _ _ _ => pg_name (i := 5) sc__law_compared.nd rfl (Or.inl rfl)) (fun _ _ _ _ _ => pts_nil) (fun _ _ _ _ _ => (pe_tupU (pa_cons (pe_call G__law_of hr__law_of (by rfl) T.m__law_of T.F__law_of.kp T.B__law_of .nil pass0 (pa_cons (pv 0) (pa_cons (pe_slice (sl_listUK (K := K) rfl) (pv 1) po_none (po_some pe_int)) pa_nil))) (pa_cons (pe_call G__law_of hr__law_of (by rfl) T.m__law_of T.F__law_of.kp T.B__law_of .nil pass0 (pa_cons (pv 0) (pa_cons (pe_slice (sl_listUK (K := K) rfl) (pv 1) po_none (po_some pe_int)) pa_nil))) pa_nil))))) pa_nil)))) pss_nil)
      (pss_cons (ps_par (i := 3) (j := 4) (by rfl) sc__law_compared.nd rfl rfl (by decide) rfl rfl (pa_cons (pe_call G__law_of hr__law_of (by rfl) T.m__law_of T.F__law_of.kp T.B__law_of .nil pass0 (pa_cons (pv 0) (pa_cons (pv 1) pa_nil))) (pa_cons (pe_call G__law_of hr__law_of (by rfl) T.m__law_of T.F__law_of.kp T.B__law_of .nil pass0 (pa_cons (pv 0) (pa_cons (pv 1) pa_nil))) pa_nil)) (by rfl))
      (pss_cons (ps_if (pt_not (pt_val (pe_call G__law_like hr__law_like (by rfl) T.m__law_like T.F__law_like.kp T.B__law_like .nil pass0 (pa_cons (pe_call G_related hr_related (by rfl) T.m_related T.F_related.kp T.B_related .nil pass0 (pa_cons (pv 2) (pa_cons (pv 3) (pa_cons (pv 4) pa_nil)))) (pa_cons (pe_call G__law_holds hr__law_holds (by rfl) T.m__law_holds T.F__law_holds.kp T.B__law_holds .nil pass0 (pa_cons (pv 2) (pa_cons (pv 3) (pa_cons (pv 4) pa_nil)))) pa_nil))))) (pss_one (ps_ret pe_bl)) pss_nil)
      (pss_one (ps_ret (pe_call G__law_like hr__law_like (by rfl) T.m__law_like T.F__law_like.kp T.B__law_like .nil pass0 (pa_cons (pe_callZ (g := fun ws => rot ws) (gV := fun zs => rot zs) G_related hr_related (by rfl) T.m_related T.F_related.kp T.Z_related pass0 (pk_cons (pv 3) (pk_cons (pv 2) (pk_cons (pv 4) pk_nil)))) (pa_cons (pe_call G__law_holds hr__law_holds (by rfl) T.m__law_holds T.F__law_holds.kp T.B__law_holds .nil pass0 (pa_cons (pv 2) (pa_cons (pv 4) (pa_cons (pv 3) pa_nil)))) pa_nil)))))))))), ?_⟩
    refine seq_op fun N hN => ?_
    walk_at "rs"
    refine ⟨3, rfl, by decide, by decide, fun D hD => lc_draw walk_range (fun G v => ∃ f : Int × Int, isVal (frD f) = true ∧ Dp K G v (frD f)) (fun _ _ _ s ⟨f, a, d⟩ => ⟨f, a, dp_same s d⟩) hD B (by decide) (fun _ _ _ _ y => y.1) (fun _ _ => trivial) ?_ ?_⟩
    · intro x H1 K1 B1 Q2 hq
      walk_at "rs"
      exact ⟨c, B1, fun v f H2 hf hd B2 K2 => hq v H2 B2 K2 ⟨f, hf, hd⟩⟩
    intro H1 ys B1 K1 h1 hl hp
    have nD : D ≠ b := new_ne B hD
    have hpool : ∀ v ∈ ys, ∃ f : Int × Int, isVal (frD f) = true ∧ Dp K (hb H1 b) v (frD f) := fun v hv => by
      obtain ⟨f, hf, hd⟩ := hp v hv
      refine ⟨f, hf, dp_same (fun x o e => ?_) hd⟩
      obtain ⟨q1, q2⟩ := nw_some e
      obtain ⟨xb, eb⟩ := B.at
      have nb : x ≠ b := fun z => by
        rw [z] at q1
        have : upd H D (HO.lst []) b = H b := upd_ne (Ne.symm nD)
        rw [this, eb] at q1
        cases q1
      rw [hb_ne nb]
      exact q2
    refine ⟨⟨by decide, by decide, by decide⟩, ⟨by decide, by decide, by decide⟩, by decide, fun p1 H2 s2 n2 h2 => ⟨by decide, fun p2 H3 s3 n3 h3 => ⟨by decide, fun p3 H4 s4 n4 h4 => ⟨D, rfl, ys, Same.trans s2 (Same.trans s3 s4) _ _ h1, _, h4, ?_, fun p5 H5 s5 n5 h5 => hN _ _ ?_⟩⟩⟩⟩
    · simp only [List.length_cons, List.length_nil]
      exact Nat.le_trans (show ys.length + (0 + 1 + 1) ≤ 5 by omega) (by decide)
    clear hN N
    have S : Same H1 H5 := Same.trans s2 (Same.trans s3 (Same.trans s4 s5))
    have B5 := B1.same S
    have K5 : Kp b H H5 := Same.trans K1 (Kp.of S)
    obtain ⟨xb1, eb1⟩ := B1.at
    have n1b : p1 ≠ b := new_ne B1 n2
    have n2b : p2 ≠ b := new_ne (B1.same s2) n3
    have n5b : p5 ≠ b := new_ne (B1.same (Same.trans s2 (Same.trans s3 s4))) n5
    have hall : ∀ v ∈ ys ++ [V.ref p1, V.ref p2], ∃ f : Int × Int, okB 4000 f ∧ Dp K (hb H5 b) v (frD f) := fun v hv => by
      rcases List.mem_append.mp hv with hv | hv
      · obtain ⟨f, hf, hd⟩ := hpool v hv
        exact ⟨f, okB_val hf, dp_same (hb_kp (Kp.of S)) hd⟩
      · rcases List.mem_cons.mp hv with rfl | hv
        · exact ⟨_, big_okB.1, .tup (SqT.of (by rw [hb_ne n1b]; exact Same.trans s3 (Same.trans s4 s5) _ _ h2)) (.cons (.int _) (.cons (.int _) .nil))⟩
        rcases List.mem_cons.mp hv with rfl | hv
        · exact ⟨_, big_okB.2, .tup (SqT.of (by rw [hb_ne n2b]; exact Same.trans s4 s5 _ _ h3)) (.cons (.int _) (.cons (.int _) .nil))⟩
        · cases hv
    have hval : ∀ v ∈ ys, ∃ f : Int × Int, isVal (frD f) = true ∧ Dp K (hb H5 b) v (frD f) := fun v hv => by
      obtain ⟨f, hf, hd⟩ := hpool v hv
      exact ⟨f, hf, dp_same (hb_kp (Kp.of S)) hd⟩
    clear s2 s3 s4 s5 n2 n3 n4 n5 h2 h3 h4 hpool hp h1 n1b n2b S
    refine seq_op fun N hN => ?_
    walk_at "rs"
    refine ⟨by decide, fun p6 H6 s6 n6 h6 => of_newR (R := fun z => z = "" ∨ z ∈ relL) B5 ["=", "/=", "<", "<=", ">", ">=", ""] s6 n6 h6 (by simp) (by simp) (by decide +kernel) fun mk H7 hmk B7 K7 => hN _ _ ?_⟩
    clear hN N
    have hp7 := K7.hd h5 n5b
    refine seq_op fun N hN => ?_
    walk_at "rs"
    have tail : ∀ vr r H8, isRelD r = true → Dp K (hb H8 b) vr r → Bag H8 b c → Kp b H5 H8 → N [some (.ref b), some (.ref p5), some vr, none, none, none] H8 := by
      intro vr r H8 hrel hvr B8 K8
      refine hN _ _ ?_
      clear hN N
      have hp8 := K8.hd h5 n5b
      refine seq_op fun N hN => ?_
      walk_at "rs"
      refine of_lst (E := E0) B8 hp8 n5b (by simp) (by simp only [List.length_append, List.length_cons, List.length_nil]; omega) fun v1 H9 hv1 B9 K9 => of_lst (E := E0) B9 (K9.hd hp8 n5b) n5b (by simp) (by simp only [List.length_append, List.length_cons, List.length_nil]; omega) fun v2 H10 hv2 B10 K10 => ?_
      obtain ⟨f, hf, hdf⟩ := hall v1 hv1
      obtain ⟨g, hg, hdg⟩ := hall v2 hv2
      have K510 : Kp b H5 H10 := Same.trans K8 (Same.trans K9 K10)
      obtain ⟨a1, rfl, ha1⟩ := fr_at (dp_same hb_in (dp_same (hb_kp K510) hdf))
      obtain ⟨a2, rfl, ha2⟩ := fr_at (dp_same hb_in (dp_same (hb_kp K510) hdg))
      have hvr10 := dp_same hb_in (dp_same (hb_kp (Same.trans K9 K10)) hvr)
      refine ⟨_, _, ⟨rfl, rfl⟩, hN _ _ ?_⟩
      clear hN N
      refine seq_op fun N hN => ?_
      walk_at "rs"
      refine ⟨vr, r, a1, a2, f, g, rfl, hvr10, hrel, ha1, ha2, hf, hg, fun H11 s11 => ⟨vr, r, a1, a2, f, g, rfl, dp_same s11 hvr10, hrel, Same.seqT s11 ha1, Same.seqT s11 ha2, hf, hg, fun H12 s12 => ⟨_, _, .bool _, rfl, .bl _, .bl _, rfl, Nat.le_refl _, fun H13 s13 => ⟨true, rfl, iteFF (by decide) (hN _ _ ?_)⟩⟩⟩⟩
      clear hN N
      have s1013 := Same.trans s11 (Same.trans s12 s13)
      walk_at "rs"
      refine ⟨vr, r, a2, a1, g, f, rfl, dp_same s1013 hvr10, hrel, Same.seqT s1013 ha2, Same.seqT s1013 ha1, hg, hf, fun H14 s14 => ⟨vr, r, a2, a1, g, f, rfl, dp_same (Same.trans s1013 s14) hvr10, hrel, Same.seqT (Same.trans s1013 s14) ha2, Same.seqT (Same.trans s1013 s14) ha1, hg, hf, fun H15 s15 => ⟨_, _, .bool _, rfl, .bl _, .bl _, rfl, Nat.le_refl _, fun H16 s16 => k H16 (B10.same (Same.trans s1013 (Same.trans s14 (Same.trans s15 s16)))) ?_⟩⟩⟩
      exact Same.trans K5 (Same.trans K510 (Kp.of (Same.trans s1013 (Same.trans s14 (Same.trans s15 s16)))))
    refine ite2 (fun e => ?_) (fun e => ?_)
    · refine ⟨_, rfl, b, c, 6, rfl, B7, by decide, by decide, fun r H8 r0 r1 B8 K8 => ⟨r, rfl, by omega, by omega, fun D2 hD2 => lc_keep walk_range (fun G v => ∃ p : (Int × Int) × (Int × Int), (isVal (frD p.1) = true ∧ isVal (frD p.2) = true) ∧ Dp K G v (prD p)) (fun _ _ _ s ⟨p, a, d⟩ => ⟨p, a, dp_same s d⟩) hD2 B8 (by omega) (fun _ _ _ _ y => y.1) (fun _ _ => trivial) ?_ ?_⟩⟩
      · intro x H9 K9 B9 hne Q2 hq
        have K79 : Kp b H7 H9 := Same.trans K8 K9
        have hp9 := K79.hd hp7 n5b
        have e3 : cutV (ys ++ [V.ref p1, V.ref p2]) none (some 3) = ys := by
          rw [show (3 : Int) = ((3 : Nat) : Int) from rfl, cutV_take, List.take_left' (by exact hl)]
        walk_at "rs"
        refine ⟨_, SqL.of hp9, fun p10 H10 s10 n10 h10 => ?_⟩
        rw [e3] at h10
        refine of_new (E := E0) B9 s10 n10 h10 (by intro z; rw [z] at hl; cases hl) (by omega) fun v1 H11 hv1 B11 K11 => ?_
        have hp11 := K11.hd hp9 n5b
        refine ⟨_, SqL.of hp11, fun p12 H12 s12 n12 h12 => ?_⟩
        rw [e3] at h12
        refine of_new (E := E0) B11 s12 n12 h12 (by intro z; rw [z] at hl; cases hl) (by omega) fun v2 H13 hv2 B13 K13 => ⟨by decide, fun t H14 s14 n14 h14 => hq _ H14 (B13.same s14) (Same.trans K11 (Same.trans K13 (Kp.of s14))) ?_⟩
        obtain ⟨f, hf, hdf⟩ := hval v1 hv1
        obtain ⟨g, hg, hdg⟩ := hval v2 hv2
        have K914 : Kp b H9 H14 := Same.trans K11 (Same.trans K13 (Kp.of s14))
        have hid := hb_hide (D := D2) (Same.trans K7 K8) (Same.trans K9 K914) hD2
        have nt : t ≠ D2 := fun z => by
          rw [z] at n14
          obtain ⟨x13, e13⟩ := B13.at
          exact hne (Kp.bn (Same.trans K11 K13) e13 n14)
        exact ⟨(f, g), ⟨hf, hg⟩, .tup (SqT.of (by rw [hb_ne nt, hb_ne (new_ne B13 n14)]; exact h14)) (.cons (dp_same hid hdf) (.cons (dp_same hid hdg) .nil))⟩
      · intro H9 zs B9 K9 h9 hl9 hp9
        obtain ⟨ps, q1, q2, q3⟩ := prs_of (G := hb (hb H9 b) D2) hp9
        refine ⟨D2, rfl, _, SqL.of h9, fun q H10 s10 n10 h10 => tail _ (.tuple (ps.map prD)) H10 (pairs_is q2) ?_ (B9.same s10) (Same.trans K7 (Same.trans K8 (Same.trans K9 (Kp.of s10))))⟩
        refine .tup (SqT.of (by rw [hb_ne (new_ne B9 n10)]; exact h10)) (dpa_same (Same.trans hb_in (hb_kp (Kp.of s10))) q1)
    · have hm : mk ∈ relL := hmk.resolve_left e
      refine tail _ (.str mk) H7 ?_ (.str _) B7 K7
      show inV (.str mk) (relL.map V.str) = true
      rw [inL]; exact decide_eq_true hm
end
end LK

set_option Elab.async false
set_option linter.all false
set_option maxRecDepth 100000
set_option pp.deepTerms true
set_option pp.maxSteps 20000
namespace LK
open PySem PySem.Spec PyProof.Rows L2
local macro_rules | `(tactic| walk_at "rs") => `(tactic| simp only [cxK, cxNK, tCallZ, tAsg, tOp, rI0, rS0, rB0, rI, rU, tUn, rEq, rNe, rIxL, rIxT, rIxS, rSetL, rSlLU, rSlS, rSlU, rCatL, rCatU, rRepL, rIn, tVar, tC, gName, gSub, tIfS, tTest, tB, tAnd, tOr, tNot, tNotV, tAndV, tOrV, tIf, tCall, tCons, tNil, tCB, tDrop, tRet, tRetN, tNext, tLstU, tTupU, tM0, tM1, tPar, tPar3, tAug, ipI, tBM, tBM0, rAppend, rPop, tBreak, tCont, tChain, tSl, tPart, tNoPart, L2.start, List.map, List.length_cons, List.length_nil, List.replicate, List.cons_append, List.nil_append, List.append_nil, List.getElem?_cons_zero, List.getElem?_cons_succ, List.set_cons_zero, List.set_cons_succ, Option.some.injEq, V.int.injEq, V.ref.injEq, V.str.injEq, V.bl.injEq, exists_eq_left', exists_eq_left, exists_and_left, decide_eq_true_eq, List.cons.injEq, and_true, true_and, scal, Bool.not_eq_true', decide_eq_false_iff_not, Nat.zero_add, Nat.reduceAdd, Nat.reduceSub, reduceCtorEq, false_and, exists_false, false_or, or_false, CPow, CMul, CDiv, Int.reduceToNat, ↓reduceIte, wipe, sw, List.nil_append, List.singleton_append])
local macro_rules | `(tactic| walk_at "st") => `(tactic| (refine seq_op fun N hN => ?_; walk_at "rs"))
local macro_rules | `(tactic| walk_at "sd") => `(tactic| first | assumption | decide | omega)
local macro_rules | `(tactic| walk_at "rd") => `(tactic| repeat (first
  | refine ⟨_, SqL.of (by assumption), ?_⟩ | refine ⟨_, SqL.of upd_same, ?_⟩ | refine ⟨_, .inl (SqL.of (by assumption)), ?_⟩ | refine ⟨_, (by assumption : _ = some (HO.lst _)), ?_⟩ | refine ⟨_, upd_same, ?_⟩
  | refine ⟨_, rfl, ?_⟩ | refine And.intro (by walk_at "sd") ?_))

open TL
theorem dep_strs (zs : List Str) : depAll (zs.map PyData.str) ≤ 0 := dep_all fun d hd => by
  obtain ⟨z, _, rfl⟩ := List.mem_map.mp hd
  exact Nat.le_refl 0
theorem dep_le {n : Nat} {ds : List PyData} (h : ∀ d ∈ ds, dep d ≤ n) : dep (.tuple ds) ≤ n + 1 := by
  show depAll ds + 1 ≤ n + 1
  have := dep_all h
  omega
theorem dep_fr (f : Int × Int) : dep (frD f) ≤ 1 := Nat.le_refl 1
theorem dep_rel {r : PyData} (h : isRelD r = true) : dep r ≤ 3 := by
  rcases rel_cases h with ⟨z, _, rfl⟩ | ⟨ps, rfl, _⟩
  · exact Nat.zero_le _
  · refine dep_le fun d hd => ?_
    obtain ⟨p, _, rfl⟩ := List.mem_map.mp hd
    exact Nat.le_refl 2
theorem line_dep {d : PyData} (h : Line d) : dep d ≤ 4 := by
  cases h with
  | be own zs ho hp =>
    refine dep_le fun d hd => ?_
    simp only [List.mem_cons, List.mem_nil_iff, or_false] at hd
    rcases hd with rfl | rfl | rfl
    · exact Nat.zero_le _
    · exact Nat.zero_le _
    · have := dep_strs zs
      show depAll (zs.map PyData.str) + 1 ≤ 3
      omega
  | tab own ns fs ho ln hn lf hf =>
    refine dep_le fun d hd => ?_
    simp only [List.mem_cons, List.mem_nil_iff, or_false] at hd
    rcases hd with rfl | rfl | rfl | rfl
    · exact Nat.zero_le _
    · exact Nat.zero_le _
    · have := dep_strs ns
      show depAll (ns.map PyData.str) + 1 ≤ 3
      omega
    · refine dep_le fun d hd => ?_
      obtain ⟨f, _, rfl⟩ := List.mem_map.mp hd
      exact Nat.le_succ_of_le (dep_fr f)
  | cnt own a c r ho ha hr hc =>
    refine dep_le fun d hd => ?_
    simp only [List.mem_cons, List.mem_nil_iff, or_false] at hd
    rcases hd with rfl | rfl | rfl | rfl | rfl
    · exact Nat.zero_le _
    · exact Nat.zero_le _
    · exact Nat.zero_le _
    · exact dep_rel hr
    · exact Nat.zero_le _
  | lst k own p a c r i hk ho hp ha hr hc h1 h2 =>
    refine dep_le fun d hd => ?_
    simp only [List.mem_cons, List.mem_nil_iff, or_false] at hd
    rcases hd with rfl | rfl | rfl | rfl | rfl | rfl | rfl
    · exact Nat.zero_le _
    · exact Nat.zero_le _
    · exact Nat.zero_le _
    · exact Nat.zero_le _
    · exact dep_rel hr
    · exact Nat.zero_le _
    · exact Nat.zero_le _
theorem lineZ_cases (z : Str) (hz : z.length ≤ 99999) : lineZ z = .none ∨ (Line (lineZ z) ∧ isLineD (lineZ z) = true ∧ okD (lineZ z) = true ∧ textD (lineZ z) = z) := by
  obtain ⟨sl1, sl2⟩ := split_each z (y := " ") (by decide +kernel)
  have ok := ok_rd1 (ws := Txt.split z " ") (by omega) fun y hy => by have := sl2 y hy; omega
  unfold lineZ backD
  split
  · rename_i h
    exact .inr ⟨line_of h.1, h.1, ok, h.2⟩
  · exact .inl rfl
theorem mem_once {x : Str} {l : List Str} : x ∈ onceS l ↔ x ∈ l := by
  unfold onceS
  rw [mem_foldS]
  simp
theorem uses_ok {d : PyData} (h : Line d) : (usesD d).length ≤ 30 ∧ ∀ z ∈ usesD d, z.length ≤ 27 := by
  have nmz : ∀ {z : Str}, isNameD (.str z) = true → z.length ≤ 27 := fun h => (word_ok (name_word h)).len
  cases h with
  | be own zs ho hp =>
    have e : usesD (.tuple [.str "be", .str own, .tuple (zs.map .str)]) = namesOf zs := by
      show namesOf ((zs.map PyData.str).map strD) = _
      rw [strs_map]
    obtain ⟨⟨q1, q2⟩, q3⟩ := pre_ok hp
    rw [e]
    exact ⟨Nat.le_trans (len_names zs) q2, fun z hz => (needs_ok (q3 z (mem_names.mp hz).1)).len⟩
  | tab own ns fs ho ln hn lf hf =>
    have e : usesD (.tuple [.str "table", .str own, .tuple (ns.map .str), .tuple (fs.map frD)]) = onceS ns := by
      show onceS ((ns.map PyData.str).map strD) = _
      rw [strs_map]
    rw [e]
    exact ⟨Nat.le_trans (onceS_len ns) (by omega), fun z hz => nmz (hn z (mem_once.mp hz))⟩
  | cnt own a c r ho ha hr hc =>
    have e : usesD (.tuple [.str "count", .str own, .str a, r, .str c]) = onceS [a, c] := rfl
    rw [e]
    refine ⟨Nat.le_trans (onceS_len _) (by simp), fun z hz => ?_⟩
    have := mem_once.mp hz
    simp only [List.mem_cons, List.mem_nil_iff, or_false] at this
    rcases this with rfl | rfl
    · exact nmz ha
    · exact nmz hc
  | lst kd own p x c r i hk ho hp hx hr hc h1 h2 =>
    obtain ⟨n1, n2, n3⟩ := not_kinds hk
    have e : usesD (.tuple [.str kd, .str own, .str p, .str x, r, .str c, .int i]) = onceS [p, x, c] := by
      show (if kd = "be" then _ else if kd = "table" then _ else if kd = "count" then _ else _) = _
      rw [if_neg n1, if_neg n2, if_neg n3]
      rfl
    rw [e]
    refine ⟨Nat.le_trans (onceS_len _) (by simp), fun z hz => ?_⟩
    have := mem_once.mp hz
    simp only [List.mem_cons, List.mem_nil_iff, or_false] at this
    rcases this with rfl | rfl | rfl
    · exact nmz hp
    · exact nmz hx
    · exact nmz hc
section
variable {P : Program} {w : World} {K : PySem.W.Frag} {mg : Str → Option Value} {base : Heap}
theorem ok__law_told (T : Txt w K mg) : FnOk P w K mg base CX0 10 T.a__law_told T.d__law_told ["thing", "way"] (fun vs H Q _ => ∃ z i, vs = [.str z, .int i] ∧ z.length ≤ 99999 ∧ ∀ H', Same H H' → Q (.bl true) H') := by
  refine T.F__law_told.ok sc__law_told (fun vs H Q E h => ?_) (fun cdv A outer s H vs Q E hr h => ?_)
  · obtain ⟨z, i, rfl, _⟩ := h
    rfl
  · obtain ⟨z, i, rfl, hz, k⟩ := h
    have hr__law_read_row : Room 7 _ := hr.mono (by decide)
    have G__law_read_row := ok__law_read_row (P := P) (base := base) T
    have hr_read_line : Room 9 _ := hr
    have G_read_line := ok_read_line (P := P) (base := base) T
    have hr__law_like : Room 5 _ := hr.mono (by decide)
    have G__law_like := ok__law_like (P := P) (base := base) T 4
    have hr_line_text : Room 7 _ := hr.mono (by decide)
    have G_line_text := ok_line_text (P := P) (base := base) T
    refine ⟨_, (pss_cons (ps_set (i := 2) sc__law_told.nd rfl (Or.inl rfl) (pe_call G__law_read_row hr__law_read_row (by rfl) T.m__law_read_row T.F__law_read_row.kp T.B__law_read_row .nil pass0 (pa_cons (pv 0) pa_nil)))
      (pss_cons (ps_set (i := 3) sc__law_told.nd rfl (Or.inl rfl) (pe_ifExp (pt_cmpR op_eqI (pv 1) pe_int (nomark _)) (pe_call G_read_line hr_read_line (by rfl) T.m_read_line T.F_read_line.kp T.B_read_line .nil pass0 (pa_cons (pv 0) pa_nil)) (pe_callZ (g := fun ws => ws) (gV := fun zs => zs) G_read_line hr_read_line (by rfl) T.m_read_line T.F_read_line.kp T.Z_read_line pass0 (pk_cons (pv 0) pk_nil))))
      (pss_one (ps_ret (pe_and (pe_call G__law_like hr__law_like (by rfl) T.m__law_like T.F__law_like.kp T.B__law_like .nil pass0 (pa_cons (pv 3) (pa_cons (pv 2) pa_nil))) (pe_one (pe_or (pe_cmpR op_isN (pv 2) pe_non (nomark _)) (pe_one (pe_call G__law_like hr__law_like (by rfl) T.m__law_like T.F__law_like.kp T.B__law_like .nil pass0 (pa_cons (pe_call G_line_text hr_line_text (by rfl) T.m_line_text T.F_line_text.kp T.B_line_text .nil pass0 (pa_cons (pv 3) pa_nil)) (pa_cons (pv 0) pa_nil))))))))))), ?_⟩
    refine seq_op fun N hN => ?_
    walk_at "rs"
    refine ⟨hz, fun u H1 s1 hu => hN _ _ ?_⟩
    clear hN N
    refine seq_op fun N hN => ?_
    walk_at "rs"
    have go : ∀ u2 H2, Same H1 H2 → Dp K H2 u2 (lineZ z) → N [some (.str z), some (.int i), some u, some u2] H2 := by
      intro u2 H2 s2 hu2
      refine hN _ _ ?_
      clear hN N
      walk_at "rs"
      have lz := lineZ_cases z hz
      generalize lineZ z = D at lz hu hu2 ⊢
      have hu' := dp_same s2 hu
      have fact : okD D = true ∧ dep D ≤ 4 := by
        rcases lz with rfl | ⟨l, _, o, _⟩
        · exact ⟨rfl, Nat.zero_le _⟩
        · exact ⟨o, line_dep l⟩
      refine ⟨_, _, D, rfl, hu2, hu', fact.1, fact.2, fun H3 s3 => ⟨true, rfl, iteTT rfl (ite2 (fun e => k H3 (Same.trans s1 (Same.trans s2 s3))) (fun e => ?_))⟩⟩
      rcases lz with rfl | ⟨l, l2, o, tx⟩
      · cases hu'
        exact absurd rfl e
      refine ⟨D, dp_same s3 hu2, o, l2, fun H4 s4 => ⟨_, _, .str z, rfl, ?_, .str z, decide_eq_true (show z.length ≤ 100000 by omega), Nat.zero_le _, fun H5 s5 => k H5 (Same.trans s1 (Same.trans s2 (Same.trans s3 (Same.trans s4 s5))))⟩⟩
      rw [tx]
      exact .str z
    have h1 : ∀ z', PyData.str z = .str z' → z'.length ≤ 99999 := fun z' e => by cases e; exact hz
    have o1 : okD (.str z) = true := decide_eq_true (show z.length ≤ 100000 by omega)
    exact ite2 (fun _ => ⟨.str z, .str z, o1, h1, fun u2 H2 s2 h2 => go u2 H2 s2 h2⟩) (fun _ => ⟨.str z, .str z, o1, h1, fun u2 H2 s2 h2 => go u2 H2 s2 h2⟩)
def sp_good (K : PySem.W.Frag) : Sp := fun vs H Q _ => ∃ b c v d, vs = [.ref b, v] ∧ Bag H b c ∧ Dp K (hb H b) v d ∧ Line d ∧ okD d = true ∧ (wordsD d).length ≤ 3000 ∧ ∀ H', Bag H' b c → Kp b H H' → Q (.bl true) H'
theorem ok__law_good (T : Txt w K mg) : FnOk P w K mg base CX0 10 T.a__law_good T.d__law_good ["bag", "row"] (sp_good K) := by
  refine T.F__law_good.ok sc__law_good (fun vs H Q E h => ?_) (fun cdv A outer s H vs Q E hr h => ?_)
  · obtain ⟨b, c, v, d, rfl, _⟩ := h
    rfl
  · obtain ⟨b, c, v, d, rfl, B, hd, hl, hok, hw, k⟩ := h
    have hr__law_like : Room 5 _ := hr.mono (by decide)
    have G__law_like := ok__law_like (P := P) (base := base) T 4
    have hr_is_line : Room 7 _ := hr.mono (by decide)
    have G_is_line := ok_is_line (P := P) (base := base) T
    have hr_is_look : Room 1 _ := hr.mono (by decide)
    have G_is_look := ok_is_look (P := P) (base := base) T
    have hr__law_uses : Room 3 _ := hr.mono (by decide)
    have G__law_uses := ok__law_uses (P := P) (base := base) T
    have hr_line_names : Room 5 _ := hr.mono (by decide)
    have G_line_names := ok_line_names (P := P) (base := base) T
    have hr__law_draw : Room 1 _ := hr.mono (by decide)
    have G__law_draw := ok__law_draw (P := P) (base := base) T
    have hr_line_text : Room 7 _ := hr.mono (by decide)
    have G_line_text := ok_line_text (P := P) (base := base) T
    have hr__law_written : Room 2 _ := hr.mono (by decide)
    have G__law_written := ok__law_written (P := P) (base := base) T
    have hr_read_line : Room 9 _ := hr
    have G_read_line := ok_read_line (P := P) (base := base) T
    refine ⟨_, (pss_cons (ps_if (pt_not (pt_val (pe_call G__law_like hr__law_like (by rfl) T.m__law_like T.F__law_like.kp T.B__law_like .nil pass0 (pa_cons (pe_lstU (pa_cons (pe_call G_is_line hr_is_line (by rfl) T.m_is_line T.F_is_line.kp T.B_is_line .nil pass0 (pa_cons (pv 1) pa_nil)) (pa_cons (pe_callZ (g := fun ws => ws) (gV := fun zs => zs) G_is_line hr_is_line (by rfl) T.m_is_line T.F_is_line.kp T.Z_is_line pass0 (pk_cons (pv 1) pk_nil)) (pa_cons (pe_call G_is_look hr_is_look (by rfl) T.m_is_look T.F_is_look.kp T.B_is_look .nil pass0 (pa_cons (pv 1) pa_nil)) (pa_cons (pe_callZ (g := fun ws => ws) (gV := fun zs => zs) G_is_look hr_is_look (by rfl) T.m_is_look T.F_is_look.kp T.Z_is_look pass0 (pk_cons (pv 1) pk_nil)) pa_nil))))) (pa_cons (pe_op op_catL (pe_lstU (pa_cons pe_bl (pa_cons pe_bl pa_nil))) (pe_op op_repL (pe_lstU (pa_cons (pe_cmpR op_notIn_seq (pe_ix ix_tup (pv 1) pe_int (fun _ _ => rfl)) (pe_tupU (pa_cons pe_str (pa_cons pe_str pa_nil))) (by rfl)) pa_nil)) pe_int)) pa_nil))))) (pss_one (ps_ret pe_bl)) pss_nil)
      (pss_cons (ps_set (i := 2) sc__law_good.nd rfl (Or.inl rfl) (pe_callTy call_tupleU (by rfl) T.n_tuple (by decide +kernel) (pa_cons (pe_call G__law_uses hr__law_uses (by rfl) T.m__law_uses T.F__law_uses.kp T.B__law_uses .nil pass0 (pa_cons (pv 1) pa_nil)) pa_nil)))
      (pss_cons (ps_if (PW.pt (pw_or (pt_not (pt_val (pe_call G__law_like hr__law_like (by rfl) T.m__law_like T.F__law_like.kp T.B__law_like .nil pass0 (pa_cons (pe_call G_line_names hr_line_names (by rfl) T.m_line_names T.F_line_names.kp T.B_line_names .nil pass0 (pa_cons (pv 1) pa_nil)) (pa_cons (pv 2) pa_nil))))) (pw_or1 (pt_not (pt_val (pe_call G__law_like hr__law_like (by rfl) T.m__law_like T.F__law_like.kp T.B__law_like .nil pass0 (pa_cons (pe_callZ (g := fun ws => ws) (gV := fun zs => zs) G_line_names hr_line_names (by rfl) T.m_line_names T.F_line_names.kp T.Z_line_names pass0 (pk_cons (pv 1) pk_nil)) (pa_cons (pv 2) pa_nil)))))))) (pss_one (ps_ret pe_bl)) pss_nil)
      (pss_cons (ps_set (i := 3) sc__law_good.nd rfl (Or.inl rfl) (pe_ifExp (pt_cmpR op_eqI (pe_call G__law_draw hr__law_draw (by rfl) T.m__law_draw T.F__law_draw.kp T.B__law_draw .nil pass0 (pa_cons (pv 0) (pa_cons pe_int pa_nil))) pe_int (nomark _)) (pe_call G_line_text hr_line_text (by rfl) T.m_line_text T.F_line_text.kp T.B_line_text .nil pass0 (pa_cons (pv 1) pa_nil)) (pe_callZ (g := fun ws => ws) (gV := fun zs => zs) G_line_text hr_line_text (by rfl) T.m_line_text T.F_line_text.kp T.Z_line_text pass0 (pk_cons (pv 1) pk_nil))))
      (pss_one (ps_ret (pe_and (pe_call G__law_like hr__law_like (by rfl) T.m__law_like T.F__law_like.kp T.B__law_like .nil pass0 (pa_cons (pv 3) (pa_cons (pe_call G__law_written hr__law_written (by rfl) T.m__law_written T.F__law_written.kp T.B__law_written .nil pass0 (pa_cons (pv 1) pa_nil)) pa_nil))) (pe_one (pe_call G__law_like hr__law_like (by rfl) T.m__law_like T.F__law_like.kp T.B__law_like .nil pass0 (pa_cons (pe_call G_read_line hr_read_line (by rfl) T.m_read_line T.F_read_line.kp T.B_read_line .nil pass0 (pa_cons (pv 3) pa_nil)) (pa_cons (pv 1) pa_nil))))))))))), ?_⟩
    refine seq_op fun N hN => ?_
    walk_at "rs"
    have hL := line_is hl
    have hd0 := dp_same hb_in hd
    obtain ⟨own, kd, ho, ew, ps, rfl⟩ := words_three hl
    obtain ⟨a, ys, rfl, ha, hy⟩ := dp_tup hd0
    obtain ⟨v1, v2, xs, rfl, h1, h2, hx⟩ := dpa_two_more hy
    cases h1
    cases h2
    generalize hD : PyData.tuple (.str kd :: .str own :: ps) = D at *
    clear hx hy ew
    refine ⟨_, D, rfl, hd0, hok, fun H1 s1 => ⟨_, D, rfl, dp_same s1 hd0, hok, fun H2 s2 => ⟨a, rfl, kd, _, Same.seqT (Same.trans s1 s2) ha, fun H3 s3 => ⟨a, rfl, kd, _, Same.seqT (Same.trans s1 (Same.trans s2 s3)) ha, fun H4 s4 => ⟨by decide, fun p5 H5 s5 n5 h5 => ⟨by decide, fun p6 H6 s6 n6 h6 => ?_⟩⟩⟩⟩⟩⟩
    have h5' : H5 p5 = some (.lst [.bl true, .bl true, .bl (lookS kd), .bl (lookS kd)]) := by
      have h := h5
      simp only [hL] at h
      exact h
    have S6 : Same H H6 := Same.trans s1 (Same.trans s2 (Same.trans s3 (Same.trans s4 (Same.trans s5 s6))))
    refine ⟨a, rfl, _, Same.seqT S6 ha, _, at_ofN (j := 0) rfl rfl, by decide, fun p7 H7 s7 n7 h7 => ⟨_, .inr (SqT.of h7), rfl, by decide +kernel, by decide, fun p8 H8 s8 n8 h8 => ⟨_, h8, by decide, by decide, (by decide : 1 * 2 ≤ sizeLine), fun p9 H9 s9 n9 h9 => ?_⟩⟩⟩
    refine ⟨_, Same.trans s7 (Same.trans s8 s9) _ _ h6, _, h9, (by decide : 4 ≤ sizeLine), fun p10 H10 s10 n10 h10 => ?_⟩
    have h10' : H10 p10 = some (.lst [.bl true, .bl true, .bl (lookS kd), .bl (lookS kd)]) := h10
    have Sx : Same H5 H10 := Same.trans s6 (Same.trans s7 (Same.trans s8 (Same.trans s9 s10)))
    have four : DpAll K H10 [.bl true, .bl true, .bl (lookS kd), .bl (lookS kd)] [.bool true, .bool true, .bool (lookS kd), .bool (lookS kd)] := .cons (.bl _) (.cons (.bl _) (.cons (.bl _) (.cons (.bl _) .nil)))
    have S10 : Same H H10 := Same.trans S6 (Same.trans s7 (Same.trans s8 (Same.trans s9 s10)))
    refine ⟨_, _, .list [.bool true, .bool true, .bool (lookS kd), .bool (lookS kd)], rfl, .lst (SqL.of (Sx _ _ h5')) four, .lst (SqL.of h10') four, rfl, (by decide : 1 ≤ 4), fun H11 s11 => ⟨true, rfl, iteFF (by decide) (hN _ _ ?_)⟩⟩
    clear hN N
    have S11 : Same H H11 := Same.trans S10 s11
    replace hd := dp_same (hb_kp (Kp.of S11)) hd
    replace B := B.same S11
    replace k := fun H' B' (K' : Kp b H11 H') => k H' B' (Same.trans (Kp.of S11) K')
    clear h5 h6 h7 h8 h9 h10 h5' h10' four ha hd0
    refine seq_op fun N hN => ?_
    walk_at "rs"
    have hdI := dp_same hb_in hd
    refine ⟨D, hdI, hok, hL, fun t H12 s12 n12 h12 => ⟨_, .inl (SqL.of h12), fun q H13 s13 h13 => hN _ _ ?_⟩⟩
    clear hN N
    have S13 : Same H11 H13 := Same.trans s12 s13
    replace hdI := dp_same S13 hdI
    have hdue : Dp K H13 (.ref q) (.tuple ((usesD D).map .str)) := .tup h13 (strs_dpa _)
    have due_ok : okD (.tuple ((usesD D).map .str)) = true ∧ dep (.tuple ((usesD D).map .str)) ≤ 4 := by
      obtain ⟨u1, u2⟩ := uses_ok hl
      refine ⟨okOf (by rw [List.length_map]; omega) fun d hd => ?_, ?_⟩
      · obtain ⟨z, hz, rfl⟩ := List.mem_map.mp hd
        exact decide_eq_true (show z.length ≤ 100000 by have := u2 z hz; omega)
      · have := dep_strs (usesD D)
        show depAll ((usesD D).map PyData.str) + 1 ≤ 4
        omega
    refine seq_op fun N hN => ?_
    walk_at "rs"
    refine ⟨D, hdI, hok, hL, fun t1 H14 s14 h14 => ⟨_, _, .tuple ((usesD D).map .str), rfl, .tup h14 (strs_dpa _), dp_same s14 hdue, due_ok.1, due_ok.2, fun H15 s15 => ⟨true, rfl, iteFF (by decide) ?_⟩⟩⟩
    have S15 : Same H13 H15 := Same.trans s14 s15
    refine ⟨D, dp_same S15 hdI, hok, hL, fun t2 H16 s16 h16 => ⟨_, _, .tuple ((usesD D).map .str), rfl, .tup h16 (strs_dpa _), dp_same (Same.trans S15 s16) hdue, due_ok.1, due_ok.2, fun H17 s17 => ⟨true, rfl, iteFF (by decide) (hN _ _ ?_)⟩⟩⟩
    clear hN N
    have S17 : Same H11 H17 := Same.trans S13 (Same.trans S15 (Same.trans s16 s17))
    replace hd := dp_same (hb_kp (Kp.of S17)) hd
    replace B := B.same S17
    replace k := fun H' B' (K' : Kp b H17 H') => k H' B' (Same.trans (Kp.of S17) K')
    clear hdue hdI
    have sz := words_size (words_ok hl)
    have tl9 : (textD D).length ≤ 99999 := by
      have j := join_len " " (wordsD D)
      have l1 : (Str.ofString " ").length = 1 := by decide +kernel
      show (Txt.join (Str.ofString " ") (wordsD D)).length ≤ _
      rw [l1] at j
      omega
    refine seq_op fun N hN => ?_
    walk_at "rs"
    refine ⟨b, c, 2, rfl, B, by decide, by decide, fun r H18 r0 r1 B18 K18 => ?_⟩
    have hd18 := dp_same hb_in (dp_same (hb_kp K18) hd)
    have go : ∀ H19, Same H18 H19 → N [some (.ref b), some (.ref a), some (.ref q), some (.str (textD D))] H19 := by
      intro H19 s19
      refine hN _ _ ?_
      clear hN N
      have hd19 := dp_same s19 hd18
      have ot : okD (.str (textD D)) = true := decide_eq_true (show (textD D).length ≤ 100000 by omega)
      walk_at "rs"
      refine ⟨D, hd19, hok, hL, fun H20 s20 => ⟨_, _, .str (textD D), rfl, .str _, .str _, ot, Nat.zero_le _, fun H21 s21 => ⟨true, rfl, iteTT rfl ?_⟩⟩⟩
      refine ⟨.str (textD D), .str _, ot, fun z e => by cases e; exact tl9, fun u H22 s22 hu => ⟨_, _, D, rfl, ?_, dp_same (Same.trans s20 (Same.trans s21 s22)) hd19, hok, line_dep hl, fun H23 s23 => k H23 (B18.same (Same.trans s19 (Same.trans s20 (Same.trans s21 (Same.trans s22 s23))))) (Same.trans K18 (Kp.of (Same.trans s19 (Same.trans s20 (Same.trans s21 (Same.trans s22 s23))))))⟩⟩
      have e : lineD (.str (textD D)) = D := lineZ_text hL
      rw [e] at hu
      exact hu
    exact ⟨r, rfl, ite2 (fun _ => ⟨D, hd18, hok, hL, fun H19 s19 => go H19 s19⟩) (fun _ => ⟨D, hd18, hok, hL, fun H19 s19 => go H19 s19⟩)⟩
end
end LK

set_option Elab.async false
set_option linter.all false
set_option maxRecDepth 100000
set_option pp.deepTerms true
set_option pp.maxSteps 20000
namespace LK
open PySem PySem.Spec PyProof.Rows L2
local macro_rules | `(tactic| walk_at "rs") => `(tactic| simp only [cxK, cxNK, tCallZ, tAsg, tOp, rI0, rS0, rB0, rI, rU, tUn, rEq, rNe, rIxL, rIxT, rIxS, rSetL, rSlLU, rSlS, rSlU, rCatL, rCatU, rRepL, rIn, tVar, tC, gName, gSub, tIfS, tTest, tB, tAnd, tOr, tNot, tNotV, tAndV, tOrV, tIf, tCall, tCons, tNil, tCB, tDrop, tRet, tRetN, tNext, tLstU, tTupU, tM0, tM1, tPar, tPar3, tAug, ipI, tBM, tBM0, rAppend, rPop, tBreak, tCont, tChain, tSl, tPart, tNoPart, L2.start, List.map, List.length_cons, List.length_nil, List.replicate, List.cons_append, List.nil_append, List.append_nil, List.getElem?_cons_zero, List.getElem?_cons_succ, List.set_cons_zero, List.set_cons_succ, Option.some.injEq, V.int.injEq, V.ref.injEq, V.str.injEq, V.bl.injEq, exists_eq_left', exists_eq_left, exists_and_left, decide_eq_true_eq, List.cons.injEq, and_true, true_and, scal, Bool.not_eq_true', decide_eq_false_iff_not, Nat.zero_add, Nat.reduceAdd, Nat.reduceSub, reduceCtorEq, false_and, exists_false, false_or, or_false, CPow, CMul, CDiv, Int.reduceToNat, ↓reduceIte, wipe, sw, List.nil_append, List.singleton_append])
local macro_rules | `(tactic| walk_at "st") => `(tactic| (refine seq_op fun N hN => ?_; walk_at "rs"))
local macro_rules | `(tactic| walk_at "sd") => `(tactic| first | assumption | decide | omega)
local macro_rules | `(tactic| walk_at "rd") => `(tactic| repeat (first
  | refine ⟨_, SqL.of (by assumption), ?_⟩ | refine ⟨_, SqL.of upd_same, ?_⟩ | refine ⟨_, .inl (SqL.of (by assumption)), ?_⟩ | refine ⟨_, (by assumption : _ = some (HO.lst _)), ?_⟩ | refine ⟨_, upd_same, ?_⟩
  | refine ⟨_, rfl, ?_⟩ | refine And.intro (by walk_at "sd") ?_))

open TL
theorem split_ne32 (z : Str) : 1 ≤ (Txt.split z " ").length := by
  have h := split_spl z " " (by rw [tl_blank]; simp) (kind_ok (by decide +kernel))
  cases e : Txt.split z " " with
  | cons w r => simp
  | nil =>
    rw [e] at h
    exfalso
    have q : ∀ (l acc : List Nat) (k : Nat), spl (tl (" " : Str)) k acc l ≠ [] := by
      intro l
      induction l with
      | nil => intro acc k; rw [spl_nil]; simp
      | cons c r ih =>
        intro acc k
        cases k with
        | zero =>
          unfold spl
          split
          · simp
          · exact ih _ _
        | succ k =>
          unfold spl
          exact ih _ _
    exact q _ _ _ h.symm
/-- what a list of words weighs -/
def wt (W : List Str) : Nat := (W.map (·.length)).sum + W.length
theorem wt_app (a b : List Str) : wt (a ++ b) = wt a + wt b := by
  unfold wt
  rw [List.map_append, List.sum_append, List.length_append]
  omega
theorem wt_cons (z : Str) (W : List Str) : wt (z :: W) = z.length + 1 + wt W := by
  unfold wt
  rw [List.map_cons, List.sum_cons, List.length_cons]
  omega
theorem wt_td (W : List Str) (i : Nat) : wt (W.take i) + wt (W.drop i) = wt W := by
  rw [← wt_app, List.take_append_drop]
theorem wt_mem {W : List Str} {z : Str} (h : z ∈ W) : z.length + 1 ≤ wt W := by
  have := mem_sum W z h
  have l : 1 ≤ W.length := List.length_pos_of_mem h
  unfold wt
  omega
theorem wt_set : ∀ (W : List Str) (i : Nat) (x y : Str), W[i]? = some y → wt (W.set i x) + y.length = wt W + x.length
  | [], _, _, _, h => by cases h
  | a :: W, 0, x, y, h => by
    cases h
    rw [List.set_cons_zero, wt_cons, wt_cons]
    omega
  | a :: W, i + 1, x, y, h => by
    rw [List.set_cons_succ, wt_cons, wt_cons]
    have := wt_set W i x y h
    omega
theorem wt_erase : ∀ (W : List Str) (i : Nat), wt (W.eraseIdx i) ≤ wt W
  | [], _ => Nat.le_refl _
  | a :: W, 0 => by rw [List.eraseIdx_cons_zero, wt_cons]; omega
  | a :: W, i + 1 => by
    rw [List.eraseIdx_cons_succ, wt_cons, wt_cons]
    have := wt_erase W i
    omega
theorem map_set' (W : List Str) (i : Nat) (x : Str) : (W.map V.str).set i (.str x) = (W.set i x).map V.str := by
  rw [List.map_set]
theorem map_erase : ∀ (W : List Str) (i : Nat), (W.map V.str).eraseIdx i = (W.eraseIdx i).map V.str
  | [], _ => rfl
  | a :: W, 0 => rfl
  | a :: W, i + 1 => by
    rw [List.map_cons, List.eraseIdx_cons_succ, List.eraseIdx_cons_succ, List.map_cons, map_erase W i]
theorem repl_len (z : Str) : (Txt.replace z " " "  ").length ≤ 2 * z.length + 2 := by
  have e : (" " : Str) = ⟨#[32]⟩ := by decide +kernel
  have r : Txt.replace z " " "  " = Txt.join "  " (Txt.split z " ") := by
    rw [e, join_eq]
    exact PySem.StrLaws.replace_one z "  " 32
  rw [r]
  have j := join_len "  " (Txt.split z " ")
  have w := split_weight z " " (by decide +kernel)
  have l2 : (Str.ofString "  ").length = 2 := by decide +kernel
  rw [l2] at j
  omega
theorem ix_nat {n i : Nat} (h : i < n) : ixN n (i : Int) = some i := by
  unfold ixN
  rw [if_pos (Int.natCast_nonneg i), if_pos (by omega)]
  rfl
theorem join_wt (W : List Str) : (Txt.join " " W).length ≤ wt W := by
  have j := join_len " " W
  have l1 : (Str.ofString " ").length = 1 := by decide +kernel
  rw [l1] at j
  unfold wt
  have : (Txt.join (Str.ofString " ") W).length ≤ (W.map (·.length)).sum + W.length * 1 := j
  show (Txt.join (Str.ofString " ") W).length ≤ _
  omega
theorem cut_to (z : Str) (n : Nat) : (cutS z none (some (n : Int))).length ≤ n := by
  rw [← len_list]
  unfold cutS
  rw [HT.sIx_nat]
  show ((z.cps.toList.drop 0).take (min n z.length - 0)).length ≤ n
  rw [List.length_take]
  omega
theorem cut_from (z : Str) (n : Nat) : (cutS z (some (n : Int)) none).length ≤ z.length - n := by
  have l := len_list z
  rw [← len_list]
  unfold cutS
  rw [HT.sIx_nat, HT.sIx_none]
  show ((z.cps.toList.drop (min n z.length)).take (z.length - min n z.length)).length ≤ _
  rw [List.length_take, List.length_drop]
  omega
section
variable {P : Program} {w : World} {K : PySem.W.Frag} {mg : Str → Option Value} {base : Heap}
def sp_btext : Sp := fun vs H Q _ => ∃ b c z, vs = [.ref b, .str z] ∧ Bag H b c ∧ z.length ≤ 40000 ∧ ∀ z' H', z'.length ≤ 2 * z.length + 20 → Bag H' b c → Kp b H H' → Q (.str z') H'
theorem ok__law_bent_text (T : Txt w K mg) : FnOk P w K mg base CX0 3 T.a__law_bent_text T.d__law_bent_text ["bag", "thing"] sp_btext := by
  refine T.F__law_bent_text.ok sc__law_bent_text (fun vs H Q E h => ?_) (fun cdv A outer s H vs Q E hr h => ?_)
  · obtain ⟨b, c, z, rfl, _⟩ := h
    rfl
  · obtain ⟨b, c, z, rfl, B, hz, k⟩ := h
    have hr__law_draw : Room 1 _ := hr.mono (by decide)
    have G__law_draw := ok__law_draw (P := P) (base := base) T
    have hr__law_of : Room 2 _ := hr
    have G__law_of := ok__law_of (P := P) (base := base) T
    refine ⟨_, (pss_cons (ps_par (i := 2) (j := 3) (by rfl) sc__law_bent_text.nd rfl rfl (by decide) rfl rfl (pa_cons (pe_split (pv 1) pe_str) (pa_cons (pe_call G__law_draw hr__law_draw (by rfl) T.m__law_draw T.F__law_draw.kp T.B__law_draw .nil pass0 (pa_cons (pv 0) (pa_cons pe_int pa_nil))) pa_nil)) (by rfl))
      (pss_cons (ps_par (i := 4) (j := 5) (by rfl) sc__law_bent_text.nd rfl rfl (by decide) rfl rfl (pa_cons (pe_call G__law_draw hr__law_draw (by rfl) T.m__law_draw T.F__law_draw.kp T.B__law_draw .nil pass0 (pa_cons (pv 0) (pa_cons (pe_callB call_len_seq (by rfl) T.n_len (by decide +kernel) (pa_cons (pv 2) pa_nil)) pa_nil))) (pa_cons (pe_call G__law_draw hr__law_draw (by rfl) T.m__law_draw T.F__law_draw.kp T.B__law_draw .nil pass0 (pa_cons (pv 0) (pa_cons (pe_callB call_len_seq (by rfl) T.n_len (by decide +kernel) (pa_cons (pv 2) pa_nil)) pa_nil))) pa_nil)) (by rfl))
      (pss_cons (ps_set (i := 6) sc__law_bent_text.nd rfl (Or.inl rfl) (pe_lstU (pa_cons pe_str (pa_cons pe_str (pa_cons pe_str (pa_cons pe_str (pa_cons pe_str (pa_cons pe_str (pa_cons pe_str (pa_cons pe_str (pa_cons pe_str (pa_cons pe_str (pa_cons pe_str (pa_cons pe_str (pa_cons pe_str (pa_cons pe_str (pa_cons pe_str (pa_cons pe_str (pa_cons pe_str (pa_cons pe_str (pa_cons pe_str (pa_cons pe_str (pa_cons pe_str (pa_cons pe_str (pa_cons pe_str pa_nil)))))))))))))))))))))))))
      (pss_cons (ps_if (pt_cmpR op_eqI (pv 3) pe_int (nomark _)) (pss_one (ps_expr (pe_bm PySem.F.plainAttrs_list PySem.F.slot_list_pop PySem.F.type_list_pop mt_popAt (pv 2) (pa_cons (pv 4) pa_nil)))) (pss_one (ps_if (pt_cmpR op_eqI (pv 3) pe_int (nomark _)) (pss_one (ps_expr (pe_bm PySem.F.plainAttrs_list PySem.F.slot_list_insert PySem.F.type_list_insert mt_insert (pv 2) (pa_cons (pv 4) (pa_cons (pe_ix ix_list (pv 2) (pv 4) (fun _ _ => rfl)) pa_nil))))) (pss_one (ps_if (pt_cmpR op_eqI (pv 3) pe_int (nomark _)) (pss_one (ps_asg (pe_tupU (pa_cons (pe_ix ix_list (pv 2) (pv 5) (fun _ _ => rfl)) (pa_cons (pe_ix ix_list (pv 2) (pv 4) (fun _ _ => rfl)) pa_nil))) (pg_tup rfl (pgs_cons (pg_sub (pv 2) (pv 4) set_list) (pgs_cons (pg_sub (pv 2) (pv 5) set_list) pgs_nil))))) (pss_one (ps_if (pt_cmpR op_lt (pv 3) pe_int (nomark _)) (pss_one (ps_asg (pe_call G__law_of hr__law_of (by rfl) T.m__law_of T.F__law_of.kp T.B__law_of .nil pass0 (pa_cons (pv 0) (pa_cons (pv 6) pa_nil))) (pg_sub (pv 2) (pv 4) set_list))) (pss_one (ps_if (pt_cmpR op_eqI (pv 3) pe_int (nomark _)) (pss_one (ps_expr (pe_bm PySem.F.plainAttrs_list PySem.F.slot_list_insert PySem.F.type_list_insert mt_insert (pv 2) (pa_cons (pv 4) (pa_cons (pe_call G__law_of hr__law_of (by rfl) T.m__law_of T.F__law_of.kp T.B__law_of .nil pass0 (pa_cons (pv 0) (pa_cons (pv 6) pa_nil))) pa_nil))))) (pss_one (ps_if (pt_cmpR op_eqI (pv 3) pe_int (nomark _)) (pss_one (ps_ret (pe_call G__law_of hr__law_of (by rfl) T.m__law_of T.F__law_of.kp T.B__law_of .nil pass0 (pa_cons (pv 0) (pa_cons (pe_lstU (pa_consT (pv 1) op_add_str (pat_cons (CwR.PET.of (pe_op op_add_str pe_str (pv 1))) (pat_cons (CwR.PET.of (pe_op op_add_str (pv 1) pe_str)) (pat_cons (CwR.PET.of (pe_op op_add_str (pe_op op_add_str (pv 1) pe_str) (pv 1))) (pat_cons (CwR.pet_replC (pv 1)) pat_nil)))))) pa_nil))))) (pss_one (ps_if (pt_cmpR op_eqI (pv 3) pe_int (nomark _)) (pss_one (ps_set (i := 2) sc__law_bent_text.nd rfl (Or.inl rfl) (pe_ifExp (pt_cmpR op_eqI (pe_call G__law_draw hr__law_draw (by rfl) T.m__law_draw T.F__law_draw.kp T.B__law_draw .nil pass0 (pa_cons (pv 0) (pa_cons pe_int pa_nil))) pe_int (nomark _)) (pe_slice sl_listU (pv 2) po_none (po_some (pv 4))) (pe_slice sl_listU (pv 2) (po_some (pv 4)) po_none)))) (pss_one (ps_if (pt_cmpR op_eqI (pv 3) pe_int (nomark _)) (pss_one (ps_set (i := 2) sc__law_bent_text.nd rfl (Or.inl rfl) (pe_op op_catL (pv 2) (pe_call G__law_of hr__law_of (by rfl) T.m__law_of T.F__law_of.kp T.B__law_of .nil pass0 (pa_cons (pv 0) (pa_cons (pe_lstU (pa_cons (pe_lstU (pa_cons pe_str (pa_cons pe_str pa_nil))) (pa_cons (pe_lstU (pa_cons pe_str pa_nil)) (pa_cons (pe_lstU (pa_cons pe_str pa_nil)) (pa_cons (pe_lstU (pa_cons pe_str pa_nil)) pa_nil))))) pa_nil)))))) (pss_cons (ps_set (i := 7) sc__law_bent_text.nd rfl (Or.inl rfl) (pe_call G__law_draw hr__law_draw (by rfl) T.m__law_draw T.F__law_draw.kp T.B__law_draw .nil pass0 (pa_cons (pv 0) (pa_cons (pe_op op_add (pe_callB call_len_str (by rfl) T.n_len (by decide +kernel) (pa_cons (pv 1) pa_nil)) pe_int) pa_nil))))
      (pss_one (ps_ret (pe_op op_add_str (pe_op op_add_str (pe_slice sl_str (pv 1) po_none (po_some (pv 7))) (pe_call G__law_of hr__law_of (by rfl) T.m__law_of T.F__law_of.kp T.B__law_of .nil pass0 (pa_cons (pv 0) (pa_cons (pe_lstU (pa_cons pe_str (pa_cons pe_str (pa_cons pe_str (pa_cons pe_str (pa_cons pe_str (pa_cons pe_str (pa_cons pe_str (pa_cons pe_str (pa_cons pe_str pa_nil)))))))))) pa_nil)))) (pe_slice sl_str (pv 1) (po_some (pe_op op_add (pv 7) (pe_call G__law_draw hr__law_draw (by rfl) T.m__law_draw T.F__law_draw.kp T.B__law_draw .nil pass0 (pa_cons (pv 0) (pa_cons pe_int pa_nil))))) po_none))))))))))))))))))))
      (pss_one (ps_ret (pe_join pe_str (pv 2)))))))), ?_⟩
    have big : 1000000 ≤ sizeLine := by decide
    refine seq_op fun N hN => ?_
    walk_at "rs"
    obtain ⟨sl1, sl2⟩ := split_each z (y := " ") (by decide +kernel)
    have sw := split_weight z " " (by decide +kernel)
    refine ⟨⟨_, rfl⟩, by decide +kernel, by omega, fun l hl => ?_⟩
    have s1 : Same H (L2.upd H l (.lst ((Txt.split z " ").map V.str))) := same_upd hl
    have h1 : (L2.upd H l (.lst ((Txt.split z " ").map V.str))) l = some (.lst ((Txt.split z " ").map V.str)) := upd_same
    change sp__law_draw _ (L2.upd H l (.lst ((Txt.split z " ").map V.str))) _ _
    have sp1 := split_ne32 z
    have sw' : ((Txt.split z " ").map (·.length)).sum + (Txt.split z " ").length ≤ z.length + 1 := sw
    generalize Txt.split z " " = W at h1 s1 sl1 sl2 sp1 sw' ⊢
    generalize L2.upd H l (.lst (W.map V.str)) = H1 at h1 s1 ⊢
    have B1 := B.same s1
    have nl : l ≠ b := new_ne B hl
    have nc : c ≠ l := by
      obtain ⟨xc, ec⟩ := B.at2
      intro e
      rw [e, hl] at ec; cases ec
    refine ⟨b, c, 10, rfl, B1, by decide, by decide, fun way H2 w0 w1 B2 K2 => ⟨_, _, ⟨rfl, rfl⟩, hN _ _ ?_⟩⟩
    clear hN N
    have h2 := K2.hd h1 nl
    refine seq_op fun N hN => ?_
    walk_at "rs"
    refine ⟨_, .inl (SqL.of h2), b, c, _, rfl, B2, by rw [List.length_map]; omega, by rw [List.length_map]; omega, fun k1 H3 k10 k11 B3 K3 => ?_⟩
    have h3 := K3.hd h2 nl
    refine ⟨_, .inl (SqL.of h3), b, c, _, rfl, B3, by rw [List.length_map]; omega, by rw [List.length_map]; omega, fun j1 H4 j10 j11 B4 K4 => ⟨_, _, ⟨rfl, rfl⟩, hN _ _ ?_⟩⟩
    clear hN N
    have h4 := K4.hd h3 nl
    rw [List.length_map] at k11 j11
    refine seq_op fun N hN => ?_
    walk_at "rs"
    refine ⟨by decide, fun o H5 s5 n5 h5 => hN _ _ ?_⟩
    clear hN N
    have B5 := B4.same s5
    have h5l := s5 _ _ h4
    have K5 : Kp b H H5 := Same.trans (Kp.of s1) (Same.trans K2 (Same.trans K3 (Same.trans K4 (Kp.of s5))))
    obtain ⟨k1, rfl⟩ : ∃ n : Nat, k1 = (n : Int) := ⟨k1.toNat, by omega⟩
    obtain ⟨j1, rfl⟩ : ∃ n : Nat, j1 = (n : Int) := ⟨j1.toNat, by omega⟩
    refine seq_op fun N hN => ?_
    walk_at "rs"
    have wW : wt W ≤ z.length + 1 := sw'
    have lW : W.length ≤ 40001 := by omega
    have fin : ∀ q W' x7 H6, H6 q = some (.lst (W'.map V.str)) → wt W' ≤ 2 * z.length + 20 → Bag H6 b c → Kp b H H6 → N [some (.ref b), some (.str z), some (.ref q), some (.int way), some (.int (k1 : Int)), some (.int (j1 : Int)), some (.ref o), x7] H6 := by
      intro q W' x7 H6 h6 w6 B6 K6
      refine hN _ _ ?_
      clear hN N
      walk_at "rs"
      have j6 := join_wt W'
      have l1 : (Str.ofString " ").length = 1 := by decide +kernel
      refine ⟨⟨_, rfl⟩, W', .inl (SqL.of h6), ?_, k _ H6 (by exact Nat.le_trans j6 w6) B6 K6⟩
      rw [l1]
      unfold wt at w6
      omega
    have hk1 : k1 < W.length := by omega
    have hj1 : j1 < W.length := by omega
    obtain ⟨yk, eyk⟩ : ∃ y, W[k1]? = some y := ⟨_, List.getElem?_eq_getElem hk1⟩
    obtain ⟨yj, eyj⟩ : ∃ y, W[j1]? = some y := ⟨_, List.getElem?_eq_getElem hj1⟩
    have mk : yk.length ≤ z.length := sl2 yk (List.mem_of_getElem? eyk)
    have mj : yj.length ≤ z.length := sl2 yj (List.mem_of_getElem? eyj)
    have atk : (W.map V.str)[k1]? = some (.str yk) := by rw [List.getElem?_map, eyk]; rfl
    have atj : (W.map V.str)[j1]? = some (.str yj) := by rw [List.getElem?_map, eyj]; rfl
    have ty : tyV K "list" (V.ref l) H5 := .inl ⟨rfl, _, SqL.of h5l⟩
    have upB : ∀ {G : Hp} {o' : HO}, Bag G b c → Bag (L2.upd G l o') b c := fun B => B.upd nl.symm nc
    have upK : ∀ {G : Hp} {o' : HO}, Kp b H G → Kp b H (L2.upd G l o') := fun K => kp_upd K hl
    have ln5 : (W.map V.str).length = W.length := List.length_map _
    have oddL : ∀ (E' : XK) (Q' : VK), (∀ y H6, y.length ≤ 10 → Bag H6 b c → Kp b H5 H6 → Q' (.str y) H6) → sp__law_of K [.ref b, .ref o] H5 Q' E' := fun E' Q' hq => by
      refine of_lst B5 h5 (new_ne B4 n5) (by simp) (by simp) fun v H6 hv B6 K6 => ?_
      have q : ∀ y ∈ (["", "let", "be", "table", "count", "mean", "where", "pairs", "else", ":", "a", "sign", "=", "==", "0:1", "1/2:2", "1:2:3", "0:", "-3", "10", "2/4", "-0", "X"] : List Str), y.length ≤ 10 := by decide +kernel
      have hv' : v ∈ (["", "let", "be", "table", "count", "mean", "where", "pairs", "else", ":", "a", "sign", "=", "==", "0:1", "1/2:2", "1:2:3", "0:", "-3", "10", "2/4", "-0", "X"] : List Str).map V.str := hv
      obtain ⟨y, hy, rfl⟩ := List.mem_map.mp hv'
      exact hq y H6 (q y hy) B6 K6
    refine ite2 (fun e0 => ?_) (fun _ => ite2 (fun e1 => ?_) (fun _ => ite2 (fun e2 => ?_) (fun _ => ite2 (fun e3 => ?_) (fun _ => ite2 (fun e5 => ?_) (fun _ => ite2 (fun e6 => ?_) (fun _ => ite2 (fun e7 => ?_) (fun _ => ite2 (fun e8 => ?_) (fun _ => ?_))))))))
    · refine ⟨ty, l, _, _, k1, _, rfl, rfl, h5l, by omega, by omega, (ixN_seq (ix_nat (by rw [ln5]; exact hk1))).1, atk, fin l (W.eraseIdx k1) _ _ ?_ ?_ (upB B5) (upK K5)⟩
      · rw [upd_same, map_erase]
      · have := wt_erase W k1
        omega
    · refine ⟨ty, _, SqL.of h5l, _, atI_nat atk, _, _, _, ⟨rfl, rfl⟩, h5l, by rw [ln5]; omega, by omega, by omega, fin l (W.take k1 ++ [yk] ++ W.drop k1) _ _ ?_ ?_ (upB B5) (upK K5)⟩
      · rw [upd_same, Int.toNat_natCast, List.map_append, List.map_append, List.map_take, List.map_drop]
        rfl
      · have t := wt_td W k1
        have e := wt_cons yk []
        have e0 : wt ([] : List Str) = 0 := rfl
        rw [wt_app, wt_app]
        omega
    · refine ⟨_, SqL.of h5l, _, atI_nat atj, _, SqL.of h5l, _, atI_nat atk, by decide, fun p H6 s6 n6 h6 => ⟨_, _, rfl, SqT.of h6, rfl, ?_⟩⟩
      have nl2 := s6 _ _ h5l
      unfold gCons gNil
      walk_at "rs"
      have B6 := B5.same s6
      have K6 : Kp b H H6 := Same.trans K5 (Kp.of s6)
      refine ⟨_, _, ⟨rfl, rfl⟩, _, nl2, k1, ix_nat (by rw [ln5]; exact hk1), _, _, rfl, _, upd_same, j1, ix_nat (by rw [List.length_set, ln5]; exact hj1), rfl, fin l ((W.set k1 yj).set j1 yk) _ _ ?_ ?_ (upB (upB B6)) (upK (upK K6))⟩
      · rw [upd_same, map_set', map_set']
      · by_cases e : k1 = j1
        · subst e
          rw [eyk] at eyj
          cases eyj
          have a1 := wt_set W k1 yk yk eyk
          have a2 := wt_set (W.set k1 yk) k1 yk yk (by rw [List.getElem?_set_self hk1])
          omega
        · have a1 := wt_set W k1 yj yk eyk
          have a2 := wt_set (W.set k1 yj) j1 yk yj (by rw [List.getElem?_set_ne e]; exact eyj)
          omega
    · refine oddL _ _ fun y H6 hy B6 K6 => ?_
      have nl2 := K6.hd h5l nl
      refine ⟨_, nl2, k1, ix_nat (by rw [ln5]; exact hk1), fin l (W.set k1 y) _ _ ?_ ?_ (upB B6) (upK (Same.trans K5 K6))⟩
      · rw [upd_same, map_set']
      · have := wt_set W k1 y yk eyk
        omega
    · refine ⟨ty, oddL _ _ fun y H6 hy B6 K6 => ?_⟩
      have nl2 := K6.hd h5l nl
      refine ⟨_, _, _, ⟨rfl, rfl⟩, nl2, by rw [ln5]; omega, by omega, by omega, fin l (W.take k1 ++ [y] ++ W.drop k1) _ _ ?_ ?_ (upB B6) (upK (Same.trans K5 K6))⟩
      · rw [upd_same, Int.toNat_natCast, List.map_append, List.map_append, List.map_take, List.map_drop]
        rfl
      · have t := wt_td W k1
        have e := wt_cons y []
        have e0 : wt ([] : List Str) = 0 := rfl
        rw [wt_app, wt_app]
        omega
    · have l1 : (Str.ofString " ").length = 1 := by decide +kernel
      have l2 : (Str.ofString "\n").length = 1 := by decide +kernel
      have l3 : (Str.ofString "  ").length = 2 := by decide +kernel
      refine ⟨by omega, by omega, by omega, by omega, by rw [str_append_len]; omega, _, rfl, z, rfl, by rw [l3]; omega, by decide, fun p H6 s6 n6 h6 => ?_⟩
      refine of_newR (R := fun y => y.length ≤ 2 * z.length + 20) B5 [z ++ " ", " " ++ z, z ++ "\n", z ++ "\n" ++ z, Txt.replace z " " "  "] s6 n6 h6 (by simp) (by simp) (fun y hy => ?_) fun y H7 hy B7 K7 => k y H7 hy B7 (Same.trans K5 K7)
      simp only [List.mem_cons, List.mem_nil_iff, or_false] at hy
      rcases hy with rfl | rfl | rfl | rfl | rfl
      · rw [str_append_len]; omega
      · rw [str_append_len]; omega
      · rw [str_append_len]; omega
      · rw [str_append_len, str_append_len]; omega
      · have := repl_len z; omega
    · refine ⟨b, c, 2, rfl, B5, by decide, by decide, fun r H6 r0 r1 B6 K6 => ⟨r, rfl, ite2 (fun _ => ?_) (fun _ => ?_)⟩⟩
      · refine ⟨_, SqL.of (K6.hd h5l nl), fun p H7 s7 n7 h7 => fin p (W.take k1) _ H7 ?_ ?_ (B6.same s7) (Same.trans K5 (Same.trans K6 (Kp.of s7)))⟩
        · rw [h7, cutV_take, List.map_take]
        · have := wt_td W k1
          omega
      · refine ⟨_, SqL.of (K6.hd h5l nl), fun p H7 s7 n7 h7 => fin p (W.drop k1) _ H7 ?_ ?_ (B6.same s7) (Same.trans K5 (Same.trans K6 (Kp.of s7)))⟩
        · rw [h7, cutV_drop, List.map_drop]
        · have := wt_td W k1
          omega
    · refine ⟨by decide, fun p1 H6 s6 n6 h6 => ⟨by decide, fun p2 H7 s7 n7 h7 => ⟨by decide, fun p3 H8 s8 n8 h8 => ⟨by decide, fun p4 H9 s9 n9 h9 => ⟨by decide, fun p5 H10 s10 n10 h10 => ?_⟩⟩⟩⟩⟩
      have S9 : Same H5 H9 := Same.trans s6 (Same.trans s7 (Same.trans s8 s9))
      have S10 : Same H5 H10 := Same.trans S9 s10
      have B9 := B5.same S9
      have fourE : ∀ v ∈ [V.ref p1, .ref p2, .ref p3, .ref p4], ∃ (a : Addr) (L : List Str), v = .ref a ∧ a ≠ b ∧ H10 a = some (.lst (L.map V.str)) ∧ wt L ≤ 10 ∧ L.length ≤ 2 := by
        intro v hv
        simp only [List.mem_cons, List.mem_nil_iff, or_false] at hv
        rcases hv with rfl | rfl | rfl | rfl
        · exact ⟨p1, ["else", "0"], rfl, new_ne B5 n6, Same.trans s7 (Same.trans s8 (Same.trans s9 s10)) _ _ h6, by decide +kernel, by decide⟩
        · exact ⟨p2, ["0:1"], rfl, new_ne (B5.same s6) n7, Same.trans s8 (Same.trans s9 s10) _ _ h7, by decide +kernel, by decide⟩
        · exact ⟨p3, ["a"], rfl, new_ne (B5.same (Same.trans s6 s7)) n8, Same.trans s9 s10 _ _ h8, by decide +kernel, by decide⟩
        · exact ⟨p4, ["pairs"], rfl, new_ne (B5.same (Same.trans s6 (Same.trans s7 s8))) n9, s10 _ _ h9, by decide +kernel, by decide⟩
      refine of_lst (B9.same s10) h10 (new_ne B9 n10) (by simp) (by simp) fun v H11 hv B11 K11 => ?_
      obtain ⟨a, L, rfl, na, ha, hw, hl2⟩ := fourE v hv
      refine ⟨a, rfl, _, K11.hd (S10 _ _ h5l) nl, _, K11.hd ha na, ?_, fun q H12 s12 n12 h12 => fin q (W ++ L) _ H12 (by rw [h12, List.map_append]) ?_ (B11.same s12) (Same.trans K5 (Same.trans (Kp.of S10) (Same.trans K11 (Kp.of s12))))⟩
      · rw [List.length_map, List.length_map]; omega
      · rw [wt_app]; omega
    · refine seq_op fun N2 hN2 => ?_
      walk_at "rs"
      refine ⟨by omega, b, c, _, rfl, B5, by omega, by omega, fun cut H6 c0 c1 B6 K6 => hN2 _ _ ?_⟩
      clear hN2 N2
      walk_at "rs"
      obtain ⟨cut, rfl⟩ : ∃ n : Nat, cut = (n : Int) := ⟨cut.toNat, by omega⟩
      have lc := cut_to z cut
      refine ⟨by omega, by decide, fun p H7 s7 n7 h7 => of_newR (R := fun y => y.length ≤ 1) B6 ["0", "a", " ", "/", ":", "-", "A", "\n", "1"] s7 n7 h7 (by simp) (by simp) (by decide +kernel) fun y H8 hy B8 K8 => ⟨y, rfl, by omega, b, c, 2, rfl, B8, by decide, by decide, fun r H9 r0 r1 B9 K9 => ?_⟩⟩
      obtain ⟨r, rfl⟩ : ∃ n : Nat, r = (n : Int) := ⟨r.toNat, by omega⟩
      have lf := cut_from z (cut + r)
      have lt : (cutS z none (some (cut : Int)) ++ y : Str).length ≤ cut + 1 := by rw [str_append_len]; omega
      have ec : ((cut : Int) + (r : Int)) = ((cut + r : Nat) : Int) := by omega
      rw [← ec] at lf
      refine ⟨r, rfl, by omega, by omega, k _ H9 ?_ B9 (Same.trans K5 (Same.trans K6 (Same.trans K8 K9)))⟩
      rw [str_append_len]
      omega
end
end LK

set_option Elab.async false
set_option linter.all false
set_option maxRecDepth 100000
set_option pp.deepTerms true
set_option pp.maxSteps 20000
namespace LK
open PySem PySem.Spec PyProof.Rows L2
local macro_rules | `(tactic| walk_at "rs") => `(tactic| simp only [cxK, cxNK, tCallZ, tAsg, tOp, rI0, rS0, rB0, rI, rU, tUn, rEq, rNe, rIxL, rIxT, rIxS, rSetL, rSlLU, rSlS, rSlU, rCatL, rCatU, rRepL, rIn, tVar, tC, gName, gSub, tIfS, tTest, tB, tAnd, tOr, tNot, tNotV, tAndV, tOrV, tIf, tCall, tCons, tNil, tCB, tDrop, tRet, tRetN, tNext, tLstU, tTupU, tM0, tM1, tPar, tPar3, tAug, ipI, tBM, tBM0, rAppend, rPop, tBreak, tCont, tChain, tSl, tPart, tNoPart, L2.start, List.map, List.length_cons, List.length_nil, List.replicate, List.cons_append, List.nil_append, List.append_nil, List.getElem?_cons_zero, List.getElem?_cons_succ, List.set_cons_zero, List.set_cons_succ, Option.some.injEq, V.int.injEq, V.ref.injEq, V.str.injEq, V.bl.injEq, exists_eq_left', exists_eq_left, exists_and_left, decide_eq_true_eq, List.cons.injEq, and_true, true_and, scal, Bool.not_eq_true', decide_eq_false_iff_not, Nat.zero_add, Nat.reduceAdd, Nat.reduceSub, reduceCtorEq, false_and, exists_false, false_or, or_false, CPow, CMul, CDiv, Int.reduceToNat, ↓reduceIte, wipe, sw, List.nil_append, List.singleton_append])
local macro_rules | `(tactic| walk_at "st") => `(tactic| (refine seq_op fun N hN => ?_; walk_at "rs"))
local macro_rules | `(tactic| walk_at "sd") => `(tactic| first | assumption | decide | omega)
local macro_rules | `(tactic| walk_at "rd") => `(tactic| repeat (first
  | refine ⟨_, SqL.of (by assumption), ?_⟩ | refine ⟨_, SqL.of upd_same, ?_⟩ | refine ⟨_, .inl (SqL.of (by assumption)), ?_⟩ | refine ⟨_, (by assumption : _ = some (HO.lst _)), ?_⟩ | refine ⟨_, upd_same, ?_⟩
  | refine ⟨_, rfl, ?_⟩ | refine And.intro (by walk_at "sd") ?_))

open TL
theorem needs_lay {z : Str} (h : 0 ≤ needsZ z) : PyData.canLay0 (.str z) = true := by
  unfold needsZ at h
  split at h
  · rename_i e
    rw [inL] at e
    have q : ∀ y ∈ ops2L, PyData.canLay0 (.str y) = true := by decide +kernel
    exact q z (of_decide_eq_true e)
  · split at h
    · rename_i e
      rw [inL] at e
      have q : ∀ y ∈ ops1L, PyData.canLay0 (.str y) = true := by decide +kernel
      exact q z (of_decide_eq_true e)
    · split at h
      · rename_i e
        rw [Bool.or_eq_true] at e
        rcases e with e | e
        · rw [nineV_eq, inL] at e
          have q : ∀ y ∈ nineL, PyData.canLay0 (.str y) = true := by decide +kernel
          exact q z (of_decide_eq_true e)
        · exact word_lay (name_word e)
      · omega
theorem leaf_str {z : Str} (h1 : z.length ≤ 100000) (h2 : PyData.canLay0 (.str z) = true) : leafD (.str z) = true := by
  show (decide (z.length ≤ 100000) && PyData.canLay0 (.str z)) = true
  rw [decide_eq_true h1, h2]; rfl
theorem leaf_word {z : Str} (h : isWordS z = true) : leafD (.str z) = true := leaf_str (by have := (word_ok h).len; omega) (word_lay h)
theorem gd_fr {n m : Nat} (hn : 2 ≤ n) {f : Int × Int} (h : isVal (frD f) = true) : gd n (m + 1) (frD f) = true := by
  obtain ⟨_, _, b, c, _⟩ := val_iff h
  refine gd_tup.mpr ⟨hn, fun d hd => ?_⟩
  simp only [List.mem_cons, List.mem_nil_iff, or_false] at hd
  rcases hd with rfl | rfl
  · exact gd_leaf (decide_eq_true (pow_le (a := 20) (by omega) (by decide)))
  · have := (val_iff h).2.1
    exact gd_leaf (decide_eq_true (pow_le (a := 14) (by omega) (by decide)))
theorem gd_rel {a c : Str} {r : PyData} {m : Nat} (h : isRelD r = true) (hw : (relW a r c).length ≤ 500) : gd 500 (m + 3) r = true := by
  rcases rel_cases h with ⟨z, hz, rfl⟩ | ⟨ps, rfl, hp⟩
  · have q : ∀ y ∈ relL, leafD (.str y) = true := by decide +kernel
    exact gd_leaf (q z hz)
  · have l : (a :: "pairs" :: c :: (ps.map prD).map pairW).length ≤ 500 := hw
    simp only [List.length_cons, List.length_map] at l
    refine gd_tup.mpr ⟨by rw [List.length_map]; omega, fun d hd => ?_⟩
    obtain ⟨p, hp2, rfl⟩ := List.mem_map.mp hd
    refine gd_tup.mpr ⟨by simp, fun d hd => ?_⟩
    simp only [List.mem_cons, List.mem_nil_iff, or_false] at hd
    rcases hd with rfl | rfl
    · exact gd_fr (by decide) (hp p hp2).1
    · exact gd_fr (by decide) (hp p hp2).2
theorem line_gd {d : PyData} (h : Line d) (hw : (wordsD d).length ≤ 500) : gd 500 10 d = true := by
  have kw : ∀ z ∈ (["be", "table", "count", "first", "last", "mean"] : List Str), leafD (.str z) = true := by decide +kernel
  cases h with
  | be own zs ho hp =>
    obtain ⟨⟨q1, q2⟩, q3⟩ := pre_ok hp
    refine gd_tup.mpr ⟨by simp, fun d hd => ?_⟩
    simp only [List.mem_cons, List.mem_nil_iff, or_false] at hd
    rcases hd with rfl | rfl | rfl
    · exact gd_leaf (kw _ (by decide))
    · exact gd_leaf (leaf_word (own_word ho).1)
    · refine gd_tup.mpr ⟨by rw [List.length_map]; omega, fun d hd => ?_⟩
      obtain ⟨z, hz, rfl⟩ := List.mem_map.mp hd
      exact gd_leaf (leaf_str (by have := (needs_ok (q3 z hz)).len; omega) (needs_lay (q3 z hz)))
  | tab own ns fs ho ln hn lf hf =>
    refine gd_tup.mpr ⟨by simp, fun d hd => ?_⟩
    simp only [List.mem_cons, List.mem_nil_iff, or_false] at hd
    rcases hd with rfl | rfl | rfl | rfl
    · exact gd_leaf (kw _ (by decide))
    · exact gd_leaf (leaf_word (own_word ho).1)
    · refine gd_tup.mpr ⟨by rw [List.length_map]; omega, fun d hd => ?_⟩
      obtain ⟨z, hz, rfl⟩ := List.mem_map.mp hd
      exact gd_leaf (leaf_word (name_word (hn z hz)))
    · refine gd_tup.mpr ⟨by rw [List.length_map]; omega, fun d hd => ?_⟩
      obtain ⟨f, hf2, rfl⟩ := List.mem_map.mp hd
      exact gd_fr (by decide) (hf f hf2)
  | cnt own a c r ho ha hr hc =>
    rw [words_cnt] at hw
    simp only [List.length_cons] at hw
    refine gd_tup.mpr ⟨by simp, fun d hd => ?_⟩
    simp only [List.mem_cons, List.mem_nil_iff, or_false] at hd
    rcases hd with rfl | rfl | rfl | rfl | rfl
    · exact gd_leaf (kw _ (by decide))
    · exact gd_leaf (leaf_word (own_word ho).1)
    · exact gd_leaf (leaf_word (name_word ha))
    · exact gd_rel (a := a) (c := c) (m := 6) hr (by omega)
    · exact gd_leaf (leaf_word (name_word hc))
  | lst k own p a c r i hk ho hp ha hr hc h1 h2 =>
    rw [words_lst hk] at hw
    simp only [List.length_cons, List.length_append] at hw
    refine gd_tup.mpr ⟨by simp, fun d hd => ?_⟩
    simp only [List.mem_cons, List.mem_nil_iff, or_false] at hd
    rcases hd with rfl | rfl | rfl | rfl | rfl | rfl | rfl
    · exact gd_leaf (kw _ (by rcases hk with rfl | rfl | rfl <;> decide))
    · exact gd_leaf (leaf_word (own_word ho).1)
    · exact gd_leaf (leaf_word (name_word hp))
    · exact gd_leaf (leaf_word (name_word ha))
    · exact gd_rel (a := a) (c := c) (m := 6) hr (by omega)
    · exact gd_leaf (leaf_word (name_word hc))
    · exact gd_leaf (decide_eq_true (pow_le (a := 10) (by omega) (by decide)))
theorem line_words {d : PyData} (h : Line d) {n m : Nat} (hn : n ≤ 1000) (hg : gd n (m + 1) d = true) : (wordsD d).length ≤ 3000 := by
  have rel : ∀ {r : PyData} {a c : Str}, gd n m r = true → (relW a r c).length ≤ n + 3 := fun {r a c} hr => by
    cases r with
    | tuple ds =>
      cases m with
      | zero => cases hr
      | succ m =>
        have := (gd_tup.mp hr).1
        show (a :: "pairs" :: c :: ds.map pairW).length ≤ _
        simp only [List.length_cons, List.length_map]
        omega
    | str z => exact (by show 3 ≤ n + 3; omega)
    | _ => exact (by show 3 ≤ n + 3; omega)
  cases h with
  | be own zs ho hp =>
    rw [words_be]
    have := (pre_ok hp).1
    simp only [List.length_cons]
    omega
  | tab own ns fs ho ln hn2 lf hf =>
    rw [words_tab]
    simp only [List.length_cons, List.length_append, List.length_map]
    omega
  | cnt own a c r ho ha hr hc =>
    rw [words_cnt]
    have := rel (a := a) (c := c) ((gd_tup.mp hg).2 r (by simp))
    simp only [List.length_cons]
    omega
  | lst k own p a c r i hk ho hp ha hr hc h1 h2 =>
    rw [words_lst hk]
    have := rel (a := a) (c := c) ((gd_tup.mp hg).2 r (by simp))
    simp only [List.length_cons, List.length_append, List.length_nil]
    omega
theorem dpa_rep {K : PySem.W.Frag} {H : Hp} {xs : List V} {ds : List PyData} (h : DpAll K H xs ds) : ∀ n : Nat, DpAll K H (List.replicate n xs).flatten (List.replicate n ds).flatten
  | 0 => .nil
  | n + 1 => by
    rw [List.replicate_succ, List.replicate_succ, List.flatten_cons, List.flatten_cons]
    exact dpa_app h (dpa_rep h n)
theorem rep_mem {α : Type} {x : α} {n : Nat} {y : α} (h : y ∈ (List.replicate n [x]).flatten) : y = x := by
  obtain ⟨l, hl, hy⟩ := List.mem_flatten.mp h
  rw [List.eq_of_mem_replicate hl] at hy
  simpa using hy
theorem rep_len {α : Type} (x : α) (n : Nat) : (List.replicate n [x]).flatten.length = n := by
  induction n with
  | zero => rfl
  | succ n ih => rw [List.replicate_succ, List.flatten_cons, List.length_append, ih]; simp; omega
theorem lineZ_empty : lineD (.str "") = .none := by
  have e : (Txt.split "" " ").length < 4 := by decide +kernel
  show backD (rd1 (Txt.split "" " ")) "" = .none
  have r : rd1 (Txt.split "" " ") = .none := by
    unfold rd1
    rw [if_pos e]
  rw [r]
  unfold backD
  rw [if_neg (fun c => by cases c.1)]
def bnd (i : Nat) : Nat := if i = 0 then 14000 else if i = 1 then 28020 else 56060
theorem bnd_step {i : Nat} (h : i < 2) : 2 * bnd i + 20 ≤ bnd (i + 1) := by
  have : i = 0 ∨ i = 1 := by omega
  rcases this with rfl | rfl <;> decide
theorem bnd_top (i : Nat) : bnd i ≤ 56060 := by
  unfold bnd
  split
  · omega
  · split <;> omega
section
variable {P : Program} {w : World} {K : PySem.W.Frag} {mg : Str → Option Value} {base : Heap}
def sp_law (K : PySem.W.Frag) : Sp := fun vs H Q _ => ∃ (a : Addr) (ns : List Int), vs = [.ref a] ∧ SqL K H a (ns.map V.int) ∧ ns.length ≤ 63 ∧ ∀ H', Q (.bl true) H'
theorem ok_law (T : Txt w K mg) : FnOk P w K mg base CX0 12 T.a_law T.d_law ["script"] (sp_law K) := by
  refine T.F_law.ok sc_law (fun vs H Q E h => ?_) (fun cdv A outer s H vs Q E hr h => ?_)
  · obtain ⟨a, ns, rfl, _⟩ := h
    rfl
  · obtain ⟨a, ns, rfl, hS, hns, k⟩ := h
    have hr__law_bag : Room 1 _ := hr.mono (by decide)
    have G__law_bag := ok__law_bag (P := P) (base := base) T
    have hr__law_like : Room 5 _ := hr.mono (by decide)
    have G__law_like := ok__law_like (P := P) (base := base) T 4
    have hr__law_row : Room 5 _ := hr.mono (by decide)
    have G__law_row := ok__law_row (P := P) (base := base) T
    have hr__law_good : Room 10 _ := hr.mono (by decide)
    have G__law_good := ok__law_good (P := P) (base := base) T
    have hr__law_compared : Room 4 _ := hr.mono (by decide)
    have G__law_compared := ok__law_compared (P := P) (base := base) T
    have hr__law_written : Room 2 _ := hr.mono (by decide)
    have G__law_written := ok__law_written (P := P) (base := base) T
    have hr__law_draw : Room 1 _ := hr.mono (by decide)
    have G__law_draw := ok__law_draw (P := P) (base := base) T
    have hr__law_bent_text : Room 3 _ := hr.mono (by decide)
    have G__law_bent_text := ok__law_bent_text (P := P) (base := base) T
    have hr__law_bend : Room 6 _ := hr.mono (by decide)
    have G__law_bend := ok__law_bend (P := P) (base := base) T 2
    have hr__law_told : Room 10 _ := hr.mono (by decide)
    have G__law_told := ok__law_told (P := P) (base := base) T
    have hr__law_is_row : Room 6 _ := hr.mono (by decide)
    have G__law_is_row := ok__law_is_row (P := P) (base := base) T
    have hr_is_line : Room 7 _ := hr.mono (by decide)
    have G_is_line := ok_is_line (P := P) (base := base) T
    have hr_read_line : Room 9 _ := hr.mono (by decide)
    have G_read_line := ok_read_line (P := P) (base := base) T
    refine ⟨_, (pss_cons (ps_set (i := 1) sc_law.nd rfl (Or.inr rfl) (pe_call G__law_bag hr__law_bag (by rfl) T.m__law_bag T.F__law_bag.kp T.B__law_bag .nil pass0 (pa_cons (pv 0) pa_nil)))
      (pss_cons (ps_if (pt_not (pt_val (pe_call G__law_like hr__law_like (by rfl) T.m__law_like T.F__law_like.kp T.B__law_like .nil pass0 (pa_cons (pe_glob (v := .ref T.a_KINDS) (by rfl) T.m_KINDS rfl) (pa_cons (pe_tupU (pa_cons pe_str (pa_cons pe_str (pa_cons pe_str (pa_cons pe_str (pa_cons pe_str (pa_cons pe_str pa_nil))))))) pa_nil))))) (pss_one (ps_ret pe_bl)) pss_nil)
      (pss_cons (ps_for PassesOwn.never rfl (pi_range1 (by rfl) T.n_range (pa_cons pe_int pa_nil)) (pg_name (i := 2) sc_law.nd rfl (Or.inl rfl)) (pss_cons (ps_set (i := 3) sc_law.nd rfl (Or.inl rfl) (pe_call G__law_row hr__law_row (by rfl) T.m__law_row T.F__law_row.kp T.B__law_row .nil pass0 (pa_cons (pv 1) pa_nil)))
      (pss_cons (ps_if (PW.pt (pw_or (pt_not (pt_val (pe_call G__law_good hr__law_good (by rfl) T.m__law_good T.F__law_good.kp T.B__law_good .nil pass0 (pa_cons (pv 1) (pa_cons (pv 3) pa_nil))))) (pw_or1 (pt_not (pt_val (pe_callB (cr_all rfl) (by rfl) T.n_all (by decide +kernel) (pa_cons (pe_lc (own := [("k", 5)]) (g := gName 5) (tt := tYes) rfl sc_law.nd (pi_range1 (by rfl) T.n_range (pa_cons pe_int pa_nil)) (blkOk_by (own := [("k", 5)]) (N := N_law) (sc := defScope s_law) (by decide +kernel)) (fun _ _ _ _ _ => pg_name (i := 5) sc_law.nd rfl (Or.inl rfl)) (fun _ _ _ _ _ => pts_nil) (fun _ _ _ _ _ => (pe_call G__law_compared hr__law_compared (by rfl) T.m__law_compared T.F__law_compared.kp T.B__law_compared .nil pass0 (pa_cons (pv 1) pa_nil)))) pa_nil))))))) (pss_one (ps_ret pe_bl)) pss_nil)
      (pss_cons (ps_set (i := 4) sc_law.nd rfl (Or.inl rfl) (pe_call G__law_written hr__law_written (by rfl) T.m__law_written T.F__law_written.kp T.B__law_written .nil pass0 (pa_cons (pv 3) pa_nil)))
      (pss_cons (ps_for PassesOwn.never rfl (pi_range1 (by rfl) T.n_range (pa_cons pe_int pa_nil)) (pg_name (i := 5) sc_law.nd rfl (Or.inl rfl)) (pss_cons (ps_par (i := 6) (j := 7) (by rfl) sc_law.nd rfl rfl (by decide) rfl rfl (pa_cons (pv 4) (pa_cons (pv 3) pa_nil)) (by rfl))
      (pss_cons (ps_for PassesOwn.never rfl (pi_range1 (by rfl) T.n_range (pa_cons (pe_op op_add pe_int (pe_call G__law_draw hr__law_draw (by rfl) T.m__law_draw T.F__law_draw.kp T.B__law_draw .nil pass0 (pa_cons (pv 1) (pa_cons pe_int pa_nil)))) pa_nil)) (pg_name (i := 8) sc_law.nd rfl (Or.inl rfl)) (pss_one (ps_par (i := 6) (j := 7) (by rfl) sc_law.nd rfl rfl (by decide) rfl rfl (pa_cons (pe_call G__law_bent_text hr__law_bent_text (by rfl) T.m__law_bent_text T.F__law_bent_text.kp T.B__law_bent_text .nil pass0 (pa_cons (pv 1) (pa_cons (pv 6) pa_nil))) (pa_cons (pe_call G__law_bend hr__law_bend (by rfl) T.m__law_bend T.F__law_bend.kp T.B__law_bend .nil pass0 (pa_cons (pv 1) (pa_cons (pv 7) (pa_cons pe_int pa_nil)))) pa_nil)) (by rfl))))
      (pss_cons (ps_if (pt_not (pt_val (pe_call G__law_told hr__law_told (by rfl) T.m__law_told T.F__law_told.kp T.B__law_told .nil pass0 (pa_cons (pv 6) (pa_cons (pe_op op_mod (pe_callTy call_intI (by rfl) T.n_int (by decide +kernel) (pa_cons (pv 5) pa_nil)) pe_int) pa_nil))))) (pss_one (ps_ret pe_bl)) pss_nil)
      (pss_cons (ps_set (i := 9) sc_law.nd rfl (Or.inl rfl) (pe_call G__law_is_row hr__law_is_row (by rfl) T.m__law_is_row T.F__law_is_row.kp T.B__law_is_row .nil pass0 (pa_cons (pv 7) pa_nil)))
      (pss_one (ps_if (PW.pt (pw_or (pt_not (pt_val (pe_call G__law_like hr__law_like (by rfl) T.m__law_like T.F__law_like.kp T.B__law_like .nil pass0 (pa_cons (pe_call G_is_line hr_is_line (by rfl) T.m_is_line T.F_is_line.kp T.B_is_line .nil pass0 (pa_cons (pv 7) pa_nil)) (pa_cons (pv 9) pa_nil))))) (pw_or1 (PW.pt (pw_and (pt_truth (pv 9) (by intro _; rfl)) (pw_and1 (pt_not (pt_val (pe_call G__law_good hr__law_good (by rfl) T.m__law_good T.F__law_good.kp T.B__law_good .nil pass0 (pa_cons (pv 1) (pa_cons (pv 7) pa_nil))))))))))) (pss_one (ps_ret pe_bl)) pss_nil)))))))
      (pss_cons (ps_set (i := 10) sc_law.nd rfl (Or.inl rfl) (pe_tupU (pa_cons pe_str (pa_cons pe_str (pa_cons (pe_op op_repT (pe_tupU (pa_cons pe_str pa_nil)) (pe_op op_add pe_int (pe_call G__law_draw hr__law_draw (by rfl) T.m__law_draw T.F__law_draw.kp T.B__law_draw .nil pass0 (pa_cons (pv 1) (pa_cons pe_int pa_nil))))) (pa_cons (pe_op op_repT (pe_tupU (pa_cons (pe_tupU (pa_cons pe_int (pa_cons pe_int pa_nil))) pa_nil)) (pe_op op_add pe_int (pe_call G__law_draw hr__law_draw (by rfl) T.m__law_draw T.F__law_draw.kp T.B__law_draw .nil pass0 (pa_cons (pv 1) (pa_cons pe_int pa_nil))))) pa_nil))))))
      (pss_cons (ps_if (PW.pt (pw_and (pt_cmpR op_eqI (pv 2) pe_int (nomark _)) (pw_and1 (pt_not (pt_val (pe_call G__law_like hr__law_like (by rfl) T.m__law_like T.F__law_like.kp T.B__law_like .nil pass0 (pa_cons (pe_call G_is_line hr_is_line (by rfl) T.m_is_line T.F_is_line.kp T.B_is_line .nil pass0 (pa_cons (pv 10) pa_nil)) (pa_cons (pe_call G__law_is_row hr__law_is_row (by rfl) T.m__law_is_row T.F__law_is_row.kp T.B__law_is_row .nil pass0 (pa_cons (pv 10) pa_nil)) pa_nil)))))))) (pss_one (ps_ret pe_bl)) pss_nil)
      (pss_one (ps_if (PW.pt (pw_or (pt_not (pt_val (pe_call G__law_like hr__law_like (by rfl) T.m__law_like T.F__law_like.kp T.B__law_like .nil pass0 (pa_cons (pe_call G_is_line hr_is_line (by rfl) T.m_is_line T.F_is_line.kp T.B_is_line .nil pass0 (pa_cons (pe_callTy call_listU (by rfl) T.n_list (by decide +kernel) (pa_cons (pv 3) pa_nil)) pa_nil)) (pa_cons pe_bl pa_nil))))) (pw_or1 (pt_not (pt_val (pe_call G__law_like hr__law_like (by rfl) T.m__law_like T.F__law_like.kp T.B__law_like .nil pass0 (pa_cons (pe_lstU (pa_cons (pe_call G_read_line hr_read_line (by rfl) T.m_read_line T.F_read_line.kp T.B_read_line .nil pass0 (pa_cons pe_non pa_nil)) (pa_cons (pe_call G_read_line hr_read_line (by rfl) T.m_read_line T.F_read_line.kp T.B_read_line .nil pass0 (pa_cons (pv 3) pa_nil)) (pa_cons (pe_call G_read_line hr_read_line (by rfl) T.m_read_line T.F_read_line.kp T.B_read_line .nil pass0 (pa_cons pe_str pa_nil)) pa_nil)))) (pa_cons (pe_op op_repL (pe_lstU (pa_cons pe_non pa_nil)) pe_int) pa_nil)))))))) (pss_one (ps_ret pe_bl)) pss_nil)))))))))
      (pss_one (ps_ret pe_bl))))), ?_⟩
    refine seq_op fun N hN => ?_
    walk_at "rs"
    refine ⟨a, ns, rfl, hS, hns, fun b c H1 s1 B1 nb => hN _ _ ?_⟩
    clear hN N
    refine seq_op fun N hN => ?_
    walk_at "rs"
    refine ⟨by decide, fun p H2 s2 n2 h2 => ?_⟩
    have kd : Dp K H2 (.ref T.a_KINDS) (.tuple (kindL.map .str)) := .tup (T.s_KINDS H2) (strs_dpa kindL)
    have kd2 : Dp K H2 (.ref p) (.tuple (kindL.map .str)) := .tup (SqT.of h2) (strs_dpa kindL)
    refine ⟨_, _, .tuple (kindL.map .str), rfl, kd, kd2, by decide +kernel, by decide, fun H3 s3 => ⟨true, rfl, iteFF (by decide) (hN _ _ ?_)⟩⟩
    clear hN N
    have B3 := B1.same (Same.trans s2 s3)
    refine cut_seq (fun σ G => Bag G b c) (fun N hN => ?_) ?_
    rotate_left
    · rintro σ G B
      walk_at "rs"
      exact k G
    refine ⟨6, rfl, by decide, by decide, for_range (lo := 0) (n := (6 : Int).toNat) (fun i σ G => ∃ x2 x3 x4 x5 x6 x7 x8 x9 x10, σ = [some (.ref a), some (.ref b), x2, x3, x4, x5, x6, x7, x8, x9, x10] ∧ Bag G b c) ⟨none, none, none, none, none, none, none, none, none, rfl, B3⟩ ?_ ?_⟩
    rotate_left
    · rintro σ G ⟨x2, x3, x4, x5, x6, x7, x8, x9, x10, rfl, B⟩
      exact hN _ _ B
    rintro turn σ G hturn ⟨x2, x3, x4, x5, x6, x7, x8, x9, x10, rfl, B⟩
    clear B3 s1 s2 s3 h2 kd kd2
    walk_at "rs"
    refine seq_op fun N1 hN1 => ?_
    walk_at "rs"
    refine ⟨b, c, rfl, B, fun v d H1 hl hw hd B1 K1 => hN1 _ _ ?_⟩
    clear hN1 N1
    have hok := (gd_facts (by decide) (line_gd hl hw)).1
    have hd1 : Dp K (hb H1 b) v d := by
      refine dp_same (fun x o e => ?_) hd
      obtain ⟨q1, q2⟩ := nw_some e
      obtain ⟨xb, eb⟩ := B.at
      have n : x ≠ b := fun z => by rw [z, eb] at q1; cases q1
      rw [hb_ne n]; exact q2
    refine seq_op fun N1 hN1 => ?_
    walk_at "rs"
    refine ⟨b, c, v, d, rfl, B1, hd1, hl, hok, by omega, fun H2 B2 K2 => ⟨true, rfl, iteFF (by decide) ?_⟩⟩
    refine ⟨3, rfl, by decide, by decide, fun D hD => lc_draw walk_range (fun _ v => v = .bl true) (fun _ _ _ _ h => h) hD B2 (by decide) (fun _ _ _ _ y => y.1) (fun _ _ => trivial) ?_ ?_⟩
    · intro x H3 K3 B3 Q2 hq
      walk_at "rs"
      exact ⟨c, B3, fun H4 B4 K4 => hq _ H4 B4 K4 rfl⟩
    intro H3 ys B3 K3 h3 hl3 hp3
    have eys : ys = (List.replicate 3 true).map V.bl := by
      match ys, hl3, hp3 with
      | [y0, y1, y2], _, hp => 
        rw [hp y0 (by simp), hp y1 (by simp), hp y2 (by simp)]
        rfl
    refine ⟨D, List.replicate 3 true, rfl, SqL.of (by rw [h3, eys]), ⟨_, rfl, iteFF (by decide) (hN1 _ _ ?_)⟩⟩
    clear hN1 N1
    have hd3 : Dp K (hb H3 b) v d := dp_same (hb_kp (Same.trans K2 K3)) hd1
    refine seq_op fun N1 hN1 => ?_
    walk_at "rs"
    refine ⟨d, dp_same hb_in hd3, hok, line_is hl, fun H4 s4 => hN1 _ _ ?_⟩
    clear hN1 N1
    have B4 := B3.same s4
    have hd4 : Dp K (hb H4 b) v d := dp_same (hb_kp (Kp.of s4)) hd3
    clear hd hd1 hd3 K1 K2 K3 s4 h3 eys hp3 hl3 hD
    refine cut_seq (fun σ H5 => ∃ x5 x6 x7 x8 x9, σ = [some (.ref a), some (.ref b), some (.int (0 + (turn : Int))), some v, some (.str (textD d)), x5, x6, x7, x8, x9, x10] ∧ Bag H5 b c ∧ Kp b H4 H5) (fun N1 hN1 => ?_) ?_
    · refine ⟨3, rfl, by decide, by decide, for_range (lo := 0) (n := (3 : Int).toNat) (fun i σ H5 => ∃ x5 x6 x7 x8 x9, σ = [some (.ref a), some (.ref b), some (.int (0 + (turn : Int))), some v, some (.str (textD d)), x5, x6, x7, x8, x9, x10] ∧ Bag H5 b c ∧ Kp b H4 H5) ⟨_, _, _, _, _, rfl, B4, Kp.refl _ _⟩ ?_ ?_⟩
      rotate_left
      · rintro σ H5 h
        exact hN1 _ _ h
      rintro kk σ H5 hkk ⟨x5, x6, x7, x8, x9, rfl, B5, K5⟩
      walk_at "rs"
      refine seq_op fun N2 hN2 => ?_
      walk_at "rs"
      refine ⟨_, _, ⟨rfl, rfl⟩, hN2 _ _ ?_⟩
      clear hN2 N2
      have hd5 : Dp K (hb H5 b) v d := dp_same (hb_kp K5) hd4
      have L0 : (textD d).length ≤ 14000 := by
        have j := join_len " " (wordsD d)
        have sz := words_size (words_ok hl)
        have l1 : (Str.ofString " ").length = 1 := by decide +kernel
        show (Txt.join (Str.ofString " ") (wordsD d)).length ≤ _
        rw [l1] at j
        omega
      refine cut_seq (fun σ G2 => ∃ z v2 d2 x8', σ = [some (.ref a), some (.ref b), some (.int (0 + (turn : Int))), some v, some (.str (textD d)), some (.int (0 + (kk : Int))), some (.str z), some v2, x8', x9, x10] ∧ z.length ≤ 56060 ∧ gd 510 10 d2 = true ∧ Dp K (hb G2 b) v2 d2 ∧ Bag G2 b c ∧ Kp b H4 G2) (fun N2 hN2 => ?_) ?_
      · refine ⟨_, rfl, b, c, 2, rfl, B5, by decide, by decide, fun r H6 r0 r1 B6 K6 => ⟨_, _, rfl, rfl, _, rfl, by omega, by omega, for_range (lo := 0) (n := (1 + r).toNat) (fun i σ G2 => ∃ z v2 d2 x8', σ = [some (.ref a), some (.ref b), some (.int (0 + (turn : Int))), some v, some (.str (textD d)), some (.int (0 + (kk : Int))), some (.str z), some v2, x8', x9, x10] ∧ z.length ≤ bnd i ∧ gd (500 + i) 10 d2 = true ∧ Dp K (hb G2 b) v2 d2 ∧ Bag G2 b c ∧ Kp b H4 G2)
          ⟨_, v, d, _, rfl, L0, line_gd hl hw, dp_same (hb_kp K6) hd5, B6, Same.trans K5 K6⟩ ?_ ?_⟩⟩
        · rintro st σ G2 hst ⟨z, v2, d2, x8', rfl, hz, hg2, hd2, BG, KG⟩
          have hst2 : st < 2 := by omega
          have bt := bnd_step hst2
          have b0 := bnd_top st
          walk_at "rs"
          have b1 : bnd st ≤ 28020 := by
            have : st = 0 ∨ st = 1 := by omega
            rcases this with rfl | rfl <;> decide
          refine ⟨b, c, z, rfl, BG, by omega, fun z2 G3 hz2 B3 K3 => ?_⟩
          refine ⟨b, c, v2, d2, 2, 500 + st, 10, rfl, B3, dp_same (hb_kp K3) hd2, hg2, by decide, by decide, by decide, by omega, by omega, fun v3 d3 G4 hg3 hd3 B4' K4' => ?_⟩
          exact ⟨_, _, ⟨rfl, rfl⟩, z2, v3, d3, _, ⟨rfl, rfl, rfl⟩, by omega, hg3, hd3, B4', Same.trans KG (Same.trans K3 K4')⟩
        · rintro σ G2 ⟨z, v2, d2, x8', rfl, hz, hg2, hd2, BG, KG⟩
          exact hN2 _ _ ⟨z, v2, d2, x8', rfl, Nat.le_trans hz (bnd_top _), gd_mono (by omega) (Nat.le_refl _) hg2, hd2, BG, KG⟩
      rintro σ G2 ⟨z, v2, d2, x8', rfl, hz, hg2, hd2, BG, KG⟩
      refine seq_op fun N2 hN2 => ?_
      walk_at "rs"
      refine ⟨by decide, z, _, ⟨rfl, rfl⟩, by omega, fun G3 s3 => hN2 _ _ ?_⟩
      clear hN2 N2
      have B3 := BG.same s3
      have K3 : Kp b H4 G3 := Same.trans KG (Kp.of s3)
      have hd3 := dp_same (hb_kp (Kp.of s3)) hd2
      have okd2 := (gd_facts (by decide) hg2).1
      refine seq_op fun N2 hN2 => ?_
      walk_at "rs"
      refine ⟨_, d2, rfl, dp_same hb_in hd3, okd2, fun G4 s4 => hN2 _ _ ?_⟩
      clear hN2 N2
      have B4' := B3.same s4
      have K4' : Kp b H4 G4 := Same.trans K3 (Kp.of s4)
      have hd4' := dp_same (hb_kp (Kp.of s4)) hd3
      walk_at "rs"
      refine ⟨_, d2, rfl, dp_same hb_in hd4', okd2, fun G5 s5 => ⟨_, _, .bool (isLineD d2), rfl, .bl _, .bl _, rfl, Nat.zero_le _, fun G6 s6 => ⟨true, rfl, iteFF (by decide) ?_⟩⟩⟩
      have S6 : Same G4 G6 := Same.trans s5 s6
      have B6 := B4'.same S6
      have K6 : Kp b H4 G6 := Same.trans K4' (Kp.of S6)
      have hd6 := dp_same (hb_kp (Kp.of S6)) hd4'
      refine ⟨isLineD d2, rfl, ite2 (fun e => ?_) (fun _ => ⟨_, _, _, _, _, ⟨rfl, rfl, rfl, rfl, rfl⟩, B6, K6⟩)⟩
      have l2 := line_of e
      exact ⟨b, c, v2, d2, rfl, B6, hd6, l2, okd2, line_words (m := 9) l2 (by decide) hg2, fun G7 B7 K7 => ⟨true, rfl, iteFF (by decide) ⟨_, _, _, _, _, ⟨rfl, rfl, rfl, rfl, rfl⟩, B7, Same.trans K6 K7⟩⟩⟩
    rintro σ H5 ⟨x5, x6, x7, x8, x9, rfl, B5, K5⟩
    have hd5 : Dp K (hb H5 b) v d := dp_same (hb_kp K5) hd4
    refine seq_op fun N1 hN1 => ?_
    walk_at "rs"
    refine ⟨by decide, fun p6 H6 s6 n6 h6 => ⟨b, c, 3, rfl, B5.same s6, by decide, by decide, fun r1 H7 r10 r11 B7 K7 => ⟨r1, rfl, ?_⟩⟩⟩
    obtain ⟨r1, rfl⟩ : ∃ n : Nat, r1 = (n : Int) := ⟨r1.toNat, by omega⟩
    have n6b : p6 ≠ b := new_ne B5 n6
    refine ⟨p6, _, _, rfl, rfl, SqT.of (K7.hd h6 n6b), by simp, by omega, by omega, by simp, fun p8 n8 => ?_⟩
    have t8 : ((11 : Int) + (r1 : Int)).toNat = 11 + r1 := by omega
    rw [t8]
    have s8 : Same H7 (L2.upd H7 p8 (.tup (List.replicate (11 + r1) [V.str "a"]).flatten)) := same_upd n8
    have h8 : (L2.upd H7 p8 (.tup (List.replicate (11 + r1) [V.str "a"]).flatten)) p8 = some (.tup (List.replicate (11 + r1) [V.str "a"]).flatten) := upd_same
    generalize L2.upd H7 p8 (.tup (List.replicate (11 + r1) [V.str "a"]).flatten) = H8 at s8 h8 ⊢
    have B8 := B7.same s8
    refine ⟨by decide, fun p9 H9 s9 n9 h9 => ⟨by decide, fun p10 H10 s10 n10 h10 => ⟨b, c, 4, rfl, B8.same (Same.trans s9 s10), by decide, by decide, fun r2 H11 r20 r21 B11 K11 => ⟨r2, rfl, ?_⟩⟩⟩⟩
    obtain ⟨r2, rfl⟩ : ∃ n : Nat, r2 = (n : Int) := ⟨r2.toNat, by omega⟩
    have n10b : p10 ≠ b := new_ne (B8.same s9) n10
    have n9b : p9 ≠ b := new_ne B8 n9
    have n8b : p8 ≠ b := new_ne B7 n8
    refine ⟨p10, _, _, rfl, rfl, SqT.of (K11.hd h10 n10b), by simp, by omega, by omega, by simp, fun p12 n12 => ?_⟩
    have t12 : ((398 : Int) + (r2 : Int)).toNat = 398 + r2 := by omega
    rw [t12]
    have s12 : Same H11 (L2.upd H11 p12 (.tup (List.replicate (398 + r2) [V.ref p9]).flatten)) := same_upd n12
    have h12 : (L2.upd H11 p12 (.tup (List.replicate (398 + r2) [V.ref p9]).flatten)) p12 = some (.tup (List.replicate (398 + r2) [V.ref p9]).flatten) := upd_same
    generalize L2.upd H11 p12 (.tup (List.replicate (398 + r2) [V.ref p9]).flatten) = H12 at s12 h12 ⊢
    refine ⟨by decide, fun p13 H13 s13 n13 h13 => hN1 _ _ ?_⟩
    clear hN1 N1
    have B13 := B11.same (Same.trans s12 s13)
    have K513 : Kp b H5 H13 := Same.trans (Kp.of s6) (Same.trans K7 (Same.trans (Kp.of (Same.trans s8 (Same.trans s9 s10))) (Same.trans K11 (Kp.of (Same.trans s12 s13)))))
    have hd13 : Dp K (hb H13 b) v d := dp_same (hb_kp K513) hd5
    have a8 : H13 p8 = some (.tup (List.replicate (11 + r1) [V.str "a"]).flatten) := Same.trans s12 s13 _ _ (K11.hd (Same.trans s9 s10 _ _ h8) n8b)
    have a9 : H13 p9 = some (.tup [.int 1, .int 2]) := Same.trans s12 s13 _ _ (K11.hd (s10 _ _ h9) n9b)
    obtain ⟨dW, hdW, okW⟩ : ∃ dW, Dp K H13 (.ref p13) dW ∧ okD dW = true := by
      refine ⟨.tuple [.str "table", .str "t", .tuple (List.replicate (11 + r1) [.str "a"]).flatten, .tuple (List.replicate (398 + r2) [frD (1, 2)]).flatten], ?_, ?_⟩
      · refine .tup (SqT.of h13) (.cons (.str _) (.cons (.str _) (.cons (.tup (SqT.of a8) (dpa_rep (.cons (.str _) .nil) _)) (.cons (.tup (SqT.of (s13 _ _ h12)) (dpa_rep (.cons ?_ .nil) _)) .nil))))
        exact .tup (SqT.of a9) (.cons (.int _) (.cons (.int _) .nil))
      · refine okOf (by simp) fun x hx => ?_
        simp only [List.mem_cons, List.mem_nil_iff, or_false] at hx
        rcases hx with rfl | rfl | rfl | rfl
        · exact (by decide +kernel : okD (.str "table") = true)
        · exact (by decide +kernel : okD (.str "t") = true)
        · refine okOf (by rw [rep_len]; omega) fun y hy => ?_
          rw [rep_mem hy]
          exact (by decide +kernel : okD (.str "a") = true)
        · refine okOf (by rw [rep_len]; omega) fun y hy => ?_
          rw [rep_mem hy]
          exact okD_of2 (pow_le (a := 4) (by decide) (by decide)) (pow_le (a := 4) (by decide) (by decide))
    clear h13 n13 s13 h12 s12 n12 h10 h9 n9 n10 s10 s9 h8 s8 n8 a8 a9 h6 n6 s6 B11 B8 B7 K7 K11 n6b n10b n9b n8b
    refine seq_op fun N1 hN1 => ?_
    walk_at "rs"
    have go : ∀ H14, Same H13 H14 → N1 [some (.ref a), some (.ref b), some (.int (0 + (turn : Int))), some v, some (.str (textD d)), x5, x6, x7, x8, x9, some (.ref p13)] H14 := by
      intro H14 s14
      refine hN1 _ _ ?_
      clear hN1 N1
      have B14 := B13.same s14
      have hd14 := dp_same s14 (dp_same hb_in hd13)
      walk_at "rs"
      obtain ⟨own, kd, ho, ew, ps, rfl⟩ := words_three hl
      obtain ⟨va, vxs, rfl, hva, hvx⟩ := dp_tup hd14
      refine ⟨va, rfl, _, .inr hva, fun l H15 s15 n15 h15 => ?_⟩
      have okl : okD (.list (.str kd :: .str own :: ps)) = true := hok
      refine ⟨_, .list (.str kd :: .str own :: ps), rfl, .lst (SqL.of h15) (dpa_same s15 hvx), okl, fun H16 s16 => ⟨_, _, .bool false, rfl, .bl _, .bl _, rfl, Nat.zero_le _, fun H17 s17 => ⟨true, rfl, iteFF (by decide) ?_⟩⟩⟩
      have S17 := Same.trans s15 (Same.trans s16 s17)
      refine ⟨.none, .non, rfl, fun z e => (by cases e), fun u1 H18 s18 hu1 => ?_⟩
      cases hu1
      refine ⟨_, dp_same (Same.trans S17 s18) hd14, hok, fun z e => (by cases e), fun u2 H19 s19 hu2 => ?_⟩
      cases hu2
      refine ⟨.str "", .str _, by decide +kernel, fun z e => by cases e; exact (by decide +kernel : ("" : Str).length ≤ 99999), fun u3 H20 s20 hu3 => ?_⟩
      rw [lineZ_empty] at hu3
      cases hu3
      have three : ∀ G, DpAll K G [.non, .non, .non] [.none, .none, .none] := fun G => .cons .non (.cons .non (.cons .non .nil))
      refine ⟨by decide, fun q H21 s21 n21 h21 => ⟨by decide, fun q2 H22 s22 n22 h22 => ⟨_, h22, by decide, by decide, (by decide : 1 * 3 ≤ sizeLine), fun q3 H23 s23 n23 h23 => ?_⟩⟩⟩
      have h23' : H23 q3 = some (.lst [.non, .non, .non]) := h23
      refine ⟨_, _, .list [.none, .none, .none], rfl, .lst (SqL.of (Same.trans s22 s23 _ _ h21)) (three _), .lst (SqL.of h23') (three _), rfl, (by decide : 1 ≤ 4), fun H24 s24 => ⟨true, rfl, iteFF (by decide) ?_⟩⟩
      have SE : Same H14 H24 := Same.trans S17 (Same.trans s18 (Same.trans s19 (Same.trans s20 (Same.trans s21 (Same.trans s22 (Same.trans s23 s24))))))
      exact ⟨_, _, _, _, _, _, _, _, _, ⟨rfl, rfl, rfl, rfl, rfl, rfl, rfl, rfl, rfl⟩, B14.same SE⟩
    refine ite2 (fun _ => ?_) (fun _ => go H13 (Same.refl _))
    exact ⟨_, dW, rfl, hdW, okW, fun H14 s14 => ⟨_, dW, rfl, dp_same s14 hdW, okW, fun H15 s15 => ⟨_, _, .bool (isLineD dW), rfl, .bl _, .bl _, rfl, Nat.zero_le _, fun H16 s16 => ⟨true, rfl, iteFF (by decide) (go H16 (Same.trans s14 (Same.trans s15 s16)))⟩⟩⟩⟩
end
end LK

set_option Elab.async false
set_option linter.all false
set_option maxRecDepth 100000
namespace LK
open PySem PySem.Spec PyProof.Rows L2
local macro_rules | `(tactic| walk_at "rs") => `(tactic| simp only [cxK, cxNK, tCallZ, tAsg, tOp, rI0, rS0, rB0, rI, rU, tUn, rEq, rNe, rIxL, rIxT, rIxS, rSetL, rSlLU, rSlS, rSlU, rCatL, rCatU, rRepL, rIn, tVar, tC, gName, gSub, tIfS, tTest, tB, tAnd, tOr, tNot, tNotV, tAndV, tOrV, tIf, tCall, tCons, tNil, tCB, tDrop, tRet, tRetN, tNext, tLstU, tTupU, tM0, tM1, tPar, tPar3, tAug, ipI, tBM, tBM0, rAppend, rPop, tBreak, tCont, tChain, tSl, tPart, tNoPart, L2.start, List.map, List.length_cons, List.length_nil, List.replicate, List.cons_append, List.nil_append, List.append_nil, List.getElem?_cons_zero, List.getElem?_cons_succ, List.set_cons_zero, List.set_cons_succ, Option.some.injEq, V.int.injEq, V.ref.injEq, V.str.injEq, V.bl.injEq, exists_eq_left', exists_eq_left, exists_and_left, decide_eq_true_eq, List.cons.injEq, and_true, true_and, scal, Bool.not_eq_true', decide_eq_false_iff_not, Nat.zero_add, Nat.reduceAdd, Nat.reduceSub, reduceCtorEq, false_and, exists_false, false_or, or_false, CPow, CMul, CDiv, Int.reduceToNat, ↓reduceIte, wipe, sw, List.nil_append, List.singleton_append])
local macro_rules | `(tactic| walk_at "st") => `(tactic| (refine seq_op fun N hN => ?_; walk_at "rs"))
local macro_rules | `(tactic| walk_at "sd") => `(tactic| first | assumption | decide | omega)
local macro_rules | `(tactic| walk_at "rd") => `(tactic| repeat (first
  | refine ⟨_, SqL.of (by assumption), ?_⟩ | refine ⟨_, SqL.of upd_same, ?_⟩ | refine ⟨_, .inl (SqL.of (by assumption)), ?_⟩ | refine ⟨_, (by assumption : _ = some (HO.lst _)), ?_⟩ | refine ⟨_, upd_same, ?_⟩
  | refine ⟨_, rfl, ?_⟩ | refine And.intro (by walk_at "sd") ?_))
/-! ### what the head tells, as Bools -/
def oexB (K : PySem.W.Frag) (C : Addr) : Bool := (match K.lookup C with
  | some ⟨.type c, _, .cls cd, sl⟩ => (match cd.mro, sl.toList with
    | .ref C' :: bm, [_, _, _, _, some (.builtin n), _] => decide (c = "type") && (decide (C' = C) && (decide (n = "ValueError.__new__") && (!cd.hasDel && (cd.hasDict && PySem.HandSPX.refsVE bm))))
    | _, _ => false)
  | _ => false) && (He.eqO (PySem.W.findIn K (.ref C) "__setattr__") (some (some (.builtin "object.__setattr__"))) && (decide (PySem.W.subIn K (.ref C) (.type "BaseException") = some true) && (decide (PySem.W.typeIn K (.ref C) = some (.type "type")) && PySem.W.keepIn K (.ref C))))
theorem oexB_ok {K : PySem.W.Frag} {C : Addr} (h : oexB K C = true) : OexC K C := by
  obtain ⟨h1, h2⟩ := He.ba h
  obtain ⟨h3, h4⟩ := He.ba h2
  obtain ⟨h5, h6⟩ := He.ba h4
  obtain ⟨h7, h8⟩ := He.ba h6
  refine ⟨?_, He.eqO_ok h3, of_decide_eq_true h5, of_decide_eq_true h7, h8⟩
  cases e : K.lookup C with
  | none => rw [e] at h1; cases h1
  | some ob =>
    obtain ⟨oc, od, dt, osl⟩ := ob
    rw [e] at h1
    cases oc with
    | type c =>
      cases dt with
      | cls cd =>
        obtain ⟨nm, bs, mro, ns, qn, hd, sn, sb, ab, col, del⟩ := cd
        dsimp only at h1
        split at h1
        · rename_i xl C' bm k0 k1 k2 k3 n k5 es
          obtain ⟨a1, b1⟩ := He.ba h1
          obtain ⟨a2, b2⟩ := He.ba b1
          obtain ⟨a3, b3⟩ := He.ba b2
          obtain ⟨a4, b4⟩ := He.ba b3
          obtain ⟨a5, a6⟩ := He.ba b4
          have ec : c = "type" := of_decide_eq_true a1
          have eC : C' = C := of_decide_eq_true a2
          have en : n = "ValueError.__new__" := of_decide_eq_true a3
          have ed : del = false := by cases del with
            | false => rfl
            | true => cases a4
          have eh : hd = true := a5
          have eo : osl = #[k0, k1, k2, k3, some (.builtin n), k5] := by
            have := congrArg List.toArray es
            simpa using this
          subst ec eC en ed eh eo
          exact ⟨nm, qn, ns, bs, bm, sn, sb, ab, col, od, k0, k1, k2, k3, k5, rfl, a6⟩
        · cases h1
      | _ => cases h1
    | _ => cases dt <;> cases h1
def bvC (K : PySem.W.Frag) : Addr := He.ga K "BadValue"
def bvI (K : PySem.W.Frag) : Addr := He.fAd K ("BadValue", some "__init__")
/-! ### the table of operands -/
def kvOf (e : DictEntry) : Option (Str × Str) := match e.key, e.val with
  | .str k _, .str v _ => some (k, v)
  | _, _ => none
theorem kvOf_some {e : DictEntry} {p : Str × Str} (h : kvOf e = some p) : (∃ t, e.key = .str p.1 t) ∧ ∃ t, e.val = .str p.2 t := by
  unfold kvOf at h
  split at h
  · rename_i k t v u e1 e2
    obtain rfl := Option.some.inj h
    exact ⟨⟨t, e1⟩, u, e2⟩
  · cases h
theorem find_kv (z : Str) : ∀ {l : List DictEntry} {tab : List (Str × Str)}, l.map kvOf = tab.map some → ∃ r : Option Value,
    (match l.find? (fun e => e.key.isStr z) with
      | some e => some (some e.val)
      | none => if l.any (fun e => e.refKey) then none else some none) = some r ∧ (match r with | none => tab.lookup z = none | some u => ∃ y, tab.lookup z = some y ∧ RelV (.str y) u)
  | [], [], _ => ⟨none, rfl, rfl⟩
  | [], p :: tab, h => by cases h
  | e :: l, [], h => by cases h
  | e :: l, p :: tab, h => by
    rw [List.map_cons, List.map_cons, List.cons.injEq] at h
    obtain ⟨⟨t, e1⟩, u, e2⟩ := kvOf_some h.1
    have hs : e.key.isStr z = (p.1 == z) := by rw [e1]; rfl
    have hr : e.refKey = false := by unfold DictEntry.refKey; rw [e1]
    obtain ⟨k, v⟩ := p
    by_cases hz : z = k
    · have ez : (k == z) = true := beq_iff_eq.mpr hz.symm
      refine ⟨some e.val, ?_, ?_⟩
      · rw [List.find?_cons, hs, ez]
      · exact ⟨v, by rw [List.lookup_cons, beq_iff_eq.mpr hz], u, e2⟩
    · have ez : (k == z) = false := beq_eq_false_iff_ne.mpr (Ne.symm hz)
      have ez2 : (z == k) = false := beq_eq_false_iff_ne.mpr hz
      obtain ⟨r, h1, h2⟩ := find_kv z h.2
      refine ⟨r, ?_, ?_⟩
      · rw [List.find?_cons, hs, ez, List.any_cons, hr, Bool.false_or]
        exact h1
      · rw [List.lookup_cons, ez2]
        exact h2
def opB (K : PySem.W.Frag) : Bool := match K.lookup (He.ga K "OPERANDS") with
  | some ⟨_, _, .dict es _, _⟩ => decide (es.toList.map kvOf = opsTab.map some)
  | _ => false
theorem opG {K : PySem.W.Frag} {es : Array DictEntry} {n : Nat} (l : K.lookup (He.ga K "OPERANDS") = some ⟨.type "dict", none, .dict es n, #[]⟩) (h : opB K = true) (z : Str) : ∃ r, PySem.W.nsIn K (He.ga K "OPERANDS") z = some r ∧ (match r with | none => opsOf z = none | some u => ∃ y, opsOf z = some y ∧ RelV (.str y) u) := by
  unfold opB at h
  rw [l] at h
  obtain ⟨r, h1, h2⟩ := find_kv z (of_decide_eq_true h)
  refine ⟨r, ?_, h2⟩
  unfold PySem.W.nsIn
  rw [l]
  exact h1
def tsL : List He.Tab := [(fun K => He.ga K "OPERANDS", opsTab.map (·.1))]
def exB (K : PySem.W.Frag) : Bool := oexB K (bvC K) && (He.eqO (PySem.W.nsIn K mainGlobals "gcd") (some (some (.builtin "math.gcd"))) && (He.tupB K "RESERVED" (keptL.map He.Dv.str) && (He.tupB K "GIVEN" [.str "sign", .str "place"] && (He.tupB K "RELATIONS" (relL.map He.Dv.str) && (He.tupB K "KINDS" (kindL.map He.Dv.str) && (opB K && (decide (PySem.W.typeIn K (.ref (bvI K)) = some (.type "function")) && He.eqO (PySem.W.findIn K (.ref (bvC K)) "__init__") (some (some (.ref (bvI K)))))))))))
def dInit : He.DefD := ⟨("BadValue", some "__init__"), "__init__", "BadValue.__init__", defArgs s_BadValue, defBody s_BadValue, defScope s_BadValue, [], []⟩
def D_is_number : He.DefD := ⟨("is_number", none), "is_number", "is_number", defArgs s_is_number, defBody s_is_number, defScope s_is_number, [], []⟩
def D_is_fraction : He.DefD := ⟨("is_fraction", none), "is_fraction", "is_fraction", defArgs s_is_fraction, defBody s_is_fraction, defScope s_is_fraction, [], []⟩
def D_is_value : He.DefD := ⟨("is_value", none), "is_value", "is_value", defArgs s_is_value, defBody s_is_value, defScope s_is_value, [], []⟩
def D_below : He.DefD := ⟨("below", none), "below", "below", defArgs s_below, defBody s_below, defScope s_below, [], []⟩
def D_value_text : He.DefD := ⟨("value_text", none), "value_text", "value_text", defArgs s_value_text, defBody s_value_text, defScope s_value_text, [], []⟩
def D_read_number : He.DefD := ⟨("read_number", none), "read_number", "read_number", defArgs s_read_number, defBody s_read_number, defScope s_read_number, [], []⟩
def D_read_value : He.DefD := ⟨("read_value", none), "read_value", "read_value", defArgs s_read_value, defBody s_read_value, defScope s_read_value, [], []⟩
def D_is_word_name : He.DefD := ⟨("is_word_name", none), "is_word_name", "is_word_name", defArgs s_is_word_name, defBody s_is_word_name, defScope s_is_word_name, [], []⟩
def D_is_own_name : He.DefD := ⟨("is_own_name", none), "is_own_name", "is_own_name", defArgs s_is_own_name, defBody s_is_own_name, defScope s_is_own_name, [], []⟩
def D_is_name : He.DefD := ⟨("is_name", none), "is_name", "is_name", defArgs s_is_name, defBody s_is_name, defScope s_is_name, [], []⟩
def D_is_integer_word : He.DefD := ⟨("is_integer_word", none), "is_integer_word", "is_integer_word", defArgs s_is_integer_word, defBody s_is_integer_word, defScope s_is_integer_word, [], []⟩
def D_operands_behind : He.DefD := ⟨("operands_behind", none), "operands_behind", "operands_behind", defArgs s_operands_behind, defBody s_operands_behind, defScope s_operands_behind, [], []⟩
def D_is_expression : He.DefD := ⟨("is_expression", none), "is_expression", "is_expression", defArgs s_is_expression, defBody s_is_expression, defScope s_is_expression, [], []⟩
def D_names_in : He.DefD := ⟨("names_in", none), "names_in", "names_in", defArgs s_names_in, defBody s_names_in, defScope s_names_in, [], []⟩
def D_compared : He.DefD := ⟨("compared", none), "compared", "compared", defArgs s_compared, defBody s_compared, defScope s_compared, [], []⟩
def D_is_relation : He.DefD := ⟨("is_relation", none), "is_relation", "is_relation", defArgs s_is_relation, defBody s_is_relation, defScope s_is_relation, [], []⟩
def D_is_pair : He.DefD := ⟨("is_pair", none), "is_pair", "is_pair", defArgs s_is_pair, defBody s_is_pair, defScope s_is_pair, [], []⟩
def D_are_names : He.DefD := ⟨("are_names", none), "are_names", "are_names", defArgs s_are_names, defBody s_are_names, defScope s_are_names, [], []⟩
def D_are_values : He.DefD := ⟨("are_values", none), "are_values", "are_values", defArgs s_are_values, defBody s_are_values, defScope s_are_values, [], []⟩
def D_are_asked : He.DefD := ⟨("are_asked", none), "are_asked", "are_asked", defArgs s_are_asked, defBody s_are_asked, defScope s_are_asked, [], []⟩
def D_is_line : He.DefD := ⟨("is_line", none), "is_line", "is_line", defArgs s_is_line, defBody s_is_line, defScope s_is_line, [], []⟩
def D_is_look : He.DefD := ⟨("is_look", none), "is_look", "is_look", defArgs s_is_look, defBody s_is_look, defScope s_is_look, [], []⟩
def D_asked : He.DefD := ⟨("asked", none), "asked", "asked", defArgs s_asked, defBody s_asked, defScope s_asked, [], []⟩
def D_line_names : He.DefD := ⟨("line_names", none), "line_names", "line_names", defArgs s_line_names, defBody s_line_names, defScope s_line_names, [], []⟩
def D_asked_words : He.DefD := ⟨("asked_words", none), "asked_words", "asked_words", defArgs s_asked_words, defBody s_asked_words, defScope s_asked_words, [], []⟩
def D_own_words : He.DefD := ⟨("own_words", none), "own_words", "own_words", defArgs s_own_words, defBody s_own_words, defScope s_own_words, [], []⟩
def D_line_text : He.DefD := ⟨("line_text", none), "line_text", "line_text", defArgs s_line_text, defBody s_line_text, defScope s_line_text, [], []⟩
def D_read_pair : He.DefD := ⟨("read_pair", none), "read_pair", "read_pair", defArgs s_read_pair, defBody s_read_pair, defScope s_read_pair, [], []⟩
def D_read_asked : He.DefD := ⟨("read_asked", none), "read_asked", "read_asked", defArgs s_read_asked, defBody s_read_asked, defScope s_read_asked, [], []⟩
def D_line_of_words : He.DefD := ⟨("line_of_words", none), "line_of_words", "line_of_words", defArgs s_line_of_words, defBody s_line_of_words, defScope s_line_of_words, [], []⟩
def D_read_line : He.DefD := ⟨("read_line", none), "read_line", "read_line", defArgs s_read_line, defBody s_read_line, defScope s_read_line, [], []⟩
def D_related : He.DefD := ⟨("related", none), "related", "related", defArgs s_related, defBody s_related, defScope s_related, [], []⟩
def D__law_bag : He.DefD := ⟨("_law_bag", none), "_law_bag", "_law_bag", defArgs s__law_bag, defBody s__law_bag, defScope s__law_bag, [], []⟩
def D__law_draw : He.DefD := ⟨("_law_draw", none), "_law_draw", "_law_draw", defArgs s__law_draw, defBody s__law_draw, defScope s__law_draw, [], []⟩
def D__law_of : He.DefD := ⟨("_law_of", none), "_law_of", "_law_of", defArgs s__law_of, defBody s__law_of, defScope s__law_of, [], []⟩
def D__law_like : He.DefD := ⟨("_law_like", none), "_law_like", "_law_like", defArgs s__law_like, defBody s__law_like, defScope s__law_like, [], []⟩
def D__law_low : He.DefD := ⟨("_law_low", none), "_law_low", "_law_low", defArgs s__law_low, defBody s__law_low, defScope s__law_low, [], []⟩
def D__law_order : He.DefD := ⟨("_law_order", none), "_law_order", "_law_order", defArgs s__law_order, defBody s__law_order, defScope s__law_order, [], []⟩
def D__law_holds : He.DefD := ⟨("_law_holds", none), "_law_holds", "_law_holds", defArgs s__law_holds, defBody s__law_holds, defScope s__law_holds, [], []⟩
def D__law_prefix : He.DefD := ⟨("_law_prefix", none), "_law_prefix", "_law_prefix", defArgs s__law_prefix, defBody s__law_prefix, defScope s__law_prefix, [], []⟩
def D__law_once : He.DefD := ⟨("_law_once", none), "_law_once", "_law_once", defArgs s__law_once, defBody s__law_once, defScope s__law_once, [], []⟩
def D__law_named : He.DefD := ⟨("_law_named", none), "_law_named", "_law_named", defArgs s__law_named, defBody s__law_named, defScope s__law_named, [], []⟩
def D__law_trio : He.DefD := ⟨("_law_trio", none), "_law_trio", "_law_trio", defArgs s__law_trio, defBody s__law_trio, defScope s__law_trio, [], []⟩
def D__law_uses : He.DefD := ⟨("_law_uses", none), "_law_uses", "_law_uses", defArgs s__law_uses, defBody s__law_uses, defScope s__law_uses, [], []⟩
def D__law_kept : He.DefD := ⟨("_law_kept", none), "_law_kept", "_law_kept", defArgs s__law_kept, defBody s__law_kept, defScope s__law_kept, [], []⟩
def D__law_whole : He.DefD := ⟨("_law_whole", none), "_law_whole", "_law_whole", defArgs s__law_whole, defBody s__law_whole, defScope s__law_whole, [], []⟩
def D__law_is_worth : He.DefD := ⟨("_law_is_worth", none), "_law_is_worth", "_law_is_worth", defArgs s__law_is_worth, defBody s__law_is_worth, defScope s__law_is_worth, [], []⟩
def D__law_is_word : He.DefD := ⟨("_law_is_word", none), "_law_is_word", "_law_is_word", defArgs s__law_is_word, defBody s__law_is_word, defScope s__law_is_word, [], []⟩
def D__law_is_own : He.DefD := ⟨("_law_is_own", none), "_law_is_own", "_law_is_own", defArgs s__law_is_own, defBody s__law_is_own, defScope s__law_is_own, [], []⟩
def D__law_is_name : He.DefD := ⟨("_law_is_name", none), "_law_is_name", "_law_is_name", defArgs s__law_is_name, defBody s__law_is_name, defScope s__law_is_name, [], []⟩
def D__law_needs : He.DefD := ⟨("_law_needs", none), "_law_needs", "_law_needs", defArgs s__law_needs, defBody s__law_needs, defScope s__law_needs, [], []⟩
def D__law_is_prefix : He.DefD := ⟨("_law_is_prefix", none), "_law_is_prefix", "_law_is_prefix", defArgs s__law_is_prefix, defBody s__law_is_prefix, defScope s__law_is_prefix, [], []⟩
def D__law_is_mark : He.DefD := ⟨("_law_is_mark", none), "_law_is_mark", "_law_is_mark", defArgs s__law_is_mark, defBody s__law_is_mark, defScope s__law_is_mark, [], []⟩
def D__law_is_row : He.DefD := ⟨("_law_is_row", none), "_law_is_row", "_law_is_row", defArgs s__law_is_row, defBody s__law_is_row, defScope s__law_is_row, [], []⟩
def D__law_short : He.DefD := ⟨("_law_short", none), "_law_short", "_law_short", defArgs s__law_short, defBody s__law_short, defScope s__law_short, [], []⟩
def D__law_written : He.DefD := ⟨("_law_written", none), "_law_written", "_law_written", defArgs s__law_written, defBody s__law_written, defScope s__law_written, [], []⟩
def D__law_read_short : He.DefD := ⟨("_law_read_short", none), "_law_read_short", "_law_read_short", defArgs s__law_read_short, defBody s__law_read_short, defScope s__law_read_short, [], []⟩
def D__law_read_pair : He.DefD := ⟨("_law_read_pair", none), "_law_read_pair", "_law_read_pair", defArgs s__law_read_pair, defBody s__law_read_pair, defScope s__law_read_pair, [], []⟩
def D__law_read_row : He.DefD := ⟨("_law_read_row", none), "_law_read_row", "_law_read_row", defArgs s__law_read_row, defBody s__law_read_row, defScope s__law_read_row, [], []⟩
def D__law_read_last : He.DefD := ⟨("_law_read_last", none), "_law_read_last", "_law_read_last", defArgs s__law_read_last, defBody s__law_read_last, defScope s__law_read_last, [], []⟩
def D__law_bend : He.DefD := ⟨("_law_bend", none), "_law_bend", "_law_bend", defArgs s__law_bend, defBody s__law_bend, defScope s__law_bend, [], []⟩
def D__law_odd : He.DefD := ⟨("_law_odd", none), "_law_odd", "_law_odd", defArgs s__law_odd, defBody s__law_odd, defScope s__law_odd, [], []⟩
def D__law_name : He.DefD := ⟨("_law_name", none), "_law_name", "_law_name", defArgs s__law_name, defBody s__law_name, defScope s__law_name, [], []⟩
def D__law_value : He.DefD := ⟨("_law_value", none), "_law_value", "_law_value", defArgs s__law_value, defBody s__law_value, defScope s__law_value, [], []⟩
def D__law_pairs : He.DefD := ⟨("_law_pairs", none), "_law_pairs", "_law_pairs", defArgs s__law_pairs, defBody s__law_pairs, defScope s__law_pairs, [], []⟩
def D__law_row : He.DefD := ⟨("_law_row", none), "_law_row", "_law_row", defArgs s__law_row, defBody s__law_row, defScope s__law_row, [], []⟩
def D__law_bent_text : He.DefD := ⟨("_law_bent_text", none), "_law_bent_text", "_law_bent_text", defArgs s__law_bent_text, defBody s__law_bent_text, defScope s__law_bent_text, [], []⟩
def D__law_told : He.DefD := ⟨("_law_told", none), "_law_told", "_law_told", defArgs s__law_told, defBody s__law_told, defScope s__law_told, [], []⟩
def D__law_good : He.DefD := ⟨("_law_good", none), "_law_good", "_law_good", defArgs s__law_good, defBody s__law_good, defScope s__law_good, [], []⟩
def D__law_compared : He.DefD := ⟨("_law_compared", none), "_law_compared", "_law_compared", defArgs s__law_compared, defBody s__law_compared, defScope s__law_compared, [], []⟩
def D_law : He.DefD := ⟨("law", none), "law", "law", defArgs s_law, defBody s_law, defScope s_law, [], []⟩
def fnL : List He.DefD := [dInit, D_is_number, D_is_fraction, D_is_value, D_below, D_value_text, D_read_number, D_read_value, D_is_word_name, D_is_own_name, D_is_name, D_is_integer_word, D_operands_behind, D_is_expression, D_names_in, D_compared, D_is_relation, D_is_pair, D_are_names, D_are_values, D_are_asked, D_is_line, D_is_look, D_asked, D_line_names, D_asked_words, D_own_words, D_line_text, D_read_pair, D_read_asked, D_line_of_words, D_read_line, D_related, D__law_bag, D__law_draw, D__law_of, D__law_like, D__law_low, D__law_order, D__law_holds, D__law_prefix, D__law_once, D__law_named, D__law_trio, D__law_uses, D__law_kept, D__law_whole, D__law_is_worth, D__law_is_word, D__law_is_own, D__law_is_name, D__law_needs, D__law_is_prefix, D__law_is_mark, D__law_is_row, D__law_short, D__law_written, D__law_read_short, D__law_read_pair, D__law_read_row, D__law_read_last, D__law_bend, D__law_odd, D__law_name, D__law_value, D__law_pairs, D__law_row, D__law_bent_text, D__law_told, D__law_good, D__law_compared, D_law]
def faL : List He.Fa := [.free "len", .free "int", .free "str", .free "list", .free "tuple", .free "bool", .free "dict", .free "isinstance", .free "all", .free "range", .free "zip", .free "abs", .free "reversed", .glo "RESERVED", .glo "GIVEN", .glo "RELATIONS", .glo "KINDS", .glo "OPERANDS", .glo "BadValue", .glo "is_number", .glo "is_fraction", .glo "is_value", .glo "below", .glo "value_text", .glo "read_number", .glo "read_value", .glo "is_word_name", .glo "is_own_name", .glo "is_name", .glo "is_integer_word", .glo "operands_behind", .glo "is_expression", .glo "names_in", .glo "compared", .glo "is_relation", .glo "is_pair", .glo "are_names", .glo "are_values", .glo "are_asked", .glo "is_line", .glo "is_look", .glo "asked", .glo "line_names", .glo "asked_words", .glo "own_words", .glo "line_text", .glo "read_pair", .glo "read_asked", .glo "line_of_words", .glo "read_line", .glo "related", .glo "_law_bag", .glo "_law_draw", .glo "_law_of", .glo "_law_like", .glo "_law_low", .glo "_law_order", .glo "_law_holds", .glo "_law_prefix", .glo "_law_once", .glo "_law_named", .glo "_law_trio", .glo "_law_uses", .glo "_law_kept", .glo "_law_whole", .glo "_law_is_worth", .glo "_law_is_word", .glo "_law_is_own", .glo "_law_is_name", .glo "_law_needs", .glo "_law_is_prefix", .glo "_law_is_mark", .glo "_law_is_row", .glo "_law_short", .glo "_law_written", .glo "_law_read_short", .glo "_law_read_pair", .glo "_law_read_row", .glo "_law_read_last", .glo "_law_bend", .glo "_law_odd", .glo "_law_name", .glo "_law_value", .glo "_law_pairs", .glo "_law_row", .glo "_law_bent_text", .glo "_law_told", .glo "_law_good", .glo "_law_compared", .glo "law", .str "FIGURES" FIGs, .str "LETTERS" LETs, .int "MOST_WORDS" 30, .int "MOST_NAMES" 12, .int "MOST_VALUES" 400, .noat "BadValue" "value", .noat "BadValue" "code"]
def tfL : List He.Defn := []
theorem fun_ofD {K : PySem.W.Frag} {x q : Str} {st : Stmt} {f : Addr} {fd : FuncData} {kws : List (Str × V)} (F : FunD K x q (defArgs st) (defBody st) (defScope st) [] kws f fd) : Fun K x q st f fd := by
  obtain ⟨oc, od, dV, kV, doc, pm, an, cdv, ct, osl, rfl, lk, hcd, hD, _⟩ := F.ex
  rcases hD with ⟨_, rfl⟩ | ⟨e, _⟩
  · exact ⟨⟨oc, od, kV, doc, pm, an, cdv, ct, osl, rfl, lk, hcd⟩, F.kp⟩
  · exact absurd rfl e
theorem code_ofD {K : PySem.W.Frag} {x q : Str} {ps : Arguments} {b : List Stmt} {sc : Scope} {dv : List V} {kw : List (Str × V)} {p : He.Defn} {fd : FuncData} (F : FunD K x q ps b sc dv kw (He.fAd K p) fd) : fd.code = .ref (He.codeOf K p) := by
  obtain ⟨oc, od, dV, kV, doc, pm, an, cdv, ct, osl, rfl, lk, hcd, _, _⟩ := F.ex
  obtain ⟨c, rfl⟩ := He.codeIn_ref hcd
  rw [He.codeOf_eq lk rfl]
/-- a def with defaults called by keywords alone -/
theorem kb_ofD {K : PySem.W.Frag} {x qual : Str} {params : Arguments} {body : List Stmt} {scope : Scope} {dvs : List V} {kws : List (Str × V)} {f : Addr} {fd : FuncData} {ps : List Str} (F : FunD K x qual params body scope dvs kws f fd) (ks : List Str) (g : {α : Type} → List α → List α → List α) (hd : dvs ≠ [])
    (hrel : ∀ {ds zs : List V} {its ws : List Value}, Vals ds its → Vals zs ws → Vals (g ds zs) (g its ws))
    (h : ∀ (T : Addr) (kV doc pm : Value) (an : Option Addr) (cdv ct : Value) (its ws : List Value), its.length = dvs.length → ws.length = ks.length →
      ∃ k, bindArgs (PySem.W.fnOf x qual params body scope (.ref T) kV doc pm an cdv ct) ⟨[], ks.zip ws⟩ = seqItems? (.ref T) >>= k ∧ k (some its.toArray) = pure (ps.zip (g its ws))) :
    ∃ its : List Value, its.length = dvs.length ∧ KBn K fd ps 0 ks (fun _ ws => g its ws) (fun _ zs => g dvs zs) := by
  obtain ⟨oc, od, dV, kV, doc, pm, an, cdv, ct, osl, rfl, lk, hcd, hD, hK⟩ := F.ex
  rcases hD with ⟨e, _⟩ | ⟨_, T, ob, its, m, rfl, lT, oT, rT⟩
  · exact absurd e hd
  · have l1 : its.length = dvs.length := rT.length.symm
    refine ⟨its, l1, ⟨fun s us ws X hu hw => ?_, fun _ rz => hrel rT rz⟩⟩
    obtain rfl : us = [] := List.eq_nil_of_length_eq_zero hu
    obtain ⟨k, e1, e2⟩ := h T kV doc pm an cdv ct its ws l1 hw
    refine BindsTo.of_looks fun M => ?_
    rw [e1]
    exact looks_items X lT oT (.of_pure e2)
set_option maxHeartbeats 0 in
theorem facts {P : Program} {w : World} {K : PySem.W.Frag} {h : Heap} {mg : Str → Option Value} {f : Addr} (X : K.In h) (G : h.Ns mainGlobals mg) (hfa : mg ("law" : Str) = some (.ref f)) (c : He.SaysX faL fnL tsL tfL exB w h K) :
    ∃ fd : FuncData, (∀ (s : Shared) (u : Value), BindsTo s fd ⟨[u], []⟩ [("script", u)]) ∧ ∀ base : Heap, K.In base → base.Ns mainGlobals mg → FnOk P w K mg base CX0 12 f fd ["script"] (sp_law K) := by
  have d := c.t.d
  obtain ⟨e1, ex⟩ := He.ba c.more
  obtain ⟨e2, ex⟩ := He.ba ex
  obtain ⟨e3, ex⟩ := He.ba ex
  obtain ⟨e4, ex⟩ := He.ba ex
  obtain ⟨e5, ex⟩ := He.ba ex
  obtain ⟨e6, ex⟩ := He.ba ex
  obtain ⟨e7, ex⟩ := He.ba ex
  obtain ⟨e8, e9⟩ := He.ba ex
  obtain ⟨esO, nO, hO⟩ := c.t.tab 0 (t := (fun K => He.ga K "OPERANDS", opsTab.map (·.1))) rfl
  obtain ⟨d_init, FD_init⟩ := d.def_ 0 (d := dInit) rfl
  obtain ⟨d_is_number, FD_is_number⟩ := d.def_ 1 (d := D_is_number) rfl
  obtain ⟨d_is_fraction, FD_is_fraction⟩ := d.def_ 2 (d := D_is_fraction) rfl
  obtain ⟨d_is_value, FD_is_value⟩ := d.def_ 3 (d := D_is_value) rfl
  obtain ⟨d_below, FD_below⟩ := d.def_ 4 (d := D_below) rfl
  obtain ⟨d_value_text, FD_value_text⟩ := d.def_ 5 (d := D_value_text) rfl
  obtain ⟨d_read_number, FD_read_number⟩ := d.def_ 6 (d := D_read_number) rfl
  obtain ⟨d_read_value, FD_read_value⟩ := d.def_ 7 (d := D_read_value) rfl
  obtain ⟨d_is_word_name, FD_is_word_name⟩ := d.def_ 8 (d := D_is_word_name) rfl
  obtain ⟨d_is_own_name, FD_is_own_name⟩ := d.def_ 9 (d := D_is_own_name) rfl
  obtain ⟨d_is_name, FD_is_name⟩ := d.def_ 10 (d := D_is_name) rfl
  obtain ⟨d_is_integer_word, FD_is_integer_word⟩ := d.def_ 11 (d := D_is_integer_word) rfl
  obtain ⟨d_operands_behind, FD_operands_behind⟩ := d.def_ 12 (d := D_operands_behind) rfl
  obtain ⟨d_is_expression, FD_is_expression⟩ := d.def_ 13 (d := D_is_expression) rfl
  obtain ⟨d_names_in, FD_names_in⟩ := d.def_ 14 (d := D_names_in) rfl
  obtain ⟨d_compared, FD_compared⟩ := d.def_ 15 (d := D_compared) rfl
  obtain ⟨d_is_relation, FD_is_relation⟩ := d.def_ 16 (d := D_is_relation) rfl
  obtain ⟨d_is_pair, FD_is_pair⟩ := d.def_ 17 (d := D_is_pair) rfl
  obtain ⟨d_are_names, FD_are_names⟩ := d.def_ 18 (d := D_are_names) rfl
  obtain ⟨d_are_values, FD_are_values⟩ := d.def_ 19 (d := D_are_values) rfl
  obtain ⟨d_are_asked, FD_are_asked⟩ := d.def_ 20 (d := D_are_asked) rfl
  obtain ⟨d_is_line, FD_is_line⟩ := d.def_ 21 (d := D_is_line) rfl
  obtain ⟨d_is_look, FD_is_look⟩ := d.def_ 22 (d := D_is_look) rfl
  obtain ⟨d_asked, FD_asked⟩ := d.def_ 23 (d := D_asked) rfl
  obtain ⟨d_line_names, FD_line_names⟩ := d.def_ 24 (d := D_line_names) rfl
  obtain ⟨d_asked_words, FD_asked_words⟩ := d.def_ 25 (d := D_asked_words) rfl
  obtain ⟨d_own_words, FD_own_words⟩ := d.def_ 26 (d := D_own_words) rfl
  obtain ⟨d_line_text, FD_line_text⟩ := d.def_ 27 (d := D_line_text) rfl
  obtain ⟨d_read_pair, FD_read_pair⟩ := d.def_ 28 (d := D_read_pair) rfl
  obtain ⟨d_read_asked, FD_read_asked⟩ := d.def_ 29 (d := D_read_asked) rfl
  obtain ⟨d_line_of_words, FD_line_of_words⟩ := d.def_ 30 (d := D_line_of_words) rfl
  obtain ⟨d_read_line, FD_read_line⟩ := d.def_ 31 (d := D_read_line) rfl
  obtain ⟨d_related, FD_related⟩ := d.def_ 32 (d := D_related) rfl
  obtain ⟨d__law_bag, FD__law_bag⟩ := d.def_ 33 (d := D__law_bag) rfl
  obtain ⟨d__law_draw, FD__law_draw⟩ := d.def_ 34 (d := D__law_draw) rfl
  obtain ⟨d__law_of, FD__law_of⟩ := d.def_ 35 (d := D__law_of) rfl
  obtain ⟨d__law_like, FD__law_like⟩ := d.def_ 36 (d := D__law_like) rfl
  obtain ⟨d__law_low, FD__law_low⟩ := d.def_ 37 (d := D__law_low) rfl
  obtain ⟨d__law_order, FD__law_order⟩ := d.def_ 38 (d := D__law_order) rfl
  obtain ⟨d__law_holds, FD__law_holds⟩ := d.def_ 39 (d := D__law_holds) rfl
  obtain ⟨d__law_prefix, FD__law_prefix⟩ := d.def_ 40 (d := D__law_prefix) rfl
  obtain ⟨d__law_once, FD__law_once⟩ := d.def_ 41 (d := D__law_once) rfl
  obtain ⟨d__law_named, FD__law_named⟩ := d.def_ 42 (d := D__law_named) rfl
  obtain ⟨d__law_trio, FD__law_trio⟩ := d.def_ 43 (d := D__law_trio) rfl
  obtain ⟨d__law_uses, FD__law_uses⟩ := d.def_ 44 (d := D__law_uses) rfl
  obtain ⟨d__law_kept, FD__law_kept⟩ := d.def_ 45 (d := D__law_kept) rfl
  obtain ⟨d__law_whole, FD__law_whole⟩ := d.def_ 46 (d := D__law_whole) rfl
  obtain ⟨d__law_is_worth, FD__law_is_worth⟩ := d.def_ 47 (d := D__law_is_worth) rfl
  obtain ⟨d__law_is_word, FD__law_is_word⟩ := d.def_ 48 (d := D__law_is_word) rfl
  obtain ⟨d__law_is_own, FD__law_is_own⟩ := d.def_ 49 (d := D__law_is_own) rfl
  obtain ⟨d__law_is_name, FD__law_is_name⟩ := d.def_ 50 (d := D__law_is_name) rfl
  obtain ⟨d__law_needs, FD__law_needs⟩ := d.def_ 51 (d := D__law_needs) rfl
  obtain ⟨d__law_is_prefix, FD__law_is_prefix⟩ := d.def_ 52 (d := D__law_is_prefix) rfl
  obtain ⟨d__law_is_mark, FD__law_is_mark⟩ := d.def_ 53 (d := D__law_is_mark) rfl
  obtain ⟨d__law_is_row, FD__law_is_row⟩ := d.def_ 54 (d := D__law_is_row) rfl
  obtain ⟨d__law_short, FD__law_short⟩ := d.def_ 55 (d := D__law_short) rfl
  obtain ⟨d__law_written, FD__law_written⟩ := d.def_ 56 (d := D__law_written) rfl
  obtain ⟨d__law_read_short, FD__law_read_short⟩ := d.def_ 57 (d := D__law_read_short) rfl
  obtain ⟨d__law_read_pair, FD__law_read_pair⟩ := d.def_ 58 (d := D__law_read_pair) rfl
  obtain ⟨d__law_read_row, FD__law_read_row⟩ := d.def_ 59 (d := D__law_read_row) rfl
  obtain ⟨d__law_read_last, FD__law_read_last⟩ := d.def_ 60 (d := D__law_read_last) rfl
  obtain ⟨d__law_bend, FD__law_bend⟩ := d.def_ 61 (d := D__law_bend) rfl
  obtain ⟨d__law_odd, FD__law_odd⟩ := d.def_ 62 (d := D__law_odd) rfl
  obtain ⟨d__law_name, FD__law_name⟩ := d.def_ 63 (d := D__law_name) rfl
  obtain ⟨d__law_value, FD__law_value⟩ := d.def_ 64 (d := D__law_value) rfl
  obtain ⟨d__law_pairs, FD__law_pairs⟩ := d.def_ 65 (d := D__law_pairs) rfl
  obtain ⟨d__law_row, FD__law_row⟩ := d.def_ 66 (d := D__law_row) rfl
  obtain ⟨d__law_bent_text, FD__law_bent_text⟩ := d.def_ 67 (d := D__law_bent_text) rfl
  obtain ⟨d__law_told, FD__law_told⟩ := d.def_ 68 (d := D__law_told) rfl
  obtain ⟨d__law_good, FD__law_good⟩ := d.def_ 69 (d := D__law_good) rfl
  obtain ⟨d__law_compared, FD__law_compared⟩ := d.def_ 70 (d := D__law_compared) rfl
  obtain ⟨d_law, FD_law⟩ := d.def_ 71 (d := D_law) rfl
  have F_init : Fun K "__init__" "BadValue.__init__" s_BadValue (bvI K) d_init := fun_ofD FD_init
  have F_is_number : Fun K "is_number" "is_number" s_is_number (He.ga K "is_number") d_is_number := fun_ofD FD_is_number
  have F_is_fraction : Fun K "is_fraction" "is_fraction" s_is_fraction (He.ga K "is_fraction") d_is_fraction := fun_ofD FD_is_fraction
  have F_is_value : Fun K "is_value" "is_value" s_is_value (He.ga K "is_value") d_is_value := fun_ofD FD_is_value
  have F_below : Fun K "below" "below" s_below (He.ga K "below") d_below := fun_ofD FD_below
  have F_value_text : Fun K "value_text" "value_text" s_value_text (He.ga K "value_text") d_value_text := fun_ofD FD_value_text
  have F_read_number : Fun K "read_number" "read_number" s_read_number (He.ga K "read_number") d_read_number := fun_ofD FD_read_number
  have F_read_value : Fun K "read_value" "read_value" s_read_value (He.ga K "read_value") d_read_value := fun_ofD FD_read_value
  have F_is_word_name : Fun K "is_word_name" "is_word_name" s_is_word_name (He.ga K "is_word_name") d_is_word_name := fun_ofD FD_is_word_name
  have F_is_own_name : Fun K "is_own_name" "is_own_name" s_is_own_name (He.ga K "is_own_name") d_is_own_name := fun_ofD FD_is_own_name
  have F_is_name : Fun K "is_name" "is_name" s_is_name (He.ga K "is_name") d_is_name := fun_ofD FD_is_name
  have F_is_integer_word : Fun K "is_integer_word" "is_integer_word" s_is_integer_word (He.ga K "is_integer_word") d_is_integer_word := fun_ofD FD_is_integer_word
  have F_operands_behind : Fun K "operands_behind" "operands_behind" s_operands_behind (He.ga K "operands_behind") d_operands_behind := fun_ofD FD_operands_behind
  have F_is_expression : Fun K "is_expression" "is_expression" s_is_expression (He.ga K "is_expression") d_is_expression := fun_ofD FD_is_expression
  have F_names_in : Fun K "names_in" "names_in" s_names_in (He.ga K "names_in") d_names_in := fun_ofD FD_names_in
  have F_compared : Fun K "compared" "compared" s_compared (He.ga K "compared") d_compared := fun_ofD FD_compared
  have F_is_relation : Fun K "is_relation" "is_relation" s_is_relation (He.ga K "is_relation") d_is_relation := fun_ofD FD_is_relation
  have F_is_pair : Fun K "is_pair" "is_pair" s_is_pair (He.ga K "is_pair") d_is_pair := fun_ofD FD_is_pair
  have F_are_names : Fun K "are_names" "are_names" s_are_names (He.ga K "are_names") d_are_names := fun_ofD FD_are_names
  have F_are_values : Fun K "are_values" "are_values" s_are_values (He.ga K "are_values") d_are_values := fun_ofD FD_are_values
  have F_are_asked : Fun K "are_asked" "are_asked" s_are_asked (He.ga K "are_asked") d_are_asked := fun_ofD FD_are_asked
  have F_is_line : Fun K "is_line" "is_line" s_is_line (He.ga K "is_line") d_is_line := fun_ofD FD_is_line
  have F_is_look : Fun K "is_look" "is_look" s_is_look (He.ga K "is_look") d_is_look := fun_ofD FD_is_look
  have F_asked : Fun K "asked" "asked" s_asked (He.ga K "asked") d_asked := fun_ofD FD_asked
  have F_line_names : Fun K "line_names" "line_names" s_line_names (He.ga K "line_names") d_line_names := fun_ofD FD_line_names
  have F_asked_words : Fun K "asked_words" "asked_words" s_asked_words (He.ga K "asked_words") d_asked_words := fun_ofD FD_asked_words
  have F_own_words : Fun K "own_words" "own_words" s_own_words (He.ga K "own_words") d_own_words := fun_ofD FD_own_words
  have F_line_text : Fun K "line_text" "line_text" s_line_text (He.ga K "line_text") d_line_text := fun_ofD FD_line_text
  have F_read_pair : Fun K "read_pair" "read_pair" s_read_pair (He.ga K "read_pair") d_read_pair := fun_ofD FD_read_pair
  have F_read_asked : Fun K "read_asked" "read_asked" s_read_asked (He.ga K "read_asked") d_read_asked := fun_ofD FD_read_asked
  have F_line_of_words : Fun K "line_of_words" "line_of_words" s_line_of_words (He.ga K "line_of_words") d_line_of_words := fun_ofD FD_line_of_words
  have F_read_line : Fun K "read_line" "read_line" s_read_line (He.ga K "read_line") d_read_line := fun_ofD FD_read_line
  have F_related : Fun K "related" "related" s_related (He.ga K "related") d_related := fun_ofD FD_related
  have F__law_bag : Fun K "_law_bag" "_law_bag" s__law_bag (He.ga K "_law_bag") d__law_bag := fun_ofD FD__law_bag
  have F__law_draw : Fun K "_law_draw" "_law_draw" s__law_draw (He.ga K "_law_draw") d__law_draw := fun_ofD FD__law_draw
  have F__law_of : Fun K "_law_of" "_law_of" s__law_of (He.ga K "_law_of") d__law_of := fun_ofD FD__law_of
  have F__law_like : Fun K "_law_like" "_law_like" s__law_like (He.ga K "_law_like") d__law_like := fun_ofD FD__law_like
  have F__law_low : Fun K "_law_low" "_law_low" s__law_low (He.ga K "_law_low") d__law_low := fun_ofD FD__law_low
  have F__law_order : Fun K "_law_order" "_law_order" s__law_order (He.ga K "_law_order") d__law_order := fun_ofD FD__law_order
  have F__law_holds : Fun K "_law_holds" "_law_holds" s__law_holds (He.ga K "_law_holds") d__law_holds := fun_ofD FD__law_holds
  have F__law_prefix : Fun K "_law_prefix" "_law_prefix" s__law_prefix (He.ga K "_law_prefix") d__law_prefix := fun_ofD FD__law_prefix
  have F__law_once : Fun K "_law_once" "_law_once" s__law_once (He.ga K "_law_once") d__law_once := fun_ofD FD__law_once
  have F__law_named : Fun K "_law_named" "_law_named" s__law_named (He.ga K "_law_named") d__law_named := fun_ofD FD__law_named
  have F__law_trio : Fun K "_law_trio" "_law_trio" s__law_trio (He.ga K "_law_trio") d__law_trio := fun_ofD FD__law_trio
  have F__law_uses : Fun K "_law_uses" "_law_uses" s__law_uses (He.ga K "_law_uses") d__law_uses := fun_ofD FD__law_uses
  have F__law_kept : Fun K "_law_kept" "_law_kept" s__law_kept (He.ga K "_law_kept") d__law_kept := fun_ofD FD__law_kept
  have F__law_whole : Fun K "_law_whole" "_law_whole" s__law_whole (He.ga K "_law_whole") d__law_whole := fun_ofD FD__law_whole
  have F__law_is_worth : Fun K "_law_is_worth" "_law_is_worth" s__law_is_worth (He.ga K "_law_is_worth") d__law_is_worth := fun_ofD FD__law_is_worth
  have F__law_is_word : Fun K "_law_is_word" "_law_is_word" s__law_is_word (He.ga K "_law_is_word") d__law_is_word := fun_ofD FD__law_is_word
  have F__law_is_own : Fun K "_law_is_own" "_law_is_own" s__law_is_own (He.ga K "_law_is_own") d__law_is_own := fun_ofD FD__law_is_own
  have F__law_is_name : Fun K "_law_is_name" "_law_is_name" s__law_is_name (He.ga K "_law_is_name") d__law_is_name := fun_ofD FD__law_is_name
  have F__law_needs : Fun K "_law_needs" "_law_needs" s__law_needs (He.ga K "_law_needs") d__law_needs := fun_ofD FD__law_needs
  have F__law_is_prefix : Fun K "_law_is_prefix" "_law_is_prefix" s__law_is_prefix (He.ga K "_law_is_prefix") d__law_is_prefix := fun_ofD FD__law_is_prefix
  have F__law_is_mark : Fun K "_law_is_mark" "_law_is_mark" s__law_is_mark (He.ga K "_law_is_mark") d__law_is_mark := fun_ofD FD__law_is_mark
  have F__law_is_row : Fun K "_law_is_row" "_law_is_row" s__law_is_row (He.ga K "_law_is_row") d__law_is_row := fun_ofD FD__law_is_row
  have F__law_short : Fun K "_law_short" "_law_short" s__law_short (He.ga K "_law_short") d__law_short := fun_ofD FD__law_short
  have F__law_written : Fun K "_law_written" "_law_written" s__law_written (He.ga K "_law_written") d__law_written := fun_ofD FD__law_written
  have F__law_read_short : Fun K "_law_read_short" "_law_read_short" s__law_read_short (He.ga K "_law_read_short") d__law_read_short := fun_ofD FD__law_read_short
  have F__law_read_pair : Fun K "_law_read_pair" "_law_read_pair" s__law_read_pair (He.ga K "_law_read_pair") d__law_read_pair := fun_ofD FD__law_read_pair
  have F__law_read_row : Fun K "_law_read_row" "_law_read_row" s__law_read_row (He.ga K "_law_read_row") d__law_read_row := fun_ofD FD__law_read_row
  have F__law_read_last : Fun K "_law_read_last" "_law_read_last" s__law_read_last (He.ga K "_law_read_last") d__law_read_last := fun_ofD FD__law_read_last
  have F__law_bend : Fun K "_law_bend" "_law_bend" s__law_bend (He.ga K "_law_bend") d__law_bend := fun_ofD FD__law_bend
  have F__law_odd : Fun K "_law_odd" "_law_odd" s__law_odd (He.ga K "_law_odd") d__law_odd := fun_ofD FD__law_odd
  have F__law_name : Fun K "_law_name" "_law_name" s__law_name (He.ga K "_law_name") d__law_name := fun_ofD FD__law_name
  have F__law_value : Fun K "_law_value" "_law_value" s__law_value (He.ga K "_law_value") d__law_value := fun_ofD FD__law_value
  have F__law_pairs : Fun K "_law_pairs" "_law_pairs" s__law_pairs (He.ga K "_law_pairs") d__law_pairs := fun_ofD FD__law_pairs
  have F__law_row : Fun K "_law_row" "_law_row" s__law_row (He.ga K "_law_row") d__law_row := fun_ofD FD__law_row
  have F__law_bent_text : Fun K "_law_bent_text" "_law_bent_text" s__law_bent_text (He.ga K "_law_bent_text") d__law_bent_text := fun_ofD FD__law_bent_text
  have F__law_told : Fun K "_law_told" "_law_told" s__law_told (He.ga K "_law_told") d__law_told := fun_ofD FD__law_told
  have F__law_good : Fun K "_law_good" "_law_good" s__law_good (He.ga K "_law_good") d__law_good := fun_ofD FD__law_good
  have F__law_compared : Fun K "_law_compared" "_law_compared" s__law_compared (He.ga K "_law_compared") d__law_compared := fun_ofD FD__law_compared
  have F_law : Fun K "law" "law" s_law (He.ga K "law") d_law := fun_ofD FD_law
  have b_init := F_init.binds (ps := ["self", "value"]) fun _ _ _ _ _ _ us hl => match us, hl with | [_, _], _ => rfl
  have b_is_number := F_is_number.binds (ps := ["value"]) fun _ _ _ _ _ _ us hl => match us, hl with | [_], _ => rfl
  have b_is_fraction := F_is_fraction.binds (ps := ["value"]) fun _ _ _ _ _ _ us hl => match us, hl with | [_], _ => rfl
  have b_is_value := F_is_value.binds (ps := ["value"]) fun _ _ _ _ _ _ us hl => match us, hl with | [_], _ => rfl
  have b_below := F_below.binds (ps := ["a", "b"]) fun _ _ _ _ _ _ us hl => match us, hl with | [_, _], _ => rfl
  have b_value_text := F_value_text.binds (ps := ["value"]) fun _ _ _ _ _ _ us hl => match us, hl with | [_], _ => rfl
  have b_read_number := F_read_number.binds (ps := ["word"]) fun _ _ _ _ _ _ us hl => match us, hl with | [_], _ => rfl
  have b_read_value := F_read_value.binds (ps := ["text"]) fun _ _ _ _ _ _ us hl => match us, hl with | [_], _ => rfl
  have b_is_word_name := F_is_word_name.binds (ps := ["value"]) fun _ _ _ _ _ _ us hl => match us, hl with | [_], _ => rfl
  have b_is_own_name := F_is_own_name.binds (ps := ["value"]) fun _ _ _ _ _ _ us hl => match us, hl with | [_], _ => rfl
  have b_is_name := F_is_name.binds (ps := ["value"]) fun _ _ _ _ _ _ us hl => match us, hl with | [_], _ => rfl
  have b_is_integer_word := F_is_integer_word.binds (ps := ["word", "least", "greatest"]) fun _ _ _ _ _ _ us hl => match us, hl with | [_, _, _], _ => rfl
  have b_operands_behind := F_operands_behind.binds (ps := ["word", "kind"]) fun _ _ _ _ _ _ us hl => match us, hl with | [_, _], _ => rfl
  have b_is_expression := F_is_expression.binds (ps := ["value"]) fun _ _ _ _ _ _ us hl => match us, hl with | [_], _ => rfl
  have b_names_in := F_names_in.binds (ps := ["words"]) fun _ _ _ _ _ _ us hl => match us, hl with | [_], _ => rfl
  have b_compared := F_compared.binds (ps := ["relation", "a", "b"]) fun _ _ _ _ _ _ us hl => match us, hl with | [_, _, _], _ => rfl
  have b_is_relation := F_is_relation.binds (ps := ["value"]) fun _ _ _ _ _ _ us hl => match us, hl with | [_], _ => rfl
  have b_is_pair := F_is_pair.binds (ps := ["value"]) fun _ _ _ _ _ _ us hl => match us, hl with | [_], _ => rfl
  have b_are_names := F_are_names.binds (ps := ["value"]) fun _ _ _ _ _ _ us hl => match us, hl with | [_], _ => rfl
  have b_are_values := F_are_values.binds (ps := ["value"]) fun _ _ _ _ _ _ us hl => match us, hl with | [_], _ => rfl
  have b_are_asked := F_are_asked.binds (ps := ["parts"]) fun _ _ _ _ _ _ us hl => match us, hl with | [_], _ => rfl
  have b_is_line := F_is_line.binds (ps := ["value"]) fun _ _ _ _ _ _ us hl => match us, hl with | [_], _ => rfl
  have b_is_look := F_is_look.binds (ps := ["line"]) fun _ _ _ _ _ _ us hl => match us, hl with | [_], _ => rfl
  have b_asked := F_asked.binds (ps := ["line"]) fun _ _ _ _ _ _ us hl => match us, hl with | [_], _ => rfl
  have b_line_names := F_line_names.binds (ps := ["line"]) fun _ _ _ _ _ _ us hl => match us, hl with | [_], _ => rfl
  have b_asked_words := F_asked_words.binds (ps := ["line"]) fun _ _ _ _ _ _ us hl => match us, hl with | [_], _ => rfl
  have b_own_words := F_own_words.binds (ps := ["line"]) fun _ _ _ _ _ _ us hl => match us, hl with | [_], _ => rfl
  have b_line_text := F_line_text.binds (ps := ["line"]) fun _ _ _ _ _ _ us hl => match us, hl with | [_], _ => rfl
  have b_read_pair := F_read_pair.binds (ps := ["word"]) fun _ _ _ _ _ _ us hl => match us, hl with | [_], _ => rfl
  have b_read_asked := F_read_asked.binds (ps := ["words"]) fun _ _ _ _ _ _ us hl => match us, hl with | [_], _ => rfl
  have b_line_of_words := F_line_of_words.binds (ps := ["words"]) fun _ _ _ _ _ _ us hl => match us, hl with | [_], _ => rfl
  have b_read_line := F_read_line.binds (ps := ["text"]) fun _ _ _ _ _ _ us hl => match us, hl with | [_], _ => rfl
  have b_related := F_related.binds (ps := ["relation", "a", "b"]) fun _ _ _ _ _ _ us hl => match us, hl with | [_, _, _], _ => rfl
  have b__law_bag := F__law_bag.binds (ps := ["script"]) fun _ _ _ _ _ _ us hl => match us, hl with | [_], _ => rfl
  have b__law_draw := F__law_draw.binds (ps := ["bag", "size"]) fun _ _ _ _ _ _ us hl => match us, hl with | [_, _], _ => rfl
  have b__law_of := F__law_of.binds (ps := ["bag", "things"]) fun _ _ _ _ _ _ us hl => match us, hl with | [_, _], _ => rfl
  have b__law_like := F__law_like.binds (ps := ["got", "due"]) fun _ _ _ _ _ _ us hl => match us, hl with | [_, _], _ => rfl
  have b__law_low := F__law_low.binds (ps := ["top", "low"]) fun _ _ _ _ _ _ us hl => match us, hl with | [_, _], _ => rfl
  have b__law_order := F__law_order.binds (ps := ["one", "two"]) fun _ _ _ _ _ _ us hl => match us, hl with | [_, _], _ => rfl
  have b__law_holds := F__law_holds.binds (ps := ["mark", "one", "two"]) fun _ _ _ _ _ _ us hl => match us, hl with | [_, _, _], _ => rfl
  have b__law_prefix := F__law_prefix.binds (ps := ["bag", "parts", "size"]) fun _ _ _ _ _ _ us hl => match us, hl with | [_, _, _], _ => rfl
  have b__law_once := F__law_once.binds (ps := ["things"]) fun _ _ _ _ _ _ us hl => match us, hl with | [_], _ => rfl
  have b__law_named := F__law_named.binds (ps := ["prefix"]) fun _ _ _ _ _ _ us hl => match us, hl with | [_], _ => rfl
  have b__law_trio := F__law_trio.binds (ps := ["row"]) fun _ _ _ _ _ _ us hl => match us, hl with | [_], _ => rfl
  have b__law_uses := F__law_uses.binds (ps := ["row"]) fun _ _ _ _ _ _ us hl => match us, hl with | [_], _ => rfl
  have b__law_kept := F__law_kept.binds (ps := []) fun _ _ _ _ _ _ us hl => match us, hl with | [], _ => rfl
  have b__law_whole := F__law_whole.binds (ps := ["thing"]) fun _ _ _ _ _ _ us hl => match us, hl with | [_], _ => rfl
  have b__law_is_worth := F__law_is_worth.binds (ps := ["thing"]) fun _ _ _ _ _ _ us hl => match us, hl with | [_], _ => rfl
  have b__law_is_word := F__law_is_word.binds (ps := ["thing"]) fun _ _ _ _ _ _ us hl => match us, hl with | [_], _ => rfl
  have b__law_is_own := F__law_is_own.binds (ps := ["thing"]) fun _ _ _ _ _ _ us hl => match us, hl with | [_], _ => rfl
  have b__law_is_name := F__law_is_name.binds (ps := ["thing"]) fun _ _ _ _ _ _ us hl => match us, hl with | [_], _ => rfl
  have b__law_needs := F__law_needs.binds (ps := ["part"]) fun _ _ _ _ _ _ us hl => match us, hl with | [_], _ => rfl
  have b__law_is_prefix := F__law_is_prefix.binds (ps := ["thing"]) fun _ _ _ _ _ _ us hl => match us, hl with | [_], _ => rfl
  have b__law_is_mark := F__law_is_mark.binds (ps := ["thing"]) fun _ _ _ _ _ _ us hl => match us, hl with | [_], _ => rfl
  have b__law_is_row := F__law_is_row.binds (ps := ["thing"]) fun _ _ _ _ _ _ us hl => match us, hl with | [_], _ => rfl
  have b__law_short := F__law_short.binds (ps := ["one"]) fun _ _ _ _ _ _ us hl => match us, hl with | [_], _ => rfl
  have b__law_written := F__law_written.binds (ps := ["row"]) fun _ _ _ _ _ _ us hl => match us, hl with | [_], _ => rfl
  have b__law_read_short := F__law_read_short.binds (ps := ["word"]) fun _ _ _ _ _ _ us hl => match us, hl with | [_], _ => rfl
  have b__law_read_pair := F__law_read_pair.binds (ps := ["word"]) fun _ _ _ _ _ _ us hl => match us, hl with | [_], _ => rfl
  have b__law_read_row := F__law_read_row.binds (ps := ["thing"]) fun _ _ _ _ _ _ us hl => match us, hl with | [_], _ => rfl
  have b__law_read_last := F__law_read_last.binds (ps := ["word"]) fun _ _ _ _ _ _ us hl => match us, hl with | [_], _ => rfl
  have b__law_bend := F__law_bend.binds (ps := ["bag", "thing", "deep"]) fun _ _ _ _ _ _ us hl => match us, hl with | [_, _, _], _ => rfl
  have b__law_odd := F__law_odd.binds (ps := ["bag"]) fun _ _ _ _ _ _ us hl => match us, hl with | [_], _ => rfl
  have b__law_name := F__law_name.binds (ps := ["bag"]) fun _ _ _ _ _ _ us hl => match us, hl with | [_], _ => rfl
  have b__law_value := F__law_value.binds (ps := ["bag"]) fun _ _ _ _ _ _ us hl => match us, hl with | [_], _ => rfl
  have b__law_pairs := F__law_pairs.binds (ps := ["bag"]) fun _ _ _ _ _ _ us hl => match us, hl with | [_], _ => rfl
  have b__law_row := F__law_row.binds (ps := ["bag"]) fun _ _ _ _ _ _ us hl => match us, hl with | [_], _ => rfl
  have b__law_bent_text := F__law_bent_text.binds (ps := ["bag", "thing"]) fun _ _ _ _ _ _ us hl => match us, hl with | [_, _], _ => rfl
  have b__law_told := F__law_told.binds (ps := ["thing", "way"]) fun _ _ _ _ _ _ us hl => match us, hl with | [_, _], _ => rfl
  have b__law_good := F__law_good.binds (ps := ["bag", "row"]) fun _ _ _ _ _ _ us hl => match us, hl with | [_, _], _ => rfl
  have b__law_compared := F__law_compared.binds (ps := ["bag"]) fun _ _ _ _ _ _ us hl => match us, hl with | [_], _ => rfl
  have b_law := F_law.binds (ps := ["script"]) fun _ _ _ _ _ _ us hl => match us, hl with | [_], _ => rfl
  have z_is_line : KBn K d_is_line ["value"] 0 ["value"] (fun _ ws => ws) (fun _ zs => zs) := kb_of F_is_line (n := 0) (ks := ["value"]) (ps := ["value"]) (fun _ ws => ws) (fun _ h => h) fun _ _ _ _ _ _ us ws h1 h2 => match us, ws, h1, h2 with | [], [_], _, _ => rfl
  have z_is_look : KBn K d_is_look ["line"] 0 ["line"] (fun _ ws => ws) (fun _ zs => zs) := kb_of F_is_look (n := 0) (ks := ["line"]) (ps := ["line"]) (fun _ ws => ws) (fun _ h => h) fun _ _ _ _ _ _ us ws h1 h2 => match us, ws, h1, h2 with | [], [_], _, _ => rfl
  have z_line_names : KBn K d_line_names ["line"] 0 ["line"] (fun _ ws => ws) (fun _ zs => zs) := kb_of F_line_names (n := 0) (ks := ["line"]) (ps := ["line"]) (fun _ ws => ws) (fun _ h => h) fun _ _ _ _ _ _ us ws h1 h2 => match us, ws, h1, h2 with | [], [_], _, _ => rfl
  have z_line_text : KBn K d_line_text ["line"] 0 ["line"] (fun _ ws => ws) (fun _ zs => zs) := kb_of F_line_text (n := 0) (ks := ["line"]) (ps := ["line"]) (fun _ ws => ws) (fun _ h => h) fun _ _ _ _ _ _ us ws h1 h2 => match us, ws, h1, h2 with | [], [_], _, _ => rfl
  have z_read_line : KBn K d_read_line ["text"] 0 ["text"] (fun _ ws => ws) (fun _ zs => zs) := kb_of F_read_line (n := 0) (ks := ["text"]) (ps := ["text"]) (fun _ ws => ws) (fun _ h => h) fun _ _ _ _ _ _ us ws h1 h2 => match us, ws, h1, h2 with | [], [_], _, _ => rfl
  have z_related : KBn K d_related ["relation", "a", "b"] 0 ["b", "relation", "a"] (fun _ ws => rot ws) (fun _ zs => rot zs) := kb_of F_related (n := 0) (ks := ["b", "relation", "a"]) (ps := ["relation", "a", "b"]) (fun _ ws => rot ws) (fun _ h => rot_rel h) fun _ _ _ _ _ _ us ws h1 h2 => match us, ws, h1, h2 with | [], [_, _, _], _, _ => rfl
  obtain ⟨tFIG, hFIG⟩ := He.str_ok X G (d.fact 90 (f := .str "FIGURES" FIGs) rfl)
  obtain ⟨tLET, hLET⟩ := He.str_ok X G (d.fact 91 (f := .str "LETTERS" LETs) rfl)
  obtain ⟨tMST, hMST⟩ := He.int_ok X G (d.fact 92 (f := .int "MOST_WORDS" 30) rfl)
  obtain ⟨tNAM, hNAM⟩ := He.int_ok X G (d.fact 93 (f := .int "MOST_NAMES" 12) rfl)
  obtain ⟨tVAL, hVAL⟩ := He.int_ok X G (d.fact 94 (f := .int "MOST_VALUES" 400) rfl)
  let T : Txt w K mg := {
    n_len := He.free_ok X G (d.fact 0 (f := .free "len") rfl)
    n_int := He.free_ok X G (d.fact 1 (f := .free "int") rfl)
    n_str := He.free_ok X G (d.fact 2 (f := .free "str") rfl)
    n_list := He.free_ok X G (d.fact 3 (f := .free "list") rfl)
    n_tuple := He.free_ok X G (d.fact 4 (f := .free "tuple") rfl)
    n_bool := He.free_ok X G (d.fact 5 (f := .free "bool") rfl)
    n_dict := He.free_ok X G (d.fact 6 (f := .free "dict") rfl)
    n_isinstance := He.free_ok X G (d.fact 7 (f := .free "isinstance") rfl)
    n_all := He.free_ok X G (d.fact 8 (f := .free "all") rfl)
    n_range := He.free_ok X G (d.fact 9 (f := .free "range") rfl)
    n_zip := He.free_ok X G (d.fact 10 (f := .free "zip") rfl)
    n_abs := He.free_ok X G (d.fact 11 (f := .free "abs") rfl)
    n_reversed := He.free_ok X G (d.fact 12 (f := .free "reversed") rfl)
    m_gcd := PySem.W.mg_of X G (He.eqO_ok e2)
    t_FIGURES := tFIG
    m_FIGURES := hFIG
    t_LETTERS := tLET
    m_LETTERS := hLET
    t_MOST_WORDS := tMST
    m_MOST_WORDS := hMST
    t_MOST_NAMES := tNAM
    m_MOST_NAMES := hNAM
    t_MOST_VALUES := tVAL
    m_MOST_VALUES := hVAL
    a_RESERVED := He.ga K "RESERVED"
    m_RESERVED := He.glo_ok X G (d.fact 13 (f := .glo "RESERVED") rfl)
    s_RESERVED := fun H => He.tupB_ok e3 H
    a_GIVEN := He.ga K "GIVEN"
    m_GIVEN := He.glo_ok X G (d.fact 14 (f := .glo "GIVEN") rfl)
    s_GIVEN := fun H => He.tupB_ok e4 H
    a_RELATIONS := He.ga K "RELATIONS"
    m_RELATIONS := He.glo_ok X G (d.fact 15 (f := .glo "RELATIONS") rfl)
    s_RELATIONS := fun H => He.tupB_ok e5 H
    a_KINDS := He.ga K "KINDS"
    m_KINDS := He.glo_ok X G (d.fact 16 (f := .glo "KINDS") rfl)
    s_KINDS := fun H => He.tupB_ok e6 H
    a_OPERANDS := He.ga K "OPERANDS"
    m_OPERANDS := He.glo_ok X G (d.fact 17 (f := .glo "OPERANDS") rfl)
    es_OPERANDS := esO
    n_es_OPERANDS := nO
    D_OPERANDS := hO
    g_OPERANDS := opG hO.at_ e7
    C_BadValue := bvC K
    f_BadValue := bvI K
    d_BadValue := d_init
    m_BadValue := He.glo_ok X G (d.fact 18 (f := .glo "BadValue") rfl)
    X_BadValue := oexB_ok e1
    i_BadValue := He.eqO_ok e9
    t_BadValue := of_decide_eq_true e8
    F_BadValue := F_init
    B_BadValue__init := b_init
    v_BadValue := He.noat_ok (d.fact 95 (f := .noat "BadValue" "value") rfl)
    c_BadValue := He.noat_ok (d.fact 96 (f := .noat "BadValue" "code") rfl)
    a_is_number := He.ga K "is_number"
    d_is_number := d_is_number
    F_is_number := F_is_number
    m_is_number := He.glo_ok X G (d.fact 19 (f := .glo "is_number") rfl)
    B_is_number := b_is_number
    a_is_fraction := He.ga K "is_fraction"
    d_is_fraction := d_is_fraction
    F_is_fraction := F_is_fraction
    m_is_fraction := He.glo_ok X G (d.fact 20 (f := .glo "is_fraction") rfl)
    B_is_fraction := b_is_fraction
    a_is_value := He.ga K "is_value"
    d_is_value := d_is_value
    F_is_value := F_is_value
    m_is_value := He.glo_ok X G (d.fact 21 (f := .glo "is_value") rfl)
    B_is_value := b_is_value
    a_below := He.ga K "below"
    d_below := d_below
    F_below := F_below
    m_below := He.glo_ok X G (d.fact 22 (f := .glo "below") rfl)
    B_below := b_below
    a_value_text := He.ga K "value_text"
    d_value_text := d_value_text
    F_value_text := F_value_text
    m_value_text := He.glo_ok X G (d.fact 23 (f := .glo "value_text") rfl)
    B_value_text := b_value_text
    a_read_number := He.ga K "read_number"
    d_read_number := d_read_number
    F_read_number := F_read_number
    m_read_number := He.glo_ok X G (d.fact 24 (f := .glo "read_number") rfl)
    B_read_number := b_read_number
    a_read_value := He.ga K "read_value"
    d_read_value := d_read_value
    F_read_value := F_read_value
    m_read_value := He.glo_ok X G (d.fact 25 (f := .glo "read_value") rfl)
    B_read_value := b_read_value
    a_is_word_name := He.ga K "is_word_name"
    d_is_word_name := d_is_word_name
    F_is_word_name := F_is_word_name
    m_is_word_name := He.glo_ok X G (d.fact 26 (f := .glo "is_word_name") rfl)
    B_is_word_name := b_is_word_name
    a_is_own_name := He.ga K "is_own_name"
    d_is_own_name := d_is_own_name
    F_is_own_name := F_is_own_name
    m_is_own_name := He.glo_ok X G (d.fact 27 (f := .glo "is_own_name") rfl)
    B_is_own_name := b_is_own_name
    a_is_name := He.ga K "is_name"
    d_is_name := d_is_name
    F_is_name := F_is_name
    m_is_name := He.glo_ok X G (d.fact 28 (f := .glo "is_name") rfl)
    B_is_name := b_is_name
    a_is_integer_word := He.ga K "is_integer_word"
    d_is_integer_word := d_is_integer_word
    F_is_integer_word := F_is_integer_word
    m_is_integer_word := He.glo_ok X G (d.fact 29 (f := .glo "is_integer_word") rfl)
    B_is_integer_word := b_is_integer_word
    a_operands_behind := He.ga K "operands_behind"
    d_operands_behind := d_operands_behind
    F_operands_behind := F_operands_behind
    m_operands_behind := He.glo_ok X G (d.fact 30 (f := .glo "operands_behind") rfl)
    B_operands_behind := b_operands_behind
    a_is_expression := He.ga K "is_expression"
    d_is_expression := d_is_expression
    F_is_expression := F_is_expression
    m_is_expression := He.glo_ok X G (d.fact 31 (f := .glo "is_expression") rfl)
    B_is_expression := b_is_expression
    a_names_in := He.ga K "names_in"
    d_names_in := d_names_in
    F_names_in := F_names_in
    m_names_in := He.glo_ok X G (d.fact 32 (f := .glo "names_in") rfl)
    B_names_in := b_names_in
    a_compared := He.ga K "compared"
    d_compared := d_compared
    F_compared := F_compared
    m_compared := He.glo_ok X G (d.fact 33 (f := .glo "compared") rfl)
    B_compared := b_compared
    a_is_relation := He.ga K "is_relation"
    d_is_relation := d_is_relation
    F_is_relation := F_is_relation
    m_is_relation := He.glo_ok X G (d.fact 34 (f := .glo "is_relation") rfl)
    B_is_relation := b_is_relation
    a_is_pair := He.ga K "is_pair"
    d_is_pair := d_is_pair
    F_is_pair := F_is_pair
    m_is_pair := He.glo_ok X G (d.fact 35 (f := .glo "is_pair") rfl)
    B_is_pair := b_is_pair
    a_are_names := He.ga K "are_names"
    d_are_names := d_are_names
    F_are_names := F_are_names
    m_are_names := He.glo_ok X G (d.fact 36 (f := .glo "are_names") rfl)
    B_are_names := b_are_names
    a_are_values := He.ga K "are_values"
    d_are_values := d_are_values
    F_are_values := F_are_values
    m_are_values := He.glo_ok X G (d.fact 37 (f := .glo "are_values") rfl)
    B_are_values := b_are_values
    a_are_asked := He.ga K "are_asked"
    d_are_asked := d_are_asked
    F_are_asked := F_are_asked
    m_are_asked := He.glo_ok X G (d.fact 38 (f := .glo "are_asked") rfl)
    B_are_asked := b_are_asked
    a_is_line := He.ga K "is_line"
    d_is_line := d_is_line
    F_is_line := F_is_line
    m_is_line := He.glo_ok X G (d.fact 39 (f := .glo "is_line") rfl)
    B_is_line := b_is_line
    a_is_look := He.ga K "is_look"
    d_is_look := d_is_look
    F_is_look := F_is_look
    m_is_look := He.glo_ok X G (d.fact 40 (f := .glo "is_look") rfl)
    B_is_look := b_is_look
    a_asked := He.ga K "asked"
    d_asked := d_asked
    F_asked := F_asked
    m_asked := He.glo_ok X G (d.fact 41 (f := .glo "asked") rfl)
    B_asked := b_asked
    a_line_names := He.ga K "line_names"
    d_line_names := d_line_names
    F_line_names := F_line_names
    m_line_names := He.glo_ok X G (d.fact 42 (f := .glo "line_names") rfl)
    B_line_names := b_line_names
    a_asked_words := He.ga K "asked_words"
    d_asked_words := d_asked_words
    F_asked_words := F_asked_words
    m_asked_words := He.glo_ok X G (d.fact 43 (f := .glo "asked_words") rfl)
    B_asked_words := b_asked_words
    a_own_words := He.ga K "own_words"
    d_own_words := d_own_words
    F_own_words := F_own_words
    m_own_words := He.glo_ok X G (d.fact 44 (f := .glo "own_words") rfl)
    B_own_words := b_own_words
    a_line_text := He.ga K "line_text"
    d_line_text := d_line_text
    F_line_text := F_line_text
    m_line_text := He.glo_ok X G (d.fact 45 (f := .glo "line_text") rfl)
    B_line_text := b_line_text
    a_read_pair := He.ga K "read_pair"
    d_read_pair := d_read_pair
    F_read_pair := F_read_pair
    m_read_pair := He.glo_ok X G (d.fact 46 (f := .glo "read_pair") rfl)
    B_read_pair := b_read_pair
    a_read_asked := He.ga K "read_asked"
    d_read_asked := d_read_asked
    F_read_asked := F_read_asked
    m_read_asked := He.glo_ok X G (d.fact 47 (f := .glo "read_asked") rfl)
    B_read_asked := b_read_asked
    a_line_of_words := He.ga K "line_of_words"
    d_line_of_words := d_line_of_words
    F_line_of_words := F_line_of_words
    m_line_of_words := He.glo_ok X G (d.fact 48 (f := .glo "line_of_words") rfl)
    B_line_of_words := b_line_of_words
    a_read_line := He.ga K "read_line"
    d_read_line := d_read_line
    F_read_line := F_read_line
    m_read_line := He.glo_ok X G (d.fact 49 (f := .glo "read_line") rfl)
    B_read_line := b_read_line
    a_related := He.ga K "related"
    d_related := d_related
    F_related := F_related
    m_related := He.glo_ok X G (d.fact 50 (f := .glo "related") rfl)
    B_related := b_related
    a__law_bag := He.ga K "_law_bag"
    d__law_bag := d__law_bag
    F__law_bag := F__law_bag
    m__law_bag := He.glo_ok X G (d.fact 51 (f := .glo "_law_bag") rfl)
    B__law_bag := b__law_bag
    a__law_draw := He.ga K "_law_draw"
    d__law_draw := d__law_draw
    F__law_draw := F__law_draw
    m__law_draw := He.glo_ok X G (d.fact 52 (f := .glo "_law_draw") rfl)
    B__law_draw := b__law_draw
    a__law_of := He.ga K "_law_of"
    d__law_of := d__law_of
    F__law_of := F__law_of
    m__law_of := He.glo_ok X G (d.fact 53 (f := .glo "_law_of") rfl)
    B__law_of := b__law_of
    a__law_like := He.ga K "_law_like"
    d__law_like := d__law_like
    F__law_like := F__law_like
    m__law_like := He.glo_ok X G (d.fact 54 (f := .glo "_law_like") rfl)
    B__law_like := b__law_like
    a__law_low := He.ga K "_law_low"
    d__law_low := d__law_low
    F__law_low := F__law_low
    m__law_low := He.glo_ok X G (d.fact 55 (f := .glo "_law_low") rfl)
    B__law_low := b__law_low
    a__law_order := He.ga K "_law_order"
    d__law_order := d__law_order
    F__law_order := F__law_order
    m__law_order := He.glo_ok X G (d.fact 56 (f := .glo "_law_order") rfl)
    B__law_order := b__law_order
    a__law_holds := He.ga K "_law_holds"
    d__law_holds := d__law_holds
    F__law_holds := F__law_holds
    m__law_holds := He.glo_ok X G (d.fact 57 (f := .glo "_law_holds") rfl)
    B__law_holds := b__law_holds
    a__law_prefix := He.ga K "_law_prefix"
    d__law_prefix := d__law_prefix
    F__law_prefix := F__law_prefix
    m__law_prefix := He.glo_ok X G (d.fact 58 (f := .glo "_law_prefix") rfl)
    B__law_prefix := b__law_prefix
    a__law_once := He.ga K "_law_once"
    d__law_once := d__law_once
    F__law_once := F__law_once
    m__law_once := He.glo_ok X G (d.fact 59 (f := .glo "_law_once") rfl)
    B__law_once := b__law_once
    a__law_named := He.ga K "_law_named"
    d__law_named := d__law_named
    F__law_named := F__law_named
    m__law_named := He.glo_ok X G (d.fact 60 (f := .glo "_law_named") rfl)
    B__law_named := b__law_named
    a__law_trio := He.ga K "_law_trio"
    d__law_trio := d__law_trio
    F__law_trio := F__law_trio
    m__law_trio := He.glo_ok X G (d.fact 61 (f := .glo "_law_trio") rfl)
    B__law_trio := b__law_trio
    a__law_uses := He.ga K "_law_uses"
    d__law_uses := d__law_uses
    F__law_uses := F__law_uses
    m__law_uses := He.glo_ok X G (d.fact 62 (f := .glo "_law_uses") rfl)
    B__law_uses := b__law_uses
    a__law_kept := He.ga K "_law_kept"
    d__law_kept := d__law_kept
    F__law_kept := F__law_kept
    m__law_kept := He.glo_ok X G (d.fact 63 (f := .glo "_law_kept") rfl)
    B__law_kept := b__law_kept
    a__law_whole := He.ga K "_law_whole"
    d__law_whole := d__law_whole
    F__law_whole := F__law_whole
    m__law_whole := He.glo_ok X G (d.fact 64 (f := .glo "_law_whole") rfl)
    B__law_whole := b__law_whole
    a__law_is_worth := He.ga K "_law_is_worth"
    d__law_is_worth := d__law_is_worth
    F__law_is_worth := F__law_is_worth
    m__law_is_worth := He.glo_ok X G (d.fact 65 (f := .glo "_law_is_worth") rfl)
    B__law_is_worth := b__law_is_worth
    a__law_is_word := He.ga K "_law_is_word"
    d__law_is_word := d__law_is_word
    F__law_is_word := F__law_is_word
    m__law_is_word := He.glo_ok X G (d.fact 66 (f := .glo "_law_is_word") rfl)
    B__law_is_word := b__law_is_word
    a__law_is_own := He.ga K "_law_is_own"
    d__law_is_own := d__law_is_own
    F__law_is_own := F__law_is_own
    m__law_is_own := He.glo_ok X G (d.fact 67 (f := .glo "_law_is_own") rfl)
    B__law_is_own := b__law_is_own
    a__law_is_name := He.ga K "_law_is_name"
    d__law_is_name := d__law_is_name
    F__law_is_name := F__law_is_name
    m__law_is_name := He.glo_ok X G (d.fact 68 (f := .glo "_law_is_name") rfl)
    B__law_is_name := b__law_is_name
    a__law_needs := He.ga K "_law_needs"
    d__law_needs := d__law_needs
    F__law_needs := F__law_needs
    m__law_needs := He.glo_ok X G (d.fact 69 (f := .glo "_law_needs") rfl)
    B__law_needs := b__law_needs
    a__law_is_prefix := He.ga K "_law_is_prefix"
    d__law_is_prefix := d__law_is_prefix
    F__law_is_prefix := F__law_is_prefix
    m__law_is_prefix := He.glo_ok X G (d.fact 70 (f := .glo "_law_is_prefix") rfl)
    B__law_is_prefix := b__law_is_prefix
    a__law_is_mark := He.ga K "_law_is_mark"
    d__law_is_mark := d__law_is_mark
    F__law_is_mark := F__law_is_mark
    m__law_is_mark := He.glo_ok X G (d.fact 71 (f := .glo "_law_is_mark") rfl)
    B__law_is_mark := b__law_is_mark
    a__law_is_row := He.ga K "_law_is_row"
    d__law_is_row := d__law_is_row
    F__law_is_row := F__law_is_row
    m__law_is_row := He.glo_ok X G (d.fact 72 (f := .glo "_law_is_row") rfl)
    B__law_is_row := b__law_is_row
    a__law_short := He.ga K "_law_short"
    d__law_short := d__law_short
    F__law_short := F__law_short
    m__law_short := He.glo_ok X G (d.fact 73 (f := .glo "_law_short") rfl)
    B__law_short := b__law_short
    a__law_written := He.ga K "_law_written"
    d__law_written := d__law_written
    F__law_written := F__law_written
    m__law_written := He.glo_ok X G (d.fact 74 (f := .glo "_law_written") rfl)
    B__law_written := b__law_written
    a__law_read_short := He.ga K "_law_read_short"
    d__law_read_short := d__law_read_short
    F__law_read_short := F__law_read_short
    m__law_read_short := He.glo_ok X G (d.fact 75 (f := .glo "_law_read_short") rfl)
    B__law_read_short := b__law_read_short
    a__law_read_pair := He.ga K "_law_read_pair"
    d__law_read_pair := d__law_read_pair
    F__law_read_pair := F__law_read_pair
    m__law_read_pair := He.glo_ok X G (d.fact 76 (f := .glo "_law_read_pair") rfl)
    B__law_read_pair := b__law_read_pair
    a__law_read_row := He.ga K "_law_read_row"
    d__law_read_row := d__law_read_row
    F__law_read_row := F__law_read_row
    m__law_read_row := He.glo_ok X G (d.fact 77 (f := .glo "_law_read_row") rfl)
    B__law_read_row := b__law_read_row
    a__law_read_last := He.ga K "_law_read_last"
    d__law_read_last := d__law_read_last
    F__law_read_last := F__law_read_last
    m__law_read_last := He.glo_ok X G (d.fact 78 (f := .glo "_law_read_last") rfl)
    B__law_read_last := b__law_read_last
    a__law_bend := He.ga K "_law_bend"
    d__law_bend := d__law_bend
    F__law_bend := F__law_bend
    m__law_bend := He.glo_ok X G (d.fact 79 (f := .glo "_law_bend") rfl)
    B__law_bend := b__law_bend
    a__law_odd := He.ga K "_law_odd"
    d__law_odd := d__law_odd
    F__law_odd := F__law_odd
    m__law_odd := He.glo_ok X G (d.fact 80 (f := .glo "_law_odd") rfl)
    B__law_odd := b__law_odd
    a__law_name := He.ga K "_law_name"
    d__law_name := d__law_name
    F__law_name := F__law_name
    m__law_name := He.glo_ok X G (d.fact 81 (f := .glo "_law_name") rfl)
    B__law_name := b__law_name
    a__law_value := He.ga K "_law_value"
    d__law_value := d__law_value
    F__law_value := F__law_value
    m__law_value := He.glo_ok X G (d.fact 82 (f := .glo "_law_value") rfl)
    B__law_value := b__law_value
    a__law_pairs := He.ga K "_law_pairs"
    d__law_pairs := d__law_pairs
    F__law_pairs := F__law_pairs
    m__law_pairs := He.glo_ok X G (d.fact 83 (f := .glo "_law_pairs") rfl)
    B__law_pairs := b__law_pairs
    a__law_row := He.ga K "_law_row"
    d__law_row := d__law_row
    F__law_row := F__law_row
    m__law_row := He.glo_ok X G (d.fact 84 (f := .glo "_law_row") rfl)
    B__law_row := b__law_row
    a__law_bent_text := He.ga K "_law_bent_text"
    d__law_bent_text := d__law_bent_text
    F__law_bent_text := F__law_bent_text
    m__law_bent_text := He.glo_ok X G (d.fact 85 (f := .glo "_law_bent_text") rfl)
    B__law_bent_text := b__law_bent_text
    a__law_told := He.ga K "_law_told"
    d__law_told := d__law_told
    F__law_told := F__law_told
    m__law_told := He.glo_ok X G (d.fact 86 (f := .glo "_law_told") rfl)
    B__law_told := b__law_told
    a__law_good := He.ga K "_law_good"
    d__law_good := d__law_good
    F__law_good := F__law_good
    m__law_good := He.glo_ok X G (d.fact 87 (f := .glo "_law_good") rfl)
    B__law_good := b__law_good
    a__law_compared := He.ga K "_law_compared"
    d__law_compared := d__law_compared
    F__law_compared := F__law_compared
    m__law_compared := He.glo_ok X G (d.fact 88 (f := .glo "_law_compared") rfl)
    B__law_compared := b__law_compared
    a_law := He.ga K "law"
    d_law := d_law
    F_law := F_law
    m_law := He.glo_ok X G (d.fact 89 (f := .glo "law") rfl)
    B_law := b_law
    Z_is_line := z_is_line
    Z_is_look := z_is_look
    Z_line_names := z_line_names
    Z_line_text := z_line_text
    Z_read_line := z_read_line
    Z_related := z_related
  }
  have ef : f = He.ga K "law" := by
    have e := hfa.symm.trans T.m_law
    cases e
    rfl
  refine ⟨d_law, fun s u => FunD.bindsA (ps := ["script"]) FD_law (fun _ _ _ _ _ _ us hl => match us, hl with | [_], _ => rfl) s [u] rfl, fun base _ _ => ?_⟩
  rw [ef]
  exact ok_law (P := P) (base := base) T
theorem walk {l : PySem.W.OpenLaw} {q : Program} {loose : List Str} {XP : (Str → Option Value) → Heap → Prop} {YP : World → Heap → Prop} {d : DefRec} {K : Params → PySem.W.Frag} (hn : l.most = some 63) (hdf : d.params.defaults = [])
    (hY : ∀ (w : World) (h : Heap), YP w h → (K w.params).In h)
    (F : ∀ (w : World) (mg : Str → Option Value) (fa : Addr) (h : Heap), (K w.params).In h → h.Ns mainGlobals mg → mg d.name = some (.ref fa) →
      ∃ fd : FuncData, (∀ (s : Shared) (u : Value), BindsTo s fd ⟨[u], []⟩ [("script", u)]) ∧ ∀ base : Heap, (K w.params).In base → base.Ns mainGlobals mg → FnOk l.prog w (K w.params) mg base CX0 12 fa fd ["script"] (sp_law (K w.params))) :
    PySem.W.WalkO q loose XP YP l.row.toRowW d [] (fun f vs => PySem.call f vs) :=
  L2.walk_of (n := 63) (k := 12) (x := "script") (CX := fun _ => CX0) (sp := fun w => sp_law (K w.params)) hn (by decide) hdf ⟨rfl, by decide, by decide⟩ hY F (fun _ _ a ns hl _ hS => ⟨a, ns, rfl, hS, hl, fun _ => rfl⟩) fun _ _ _ _ _ z => z
theorem says_of {K : PySem.W.Frag} {w : World} {h : Heap} (ht : He.obsT faL fnL tsL K = He.valT fnL tsL w) (hm : exB K = true) : He.SaysX faL fnL tsL tfL exB w h K :=
  ⟨ht, hm, fun p hp => (by cases hp), fun p hp => (by cases hp), fun p hp => (by cases hp)⟩
end LK

open PySem PySem.W PySem.Calls PyProof.Rows
set_option maxRecDepth 100000 in
set_option maxHeartbeats 0 in
theorem PySem.Challenge.cw_lookingnets_k05_whole_lines_there_and_ba_holds : PySem.Challenge.rw_lookingnets_k05_whole_lines_there_and_ba.Holds := by
  w_on; o_law; k_head; (case hw => w_witness2)
  k_fill
  refine LK.walk (l := PySem.Challenge.rw_lookingnets_k05_whole_lines_there_and_ba) rfl rfl (fun w h Y => PySem.W.kIn_of Y) ?F
  case F =>
    intro w mg fa h KX G hmg0
    have hmg : mg ("law" : PySem.Str) = some (.ref fa) := hmg0
    exact LK.facts KX G hmg (LK.says_of (by kernel_rfl) (by kernel_rfl))
