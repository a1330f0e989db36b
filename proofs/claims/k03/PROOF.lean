import PyProof.Rows.All
import Wide.All
import OpenK.AllK
import Wide.FinOn
import HandS.ForMost
import HandS.IsInst
import HandS.Zip
import HandS.TupAny
import HandS.Style
import HandS.More
import HandS.Defaults
import HandS.Walk
import HandS.ExcInit
import KE.KExcInit
import PyProof.ExcBaseAll.LookupError
import HandS.Conv
import HandS.Rev
import HandS.DictComp
import HandS.ListItems
import HandS.StrMore
import HandS.TupLe
import HandS.Dict
import HandS.Gcd
import HandS.Wide
import HandS.WordsExc
import HandS.Lambda
import HandS.Deep
import HandS.ExcField
import HandS.FStr
import HandS.Text
import KE.KExcIs
import HandS.HeadHook4
import HandS.HeadWalk
import HandS.Head2
import HandS.Head3
import KE.KLam
import KE.KNestM
import PySem.Challenge.RW_lookingnets_k03_whole_expressions
set_option Elab.async false
set_option linter.all false
set_option maxRecDepth 100000
namespace LK
open PySem PySem.Spec PyProof.Rows L2
/-! ### heaps but for one object -/
def hb (H : Hp) (b : Addr) : Hp := fun a => if a = b then none else H a
theorem hb_ne {H : Hp} {a b : Addr} (h : a ≠ b) : hb H b a = H a := if_neg h
theorem hb_same {H : Hp} {b : Addr} : hb H b b = none := if_pos rfl
theorem hb_some {H : Hp} {a b : Addr} {o : HO} (h : hb H b a = some o) : a ≠ b ∧ H a = some o := by
  unfold hb at h
  split at h
  · cases h
  · exact ⟨by assumption, h⟩
theorem hb_le (H : Hp) (b : Addr) : Same (hb H b) H := fun _ _ h => (hb_some h).2
/-- all but b stays -/
abbrev Kp (b : Addr) (H H' : Hp) : Prop := Same (hb H b) (hb H' b)
theorem Kp.of {b : Addr} {H H' : Hp} (s : Same H H') : Kp b H H' := fun a o h => by
  obtain ⟨h1, h2⟩ := hb_some h
  rw [hb_ne h1]
  exact s _ _ h2
theorem Kp.refl (b : Addr) (H : Hp) : Kp b H H := Same.refl _
theorem Kp.upd {b : Addr} {H : Hp} {o : HO} : Kp b H (upd H b o) := fun a u h => by
  obtain ⟨h1, h2⟩ := hb_some h
  rw [hb_ne h1, upd_ne h1]
  exact h2
theorem Kp.hd {b a : Addr} {H H' : Hp} {o : HO} (k : Kp b H H') (h : H a = some o) (n : a ≠ b) : H' a = some o := (hb_some (k a o (by rw [hb_ne n]; exact h))).2
/-- a new object -/
theorem al {H : Hp} {R : Addr → Hp → Prop} {o : HO} (h : ∀ p H1, Same H H1 → H1 p = some o → H p = none → R p H1) : ∀ p, H p = none → R p (upd H p o) := fun p hp =>
  h p _ (fun a u e => by rw [upd_ne (ne_of_none e hp)]; exact e) upd_same hp
theorem same_upd {H : Hp} {p : Addr} {o : HO} (hp : H p = none) : Same H (upd H p o) := fun a u e => by rw [upd_ne (ne_of_none e hp)]; exact e
theorem at_ofN {α : Type} {xs : List α} {z : Int} {j : Nat} {v : α} (e : z = (j : Int)) (h : xs[j]? = some v) : atI xs z = some v := by
  subst e
  exact atI_nat h
/-! ### the bag of a law -/
def Bag (H : Hp) (b c : Addr) : Prop := ∃ (cells : List Int) (i g m n : Int), H b = some (.lst [.ref c, .int i, .int g, .int m, .int n]) ∧ H c = some (.lst (cells.map V.int)) ∧ c ≠ b ∧ 0 ≤ i ∧ 0 ≤ m ∧ m < 2147483579
theorem Bag.same {H H' : Hp} {b c : Addr} (B : Bag H b c) (s : Same H H') : Bag H' b c := by
  obtain ⟨cells, i, g, m, n, h1, h2, h3⟩ := B
  exact ⟨cells, i, g, m, n, s _ _ h1, s _ _ h2, h3⟩
theorem Bag.at {H : Hp} {b c : Addr} (B : Bag H b c) : ∃ xs, H b = some (.lst xs) := by
  obtain ⟨cells, i, g, m, n, h1, _⟩ := B
  exact ⟨_, h1⟩
theorem Bag.at2 {H : Hp} {b c : Addr} (B : Bag H b c) : ∃ xs, H c = some (.lst xs) := by
  obtain ⟨cells, i, g, m, n, h1, h2, _⟩ := B
  exact ⟨_, h2⟩
/-- another object is stored -/
theorem Bag.upd {H : Hp} {b c p : Addr} {o : HO} (B : Bag H b c) (n1 : b ≠ p) (n2 : c ≠ p) : Bag (upd H p o) b c := by
  obtain ⟨cells, i, g, m, n, h1, h2, h3⟩ := B
  exact ⟨cells, i, g, m, n, by rw [upd_ne n1]; exact h1, by rw [upd_ne n2]; exact h2, h3⟩
/-- a new object beside a bag -/
theorem alB {H : Hp} {R : Addr → Hp → Prop} {o : HO} {b c : Addr} (B : Bag H b c) (h : ∀ p H1, Kp b H H1 → Bag H1 b c → hb H1 b p = some o → Same H H1 → H p = none → R p H1) : ∀ p, H p = none → R p (upd H p o) :=
  al fun p H1 s h1 h0 => h p H1 (Kp.of s) (B.same s) (by
    have n : p ≠ b := fun e => by
      obtain ⟨xs, q⟩ := B.at
      rw [e, q] at h0; cases h0
    rw [hb_ne n]; exact h1) s h0
/-! ### data -/
theorem Same.seqT {K : PySem.W.Frag} {H H' : Hp} {a : Addr} {xs : List V} (e : Same H H') (h : SqT K H a xs) : SqT K H' a xs := by
  rcases h with (h | ⟨o, h⟩) | h
  · exact .inl (.inl (e _ _ h))
  · exact .inl (.inr ⟨o, e _ _ h⟩)
  · exact .inr h
mutual
theorem dp_same {K : PySem.W.Frag} {H H' : Hp} (e : Same H H') : ∀ {d : PyData} {v : V}, Dp K H v d → Dp K H' v d
  | .none, _, h => by cases h; exact .non
  | .bool _, _, h => by cases h; exact .bl _
  | .int _, _, h => by cases h; exact .int _
  | .str _, _, h => by cases h; exact .str _
  | .list ds, _, h => by cases h with | lst a b => exact .lst (L2.Same.seq e a) (dpa_same e b)
  | .tuple ds, _, h => by cases h with | tup a b => exact .tup (Same.seqT e a) (dpa_same e b)
  | .dict _, _, h => by cases h
theorem dpa_same {K : PySem.W.Frag} {H H' : Hp} (e : Same H H') : ∀ {ds : List PyData} {vs : List V}, DpAll K H vs ds → DpAll K H' vs ds
  | [], _, h => by cases h; exact .nil
  | _ :: _, _, h => by cases h with | cons a b => exact .cons (dp_same e a) (dpa_same e b)
end
end LK
namespace LK
open PySem PySem.Spec PyProof.Rows L2
section
variable {CX : CXT} {P : Program} {w : World} {K : PySem.W.Frag} {mg : Str → Option Value} {base : Heap} {N : List Str} {q : Str} {sc : Scope} {f : Addr} {cd : Value} {A : Around} {outer : List Env} {s : Shared} {H : Hp} {E : XK}
theorem cxK : (cxOf CX P w K mg base N q sc f cd A outer s H E).K = K := rfl
theorem cxNK : (cxOf CX P w K mg base N q sc f cd A outer s H E).nox.K = K := rfl
theorem cxW : (cxOf CX P w K mg base N q sc f cd A outer s H E).w = w := rfl
end
theorem cut_seq {t u : TS} {D : Ends} {σ : L2.St} {H : Hp} (Mid : L2.St → Hp → Prop) (h1 : ∀ N : L2.St → Hp → Prop, (∀ σ' H', Mid σ' H' → N σ' H') → t { D with nx := N } σ H) (h2 : ∀ σ' H', Mid σ' H' → u D σ' H') : tSeq t u D σ H := h1 _ h2
end LK
namespace LK
open PySem PySem.Spec PyProof.Rows L2
theorem seq_op {t u : TS} {D : Ends} {σ : L2.St} {H : Hp} (h : ∀ N : L2.St → Hp → Prop, (∀ σ' H', u D σ' H' → N σ' H') → t { D with nx := N } σ H) : tSeq t u D σ H := h _ fun _ _ z => z
end LK
namespace LK
open PySem PySem.Spec PyProof.Rows L2
section
variable {X : Cx}
theorem opr_imp {f : Value → Value → Sem Value} {r r' : R2} (h : OpR X f r) (i : ∀ x y H Q, r' x y H Q → r x y H Q) : OpR X f r' := fun pins s σ H x y v u Q I rx ry q => h pins s σ H x y v u Q I rx ry (i _ _ _ _ q)
theorem cr_imp {f : Value} {r r' : List V → Hp → VK → Prop} (h : CallR X f r) (i : ∀ x H Q, r' x H Q → r x H Q) : CallR X f r' := fun pins s σ H xs us Q I rx q => h pins s σ H xs us Q I rx (i _ _ _ q)
theorem op_eqI : OpR X (compareOp .Eq) (rI0 fun i j => .bl (decide (i = j))) := opr_imp op_eq fun x y H Q h => by
  obtain ⟨i, j, rfl, rfl, q⟩ := h
  refine ⟨rfl, ?_⟩
  rw [L2.dec_int, Bool.beq_eq_decide_eq]; exact q
theorem op_neI : OpR X (compareOp .NotEq) (rI0 fun i j => .bl (!decide (i = j))) := opr_imp op_ne fun x y H Q h => by
  obtain ⟨i, j, rfl, rfl, q⟩ := h
  refine ⟨rfl, ?_⟩
  rw [L2.dec_int, Bool.beq_eq_decide_eq]; exact q
def rS0 (g : Str → Str → V) : R2 := fun x y H Q => ∃ i j, x = .str i ∧ y = .str j ∧ Q (g i j) H
theorem op_eqS : OpR X (compareOp .Eq) (rS0 fun i j => .bl (decide (i = j))) := opr_imp op_eq fun x y H Q h => by
  obtain ⟨i, j, rfl, rfl, q⟩ := h
  refine ⟨rfl, ?_⟩
  have e : decide (V.str i = V.str j) = decide (i = j) := by
    by_cases c : i = j
    · subst c; simp
    · rw [decide_eq_false c, decide_eq_false (fun z => c (V.str.inj z))]
  rw [e]; exact q
theorem op_neS : OpR X (compareOp .NotEq) (rS0 fun i j => .bl (!decide (i = j))) := opr_imp op_ne fun x y H Q h => by
  obtain ⟨i, j, rfl, rfl, q⟩ := h
  refine ⟨rfl, ?_⟩
  have e : decide (V.str i = V.str j) = decide (i = j) := by
    by_cases c : i = j
    · subst c; simp
    · rw [decide_eq_false c, decide_eq_false (fun z => c (V.str.inj z))]
  rw [e]; exact q
def rB0 (g : Bool → Bool → V) : R2 := fun x y H Q => ∃ i j, x = .bl i ∧ y = .bl j ∧ Q (g i j) H
theorem op_eqB : OpR X (compareOp .Eq) (rB0 fun i j => .bl (i == j)) := opr_imp op_eq fun x y H Q h => by
  obtain ⟨i, j, rfl, rfl, q⟩ := h
  refine ⟨rfl, ?_⟩
  rw [L2.dec_bl]; exact q
theorem op_neB : OpR X (compareOp .NotEq) (rB0 fun i j => .bl (!(i == j))) := opr_imp op_ne fun x y H Q h => by
  obtain ⟨i, j, rfl, rfl, q⟩ := h
  refine ⟨rfl, ?_⟩
  rw [L2.dec_bl]; exact q
/-- int(n) of an int -/
theorem call_intI : CallR X (.type "int") (fun xs H Q => ∃ i, xs = [.int i] ∧ Q (.int i) H) := cr_imp call_int1 fun xs H Q h => .inl h
end
end LK
namespace LK
open PySem PySem.Spec PyProof.Rows L2
/-! ### isinstance of data -/
def tyN : PyData → String
  | .none => "NoneType" | .bool _ => "bool" | .int _ => "int" | .str _ => "str" | .list _ => "list" | .tuple _ => "tuple" | .dict _ => "dict"
def isTy (T : String) : PyData → Bool
  | .none => false | .bool _ => T == "bool" || T == "int" | .int _ => T == "int" | .str _ => T == "str" | .list _ => T == "list" | .tuple _ => T == "tuple" | .dict _ => false
theorem dp_ty {K : PySem.W.Frag} {H : Hp} {v : V} {d : PyData} (h : Dp K H v d) : TyX K H v (.type (tyN d)) := by
  cases h with
  | non => exact .base .non
  | bl b => exact .base (.bl b)
  | int i => exact .base (.int i)
  | str x => exact .base (.str x)
  | lst hs _ =>
    rcases hs with (h | ⟨o, h⟩) | ⟨o, its, n, h1, h2, _⟩
    · exact .base (.lst h)
    · exact .base (.frz h)
    · exact .kList h1 h2
  | tup hs _ =>
    rcases hs with (h | ⟨o, h⟩) | ⟨o, its, n, h1, h2, _⟩
    · exact .base (.tup h)
    · exact .fTuple h
    · exact .kTuple h1 h2
theorem dp_kit {K : PySem.W.Frag} {H : Hp} {v : V} {d : PyData} (h : Dp K H v d) {T : String} (hT : T ∈ ["str", "int", "bool", "list", "tuple"]) : PySem.W.kitOne K (.type (tyN d)) (.type T) = some (isTy T d) := by
  refine kit_ty ?_
  simp only [List.mem_cons, List.mem_nil_iff, or_false] at hT
  cases h <;> rcases hT with rfl | rfl | rfl | rfl | rfl <;> (simp only [tyN, isTy]; decide +kernel)
section
variable {X : Cx}
theorem call_isiD : CallR X (.builtin "isinstance") (fun xs H Q => ∃ x T d, xs = [x, .ty T] ∧ Dp X.K H x d ∧ T ∈ ["str", "int", "bool", "list", "tuple"] ∧ Q (.bl (isTy T d)) H) := cr_imp call_isi fun xs H Q h => by
  obtain ⟨x, T, d, rfl, hd, hT, q⟩ := h
  exact ⟨x, .ty T, _, _, _, rfl, .ty T, dp_ty hd, dp_kit hd hT, q⟩
theorem call_isiDT : CallR X (.builtin "isinstance") (fun xs H Q => ∃ x tp d, xs = [x, .ref tp] ∧ H tp = some (.tup [.ty "list", .ty "tuple"]) ∧ Dp X.K H x d ∧ Q (.bl (isTy "list" d || isTy "tuple" d)) H) := cr_imp call_isiT fun xs H Q h => by
  obtain ⟨x, tp, d, rfl, ht, hd, q⟩ := h
  refine ⟨x, tp, _, .type (tyN d), [.type "list", .type "tuple"], _, rfl, ht, .cons (.ty _) (.cons (.ty _) .nil), dp_ty hd, ?_, q⟩
  have h1 := dp_kit hd (T := "list") (by simp)
  have h2 := dp_kit hd (T := "tuple") (by simp)
  unfold PySem.W.kitAny PySem.W.kitAny PySem.W.kitAny
  rw [h1, h2]
  cases isTy "list" d <;> cases isTy "tuple" d <;> rfl
/-- len of data -/
theorem call_lenD : CallR X (.builtin "len") (fun xs H Q => ∃ x d, xs = [x] ∧ Dp X.K H x d ∧ ((∃ ds, (d = .list ds ∨ d = .tuple ds) ∧ Q (.int ds.length) H) ∨ ∃ z, d = .str z ∧ z.length ≤ sizeLine ∧ Q (.int z.length) H)) := cr_imp call_len fun xs H Q h => by
  obtain ⟨x, d, rfl, hd, ⟨ds, e, q⟩ | ⟨z, rfl, hz, q⟩⟩ := h
  · have ln : ∀ {vs : List V} {es : List PyData}, DpAll X.K H vs es → vs.length = es.length := by
      intro vs es h
      induction es generalizing vs with
      | nil => cases h; rfl
      | cons a r ih => cases h with | cons _ h2 => simp [ih h2]
    rcases e with rfl | rfl
    · cases hd with
      | lst hs ha => exact ⟨_, ds.length, rfl, .inl ⟨_, hs, (ln ha).symm⟩, q⟩
    · cases hd with
      | tup hs ha => exact ⟨_, ds.length, rfl, .inr ⟨_, hs, (ln ha).symm⟩, q⟩
  · cases hd
    exact ⟨_, z.length, rfl, ⟨hz, rfl⟩, q⟩
/-- t[lo:hi] of a tuple: some tuple of that content -/
def rSlU (K : PySem.W.Frag) : V → Option Int → Option Int → Hp → VK → Prop := fun x lo hi H Q => ∃ a xs, x = .ref a ∧ SqT K H a xs ∧ ∀ q H', Same H H' → SqT K H' q (cutV xs lo hi) → Q (.ref q) H'
theorem sl_tupU : SlR X (rSlU X.K) := by
  intro pins s σ H x v vl vu lo hi sl Q I rx hs pl pu h
  obtain ⟨a, xs, rfl, hx, q⟩ := h
  refine sl_tupA pins s σ H _ v vl vu lo hi sl Q I rx hs pl pu ⟨a, xs, rfl, hx, fun hw => q a H (Same.refl H) ?_, fun hw p hp => q p _ (fun b o e => ?_) (.inl (.inl upd_same))⟩
  · have e : cutV xs lo hi = xs := by
      unfold cutV
      rw [hw.1, hw.2]
      simp
    rw [e]; exact hx
  · rw [upd_ne (ne_of_none e hp)]; exact e
def rCatU (K : PySem.W.Frag) : R2 := fun x y H Q => ∃ a b xs ys, x = .ref a ∧ y = .ref b ∧ SqT K H a xs ∧ SqT K H b ys ∧ xs.length + ys.length ≤ sizeLine ∧ ∀ q H', Same H H' → SqT K H' q (xs ++ ys) → Q (.ref q) H'
theorem op_catU : OpR X (binaryOp .Add) (rCatU X.K) := opr_imp op_catA fun x y H Q h => by
  obtain ⟨a, b, xs, ys, rfl, rfl, ha, hb, hz, q⟩ := h
  refine ⟨a, b, xs, ys, rfl, rfl, ha, hb, hz, fun e => q b H (Same.refl H) ?_, fun _ e => q a H (Same.refl H) ?_, fun _ _ p hp => q p _ (fun c o e => ?_) (.inl (.inl upd_same))⟩
  · subst e; exact hb
  · subst e; rw [List.append_nil]; exact ha
  · rw [upd_ne (ne_of_none e hp)]; exact e
/-- tuple(x) of a list or tuple -/
theorem call_tupleU : CallR X (.type "tuple") (fun xs H Q => ∃ p ys, xs = [.ref p] ∧ (SqL X.K H p ys ∨ SqT X.K H p ys) ∧ ∀ q H', Same H H' → SqT X.K H' q ys → Q (.ref q) H') := cr_imp call_tuple_of fun xs H Q h => by
  obtain ⟨p, ys, rfl, h, q⟩ := h
  refine ⟨p, ys, rfl, ?_⟩
  rcases h with h | h
  · exact .inl ⟨h, fun l hl => q l _ (fun c o e => by rw [upd_ne (ne_of_none e hl)]; exact e) (.inl (.inl upd_same))⟩
  · exact .inr ⟨h, q p H (Same.refl H) h⟩
end
/-! ### calls by keywords alone -/
def tCallZ (m : Nat) (sp : Sp) (gV : List V → List V) (E : XK) (tk : TA) : TE := fun σ H Q => tk σ H fun zs H2 => zs.length = m ∧ sp (gV zs) H2 Q E
section
variable {X : Cx} {CX : CXT} {k : Nat} {f : Addr} {fd : FuncData} {ps ks : List Str} {sp : Sp} {E : XK} {x : Str} {p pos : Pos} {kws : List Keyword} {tk : TA} {g : List Value → List Value} {gV : List V → List V}
/-- f(k = v, ..) -/
theorem pe_callZ (F : FnOk X.prog X.w X.K X.mg X.base CX k f fd ps sp) (hr : Room k X.A) (hg : Gl X x) (hm : X.mg x = some (.ref f)) (hk : PySem.W.keepIn X.K (.ref f) = true) (hb : KBn X.K fd ps 0 ks (fun _ ws => g ws) (fun _ zs => gV zs)) (hx : Passes CX X E)
    (hkw : PK X kws tk) (hall : (backToKw pos (keywordEach kws X.env)).all (·.1.isSome) = true := by rfl) (hks : (backToKw pos (keywordEach kws X.env)).filterMap (·.1) = ks := by rfl)
    (hdb : (x == ("__debug__" : Str)) = false := by decide)
    (hpl : ((backTo pos (starEach [] X.env)).any (·.1) || (backToKw pos (keywordEach kws X.env)).any (·.1.isNone)) = false := by rfl) :
    PE X (.Call (.Name x p) [] kws pos) (tCallZ ks.length sp gV E tk) := by
  refine ⟨fun pins s σ H Q I h => ?_⟩
  refine wpAny_Call_Name_kw (ld_glob I hg hm ?_ hdb)
  refine PySem.W.callWith_KW0 (h₀ := X.base) I.ok.mod.kin hk hall (thn (hkw.run pos pins s σ H _ I h) fun ws s2 ⟨zs, H2, I2, rz, l2, q2⟩ => ⟨I2.kIn, ?_⟩) hpl
  rw [hks]
  exact run_fnN F hr hb hx I2 .nil rz rfl l2 q2
end
theorem kb_of {K : PySem.W.Frag} {x qual : Str} {st : Stmt} {f : Addr} {fd : FuncData} {ps : List Str} (F : Fun K x qual st f fd) {n : Nat} {ks : List Str} (g : {α : Type} → List α → List α → List α)
    (hrel : ∀ {vs zs : List V} {us ws : List Value}, Vals vs us → Vals zs ws → Vals (g vs zs) (g us ws))
    (h : ∀ (kV doc pm : Value) (an : Option Addr) (cdv ct : Value) (us ws : List Value), us.length = n → ws.length = ks.length → bindArgs (PySem.W.fnOf x qual (defArgs st) (defBody st) (defScope st) .none kV doc pm an cdv ct) ⟨us, ks.zip ws⟩ = pure (ps.zip (g us ws))) : KBn K fd ps n ks (fun us ws => g us ws) (fun vs zs => g vs zs) := by
  obtain ⟨oc, od, kV, doc, pm, an, cdv, ct, osl, rfl, lk, hcd⟩ := F.ex
  exact ⟨fun s us ws _ l1 l2 => .of_eq (h kV doc pm an cdv ct us ws l1 l2), hrel⟩
end LK

namespace LK
open PySem PySem.Spec PyProof.Rows L2
/-! ### t[::-1] of a tuple -/
theorem fm_map {α β : Type} {f : α → Option β} {g : α → β} : ∀ {l : List α}, (∀ m ∈ l, f m = some (g m)) → l.filterMap f = l.map g
  | [], _ => rfl
  | a :: l, h => by
    rw [List.filterMap_cons, h a List.mem_cons_self]
    exact congrArg (g a :: ·) (fm_map fun m hm => h m (List.mem_cons_of_mem _ hm))
theorem rev_pick (xs : Array Value) : ((List.range xs.size).filterMap fun (m : Nat) => xs[(((xs.size : Int) - 1) + (m : Int) * (-1)).toNat]?).toArray = xs.toList.reverse.toArray := by
  have e : ((List.range xs.size).filterMap fun (m : Nat) => xs[(((xs.size : Int) - 1) + (m : Int) * (-1)).toNat]?) = xs.toList.reverse := by
    have h : ∀ m ∈ List.range xs.size, (xs[(((xs.size : Int) - 1) + (m : Int) * (-1)).toNat]?) = some (xs.toList.reverse.getD m .none) := by
      intro m hm
      have hm := List.mem_range.mp hm
      have e1 : (((xs.size : Int) - 1) + (m : Int) * (-1)).toNat = xs.size - 1 - m := by omega
      rw [e1, List.getD_eq_getElem?_getD, List.getElem?_reverse (by simpa using hm)]
      rw [Array.getElem?_eq_getElem (by omega), Array.length_toList, List.getElem?_eq_getElem (by rw [Array.length_toList]; omega)]
      rfl
    rw [fm_map h]
    refine List.ext_getElem? fun i => ?_
    rw [List.getElem?_map]
    by_cases hi : i < xs.size
    · rw [List.getElem?_range hi, List.getElem?_eq_getElem (by simpa using hi)]
      simp [List.getElem?_eq_getElem, hi]
    · rw [List.getElem?_eq_none (by simpa using hi), List.getElem?_eq_none (by simpa using hi)]
      rfl
  rw [e]
section
variable {prog : Program} {w : World} {A : Around} {E : Value → Shared → Prop} {s : Shared}
theorem sliceApplied_rev {sl : Addr} {vl vu vs : Value} {n : Nat} {Q : Int × Int × Nat → Shared → Prop} (hs : s.heap.IsSliceOf sl vl vu vs) (pl : IsPart vl none) (pu : IsPart vu none) (ps : IsPart vs (some (-1)))
    (h : Q ((n : Int) - 1, -1, n) s) : wpAny (model prog w) A (Builtin.Slice.sliceApplied (.ref sl) (pure (n : Int))) Q E s := by
  obtain ⟨os, hos, hcs, hds⟩ := id hs
  unfold Builtin.Slice.sliceApplied Builtin.Slice.sliceFields
  refine wpAny_bind (wpAny_bind (wpAny_field hos hds (x := vl) rfl (wpAny_bind (wpAny_field hos hds (x := vu) rfl (wpAny_bind (wpAny_field hos hds (x := vs) rfl (wpAny_pure ?_)))))))
  refine wpAny_bind (HT.slicePart_ ps ?_)
  show wpAny _ _ (if ((-1 : Int) == 0) = true then _ else _) _ _ s
  rw [if_neg (by decide)]
  refine wpAny_bind (HT.slicePart_ pl (wpAny_bind (HT.slicePart_ pu (wpAny_bind (wpAny_pure ?_)))))
  show wpAny _ _ (match Builtin.Slice.sliceAdjust none none (-1) (n : Int) with | (lo, hi) => pure (lo, (-1 : Int), Builtin.Slice.slicePlaces lo hi (-1))) _ _ s
  have e1 : Builtin.Slice.sliceAdjust none none (-1) (n : Int) = ((n : Int) - 1, -1) := rfl
  rw [e1]
  show wpAny _ _ (pure ((n : Int) - 1, (-1 : Int), Builtin.Slice.slicePlaces ((n : Int) - 1) (-1) (-1))) _ _ s
  have e2 : Builtin.Slice.slicePlaces ((n : Int) - 1) (-1) (-1) = n := by
    unfold Builtin.Slice.slicePlaces
    rw [if_neg (by decide)]
    by_cases c : n = 0
    · subst c; rfl
    · rw [if_pos (by omega)]
      show (((n : Int) - 1 - -1 - 1) / 1 + 1).toNat = n
      rw [Int.ediv_one]; omega
  rw [e2]
  exact wpAny_pure h
theorem getItem_tuple_rev {t sl : Addr} {items : Array Value} {vl vu vs : Value} {Q : Value → Shared → Prop} (ht : IsTup s.heap t items) (hs : s.heap.IsSliceOf sl vl vu vs) (pl : IsPart vl none) (pu : IsPart vu none) (ps : IsPart vs (some (-1)))
    (h : Q (.ref s.heap.objs.size) { s with heap := s.heap.push { cls := .type "tuple", data := .seq items.toList.reverse.toArray } })
    (hsz : items.size ≤ sizeLine) : wpAny (model prog w) A (getItem (.ref t) (.ref sl)) Q E s := by
  have htake : sizeOk (.seq items.toList.reverse.toArray) := by
    show items.toList.reverse.toArray.size ≤ sizeLine
    simpa using hsz
  obtain ⟨os, hos, hcs, hds⟩ := id hs
  have hTs : s.TypeIs (.ref sl) "slice" := ⟨os, hos, hcs⟩
  unfold getItem
  try with_reducible refine wpAny_holding ?_
  first | refine wpAny_bind (wpAny_pure ?_) | skip
  refine wpAny_bind (wpAny_sequenceKey ht.typeIs (by decide) ?_)
  refine wpAny_bind (wpAny_callSpecial?_slot (name := Str.ofString "__getitem__") ht.typeIs PyProof.Rows.slot_tuple_getitem
    (wpAny_call_entry PyProof.Rows.slot_tuple_getitem ht.typeIs PyProof.Rows.entry_tuple_getitem ?_ (PyProof.Rows.args_tuple_getitem _ _)))
  show wpAny _ _ (Builtin.Tuple.tupleItemsOf (.ref t) >>= _) _ _ s
  refine wpAny_bind (PyProof.Rows.tupleItemsOf_ ht ?_)
  refine wpAny_bind (wpAny_typeOf hTs ?_)
  rw [if_pos (by decide)]
  refine wpAny_bind (sliceApplied_rev hs pl pu ps ?_)
  have hno : ¬ ((((items.size : Int) - 1) == 0 && (-1 : Int) == 1 && items.size == items.size) = true) := by
    intro q
    rw [Bool.and_eq_true, Bool.and_eq_true] at q
    exact absurd (eq_of_beq q.1.2) (by decide)
  show wpAny _ _ (if (((items.size : Int) - 1) == 0 && (-1 : Int) == 1 && items.size == items.size) = true then _ else _) _ _ s
  rw [if_neg hno, rev_pick]
  first
    | exact wpAny_bind (m := Builtin.Tuple.tupleExact _) (wpAny_newObj_type (wpAny_pure ⟨_, rfl, wpAny_pure h⟩) htake)
    | exact wpAny_bind (m := Builtin.Tuple.tupleExact _) (wpAny_newObj_type (wpAny_bind (wpAny_pure (wpAny_pure ⟨_, rfl, wpAny_pure h⟩))) htake)
    | exact wpAny_bind (wpAny_bind (m := Builtin.Tuple.tupleExact _) (wpAny_newObj_type (wpAny_pure (wpAny_pure ⟨_, rfl, wpAny_pure h⟩)) htake))
    | exact wpAny_bind (wpAny_bind (m := Builtin.Tuple.tupleExact _) (wpAny_newObj_type (wpAny_pure ⟨_, rfl, wpAny_pure h⟩) htake))
end
section
variable {X : Cx}
def tRevT (K : PySem.W.Frag) (te : TE) : TE := fun σ H Q => te σ H fun x H1 => ∃ a xs, x = .ref a ∧ SqT K H1 a xs ∧ ∀ p H2, Same H1 H2 → H1 p = none → H2 p = some (.tup xs.reverse) → Q (.ref p) H2
theorem pe_revT {e : Expr} {te : TE} {k : Nat} {p1 p2 p3 pos : Pos} (he : PE X e te) : PE X (.Subscript e (.Slice none none (some (.UnaryOp .USub (.Constant (.int 1) k p1) p2)) p3) pos) (tRevT X.K te) := by
  refine ⟨fun pins s σ H Q I h => ?_⟩
  refine Subscript_ (thn (he.run pins s σ H _ I h) fun v s1 ⟨x, H1, I1, r1, q1⟩ => ?_)
  obtain ⟨a, xs, ex, hx, q⟩ := q1
  subst ex
  cases r1
  have hst : PO X (some (.UnaryOp .USub (.Constant (.int 1) k p1) p2)) (tPart (tUn (rU fun i => .int (-i)) (tC (.int 1)))) := po_some (pe_un un_neg pe_int)
  refine wpAny_Slice (thn (po_none.run pins s1 σ H1 (fun o H2 => o = none ∧ H2 = H1) I1 ⟨rfl, rfl⟩) fun vl s2 ⟨l, H2, I2, pl, el, e2⟩ => ?_)
  subst el e2
  refine thn (po_none.run pins s2 σ H2 (fun o H3 => o = none ∧ H3 = H2) I2 ⟨rfl, rfl⟩) fun vu s3 ⟨u, H3, I3, pu, eu, e3⟩ => ?_
  subst eu e3
  refine thn (hst.run pins s3 σ H3 (fun o H4 => o = some (-1) ∧ H4 = H3) I3 ⟨1, rfl, -1, rfl, rfl, rfl⟩) fun vs s4 ⟨o, H4, I4, ps, eo, e4⟩ => ?_
  subst eo e4
  have I5 : Inv X pins σ H4 { s4 with heap := s4.heap.push { cls := .type "slice", data := .fields #[vl, vu, vs] } } := I4.kept (t' := s4.toks) fun b ob q => Heap.get?_push_of_some _ q
  obtain ⟨its, r, ht, hz⟩ := I5.tuple hx
  have hlen := r.length
  show wpAny (model X.prog X.w) X.A (subscriptTail e (.Slice none none (some (.UnaryOp .USub (.Constant (.int 1) k p1) p2)) p3) (.ref a) (.ref s4.heap.objs.size)) (EP X pins σ Q) X.xe { s4 with heap := s4.heap.push { cls := .type "slice", data := .fields #[vl, vu, vs] } }
  refine tail_any (ops := [.ref a, .ref s4.heap.objs.size]) ht.typeIs (PyProof.Rows.slot_tuple_getitem.lookup) ?_ (by with_unfolding_all rfl)
  refine getItem_tuple_rev ht (Heap.IsSliceOf.new _ vl vu vs) pl pu ps ?_ (by rw [List.size_toArray]; omega)
  refine ⟨.ref _, _, I5.laid (t' := s4.toks) (o := .tup xs.reverse) (fun b ob q => Heap.get?_push_of_some _ q) (Nat.le_refl _) ?_, rfl, q _ _ (same_upd (I5.hok.fresh (Nat.le_refl _))) (I5.hok.fresh (Nat.le_refl _)) upd_same⟩
  exact ⟨by rw [List.length_reverse]; exact hz, _, r.reverse, IsTup.new _ _⟩
end
end LK
namespace LK
open PySem PySem.Spec PyProof.Rows L2
/-! ### d.get(k) of a written dict with text keys -/
section
variable {X : Cx} {d : Addr} {es : Array DictEntry} {n : Nat} {o e : Expr} {apos cpos : Pos} {td ty : TE}
def tWget (K : PySem.W.Frag) (d : Addr) (td ty : TE) : TE := fun σ H Q => td σ H fun x H1 => x = .ref d ∧ ty σ H1 fun y H2 => ∃ (z : Str) (r : Option Value) (v : V), y = .str z ∧ PySem.W.nsIn K d z = some r ∧ RelV v (r.getD .none) ∧ Q v H2
theorem pe_wget (D : KDict X.K X.w d es n) (ho : PE X o td) (he : PE X e ty) (hbase : attributeBase o "get" X.env (eval o X.env) = eval o X.env := by rfl)
    (hfew : ((backTo cpos (starEach [e] X.env)).all (fun x => !x.1) && (backToKw cpos (keywordEach [] X.env)).all (fun x => x.1.isSome)
    && decide (([e] : List Expr).length + ([] : List Keyword).length + (if ([] : List Keyword).isEmpty then 0 else 1) < 30)) = true := by rfl)
    (hline : (apos.endLine == cpos.line) = true := by rfl) (htr : backTo cpos (starEach [e] X.env) = [(false, eval e X.env)] := by rfl) : PE X (.Call (.Attribute o "get" apos) [e] [] cpos) (tWget X.K d td ty) := by
  refine ⟨fun pins s σ H Q I h => ?_⟩
  refine wpAny_Call_method hbase hfew hline PySem.F.plainAttrs_dict PySem.F.slot_dict_get PySem.F.type_dict_get (thn (ho.run pins s σ H _ I h) fun u s1 ⟨x, H1, I1, rx, ex, q1⟩ => ?_)
  subst ex
  obtain rfl : u = Value.ref d := rx
  have ob := I1.kIn _ _ D.at_
  refine ⟨kd_type D I1, fun b q => ?_, ?_⟩
  · cases q
    exact ⟨_, ob, rfl⟩
  rw [htr]
  refine Calls.callWith_builtin rfl (Calls.evalArgs_plain (Calls.spliced_cons (thn (he.run pins s1 σ H1 _ I1 q1) fun iv s2 ⟨y, H2, I2, ry, z, r, v, ey, hn, rv, q2⟩ => Calls.spliced_nil ?_)))
  subst ey
  obtain ⟨t, rfl⟩ := ry
  refine call_meetsIn PySem.F.slot_dict_get (kd_type D I2) PySem.F.entry_dict_get (PySem.F.args_dict_get_2 _ _) (meets_dict_get (strKind X.prog X.w) d (PySem.strKind_is X.prog X.w z t) D.low)
    ⟨_, PySem.W.mapOf_K (prog := X.prog) I2.kIn D.at_ D.lit, v, H2, I2.tok _, ?_, q2⟩
  rw [PySem.W.find_K D.at_ hn]
  exact rv
end
end LK
namespace LK
open PySem PySem.Spec PyProof.Rows L2
/-! ### comprehensions without tests -/
/-- what is new since H -/
def nw (H H' : Hp) : Hp := fun a => if H a = none then H' a else none
theorem nw_some {H H' : Hp} {a : Addr} {o : HO} (h : nw H H' a = some o) : H a = none ∧ H' a = some o := by
  unfold nw at h
  split at h
  · exact ⟨by assumption, h⟩
  · cases h
theorem nw_of {H H' : Hp} {a : Addr} {o : HO} (h0 : H a = none) (h : H' a = some o) : nw H H' a = some o := by
  unfold nw
  rw [if_pos h0]; exact h
theorem nw_le (H H' : Hp) : Same (nw H H') H' := fun _ _ h => (nw_some h).2
theorem nw_hb {H H' : Hp} {b : Addr} {o : HO} (h : H b = some o) : Same (nw H H') (hb H' b) := fun a u e => by
  obtain ⟨h1, h2⟩ := nw_some e
  have n : a ≠ b := fun q => by rw [q, h] at h1; cases h1
  rw [hb_ne n]; exact h2
/-- new since a later heap is new since an earlier one -/
theorem nw_anti {H0 H H' : Hp} (d : ∀ a, H a = none → H0 a = none) : Same (nw H H') (nw H0 H') := fun a u e => by
  obtain ⟨h1, h2⟩ := nw_some e
  exact nw_of (d a h1) h2
theorem nw_same {H H' H'' : Hp} (s : ∀ a o, H a = none → H' a = some o → H'' a = some o) : Same (nw H H') (nw H H'') := fun a u e => by
  obtain ⟨h1, h2⟩ := nw_some e
  exact nw_of h1 (s _ _ h1 h2)
theorem Kp.dom {b : Addr} {H H' : Hp} {o : HO} (k : Kp b H H') (hb' : H' b = some o) : ∀ a, H' a = none → H a = none := fun a h => by
  cases q : H a with
  | none => rfl
  | some u =>
    by_cases e : a = b
    · subst e; rw [hb'] at h; cases h
    · rw [k.hd q e] at h; cases h
theorem Same.dom {H H' : Hp} (k : Same H H') : ∀ a, H' a = none → H a = none := fun a h => k.free h

/-- a pure one -/
theorem lc_pure {J : It} {n : Nat} {G : Hp → Prop} {Y : Nat → Hp → V → Hp → Prop} (w : Walk J n G Y) {g : TG} {te : TE} {vs : List Nat} {σ : L2.St} {H1 : Hp} {D : Addr} {Qd : Hp → Prop} (hD : H1 D = none) (hn : n ≤ 1000000) (y : Nat → V)
    (hG : ∀ H, Same H1 H → G H)
    (hs : ∀ i x H H', i < n → Same H1 H → Y i H x H' → g x (wipe σ vs) H' fun σ2 H2 => Same H H2 ∧ wipe σ2 vs = wipe σ vs ∧ ∀ Q2 : V → Hp → Prop, (∀ H3, Same H2 H3 → Q2 (y i) H3) → te σ2 H2 Q2)
    (gm : ∀ x σ0 H0 Q0 Q1, (∀ σ2 H2, Q0 σ2 H2 → Q1 σ2 H2) → g x σ0 H0 Q0 → g x σ0 H0 Q1)
    (hq : ∀ H', Same H1 H' → H' D = some (.lst ((List.range n).map y)) → Qd H') :
    ∃ W : Nat → Nat → Hp → Prop, (∃ m, W 0 m (upd H1 D (.lst []))) ∧ ∀ i m H, W i m H →
      (J.stop i H ∧ Qd H) ∨ (J.go i H ∧ ∃ Nx : Hp → Prop, (∀ H', Nx H' → ∃ m', m' < m ∧ W (i + 1) m' H') ∧ ∀ x H', J.yld i H x H' → g x (wipe σ vs) H' fun σ2 H2 => wipe σ2 vs = wipe σ vs ∧ tYes σ2 H2 fun b H3 =>
        if b = true then te σ2 H3 fun y H4 => ∃ acc, H4 D = some (.lst acc) ∧ acc.length < sizeLine ∧ Nx (upd H4 D (.lst (acc ++ [y]))) else Nx H3) := by
  have up : ∀ {H : Hp} {o : HO}, Same H1 H → Same H1 (upd H D o) := fun s a u e => by
    rw [upd_ne (ne_of_none e hD)]; exact s _ _ e
  refine lc_it w (fun i H => Same H1 H ∧ H D = some (.lst ((List.range i).map y))) ⟨up (Same.refl _), upd_same⟩ (fun i H _ h => hG H h.1) (fun i x H H' hi ⟨s1, h1⟩ hY => ?_) (fun H h => hq H h.1 h.2)
  refine gm _ _ _ _ _ (fun σ2 H2 ⟨s2, e2, k⟩ => ⟨e2, ?_⟩) (hs i x H H' hi s1 hY)
  simp only [tYes, eq_self, ite_true]
  refine k _ fun H3 s3 => ⟨_, s3 _ _ (s2 _ _ h1), ?_, up (Same.trans (Same.trans s1 s2) s3), ?_⟩
  · rw [List.length_map, List.length_range]
    exact Nat.lt_of_lt_of_le (Nat.lt_of_lt_of_le hi hn) (by decide)
  · rw [upd_same, List.range_succ, List.map_append]
    rfl
/-- one that draws from a bag -/
theorem lc_bag {J : It} {n : Nat} {G : Hp → Prop} {Y : Nat → Hp → V → Hp → Prop} (w : Walk J n G Y) {g : TG} {te : TE} {vs : List Nat} {σ : L2.St} {H1 : Hp} {D b c : Addr} {Qd : Hp → Prop} (hD : H1 D = none) (hB : Bag H1 b c) (hn : n ≤ 1000000) (Φ : Hp → V → Prop) (mono : ∀ G G' v, Same G G' → Φ G v → Φ G' v)
    (hG : ∀ H, Kp b H1 H → G H)
    (hs : ∀ i x H H', i < n → Kp b H1 H → Bag H b c → Y i H x H' → g x (wipe σ vs) H' fun σ2 H2 => Same H H2 ∧ wipe σ2 vs = wipe σ vs ∧ ∀ Q2 : V → Hp → Prop, (∀ v H3, Bag H3 b c → Kp b H2 H3 → Φ (nw H2 H3) v → Q2 v H3) → te σ2 H2 Q2)
    (gm : ∀ x σ0 H0 Q0 Q1, (∀ σ2 H2, Q0 σ2 H2 → Q1 σ2 H2) → g x σ0 H0 Q0 → g x σ0 H0 Q1)
    (hq : ∀ H' ys, Bag H' b c → Kp b H1 H' → H' D = some (.lst ys) → ys.length = n → (∀ v ∈ ys, Φ (nw (upd H1 D (.lst [])) H') v) → Qd H') :
    ∃ W : Nat → Nat → Hp → Prop, (∃ m, W 0 m (upd H1 D (.lst []))) ∧ ∀ i m H, W i m H →
      (J.stop i H ∧ Qd H) ∨ (J.go i H ∧ ∃ Nx : Hp → Prop, (∀ H', Nx H' → ∃ m', m' < m ∧ W (i + 1) m' H') ∧ ∀ x H', J.yld i H x H' → g x (wipe σ vs) H' fun σ2 H2 => wipe σ2 vs = wipe σ vs ∧ tYes σ2 H2 fun b H3 =>
        if b = true then te σ2 H3 fun y H4 => ∃ acc, H4 D = some (.lst acc) ∧ acc.length < sizeLine ∧ Nx (upd H4 D (.lst (acc ++ [y]))) else Nx H3) := by
  obtain ⟨xb, eb⟩ := hB.at
  obtain ⟨xc, ec⟩ := hB.at2
  have nbD : b ≠ D := fun e => by rw [← e, eb] at hD; cases hD
  have ncD : c ≠ D := fun e => by rw [← e, ec] at hD; cases hD
  have up : ∀ {H : Hp} {o : HO}, Kp b H1 H → Kp b H1 (upd H D o) := fun s a u e => by
    obtain ⟨h1, h2⟩ := hb_some e
    rw [hb_ne h1, upd_ne (ne_of_none h2 hD)]
    exact s.hd h2 h1
  refine lc_it w (fun i H => Kp b H1 H ∧ Bag H b c ∧ ∃ ys, H D = some (.lst ys) ∧ ys.length = i ∧ ∀ v ∈ ys, Φ (nw (upd H1 D (.lst [])) H) v) ⟨up (Kp.refl _ _), hB.upd nbD ncD, [], upd_same, rfl, fun v hv => absurd hv (by simp)⟩ (fun i H _ h => hG H h.1) (fun i x H H' hi ⟨s1, B1, ys, h1, hl, hp⟩ hY => ?_) (fun H ⟨s1, B1, ys, h1, hl, hp⟩ => hq H ys B1 s1 h1 hl hp)
  refine gm _ _ _ _ _ (fun σ2 H2 ⟨s2, e2, k⟩ => ⟨e2, ?_⟩) (hs i x H H' hi s1 B1 hY)
  simp only [tYes, eq_self, ite_true]
  have B2 := B1.same s2
  refine k _ fun v H3 B3 k3 hv => ⟨ys, k3.hd (s2 _ _ h1) nbD.symm, ?_, up (Same.trans (Same.trans s1 (Kp.of s2)) k3), B3.upd nbD ncD, ys ++ [v], upd_same, by rw [List.length_append, hl]; rfl, fun u hu => ?_⟩
  · rw [hl]
    exact Nat.lt_of_lt_of_le (Nat.lt_of_lt_of_le hi hn) (by decide)
  · have kk : ∀ a o, upd H1 D (.lst []) a = none → H3 a = some o → upd H3 D (.lst (ys ++ [v])) a = some o := fun a o q e => by
      have n : a ≠ D := fun z => by rw [z, upd_same] at q; cases q
      rw [upd_ne n]; exact e
    rcases List.mem_append.mp hu with hu | hu
    · refine mono _ _ _ (fun a o e => ?_) (hp u hu)
      obtain ⟨q1, q2⟩ := nw_some e
      have n : a ≠ b := fun z => by rw [z, upd_ne nbD, eb] at q1; cases q1
      exact nw_of q1 (kk _ _ q1 (k3.hd (s2 _ _ q2) n))
    · obtain rfl : u = v := by simpa using hu
      refine mono _ _ _ (fun a o e => ?_) hv
      obtain ⟨q1, q2⟩ := nw_some e
      have d1 : upd H1 D (.lst []) a = none := by
        by_cases n : a = D
        · rw [n, s2 _ _ h1] at q1; cases q1
        · rw [upd_ne n]
          exact Kp.dom (Same.trans s1 (Kp.of s2)) (B2.at.choose_spec) a q1
      exact nw_of d1 (kk _ _ d1 q2)
end LK
namespace LK
open PySem PySem.Spec PyProof.Rows L2
theorem cutV_take (xs : List V) (k : Nat) : cutV xs none (some (k : Int)) = xs.take k := by
  unfold cutV HT.sIx
  simp only [List.drop_zero, Nat.sub_zero]
  by_cases h : (k : Int) < 0
  · omega
  · rw [if_neg h]
    have e : ((k : Int)).toNat = k := Int.toNat_natCast k
    by_cases c : k ≤ xs.length
    · congr 1
      omega
    · rw [List.take_of_length_le (by omega), List.take_of_length_le (by omega)]
theorem cutV_drop (xs : List V) (k : Nat) : cutV xs (some (k : Int)) none = xs.drop k := by
  unfold cutV
  rw [HT.sIx_nat, HT.sIx_none]
  by_cases c : k ≤ xs.length
  · rw [Nat.min_eq_left c, List.take_of_length_le (by simp)]
  · rw [Nat.min_eq_right (by omega), List.drop_eq_nil_of_le (by omega), List.drop_eq_nil_of_le (by omega)]
    simp
end LK
namespace LK
open PySem PySem.Spec PyProof.Rows L2
/-! ### new objects, the heap behind them by a name -/
section
variable {X : Cx} {es : List Expr} {t : TA} {pos : Pos}
def tTupU (t : TA) : TE := fun σ H Q => t σ H fun xs H1 => xs.length ≤ sizeLine ∧ ∀ p H2, Same H1 H2 → H1 p = none → H2 p = some (.tup xs) → Q (.ref p) H2
def tLstU (t : TA) : TE := fun σ H Q => t σ H fun xs H1 => xs.length ≤ sizeLine ∧ ∀ p H2, Same H1 H2 → H1 p = none → H2 p = some (.lst xs) → Q (.ref p) H2
theorem pe_tupU {x1} (h : PA X es t) : PE X (.Tuple es x1 pos) (tTupU t) := by
  refine ⟨fun pins s σ H Q I hq => ?_⟩
  refine wpAny_Tuple_spliced (thn (h.run pos pins s σ H _ I hq) fun us s1 ⟨xs, H1, I1, r, z, q⟩ => ⟨by rw [← r.length]; exact z, ?_⟩)
  have hf : H1 s1.heap.objs.size = none := I1.hok.fresh (Nat.le_refl _)
  refine ⟨.ref s1.heap.objs.size, L2.upd H1 s1.heap.objs.size (.tup xs), I1.laid (t' := s1.toks) (fun b u e => Heap.get?_push_of_some _ e) (Nat.le_refl _) ?_, rfl, q _ _ (same_upd hf) hf upd_same⟩
  exact ⟨z, us, r, ⟨_, Heap.get?_push_size _ rfl, rfl, _, rfl⟩⟩
theorem pe_lstU (h : PA X es t) : PE X (.List es pos) (tLstU t) := by
  refine ⟨fun pins s σ H Q I hq => ?_⟩
  refine wpAny_List_spliced (thn (h.run pos pins s σ H _ I hq) fun us s1 ⟨xs, H1, I1, r, z, q⟩ => ⟨by rw [← r.length]; exact z, ?_⟩)
  have hf : H1 s1.heap.objs.size = none := I1.hok.fresh (Nat.le_refl _)
  refine ⟨.ref s1.heap.objs.size, L2.upd H1 s1.heap.objs.size (.lst xs), I1.laid (t' := s1.toks) (fun b u e => Heap.get?_push_of_some _ e) (Nat.le_refl _) ?_, rfl, q _ _ (same_upd hf) hf upd_same⟩
  exact ⟨z, us, 0, r, Heap.get?_push_size _ rfl⟩
def rSlLU (K : PySem.W.Frag) : V → Option Int → Option Int → Hp → VK → Prop := fun x lo hi H Q => ∃ a xs, x = .ref a ∧ SqL K H a xs ∧ ∀ p H2, Same H H2 → H p = none → H2 p = some (.lst (cutV xs lo hi)) → Q (.ref p) H2
theorem sl_listU : SlR X (rSlLU X.K) := by
  intro pins s σ H x v vl vu lo hi sl Q I rx hs pl pu h
  obtain ⟨a, xs, rfl, hx, q⟩ := h
  exact sl_list pins s σ H _ v vl vu lo hi sl Q I rx hs pl pu ⟨a, xs, rfl, hx, fun p hp => q p _ (same_upd hp) hp upd_same⟩
theorem call_listU : CallR X (.type "list") (fun xs H Q => ∃ p ys, xs = [.ref p] ∧ (SqL X.K H p ys ∨ SqT X.K H p ys) ∧ ∀ l H2, Same H H2 → H l = none → H2 l = some (.lst ys) → Q (.ref l) H2) := cr_imp call_list_of fun xs H Q h => by
  obtain ⟨p, ys, rfl, h, q⟩ := h
  exact ⟨p, ys, rfl, h, fun l hl => q l _ (same_upd hl) hl upd_same⟩
def rCatL : R2 := fun x y H Q => ∃ l b xs zs, x = .ref l ∧ y = .ref b ∧ H l = some (.lst xs) ∧ H b = some (.lst zs) ∧ xs.length + zs.length ≤ sizeLine ∧ ∀ p H2, Same H H2 → H p = none → H2 p = some (.lst (xs ++ zs)) → Q (.ref p) H2
theorem op_catL : OpR X (binaryOp .Add) rCatL := opr_imp op_cat fun x y H Q h => by
  obtain ⟨l, b, xs, zs, rfl, rfl, h1, h2, hz, q⟩ := h
  exact ⟨l, b, xs, zs, rfl, rfl, h1, h2, hz, fun p hp => q p _ (same_upd hp) hp upd_same⟩
def rRepL : R2 := fun x y H Q => ∃ l k xs, x = .ref l ∧ y = .int k ∧ H l = some (.lst xs) ∧ -(2 ^ 63) ≤ k ∧ k < 2 ^ 63 ∧ xs.length * k.toNat ≤ sizeLine ∧ ∀ p H2, Same H H2 → H p = none → H2 p = some (.lst (List.replicate k.toNat xs).flatten) → Q (.ref p) H2
theorem op_repL : OpR X (binaryOp .Mult) rRepL := opr_imp op_rep fun x y H Q h => by
  obtain ⟨l, k, xs, rfl, rfl, h1, h2, h3, hz, q⟩ := h
  exact ⟨l, k, xs, rfl, rfl, h1, h2, h3, hz, fun p hp => q p _ (same_upd hp) hp upd_same⟩
end
end LK
namespace LK
open PySem PySem.Spec PyProof.Rows L2
/-- [f(x) for x in ..], the items known -/
theorem lc_map {J : It} {n : Nat} {G : Hp → Prop} {Y : Nat → Hp → V → Hp → Prop} (w : Walk J n G Y) {te : TE} {i : Nat} {σ : L2.St} {H1 : Hp} {D : Addr} {Qd : Hp → Prop} (xs : List V) (f : V → V) (hD : H1 D = none) (hn : n ≤ 1000000) (hx : xs.length = n)
    (hY : ∀ k H x H', k < n → Y k H x H' → H' = H ∧ xs[k]? = some x) (hG : ∀ H, Same H1 H → G H)
    (hs : ∀ x H, x ∈ xs → Same H1 H → ∀ Q2 : V → Hp → Prop, (∀ H3, Same H H3 → Q2 (f x) H3) → te ((wipe σ [i]).set i (some x)) H Q2)
    (hq : ∀ H', Same H1 H' → H' D = some (.lst (xs.map f)) → Qd H') :
    ∃ W : Nat → Nat → Hp → Prop, (∃ m, W 0 m (L2.upd H1 D (.lst []))) ∧ ∀ i' m H, W i' m H →
      (J.stop i' H ∧ Qd H) ∨ (J.go i' H ∧ ∃ Nx : Hp → Prop, (∀ H', Nx H' → ∃ m', m' < m ∧ W (i' + 1) m' H') ∧ ∀ x H', J.yld i' H x H' → gName i x (wipe σ [i]) H' fun σ2 H2 => wipe σ2 [i] = wipe σ [i] ∧ tYes σ2 H2 fun b H3 =>
        if b = true then te σ2 H3 fun y H4 => ∃ acc, H4 D = some (.lst acc) ∧ acc.length < sizeLine ∧ Nx (L2.upd H4 D (.lst (acc ++ [y]))) else Nx H3) := by
  have e : (List.range n).map (fun k => f (xs.getD k .non)) = xs.map f := by
    refine List.ext_getElem? fun k => ?_
    rw [List.getElem?_map, List.getElem?_map]
    by_cases hk : k < n
    · rw [List.getElem?_range hk, List.getElem?_eq_getElem (by omega)]
      simp [List.getD_eq_getElem?_getD, List.getElem?_eq_getElem (show k < xs.length by omega)]
    · rw [List.getElem?_eq_none (by simpa using hk), List.getElem?_eq_none (by omega)]
      rfl
  refine lc_pure w hD hn (fun k => f (xs.getD k .non)) hG (fun k x H H' hk s1 y => ?_) (fun x σ0 H0 Q0 Q1 h q => h _ _ q) (fun H' s h => hq H' s (by rw [← e]; exact h))
  obtain ⟨rfl, hx2⟩ := hY _ _ _ _ hk y
  refine ⟨Same.refl _, ?_, fun Q2 h2 => hs x H' (List.mem_of_getElem? hx2) s1 Q2 fun H3 s3 => ?_⟩
  · show ((σ.set i none).set i (some x)).set i none = σ.set i none
    rw [List.set_set, List.set_set]
  · have e2 : xs.getD k .non = x := by rw [List.getD_eq_getElem?_getD, hx2]; rfl
    have := h2 H3 s3
    rw [e2] at this
    exact this
/-- the same, drawing from a bag -/
theorem lc_draw {J : It} {n : Nat} {G : Hp → Prop} {Y : Nat → Hp → V → Hp → Prop} (w : Walk J n G Y) {te : TE} {i : Nat} {σ : L2.St} {H1 : Hp} {D b c : Addr} {Qd : Hp → Prop} (Φ : Hp → V → Prop) (mono : ∀ G G' v, Same G G' → Φ G v → Φ G' v) (hD : H1 D = none) (hB : Bag H1 b c) (hn : n ≤ 1000000)
    (hY : ∀ k H x H', Y k H x H' → H' = H) (hG : ∀ H, Kp b H1 H → G H)
    (hs : ∀ x H, Kp b H1 H → Bag H b c → ∀ Q2 : V → Hp → Prop, (∀ v H3, Bag H3 b c → Kp b H H3 → Φ (nw H H3) v → Q2 v H3) → te ((wipe σ [i]).set i (some x)) H Q2)
    (hq : ∀ H' ys, Bag H' b c → Kp b H1 H' → H' D = some (.lst ys) → ys.length = n → (∀ v ∈ ys, Φ (nw (L2.upd H1 D (.lst [])) H') v) → Qd H') :
    ∃ W : Nat → Nat → Hp → Prop, (∃ m, W 0 m (L2.upd H1 D (.lst []))) ∧ ∀ i' m H, W i' m H →
      (J.stop i' H ∧ Qd H) ∨ (J.go i' H ∧ ∃ Nx : Hp → Prop, (∀ H', Nx H' → ∃ m', m' < m ∧ W (i' + 1) m' H') ∧ ∀ x H', J.yld i' H x H' → gName i x (wipe σ [i]) H' fun σ2 H2 => wipe σ2 [i] = wipe σ [i] ∧ tYes σ2 H2 fun b H3 =>
        if b = true then te σ2 H3 fun y H4 => ∃ acc, H4 D = some (.lst acc) ∧ acc.length < sizeLine ∧ Nx (L2.upd H4 D (.lst (acc ++ [y]))) else Nx H3) := by
  refine lc_bag w hD hB hn Φ mono hG (fun k x H H' hk s1 B1 y => ?_) (fun x σ0 H0 Q0 Q1 h q => h _ _ q) hq
  have e := hY _ _ _ _ y
  subst e
  refine ⟨Same.refl _, ?_, fun Q2 h2 => hs x H' s1 B1 Q2 h2⟩
  show ((σ.set i none).set i (some x)).set i none = σ.set i none
  rw [List.set_set, List.set_set]
def signsV (z : Str) : List V := z.cps.toList.map fun c => V.str ⟨#[c]⟩
theorem signsV_at {z : Str} : ∀ (k : Nat) (H : Hp) (x : V) (H' : Hp), (H' = H ∧ ∃ c, z.cps[k]? = some c ∧ x = V.str ⟨#[c]⟩) → H' = H ∧ (signsV z)[k]? = some x := by
  rintro k H x H' ⟨rfl, c, h, rfl⟩
  refine ⟨rfl, ?_⟩
  unfold signsV
  rw [List.getElem?_map, Array.getElem?_toList, h]
  rfl
theorem signsV_length (z : Str) : (signsV z).length = z.cps.size := by simp [signsV]
theorem all_map_id {α : Type} (p : α → Bool) (l : List α) : (l.map p).all id = l.all p := by
  rw [List.all_map]; rfl
end LK
namespace LK
open PySem PySem.Spec PyProof.Rows L2
/-- [p(c) for c in z], z a text -/
theorem lc_signs {z : Str} {te : TE} {i : Nat} {σ : L2.St} {H1 : Hp} {D : Addr} {Qd : Hp → Prop} (p : Nat → Bool) (hD : H1 D = none) (hz : z.length ≤ 1000000)
    (hs : ∀ c H, c ∈ z.cps.toList → Same H1 H → ∀ Q2 : V → Hp → Prop, (∀ H3, Same H H3 → Q2 (.bl (p c)) H3) → te ((wipe σ [i]).set i (some (.str ⟨#[c]⟩))) H Q2)
    (hq : ∀ H', Same H1 H' → H' D = some (.lst ((z.cps.toList.map p).map V.bl)) → Qd H') :
    ∃ W : Nat → Nat → Hp → Prop, (∃ m, W 0 m (L2.upd H1 D (.lst []))) ∧ ∀ i' m H, W i' m H →
      ((Its z).stop i' H ∧ Qd H) ∨ ((Its z).go i' H ∧ ∃ Nx : Hp → Prop, (∀ H', Nx H' → ∃ m', m' < m ∧ W (i' + 1) m' H') ∧ ∀ x H', (Its z).yld i' H x H' → gName i x (wipe σ [i]) H' fun σ2 H2 => wipe σ2 [i] = wipe σ [i] ∧ tYes σ2 H2 fun b H3 =>
        if b = true then te σ2 H3 fun y H4 => ∃ acc, H4 D = some (.lst acc) ∧ acc.length < sizeLine ∧ Nx (L2.upd H4 D (.lst (acc ++ [y]))) else Nx H3) := by
  refine lc_map walk_str (signsV z) (fun v => match v with | .str y => .bl (p (y.cps.toList.headD 0)) | _ => .non) hD hz (signsV_length z) (fun k H x H' _ y => signsV_at k H x H' y) (fun _ _ => trivial) (fun x H hx s1 Q2 h2 => ?_) (fun H' s h => hq H' s ?_)
  · obtain ⟨c, hc, rfl⟩ := List.mem_map.mp hx
    exact hs c H hc s1 Q2 h2
  · rw [h]
    unfold signsV
    rw [List.map_map, List.map_map]
    rfl
theorem starts_minus {z : Str} (h : Txt.startswith z "-" = true) : ∃ r, z.cps.toList = 45 :: r := by
  have h2 : PySem.StrLaws.At z "-" z.length 0 := by
    unfold Txt.startswith at h
    rw [Bool.and_eq_true] at h
    exact ⟨of_decide_eq_true h.1, h.2⟩
  have e : TL.tl "-" = [45] := by decide +kernel
  have q := (TL.at_iff (by rw [e]; simp) 0).mp h2
  rw [e, List.drop_zero] at q
  unfold TL.pre at q
  have q2 : z.cps.toList.take 1 = [45] := eq_of_beq q
  cases hz : z.cps.toList with
  | nil => rw [hz] at q2; simp at q2
  | cons c r => rw [hz] at q2; simp at q2; rw [q2]; exact ⟨r, rfl⟩
theorem cutS_tail (z : Str) : (cutS z (some 1) none).cps.toList = z.cps.toList.drop 1 := by
  unfold cutS
  have e1 := HT.sIx_nat z.length 0 1
  have l : z.length = z.cps.toList.length := by rw [Array.length_toList]; rfl
  show ((z.cps.toList.drop (HT.sIx z.length 0 (some ((1 : Nat) : Int)))).take (HT.sIx z.length z.length none - HT.sIx z.length 0 (some ((1 : Nat) : Int)))) = _
  rw [e1, HT.sIx_none]
  by_cases c : 1 ≤ z.length
  · rw [Nat.min_eq_left c, List.take_of_length_le (by rw [List.length_drop]; omega)]
  · rw [List.drop_eq_nil_of_le (by omega), List.drop_eq_nil_of_le (by omega)]
    simp
theorem len_cps (z : Str) : z.cps.toList.length = z.length := by rw [Array.length_toList]; rfl
end LK
namespace LK
theorem iteTT {c A B : Prop} [Decidable c] (hc : c) (h : A) : if c then A else B := by rw [if_pos hc]; exact h
theorem iteFF {c A B : Prop} [Decidable c] (hc : ¬ c) (h : B) : if c then A else B := by rw [if_neg hc]; exact h
end LK
namespace LK
open PySem PySem.Spec PyProof.Rows L2
theorem str_append (a b : Str) : (a ++ b).cps.toList = a.cps.toList ++ b.cps.toList := by
  show (a.cps ++ b.cps).toList = _
  exact Array.toList_append
theorem str_append_len (a b : Str) : (a ++ b).length = a.length + b.length := by
  rw [← len_cps, str_append, List.length_append, len_cps, len_cps]
theorem cutS_tail_len (z : Str) : (cutS z (some 1) none).length = z.length - 1 := by
  rw [← len_cps, cutS_tail, List.length_drop, len_cps]
theorem cutS_len (z : Str) (lo hi : Option Int) : (cutS z lo hi).length ≤ z.length := by
  rw [← len_cps, ← len_cps z]
  unfold cutS
  show (List.take _ (List.drop _ _)).length ≤ _
  rw [List.length_take, List.length_drop]
  omega
end LK
namespace LK
open PySem PySem.Spec PyProof.Rows L2
/-- [f(k) for k in range(n)] -/
theorem lc_rng {lo : Int} {n : Nat} {te : TE} {i : Nat} {σ : L2.St} {H1 : Hp} {D : Addr} {Qd : Hp → Prop} (f : Int → V) (hD : H1 D = none) (hn : n ≤ 1000000)
    (hs : ∀ (k : Nat) H, k < n → Same H1 H → ∀ Q2 : V → Hp → Prop, (∀ H3, Same H H3 → Q2 (f (lo + (k : Int))) H3) → te ((wipe σ [i]).set i (some (.int (lo + (k : Int))))) H Q2)
    (hq : ∀ H', Same H1 H' → H' D = some (.lst ((List.range n).map fun (k : Nat) => f (lo + (k : Int)))) → Qd H') :
    ∃ W : Nat → Nat → Hp → Prop, (∃ m, W 0 m (L2.upd H1 D (.lst []))) ∧ ∀ i' m H, W i' m H →
      ((Itr lo n).stop i' H ∧ Qd H) ∨ ((Itr lo n).go i' H ∧ ∃ Nx : Hp → Prop, (∀ H', Nx H' → ∃ m', m' < m ∧ W (i' + 1) m' H') ∧ ∀ x H', (Itr lo n).yld i' H x H' → gName i x (wipe σ [i]) H' fun σ2 H2 => wipe σ2 [i] = wipe σ [i] ∧ tYes σ2 H2 fun b H3 =>
        if b = true then te σ2 H3 fun y H4 => ∃ acc, H4 D = some (.lst acc) ∧ acc.length < sizeLine ∧ Nx (L2.upd H4 D (.lst (acc ++ [y]))) else Nx H3) := by
  refine lc_map walk_range ((List.range n).map fun (k : Nat) => V.int (lo + (k : Int))) (fun v => match v with | .int j => f j | _ => .non) hD hn (by rw [List.length_map, List.length_range]) (fun k H x H' hk y => ?_) (fun _ _ => trivial) (fun x H hx s1 Q2 h2 => ?_) (fun H' s h => hq H' s ?_)
  · refine ⟨y.1, ?_⟩
    rw [List.getElem?_map, List.getElem?_range hk, y.2]
    rfl
  · obtain ⟨k, hk, rfl⟩ := List.mem_map.mp hx
    exact hs k H (List.mem_range.mp hk) s1 Q2 h2
  · rw [h, List.map_map]
    rfl
end LK
namespace LK
open PySem PySem.Spec PyProof.Rows L2
section
variable {X : Cx} {K : PySem.W.Frag}
theorem call_isiDK (hK : X.K = K) : CallR X (.builtin "isinstance") (fun xs H Q => ∃ x T d, xs = [x, .ty T] ∧ Dp K H x d ∧ T ∈ ["str", "int", "bool", "list", "tuple"] ∧ Q (.bl (isTy T d)) H) := by
  subst hK
  exact call_isiD
end
end LK
namespace LK
open PySem PySem.Spec PyProof.Rows L2
section
variable {X : Cx}
/-- tuple(x) of a list: a new tuple -/
theorem call_tupleN : CallR X (.type "tuple") (fun xs H Q => ∃ p ys, xs = [.ref p] ∧ SqL X.K H p ys ∧ ∀ q H', Same H H' → H q = none → H' q = some (.tup ys) → Q (.ref q) H') := cr_imp call_tuple_of fun xs H Q h => by
  obtain ⟨p, ys, rfl, h, q⟩ := h
  exact ⟨p, ys, rfl, .inl ⟨h, fun l hl => q l _ (same_upd hl) hl upd_same⟩⟩
end
theorem strs_of {m : Nat} : ∀ {l : List V}, (∀ v ∈ l, ∃ z, v = V.str z ∧ z.length ≤ m) → ∃ zs : List Str, l = zs.map V.str ∧ ∀ z ∈ zs, z.length ≤ m
  | [], _ => ⟨[], rfl, fun z h => absurd h (by simp)⟩
  | v :: l, h => by
    obtain ⟨z, rfl, hz⟩ := h v List.mem_cons_self
    obtain ⟨zs, rfl, hzs⟩ := strs_of (l := l) fun v hv => h v (List.mem_cons_of_mem _ hv)
    refine ⟨z :: zs, rfl, fun y hy => ?_⟩
    rcases List.mem_cons.mp hy with rfl | hy
    · exact hz
    · exact hzs y hy
theorem sum_le {m : Nat} : ∀ {zs : List Str}, (∀ z ∈ zs, z.length ≤ m) → (zs.map (·.length)).sum ≤ zs.length * m
  | [], _ => by simp
  | z :: zs, h => by
    rw [List.map_cons, List.sum_cons, List.length_cons, Nat.succ_mul]
    have h1 := h z List.mem_cons_self
    have h2 := sum_le (zs := zs) fun y hy => h y (List.mem_cons_of_mem _ hy)
    omega
end LK
namespace LK
open PySem PySem.Spec PyProof.Rows L2
theorem joinL_len (S : List Nat) : ∀ ps : List (List Nat), (TL.joinL S ps).length ≤ (ps.map List.length).sum + ps.length * S.length
  | [] => by simp [TL.joinL]
  | [p] => by simp [TL.joinL]
  | p :: q :: r => by
    have ih := joinL_len S (q :: r)
    show (p ++ (S ++ TL.joinL S (q :: r))).length ≤ _
    rw [List.length_append, List.length_append, List.map_cons, List.sum_cons, List.length_cons, Nat.succ_mul]
    omega
theorem join_len (y : Str) (zs : List Str) : (Txt.join y zs).length ≤ (zs.map (·.length)).sum + zs.length * y.length := by
  rw [TL.join_eq, ← len_cps]
  have e := TL.tl_join y zs
  show (TL.tl (Str.join y zs)).length ≤ _
  rw [e]
  refine Nat.le_trans (joinL_len _ _) ?_
  rw [List.map_map, List.length_map]
  have e1 : ((zs.map (List.length ∘ TL.tl))) = zs.map (·.length) := List.map_congr_left fun z _ => len_cps z
  rw [e1]
  show _ + zs.length * (y.cps.toList).length ≤ _
  rw [len_cps]
  exact Nat.le_refl _
/-- the list that lc_draw has made, as texts -/
theorem kp_new {b c : Addr} {H H1 : Hp} (B : Bag H b c) (s : Same H H1) : Kp b H H1 ∧ Bag H1 b c := ⟨Kp.of s, B.same s⟩
theorem hb_new {b c p : Addr} {H H1 : Hp} {o : HO} (B : Bag H b c) (h0 : H p = none) (h1 : H1 p = some o) : hb H1 b p = some o := by
  have n : p ≠ b := fun e => by
    obtain ⟨xs, q⟩ := B.at
    rw [e, q] at h0; cases h0
  rw [hb_ne n]; exact h1
end LK
namespace LK
open PySem PySem.Spec PyProof.Rows L2
def isIntV : V → Bool
  | .int _ => true
  | _ => false
theorem ints_of {l : List V} (h : l.all isIntV = true) : ∀ y ∈ l, ∃ i, y = V.int i := fun y hy => by
  have q := List.all_eq_true.mp h y hy
  cases y <;> first | exact ⟨_, rfl⟩ | simp [isIntV] at q
end LK
namespace LK
open PySem PySem.Spec PyProof.Rows L2
theorem nx_op {t : TS} {D : Ends} {σ : L2.St} {H : Hp} (h : ∀ N : L2.St → Hp → Prop, (∀ σ' H', D.nx σ' H' → N σ' H') → t { D with nx := N } σ H) : t D σ H := h D.nx fun _ _ z => z
/-- a test that changes nothing and whose answer does not matter -/
theorem if_any {c : TT} {t u : TS} {D : Ends} {σ : L2.St} {H : Hp} (hc : ∀ K : Bool → Hp → Prop, (∀ b, K b H) → c σ H K) (hA : t D σ H) (hB : u D σ H) : tIfS c t u D σ H := hc _ fun b => by
  cases b
  · exact iteFF (by decide) hB
  · exact iteTT rfl hA
end LK
namespace LK
open PySem PySem.Spec PyProof.Rows L2
theorem if_anyS {c : TT} {t u : TS} {D : Ends} {σ : L2.St} {H : Hp} (hc : ∀ K : Bool → Hp → Prop, (∀ b H1, Same H H1 → K b H1) → c σ H K) (hA : ∀ H1, Same H H1 → t D σ H1) (hB : ∀ H1, Same H H1 → u D σ H1) : tIfS c t u D σ H := hc _ fun b H1 s => by
  cases b
  · exact iteFF (by decide) (hB H1 s)
  · exact iteTT rfl (hA H1 s)
end LK
namespace LK
open PySem PySem.Spec PyProof.Rows L2
theorem if_of {c : TT} {t u : TS} {D : Ends} {σ : L2.St} {H : Hp} (R : Bool → Prop) (hc : ∀ K : Bool → Hp → Prop, (∀ b H1, R b → Same H H1 → K b H1) → c σ H K) (hA : ∀ H1, R true → Same H H1 → t D σ H1) (hB : ∀ H1, R false → Same H H1 → u D σ H1) : tIfS c t u D σ H := hc _ fun b H1 r s => by
  cases b
  · exact iteFF (by decide) (hB H1 r s)
  · exact iteTT rfl (hA H1 r s)
end LK

set_option Elab.async false
set_option linter.all false
set_option maxRecDepth 100000
set_option maxHeartbeats 4000000
/-! ### fields of an own exception whose row of bases ends in tl -/
namespace LK
open PySem PySem.W PySem.Calls PyProof.Rows PySem.HandSPX Builtin Builtin.ObjectAttr
/-- own classes, then tl -/
def Refs (tl l : List Value) : Prop := ∃ cs : List Addr, l = cs.map Value.ref ++ tl
theorem Refs.cons {tl l : List Value} (h : Refs tl l) (C : Addr) : Refs tl (.ref C :: l) := by
  obtain ⟨cs, rfl⟩ := h
  exact ⟨C :: cs, rfl⟩
theorem Refs.contains {tl l : List Value} (h : Refs tl l) (X : String) : l.contains (.type X) = tl.contains (.type X) := by
  obtain ⟨cs, rfl⟩ := h
  induction cs with
  | nil => rfl
  | cons c cs ih => simpa [List.contains_cons] using ih
theorem Refs.passes {tl l : List Value} (h : Refs tl l) {self : Value} (p : refuseLoop self "__setattr__" tl = pure ()) : refuseLoop self "__setattr__" l = pure () := by
  obtain ⟨cs, rfl⟩ := h
  induction cs with
  | nil => exact p
  | cons c cs ih => exact (refuseLoop_ref self "__setattr__" c _).trans ih
theorem Refs.full {tl l : List Value} (h : Refs tl l) (n : tl.isEmpty = false) : l.isEmpty = false := by
  obtain ⟨cs, rfl⟩ := h
  cases cs with
  | nil => exact n
  | cons _ _ => rfl
section
variable {prog : Program} {w : World} {A : Around} {R : Result → Shared → Prop} {hp : Heap} {g : Array GenState} {d : Drawn} {t : Nat} {os : OsState}
/-- object.__setattr__ on it comes to the storing in its own dict -/
theorem store_own {B : String} {tl : List Value} (SF : StoreFacts B tl "object.__setattr__" "object") (tn : tl.isEmpty = false) (to : tl.contains (.type "object") = true) {K : W.Frag} {name : Str} {tk : Tok} {v : Value} {x C : Addr} {od : Option Obj} {ox : Obj} {cd : ClassData}
    (X : K.In hp) (I : W.InstAt hp x ox C od) (hcd : W.clsIn K C = some cd) (hm : Refs tl cd.mro) (ha : W.findIn K (.ref C) name = some none)
    (hq : wpAny (model prog w) A.in1 (storeInOwnDict (.ref x) (.ref C) (.str name tk) name v false) (fun fin s' => match fin with | .done f => R (.ok f) s' | .again c' => c'.quiet = true ∧ codeAny (model prog w) A c' R s') (fun e s' => R (.error e) s') ⟨hp, g, d, t, os⟩) :
    codeAny (model prog w) A (.call (.builtin "object.__setattr__") ⟨[.ref x, .str name tk, v], []⟩) R ⟨hp, g, d, t, os⟩ := by
  have Fo := F.store_object
  have inMro : W.mroIn K C (.type "object") = some true := by
    unfold W.mroIn
    rw [hcd, Option.bind_some, if_neg (by rw [hm.full tn]; decide), hm.contains, to]
  have isObj : W.Looks (model prog w) hp (isInstance (.ref x) (.type "object")) true := I.type.andThen (W.looks_mroIn X inMro)
  have look : W.Looks (model prog w) hp (mroOf (.ref C)) cd.mro := (W.looks_clsIn X hcd).andThen .now
  have taker : W.Looks (model prog w) hp (storeTaker? none) none := .now
  refine codeAny_call_builtin Fo.slot.plain Fo.entry (W.check_slot (M := model prog w) (s := ⟨hp, g, d, t, os⟩) (i := "object.__setattr__") (owner := "object") (n := "__setattr__") (self := .ref x) (rest := [.str name tk, v]) (kw := []) Fo.kind Fo.split isObj (Fo.args _ _ _) ?_)
  rw [W.osa_eq, refuse_eq]
  refine wpAny_bind (wpAny_bind (I.type.at (wpAny_bind (look.at ?_))))
  rw [hm.passes (SF.passes _)]
  exact wpAny_pure (wpAny_bind (I.type.at (wpAny_bind ((W.looks_findIn X ha).at (wpAny_bind (taker.at hq))))))
/-- the first field: a new dict -/
theorem put_new {K : W.Frag} {name : Str} {tk : Tok} {v : Value} {x C : Addr} {fv : Array Value} {cd : ClassData} {Q : Fin → Shared → Prop} {E : Value → Shared → Prop} (X : K.In hp) (hx : hp.get? x = some { cls := .ref C, data := .fields fv }) (hcd : W.clsIn K C = some cd) (hh : cd.hasDict = true)
    (hq : ∀ h' tk' dx, (∀ b o, b ≠ x → hp.get? b = some o → h'.get? b = some o) → hp.objs.size ≤ dx → dx ≠ x → h'.get? x = some { cls := .ref C, dict := some dx, data := .fields fv } → h'.Ns1 dx (fun y => if y = name then some v else none) → Q (.done (.ret .none)) ⟨h', g, d, tk', os⟩) :
    wpAny (model prog w) A (storeInOwnDict (.ref x) (.ref C) (.str name tk) name v false) Q E ⟨hp, g, d, t, os⟩ := by
  have far : x ≠ hp.objs.size := Nat.ne_of_lt (Heap.lt_size hx)
  have cls : W.Looks (model prog w) hp (classData C) cd := W.looks_clsIn X hcd
  cases cd with | mk c1 c2 c3 c4 c5 c6 c7 c8 c9 c10 c11 =>
  cases (show c6 = true from hh)
  unfold storeInOwnDict ownDictForStores
  repeat (first | with_reducible refine HandSPX.store_in_new ?_ ?_ | with_reducible refine wpAny_loadPart_at hx ?_ | with_reducible refine cls.at ?_ | wp_step)
  · exact ⟨_, #[], _, Eq.trans (Heap.get?_update_ne _ _ _ _ far.symm) (Heap.get?_push_at rfl rfl), rfl, (fun e he => by simp at he), fun _ => rfl⟩
  · intro h' tk' ns same
    have keepx := Heap.get?_push_of_some { cls := .type "dict", data := .dict #[] } hx
    have kept : ∀ b o, b ≠ x → hp.get? b = some o → h'.get? b = some o := fun b o nb e => by
      rw [same.2 b (Nat.ne_of_lt (Heap.lt_size e)), Heap.get?_update_ne _ _ _ _ nb]
      exact Heap.get?_push_of_some _ e
    exact hq h' tk' hp.objs.size kept (Nat.le_refl _) far.symm ((same.2 x far).trans (Heap.get?_update_self _ keepx rfl)) ns
/-- a further one -/
theorem put_old {K : W.Frag} {name : Str} {tk : Tok} {v : Value} {x C dx : Addr} {fv : Array Value} {cd : ClassData} {m0 : Str → Option Value} {nl : List Str} {Q : Fin → Shared → Prop} {E : Value → Shared → Prop} (X : K.In hp) (hx : hp.get? x = some { cls := .ref C, dict := some dx, data := .fields fv }) (hns : hp.Ns1 dx m0) (hw : Within m0 nl) (hz : nl.length ≤ 1000) (hcd : W.clsIn K C = some cd) (hh : cd.hasDict = true)
    (hq : ∀ h' tk', (∀ b o, b ≠ dx → hp.get? b = some o → h'.get? b = some o) → h'.Ns1 dx (fun y => if y = name then some v else m0 y) → Q (.done (.ret .none)) ⟨h', g, d, tk', os⟩) :
    wpAny (model prog w) A (storeInOwnDict (.ref x) (.ref C) (.str name tk) name v false) Q E ⟨hp, g, d, t, os⟩ := by
  have cls : W.Looks (model prog w) hp (classData C) cd := W.looks_clsIn X hcd
  cases cd with | mk c1 c2 c3 c4 c5 c6 c7 c8 c9 c10 c11 =>
  cases (show c6 = true from hh)
  unfold storeInOwnDict ownDictForStores
  repeat (first | with_reducible refine OEX.store_in_old hns hw hz ?_ | with_reducible refine wpAny_loadPart_at hx ?_ | with_reducible refine cls.at ?_ | wp_step)
  exact fun h' tk' ns same => hq h' tk' (fun b o nb e => (same.2 b nb).trans e) ns
end
end LK

set_option Elab.async false
set_option linter.all false
set_option maxRecDepth 100000
set_option maxHeartbeats 4000000
namespace LK
open PySem PySem.Spec PyProof.Rows L2
/-- what the head tells of an own exception class, its row of bases ending in tl -/
structure OexM (K : PySem.W.Frag) (C : Addr) (newId : String) (tl : List Value) : Prop where
  cls : ∃ nm q N bs bm sn sub ab col dd k0 k1 k2 k3 k5, K.lookup C = some (excClassObj nm q C N bs bm true sn sub ab col dd k0 k1 k2 k3 k5 newId) ∧ Refs tl bm
  sa : PySem.W.findIn K (.ref C) "__setattr__" = some (some (.builtin "object.__setattr__"))
  exC : PySem.W.subIn K (.ref C) (.type "BaseException") = some true
  tyC : PySem.W.typeIn K (.ref C) = some (.type "type")
  kC : PySem.W.keepIn K (.ref C) = true
/-- what a base itself has -/
structure Base (B newId initId : String) (tl : List Value) : Prop where
  ex : ExcBaseFacts B newId initId tl
  st : StoreFacts B tl "object.__setattr__" "object"
  ne : tl.isEmpty = false
  ob : tl.contains (.type "object") = true
abbrev leTail : List Value := [.type "LookupError", .type "Exception", .type "BaseException", .type "object"]
theorem baseLE : Base "LookupError" "LookupError.__new__" "LookupError.__init__" leTail := ⟨PySem.F.excBase_LookupError, PySem.F.store_LookupError, rfl, by decide +kernel⟩
theorem OexM.cdata {K : PySem.W.Frag} {C : Addr} {newId : String} {tl : List Value} (T : OexM K C newId tl) : ∃ cd, PySem.W.clsIn K C = some cd ∧ cd.hasDict = true ∧ Refs tl cd.mro := by
  obtain ⟨nm, q, N, bs, bm, sn, sub, ab, col, dd, k0, k1, k2, k3, k5, hC, hbm⟩ := T.cls
  refine ⟨_, by unfold PySem.W.clsIn; rw [hC] <;> rfl, rfl, hbm.cons C⟩
section
variable {X : Cx} {pins : List (Addr × Obj)} {σ : L2.St} {H : Hp} {s : Shared} {a C dx : Addr} {f : Str} {y : V} {u : Value} {fs : List (Str × V)} {Q : Unit → Shared → Prop} {E : Value → Shared → Prop} {A : Around} {B newId initId : String} {tl : List Value}
theorem set_new (F : Base B newId initId tl) (T : OexM X.K C newId tl) (I : Inv X pins σ H s) (e : H a = some (exo a C none)) (hno : PySem.W.findIn X.K (.ref C) f = some none) (ry : RelV y u)
    (h : ∀ dx s', H dx = none → dx ≠ a → Inv X pins σ (L2.upd (L2.upd H dx (exd dx [(f, y)])) a (exo a C (some dx))) s' → Q () s') : wpAny (model X.prog X.w) A (setAttr (.ref a) f u) Q E s := by
  obtain ⟨cd, hcl, hd, hm⟩ := T.cdata
  obtain ⟨t1, ho⟩ := exo_at I.hok e
  obtain ⟨hp, g, d, t, os⟩ := s
  have J : PySem.W.InstAt hp a { cls := .ref C, dict := none, data := .fields #[.ref t1, .none, .none, .none, .bool false, .none] } C none := ⟨ho, rfl, rfl, trivial⟩
  refine PySem.W.set_plain I.kIn J T.sa (store_own F.st F.ne F.ob I.kIn J hcl hm hno (put_new I.kIn ho hcl hd fun h' tk' dx kept fresh nx at_ ns => ?_))
  have hnd : H dx = none := I.hok.fresh fresh
  have off : ∀ {b : Addr} {o : Obj}, hp.get? b = some o → b ≠ dx := fun {b o} q => Nat.ne_of_lt (Nat.lt_of_lt_of_le (Heap.lt_size q) fresh)
  have nota : ∀ {b : Addr}, H b = none → b ≠ a := fun {b} n z => by rw [z, e] at n; cases n
  have through : ∀ {b : Addr} {o : HO}, H b = some o → o ≠ exo a C none → L2.upd (L2.upd H dx (exd dx [(f, y)])) a (exo a C (some dx)) b = some o := fun {b o} q ne => by
    rw [upd_ne (at_ne e q ne.symm), upd_ne (ne_of_none q hnd)]
    exact q
  have U : Un X.fs [] H (L2.upd (L2.upd H dx (exd dx [(f, y)])) a (exo a C (some dx))) hp h' := {
    keep := fun b o q n _ _ => kept b o (nota n) q
    slot := fun b o q n _ _ => ⟨o.slots, kept b o (nota n) q⟩
    free := fun b o q n _ => (upd_ne (nota n)).trans ((upd_ne (off q)).trans n)
    there := fun b o q _ => if hb : b = a then ⟨_, hb ▸ at_⟩ else ⟨o, kept b o hb q⟩
    tups := fun b xs q => through q fun z => exo_tup z.symm
    frzs := fun b o v q => through q fun z => exo_frz z.symm
    tbls := fun b ps q => ⟨#[], by rw [through q fun z => exo_tbl z.symm]; simp⟩ }
  refine h dx _ hnd nx (I.un (t' := tk') U fun b o q => ?_)
  by_cases hb : b = a
  · rw [hb, upd_same] at q
    rw [hb]
    cases q
    exact exo_ok at_
  · rw [upd_ne hb] at q
    by_cases hx : b = dx
    · rw [hx, upd_same] at q
      rw [hx]
      cases q
      exact exd_ok ns (relO_put (fs := []) ry fun g => True.intro)
    · rw [upd_ne hx] at q
      refine (I.hok b o q).stay (fun c v hc z => kept c v ?_ z) (fun c hc => through hc fun z => exo_own z.symm) (fun c xs hc => through hc fun z => exo_tup z.symm)
      rcases hc with rfl | hc
      · exact hb
      · exact at_ne e hc exo_own
theorem set_old (F : Base B newId initId tl) (T : OexM X.K C newId tl) (I : Inv X pins σ H s) (e : H a = some (exo a C (some dx))) (ed : H dx = some (exd dx fs)) (hl : fs.length ≤ 900) (hno : PySem.W.findIn X.K (.ref C) f = some none) (ry : RelV y u)
    (h : ∀ s', Inv X pins σ (L2.upd H dx (exd dx ((f, y) :: fs))) s' → Q () s') : wpAny (model X.prog X.w) A (setAttr (.ref a) f u) Q E s := by
  obtain ⟨cd, hcl, hd, hm⟩ := T.cdata
  obtain ⟨t1, ho⟩ := exo_at I.hok e
  obtain ⟨mA, hns, rel⟩ := exd_at I.hok ed
  have hw := within_of rel
  obtain ⟨hp, g, d, t, os⟩ := s
  obtain ⟨oD, _, _, hoD, _⟩ := hns.count hw
  have J : PySem.W.InstAt hp a { cls := .ref C, dict := some dx, data := .fields #[.ref t1, .none, .none, .none, .bool false, .none] } C (some oD) := ⟨ho, rfl, rfl, hoD⟩
  refine PySem.W.set_plain I.kIn J T.sa (store_own F.st F.ne F.ob I.kIn J hcl hm hno (put_old I.kIn ho hns hw (by rw [List.length_map]; omega) hcl hd fun h' tk' kept ns => h _ ?_))
  obtain ⟨o2, es, ep, at2, r2⟩ := id ns
  exact I.write (t' := tk') (x := dx) (e := dx) (o := exd dx ((f, y) :: fs)) (by rw [ed]; exact True.intro) (.inl rfl) kept ⟨o2, at2⟩ (exd_ok ns (relO_put ry rel))
end
/-- self.f = e -/
def tOstM (K : PySem.W.Frag) (newId : String) (tl : List Value) (f : Str) (to te : TE) : TS := fun D σ H => te σ H fun y H1 => to σ H1 fun x H2 => ∃ a C : Addr, x = .ref a ∧ OexM K C newId tl ∧ PySem.W.findIn K (.ref C) f = some none ∧
  ((H2 a = some (exo a C none) ∧ ∀ dx, H2 dx = none → dx ≠ a → D.nx σ (L2.upd (L2.upd H2 dx (exd dx [(f, y)])) a (exo a C (some dx)))) ∨
    ∃ (dx : Addr) (fs : List (Str × V)), H2 a = some (exo a C (some dx)) ∧ H2 dx = some (exd dx fs) ∧ fs.length ≤ 900 ∧ D.nx σ (L2.upd H2 dx (exd dx ((f, y) :: fs))))
section
variable {X : Cx} {o e : Expr} {es : List Expr} {to te : TE} {ta : TA} {f : Str} {p p' p1 p2 pos : Pos} {B newId initId : String} {tl : List Value}
theorem ps_ostM (F : Base B newId initId tl) (ho : PE X o to) (he : PE X e te) (hs : swapsWith e (some (.Attribute o f p')) pos.line X.env = pure false := by rfl) : PS X (.Assign [.Attribute o f p'] e pos) (tOstM X.K newId tl f to te) := by
  refine ⟨fun pins s σ H D I h => plainObj_wpAny_Assign_Attribute (thn (he.run pins s σ H _ I h) fun v s1 q => ?_) hs⟩
  obtain ⟨y, H1, I1, r1, q1⟩ := q
  refine thn (ho.run pins s1 σ H1 _ I1 q1) fun u s2 q => ?_
  obtain ⟨x, H2, I2, r2, a, C, rfl, T, hno, q⟩ := q
  cases (show u = Value.ref a from r2)
  rcases q with ⟨ea, q⟩ | ⟨dx, fs, ea, ed, hl, q⟩
  · exact set_new F T I2 ea hno r1 fun dx s' n ne J => ⟨σ, _, J, q dx n ne⟩
  · exact set_old F T I2 ea ed hl hno r1 fun s' J => ⟨σ, _, J, q⟩
/-- C(e, ..) of such a class, C's own __init__ keeping sp -/
theorem pmk_oexM (F : Base B newId initId tl) {CX : CXT} {x : Str} {C fI : Addr} {k : Nat} {fd : FuncData} {ps : List Str} {sp : Sp} {ds : List Value} {dvs : List V} (T : OexM X.K C newId tl) (iC : PySem.W.findIn X.K (.ref C) "__init__" = some (some (.ref fI))) (tI : PySem.W.typeIn X.K (.ref fI) = some (.type "function"))
    (F1 : FnOk X.prog X.w X.K X.mg X.base CX k fI fd ps sp) (hr : Room (k + 1) X.A) (hb : Binds X.K fd ps ds) (hd : Vals dvs ds) (hx : Passes CX X (fun _ _ _ => False)) (hg : Gl X x) (hm : X.mg x = some (.ref C)) (ha : PA X (e :: es) ta)
    (hdb : (x == ("__debug__" : Str)) = false := by decide) (he : starEach (e :: es) X.env = (false, eval e X.env) :: starEach es X.env := by rfl) (hpl : (backTo pos (starEach es X.env)).any (·.1) = false := by rfl) :
    PMk X (.Call (.Name x p) (e :: es) [] pos) (tMkO C sp dvs ta) := by
  intro pins s σ H Q I h
  obtain ⟨nm, q, N, bs, bm, sn, sub, ab, col, dd, k0, k1, k2, k3, k5, hC, hbm⟩ := T.cls
  refine wpAny_Call_Name_kw (ld_glob I hg hm ?_ hdb)
  refine PySem.W.callWith_K (h₀ := X.base) I.ok.mod.kin T.kC (thn (ha.run pos pins s σ H _ I h) fun us s1 q1 => ?_) he hpl
  obtain ⟨vs, H1, I1, r1, hz, q1⟩ := q1
  refine ⟨I1.kIn, ?_⟩
  show wpAny _ _ (call (.ref C) us) _ _ _
  obtain ⟨hp, g, dr, tk, os⟩ := s1
  generalize hA : hp.objs.size + 1 = a at *
  have hsz : hp.objs.size ≤ a := by rw [← hA]; exact Nat.le_succ _
  have hq := q1 a (I1.hok.fresh hsz)
  have at_ : ((hp.push (PySem.W.kdv_tup us)).push (PySem.HandSPX.excO C hp.objs.size)).get? a = some (PySem.HandSPX.excO C hp.objs.size) := by rw [← hA]; heap_get
  have I2 : Inv X pins σ (L2.upd H1 a (exo a C none)) ⟨(hp.push (PySem.W.kdv_tup us)).push (PySem.HandSPX.excO C hp.objs.size), g, dr, tk, os⟩ :=
    I1.laid (t' := tk) (a := a) (o := exo a C none) (fun b o e => Heap.get?_push_of_some _ (Heap.get?_push_of_some _ e)) hsz (exo_ok at_)
  have r2 : Vals (V.ref a :: (vs ++ dvs)) (Value.ref a :: (us ++ ds)) := .cons rfl (r1.append hd)
  have many : us.length ≤ sizeLine := by
    have l := Paired.length r1
    have b : (1000 : Nat) ≤ sizeLine := by decide
    omega
  have run := F1.run _ X.stack _ _ ⟨Value.ref a :: us, []⟩ (Value.ref a :: (us ++ ds)) _ _ (fun _ _ _ => False) (hr.make C us []) (I2.env0.make C us []) (hb _ (Value.ref a :: us) I2.kIn (r2.length.symm.trans (F1.len _ _ _ _ hq))) r2 hq
  subst hA
  refine wpAny_call (PySem.HandSPX.call_own F.ex (fun Y => hbm.contains Y) (I1.kIn _ _ hC) (PySem.W.looks_findIn I1.kIn iC) (fun self => PySem.W.bind_fn I1.kIn self tI) many (codeAny_mono run fun r s' hq' => ?_))
  match r, hq' with
  | .error er, z => exact hx pins σ _ _ er s' I2 z
  | .ok .next, z => exact z.elim
  | .ok .brk, z => exact z.elim
  | .ok .cont, z => exact z.elim
  | .ok (.ret u), ⟨v, H2, os2, bare2, un2, hok2, rv, ev, d, fs, ea, ed, hd1, q2⟩ =>
    subst ev
    exact ⟨rv, mk_end (raises_own T.exC T.tyC) I1 hsz (fun b o e => Heap.get?_push_of_some _ (Heap.get?_push_of_some _ e)) un2 hok2 os2 bare2 ea ed hd1 q2⟩
end
end LK

set_option Elab.async false
set_option linter.all false
set_option maxRecDepth 100000
set_option maxHeartbeats 4000000
/-! ### tuple(d): the keys of a dict -/
namespace LK
open PySem PySem.W PySem.Calls PySem.Spec PyProof.Rows L2
section
variable {prog : Program} {w : World} {A : Around} {E : Value → Shared → Prop} {s : Shared} {T : String} {r d : Addr} {n : Nat} {P : Nat → Value → Prop} {OK : Heap → Prop}
theorem collect_src (K : KdlSrc prog w T r d n P OK) (hh : A.handled = none) (hok : OK s.heap) (hn : n ≤ sizeLine) {Q : List Value → Shared → Prop}
    (hQ : ∀ (h' : Heap) (tk : Nat) (acc : Array Value), (∀ b o, s.heap.get? b = some o → h'.get? b = some o) → ItemsOf P acc n → Q acc.toList { s with heap := h', toks := tk }) : wpAny (model prog w) A (collect (.ref r)) Q E s := by
  have there := K.there _ hok
  have okp : OK (s.heap.push { cls := .type "list", data := .seq ([] : List Value).toArray }) := K.keep _ _ hok fun b _ o e => Heap.get?_push_of_some _ e
  have newL : (s.heap.push { cls := .type "list", data := .seq ([] : List Value).toArray }).get? s.heap.objs.size = some { cls := .type "list", data := .seq #[] 0 } := Heap.get?_push_size _ rfl
  let Done : Result → Shared → Prop := fun rr s' => rr = .ok (.ret (.ref s.heap.objs.size)) ∧ ∃ (h' : Heap) (tk : Nat) (acc : Array Value) (c' : Nat), s' = { s with heap := h', toks := tk } ∧ (∀ b o, s.heap.get? b = some o → h'.get? b = some o) ∧
    h'.get? s.heap.objs.size = some { cls := .type "list", dict := none, data := .seq acc c', slots := #[] } ∧ ItemsOf P acc n
  have ext := kdl_extend (A := A) (R := Done) (s := { s with heap := s.heap.push { cls := .type "list", data := .seq ([] : List Value).toArray } }) K hh okp s.heap.objs.size (Nat.ne_of_gt there.1) (Nat.ne_of_gt there.2) (.ref s.heap.objs.size) 0 newL
    (fun h' tk acc c' hk at_ its => ⟨rfl, h', tk, acc, c', rfl, fun b o q => hk b o (Nat.ne_of_lt (Heap.lt_size q)) (Heap.get?_push_of_some _ q), at_, its⟩) hn
  have fin : ∀ s', Done (.ok (.ret (.ref s.heap.objs.size))) s' → wpAny (model prog w) A (load s.heap.objs.size >>= fun o => match o.data with | Data.seq xs _ => pure xs.toList | _ => unsupported "internal:collect") Q E s' := by
    rintro s' ⟨_, h', tk, acc, c', rfl, hk, at_, its⟩
    exact wpAny_bind (wpAny_load at_ (wpAny_pure (hQ h' tk acc hk its)))
  unfold collect
  refine wpAny_bind (wpAny_runValue (codeAny_builtin F.entry_proto_collect ?_))
  rw [Around.under_plainId F.plain_proto_collect _]
  refine wpAny_bind (wpAny_newObj_type (wpAny_pure ⟨plainId_quiet F.plain_list_iadd _, codeAny_builtin F.entry_list_iadd ?_⟩))
  rw [Around.under_plainId F.plain_list_iadd _]
  refine wpAny_mono ext (fun f s' h => ?_) (fun e s' h => absurd h.1 (by simp))
  cases f with
  | done f =>
    have e := h.1
    cases e
    exact fin s' h
  | again c' => exact ⟨h.1, codeAny_mono h.2 fun rr s'' hr => by
      have e := hr.1
      subst e
      exact fin s'' hr⟩
theorem tuple_src (K : KdlSrc prog w "dict" r d n P OK) (hh : A.handled = none) (hok : OK s.heap) (hn : n ≤ sizeLine) {Q : Value → Shared → Prop}
    (hQ : ∀ (h' : Heap) (tk : Nat) (acc : Array Value), (∀ b o, s.heap.get? b = some o → h'.get? b = some o) → ItemsOf P acc n → Q (.ref h'.objs.size) { s with heap := h'.push { cls := .type "tuple", data := .seq acc }, toks := tk }) :
    wpAny (model prog w) A (call (.type "tuple") [.ref r]) Q E s := by
  refine callType_codes (Q₁ := fun obj s₁ => s₁.TypeIs obj "tuple" ∧ Q obj s₁) F.called_tuple (F.typeCall_tuple_1 _) F.entry_object_init (codeAny_of_tree ?_) fun obj s₁ h₁ =>
    ⟨h₁.1, F.args_object_init_2 obj _, object_init_meets F.called_tuple.init.lookup F.called_tuple.made (by decide) prog w A.in1 _ s₁ ⟨h₁.1, rfl, h₁.2⟩⟩
  show wpAny _ (A.in1).in1 (do checkBuiltinCall "tuple.__new__" ⟨[.type "tuple", .ref r], []⟩; again (.builtin "tuple.__new__" ⟨[.type "tuple", .ref r], []⟩)) _ _ s
  refine wpAny_bind (wpAny_of_eq (F.newCall_tuple_1 _) (wpAny_pure ⟨plainId_quiet F.plain_tuple_new _, codeAny_builtin F.entry_tuple_new ?_⟩))
  rw [Around.under_plainId F.plain_tuple_new _]
  have s1 := sub_tuple_self
  have s2 := init_tuple_lookup
  have s3 := madeHere_tuple
  have ty : s.TypeIs (.ref r) "dict" := K.type s hok
  have hh2 : A.in1.in1.handled = none := hh
  wp_walk using wpAny_typeOf ty, collect_src (A := A.in1.in1) K hh2 hok hn
  intro h' tk acc hk its
  show wpAny _ _ (Builtin.Tuple.tupleExact acc.toList.toArray >>= fun v => ret v) _ _ _
  rw [Array.toArray_toList]
  unfold Builtin.Tuple.tupleExact
  exact wpAny_bind (wpAny_newObj_type (wpAny_pure ⟨⟨_, Heap.get?_push_size _ rfl, rfl⟩, hQ h' tk acc hk its⟩) (by show acc.size ≤ sizeLine; rw [its.1]; exact hn))
end
/-- tuple(d): a new tuple of its keys -/
theorem call_tupleD {X : Cx} (hcalm : X.calm = true) : CallR X (.type "tuple") (fun xs H Q => ∃ (a : Addr) (kvs : List (Key × V)), xs = [.ref a] ∧ Rd H a (.dK kvs) ∧ ∀ p H', Same H H' → H p = none → H' p = some (.tup (kvs.map fun kv => kV kv.1)) → Q (.ref p) H') := by
  intro pins s σ H xs us Q I r q
  obtain ⟨a, kvs, rfl, hd, q⟩ := q
  obtain ⟨u, rfl, rx⟩ := vals1 r
  cases rx
  obtain ⟨z, lo, vs, rel, dd⟩ := dk_rd I.hok hd
  obtain ⟨ep, hat⟩ := dd.dictAt
  have ek : (kvs.map fun kv => kV kv.1) = vs.map fun p => kV p.1 := by
    have e := congrArg (List.map kV) rel.keys
    rwa [List.map_map, List.map_map] at e
  refine tuple_src (PySem.W.kdl_dict (knd := mixKind X.prog X.w) (kvs := vs) (ep := ep) lo) (I.ok.hd hcalm) hat (by rw [← rel.length]; exact z) fun h' tk acc hk its => ?_
  have hv : Vals (vs.map fun p => kV p.1) acc.toList := keys_at (by rw [Array.length_toList]; exact its.1) fun j v e => its.2 j v (by rw [← Array.getElem?_toList]; exact e)
  have I1 : Inv X pins σ H { s with heap := h', toks := tk } := I.kept (t' := tk) hk
  have hf := I1.hok.fresh (Nat.le_refl h'.objs.size)
  refine ⟨.ref h'.objs.size, L2.upd H h'.objs.size (.tup (kvs.map fun kv => kV kv.1)), I1.laid (t' := tk) (fun b o e => Heap.get?_push_of_some _ e) (Nat.le_refl _) ⟨by rw [List.length_map]; exact z, acc.toList, by rw [ek]; exact hv, ?_⟩, rfl, q _ _ (same_upd hf) hf upd_same⟩
  rw [Array.toArray_toList]
  exact IsTup.new _ _
end LK

set_option Elab.async false
set_option linter.all false
set_option maxRecDepth 100000
/-! ### d.get(k, v) of a written dict with text keys -/
namespace LK
open PySem PySem.Spec PyProof.Rows L2
section
variable {X : Cx} {d : Addr} {es : Array DictEntry} {n : Nat} {o e f : Expr} {apos cpos : Pos} {td ty tx : TE}
def tWget2 (K : PySem.W.Frag) (d : Addr) (td ty tx : TE) : TE := fun σ H Q => td σ H fun x H1 => x = .ref d ∧ ty σ H1 fun y H2 => tx σ H2 fun z H3 => ∃ (k : Str) (r : Option Value), y = .str k ∧ PySem.W.nsIn K d k = some r ∧ (match r with
  | none => Q z H3
  | some u => ∃ v, RelV v u ∧ Q v H3)
theorem pe_wget2 (D : KDict X.K X.w d es n) (ho : PE X o td) (he : PE X e ty) (hf : PE X f tx) (m : M2 X o "get" apos e f cpos) : PE X (.Call (.Attribute o "get" apos) [e, f] [] cpos) (tWget2 X.K d td ty tx) := by
  refine ⟨fun pins s σ H Q I h => ?_⟩
  refine wpAny_Call_method m.base m.few m.line PySem.F.plainAttrs_dict PySem.F.slot_dict_get PySem.F.type_dict_get (thn (ho.run pins s σ H _ I h) fun u s1 q1 => ?_)
  obtain ⟨x, H1, I1, rx, rfl, q1⟩ := q1
  cases (show u = Value.ref d from rx)
  have ob := I1.kIn _ _ D.at_
  refine ⟨kd_type D I1, fun b q => by cases q; exact ⟨_, ob, rfl⟩, ?_⟩
  rw [m.trees]
  refine Calls.callWith_builtin rfl (Calls.evalArgs_plain (Calls.spliced_cons (thn (he.run pins s1 σ H1 _ I1 q1) fun iv s2 q2 => ?_)))
  obtain ⟨y, H2, I2, ry, q2⟩ := q2
  refine Calls.spliced_cons (thn (hf.run pins s2 σ H2 _ I2 q2) fun fv s3 q3 => ?_)
  obtain ⟨z, H3, I3, rz, k, r, rfl, hn, q3⟩ := q3
  refine Calls.spliced_nil ?_
  obtain ⟨t, rfl⟩ := ry
  refine call_meetsIn PySem.F.slot_dict_get (kd_type D I3) PySem.F.entry_dict_get (PySem.F.args_dict_get_3 _ _ _) (meets_dict_get_default (strKind X.prog X.w) d (PySem.strKind_is X.prog X.w k t) D.low fv)
    ⟨_, PySem.W.mapOf_K (prog := X.prog) I3.kIn D.at_ D.lit, ?_⟩
  rw [PySem.W.find_K D.at_ hn]
  cases r with
  | none => exact ⟨z, H3, I3.tok _, rz, q3⟩
  | some u =>
    obtain ⟨v, rv, q⟩ := q3
    exact ⟨v, H3, I3.tok _, rv, q⟩
end
end LK

set_option Elab.async false
set_option linter.all false
set_option maxRecDepth 100000
namespace LK
open PySem PySem.Spec PyProof.Rows L2
def top (i : Nat) : Stmt := PySem.Challenge.pw_lookingnets_k03_whole_expressions.main.body.getD i (.Pass ⟨0, 0, 0, 0⟩)
local macro_rules | `(tactic| walk_at "rs") => `(tactic| simp only [cxK, cxNK, tCallZ, tAsg, tOp, rI0, rS0, rB0, rI, rU, tUn, rEq, rNe, rIxL, rIxT, rIxS, rSetL, rSlLU, rSlS, rSlU, rCatL, rCatU, rRepL, rIn, tVar, tC, gName, gSub, tIfS, tTest, tB, tAnd, tOr, tNot, tNotV, tAndV, tOrV, tIf, tCall, tCons, tNil, tCB, tDrop, tRet, tRetN, tNext, tLstU, tTupU, tM0, tM1, tPar, tPar3, tAug, ipI, tBM, tBM0, rAppend, rPop, tBreak, tCont, tChain, tSl, tPart, tNoPart, L2.start, List.map, List.length_cons, List.length_nil, List.replicate, List.cons_append, List.nil_append, List.append_nil, List.getElem?_cons_zero, List.getElem?_cons_succ, List.set_cons_zero, List.set_cons_succ, Option.some.injEq, V.int.injEq, V.ref.injEq, V.str.injEq, V.bl.injEq, exists_eq_left', exists_eq_left, exists_and_left, decide_eq_true_eq, List.cons.injEq, and_true, true_and, scal, Bool.not_eq_true', decide_eq_false_iff_not, Nat.zero_add, Nat.reduceAdd, Nat.reduceSub, reduceCtorEq, false_and, exists_false, false_or, or_false, CPow, CMul, CDiv, Int.reduceToNat, ↓reduceIte, wipe, sw, List.nil_append, List.singleton_append])
local macro_rules | `(tactic| walk_at "st") => `(tactic| (refine seq_op fun N hN => ?_; walk_at "rs"))
local macro_rules | `(tactic| walk_at "sd") => `(tactic| first | assumption | decide | omega)
local macro_rules | `(tactic| walk_at "rd") => `(tactic| repeat (first
  | refine ⟨_, SqL.of (by assumption), ?_⟩ | refine ⟨_, SqL.of upd_same, ?_⟩ | refine ⟨_, .inl (SqL.of (by assumption)), ?_⟩ | refine ⟨_, (by assumption : _ = some (HO.lst _)), ?_⟩ | refine ⟨_, upd_same, ?_⟩
  | refine ⟨_, rfl, ?_⟩ | refine And.intro (by walk_at "sd") ?_))

abbrev s_BadValue : Stmt := inClass (top 4) 0
abbrev s_NoName : Stmt := inClass (top 5) 0
abbrev N_NoName : List Str := ["self", "name"]
theorem sc_NoName : FnScope N_NoName ["self", "name"] (defScope s_NoName) := ⟨rfl, rfl, rfl, by decide +kernel, rfl, by decide +kernel, by decide +kernel⟩
abbrev N_BadValue : List Str := ["self", "value"]
theorem sc_BadValue : FnScope N_BadValue ["self", "value"] (defScope s_BadValue) := ⟨rfl, rfl, rfl, by decide +kernel, rfl, by decide +kernel, by decide +kernel⟩
abbrev s_is_number : Stmt := top 10
abbrev N_is_number : List Str := ["value"]
theorem sc_is_number : FnScope N_is_number ["value"] (defScope s_is_number) := ⟨rfl, rfl, rfl, by decide +kernel, rfl, by decide +kernel, by decide +kernel⟩

abbrev s_is_fraction : Stmt := top 11
abbrev N_is_fraction : List Str := ["value", "p", "q"]
theorem sc_is_fraction : FnScope N_is_fraction ["value"] (defScope s_is_fraction) := ⟨rfl, rfl, rfl, by decide +kernel, rfl, by decide +kernel, by decide +kernel⟩

abbrev s_fraction : Stmt := top 12
abbrev N_fraction : List Str := ["p", "q", "divisor"]
theorem sc_fraction : FnScope N_fraction ["p", "q"] (defScope s_fraction) := ⟨rfl, rfl, rfl, by decide +kernel, rfl, by decide +kernel, by decide +kernel⟩

abbrev s_plus : Stmt := top 13
abbrev N_plus : List Str := ["a", "b"]
theorem sc_plus : FnScope N_plus ["a", "b"] (defScope s_plus) := ⟨rfl, rfl, rfl, by decide +kernel, rfl, by decide +kernel, by decide +kernel⟩

abbrev s_minus : Stmt := top 14
abbrev N_minus : List Str := ["a", "b"]
theorem sc_minus : FnScope N_minus ["a", "b"] (defScope s_minus) := ⟨rfl, rfl, rfl, by decide +kernel, rfl, by decide +kernel, by decide +kernel⟩

abbrev s_times : Stmt := top 15
abbrev N_times : List Str := ["a", "b"]
theorem sc_times : FnScope N_times ["a", "b"] (defScope s_times) := ⟨rfl, rfl, rfl, by decide +kernel, rfl, by decide +kernel, by decide +kernel⟩

abbrev s_quotient : Stmt := top 16
abbrev N_quotient : List Str := ["a", "b"]
theorem sc_quotient : FnScope N_quotient ["a", "b"] (defScope s_quotient) := ⟨rfl, rfl, rfl, by decide +kernel, rfl, by decide +kernel, by decide +kernel⟩

abbrev s_below : Stmt := top 17
abbrev N_below : List Str := ["a", "b"]
theorem sc_below : FnScope N_below ["a", "b"] (defScope s_below) := ⟨rfl, rfl, rfl, by decide +kernel, rfl, by decide +kernel, by decide +kernel⟩

abbrev s_floor_of : Stmt := top 18
abbrev N_floor_of : List Str := ["a"]
theorem sc_floor_of : FnScope N_floor_of ["a"] (defScope s_floor_of) := ⟨rfl, rfl, rfl, by decide +kernel, rfl, by decide +kernel, by decide +kernel⟩

abbrev s_read_number : Stmt := top 19
abbrev N_read_number : List Str := ["word", "figures", "number", "sign"]
theorem sc_read_number : FnScope N_read_number ["word"] (defScope s_read_number) := ⟨rfl, rfl, rfl, by decide +kernel, rfl, by decide +kernel, by decide +kernel⟩

abbrev s_is_word_name : Stmt := top 27
abbrev N_is_word_name : List Str := ["value", "sign"]
theorem sc_is_word_name : FnScope N_is_word_name ["value"] (defScope s_is_word_name) := ⟨rfl, rfl, rfl, by decide +kernel, rfl, by decide +kernel, by decide +kernel⟩

abbrev s_is_own_name : Stmt := top 28
abbrev N_is_own_name : List Str := ["value"]
theorem sc_is_own_name : FnScope N_is_own_name ["value"] (defScope s_is_own_name) := ⟨rfl, rfl, rfl, by decide +kernel, rfl, by decide +kernel, by decide +kernel⟩

abbrev s_is_name : Stmt := top 29
abbrev N_is_name : List Str := ["value"]
theorem sc_is_name : FnScope N_is_name ["value"] (defScope s_is_name) := ⟨rfl, rfl, rfl, by decide +kernel, rfl, by decide +kernel, by decide +kernel⟩

abbrev s_is_integer_word : Stmt := top 30
abbrev N_is_integer_word : List Str := ["word", "least", "greatest", "number"]
theorem sc_is_integer_word : FnScope N_is_integer_word ["word", "least", "greatest"] (defScope s_is_integer_word) := ⟨rfl, rfl, rfl, by decide +kernel, rfl, by decide +kernel, by decide +kernel⟩

abbrev s_operands_behind : Stmt := top 31
abbrev N_operands_behind : List Str := ["word", "kind"]
theorem sc_operands_behind : FnScope N_operands_behind ["word", "kind"] (defScope s_operands_behind) := ⟨rfl, rfl, rfl, by decide +kernel, rfl, by decide +kernel, by decide +kernel⟩

abbrev s_is_expression : Stmt := top 32
abbrev N_is_expression : List Str := ["value", "wanted", "word", "operands"]
theorem sc_is_expression : FnScope N_is_expression ["value"] (defScope s_is_expression) := ⟨rfl, rfl, rfl, by decide +kernel, rfl, by decide +kernel, by decide +kernel⟩

abbrev s_names_in : Stmt := top 33
abbrev N_names_in : List Str := ["words", "word"]
theorem sc_names_in : FnScope N_names_in ["words"] (defScope s_names_in) := ⟨rfl, rfl, rfl, by decide +kernel, rfl, by decide +kernel, by decide +kernel⟩

abbrev s_truth : Stmt := top 34
abbrev N_truth : List Str := ["holds"]
theorem sc_truth : FnScope N_truth ["holds"] (defScope s_truth) := ⟨rfl, rfl, rfl, by decide +kernel, rfl, by decide +kernel, by decide +kernel⟩

abbrev s_compared : Stmt := top 35
abbrev N_compared : List Str := ["relation", "a", "b"]
theorem sc_compared : FnScope N_compared ["relation", "a", "b"] (defScope s_compared) := ⟨rfl, rfl, rfl, by decide +kernel, rfl, by decide +kernel, by decide +kernel⟩

abbrev s_whole_quotient : Stmt := top 36
abbrev N_whole_quotient : List Str := ["a", "b"]
theorem sc_whole_quotient : FnScope N_whole_quotient ["a", "b"] (defScope s_whole_quotient) := ⟨rfl, rfl, rfl, by decide +kernel, rfl, by decide +kernel, by decide +kernel⟩

abbrev s_value_of_two : Stmt := top 37
abbrev N_value_of_two : List Str := ["word", "a", "b"]
theorem sc_value_of_two : FnScope N_value_of_two ["word", "a", "b"] (defScope s_value_of_two) := ⟨rfl, rfl, rfl, by decide +kernel, rfl, by decide +kernel, by decide +kernel⟩

abbrev s_value_of_word : Stmt := top 38
abbrev N_value_of_word : List Str := ["word", "operands", "values"]
theorem sc_value_of_word : FnScope N_value_of_word ["word", "operands", "values"] (defScope s_value_of_word) := ⟨rfl, rfl, rfl, by decide +kernel, rfl, by decide +kernel, by decide +kernel⟩

abbrev s_evaluate : Stmt := top 39
abbrev N_evaluate : List Str := ["words", "values", "name", "waiting", "word", "many"]
theorem sc_evaluate : FnScope N_evaluate ["words", "values"] (defScope s_evaluate) := ⟨rfl, rfl, rfl, by decide +kernel, rfl, by decide +kernel, by decide +kernel⟩

abbrev s__law_bag : Stmt := top 41
abbrev N__law_bag : List Str := ["script", "mixed", "cell"]
theorem sc__law_bag : FnScope N__law_bag ["script"] (defScope s__law_bag) := ⟨rfl, rfl, rfl, by decide +kernel, rfl, by decide +kernel, by decide +kernel⟩

abbrev s__law_draw : Stmt := top 42
abbrev N__law_draw : List Str := ["bag", "size", "cell", "digit"]
theorem sc__law_draw : FnScope N__law_draw ["bag", "size"] (defScope s__law_draw) := ⟨rfl, rfl, rfl, by decide +kernel, rfl, by decide +kernel, by decide +kernel⟩

abbrev s__law_of : Stmt := top 43
abbrev N__law_of : List Str := ["bag", "things"]
theorem sc__law_of : FnScope N__law_of ["bag", "things"] (defScope s__law_of) := ⟨rfl, rfl, rfl, by decide +kernel, rfl, by decide +kernel, by decide +kernel⟩

abbrev s__law_like : Stmt := top 44
abbrev N__law_like : List Str := ["got", "due", "one", "two"]
theorem sc__law_like : FnScope N__law_like ["got", "due"] (defScope s__law_like) := ⟨rfl, rfl, rfl, by decide +kernel, rfl, by decide +kernel, by decide +kernel⟩

abbrev s__law_low : Stmt := top 45
abbrev N__law_low : List Str := ["top", "low", "one", "two"]
theorem sc__law_low : FnScope N__law_low ["top", "low"] (defScope s__law_low) := ⟨rfl, rfl, rfl, by decide +kernel, rfl, by decide +kernel, by decide +kernel⟩

abbrev s__law_order : Stmt := top 46
abbrev N__law_order : List Str := ["one", "two", "gap"]
theorem sc__law_order : FnScope N__law_order ["one", "two"] (defScope s__law_order) := ⟨rfl, rfl, rfl, by decide +kernel, rfl, by decide +kernel, by decide +kernel⟩

abbrev s__law_holds : Stmt := top 47
abbrev N__law_holds : List Str := ["mark", "one", "two", "gap"]
theorem sc__law_holds : FnScope N__law_holds ["mark", "one", "two"] (defScope s__law_holds) := ⟨rfl, rfl, rfl, by decide +kernel, rfl, by decide +kernel, by decide +kernel⟩

abbrev s__law_two : Stmt := top 48
abbrev N__law_two : List Str := ["sign", "one", "two", "by"]
theorem sc__law_two : FnScope N__law_two ["sign", "one", "two"] (defScope s__law_two) := ⟨rfl, rfl, rfl, by decide +kernel, rfl, by decide +kernel, by decide +kernel⟩

abbrev s__law_worth : Stmt := top 49
abbrev N__law_worth : List Str := ["prefix", "table", "stack", "part", "one", "two", "three"]
theorem sc__law_worth : FnScope N__law_worth ["prefix", "table"] (defScope s__law_worth) := ⟨rfl, rfl, rfl, by decide +kernel, rfl, by decide +kernel, by decide +kernel⟩

abbrev s__law_prefix : Stmt := top 50
abbrev N__law_prefix : List Str := ["bag", "parts", "size", "owed", "made", "step", "kind", "room", "way"]
theorem sc__law_prefix : FnScope N__law_prefix ["bag", "parts", "size"] (defScope s__law_prefix) := ⟨rfl, rfl, rfl, by decide +kernel, rfl, by decide +kernel, by decide +kernel⟩

abbrev s__law_once : Stmt := top 51
abbrev N__law_once : List Str := ["things", "found", "one"]
theorem sc__law_once : FnScope N__law_once ["things"] (defScope s__law_once) := ⟨rfl, rfl, rfl, by decide +kernel, rfl, by decide +kernel, by decide +kernel⟩

abbrev s__law_named : Stmt := top 52
abbrev N__law_named : List Str := ["prefix", "signs_of_words", "part"]
theorem sc__law_named : FnScope N__law_named ["prefix"] (defScope s__law_named) := ⟨rfl, rfl, rfl, by decide +kernel, rfl, by decide +kernel, by decide +kernel⟩

abbrev s__law_some : Stmt := top 55
abbrev N__law_some : List Str := ["bag", "far", "near", "some"]
theorem sc__law_some : FnScope N__law_some ["bag"] (defScope s__law_some) := ⟨rfl, rfl, rfl, by decide +kernel, rfl, by decide +kernel, by decide +kernel⟩

abbrev s__law_names : Stmt := top 56
abbrev N__law_names : List Str := ["bag", "some", "k"]
theorem sc__law_names : FnScope N__law_names ["bag"] (defScope s__law_names) := ⟨rfl, rfl, rfl, by decide +kernel, rfl, by decide +kernel, by decide +kernel⟩

abbrev s__law_table : Stmt := top 57
abbrev N__law_table : List Str := ["bag", "parts", "others", "order", "table", "pool", "k", "one"]
theorem sc__law_table : FnScope N__law_table ["bag", "parts", "others"] (defScope s__law_table) := ⟨rfl, rfl, rfl, by decide +kernel, rfl, by decide +kernel, by decide +kernel⟩

abbrev s__law_ask : Stmt := top 58
abbrev N__law_ask : List Str := ["deed", "error"]
theorem sc__law_ask : FnScope N__law_ask ["deed"] (defScope s__law_ask) := ⟨rfl, rfl, rfl, by decide +kernel, rfl, by decide +kernel, by decide +kernel⟩

abbrev s__law_so : Stmt := top 59
abbrev N__law_so : List Str := ["prefix", "table", "way", "lacking", "kept", "got", "part"]
theorem sc__law_so : FnScope N__law_so ["prefix", "table", "way"] (defScope s__law_so) := ⟨rfl, rfl, rfl, by decide +kernel, rfl, by decide +kernel, by decide +kernel⟩

abbrev s__law_one_more : Stmt := top 60
abbrev N__law_one_more : List Str := ["bag", "prefix", "tables", "got", "parts", "again"]
theorem sc__law_one_more : FnScope N__law_one_more ["bag", "prefix", "tables"] (defScope s__law_one_more) := ⟨rfl, rfl, rfl, by decide +kernel, rfl, by decide +kernel, by decide +kernel⟩

abbrev s_law : Stmt := top 61
abbrev N_law : List Str := ["script", "bag", "turn", "parts", "prefix", "found", "tables", "k", "short", "part"]
theorem sc_law : FnScope N_law ["script"] (defScope s_law) := ⟨rfl, rfl, rfl, by decide +kernel, rfl, by decide +kernel, by decide +kernel⟩

mutual
def okD : PyData → Bool
  | .none => true | .bool _ => true | .int i => decide (i.natAbs < 2 ^ 4000)
  | .str z => decide (z.length ≤ 100000)
  | .list ds => decide (ds.length ≤ 100000) && okAll ds
  | .tuple ds => decide (ds.length ≤ 100000) && okAll ds
  | .dict _ => false
def okAll : List PyData → Bool
  | [] => true
  | d :: ds => okD d && okAll ds
end
theorem okD_tup {ds : List PyData} : okD (.tuple ds) = true ↔ ds.length ≤ 100000 ∧ okAll ds = true := by
  show (decide (ds.length ≤ 100000) && okAll ds) = true ↔ _
  rw [Bool.and_eq_true, decide_eq_true_iff]
theorem okD_lst {ds : List PyData} : okD (.list ds) = true ↔ ds.length ≤ 100000 ∧ okAll ds = true := by
  show (decide (ds.length ≤ 100000) && okAll ds) = true ↔ _
  rw [Bool.and_eq_true, decide_eq_true_iff]
mutual
def dep : PyData → Nat
  | .none => 0 | .bool _ => 0 | .int _ => 0 | .str _ => 0
  | .list ds => depAll ds + 1
  | .tuple ds => depAll ds + 1
  | .dict _ => 0
def depAll : List PyData → Nat
  | [] => 0
  | d :: ds => max (dep d) (depAll ds)
end
def spP (K : PySem.W.Frag) (F : PyData → V) : Sp := fun vs H Q _ => ∃ v d, vs = [v] ∧ Dp K H v d ∧ okD d = true ∧ ∀ H', Same H H' → Q (F d) H'
def SeqV (K : PySem.W.Frag) (G : Hp) (x : V) (ys : List V) : Prop := (∃ p, x = .ref p ∧ SqL K G p ys) ∨ (∃ p, x = .ref p ∧ SqT K G p ys) ∨ ∃ z, x = .str z ∧ z.length ≤ 100000 ∧ ys = z.cps.toList.map fun c => V.str ⟨#[c]⟩
def sp__law_bag (K : PySem.W.Frag) : Sp := fun vs H Q _ => ∃ (a : Addr) (ns : List Int), vs = [.ref a] ∧ SqL K H a (ns.map V.int) ∧ ns.length ≤ 63 ∧ ∀ b c H', Same H H' → Bag H' b c → H b = none → Q (.ref b) H'
def sp__law_draw : Sp := fun vs H Q _ => ∃ (b c : Addr) (n : Int), vs = [.ref b, .int n] ∧ Bag H b c ∧ 0 < n ∧ n < 1073741824 ∧ ∀ (r : Int) H', 0 ≤ r → r < n → Bag H' b c → Kp b H H' → Q (.int r) H'
def sp__law_of (K : PySem.W.Frag) : Sp := fun vs H Q _ => ∃ (b c : Addr) (x : V) (ys : List V), vs = [.ref b, x] ∧ Bag H b c ∧ SeqV K H x ys ∧ SeqV K (hb H b) x ys ∧ ys ≠ [] ∧ ys.length ≤ 1000000 ∧ ∀ y H', y ∈ ys → Bag H' b c → Kp b H H' → Q y H'
def sp__law_like (K : PySem.W.Frag) (n : Nat) : Sp := fun vs H Q _ => ∃ v u d, vs = [v, u] ∧ Dp K H v d ∧ Dp K H u d ∧ okD d = true ∧ dep d ≤ n ∧ ∀ H', Same H H' → Q (.bl true) H'
def sp__law_any (K : PySem.W.Frag) (n : Nat) : Sp := fun vs H Q _ => ∃ (b c : Addr) (k : Int), vs = [.ref b, .int k] ∧ Bag H b c ∧ k ≤ n ∧ ∀ v d H', Bag H' b c → Kp b H H' → Dp K (nw H H') v d → okD d = true → dep d ≤ n → Q v H'
/-! ### mirrors -/
def LETs : Str := "abcdefghijklmnopqrstuvwxyz"
def FIGs : Str := "0123456789"
def inS (c : Nat) (z : Str) : Bool := decide (c ∈ z.cps.toList)
def keptL : List Str := ["program", "let", "tell", "be", "table", "first", "last", "count", "mean", "where", "pairs", "else", "sign", "place", "min", "max", "mod", "div", "and", "or", "not", "if"]
def keptV : List V := keptL.map V.str
def givenV : List V := [.str "sign", .str "place"]
def opsTab : List (Str × Str) := [("+", "ee"), ("-", "ee"), ("*", "ee"), ("min", "ee"), ("max", "ee"), ("=", "ee"), ("/=", "ee"), ("<", "ee"), ("<=", "ee"), (">", "ee"), (">=", "ee"), ("and", "ee"), ("or", "ee"), ("mod", "ek"), ("div", "ek"), ("not", "e"), ("if", "eee")]
def opsOf (z : Str) : Option Str := opsTab.lookup z
def optS : Option Str → V
  | none => .non
  | some s => .str s
def optI : Option Int → V
  | none => .non
  | some i => .int i
def isWordS (z : Str) : Bool := match z.cps.toList with
  | [] => false
  | c :: r => decide (z.length ≤ 6) && (inS c LETs && (c :: r).all fun c => inS c LETs || inS c FIGs)
def isWordD : PyData → Bool
  | .str z => isWordS z
  | _ => false
def isOwnD : PyData → Bool
  | .str z => isWordS z && !inV (.str z) keptV
  | _ => false
def isNameD : PyData → Bool
  | .str z => isOwnD (.str z) || inV (.str z) givenV
  | _ => false
def figures (z : Str) : Str := if Txt.startswith z "-" then cutS z (some 1) none else z
def readNum (z : Str) : Option Int :=
  if (1 ≤ (figures z).length ∧ (figures z).length ≤ 60) ∧ ((figures z).cps.toList.all fun c => inS c FIGs) = true then
    (match intText? z with
      | some n => if Str.ofString (toString n) = z then some n else none
      | none => none)
  else none
def isInt (z : Str) (a b : Int) : Bool := match readNum z with
  | some n => decide (a ≤ n) && decide (n ≤ b)
  | none => false
def opsBehind (d : PyData) (k : Str) : Option Str := match d with
  | .str z => if k = "k" then (if isInt z 1 9 = true then some "" else none) else if (isNameD (.str z) || isInt z (-9) 9) = true then some "" else opsOf z
  | _ => none
def head1 (w : Str) : Str := ⟨#[w.cps.toList.headD 0]⟩
def walkE : Str → List PyData → Bool
  | w, [] => decide (w = "")
  | w, d :: r => if w = "" then false else match opsBehind d (head1 w) with
    | none => false
    | some o => walkE (o ++ cutS w (some 1) none) r
def isExpr : PyData → Bool
  | .tuple ds => decide (1 ≤ ds.length) && decide (ds.length ≤ 30) && walkE "e" ds
  | _ => false
def isNum : PyData → Bool
  | .int _ => true
  | _ => false
def isFrac : PyData → Bool
  | .tuple [.int p, .int q] => decide (1 ≤ q) && decide (Nat.gcd p.natAbs q.natAbs = 1)
  | _ => false
def relL : List Str := ["=", "/=", "<", "<=", ">", ">="]
def relV : List V := relL.map V.str
/-! ### promises -/
def sp_read_number : Sp := fun vs H Q _ => ∃ z, vs = [.str z] ∧ z.length ≤ 100000 ∧ ∀ H', Same H H' → Q (optI (readNum z)) H'
def sp_is_integer_word : Sp := fun vs H Q _ => ∃ z a b, vs = [.str z, .int a, .int b] ∧ z.length ≤ 100000 ∧ ∀ H', Same H H' → Q (.bl (isInt z a b)) H'
def sp_operands_behind (K : PySem.W.Frag) : Sp := fun vs H Q _ => ∃ v d k, vs = [v, .str k] ∧ Dp K H v d ∧ okD d = true ∧ ∀ H', Same H H' → Q (optS (opsBehind d k)) H'
/-! ### an exception's class, as isinstance asks for it -/
structure IsxC (K : PySem.W.Frag) (C : Addr) : Prop where
  cl : (PySem.W.clsIn K C).isSome = true
  ga : PySem.W.findIn K (.ref C) "__getattribute__" = some (some (.builtin "BaseException.__getattribute__"))
  gt : PySem.W.findIn K (.ref C) "__getattr__" = some none
  sub : PySem.W.subIn K (.ref C) (.type "BaseException") = some true
  ha : PySem.W.findIn K (.ref C) "__class__" = some (some (.builtin "object.__class__"))
  hn : PySem.W.specialIn K (.builtin "object.__class__") "__get__" = some (some (.builtin "getset_descriptor.__get__"))
  tk : PySem.W.takesIn K (.builtin "object.__class__") = some true
  hm : PySem.W.mroIn K C (.type "object") = some true
/-- two keywords in the other order -/
def sw {α : Type} : List α → List α
  | [x, y] => [y, x]
  | l => l
theorem sw_rel : ∀ {zs : List V} {ws : List Value}, Vals zs ws → Vals (sw zs) (sw ws)
  | _, _, .nil => .nil
  | _, _, .cons a .nil => .cons a .nil
  | _, _, .cons a (.cons b .nil) => .cons b (.cons a .nil)
  | _, _, .cons a (.cons b (.cons c r)) => .cons a (.cons b (.cons c r))
/-! ### wide whole numbers -/
def CDivF (_ j : Int) : Prop := j ≠ 0 ∧ j.natAbs.log2 < 9000
theorem op_fdivF {X : Cx} : OpR X (binaryOp .FloorDiv) (rI CDivF fun i j => .int (i.fdiv j)) := opI fun _ _ _ _ _ _ _ hc q => floordiv_int hc.1 q (.inl (PyProof.noPylong_of_log2 hc.2))
set_option maxHeartbeats 0 in
structure Txt (w : World) (K : PySem.W.Frag) (mg : Str → Option Value) where
  n_len : mg "len" = none
  n_int : mg "int" = none
  n_str : mg "str" = none
  n_list : mg "list" = none
  n_tuple : mg "tuple" = none
  n_bool : mg "bool" = none
  n_dict : mg "dict" = none
  n_isinstance : mg "isinstance" = none
  n_all : mg "all" = none
  n_range : mg "range" = none
  n_zip : mg "zip" = none
  n_abs : mg "abs" = none
  n_reversed : mg "reversed" = none
  m_gcd : mg "gcd" = some (.builtin "math.gcd")
  a_ZERO : Addr
  m_ZERO : mg "ZERO" = some (.ref a_ZERO)
  s_ZERO : ∀ H, SqT K H a_ZERO [.int 0, .int 1]
  a_ONE : Addr
  m_ONE : mg "ONE" = some (.ref a_ONE)
  s_ONE : ∀ H, SqT K H a_ONE [.int 1, .int 1]
  t_FIGURES : Tok
  m_FIGURES : mg "FIGURES" = some (.str FIGs t_FIGURES)
  t_LETTERS : Tok
  m_LETTERS : mg "LETTERS" = some (.str LETs t_LETTERS)
  t_MOST_WORDS : Tok
  m_MOST_WORDS : mg "MOST_WORDS" = some (.int 30 t_MOST_WORDS)
  a_RESERVED : Addr
  m_RESERVED : mg "RESERVED" = some (.ref a_RESERVED)
  s_RESERVED : ∀ H, SqT K H a_RESERVED keptV
  a_GIVEN : Addr
  m_GIVEN : mg "GIVEN" = some (.ref a_GIVEN)
  s_GIVEN : ∀ H, SqT K H a_GIVEN givenV
  a_RELATIONS : Addr
  m_RELATIONS : mg "RELATIONS" = some (.ref a_RELATIONS)
  s_RELATIONS : ∀ H, SqT K H a_RELATIONS relV
  a_OPERANDS : Addr
  m_OPERANDS : mg "OPERANDS" = some (.ref a_OPERANDS)
  es_OPERANDS : Array DictEntry
  n_es_OPERANDS : Nat
  D_OPERANDS : KDict K w a_OPERANDS es_OPERANDS n_es_OPERANDS
  g_OPERANDS : ∀ z, ∃ r, PySem.W.nsIn K a_OPERANDS z = some r ∧ (match r with | none => opsOf z = none | some u => ∃ y, opsOf z = some y ∧ RelV (.str y) u)
  C_BadValue : Addr
  f_BadValue : Addr
  d_BadValue : FuncData
  m_BadValue : mg "BadValue" = some (.ref C_BadValue)
  X_BadValue : OexC K C_BadValue
  i_BadValue : PySem.W.findIn K (.ref C_BadValue) "__init__" = some (some (.ref f_BadValue))
  t_BadValue : PySem.W.typeIn K (.ref f_BadValue) = some (.type "function")
  F_BadValue : Fun K "__init__" "BadValue.__init__" s_BadValue f_BadValue d_BadValue
  B_BadValue__init : Binds K d_BadValue ["self", "value"] []
  v_BadValue : PySem.W.findIn K (.ref C_BadValue) "value" = some none
  c_BadValue : PySem.W.findIn K (.ref C_BadValue) "code" = some none
  C_NoName : Addr
  f_NoName : Addr
  d_NoName : FuncData
  m_NoName : mg "NoName" = some (.ref C_NoName)
  X_NoName : OexM K C_NoName "LookupError.__new__" leTail
  i_NoName : PySem.W.findIn K (.ref C_NoName) "__init__" = some (some (.ref f_NoName))
  t_NoName : PySem.W.typeIn K (.ref f_NoName) = some (.type "function")
  F_NoName : Fun K "__init__" "NoName.__init__" s_NoName f_NoName d_NoName
  B_NoName__init : Binds K d_NoName ["self", "name"] []
  v_NoName : PySem.W.findIn K (.ref C_NoName) "name" = some none
  c_NoName : PySem.W.findIn K (.ref C_NoName) "code" = some none
  C_Missing : Addr
  m_Missing : mg "Missing" = some (.ref C_Missing)
  e_NoName : PySem.W.exmOne K (.ref C_NoName) (.ref C_Missing) = some true
  x_NoName : XfC K C_NoName
  y_NoName : IsxC K C_NoName
  k_NoName : PySem.W.kitOne K (.ref C_NoName) (.ref C_NoName) = some true
  a_is_number : Addr
  d_is_number : FuncData
  F_is_number : Fun K "is_number" "is_number" s_is_number a_is_number d_is_number
  m_is_number : mg "is_number" = some (.ref a_is_number)
  B_is_number : Binds K d_is_number ["value"] []
  a_is_fraction : Addr
  d_is_fraction : FuncData
  F_is_fraction : Fun K "is_fraction" "is_fraction" s_is_fraction a_is_fraction d_is_fraction
  m_is_fraction : mg "is_fraction" = some (.ref a_is_fraction)
  B_is_fraction : Binds K d_is_fraction ["value"] []
  a_fraction : Addr
  d_fraction : FuncData
  F_fraction : FunD K "fraction" "fraction" (defArgs s_fraction) (defBody s_fraction) (defScope s_fraction) [.int 1] [] a_fraction d_fraction
  D_fraction : ∃ ds, Vals [.int 1] ds ∧ Binds K d_fraction ["p", "q"] ds
  m_fraction : mg "fraction" = some (.ref a_fraction)
  B_fraction : Binds K d_fraction ["p", "q"] []
  a_plus : Addr
  d_plus : FuncData
  F_plus : Fun K "plus" "plus" s_plus a_plus d_plus
  m_plus : mg "plus" = some (.ref a_plus)
  B_plus : Binds K d_plus ["a", "b"] []
  a_minus : Addr
  d_minus : FuncData
  F_minus : Fun K "minus" "minus" s_minus a_minus d_minus
  m_minus : mg "minus" = some (.ref a_minus)
  B_minus : Binds K d_minus ["a", "b"] []
  a_times : Addr
  d_times : FuncData
  F_times : Fun K "times" "times" s_times a_times d_times
  m_times : mg "times" = some (.ref a_times)
  B_times : Binds K d_times ["a", "b"] []
  a_quotient : Addr
  d_quotient : FuncData
  F_quotient : Fun K "quotient" "quotient" s_quotient a_quotient d_quotient
  m_quotient : mg "quotient" = some (.ref a_quotient)
  B_quotient : Binds K d_quotient ["a", "b"] []
  a_below : Addr
  d_below : FuncData
  F_below : Fun K "below" "below" s_below a_below d_below
  m_below : mg "below" = some (.ref a_below)
  B_below : Binds K d_below ["a", "b"] []
  a_floor_of : Addr
  d_floor_of : FuncData
  F_floor_of : Fun K "floor_of" "floor_of" s_floor_of a_floor_of d_floor_of
  m_floor_of : mg "floor_of" = some (.ref a_floor_of)
  B_floor_of : Binds K d_floor_of ["a"] []
  a_read_number : Addr
  d_read_number : FuncData
  F_read_number : Fun K "read_number" "read_number" s_read_number a_read_number d_read_number
  m_read_number : mg "read_number" = some (.ref a_read_number)
  B_read_number : Binds K d_read_number ["word"] []
  a_is_word_name : Addr
  d_is_word_name : FuncData
  F_is_word_name : Fun K "is_word_name" "is_word_name" s_is_word_name a_is_word_name d_is_word_name
  m_is_word_name : mg "is_word_name" = some (.ref a_is_word_name)
  B_is_word_name : Binds K d_is_word_name ["value"] []
  a_is_own_name : Addr
  d_is_own_name : FuncData
  F_is_own_name : Fun K "is_own_name" "is_own_name" s_is_own_name a_is_own_name d_is_own_name
  m_is_own_name : mg "is_own_name" = some (.ref a_is_own_name)
  B_is_own_name : Binds K d_is_own_name ["value"] []
  a_is_name : Addr
  d_is_name : FuncData
  F_is_name : Fun K "is_name" "is_name" s_is_name a_is_name d_is_name
  m_is_name : mg "is_name" = some (.ref a_is_name)
  B_is_name : Binds K d_is_name ["value"] []
  a_is_integer_word : Addr
  d_is_integer_word : FuncData
  F_is_integer_word : Fun K "is_integer_word" "is_integer_word" s_is_integer_word a_is_integer_word d_is_integer_word
  m_is_integer_word : mg "is_integer_word" = some (.ref a_is_integer_word)
  B_is_integer_word : Binds K d_is_integer_word ["word", "least", "greatest"] []
  a_operands_behind : Addr
  d_operands_behind : FuncData
  F_operands_behind : Fun K "operands_behind" "operands_behind" s_operands_behind a_operands_behind d_operands_behind
  m_operands_behind : mg "operands_behind" = some (.ref a_operands_behind)
  B_operands_behind : Binds K d_operands_behind ["word", "kind"] []
  a_is_expression : Addr
  d_is_expression : FuncData
  F_is_expression : Fun K "is_expression" "is_expression" s_is_expression a_is_expression d_is_expression
  m_is_expression : mg "is_expression" = some (.ref a_is_expression)
  B_is_expression : Binds K d_is_expression ["value"] []
  a_names_in : Addr
  d_names_in : FuncData
  F_names_in : Fun K "names_in" "names_in" s_names_in a_names_in d_names_in
  m_names_in : mg "names_in" = some (.ref a_names_in)
  B_names_in : Binds K d_names_in ["words"] []
  a_truth : Addr
  d_truth : FuncData
  F_truth : Fun K "truth" "truth" s_truth a_truth d_truth
  m_truth : mg "truth" = some (.ref a_truth)
  B_truth : Binds K d_truth ["holds"] []
  a_compared : Addr
  d_compared : FuncData
  F_compared : Fun K "compared" "compared" s_compared a_compared d_compared
  m_compared : mg "compared" = some (.ref a_compared)
  B_compared : Binds K d_compared ["relation", "a", "b"] []
  a_whole_quotient : Addr
  d_whole_quotient : FuncData
  F_whole_quotient : Fun K "whole_quotient" "whole_quotient" s_whole_quotient a_whole_quotient d_whole_quotient
  m_whole_quotient : mg "whole_quotient" = some (.ref a_whole_quotient)
  B_whole_quotient : Binds K d_whole_quotient ["a", "b"] []
  a_value_of_two : Addr
  d_value_of_two : FuncData
  F_value_of_two : Fun K "value_of_two" "value_of_two" s_value_of_two a_value_of_two d_value_of_two
  m_value_of_two : mg "value_of_two" = some (.ref a_value_of_two)
  B_value_of_two : Binds K d_value_of_two ["word", "a", "b"] []
  a_value_of_word : Addr
  d_value_of_word : FuncData
  F_value_of_word : Fun K "value_of_word" "value_of_word" s_value_of_word a_value_of_word d_value_of_word
  m_value_of_word : mg "value_of_word" = some (.ref a_value_of_word)
  B_value_of_word : Binds K d_value_of_word ["word", "operands", "values"] []
  a_evaluate : Addr
  d_evaluate : FuncData
  F_evaluate : Fun K "evaluate" "evaluate" s_evaluate a_evaluate d_evaluate
  m_evaluate : mg "evaluate" = some (.ref a_evaluate)
  B_evaluate : Binds K d_evaluate ["words", "values"] []
  a__law_bag : Addr
  d__law_bag : FuncData
  F__law_bag : Fun K "_law_bag" "_law_bag" s__law_bag a__law_bag d__law_bag
  m__law_bag : mg "_law_bag" = some (.ref a__law_bag)
  B__law_bag : Binds K d__law_bag ["script"] []
  a__law_draw : Addr
  d__law_draw : FuncData
  F__law_draw : Fun K "_law_draw" "_law_draw" s__law_draw a__law_draw d__law_draw
  m__law_draw : mg "_law_draw" = some (.ref a__law_draw)
  B__law_draw : Binds K d__law_draw ["bag", "size"] []
  a__law_of : Addr
  d__law_of : FuncData
  F__law_of : Fun K "_law_of" "_law_of" s__law_of a__law_of d__law_of
  m__law_of : mg "_law_of" = some (.ref a__law_of)
  B__law_of : Binds K d__law_of ["bag", "things"] []
  a__law_like : Addr
  d__law_like : FuncData
  F__law_like : Fun K "_law_like" "_law_like" s__law_like a__law_like d__law_like
  m__law_like : mg "_law_like" = some (.ref a__law_like)
  B__law_like : Binds K d__law_like ["got", "due"] []
  a__law_low : Addr
  d__law_low : FuncData
  F__law_low : Fun K "_law_low" "_law_low" s__law_low a__law_low d__law_low
  m__law_low : mg "_law_low" = some (.ref a__law_low)
  B__law_low : Binds K d__law_low ["top", "low"] []
  a__law_order : Addr
  d__law_order : FuncData
  F__law_order : Fun K "_law_order" "_law_order" s__law_order a__law_order d__law_order
  m__law_order : mg "_law_order" = some (.ref a__law_order)
  B__law_order : Binds K d__law_order ["one", "two"] []
  a__law_holds : Addr
  d__law_holds : FuncData
  F__law_holds : Fun K "_law_holds" "_law_holds" s__law_holds a__law_holds d__law_holds
  m__law_holds : mg "_law_holds" = some (.ref a__law_holds)
  B__law_holds : Binds K d__law_holds ["mark", "one", "two"] []
  a__law_two : Addr
  d__law_two : FuncData
  F__law_two : Fun K "_law_two" "_law_two" s__law_two a__law_two d__law_two
  m__law_two : mg "_law_two" = some (.ref a__law_two)
  B__law_two : Binds K d__law_two ["sign", "one", "two"] []
  a__law_worth : Addr
  d__law_worth : FuncData
  F__law_worth : Fun K "_law_worth" "_law_worth" s__law_worth a__law_worth d__law_worth
  m__law_worth : mg "_law_worth" = some (.ref a__law_worth)
  B__law_worth : Binds K d__law_worth ["prefix", "table"] []
  a__law_prefix : Addr
  d__law_prefix : FuncData
  F__law_prefix : Fun K "_law_prefix" "_law_prefix" s__law_prefix a__law_prefix d__law_prefix
  m__law_prefix : mg "_law_prefix" = some (.ref a__law_prefix)
  B__law_prefix : Binds K d__law_prefix ["bag", "parts", "size"] []
  a__law_once : Addr
  d__law_once : FuncData
  F__law_once : Fun K "_law_once" "_law_once" s__law_once a__law_once d__law_once
  m__law_once : mg "_law_once" = some (.ref a__law_once)
  B__law_once : Binds K d__law_once ["things"] []
  a__law_named : Addr
  d__law_named : FuncData
  F__law_named : Fun K "_law_named" "_law_named" s__law_named a__law_named d__law_named
  m__law_named : mg "_law_named" = some (.ref a__law_named)
  B__law_named : Binds K d__law_named ["prefix"] []
  a__law_some : Addr
  d__law_some : FuncData
  F__law_some : Fun K "_law_some" "_law_some" s__law_some a__law_some d__law_some
  m__law_some : mg "_law_some" = some (.ref a__law_some)
  B__law_some : Binds K d__law_some ["bag"] []
  a__law_names : Addr
  d__law_names : FuncData
  F__law_names : Fun K "_law_names" "_law_names" s__law_names a__law_names d__law_names
  m__law_names : mg "_law_names" = some (.ref a__law_names)
  B__law_names : Binds K d__law_names ["bag"] []
  a__law_table : Addr
  d__law_table : FuncData
  F__law_table : Fun K "_law_table" "_law_table" s__law_table a__law_table d__law_table
  m__law_table : mg "_law_table" = some (.ref a__law_table)
  B__law_table : Binds K d__law_table ["bag", "parts", "others"] []
  a__law_ask : Addr
  d__law_ask : FuncData
  F__law_ask : Fun K "_law_ask" "_law_ask" s__law_ask a__law_ask d__law_ask
  m__law_ask : mg "_law_ask" = some (.ref a__law_ask)
  B__law_ask : Binds K d__law_ask ["deed"] []
  a__law_so : Addr
  d__law_so : FuncData
  F__law_so : Fun K "_law_so" "_law_so" s__law_so a__law_so d__law_so
  m__law_so : mg "_law_so" = some (.ref a__law_so)
  B__law_so : Binds K d__law_so ["prefix", "table", "way"] []
  a__law_one_more : Addr
  d__law_one_more : FuncData
  F__law_one_more : Fun K "_law_one_more" "_law_one_more" s__law_one_more a__law_one_more d__law_one_more
  m__law_one_more : mg "_law_one_more" = some (.ref a__law_one_more)
  B__law_one_more : Binds K d__law_one_more ["bag", "prefix", "tables"] []
  a_law : Addr
  d_law : FuncData
  F_law : Fun K "law" "law" s_law a_law d_law
  m_law : mg "law" = some (.ref a_law)
  B_law : Binds K d_law ["script"] []
  c__law_so : Addr
  P__law_so : Addr
  k__law_so : d__law_so.code = .ref c__law_so
  Z_is_expression : KBn K d_is_expression ["value"] 0 ["value"] (fun _ ws => ws) (fun _ zs => zs)
  Z_names_in : KBn K d_names_in ["words"] 0 ["words"] (fun _ ws => ws) (fun _ zs => zs)
  Z_evaluate : KBn K d_evaluate ["words", "values"] 0 ["values", "words"] (fun _ ws => sw ws) (fun _ zs => sw zs)

end LK

set_option Elab.async false
set_option linter.all false
set_option maxRecDepth 100000
namespace LK
open PySem PySem.Spec PyProof.Rows L2
local macro_rules | `(tactic| walk_at "rs") => `(tactic| simp only [cxK, cxNK, tCallZ, tAsg, tOp, rI0, rS0, rB0, rI, rU, tUn, rEq, rNe, rIxL, rIxT, rIxS, rSetL, rSlLU, rSlS, rSlU, rCatL, rCatU, rRepL, rIn, tVar, tC, gName, gSub, tIfS, tTest, tB, tAnd, tOr, tNot, tNotV, tAndV, tOrV, tIf, tCall, tCons, tNil, tCB, tDrop, tRet, tRetN, tNext, tLstU, tTupU, tM0, tM1, tPar, tPar3, tAug, ipI, tBM, tBM0, rAppend, rPop, tBreak, tCont, tChain, tSl, tPart, tNoPart, L2.start, List.map, List.length_cons, List.length_nil, List.replicate, List.cons_append, List.nil_append, List.append_nil, List.getElem?_cons_zero, List.getElem?_cons_succ, List.set_cons_zero, List.set_cons_succ, Option.some.injEq, V.int.injEq, V.ref.injEq, V.str.injEq, V.bl.injEq, exists_eq_left', exists_eq_left, exists_and_left, decide_eq_true_eq, List.cons.injEq, and_true, true_and, scal, Bool.not_eq_true', decide_eq_false_iff_not, Nat.zero_add, Nat.reduceAdd, Nat.reduceSub, reduceCtorEq, false_and, exists_false, false_or, or_false, CPow, CMul, CDiv, Int.reduceToNat, ↓reduceIte, wipe, sw, List.nil_append, List.singleton_append])
local macro_rules | `(tactic| walk_at "st") => `(tactic| (refine seq_op fun N hN => ?_; walk_at "rs"))
local macro_rules | `(tactic| walk_at "sd") => `(tactic| first | assumption | decide | omega)
local macro_rules | `(tactic| walk_at "rd") => `(tactic| repeat (first
  | refine ⟨_, SqL.of (by assumption), ?_⟩ | refine ⟨_, SqL.of upd_same, ?_⟩ | refine ⟨_, .inl (SqL.of (by assumption)), ?_⟩ | refine ⟨_, (by assumption : _ = some (HO.lst _)), ?_⟩ | refine ⟨_, upd_same, ?_⟩
  | refine ⟨_, rfl, ?_⟩ | refine And.intro (by walk_at "sd") ?_))

def spV (sp : List V → Hp → VK → Prop) : Sp := fun vs H Q _ => sp vs H Q
/-- the two fields of a BadValue -/
def badF (v : V) : List (Str × V) := [("code", .str "BadValue"), ("value", v)]
def sp_BadValue (C : Addr) : Sp := fun vs H Q _ => ∃ (a : Addr) (v : V), vs = [.ref a, v] ∧ H a = some (exo a C none) ∧
  ∀ dx, H dx = none → dx ≠ a → Q .non (L2.upd (L2.upd (L2.upd H dx (exd dx [("value", v)])) a (exo a C (some dx))) dx (exd dx (badF v)))
def spP1 (K : PySem.W.Frag) (F : PyData → V) : Sp := fun vs H Q _ => ∃ v d, vs = [v] ∧ Dp K H v d ∧ ∀ H', Same H H' → Q (F d) H'
section
variable {P : Program} {w : World} {K : PySem.W.Frag} {mg : Str → Option Value} {base : Heap}
theorem ok_BadValue (T : Txt w K mg) : FnOk P w K mg base CX0 1 T.f_BadValue T.d_BadValue ["self", "value"] (sp_BadValue T.C_BadValue) := by
  refine T.F_BadValue.ok sc_BadValue (fun vs H Q E h => ?_) (fun cdv A outer s H vs Q E hr h => ?_)
  · obtain ⟨a, v, rfl, _⟩ := h
    rfl
  · obtain ⟨a, v, rfl, ha, k⟩ := h
    refine ⟨_, pss_cons (ps_ost (pv 0) (pv 1)) (pss_one (ps_ost (pv 0) pe_str)), ?_⟩
    refine seq_op fun N hN => ?_
    unfold tOst
    walk_at "rs"
    refine ⟨T.C_BadValue, T.X_BadValue, T.v_BadValue, .inl ⟨ha, fun dx hdx ne => hN _ _ ?_⟩⟩
    clear hN N
    unfold tOst
    walk_at "rs"
    refine ⟨T.C_BadValue, T.X_BadValue, T.c_BadValue, .inr ⟨dx, upd_same, [("value", v)], by rw [upd_ne ne]; exact upd_same, by simp, k dx hdx ne⟩⟩
theorem ok_is_number (T : Txt w K mg) : FnOk P w K mg base CX0 1 T.a_is_number T.d_is_number ["value"] (spP1 K fun d => .bl (isNum d)) := by
  refine T.F_is_number.ok sc_is_number (fun vs H Q E h => ?_) (fun cdv A outer s H vs Q E hr h => ?_)
  · obtain ⟨v, d, rfl, _⟩ := h
    rfl
  · obtain ⟨v, d, rfl, hD, k⟩ := h
    refine ⟨_, (pss_one (ps_ret (pe_and (pe_callB (call_isiDK (K := K) rfl) (by rfl) T.n_isinstance (by decide +kernel) (pa_cons (pv 0) (pa_cons (pe_bltn (v := .ty "int") (u := .type "int") (by rfl) T.n_int (by decide +kernel) rfl) pa_nil))) (pe_one (pe_not (pe_callB (call_isiDK (K := K) rfl) (by rfl) T.n_isinstance (by decide +kernel) (pa_cons (pv 0) (pa_cons (pe_bltn (v := .ty "bool") (u := .type "bool") (by rfl) T.n_bool (by decide +kernel) rfl) pa_nil)))))))), ?_⟩
    walk_at "rs"
    refine ⟨v, "int", ⟨rfl, rfl⟩, d, hD, by decide, ite2 (fun h => ⟨v, "bool", ⟨rfl, rfl⟩, d, hD, by decide, ?_⟩) (fun h => ?_)⟩
    · have e : isNum d = !isTy "bool" d := by cases d <;> first | rfl | cases h
      rw [← e]; exact k H (Same.refl _)
    · have e : isNum d = false := by cases d <;> first | rfl | (exact absurd rfl h)
      have q : Q (.bl (isNum d)) H := k H (Same.refl _)
      rw [e] at q; exact q
theorem ok_is_fraction (T : Txt w K mg) : FnOk P w K mg base CX0 2 T.a_is_fraction T.d_is_fraction ["value"] (spP1 K fun d => .bl (isFrac d)) := by
  refine T.F_is_fraction.ok sc_is_fraction (fun vs H Q E h => ?_) (fun cdv A outer s H vs Q E hr h => ?_)
  · obtain ⟨v, d, rfl, _⟩ := h
    rfl
  · obtain ⟨v, d, rfl, hD, k⟩ := h
    have hr_is_number : Room 1 _ := hr.mono (by decide)
    have G_is_number := ok_is_number (P := P) (base := base) T
    refine ⟨_, (pss_cons (ps_if (PW.pt (pw_or (pt_not (pt_val (pe_callB (call_isiDK (K := K) rfl) (by rfl) T.n_isinstance (by decide +kernel) (pa_cons (pv 0) (pa_cons (pe_bltn (v := .ty "tuple") (u := .type "tuple") (by rfl) T.n_tuple (by decide +kernel) rfl) pa_nil))))) (pw_or1 (pt_cmpR op_neI (pe_callB call_lenD (by rfl) T.n_len (by decide +kernel) (pa_cons (pv 0) pa_nil)) pe_int (nomark _))))) (pss_one (ps_ret pe_bl)) pss_nil)
      (pss_cons (ps_asg (pv 0) (pg_tup rfl (pgs_cons (pg_name (i := 1) sc_is_fraction.nd rfl (Or.inl rfl)) (pgs_cons (pg_name (i := 2) sc_is_fraction.nd rfl (Or.inl rfl)) pgs_nil))))
      (pss_one (ps_ret (pe_and (pe_call G_is_number hr_is_number (by rfl) T.m_is_number T.F_is_number.kp T.B_is_number .nil pass0 (pa_cons (pv 1) pa_nil)) (pe_and (pe_call G_is_number hr_is_number (by rfl) T.m_is_number T.F_is_number.kp T.B_is_number .nil pass0 (pa_cons (pv 2) pa_nil)) (pe_and (pe_cmpR op_ge (pv 2) pe_int (nomark _)) (pe_one (pe_cmpR op_eqI (pe_callBfun cr_gcd (by rfl) T.m_gcd (pa_cons (pv 1) (pa_cons (pv 2) pa_nil))) pe_int (nomark _)))))))))), ?_⟩
    refine seq_op fun N hN => ?_
    walk_at "rs"
    refine ⟨v, "tuple", ⟨rfl, rfl⟩, d, hD, by decide, ite2 (fun h => ?_) (fun h => ⟨d, hD, ?_⟩)⟩
    · have e : isFrac d = false := by cases d <;> first | rfl | cases h
      have q : Q (.bl (isFrac d)) H := k H (Same.refl _)
      rw [e] at q; exact q
    obtain ⟨ds, rfl⟩ : ∃ ds, d = .tuple ds := by cases d <;> first | exact ⟨_, rfl⟩ | (exact absurd rfl h)
    clear h
    refine .inl ⟨ds, .inr rfl, ite2 (fun h2 => ?_) (fun h2 => hN _ _ ?_)⟩
    · have e : isFrac (.tuple ds) = false := by
        rcases ds with _ | ⟨x, _ | ⟨y, _ | ⟨z, r⟩⟩⟩
        · rfl
        · cases x <;> rfl
        · exact absurd rfl h2
        · cases x <;> cases y <;> rfl
      have q : Q (.bl (isFrac (.tuple ds))) H := k H (Same.refl _)
      rw [e] at q; exact q
    clear hN N
    obtain ⟨x, y, rfl⟩ : ∃ x y, ds = [x, y] := by
      rcases ds with _ | ⟨x, _ | ⟨y, _ | ⟨z, r⟩⟩⟩
      · exact absurd (by simp) h2
      · exact absurd (by simp) h2
      · exact ⟨x, y, rfl⟩
      · exact absurd (by simp; omega) h2
    cases hD with
    | tup hs ha =>
    cases ha with
    | cons hx ha =>
    cases ha with
    | cons hy ha =>
    cases ha
    refine seq_op fun N hN => ?_
    walk_at "rs"
    refine ⟨_, _, rfl, hs, rfl, ?_⟩
    unfold gCons gNil
    walk_at "rs"
    refine ⟨_, _, ⟨rfl, rfl⟩, _, _, rfl, rfl, hN _ _ ?_⟩
    clear hN N
    walk_at "rs"
    have no : ∀ (H' : Hp), Same H H' → isFrac (.tuple [x, y]) = false → Q (.bl false) H' := fun H' s' e => by
      have q : Q (.bl (isFrac (.tuple [x, y]))) H' := k H' s'
      rw [e] at q; exact q
    refine ⟨_, x, rfl, hx, fun H1 s1 => ⟨isNum x, rfl, ite2 (fun hp => ?_) (fun hp => no H1 s1 (by cases x <;> first | rfl | exact absurd rfl hp))⟩⟩
    refine ⟨_, y, rfl, dp_same s1 hy, fun H2 s2 => ⟨isNum y, rfl, ite2 (fun hq => ?_) (fun hq => no H2 (Same.trans s1 s2) (by cases x <;> cases y <;> first | rfl | exact absurd rfl hq))⟩⟩
    obtain ⟨p, rfl⟩ : ∃ p, x = .int p := by cases x <;> first | exact ⟨_, rfl⟩ | cases hp
    obtain ⟨q, rfl⟩ : ∃ q, y = .int q := by cases y <;> first | exact ⟨_, rfl⟩ | cases hq
    cases hx
    cases hy
    refine ⟨q, rfl, ite2 (fun h1 => ⟨p, q, rfl, _, rfl, ?_⟩) (fun h1 => no H2 (Same.trans s1 s2) (by
      show (decide (1 ≤ q) && _) = false
      rw [decide_eq_false h1]; rfl))⟩
    have e : isFrac (.tuple [.int p, .int q]) = decide ((((Nat.gcd p.natAbs q.natAbs : Nat) : Int)) = 1) := by
      show (decide (1 ≤ q) && _) = _
      rw [decide_eq_true h1, Bool.true_and]
      exact decide_eq_decide.mpr (by omega)
    rw [← e]; exact k H2 (Same.trans s1 s2)
/-! ### lowest terms -/
def frG (p q : Int) : Int := if q < 0 then -((Nat.gcd p.natAbs q.natAbs : Nat) : Int) else ((Nat.gcd p.natAbs q.natAbs : Nat) : Int)
def frP (p q : Int) : Int := p.fdiv (frG p q)
def frQ (p q : Int) : Int := q.fdiv (frG p q)
def sp_fraction (C : Addr) : Sp := fun vs H Q E => ∃ p q : Int, vs = [.int p, .int q] ∧ p.natAbs.log2 < 9000 ∧ q.natAbs.log2 < 9000 ∧
  (q ≠ 0 → ∀ t H', Same H H' → H t = none → H' t = some (.tup [.int (frP p q), .int (frQ p q)]) → Q (.ref t) H') ∧
  (q = 0 → ∀ d H', Same H H' → H d = none → H' d = some (.xd (badF (.int q))) → E (.ref C) (some d) H')
theorem gcd_log {p q : Int} (h : q ≠ 0) : (Nat.gcd p.natAbs q.natAbs).log2 ≤ q.natAbs.log2 := by
  have h0 : q.natAbs ≠ 0 := by omega
  have le : Nat.gcd p.natAbs q.natAbs ≤ q.natAbs := Nat.le_of_dvd (by omega) (Nat.gcd_dvd_right _ _)
  have g0 : Nat.gcd p.natAbs q.natAbs ≠ 0 := fun e => h0 (Nat.eq_zero_of_gcd_eq_zero_right e)
  exact (Nat.le_log2 h0).mpr (Nat.le_trans (Nat.log2_self_le g0) le)
theorem mk_bad {C : Addr} {H1 : Hp} {v : V} {Qx : XK} (k : ∀ d H', Same H1 H' → H1 d = none → H' d = some (.xd (badF v)) → Qx (.ref C) (some d) H') : ∀ a, H1 a = none → sp_BadValue C (.ref a :: ([v] ++ [])) (L2.upd H1 a (exo a C none)) (fun v2 H2 => v2 = .non ∧ ∃ (d : Addr) (fs : List (Str × V)), H2 a = some (exo a C (some d)) ∧ H2 d = some (exd d fs) ∧ H1 d = none ∧ Qx (.ref C) (some d) (L2.upd (del H2 a) d (.xd fs))) E0 := by
  intro a ha
  refine ⟨a, v, rfl, upd_same, fun dx hdx ne => ⟨rfl, dx, badF v, ?_, upd_same, ?_, k dx _ ?_ ?_ upd_same⟩⟩
  · rw [upd_ne (Ne.symm ne), upd_same]
  · rw [upd_ne ne] at hdx; exact hdx
  · intro b o e
    rw [upd_ne ne] at hdx
    have n1 : b ≠ a := fun z => by rw [z, ha] at e; cases e
    have n2 : b ≠ dx := fun z => by rw [z, hdx] at e; cases e
    rw [upd_ne n2, del_ne n1, upd_ne n2, upd_ne n1, upd_ne n2, upd_ne n1]
    exact e
  · rw [upd_ne ne] at hdx; exact hdx
theorem mk_badT {C : Addr} {ta : TA} {σ : L2.St} {H0 H1 : Hp} {v : V} {Qx : XK} (ht : ∀ K : List V → Hp → Prop, K [v] H1 → ta σ H0 K) (k : ∀ d H', Same H1 H' → H1 d = none → H' d = some (.xd (badF v)) → Qx (.ref C) (some d) H') : tMkO C (sp_BadValue C) [] ta σ H0 Qx :=
  ht _ ⟨by simp, mk_bad k⟩
theorem ok_fraction (T : Txt w K mg) : FnOk P w K mg base (L2.CX P w) 3 T.a_fraction T.d_fraction ["p", "q"] (sp_fraction T.C_BadValue) := by
  refine T.F_fraction.ok sc_fraction (fun vs H Q E h => ?_) (fun cdv A outer s H vs Q E hr h => ?_)
  · obtain ⟨p, q, rfl, _⟩ := h
    rfl
  · obtain ⟨p, q, rfl, lp, lq, k, kE⟩ := h
    have hr_is_number : Room 1 _ := hr.mono (by decide)
    have G_is_number := ok_is_number (P := P) (base := base) T
    have hr_BadValue : Room 2 _ := hr.mono (by decide)
    have G_BadValue := ok_BadValue (P := P) (base := base) T
    refine ⟨_, (pss_cons (ps_if (PW.pt (pw_or (pt_not (pt_val (pe_call G_is_number hr_is_number (by rfl) T.m_is_number T.F_is_number.kp T.B_is_number .nil pass0 (pa_cons (pv 1) pa_nil)))) (pw_or1 (pt_cmpR op_eqI (pv 1) pe_int (nomark _))))) (pss_one (ps_raise rfl (takes_of rfl rfl rfl rfl) (pmk_oex T.X_BadValue T.i_BadValue T.t_BadValue G_BadValue hr_BadValue T.B_BadValue__init .nil pass0 (by rfl) T.m_BadValue (pa_cons (pv 1) pa_nil)))) pss_nil)
      (pss_cons (ps_set (i := 2) sc_fraction.nd rfl (Or.inl rfl) (pe_callBfun cr_gcd (by rfl) T.m_gcd (pa_cons (pv 0) (pa_cons (pv 1) pa_nil))))
      (pss_cons (ps_if (pt_cmpR op_lt (pv 1) pe_int (nomark _)) (pss_one (ps_set (i := 2) sc_fraction.nd rfl (Or.inl rfl) (pe_un un_neg (pv 2)))) pss_nil)
      (pss_one (ps_ret (pe_tupU (pa_cons (pe_op op_fdivF (pv 0) (pv 2)) (pa_cons (pe_op op_fdivF (pv 1) (pv 2)) pa_nil)))))))), ?_⟩
    refine seq_op fun N hN => ?_
    walk_at "rs"
    refine ⟨_, .int q, rfl, .int q, fun H1 s1 => ⟨true, rfl, iteFF (by decide) (ite2 (fun e => ?_) (fun e => hN _ _ ?_))⟩⟩
    · subst e
      exact mk_badT (fun K h => by walk_at "rs"; exact h) fun d H2 s2 hd h2 => kE rfl d H2 (Same.trans s1 s2) (Same.dom s1 d hd) h2
    clear hN N
    replace k := k e
    clear kE
    have g0 : (Nat.gcd p.natAbs q.natAbs : Nat) ≠ 0 := fun z => e (by have := Nat.eq_zero_of_gcd_eq_zero_right z; omega)
    have gl := gcd_log (p := p) e
    refine seq_op fun N hN => ?_
    walk_at "rs"
    refine ⟨p, q, rfl, hN _ _ ?_⟩
    clear hN N
    refine cut_seq (fun σ H2 => σ = [some (.int p), some (.int q), some (.int (frG p q))] ∧ H2 = H1) (fun N hN => ?_) ?_
    · walk_at "rs"
      unfold frG at hN
      refine ite2 (fun c => ?_) (fun c => ?_)
      · rw [if_pos c] at hN; exact hN _ _ ⟨rfl, rfl⟩
      · rw [if_neg c] at hN; exact hN _ _ ⟨rfl, rfl⟩
    · rintro σ H2 ⟨rfl, rfl⟩
      have n0 : frG p q ≠ 0 := by unfold frG; split <;> omega
      have nl : (frG p q).natAbs.log2 < 9000 := by
        have : (frG p q).natAbs = Nat.gcd p.natAbs q.natAbs := by unfold frG; split <;> omega
        rw [this]; omega
      walk_at "rs"
      exact ⟨⟨n0, nl⟩, ⟨n0, nl⟩, by decide, fun t H3 s3 h03 h3 => k t H3 (Same.trans s1 s3) (Same.dom s1 t h03) h3⟩
/-! ### the reckoning -/
def FrT (p q : Int) : V × V := (.int (frP p q), .int (frQ p q))
/-- a pair of whole numbers at a -/
def Pr (K : PySem.W.Frag) (H : Hp) (a : Addr) (p q : Int) : Prop := SqT K H a [.int p, .int q]
def sp_two (K : PySem.W.Frag) (f g : Int → Int → Int → Int → Int) : Sp := fun vs H Q _ => ∃ (a b : Addr) (p q r s : Int), vs = [.ref a, .ref b] ∧ Pr K H a p q ∧ Pr K H b r s ∧ p.natAbs < 2 ^ 4000 ∧ q.natAbs < 2 ^ 4000 ∧ r.natAbs < 2 ^ 4000 ∧ s.natAbs < 2 ^ 4000 ∧ g p q r s ≠ 0 ∧
  ∀ t H', Same H H' → H t = none → H' t = some (.tup [.int (frP (f p q r s) (g p q r s)), .int (frQ (f p q r s) (g p q r s))]) → Q (.ref t) H'
theorem two_add {i j : Int} {a : Nat} (hi : i.natAbs < 2 ^ a) (hj : j.natAbs < 2 ^ a) : (i + j).natAbs < 2 ^ (a + 1) := by
  have e : 2 ^ (a + 1) = 2 * 2 ^ a := Nat.pow_succ'
  omega
theorem two_sub {i j : Int} {a : Nat} (hi : i.natAbs < 2 ^ a) (hj : j.natAbs < 2 ^ a) : (i - j).natAbs < 2 ^ (a + 1) := by
  have e : 2 ^ (a + 1) = 2 * 2 ^ a := Nat.pow_succ'
  omega
theorem mulW {i j : Int} (hi : i.natAbs < 2 ^ 4000) (hj : j.natAbs < 2 ^ 4000) : CMulW i j := wide_mul hi hj (by decide) (by decide) (by decide)
theorem mulL {i j : Int} (hi : i.natAbs < 2 ^ 4000) (hj : j.natAbs < 2 ^ 4000) : (i * j).natAbs < 2 ^ 8000 := wide_lt (a := 4000) (b := 4000) hi hj
theorem logL {i : Int} {a : Nat} (h : i.natAbs < 2 ^ a) (h0 : 0 < a) (h9 : a ≤ 9000) : i.natAbs.log2 < 9000 := Nat.lt_of_lt_of_le (PySem.Flt.log2_lt_of h0 h) h9
theorem ok_plus (T : Txt w K mg) : FnOk P w K mg base CX0 4 T.a_plus T.d_plus ["a", "b"] (sp_two K (fun p q r s => p * s + r * q) fun _ q _ s => q * s) := by
  refine T.F_plus.ok sc_plus (fun vs H Q E h => ?_) (fun cdv A outer s H vs Q E hr h => ?_)
  · obtain ⟨a, b, p, q, r, s', rfl, _⟩ := h
    rfl
  · obtain ⟨a, b, p, q, r, s', rfl, ha, hb, lp, lq, lr, ls, n0, k⟩ := h
    have hr_fraction : Room 3 _ := hr.mono (by decide)
    have G_fraction := ok_fraction (P := P) (base := base) T
    refine ⟨_, (pss_one (ps_ret (pe_call G_fraction hr_fraction (by rfl) T.m_fraction T.F_fraction.kp T.B_fraction .nil passL (pa_cons (pe_op op_add (pe_op op_mulW (pe_ix ix_tup (pv 0) pe_int (fun _ _ => rfl)) (pe_ix ix_tup (pv 1) pe_int (fun _ _ => rfl))) (pe_op op_mulW (pe_ix ix_tup (pv 1) pe_int (fun _ _ => rfl)) (pe_ix ix_tup (pv 0) pe_int (fun _ _ => rfl)))) (pa_cons (pe_op op_mulW (pe_ix ix_tup (pv 0) pe_int (fun _ _ => rfl)) (pe_ix ix_tup (pv 1) pe_int (fun _ _ => rfl))) pa_nil))))), ?_⟩
    walk_at "rs"
    refine ⟨_, ha, _, rfl, _, hb, _, rfl, _, rfl, _, rfl, mulW lp ls, _, hb, _, rfl, _, ha, _, rfl, _, rfl, _, rfl, mulW lr lq, _, ha, _, rfl, _, hb, _, rfl, _, rfl, _, rfl, mulW lq ls, ?_⟩
    exact ⟨_, _, rfl, logL (two_add (mulL lp ls) (mulL lr lq)) (by decide) (by decide), logL (mulL lq ls) (by decide) (by decide), fun _ => k, fun e => absurd e n0⟩
theorem ok_minus (T : Txt w K mg) : FnOk P w K mg base CX0 4 T.a_minus T.d_minus ["a", "b"] (sp_two K (fun p q r s => p * s - r * q) (fun _ q _ s => q * s)) := by
  refine T.F_minus.ok sc_minus (fun vs H Q E h => ?_) (fun cdv A outer s H vs Q E hr h => ?_)
  · obtain ⟨a, b, p, q, r, s', rfl, _⟩ := h
    rfl
  · obtain ⟨a, b, p, q, r, s', rfl, ha, hb, lp, lq, lr, ls, n0, k⟩ := h
    have hr_fraction : Room 3 _ := hr.mono (by decide)
    have G_fraction := ok_fraction (P := P) (base := base) T
    refine ⟨_, (pss_one (ps_ret (pe_call G_fraction hr_fraction (by rfl) T.m_fraction T.F_fraction.kp T.B_fraction .nil passL (pa_cons (pe_op op_sub (pe_op op_mulW (pe_ix ix_tup (pv 0) pe_int (fun _ _ => rfl)) (pe_ix ix_tup (pv 1) pe_int (fun _ _ => rfl))) (pe_op op_mulW (pe_ix ix_tup (pv 1) pe_int (fun _ _ => rfl)) (pe_ix ix_tup (pv 0) pe_int (fun _ _ => rfl)))) (pa_cons (pe_op op_mulW (pe_ix ix_tup (pv 0) pe_int (fun _ _ => rfl)) (pe_ix ix_tup (pv 1) pe_int (fun _ _ => rfl))) pa_nil))))), ?_⟩
    walk_at "rs"
    refine ⟨_, ha, _, rfl, _, hb, _, rfl, _, rfl, _, rfl, mulW lp ls, _, hb, _, rfl, _, ha, _, rfl, _, rfl, _, rfl, mulW lr lq, _, ha, _, rfl, _, hb, _, rfl, _, rfl, _, rfl, mulW lq ls, ?_⟩
    exact ⟨_, _, rfl, logL (two_sub (mulL lp ls) (mulL lr lq)) (by decide) (by decide), logL (mulL lq ls) (by decide) (by decide), fun _ => k, fun e => absurd e n0⟩
theorem ok_times (T : Txt w K mg) : FnOk P w K mg base CX0 4 T.a_times T.d_times ["a", "b"] (sp_two K (fun p _ r _ => p * r) (fun _ q _ s => q * s)) := by
  refine T.F_times.ok sc_times (fun vs H Q E h => ?_) (fun cdv A outer s H vs Q E hr h => ?_)
  · obtain ⟨a, b, p, q, r, s', rfl, _⟩ := h
    rfl
  · obtain ⟨a, b, p, q, r, s', rfl, ha, hb, lp, lq, lr, ls, n0, k⟩ := h
    have hr_fraction : Room 3 _ := hr.mono (by decide)
    have G_fraction := ok_fraction (P := P) (base := base) T
    refine ⟨_, (pss_one (ps_ret (pe_call G_fraction hr_fraction (by rfl) T.m_fraction T.F_fraction.kp T.B_fraction .nil passL (pa_cons (pe_op op_mulW (pe_ix ix_tup (pv 0) pe_int (fun _ _ => rfl)) (pe_ix ix_tup (pv 1) pe_int (fun _ _ => rfl))) (pa_cons (pe_op op_mulW (pe_ix ix_tup (pv 0) pe_int (fun _ _ => rfl)) (pe_ix ix_tup (pv 1) pe_int (fun _ _ => rfl))) pa_nil))))), ?_⟩
    walk_at "rs"
    refine ⟨_, ha, _, rfl, _, hb, _, rfl, _, rfl, _, rfl, mulW lp lr, _, ha, _, rfl, _, hb, _, rfl, _, rfl, _, rfl, mulW lq ls, ?_⟩
    exact ⟨_, _, rfl, logL (mulL lp lr) (by decide) (by decide), logL (mulL lq ls) (by decide) (by decide), fun _ => k, fun e => absurd e n0⟩
theorem ok_below (T : Txt w K mg) : FnOk P w K mg base CX0 1 T.a_below T.d_below ["a", "b"] (fun vs H Q _ => ∃ (a b : Addr) (p q r s : Int), vs = [.ref a, .ref b] ∧ Pr K H a p q ∧ Pr K H b r s ∧ p.natAbs < 2 ^ 4000 ∧ q.natAbs < 2 ^ 4000 ∧ r.natAbs < 2 ^ 4000 ∧ s.natAbs < 2 ^ 4000 ∧ Q (.bl (decide (p * s < r * q))) H) := by
  refine T.F_below.ok sc_below (fun vs H Q E h => ?_) (fun cdv A outer s H vs Q E hr h => ?_)
  · obtain ⟨a, b, p, q, r, s', rfl, _⟩ := h
    rfl
  · obtain ⟨a, b, p, q, r, s', rfl, ha, hb, lp, lq, lr, ls, k⟩ := h
    refine ⟨_, (pss_one (ps_ret (pe_cmpR op_lt (pe_op op_mulW (pe_ix ix_tup (pv 0) pe_int (fun _ _ => rfl)) (pe_ix ix_tup (pv 1) pe_int (fun _ _ => rfl))) (pe_op op_mulW (pe_ix ix_tup (pv 1) pe_int (fun _ _ => rfl)) (pe_ix ix_tup (pv 0) pe_int (fun _ _ => rfl))) (nomark _)))), ?_⟩
    walk_at "rs"
    exact ⟨_, ha, _, rfl, _, hb, _, rfl, _, rfl, _, rfl, mulW lp ls, _, hb, _, rfl, _, ha, _, rfl, _, rfl, _, rfl, mulW lr lq, k⟩
theorem ok_floor_of (T : Txt w K mg) : FnOk P w K mg base CX0 1 T.a_floor_of T.d_floor_of ["a"] (fun vs H Q _ => ∃ (a : Addr) (p q : Int), vs = [.ref a] ∧ Pr K H a p q ∧ q ≠ 0 ∧ q.natAbs < 2 ^ 4000 ∧ Q (.int (p.fdiv q)) H) := by
  refine T.F_floor_of.ok sc_floor_of (fun vs H Q E h => ?_) (fun cdv A outer s H vs Q E hr h => ?_)
  · obtain ⟨a, p, q, rfl, _⟩ := h
    rfl
  · obtain ⟨a, p, q, rfl, ha, n0, lq, k⟩ := h
    refine ⟨_, (pss_one (ps_ret (pe_op op_fdivF (pe_ix ix_tup (pv 0) pe_int (fun _ _ => rfl)) (pe_ix ix_tup (pv 0) pe_int (fun _ _ => rfl))))), ?_⟩
    walk_at "rs"
    exact ⟨_, ha, _, rfl, _, ha, _, rfl, _, rfl, _, rfl, ⟨n0, logL lq (by decide) (by decide)⟩, k⟩
theorem ok_NoName (T : Txt w K mg) : FnOk P w K mg base CX0 1 T.f_NoName T.d_NoName ["self", "name"] (fun vs H Q _ => ∃ (a : Addr) (v : V), vs = [.ref a, v] ∧ H a = some (exo a T.C_NoName none) ∧
  ∀ dx, H dx = none → dx ≠ a → Q .non (L2.upd (L2.upd (L2.upd H dx (exd dx [("name", v)])) a (exo a T.C_NoName (some dx))) dx (exd dx [("code", .str "NoName"), ("name", v)]))) := by
  refine T.F_NoName.ok sc_NoName (fun vs H Q E h => ?_) (fun cdv A outer s H vs Q E hr h => ?_)
  · obtain ⟨a, v, rfl, _⟩ := h
    rfl
  · obtain ⟨a, v, rfl, ha, k⟩ := h
    refine ⟨_, pss_cons (ps_ostM baseLE (pv 0) (pv 1)) (pss_one (ps_ostM baseLE (pv 0) pe_str)), ?_⟩
    refine seq_op fun N hN => ?_
    unfold tOstM
    walk_at "rs"
    refine ⟨T.C_NoName, T.X_NoName, T.v_NoName, .inl ⟨ha, fun dx hdx ne => hN _ _ ?_⟩⟩
    clear hN N
    unfold tOstM
    walk_at "rs"
    exact ⟨T.C_NoName, T.X_NoName, T.c_NoName, .inr ⟨dx, upd_same, [("name", v)], by rw [upd_ne ne]; exact upd_same, by simp, k dx hdx ne⟩⟩
end
end LK

set_option Elab.async false
set_option linter.all false
set_option maxRecDepth 100000
namespace LK
open PySem PySem.Spec PyProof.Rows L2
local macro_rules | `(tactic| walk_at "rs") => `(tactic| simp only [cxK, cxNK, tCallZ, tAsg, tOp, rI0, rS0, rB0, rI, rU, tUn, rEq, rNe, rIxL, rIxT, rIxS, rSetL, rSlLU, rSlS, rSlU, rCatL, rCatU, rRepL, rIn, tVar, tC, gName, gSub, tIfS, tTest, tB, tAnd, tOr, tNot, tNotV, tAndV, tOrV, tIf, tCall, tCons, tNil, tCB, tDrop, tRet, tRetN, tNext, tLstU, tTupU, tM0, tM1, tPar, tPar3, tAug, ipI, tBM, tBM0, rAppend, rPop, tBreak, tCont, tChain, tSl, tPart, tNoPart, L2.start, List.map, List.length_cons, List.length_nil, List.replicate, List.cons_append, List.nil_append, List.append_nil, List.getElem?_cons_zero, List.getElem?_cons_succ, List.set_cons_zero, List.set_cons_succ, Option.some.injEq, V.int.injEq, V.ref.injEq, V.str.injEq, V.bl.injEq, exists_eq_left', exists_eq_left, exists_and_left, decide_eq_true_eq, List.cons.injEq, and_true, true_and, scal, Bool.not_eq_true', decide_eq_false_iff_not, Nat.zero_add, Nat.reduceAdd, Nat.reduceSub, reduceCtorEq, false_and, exists_false, false_or, or_false, CPow, CMul, CDiv, Int.reduceToNat, ↓reduceIte, wipe, sw, List.nil_append, List.singleton_append])
local macro_rules | `(tactic| walk_at "st") => `(tactic| (refine seq_op fun N hN => ?_; walk_at "rs"))
local macro_rules | `(tactic| walk_at "sd") => `(tactic| first | assumption | decide | omega)
local macro_rules | `(tactic| walk_at "rd") => `(tactic| repeat (first
  | refine ⟨_, SqL.of (by assumption), ?_⟩ | refine ⟨_, SqL.of upd_same, ?_⟩ | refine ⟨_, .inl (SqL.of (by assumption)), ?_⟩ | refine ⟨_, (by assumption : _ = some (HO.lst _)), ?_⟩ | refine ⟨_, upd_same, ?_⟩
  | refine ⟨_, rfl, ?_⟩ | refine And.intro (by walk_at "sd") ?_))

section
variable {P : Program} {w : World} {K : PySem.W.Frag} {mg : Str → Option Value} {base : Heap}
theorem ok__law_draw (T : Txt w K mg) : FnOk P w K mg base CX0 1 T.a__law_draw T.d__law_draw ["bag", "size"] sp__law_draw := by
  refine T.F__law_draw.ok sc__law_draw (fun vs H Q E h => ?_) (fun cdv A outer s H vs Q E hr h => ?_)
  · obtain ⟨b, c, n, rfl, _⟩ := h
    rfl
  · obtain ⟨b, c, n, rfl, ⟨cells, i, g, m, d, hB, hC, ncb, hi, hm, hm2⟩, n0, n1, k⟩ := h
    refine ⟨_, (pss_cons (ps_asg (pe_op op_add (pe_ix ix_list (pv 0) pe_int (fun _ _ => rfl)) pe_int) (pg_sub (pv 0) pe_int set_list))
      (pss_cons (ps_if (PW.pt (pw_and (pt_cmpR op_eqI (pe_ix ix_list (pv 0) pe_int (fun _ _ => rfl)) pe_int (nomark _)) (pw_and1 (pt_cmpR op_lt (pe_ix ix_list (pv 0) pe_int (fun _ _ => rfl)) (pe_callB call_len_seq (by rfl) T.n_len (by decide +kernel) (pa_cons (pe_ix ix_list (pv 0) pe_int (fun _ _ => rfl)) pa_nil)) (nomark _))))) (pss_cons (ps_set (i := 2) sc__law_draw.nd rfl (Or.inl rfl) (pe_ix ix_list (pe_ix ix_list (pv 0) pe_int (fun _ _ => rfl)) (pe_ix ix_list (pv 0) pe_int (fun _ _ => rfl)) (fun _ _ => rfl)))
      (pss_cons (ps_asg (pe_op op_add (pe_ix ix_list (pv 0) pe_int (fun _ _ => rfl)) pe_int) (pg_sub (pv 0) pe_int set_list))
      (pss_one (ps_if (pt_cmpR op_ge (pv 2) (pe_op op_pow pe_int pe_int) (nomark _)) (pss_one (ps_asg (pv 2) (pg_sub (pv 0) pe_int set_list))) (pss_one (ps_asg (pe_op op_mod (pe_callTy call_intI (by rfl) T.n_int (by decide +kernel) (pa_cons (pe_op op_add (pe_op op_add (pe_op op_mul (pe_ix ix_list (pv 0) pe_int (fun _ _ => rfl)) pe_int) (pe_op op_mul (pe_op op_mod (pe_callTy call_intI (by rfl) T.n_int (by decide +kernel) (pa_cons (pv 2) pa_nil)) pe_int) pe_int)) pe_int) pa_nil)) pe_int) (pg_sub (pv 0) pe_int set_list))))))) pss_nil)
      (pss_cons (ps_if (pt_cmpR op_gt (pe_ix ix_list (pv 0) pe_int (fun _ _ => rfl)) pe_int (nomark _)) (pss_cons (ps_set (i := 3) sc__law_draw.nd rfl (Or.inl rfl) (pe_op op_mod (pe_callTy call_intI (by rfl) T.n_int (by decide +kernel) (pa_cons (pe_ix ix_list (pv 0) pe_int (fun _ _ => rfl)) pa_nil)) (pv 1)))
      (pss_cons (ps_asg (pe_op op_fdiv (pe_ix ix_list (pv 0) pe_int (fun _ _ => rfl)) (pv 1)) (pg_sub (pv 0) pe_int set_list))
      (pss_one (ps_ret (pv 3))))) pss_nil)
      (pss_cons (ps_asg (pe_op op_mod (pe_callTy call_intI (by rfl) T.n_int (by decide +kernel) (pa_cons (pe_op op_add (pe_op op_add (pe_op op_pow (pe_ix ix_list (pv 0) pe_int (fun _ _ => rfl)) pe_int) (pe_op op_mul (pe_ix ix_list (pv 0) pe_int (fun _ _ => rfl)) pe_int)) pe_int) pa_nil)) pe_int) (pg_sub (pv 0) pe_int set_list))
      (pss_one (ps_ret (pe_op op_mod (pe_callTy call_intI (by rfl) T.n_int (by decide +kernel) (pa_cons (pe_op op_add (pe_op op_fdiv (pe_ix ix_list (pv 0) pe_int (fun _ _ => rfl)) pe_int) (pe_op op_mul (pe_op op_mod (pe_callTy call_intI (by rfl) T.n_int (by decide +kernel) (pa_cons (pe_ix ix_list (pv 0) pe_int (fun _ _ => rfl)) pa_nil)) pe_int) pe_int)) pa_nil)) (pv 1)))))))), ?_⟩
    -- bag[4] = bag[4] + 1
    refine seq_op fun N hN => ?_
    walk_at "rs"
    refine ⟨_, SqL.of hB, _, rfl, _, rfl, _, hB, _, rfl, ?_⟩
    refine hN _ _ ?_
    clear hN N
    -- if bag[2] == 0 and bag[1] < len(bag[0]): ..
    have B1 : Bag (upd H b (.lst [.ref c, .int i, .int g, .int m, .int (d + 1)])) b c := ⟨cells, i, g, m, d + 1, upd_same, by rw [upd_ne ncb]; exact hC, ncb, hi, hm, hm2⟩
    have K1 : Kp b H (upd H b (.lst [.ref c, .int i, .int g, .int m, .int (d + 1)])) := Kp.upd
    show tSeq _ _ _ _ (upd H b (.lst [.ref c, .int i, .int g, .int m, .int (d + 1)]))
    generalize upd H b (.lst [.ref c, .int i, .int g, .int m, .int (d + 1)]) = H1 at B1 K1 ⊢
    clear hB hC ncb hi hm hm2 i g m d cells
    refine cut_seq (fun σ H2 => ∃ x, σ = [some (.ref b), some (.int n), x, none] ∧ Bag H2 b c ∧ Kp b H H2) (fun N hN => ?_) ?_
    · obtain ⟨cells, i, g, m, d, hB, hC, ncb, hi, hm, hm2⟩ := id B1
      walk_at "rs"
      refine ⟨_, SqL.of hB, _, rfl, _, rfl, ite2 (fun z => ?_) (fun _ => hN _ _ ⟨_, rfl, B1, K1⟩)⟩
      refine ⟨_, SqL.of hB, _, rfl, _, SqL.of hB, _, rfl, _, rfl, _, .inl (SqL.of hC), _, rfl, ite2 (fun zl => ?_) (fun _ => hN _ _ ⟨_, rfl, B1, K1⟩)⟩
      -- cell = bag[0][bag[1]]
      rw [List.length_map] at zl
      obtain ⟨cl, hcl⟩ : ∃ cl, cells[i.toNat]? = some cl := ⟨cells[i.toNat]'(by omega), List.getElem?_eq_getElem _⟩
      refine seq_op fun N2 hN2 => ?_
      walk_at "rs"
      walk_at "rd"
      refine ⟨_, _, rfl, SqL.of hC, _, at_of (j := i.toNat) (v := .int cl) (by omega) (by rw [List.getElem?_map, hcl] <;> rfl), hN2 _ _ ?_⟩
      clear hN2 N2
      -- bag[1] = bag[1] + 1
      refine seq_op fun N2 hN2 => ?_
      walk_at "rs"
      walk_at "rd"
      refine hN2 _ _ ?_
      clear hN2 N2
      -- if cell >= 10 ** 18: bag[2] = cell else: ..
      walk_at "rs"
      refine ⟨by decide, ite2 (fun _ => ?_) (fun _ => ?_)⟩
      · refine ⟨_, upd_same, _, rfl, hN _ _ ⟨_, rfl, ?_, ?_⟩⟩
        · exact ⟨cells, i + 1, cl, m, d, upd_same, by rw [upd_ne ncb, upd_ne ncb]; exact hC, ncb, by omega, hm, hm2⟩
        · exact K1.trans (Kp.upd.trans Kp.upd)
      · walk_at "rd"
        refine hN _ _ ⟨_, rfl, ?_, ?_⟩
        · exact ⟨cells, i + 1, g, _, d, upd_same, by rw [upd_ne ncb, upd_ne ncb]; exact hC, ncb, by omega, Int.emod_nonneg _ (by decide), Int.emod_lt_of_pos _ (by decide)⟩
        · exact K1.trans (Kp.upd.trans Kp.upd)
    · rintro σ H2 ⟨x, rfl, B2, K2⟩
      obtain ⟨cells, i, g, m, d, hB, hC, ncb, hi, hm, hm2⟩ := id B2
      -- if bag[2] > 0: ..
      refine seq_op fun N hN => ?_
      walk_at "rs"
      refine ⟨_, SqL.of hB, _, rfl, _, rfl, ite2 (fun _ => ?_) (fun _ => hN _ _ ?_)⟩
      · refine seq_op fun N2 hN2 => ?_
        walk_at "rs"
        walk_at "rd"
        refine hN2 _ _ ?_
        clear hN2 N2
        refine seq_op fun N2 hN2 => ?_
        walk_at "rs"
        refine ⟨_, SqL.of hB, _, rfl, _, rfl, ⟨n0, n1⟩, ?_⟩
        walk_at "rd"
        refine hN2 _ _ ?_
        walk_at "rs"
        exact k _ _ (Int.emod_nonneg _ (by omega)) (Int.emod_lt_of_pos _ n0) ⟨cells, i, _, m, d, upd_same, by rw [upd_ne ncb]; exact hC, ncb, hi, hm, hm2⟩ (K2.trans Kp.upd)
      · clear hN N
        refine seq_op fun N hN => ?_
        walk_at "rs"
        refine ⟨_, SqL.of hB, _, rfl, _, rfl, ⟨by decide, by decide, by omega⟩, _, SqL.of hB, _, rfl, _, rfl, .inr (by decide), by decide, ?_⟩
        walk_at "rd"
        refine hN _ _ ?_
        clear hN N
        walk_at "rs"
        walk_at "rd"
        exact k _ _ (Int.emod_nonneg _ (by omega)) (Int.emod_lt_of_pos _ n0) ⟨cells, i, g, _, d, upd_same, by rw [upd_ne ncb]; exact hC, ncb, hi, Int.emod_nonneg _ (by decide), Int.emod_lt_of_pos _ (by decide)⟩ (K2.trans Kp.upd)

theorem ok__law_of (T : Txt w K mg) : FnOk P w K mg base CX0 2 T.a__law_of T.d__law_of ["bag", "things"] (sp__law_of K) := by
  refine T.F__law_of.ok sc__law_of (fun vs H Q E h => ?_) (fun cdv A outer s H vs Q E hr h => ?_)
  · obtain ⟨b, c, x, ys, rfl, _⟩ := h
    rfl
  · obtain ⟨b, c, x, ys, rfl, B, sq, sqb, ne, hl, k⟩ := h
    have hr__law_draw : Room 1 _ := hr.mono (by decide)
    have G__law_draw := ok__law_draw (P := P) (base := base) T
    refine ⟨_, (pss_one (ps_ret (pe_ix ix_seq (pv 1) (pe_call G__law_draw hr__law_draw (by rfl) T.m__law_draw T.F__law_draw.kp T.B__law_draw .nil pass0 (pa_cons (pv 0) (pa_cons (pe_callB call_len (by rfl) T.n_len (by decide +kernel) (pa_cons (pv 1) pa_nil)) pa_nil))) (fun _ _ => rfl)))), ?_⟩
    walk_at "rs"
    have ln : 0 < ys.length := by cases ys with | nil => exact absurd rfl ne | cons => exact Nat.succ_pos _
    have pick : ∀ (r : Int), 0 ≤ r → r < (ys.length : Int) → ∃ y, atI ys r = some y ∧ y ∈ ys := fun r r0 r1 => by
      have h1 : r.toNat < ys.length := by omega
      exact ⟨ys[r.toNat], at_of (j := r.toNat) (by omega) (List.getElem?_eq_getElem h1), List.getElem_mem h1⟩
    refine ⟨ys.length, ?_, b, c, _, rfl, B, by omega, by omega, fun r H' r0 r1 B' K' => ?_⟩
    · rcases sq with ⟨p, rfl, h⟩ | ⟨p, rfl, h⟩ | ⟨z, rfl, hz, rfl⟩
      · exact .inl ⟨_, h, rfl⟩
      · exact .inr ⟨_, h, rfl⟩
      · refine ⟨Nat.le_trans hz (by decide), ?_⟩
        rw [List.length_map, Array.length_toList] <;> rfl
    · obtain ⟨y, e, hy⟩ := pick r r0 r1
      rcases sqb with ⟨p, rfl, h⟩ | ⟨p, rfl, h⟩ | ⟨z, rfl, hz, rfl⟩
      · exact .inl ⟨p, ys, r, y, rfl, rfl, Same.seq (hb_le _ _) (Same.seq K' h), e, k y H' hy B' K'⟩
      · exact .inr (.inl ⟨p, ys, r, y, rfl, rfl, Same.seqT (hb_le _ _) (Same.seqT K' h), e, k y H' hy B' K'⟩)
      · refine .inr (.inr ?_)
        have h1 : r.toNat < z.cps.toList.length := by rw [List.length_map] at r1; omega
        have e2 : atI z.cps.toList r = some z.cps.toList[r.toNat] := at_ofN (j := r.toNat) (by omega) (List.getElem?_eq_getElem h1)
        refine ⟨z, r, _, rfl, rfl, Nat.le_trans hz (by decide), e2, k _ H' ?_ B' K'⟩
        exact List.mem_map.mpr ⟨_, List.getElem_mem h1, rfl⟩
theorem ok__law_bag (T : Txt w K mg) : FnOk P w K mg base CX0 1 T.a__law_bag T.d__law_bag ["script"] (sp__law_bag K) := by
  refine T.F__law_bag.ok sc__law_bag (fun vs H Q E h => ?_) (fun cdv A outer s H vs Q E hr h => ?_)
  · obtain ⟨a, ns, rfl, _⟩ := h
    rfl
  · obtain ⟨a, ns, rfl, hS, hl, k⟩ := h
    refine ⟨_, (pss_cons (ps_set (i := 1) sc__law_bag.nd rfl (Or.inl rfl) pe_int)
      (pss_cons (ps_for PassesOwn.never rfl (pi_list (pe_slice sl_listU (pv 0) po_none (po_some pe_int))) (pg_name (i := 2) sc__law_bag.nd rfl (Or.inl rfl)) (pss_one (ps_set (i := 1) sc__law_bag.nd rfl (Or.inl rfl) (pe_op op_mod (pe_callTy call_intI (by rfl) T.n_int (by decide +kernel) (pa_cons (pe_op op_add (pe_op op_add (pe_op op_mul (pv 1) pe_int) (pe_op op_mod (pe_callTy call_intI (by rfl) T.n_int (by decide +kernel) (pa_cons (pv 2) pa_nil)) pe_int)) pe_int) pa_nil)) pe_int))))
      (pss_one (ps_ret (pe_lstU (pa_cons (pe_callTy call_listU (by rfl) T.n_list (by decide +kernel) (pa_cons (pe_slice sl_listU (pv 0) po_none (po_some pe_int)) pa_nil)) (pa_cons pe_int (pa_cons pe_int (pa_cons (pv 1) (pa_cons pe_int pa_nil)))))))))), ?_⟩
    refine seq_op fun N hN => ?_
    walk_at "rs"
    refine hN _ _ ?_
    clear hN N
    refine cut_seq (fun σ H2 => ∃ m x, σ = [some (.ref a), some (.int m), x] ∧ 0 ≤ m ∧ m < 2147483579 ∧ Same H H2) (fun N hN => ?_) ?_
    · refine ⟨_, rfl, _, rfl, a, _, rfl, hS, fun p H1 s1 h0 h1 => ?_⟩
      refine ⟨p, rfl, ⟨_, SqL.of h1⟩, for_list (K := K) (a := p) (xs := cutV (ns.map V.int) none (some 63)) (fun i σ H2 => ∃ m x, σ = [some (.ref a), some (.int m), x] ∧ 0 ≤ m ∧ m < 2147483579 ∧ Same H1 H2) ⟨_, _, rfl, by decide, by decide, Same.refl _⟩ (fun i σ H2 _ ⟨_, _, _, _, _, s2⟩ => SqL.of (s2 _ _ h1)) ?_ ?_⟩
      · rintro i y σ H2 hi ⟨m, x, rfl, m0, m1, s2⟩
        obtain ⟨u, rfl⟩ : ∃ u, y = V.int u := by
          have q := List.mem_of_getElem? hi
          have q2 : y ∈ (ns.map V.int).take 63 := (cutV_take (ns.map V.int) 63) ▸ q
          obtain ⟨u, _, rfl⟩ := List.mem_map.mp (List.mem_of_mem_take q2)
          exact ⟨u, rfl⟩
        walk_at "rs"
        refine ⟨.inr (by decide), by decide, by decide, _, _, ⟨rfl, rfl⟩, ?_⟩
        exact ⟨Int.emod_nonneg _ (by decide), Int.emod_lt_of_pos _ (by decide), s2⟩
      · rintro σ H2 ⟨m, x, rfl, m0, m1, s2⟩
        exact hN _ _ ⟨m, x, rfl, m0, m1, Same.trans s1 s2⟩
    · rintro σ H2 ⟨m, x, rfl, m0, m1, s2⟩
      walk_at "rs"
      refine ⟨_, Same.seq s2 hS, fun p H3 s3 h30 h3 => ⟨_, .inl (SqL.of h3), fun l H4 s4 h40 h4 => ⟨by decide, fun q H5 s5 h50 h5 => ?_⟩⟩⟩
      have e : cutV (ns.map V.int) none (some 63) = ns.map V.int := by
        refine (cutV_take (ns.map V.int) 63).trans ?_
        rw [List.take_of_length_le (by simpa using hl)]
      rw [e] at h4
      have s25 : Same H2 H5 := Same.trans s3 (Same.trans s4 s5)
      refine k q l H5 (Same.trans s2 s25) ⟨ns, 0, 0, m, 0, h5, s5 _ _ h4, fun z => ?_, Int.le_refl _, m0, m1⟩ ?_
      · rw [z, h50] at h4; cases h4
      · exact Same.dom s2 q (Same.dom s3 q (Same.dom s4 q h50))
end
end LK

set_option Elab.async false
set_option linter.all false
set_option maxRecDepth 100000
namespace LK
open PySem PySem.Spec PyProof.Rows L2
local macro_rules | `(tactic| walk_at "rs") => `(tactic| simp only [cxK, cxNK, tCallZ, tAsg, tOp, rI0, rS0, rB0, rI, rU, tUn, rEq, rNe, rIxL, rIxT, rIxS, rSetL, rSlLU, rSlS, rSlU, rCatL, rCatU, rRepL, rIn, tVar, tC, gName, gSub, tIfS, tTest, tB, tAnd, tOr, tNot, tNotV, tAndV, tOrV, tIf, tCall, tCons, tNil, tCB, tDrop, tRet, tRetN, tNext, tLstU, tTupU, tM0, tM1, tPar, tPar3, tAug, ipI, tBM, tBM0, rAppend, rPop, tBreak, tCont, tChain, tSl, tPart, tNoPart, L2.start, List.map, List.length_cons, List.length_nil, List.replicate, List.cons_append, List.nil_append, List.append_nil, List.getElem?_cons_zero, List.getElem?_cons_succ, List.set_cons_zero, List.set_cons_succ, Option.some.injEq, V.int.injEq, V.ref.injEq, V.str.injEq, V.bl.injEq, exists_eq_left', exists_eq_left, exists_and_left, decide_eq_true_eq, List.cons.injEq, and_true, true_and, scal, Bool.not_eq_true', decide_eq_false_iff_not, Nat.zero_add, Nat.reduceAdd, Nat.reduceSub, reduceCtorEq, false_and, exists_false, false_or, or_false, CPow, CMul, CDiv, Int.reduceToNat, ↓reduceIte, wipe, sw, List.nil_append, List.singleton_append])
local macro_rules | `(tactic| walk_at "st") => `(tactic| (refine seq_op fun N hN => ?_; walk_at "rs"))
local macro_rules | `(tactic| walk_at "sd") => `(tactic| first | assumption | decide | omega)
local macro_rules | `(tactic| walk_at "rd") => `(tactic| repeat (first
  | refine ⟨_, SqL.of (by assumption), ?_⟩ | refine ⟨_, SqL.of upd_same, ?_⟩ | refine ⟨_, .inl (SqL.of (by assumption)), ?_⟩ | refine ⟨_, (by assumption : _ = some (HO.lst _)), ?_⟩ | refine ⟨_, upd_same, ?_⟩
  | refine ⟨_, rfl, ?_⟩ | refine And.intro (by walk_at "sd") ?_))

section
variable {P : Program} {w : World} {K : PySem.W.Frag} {mg : Str → Option Value} {base : Heap}
def sp_quotient (K : PySem.W.Frag) (C : Addr) : Sp := fun vs H Q E => ∃ (a b : Addr) (p q r s : Int), vs = [.ref a, .ref b] ∧ Pr K H a p q ∧ Pr K H b r s ∧ p.natAbs < 2 ^ 4000 ∧ q.natAbs < 2 ^ 4000 ∧ r.natAbs < 2 ^ 4000 ∧ s.natAbs < 2 ^ 4000 ∧ q ≠ 0 ∧ 1 ≤ s ∧ Nat.gcd r.natAbs s.natAbs = 1 ∧
  (r ≠ 0 → ∀ t H', Same H H' → H t = none → H' t = some (.tup [.int (frP (p * s) (q * r)), .int (frQ (p * s) (q * r))]) → Q (.ref t) H') ∧
  (r = 0 → ∀ d H', Same H H' → H d = none → H' d = some (.xd (badF (.ref b))) → E (.ref C) (some d) H')
theorem eqv_zero (r s : Int) : PyData.eqv (.tuple [.int r, .int s]) (.tuple [.int 0, .int 1]) = (decide (r = 0) && decide (s = 1)) := by
  simp [PyData.eqv, PyData.eqvAll]
  rfl
theorem shaped2 (r s : Int) : SeqAt.shaped (.tuple [.int r, .int s]) = true := by rfl
theorem dp_pair {H : Hp} {a : Addr} {p q : Int} (h : Pr K H a p q) : Dp K H (.ref a) (.tuple [.int p, .int q]) := .tup h (.cons (.int p) (.cons (.int q) .nil))
theorem ok_quotient (T : Txt w K mg) : FnOk P w K mg base (L2.CX P w) 4 T.a_quotient T.d_quotient ["a", "b"] (sp_quotient K T.C_BadValue) := by
  refine T.F_quotient.okX sc_quotient (fun vs H Q E h => ?_) (fun cdv A outer s H vs Q E hr h => ?_)
  · obtain ⟨a, b, p, q, r, s', rfl, _⟩ := h
    rfl
  · obtain ⟨a, b, p, q, r, s', rfl, ha, hb, lp, lq, lr, ls, q0, s1, hg, k, kE⟩ := h
    have hr_is_fraction : Room 2 _ := hr.mono (by decide)
    have G_is_fraction := ok_is_fraction (P := P) (base := base) T
    have hr_fraction : Room 3 _ := hr.mono (by decide)
    have G_fraction := ok_fraction (P := P) (base := base) T
    have hr_BadValue : Room 2 _ := hr.mono (by decide)
    have G_BadValue := ok_BadValue (P := P) (base := base) T
    refine ⟨_, (pss_cons (ps_if (PW.pt (pw_or (pt_not (pt_val (pe_call G_is_fraction hr_is_fraction (by rfl) T.m_is_fraction T.F_is_fraction.kp T.B_is_fraction .nil pass0 (pa_cons (pv 1) pa_nil)))) (pw_or1 (pt_cmpR (op_eqD hr.units) (pv 1) (pe_glob (v := .ref T.a_ZERO) (by rfl) T.m_ZERO rfl) (nomark _))))) (pss_one (ps_raise rfl (takes_of rfl rfl rfl rfl) (pmk_oex T.X_BadValue T.i_BadValue T.t_BadValue G_BadValue hr_BadValue T.B_BadValue__init .nil pass0 (by rfl) T.m_BadValue (pa_cons (pv 1) pa_nil)))) pss_nil)
      (pss_one (ps_ret (pe_call G_fraction hr_fraction (by rfl) T.m_fraction T.F_fraction.kp T.B_fraction .nil passL (pa_cons (pe_op op_mulW (pe_ix ix_tup (pv 0) pe_int (fun _ _ => rfl)) (pe_ix ix_tup (pv 1) pe_int (fun _ _ => rfl))) (pa_cons (pe_op op_mulW (pe_ix ix_tup (pv 0) pe_int (fun _ _ => rfl)) (pe_ix ix_tup (pv 1) pe_int (fun _ _ => rfl))) pa_nil)))))), ?_⟩
    refine seq_op fun N hN => ?_
    walk_at "rs"
    have hf : isFrac (.tuple [.int r, .int s']) = true := by
      show (decide (1 ≤ s') && decide (Nat.gcd r.natAbs s'.natAbs = 1)) = true
      rw [decide_eq_true s1, decide_eq_true hg]; rfl
    refine ⟨_, _, rfl, dp_pair hb, fun H1 e1 => ⟨true, (by show V.bl (isFrac _) = V.bl true; rw [hf]), iteFF (by decide) ⟨_, .tuple [.int 0, .int 1], dp_same e1 (dp_pair hb), dp_pair (T.s_ZERO H1), shaped2 _ _, by decide +kernel, _, rfl, ?_⟩⟩⟩
    rw [eqv_zero]
    refine ite2 (fun e => ?_) (fun e => hN _ _ ?_)
    · rw [Bool.and_eq_true] at e
      have r0 : r = 0 := of_decide_eq_true e.1
      exact mk_badT (fun K h => by walk_at "rs"; exact h) fun d H2 s2 hd h2 => kE r0 d H2 (Same.trans e1 s2) (Same.dom e1 d hd) h2
    clear hN N
    have r0 : r ≠ 0 := fun z => e (by
      subst z
      have : s' = 1 := by
        rw [Int.natAbs_zero, Nat.gcd_zero_left] at hg; omega
      subst this; rfl)
    replace ha := Same.seqT e1 ha
    replace hb := Same.seqT e1 hb
    walk_at "rs"
    refine ⟨_, ha, _, rfl, _, hb, _, rfl, _, rfl, _, rfl, mulW lp ls, _, ha, _, rfl, _, hb, _, rfl, _, rfl, _, rfl, mulW lq lr, ?_⟩
    refine ⟨_, _, rfl, logL (mulL lp ls) (by decide) (by decide), logL (mulL lq lr) (by decide) (by decide), fun _ t H' s2 h0 h2 => k r0 t H' (Same.trans e1 s2) (Same.dom e1 t h0) h2, fun e => absurd e (Int.mul_ne_zero q0 r0)⟩
theorem abs_if (p : Int) : (if p < 0 then -p else p) = ((p.natAbs : Nat) : Int) := by split <;> omega
theorem ok__law_low (T : Txt w K mg) : FnOk P w K mg base CX0 1 T.a__law_low T.d__law_low ["top", "low"] (fun vs H Q _ => ∃ p q : Int, vs = [.int p, .int q] ∧ q ≠ 0 ∧ p.natAbs < 2 ^ 8001 ∧ q.natAbs < 2 ^ 8001 ∧
    ∀ t H', Same H H' → H t = none → H' t = some (.tup [.int (frP p q), .int (frQ p q)]) → Q (.ref t) H') := by
  refine T.F__law_low.ok sc__law_low (fun vs H Q E h => ?_) (fun cdv A outer s H vs Q E hr h => ?_)
  · obtain ⟨p, q, rfl, _⟩ := h
    rfl
  · obtain ⟨p, q, rfl, q0, lp, lq, k⟩ := h
    refine ⟨_, (pss_cons (ps_par (i := 2) (j := 3) (by rfl) sc__law_low.nd rfl rfl (by decide) rfl rfl (pa_cons (pe_callB call_abs (by rfl) T.n_abs (by decide +kernel) (pa_cons (pv 0) pa_nil)) (pa_cons (pe_callB call_abs (by rfl) T.n_abs (by decide +kernel) (pa_cons (pv 1) pa_nil)) pa_nil)) (by rfl))
      (pss_cons (ps_while PassesOwn.never (pt_cmpR op_neI (pv 3) pe_int (nomark _)) (pss_one (ps_par (i := 2) (j := 3) (by rfl) sc__law_low.nd rfl rfl (by decide) rfl rfl (pa_cons (pv 3) (pa_cons (pe_op op_mod (pe_callTy call_intI (by rfl) T.n_int (by decide +kernel) (pa_cons (pv 2) pa_nil)) (pv 3)) pa_nil)) (by rfl))))
      (pss_cons (ps_if (pt_cmpR op_lt (pv 1) pe_int (nomark _)) (pss_one (ps_set (i := 2) sc__law_low.nd rfl (Or.inl rfl) (pe_op op_sub pe_int (pv 2)))) pss_nil)
      (pss_one (ps_ret (pe_tupU (pa_cons (pe_op op_fdivF (pv 0) (pv 2)) (pa_cons (pe_op op_fdivF (pv 1) (pv 2)) pa_nil)))))))), ?_⟩
    refine seq_op fun N hN => ?_
    walk_at "rs"
    refine ⟨_, _, ⟨rfl, rfl⟩, hN _ _ ?_⟩
    clear hN N
    refine cut_seq (fun σ H2 => σ = [some (.int p), some (.int q), some (.int ((Nat.gcd p.natAbs q.natAbs : Nat) : Int)), some (.int 0)] ∧ H2 = H) (fun N hN => ?_) ?_
    · refine while_by (fun σ H2 => ∃ a b : Nat, σ = [some (.int p), some (.int q), some (.int (a : Int)), some (.int (b : Int))] ∧ H2 = H ∧ Nat.gcd a b = Nat.gcd p.natAbs q.natAbs) (fun (σ : L2.St) (_ : Hp) => match σ[3]? with
          | some (some (V.int b)) => b.toNat
          | _ => 0) ⟨p.natAbs, q.natAbs, by rw [abs_if, abs_if], rfl, rfl⟩ ?_ ?_
      · rintro σ H2 ⟨a, b, rfl, rfl, hg⟩
        walk_at "rs"
        refine ite2 (fun hb => ?_) (fun hb => ?_)
        · refine ⟨by omega, _, _, ⟨rfl, rfl⟩, ⟨b, a % b, ⟨rfl, rfl⟩, ?_⟩, ?_⟩
          · rw [← hg, Nat.gcd_comm a b, Nat.gcd_rec b a, Nat.gcd_comm]
          · show ((a : Int) % (b : Int)).toNat < (b : Int).toNat
            have := Int.emod_lt_of_pos (a : Int) (show (0 : Int) < (b : Int) by omega)
            have := Int.emod_nonneg (a : Int) hb
            omega
        · have b0 : b = 0 := by omega
          subst b0
          rw [Nat.gcd_zero_right] at hg
          rw [hg]
          exact hN _ _ ⟨rfl, rfl⟩
      · intro σ H2 Q1 Q2 h hq
        revert hq
        walk_at "rs"
        rintro ⟨v, e, i, rfl, hq⟩
        exact ⟨_, e, i, rfl, h _ _ hq⟩
    · rintro σ H2 ⟨rfl, rfl⟩
      have g0 : (Nat.gcd p.natAbs q.natAbs : Nat) ≠ 0 := fun z => q0 (by have := Nat.eq_zero_of_gcd_eq_zero_right z; omega)
      have gl := gcd_log (p := p) q0
      have ql := logL lq (by decide) (by decide)
      have n0 : frG p q ≠ 0 := by unfold frG; split <;> omega
      have nl : (frG p q).natAbs.log2 < 9000 := by
        have : (frG p q).natAbs = Nat.gcd p.natAbs q.natAbs := by unfold frG; split <;> omega
        rw [this]; omega
      refine cut_seq (fun σ H3 => σ = [some (.int p), some (.int q), some (.int (frG p q)), some (.int 0)] ∧ H3 = H2) (fun N hN => ?_) ?_
      · walk_at "rs"
        unfold frG at hN
        refine ite2 (fun c => ?_) (fun c => ?_)
        · rw [if_pos c] at hN
          rw [Int.zero_sub]
          exact hN _ _ ⟨rfl, rfl⟩
        · rw [if_neg c] at hN; exact hN _ _ ⟨rfl, rfl⟩
      · rintro σ H3 ⟨rfl, rfl⟩
        walk_at "rs"
        exact ⟨⟨n0, nl⟩, ⟨n0, nl⟩, by decide, k⟩
end
end LK

set_option Elab.async false
set_option linter.all false
set_option maxRecDepth 100000
namespace LK
open PySem PySem.Spec PyProof.Rows L2
local macro_rules | `(tactic| walk_at "rs") => `(tactic| simp only [cxK, cxNK, tCallZ, tAsg, tOp, rI0, rS0, rB0, rI, rU, tUn, rEq, rNe, rIxL, rIxT, rIxS, rSetL, rSlLU, rSlS, rSlU, rCatL, rCatU, rRepL, rIn, tVar, tC, gName, gSub, tIfS, tTest, tB, tAnd, tOr, tNot, tNotV, tAndV, tOrV, tIf, tCall, tCons, tNil, tCB, tDrop, tRet, tRetN, tNext, tLstU, tTupU, tM0, tM1, tPar, tPar3, tAug, ipI, tBM, tBM0, rAppend, rPop, tBreak, tCont, tChain, tSl, tPart, tNoPart, L2.start, List.map, List.length_cons, List.length_nil, List.replicate, List.cons_append, List.nil_append, List.append_nil, List.getElem?_cons_zero, List.getElem?_cons_succ, List.set_cons_zero, List.set_cons_succ, Option.some.injEq, V.int.injEq, V.ref.injEq, V.str.injEq, V.bl.injEq, exists_eq_left', exists_eq_left, exists_and_left, decide_eq_true_eq, List.cons.injEq, and_true, true_and, scal, Bool.not_eq_true', decide_eq_false_iff_not, Nat.zero_add, Nat.reduceAdd, Nat.reduceSub, reduceCtorEq, false_and, exists_false, false_or, or_false, CPow, CMul, CDiv, Int.reduceToNat, ↓reduceIte, wipe, sw, List.nil_append, List.singleton_append])
local macro_rules | `(tactic| walk_at "st") => `(tactic| (refine seq_op fun N hN => ?_; walk_at "rs"))
local macro_rules | `(tactic| walk_at "sd") => `(tactic| first | assumption | decide | omega)
local macro_rules | `(tactic| walk_at "rd") => `(tactic| repeat (first
  | refine ⟨_, SqL.of (by assumption), ?_⟩ | refine ⟨_, SqL.of upd_same, ?_⟩ | refine ⟨_, .inl (SqL.of (by assumption)), ?_⟩ | refine ⟨_, (by assumption : _ = some (HO.lst _)), ?_⟩ | refine ⟨_, upd_same, ?_⟩
  | refine ⟨_, rfl, ?_⟩ | refine And.intro (by walk_at "sd") ?_))

theorem dep_tup (ds : List PyData) : dep (.tuple ds) = depAll ds + 1 := rfl
theorem dep_lst (ds : List PyData) : dep (.list ds) = depAll ds + 1 := rfl
theorem depAll_get : ∀ {ds : List PyData} {i : Nat} {d : PyData}, ds[i]? = some d → dep d ≤ depAll ds
  | [], _, _, e => by simp at e
  | a :: r, 0, _, e => by simp at e; subst e; exact Nat.le_max_left _ _
  | a :: r, i + 1, _, e => Nat.le_trans (depAll_get (ds := r) (i := i) (by simpa using e)) (Nat.le_max_right _ _)
theorem dpa_get4 {K : PySem.W.Frag} {H : Hp} : ∀ {vs : List V} {ds : List PyData} {i : Nat} {v : V}, DpAll K H vs ds → vs[i]? = some v → ∃ d, ds[i]? = some d ∧ Dp K H v d
  | _, _, _, _, .nil, e => by simp at e
  | _, _, 0, _, .cons r _, e => by simp at e; subst e; exact ⟨_, rfl, r⟩
  | _, _, i + 1, _, .cons _ t, e => by
    obtain ⟨d, h1, h2⟩ := dpa_get4 (i := i) t (by simpa using e)
    exact ⟨d, by simpa using h1, h2⟩
theorem dpa_len4 {K : PySem.W.Frag} {H : Hp} : ∀ {vs : List V} {ds : List PyData}, DpAll K H vs ds → vs.length = ds.length
  | _, _, .nil => rfl
  | _, _, .cons _ t => by simp [dpa_len4 t]
theorem ok_get4 : ∀ {ds : List PyData} {i : Nat} {d : PyData}, okAll ds = true → ds[i]? = some d → okD d = true
  | [], _, _, _, e => by simp at e
  | a :: r, 0, _, h, e => by
    simp at e; subst e
    unfold okAll at h; rw [Bool.and_eq_true] at h; exact h.1
  | a :: r, i + 1, _, h, e => by
    unfold okAll at h; rw [Bool.and_eq_true] at h
    exact ok_get4 (i := i) h.2 (by simpa using e)
theorem isTy_leaf {d : PyData} (h1 : ∀ ds, d ≠ .list ds) (h2 : ∀ ds, d ≠ .tuple ds) : isTy "list" d = false ∧ isTy "tuple" d = false := by
  cases d <;> simp [isTy] <;> first | exact absurd rfl (h1 _) | exact absurd rfl (h2 _)
theorem walk_zipT {K : PySem.W.Frag} {a b : Addr} {xs ys : List V} {n : Nat} (hx : xs.length = n) (hy : ys.length = n) : Walk (RZ.ItzT K a b) n (fun H => SqT K H a xs ∧ SqT K H b ys) (YPair (fun i => xs[i]?) (fun i => ys[i]?)) := by
  refine ⟨fun i _ hi q => ?_, fun _ q => ⟨xs, ys, q.1, q.2, by omega⟩, fun i H v H' _ q y => ?_⟩
  · have h1 : i < xs.length := by omega
    have h2 : i < ys.length := by omega
    exact ⟨xs, ys, xs[i], ys[i], q.1, q.2, by simp [h1], by simp [h2]⟩
  · obtain ⟨T, x, z, h1, h2, h3, h4, h5⟩ := y
    exact ⟨T, x, z, h1, h2, h3, h4 xs q.1, h5 ys q.2⟩
section
variable {P : Program} {w : World} {K : PySem.W.Frag} {mg : Str → Option Value} {base : Heap}
theorem like_step (T : Txt w K mg) (n : Nat) (ih : ∀ m, m + 1 = n → FnOk P w K mg base CX0 (m + 1) T.a__law_like T.d__law_like ["got", "due"] (sp__law_like K m)) : FnOk P w K mg base CX0 (n + 1) T.a__law_like T.d__law_like ["got", "due"] (sp__law_like K n) := by
  refine T.F__law_like.ok sc__law_like (fun vs H Q E h => ?_) (fun cdv A outer s H vs Q E hr h => ?_)
  · obtain ⟨v, u, d, rfl, _⟩ := h
    rfl
  · obtain ⟨v, u, d, rfl, hv, hu, hok, hdep, k⟩ := h
    have leaf : isTy "list" d = false ∧ isTy "tuple" d = false ∨ (∃ ds, (d = .list ds ∨ d = .tuple ds)) := by
      cases d <;> first | exact .inr ⟨_, .inl rfl⟩ | exact .inr ⟨_, .inr rfl⟩ | exact .inl ⟨rfl, rfl⟩
    rcases leaf with ⟨el, et⟩ | ⟨ds, hds⟩
    · refine ⟨_, (pss_cons (ps_if (pt_val (pe_callB call_isiDT (by rfl) T.n_isinstance (by decide +kernel) (pa_cons (pv 1) (pa_cons (pe_tupU (pa_cons (pe_bltn (v := .ty "list") (u := .type "list") (by rfl) T.n_list (by decide +kernel) rfl) (pa_cons (pe_bltn (v := .ty "tuple") (u := .type "tuple") (by rfl) T.n_tuple (by decide +kernel) rfl) pa_nil))) pa_nil)))) pss_never pss_nil) (pss_cons (ps_if (PW.pt (pw_or (pt_cmpR op_isN (pv 1) pe_non (nomark _)) (pw_or1 (pt_cmpR op_isN (pv 0) pe_non (nomark _))))) (pss_one (ps_ret (pe_and (pe_cmpR op_isN (pv 1) pe_non (nomark _)) (pe_one (pe_cmpR op_isN (pv 0) pe_non (nomark _)))))) pss_nil)
      (pss_cons (ps_if (PW.pt (pw_or (pt_val (pe_callB call_isiDT (by rfl) T.n_isinstance (by decide +kernel) (pa_cons (pv 0) (pa_cons (pe_tupU (pa_cons (pe_bltn (v := .ty "list") (u := .type "list") (by rfl) T.n_list (by decide +kernel) rfl) (pa_cons (pe_bltn (v := .ty "tuple") (u := .type "tuple") (by rfl) T.n_tuple (by decide +kernel) rfl) pa_nil))) pa_nil)))) (pw_or1 (pt_cmpR op_neB (pe_callB (call_isiDK (K := K) rfl) (by rfl) T.n_isinstance (by decide +kernel) (pa_cons (pv 0) (pa_cons (pe_bltn (v := .ty "bool") (u := .type "bool") (by rfl) T.n_bool (by decide +kernel) rfl) pa_nil))) (pe_callB (call_isiDK (K := K) rfl) (by rfl) T.n_isinstance (by decide +kernel) (pa_cons (pv 1) (pa_cons (pe_bltn (v := .ty "bool") (u := .type "bool") (by rfl) T.n_bool (by decide +kernel) rfl) pa_nil))) (nomark _))))) (pss_one (ps_ret pe_bl)) pss_nil)
      (pss_cons (ps_if (PW.pt (pw_or (pt_cmpR op_neB (pe_callB (call_isiDK (K := K) rfl) (by rfl) T.n_isinstance (by decide +kernel) (pa_cons (pv 0) (pa_cons (pe_bltn (v := .ty "str") (u := .type "str") (by rfl) T.n_str (by decide +kernel) rfl) pa_nil))) (pe_callB (call_isiDK (K := K) rfl) (by rfl) T.n_isinstance (by decide +kernel) (pa_cons (pv 1) (pa_cons (pe_bltn (v := .ty "str") (u := .type "str") (by rfl) T.n_str (by decide +kernel) rfl) pa_nil))) (nomark _)) (pw_or1 (pt_cmpR op_neB (pe_callB (call_isiDK (K := K) rfl) (by rfl) T.n_isinstance (by decide +kernel) (pa_cons (pv 0) (pa_cons (pe_bltn (v := .ty "int") (u := .type "int") (by rfl) T.n_int (by decide +kernel) rfl) pa_nil))) (pe_callB (call_isiDK (K := K) rfl) (by rfl) T.n_isinstance (by decide +kernel) (pa_cons (pv 1) (pa_cons (pe_bltn (v := .ty "int") (u := .type "int") (by rfl) T.n_int (by decide +kernel) rfl) pa_nil))) (nomark _))))) (pss_one (ps_ret pe_bl)) pss_nil)
      (pss_one (ps_ret (pe_cmpR op_eq (pv 0) (pv 1) (nomark _)))))))), ?_⟩
      refine seq_op fun N hN => ?_
      walk_at "rs"
      refine ⟨by decide, fun p H1 s1 h0 h1 => ⟨_, p, ⟨rfl, rfl⟩, h1, _, dp_same s1 hu, iteFF (by rw [el, et]; decide) (hN _ _ ?_)⟩⟩
      clear hN N h1
      have hv1 := dp_same s1 hv
      have hu1 := dp_same s1 hu
      have k1 := fun H' (s : Same H1 H') => k H' (Same.trans s1 s)
      refine seq_op fun N hN => ?_
      walk_at "rs"
      by_cases cn : d = .none
      · subst cn
        cases hu
        cases hv
        exact iteTT rfl (iteTT rfl (k1 H1 (Same.refl _)))
      · have vn : v ≠ .non := fun e => by subst e; cases hv; exact cn rfl
        have un : u ≠ .non := fun e => by subst e; cases hu; exact cn rfl
        refine iteFF un (iteFF vn (hN _ _ ?_))
        clear hN N
        refine seq_op fun N hN => ?_
        walk_at "rs"
        refine ⟨by decide, fun p2 H2 s2 h02 h12 => ⟨_, p2, ⟨rfl, rfl⟩, h12, _, dp_same s2 hv1, iteFF (by rw [el, et]; decide) ?_⟩⟩
        refine ⟨_, "bool", ⟨rfl, rfl⟩, _, dp_same s2 hv1, by simp, _, "bool", ⟨rfl, rfl⟩, _, dp_same s2 hu1, by simp, iteFF (by simp) (hN _ _ ?_)⟩
        clear hN N
        refine seq_op fun N hN => ?_
        walk_at "rs"
        refine ⟨_, "str", ⟨rfl, rfl⟩, _, dp_same s2 hv1, by simp, _, "str", ⟨rfl, rfl⟩, _, dp_same s2 hu1, by simp, iteFF (by simp) ?_⟩
        refine ⟨_, "int", ⟨rfl, rfl⟩, _, dp_same s2 hv1, by simp, _, "int", ⟨rfl, rfl⟩, _, dp_same s2 hu1, by simp, iteFF (by simp) (hN _ _ ?_)⟩
        clear hN N
        walk_at "rs"
        have kk := k1 H2 s2
        have fin : scal v u = true ∧ Q (.bl (decide (v = u))) H2 := by
          cases hv with
          | non => exact absurd rfl cn
          | bl b => cases hu; exact ⟨rfl, by rw [decide_eq_true rfl]; exact kk⟩
          | int b => cases hu; exact ⟨rfl, by rw [decide_eq_true rfl]; exact kk⟩
          | str b => cases hu; exact ⟨rfl, by rw [decide_eq_true rfl]; exact kk⟩
          | lst _ _ => simp [isTy] at el
          | tup _ _ => simp [isTy] at et
        exact fin
    · obtain ⟨m, rfl⟩ : ∃ m, n = m + 1 := by
        rcases hds with rfl | rfl
        · rw [dep_lst] at hdep; exact ⟨n - 1, by omega⟩
        · rw [dep_tup] at hdep; exact ⟨n - 1, by omega⟩
      have hr__law_like : Room (m + 1) _ := hr
      have G__law_like := ih m rfl
      have hdm : depAll ds ≤ m := by
        rcases hds with rfl | rfl
        · rw [dep_lst] at hdep; omega
        · rw [dep_tup] at hdep; omega
      refine ⟨_, (pss_cons (ps_if (pt_val (pe_callB call_isiDT (by rfl) T.n_isinstance (by decide +kernel) (pa_cons (pv 1) (pa_cons (pe_tupU (pa_cons (pe_bltn (v := .ty "list") (u := .type "list") (by rfl) T.n_list (by decide +kernel) rfl) (pa_cons (pe_bltn (v := .ty "tuple") (u := .type "tuple") (by rfl) T.n_tuple (by decide +kernel) rfl) pa_nil))) pa_nil)))) (pss_cons (ps_if (PW.pt (pw_or (pt_cmpR op_neB (pe_callB (call_isiDK (K := K) rfl) (by rfl) T.n_isinstance (by decide +kernel) (pa_cons (pv 0) (pa_cons (pe_bltn (v := .ty "list") (u := .type "list") (by rfl) T.n_list (by decide +kernel) rfl) pa_nil))) (pe_callB (call_isiDK (K := K) rfl) (by rfl) T.n_isinstance (by decide +kernel) (pa_cons (pv 1) (pa_cons (pe_bltn (v := .ty "list") (u := .type "list") (by rfl) T.n_list (by decide +kernel) rfl) pa_nil))) (nomark _)) (pw_or1 (pt_cmpR op_neB (pe_callB (call_isiDK (K := K) rfl) (by rfl) T.n_isinstance (by decide +kernel) (pa_cons (pv 0) (pa_cons (pe_bltn (v := .ty "tuple") (u := .type "tuple") (by rfl) T.n_tuple (by decide +kernel) rfl) pa_nil))) (pe_callB (call_isiDK (K := K) rfl) (by rfl) T.n_isinstance (by decide +kernel) (pa_cons (pv 1) (pa_cons (pe_bltn (v := .ty "tuple") (u := .type "tuple") (by rfl) T.n_tuple (by decide +kernel) rfl) pa_nil))) (nomark _))))) (pss_one (ps_ret pe_bl)) pss_nil)
      (pss_one (ps_ret (pe_and (pe_cmpR op_eqI (pe_callB call_lenD (by rfl) T.n_len (by decide +kernel) (pa_cons (pv 0) pa_nil)) (pe_callB call_lenD (by rfl) T.n_len (by decide +kernel) (pa_cons (pv 1) pa_nil)) (nomark _)) (pe_one (pe_callB (cr_all rfl) (by rfl) T.n_all (by decide +kernel) (pa_cons (pe_lc (own := [("one", 2), ("two", 3)]) (g := gTup K 2 (gCons (gName 2) (gCons (gName 3) (gNil)))) (tt := tYes) rfl sc__law_like.nd (RZ.pi_zipA (by rfl) T.n_zip (pa_cons (pv 0) (pa_cons (pv 1) pa_nil))) (blkOk_by (own := [("one", 2), ("two", 3)]) (N := N__law_like) (sc := defScope s__law_like) (by decide +kernel)) (fun _ _ _ _ _ => by exact (pg_tup rfl (pgs_cons (pg_name (i := 2) sc__law_like.nd rfl (Or.inl rfl)) (pgs_cons (pg_name (i := 3) sc__law_like.nd rfl (Or.inl rfl)) pgs_nil)))) (fun _ _ _ _ _ => pts_nil) (fun _ _ _ _ _ => (pe_call G__law_like hr__law_like (by rfl) T.m__law_like T.F__law_like.kp T.B__law_like .nil pass0 (pa_cons (pv 2) (pa_cons (pv 3) pa_nil))))) pa_nil))))))) pss_nil) pss_never), ?_⟩
      refine seq_op fun N hN => ?_
      clear hN
      walk_at "rs"
      refine ⟨by decide, fun p H1 s1 h0 h1 => ⟨_, p, ⟨rfl, rfl⟩, h1, _, dp_same s1 hu, iteTT (by rcases hds with rfl | rfl <;> simp [isTy]) ?_⟩⟩
      clear h1
      have hv1 := dp_same s1 hv
      have hu1 := dp_same s1 hu
      have k1 := fun H' (s : Same H1 H') => k H' (Same.trans s1 s)
      refine seq_op fun N2 hN2 => ?_
      walk_at "rs"
      refine ⟨_, "list", ⟨rfl, rfl⟩, _, hv1, by simp, _, "list", ⟨rfl, rfl⟩, _, hu1, by simp, iteFF (by simp) ?_⟩
      refine ⟨_, "tuple", ⟨rfl, rfl⟩, _, hv1, by simp, _, "tuple", ⟨rfl, rfl⟩, _, hu1, by simp, iteFF (by simp) (hN2 _ _ ?_)⟩
      clear hN2 N2
      walk_at "rs"
      have gm : ∀ (x : V) (σ0 : L2.St) (H0 : Hp) (Q0 Q1 : L2.St → Hp → Prop), (∀ σ2 H2, Q0 σ2 H2 → Q1 σ2 H2) → gTup K 2 (gCons (gName 2) (gCons (gName 3) gNil)) x σ0 H0 Q0 → gTup K 2 (gCons (gName 2) (gCons (gName 3) gNil)) x σ0 H0 Q1 :=
        fun x σ0 H0 Q0 Q1 h ⟨a, xs, e1, e2, e3, v, r, e4, v2, r2, e5, e6, q⟩ => ⟨a, xs, e1, e2, e3, v, r, e4, v2, r2, e5, e6, h _ _ q⟩
      have turn : ∀ {xs ys : List V} (hx : DpAll K H1 xs ds) (hy : DpAll K H1 ys ds) (i : Nat) (x : V) (H2 H' : Hp), Same H1 H2 → YPair (fun i => xs[i]?) (fun i => ys[i]?) i H2 x H' →
          gTup K 2 (gCons (gName 2) (gCons (gName 3) gNil)) x (wipe [some v, some u, none, none] [2, 3]) H' fun σ2 H3 => Same H2 H3 ∧ wipe σ2 [2, 3] = wipe [some v, some u, none, none] [2, 3] ∧ ∀ Q2 : V → Hp → Prop, (∀ H4, Same H3 H4 → Q2 (.bl true) H4) → tCall (sp__law_like K m) [] E0 (tCons (tVar 2) (tCons (tVar 3) tNil)) σ2 H3 Q2 := by
        rintro xs ys hx hy i x H2 H' s2 ⟨T0, y1, y2, rfl, hT, rfl, h1, h2⟩
        obtain ⟨d1, e1, hd1⟩ := dpa_get4 hx h1
        obtain ⟨d2, e2, hd2⟩ := dpa_get4 hy h2
        rw [e1] at e2
        cases e2
        have s3 := Same.trans s2 (same_upd (o := .tup [y1, y2]) hT)
        refine ⟨T0, [y1, y2], rfl, .inl (.inl upd_same), rfl, y1, [y2], rfl, y2, [], rfl, rfl, same_upd hT, rfl, fun Q2 hq => ?_⟩
        refine ⟨_, rfl, _, rfl, y1, y2, d1, rfl, dp_same s3 hd1, dp_same s3 hd2, ?_, Nat.le_trans (depAll_get e1) hdm, hq⟩
        refine ok_get4 ?_ e1
        rcases hds with rfl | rfl
        · exact (okD_lst.mp hok).2
        · exact (okD_tup.mp hok).2
      have fin : ∀ {D : Addr} {H' : Hp} {n : Nat}, Same H1 H' → H' D = some (.lst ((List.range n).map fun _ => V.bl true)) → rAll K [V.ref D] H' Q := by
        intro D H' n s h
        refine ⟨D, (List.range n).map fun _ => true, rfl, SqL.of (by rw [h, List.map_map]; rfl), ?_⟩
        rw [all_map_id]
        have e : ((List.range n).all fun _ => true) = true := by simp
        rw [e]
        exact k1 H' s
      refine ⟨_, hv1, .inl ⟨ds, hds, _, hu1, .inl ⟨ds, hds, iteTT rfl ?_⟩⟩⟩
      rcases hds with rfl | rfl
      · cases hv1 with
        | @lst a xs _ ha hda =>
          cases hu1 with
          | @lst b ys _ hb hdb =>
            have lx := dpa_len4 hda
            have ly := dpa_len4 hdb
            have small : ds.length ≤ 1000000 := Nat.le_trans (okD_lst.mp hok).1 (by decide)
            exact ⟨_, rfl, _, rfl, a, b, xs, ys, rfl, .inl ⟨ha, hb, fun D hD => lc_pure (walk_zip (n := ds.length) (by omega)) hD small (fun _ => .bl true) (fun H s => ⟨Same.seq s ha, Same.seq s hb⟩) (fun i x H2 H' _ s2 y => turn hda hdb i x H2 H' s2 y) gm fun H' s h => fin s h⟩⟩
      · cases hv1 with
        | @tup a xs _ ha hda =>
          cases hu1 with
          | @tup b ys _ hb hdb =>
            have lx := dpa_len4 hda
            have ly := dpa_len4 hdb
            have small : ds.length ≤ 1000000 := Nat.le_trans (okD_tup.mp hok).1 (by decide)
            exact ⟨_, rfl, _, rfl, a, b, xs, ys, rfl, .inr ⟨ha, hb, fun D hD => lc_pure (walk_zipT (n := ds.length) lx ly) hD small (fun _ => .bl true) (fun H s => ⟨Same.seqT s ha, Same.seqT s hb⟩) (fun i x H2 H' _ s2 y => turn hda hdb i x H2 H' s2 y) gm fun H' s h => fin s h⟩⟩
theorem ok__law_like (T : Txt w K mg) : ∀ n : Nat, FnOk P w K mg base CX0 (n + 1) T.a__law_like T.d__law_like ["got", "due"] (sp__law_like K n) := by
  intro n
  induction n with
  | zero => exact like_step T 0 fun m e => by omega
  | succ n ih =>
    refine like_step T (n + 1) fun m e => ?_
    obtain rfl : m = n := by omega
    exact ih
end
end LK

set_option Elab.async false
set_option linter.all false
set_option maxRecDepth 100000
namespace LK
open PySem PySem.Spec PyProof.Rows L2
local macro_rules | `(tactic| walk_at "rs") => `(tactic| simp only [cxK, cxNK, tCallZ, tAsg, tOp, rI0, rS0, rB0, rI, rU, tUn, rEq, rNe, rIxL, rIxT, rIxS, rSetL, rSlLU, rSlS, rSlU, rCatL, rCatU, rRepL, rIn, tVar, tC, gName, gSub, tIfS, tTest, tB, tAnd, tOr, tNot, tNotV, tAndV, tOrV, tIf, tCall, tCons, tNil, tCB, tDrop, tRet, tRetN, tNext, tLstU, tTupU, tM0, tM1, tPar, tPar3, tAug, ipI, tBM, tBM0, rAppend, rPop, tBreak, tCont, tChain, tSl, tPart, tNoPart, L2.start, List.map, List.length_cons, List.length_nil, List.replicate, List.cons_append, List.nil_append, List.append_nil, List.getElem?_cons_zero, List.getElem?_cons_succ, List.set_cons_zero, List.set_cons_succ, Option.some.injEq, V.int.injEq, V.ref.injEq, V.str.injEq, V.bl.injEq, exists_eq_left', exists_eq_left, exists_and_left, decide_eq_true_eq, List.cons.injEq, and_true, true_and, scal, Bool.not_eq_true', decide_eq_false_iff_not, Nat.zero_add, Nat.reduceAdd, Nat.reduceSub, reduceCtorEq, false_and, exists_false, false_or, or_false, CPow, CMul, CDiv, Int.reduceToNat, ↓reduceIte, wipe, sw, List.nil_append, List.singleton_append])
local macro_rules | `(tactic| walk_at "st") => `(tactic| (refine seq_op fun N hN => ?_; walk_at "rs"))
local macro_rules | `(tactic| walk_at "sd") => `(tactic| first | assumption | decide | omega)
local macro_rules | `(tactic| walk_at "rd") => `(tactic| repeat (first
  | refine ⟨_, SqL.of (by assumption), ?_⟩ | refine ⟨_, SqL.of upd_same, ?_⟩ | refine ⟨_, .inl (SqL.of (by assumption)), ?_⟩ | refine ⟨_, (by assumption : _ = some (HO.lst _)), ?_⟩ | refine ⟨_, upd_same, ?_⟩
  | refine ⟨_, rfl, ?_⟩ | refine And.intro (by walk_at "sd") ?_))

theorem okAll_mem {K : PySem.W.Frag} {G : Hp} {m : Nat} : ∀ {ys : List V}, (∀ v ∈ ys, ∃ d, Dp K G v d ∧ okD d = true ∧ dep d ≤ m) → ∃ ds, DpAll K G ys ds ∧ okAll ds = true ∧ depAll ds ≤ m ∧ ds.length = ys.length
  | [], _ => ⟨[], .nil, rfl, Nat.zero_le _, rfl⟩
  | v :: ys, h => by
    obtain ⟨d, h1, h2, h3⟩ := h v List.mem_cons_self
    obtain ⟨ds, q1, q2, q3, q4⟩ := okAll_mem (ys := ys) fun v hv => h v (List.mem_cons_of_mem _ hv)
    refine ⟨d :: ds, .cons h1 q1, ?_, Nat.max_le.mpr ⟨h3, q3⟩, by simp [q4]⟩
    unfold okAll
    rw [h2, q2]; rfl
theorem Kp.bn {b : Addr} {H H' : Hp} (k : Kp b H H') {o : HO} (h : H' b = some o) {p : Addr} (h0 : H' p = none) : H p = none := k.dom h p h0
theorem of_str {K : PySem.W.Frag} {H : Hp} {b c : Addr} (B : Bag H b c) {z : Str} (h0 : 0 < z.length) (h1 : z.length ≤ 100000) {Q : VK} {E : XK} (k : ∀ c0 H', Bag H' b c → Kp b H H' → Q (.str ⟨#[c0]⟩) H') : sp__law_of K [.ref b, .str z] H Q E := by
  have l := len_cps z
  refine ⟨b, c, .str z, _, rfl, B, .inr (.inr ⟨z, rfl, h1, rfl⟩), .inr (.inr ⟨z, rfl, h1, rfl⟩), ?_, ?_, fun y H' hy B' K' => ?_⟩
  · intro e
    have q := congrArg List.length e
    rw [List.length_map, l, List.length_nil] at q
    omega
  · rw [List.length_map]; omega
  · obtain ⟨c0, _, rfl⟩ := List.mem_map.mp hy
    exact k c0 H' B' K'
theorem of_lst {K : PySem.W.Frag} {H : Hp} {b c p : Addr} (B : Bag H b c) {ys : List V} (h : H p = some (.lst ys)) (n : p ≠ b) (ne : ys ≠ []) (hl : ys.length ≤ 1000000) {Q : VK} {E : XK} (k : ∀ y H', y ∈ ys → Bag H' b c → Kp b H H' → Q y H') : sp__law_of K [.ref b, .ref p] H Q E :=
  ⟨b, c, .ref p, ys, rfl, B, .inl ⟨p, rfl, SqL.of h⟩, .inl ⟨p, rfl, SqL.of (by rw [hb_ne n]; exact h)⟩, ne, hl, k⟩
theorem sqT_hb {K : PySem.W.Frag} {H : Hp} {b c q : Addr} {xs : List V} (B : Bag H b c) (h : SqT K H q xs) : SqT K (hb H b) q xs := by
  obtain ⟨yb, eb⟩ := B.at
  rcases h with (h | ⟨o, h⟩) | h
  · refine .inl (.inl ?_)
    rw [hb_ne]; exact h
    intro e; rw [e, eb] at h; cases h
  · refine .inl (.inr ⟨o, ?_⟩)
    rw [hb_ne]; exact h
    intro e; rw [e, eb] at h; cases h
  · exact .inr h
theorem of_new {K : PySem.W.Frag} {H H1 : Hp} {b c p : Addr} (B : Bag H b c) {L : List V} (s1 : Same H H1) (h0 : H p = none) (h1 : H1 p = some (.lst L)) (ne : L ≠ []) (hl : L.length ≤ 1000000) {Q : VK} {E : XK} (k : ∀ y H2, y ∈ L → Bag H2 b c → Kp b H H2 → Q y H2) : sp__law_of K [.ref b, .ref p] H1 Q E :=
  of_lst (B.same s1) h1 (fun e => by
    obtain ⟨xb, eb⟩ := B.at
    rw [e, eb] at h0; cases h0) ne hl fun y H2 hy B2 K2 => k y H2 hy B2 (Same.trans (Kp.of s1) K2)
/-- as before, of words -/
theorem of_newS {K : PySem.W.Frag} {H H1 : Hp} {b c p : Addr} (B : Bag H b c) (L : List Str) (s1 : Same H H1) (h0 : H p = none) (h1 : H1 p = some (.lst (L.map V.str))) (ne : L ≠ []) (hl : L.length ≤ 1000000) {m : Nat} (hm : ∀ z ∈ L, z.length ≤ m) {Q : VK} {E : XK} (k : ∀ z H2, z.length ≤ m → Bag H2 b c → Kp b H H2 → Q (.str z) H2) : sp__law_of K [.ref b, .ref p] H1 Q E :=
  of_new B s1 h0 h1 (by simpa using ne) (by rw [List.length_map]; exact hl) fun y H2 hy B2 K2 => by
    obtain ⟨z, hz, rfl⟩ := List.mem_map.mp hy
    exact k z H2 (hm z hz) B2 K2
theorem of_newR {K : PySem.W.Frag} {H H1 : Hp} {b c p : Addr} (B : Bag H b c) (L : List Str) (s1 : Same H H1) (h0 : H p = none) (h1 : H1 p = some (.lst (L.map V.str))) (ne : L ≠ []) (hl : L.length ≤ 1000000) {R : Str → Prop} (hm : ∀ z ∈ L, R z) {Q : VK} {E : XK} (k : ∀ z H2, R z → Bag H2 b c → Kp b H H2 → Q (.str z) H2) : sp__law_of K [.ref b, .ref p] H1 Q E :=
  of_new B s1 h0 h1 (by simpa using ne) (by rw [List.length_map]; exact hl) fun y H2 hy B2 K2 => by
    obtain ⟨z, hz, rfl⟩ := List.mem_map.mp hy
    exact k z H2 (hm z hz) B2 K2
theorem of_lstS {K : PySem.W.Frag} {H : Hp} {b c p : Addr} (B : Bag H b c) (L : List Str) (h : H p = some (.lst (L.map V.str))) (n : p ≠ b) (ne : L ≠ []) (hl : L.length ≤ 1000000) {m : Nat} (hm : ∀ z ∈ L, z.length ≤ m) {Q : VK} {E : XK} (k : ∀ z H', z.length ≤ m → Bag H' b c → Kp b H H' → Q (.str z) H') : sp__law_of K [.ref b, .ref p] H Q E :=
  of_lst B h n (by simpa using ne) (by rw [List.length_map]; exact hl) fun y H2 hy B2 K2 => by
    obtain ⟨z, hz, rfl⟩ := List.mem_map.mp hy
    exact k z H2 (hm z hz) B2 K2
/-- each thing in xs is a thing that can be told of -/
def Ev (K : PySem.W.Frag) (G : Hp) (xs : List V) : Prop := ∀ v ∈ xs, ∃ d, Dp K G v d ∧ okD d = true
theorem Ev.same {K : PySem.W.Frag} {G G' : Hp} {xs : List V} (s : Same G G') (h : Ev K G xs) : Ev K G' xs := fun v hv => by
  obtain ⟨d, h1, h2⟩ := h v hv
  exact ⟨d, dp_same s h1, h2⟩
theorem Ev.app {K : PySem.W.Frag} {G : Hp} {xs ys : List V} (h : Ev K G xs) (h' : Ev K G ys) : Ev K G (xs ++ ys) := fun v hv => (List.mem_append.mp hv).elim (h v) (h' v)
theorem Ev.cut {K : PySem.W.Frag} {G : Hp} {xs : List V} (h : Ev K G xs) (lo hi : Option Int) : Ev K G (cutV xs lo hi) := fun v hv => h v (List.mem_of_mem_drop (List.mem_of_mem_take hv))
theorem Ev.one {K : PySem.W.Frag} {G : Hp} {v : V} {d : PyData} (h : Dp K G v d) (ok : okD d = true) : Ev K G [v] := fun u hu => by
  obtain rfl := List.mem_singleton.mp hu
  exact ⟨d, h, ok⟩
theorem Ev.strs {K : PySem.W.Frag} {G : Hp} {ws : List Str} (h : ∀ z ∈ ws, z.length ≤ 20) : Ev K G (ws.map V.str) := fun v hv => by
  obtain ⟨z, hz, rfl⟩ := List.mem_map.mp hv
  exact ⟨.str z, .str z, decide_eq_true (Nat.le_trans (h z hz) (by decide))⟩
theorem Ev.all {K : PySem.W.Frag} {G : Hp} : ∀ {xs : List V}, Ev K G xs → ∃ ds, DpAll K G xs ds ∧ okAll ds = true ∧ ds.length = xs.length
  | [], _ => ⟨[], .nil, rfl, rfl⟩
  | v :: xs, h => by
    obtain ⟨d, h1, h2⟩ := h v List.mem_cons_self
    obtain ⟨ds, q1, q2, q3⟩ := Ev.all (xs := xs) fun v hv => h v (List.mem_cons_of_mem _ hv)
    exact ⟨d :: ds, .cons h1 q1, by unfold okAll; rw [h2, q2]; rfl, by simp [q3]⟩
theorem Ev.of {K : PySem.W.Frag} {G : Hp} : ∀ {xs : List V} {ds : List PyData}, DpAll K G xs ds → okAll ds = true → Ev K G xs ∧ xs.length = ds.length
  | _, _, .nil, _ => ⟨fun v hv => absurd hv (by simp), rfl⟩
  | _, _, .cons h q, ok => by
    unfold okAll at ok
    rw [Bool.and_eq_true] at ok
    obtain ⟨e, l⟩ := Ev.of q ok.2
    exact ⟨fun v hv => (List.mem_cons.mp hv).elim (fun z => by rw [z]; exact ⟨_, h, ok.1⟩) (e v), by simp [l]⟩
theorem seqT_kp {K : PySem.W.Frag} {H H' : Hp} {b c q : Addr} {xs : List V} (B : Bag H b c) (k : Kp b H H') (h : SqT K H q xs) : SqT K H' q xs := Same.seqT (hb_le H' b) (Same.seqT k (sqT_hb B h))
theorem cut1_le (xs : List V) {i : Int} (h : 0 ≤ i) : (cutV xs (some i) (some (i + 1))).length ≤ 1 := by
  obtain ⟨j, rfl⟩ := Int.eq_ofNat_of_zero_le h
  unfold cutV
  rw [List.length_take, HT.sIx_nat, show ((j : Int) + 1) = ((j + 1 : Nat) : Int) from rfl, HT.sIx_nat]
  omega
theorem Kp.keep {b p : Addr} {H1 H2 : Hp} {o : HO} (k : Kp b H1 H2) (n : p ≠ b) (h : H1 p = some o) : H2 p = some o := k.hd h n
theorem new_ne {b c p : Addr} {H : Hp} (B : Bag H b c) (h0 : H p = none) : p ≠ b := fun e => by
  obtain ⟨xb, eb⟩ := B.at
  rw [e, eb] at h0; cases h0
theorem rep_strs (n : Nat) (z : Str) : (List.replicate n [V.str z]).flatten = (List.replicate n z).map V.str := by
  induction n with
  | zero => rfl
  | succ n ih => rw [List.replicate_succ, List.flatten_cons, ih, List.replicate_succ]; rfl
theorem rep_short {n m : Nat} {z : Str} (h : z.length ≤ m) : ∀ y ∈ List.replicate n z, y.length ≤ m := fun y hy => by
  rw [(List.mem_replicate.mp hy).2]; exact h
end LK

set_option Elab.async false
set_option linter.all false
set_option maxRecDepth 100000
namespace LK
open PySem PySem.Spec PyProof.Rows L2
local macro_rules | `(tactic| walk_at "rs") => `(tactic| simp only [cxK, cxNK, tCallZ, tAsg, tOp, rI0, rS0, rB0, rI, rU, tUn, rEq, rNe, rIxL, rIxT, rIxS, rSetL, rSlLU, rSlS, rSlU, rCatL, rCatU, rRepL, rIn, tVar, tC, gName, gSub, tIfS, tTest, tB, tAnd, tOr, tNot, tNotV, tAndV, tOrV, tIf, tCall, tCons, tNil, tCB, tDrop, tRet, tRetN, tNext, tLstU, tTupU, tM0, tM1, tPar, tPar3, tAug, ipI, tBM, tBM0, rAppend, rPop, tBreak, tCont, tChain, tSl, tPart, tNoPart, L2.start, List.map, List.length_cons, List.length_nil, List.replicate, List.cons_append, List.nil_append, List.append_nil, List.getElem?_cons_zero, List.getElem?_cons_succ, List.set_cons_zero, List.set_cons_succ, Option.some.injEq, V.int.injEq, V.ref.injEq, V.str.injEq, V.bl.injEq, exists_eq_left', exists_eq_left, exists_and_left, decide_eq_true_eq, List.cons.injEq, and_true, true_and, scal, Bool.not_eq_true', decide_eq_false_iff_not, Nat.zero_add, Nat.reduceAdd, Nat.reduceSub, reduceCtorEq, false_and, exists_false, false_or, or_false, CPow, CMul, CDiv, Int.reduceToNat, ↓reduceIte, wipe, sw, List.nil_append, List.singleton_append])
local macro_rules | `(tactic| walk_at "st") => `(tactic| (refine seq_op fun N hN => ?_; walk_at "rs"))
local macro_rules | `(tactic| walk_at "sd") => `(tactic| first | assumption | decide | omega)
local macro_rules | `(tactic| walk_at "rd") => `(tactic| repeat (first
  | refine ⟨_, SqL.of (by assumption), ?_⟩ | refine ⟨_, SqL.of upd_same, ?_⟩ | refine ⟨_, .inl (SqL.of (by assumption)), ?_⟩ | refine ⟨_, (by assumption : _ = some (HO.lst _)), ?_⟩ | refine ⟨_, upd_same, ?_⟩
  | refine ⟨_, rfl, ?_⟩ | refine And.intro (by walk_at "sd") ?_))

theorem FIG_digit {c : Nat} (h : inS c FIGs = true) : 48 ≤ c ∧ c ≤ 57 := by
  have q : c ∈ FIGs.cps.toList := of_decide_eq_true h
  have e : FIGs.cps.toList = [48, 49, 50, 51, 52, 53, 54, 55, 56, 57] := by decide +kernel
  rw [e] at q
  simp only [List.mem_cons, List.mem_nil_iff, or_false] at q
  omega
theorem digitsVal_lt : ∀ (cs : List Nat) (a : Nat), NumText.AllDigits cs → cs.foldl (fun acc c => acc * 10 + (c - 48)) a < (a + 1) * 10 ^ cs.length
  | [], a, _ => by simp
  | c :: cs, a, h => by
    have hc := h.head
    have ih := digitsVal_lt cs (a * 10 + (c - 48)) h.tail
    show cs.foldl _ (a * 10 + (c - 48)) < _
    refine Nat.lt_of_lt_of_le ih ?_
    rw [List.length_cons, Nat.pow_succ, ← Nat.mul_assoc, Nat.mul_right_comm]
    exact Nat.mul_le_mul_right _ (by omega)
theorem log_small {n : Nat} (h : n < 10 ^ 60) : n.log2 < 1920 := by
  by_cases c : n = 0
  · subst c; decide
  · exact (Nat.log2_lt c).mpr (Nat.lt_of_lt_of_le h (by decide +kernel))
theorem int_figures {z : Str} (h1 : 1 ≤ (figures z).length ∧ (figures z).length ≤ 60) (h2 : ((figures z).cps.toList.all fun c => inS c FIGs) = true) (hz : z.length ≤ 100000) : ∃ n, intText? z = some n ∧ n.natAbs.log2 < 1920 ∧ z.length ≤ 640 := by
  have ad : NumText.AllDigits (figures z).cps.toList := fun c hc => FIG_digit (List.all_eq_true.mp h2 c hc)
  have ne : (figures z).cps.toList ≠ [] := fun e => by
    have l : (figures z).length = (figures z).cps.toList.length := by rw [Array.length_toList]; rfl
    rw [e] at l
    have := h1.1
    simp at l
    omega
  have lf : (figures z).cps.toList.length ≤ 60 := by rw [Array.length_toList]; exact h1.2
  have vl := digitsVal_lt (figures z).cps.toList 0 ad
  have vs : NumText.digitsVal (figures z).cps.toList < 10 ^ 60 := Nat.lt_of_lt_of_le vl (by rw [Nat.zero_add, Nat.one_mul]; exact Nat.pow_le_pow_right (by decide) lf)
  by_cases c : Txt.startswith z "-" = true
  · have e : figures z = cutS z (some 1) none := if_pos c
    obtain ⟨r, hr⟩ := starts_minus c
    have er : (figures z).cps.toList = r := by rw [e, cutS_tail, hr]; rfl
    rw [er] at ad ne vs lf
    have lz : z.length ≤ 61 := by rw [← len_cps, hr, List.length_cons]; omega
    refine ⟨_, intText_neg hr ad ne (by omega), ?_, by omega⟩
    rw [Int.natAbs_neg, Int.natAbs_natCast]
    exact log_small vs
  · have e : figures z = z := if_neg c
    rw [e] at ad ne vs h1
    refine ⟨_, intText_digits ad ne (by have := h1.2; omega), ?_, by have := h1.2; omega⟩
    rw [Int.natAbs_natCast]
    exact log_small vs
section
variable {P : Program} {w : World} {K : PySem.W.Frag} {mg : Str → Option Value} {base : Heap}
theorem ok_read_number (T : Txt w K mg) : FnOk P w K mg base CX0 1 T.a_read_number T.d_read_number ["word"] sp_read_number := by
  refine T.F_read_number.ok sc_read_number (fun vs H Q E h => ?_) (fun cdv A outer s H vs Q E hr h => ?_)
  · obtain ⟨z, rfl, _⟩ := h
    rfl
  · obtain ⟨z, rfl, hz, k⟩ := h
    refine ⟨_, (pss_cons (ps_set (i := 1) sc_read_number.nd rfl (Or.inl rfl) (pe_ifExp (pt_val (pe_m1 PySem.F.slot_str_startswith PySem.F.type_str_startswith mt_startswith (pv 0) pe_str)) (pe_slice sl_str (pv 0) (po_some pe_int) po_none) (pv 0)))
      (pss_cons (ps_if (PW.pt (pw_or (pt_not (pt_chain op_le op_le pe_int (pe_callB call_len_str (by rfl) T.n_len (by decide +kernel) (pa_cons (pv 1) pa_nil)) pe_int)) (pw_or1 (pt_not (pt_val (pe_callB (cr_all rfl) (by rfl) T.n_all (by decide +kernel) (pa_cons (pe_lc (own := [("sign", 3)]) (g := gName 3) (tt := tYes) rfl sc_read_number.nd (pi_str (pv 1)) (blkOk_by (own := [("sign", 3)]) (N := N_read_number) (sc := defScope s_read_number) (by decide +kernel)) (fun _ _ _ _ _ => pg_name (i := 3) sc_read_number.nd rfl (Or.inl rfl)) (fun _ _ _ _ _ => pts_nil) (fun _ _ _ _ _ => (pe_cmpR op_in_sign (pv 3) (pe_glob (v := .str FIGs) (by rfl) T.m_FIGURES ⟨_, rfl⟩) (by rfl)))) pa_nil))))))) (pss_one (ps_ret pe_non)) pss_nil)
      (pss_cons (ps_set (i := 2) sc_read_number.nd rfl (Or.inl rfl) (pe_callTy call_int_str (by rfl) T.n_int (by decide +kernel) (pa_cons (pv 0) pa_nil)))
      (pss_one (ps_ret (pe_ifExp (pt_cmpR op_eqS (pe_callTy call_str_int (by rfl) T.n_str (by decide +kernel) (pa_cons (pv 2) pa_nil)) (pv 0) (nomark _)) (pv 2) pe_non)))))), ?_⟩
    have hf : (figures z).length ≤ 100000 := by
      unfold figures
      split
      · refine Nat.le_trans ?_ hz
        unfold cutS
        show (List.toArray _).size ≤ _
        rw [List.size_toArray, List.length_take, List.length_drop, Array.length_toList]
        show _ ≤ z.cps.size
        omega
      · exact hz
    refine cut_seq (fun σ H2 => H2 = H ∧ σ = [some (.str z), some (.str (figures z)), none, none]) (fun N hN => ?_) ?_
    · walk_at "rs"
      refine ⟨⟨_, rfl⟩, ite2 (fun c => ⟨Nat.le_trans hz (by decide), ?_⟩) (fun c => ?_)⟩
      · exact hN _ _ ⟨rfl, by rw [figures, if_pos c]⟩
      · exact hN _ _ ⟨rfl, by rw [figures, if_neg c]⟩
    · rintro σ H2 ⟨rfl, rfl⟩
      refine cut_seq (fun σ H3 => Same H2 H3 ∧ σ = [some (.str z), some (.str (figures z)), none, none] ∧ (1 ≤ (figures z).length ∧ (figures z).length ≤ 60) ∧ ((figures z).cps.toList.all fun c => inS c FIGs) = true) (fun N hN => ?_) ?_
      · walk_at "rs"
        refine ⟨Nat.le_trans hf (by decide), ite2 (fun c1 => ite2 (fun c2 => ?_) (fun c2 => ?_)) (fun c1 => ?_)⟩
        · have := k H2 (Same.refl _)
          rw [readNum, if_neg (by omega)] at this
          exact this
        · refine ⟨_, rfl, _, rfl, fun D hD => lc_signs (z := figures z) (fun c => inS c FIGs) hD (by omega) ?_ ?_⟩
          · intro c H3 hc s3 Q2 h2
            walk_at "rs"
            exact ⟨c, rfl, h2 H3 (Same.refl _)⟩
          · intro H3 s3 hD3
            refine ⟨D, _, rfl, SqL.of hD3, _, rfl, ?_⟩
            rw [all_map_id]
            refine ite2 (fun e => ?_) (fun e => ?_)
            · have := k H3 s3
              rw [readNum, if_neg (by rw [e]; simp)] at this
              exact this
            · exact hN _ _ ⟨s3, rfl, ⟨by omega, by omega⟩, by simpa using e⟩
        · have := k H2 (Same.refl _)
          rw [readNum, if_neg (by omega)] at this
          exact this
      · rintro σ H3 ⟨s3, rfl, h1, h2⟩
        obtain ⟨n, e1, e2, e3⟩ := int_figures h1 h2 hz
        refine seq_op fun N hN => ?_
        walk_at "rs"
        refine ⟨_, e1, e3, hN _ _ ?_⟩
        clear hN N
        walk_at "rs"
        have := k H3 s3
        rw [readNum, if_pos ⟨h1, h2⟩, e1] at this
        refine ⟨e2, ite2 (fun e => ?_) (fun e => ?_)⟩
        · simp only [if_pos e] at this
          exact this
        · simp only [if_neg e] at this
          exact this
theorem ok_is_word_name (T : Txt w K mg) : FnOk P w K mg base CX0 1 T.a_is_word_name T.d_is_word_name ["value"] (spP K fun d => .bl (isWordD d)) := by
  refine T.F_is_word_name.ok sc_is_word_name (fun vs H Q E h => ?_) (fun cdv A outer s H vs Q E hr h => ?_)
  · obtain ⟨v, d, rfl, _⟩ := h
    rfl
  · obtain ⟨v, d, rfl, hd, hok, k⟩ := h
    replace k : ∀ H', Same H H' → Q (.bl (isWordD d)) H' := k
    refine ⟨_, (pss_cons (ps_if (PW.pt (pw_or (pt_not (pt_val (pe_callB (call_isiDK (K := K) rfl) (by rfl) T.n_isinstance (by decide +kernel) (pa_cons (pv 0) (pa_cons (pe_bltn (v := .ty "str") (u := .type "str") (by rfl) T.n_str (by decide +kernel) rfl) pa_nil))))) (pw_or1 (pt_not (pt_chain op_le op_le pe_int (pe_callB call_len_str (by rfl) T.n_len (by decide +kernel) (pa_cons (pv 0) pa_nil)) pe_int))))) (pss_one (ps_ret pe_bl)) pss_nil)
      (pss_one (ps_ret (pe_and (pe_cmpR op_in_sign (pe_ix ix_str (pv 0) pe_int (fun _ _ => rfl)) (pe_glob (v := .str LETs) (by rfl) T.m_LETTERS ⟨_, rfl⟩) (by rfl)) (pe_one (pe_callB (cr_all rfl) (by rfl) T.n_all (by decide +kernel) (pa_cons (pe_lc (own := [("sign", 1)]) (g := gName 1) (tt := tYes) rfl sc_is_word_name.nd (pi_str (pv 0)) (blkOk_by (own := [("sign", 1)]) (N := N_is_word_name) (sc := defScope s_is_word_name) (by decide +kernel)) (fun _ _ _ _ _ => pg_name (i := 1) sc_is_word_name.nd rfl (Or.inl rfl)) (fun _ _ _ _ _ => pts_nil) (fun _ _ _ _ _ => (pe_or (pe_cmpR op_in_sign (pv 1) (pe_glob (v := .str LETs) (by rfl) T.m_LETTERS ⟨_, rfl⟩) (by rfl)) (pe_one (pe_cmpR op_in_sign (pv 1) (pe_glob (v := .str FIGs) (by rfl) T.m_FIGURES ⟨_, rfl⟩) (by rfl)))))) pa_nil))))))), ?_⟩
    refine seq_op fun N hN => ?_
    walk_at "rs"
    refine ⟨v, "str", ⟨rfl, rfl⟩, d, hd, by simp, ?_⟩
    have k0 := k H (Same.refl _)
    cases hd with
    | str z =>
      have hz : z.length ≤ 100000 := of_decide_eq_true hok
      have lz := len_cps z
      refine iteFF (by simp [isTy]) ⟨z, rfl, Nat.le_trans hz (by decide), ite2 (fun c1 => ite2 (fun c2 => ?_) (fun c2 => ?_)) (fun c1 => ?_)⟩
      · have e : isWordS z = false := by
          unfold isWordS
          split
          · rfl
          · rw [decide_eq_false (by omega), Bool.false_and]
        show Q (.bl false) H
        rw [← e]; exact k0
      · refine hN _ _ ?_
        clear hN N
        obtain ⟨c, r, ec⟩ : ∃ c r, z.cps.toList = c :: r := by
          cases hc : z.cps.toList with
          | nil => rw [hc] at lz; simp at lz; omega
          | cons c r => exact ⟨c, r, rfl⟩
        have e : isWordS z = (inS c LETs && (c :: r).all fun c => inS c LETs || inS c FIGs) := by
          unfold isWordS
          rw [ec]
          show (decide (z.length ≤ 6) && _) = _
          rw [decide_eq_true (by omega), Bool.true_and]
        walk_at "rs"
        refine ⟨Nat.le_trans hz (by decide), c, at_ofN (j := 0) rfl (by rw [ec]; rfl), c, rfl, ite2 (fun e1 => ?_) (fun e1 => ?_)⟩
        · refine ⟨_, rfl, _, rfl, fun D hD => lc_signs (z := z) (fun c => inS c LETs || inS c FIGs) hD (by omega) ?_ ?_⟩
          · intro c H3 hc s3 Q2 h2
            walk_at "rs"
            refine ⟨c, rfl, ite2 (fun e2 => ?_) (fun e2 => ⟨c, rfl, ?_⟩)⟩
            · have := h2 H3 (Same.refl _)
              have q : inS c LETs = true := decide_eq_true e2
              rw [q, Bool.true_or] at this
              exact this
            · have := h2 H3 (Same.refl _)
              have q : inS c LETs = false := decide_eq_false e2
              rw [q, Bool.false_or] at this
              exact this
          · intro H3 s3 hD3
            refine ⟨D, _, rfl, SqL.of hD3, ?_⟩
            rw [all_map_id]
            have := k H3 s3
            have q : isWordD (.str z) = ((c :: r).all fun c => inS c LETs || inS c FIGs) := by
              show isWordS z = _
              rw [e, show inS c LETs = true from decide_eq_true e1, Bool.true_and]
            rw [q, ← ec] at this
            exact this
        · have q : isWordD (.str z) = false := by
            show isWordS z = _
            rw [e, show inS c LETs = false from decide_eq_false e1, Bool.false_and]
          rw [q] at k0
          exact k0
      · have e : isWordS z = false := by
          unfold isWordS
          split
          · rfl
          · rename_i c r ec
            rw [ec] at lz
            simp at lz
            omega
        show Q (.bl false) H
        rw [← e]; exact k0
    | non => exact iteTT (by simp [isTy]) k0
    | bl b => exact iteTT (by simp [isTy]) k0
    | int i => exact iteTT (by simp [isTy]) k0
    | lst hs ha => exact iteTT (by simp [isTy]) k0
    | tup hs ha => exact iteTT (by simp [isTy]) k0
theorem ok_is_own_name (T : Txt w K mg) : FnOk P w K mg base CX0 2 T.a_is_own_name T.d_is_own_name ["value"] (spP K fun d => .bl (isOwnD d)) := by
  refine T.F_is_own_name.ok sc_is_own_name (fun vs H Q E h => ?_) (fun cdv A outer s H vs Q E hr h => ?_)
  · obtain ⟨v, d, rfl, _⟩ := h
    rfl
  · obtain ⟨v, d, rfl, hd, hok, k⟩ := h
    replace k : ∀ H', Same H H' → Q (.bl (isOwnD d)) H' := k
    have hr_is_word_name : Room 1 _ := hr.mono (by decide)
    have G_is_word_name := ok_is_word_name (P := P) (base := base) T
    refine ⟨_, (pss_one (ps_ret (pe_and (pe_call G_is_word_name hr_is_word_name (by rfl) T.m_is_word_name T.F_is_word_name.kp T.B_is_word_name .nil pass0 (pa_cons (pv 0) pa_nil)) (pe_one (pe_cmpR op_notIn_seq (pv 0) (pe_glob (v := .ref T.a_RESERVED) (by rfl) T.m_RESERVED rfl) (by rfl)))))), ?_⟩
    walk_at "rs"
    refine ⟨v, d, rfl, hd, hok, fun H1 s1 => ⟨_, rfl, ite2 (fun e => ?_) (fun e => ?_)⟩⟩
    · obtain ⟨z, rfl⟩ : ∃ z, d = .str z := by cases d <;> first | exact ⟨_, rfl⟩ | simp [isWordD] at e
      cases hd
      refine ⟨keptV, .inr (T.s_RESERVED _), rfl, by decide +kernel, ?_⟩
      have q : isOwnD (.str z) = !inV (.str z) keptV := by
        show (isWordS z && _) = _
        rw [show isWordS z = true from e, Bool.true_and]
      have := k H1 s1
      rw [q] at this
      exact this
    · have q : isOwnD d = false := by
        cases d <;> try rfl
        show (isWordS _ && _) = _
        rw [show isWordS _ = false from by simpa [isWordD] using e, Bool.false_and]
      have := k H1 s1
      rw [q] at this
      exact this
theorem ok_is_name (T : Txt w K mg) : FnOk P w K mg base CX0 3 T.a_is_name T.d_is_name ["value"] (spP K fun d => .bl (isNameD d)) := by
  refine T.F_is_name.ok sc_is_name (fun vs H Q E h => ?_) (fun cdv A outer s H vs Q E hr h => ?_)
  · obtain ⟨v, d, rfl, _⟩ := h
    rfl
  · obtain ⟨v, d, rfl, hd, hok, k⟩ := h
    replace k : ∀ H', Same H H' → Q (.bl (isNameD d)) H' := k
    have hr_is_own_name : Room 2 _ := hr.mono (by decide)
    have G_is_own_name := ok_is_own_name (P := P) (base := base) T
    refine ⟨_, (pss_one (ps_ret (pe_or (pe_call G_is_own_name hr_is_own_name (by rfl) T.m_is_own_name T.F_is_own_name.kp T.B_is_own_name .nil pass0 (pa_cons (pv 0) pa_nil)) (pe_one (pe_and (pe_callB (call_isiDK (K := K) rfl) (by rfl) T.n_isinstance (by decide +kernel) (pa_cons (pv 0) (pa_cons (pe_bltn (v := .ty "str") (u := .type "str") (by rfl) T.n_str (by decide +kernel) rfl) pa_nil))) (pe_one (pe_cmpR op_in_seq (pv 0) (pe_glob (v := .ref T.a_GIVEN) (by rfl) T.m_GIVEN rfl) (by rfl)))))))), ?_⟩
    walk_at "rs"
    refine ⟨v, d, rfl, hd, hok, fun H1 s1 => ⟨_, rfl, ite2 (fun e => ?_) (fun e => ?_)⟩⟩
    · obtain ⟨z, rfl⟩ : ∃ z, d = .str z := by cases d <;> first | exact ⟨_, rfl⟩ | simp [isOwnD] at e
      have := k H1 s1
      rw [show isNameD (.str z) = true from by show (isOwnD (.str z) || _) = true; rw [e, Bool.true_or]] at this
      exact this
    · refine ⟨v, "str", ⟨rfl, rfl⟩, d, dp_same s1 hd, by simp, ?_⟩
      have k1 := k H1 s1
      cases hd with
      | str z =>
        refine iteTT (by simp [isTy]) ⟨givenV, .inr (T.s_GIVEN _), rfl, by decide +kernel, ?_⟩
        rw [show isNameD (.str z) = inV (.str z) givenV from by show (isOwnD (.str z) || _) = _; rw [show isOwnD (.str z) = false from by simpa using e, Bool.false_or]] at k1
        exact k1
      | non => exact iteFF (by simp [isTy]) k1
      | bl b => exact iteFF (by simp [isTy]) k1
      | int i => exact iteFF (by simp [isTy]) k1
      | lst hs ha => exact iteFF (by simp [isTy]) k1
      | tup hs ha => exact iteFF (by simp [isTy]) k1
theorem ok_is_integer_word (T : Txt w K mg) : FnOk P w K mg base CX0 2 T.a_is_integer_word T.d_is_integer_word ["word", "least", "greatest"] sp_is_integer_word := by
  refine T.F_is_integer_word.ok sc_is_integer_word (fun vs H Q E h => ?_) (fun cdv A outer s H vs Q E hr h => ?_)
  · obtain ⟨z, a, b, rfl, _⟩ := h
    rfl
  · obtain ⟨z, a, b, rfl, hz, k⟩ := h
    have hr_read_number : Room 1 _ := hr.mono (by decide)
    have G_read_number := ok_read_number (P := P) (base := base) T
    refine ⟨_, (pss_cons (ps_set (i := 3) sc_is_integer_word.nd rfl (Or.inl rfl) (pe_call G_read_number hr_read_number (by rfl) T.m_read_number T.F_read_number.kp T.B_read_number .nil pass0 (pa_cons (pv 0) pa_nil)))
      (pss_one (ps_ret (pe_and (pe_cmpR op_notN (pv 3) pe_non (nomark _)) (pe_one (pe_chain op_le op_le (pv 1) (pv 3) (pv 2))))))), ?_⟩
    refine seq_op fun N hN => ?_
    walk_at "rs"
    refine ⟨z, rfl, hz, fun H1 s1 => hN _ _ ?_⟩
    clear hN N
    have k1 := k H1 s1
    unfold isInt at k1
    walk_at "rs"
    cases e : readNum z with
    | none =>
      rw [e] at k1
      exact iteFF (by simp [optI]) k1
    | some n =>
      rw [e] at k1
      refine iteTT (by simp [optI]) ⟨n, rfl, ite2 (fun c => ⟨n, rfl, ?_⟩) (fun c => ?_)⟩
      · simp only [decide_eq_true c, Bool.true_and] at k1
        exact k1
      · simp only [decide_eq_false c, Bool.false_and] at k1
        exact k1
end
end LK

set_option Elab.async false
set_option linter.all false
set_option maxRecDepth 100000
namespace LK
open PySem PySem.Spec PyProof.Rows L2
local macro_rules | `(tactic| walk_at "rs") => `(tactic| simp only [cxK, cxNK, tCallZ, tAsg, tOp, rI0, rS0, rB0, rI, rU, tUn, rEq, rNe, rIxL, rIxT, rIxS, rSetL, rSlLU, rSlS, rSlU, rCatL, rCatU, rRepL, rIn, tVar, tC, gName, gSub, tIfS, tTest, tB, tAnd, tOr, tNot, tNotV, tAndV, tOrV, tIf, tCall, tCons, tNil, tCB, tDrop, tRet, tRetN, tNext, tLstU, tTupU, tM0, tM1, tPar, tPar3, tAug, ipI, tBM, tBM0, rAppend, rPop, tBreak, tCont, tChain, tSl, tPart, tNoPart, L2.start, List.map, List.length_cons, List.length_nil, List.replicate, List.cons_append, List.nil_append, List.append_nil, List.getElem?_cons_zero, List.getElem?_cons_succ, List.set_cons_zero, List.set_cons_succ, Option.some.injEq, V.int.injEq, V.ref.injEq, V.str.injEq, V.bl.injEq, exists_eq_left', exists_eq_left, exists_and_left, decide_eq_true_eq, List.cons.injEq, and_true, true_and, scal, Bool.not_eq_true', decide_eq_false_iff_not, Nat.zero_add, Nat.reduceAdd, Nat.reduceSub, reduceCtorEq, false_and, exists_false, false_or, or_false, CPow, CMul, CDiv, Int.reduceToNat, ↓reduceIte, wipe, sw, List.nil_append, List.singleton_append])
local macro_rules | `(tactic| walk_at "st") => `(tactic| (refine seq_op fun N hN => ?_; walk_at "rs"))
local macro_rules | `(tactic| walk_at "sd") => `(tactic| first | assumption | decide | omega)
local macro_rules | `(tactic| walk_at "rd") => `(tactic| repeat (first
  | refine ⟨_, SqL.of (by assumption), ?_⟩ | refine ⟨_, SqL.of upd_same, ?_⟩ | refine ⟨_, .inl (SqL.of (by assumption)), ?_⟩ | refine ⟨_, (by assumption : _ = some (HO.lst _)), ?_⟩ | refine ⟨_, upd_same, ?_⟩
  | refine ⟨_, rfl, ?_⟩ | refine And.intro (by walk_at "sd") ?_))

section
variable {P : Program} {w : World} {K : PySem.W.Frag} {mg : Str → Option Value} {base : Heap}
theorem opt_OPERANDS (T : Txt w K mg) (z : Str) : ∃ r, PySem.W.nsIn K T.a_OPERANDS z = some r ∧ RelV (optS (opsOf z)) (r.getD .none) := by
  obtain ⟨r, e1, e2⟩ := T.g_OPERANDS z
  refine ⟨r, e1, ?_⟩
  cases r with
  | none =>
    have e3 : opsOf z = none := e2
    rw [e3]; rfl
  | some u =>
    obtain ⟨y, e3, e4⟩ := e2
    rw [e3]; exact e4
theorem ok_operands_behind (T : Txt w K mg) : FnOk P w K mg base CX0 4 T.a_operands_behind T.d_operands_behind ["word", "kind"] (sp_operands_behind K) := by
  refine T.F_operands_behind.ok sc_operands_behind (fun vs H Q E h => ?_) (fun cdv A outer s H vs Q E hr h => ?_)
  · obtain ⟨v, d, k, rfl, _⟩ := h
    rfl
  · obtain ⟨v, d, kd, rfl, hd, hok, k⟩ := h
    have hr_is_name : Room 3 _ := hr.mono (by decide)
    have G_is_name := ok_is_name (P := P) (base := base) T
    have hr_is_integer_word : Room 2 _ := hr.mono (by decide)
    have G_is_integer_word := ok_is_integer_word (P := P) (base := base) T
    refine ⟨_, (pss_cons (ps_if (pt_not (pt_val (pe_callB (call_isiDK (K := K) rfl) (by rfl) T.n_isinstance (by decide +kernel) (pa_cons (pv 0) (pa_cons (pe_bltn (v := .ty "str") (u := .type "str") (by rfl) T.n_str (by decide +kernel) rfl) pa_nil))))) (pss_one (ps_ret pe_non)) pss_nil)
      (pss_cons (ps_if (pt_cmpR op_eqS (pv 1) pe_str (nomark _)) (pss_one (ps_ret (pe_ifExp (pt_val (pe_call G_is_integer_word hr_is_integer_word (by rfl) T.m_is_integer_word T.F_is_integer_word.kp T.B_is_integer_word .nil pass0 (pa_cons (pv 0) (pa_cons pe_int (pa_cons pe_int pa_nil))))) pe_str pe_non))) pss_nil)
      (pss_cons (ps_if (PW.pt (pw_or (pt_val (pe_call G_is_name hr_is_name (by rfl) T.m_is_name T.F_is_name.kp T.B_is_name .nil pass0 (pa_cons (pv 0) pa_nil))) (pw_or1 (pt_val (pe_call G_is_integer_word hr_is_integer_word (by rfl) T.m_is_integer_word T.F_is_integer_word.kp T.B_is_integer_word .nil pass0 (pa_cons (pv 0) (pa_cons (pe_un un_neg pe_int) (pa_cons pe_int pa_nil)))))))) (pss_one (ps_ret pe_str)) pss_nil)
      (pss_one (ps_ret (pe_wget T.D_OPERANDS (pe_glob (v := .ref T.a_OPERANDS) (by rfl) T.m_OPERANDS rfl) (pv 0))))))), ?_⟩
    have k0 := k H (Same.refl _)
    refine seq_op fun N hN => ?_
    walk_at "rs"
    refine ⟨v, "str", ⟨rfl, rfl⟩, d, hd, by simp, ?_⟩
    cases hd with
    | str z =>
      have hz : z.length ≤ 100000 := of_decide_eq_true hok
      refine iteFF (by simp [isTy]) (hN _ _ ?_)
      clear hN N
      refine seq_op fun N hN => ?_
      walk_at "rs"
      refine ite2 (fun e => ?_) (fun e => hN _ _ ?_)
      · refine ⟨z, 1, 9, rfl, hz, fun H1 s1 => ⟨_, rfl, ?_⟩⟩
        have k1 := k H1 s1
        simp only [opsBehind, if_pos e] at k1
        refine ite2 (fun c => ?_) (fun c => ?_)
        · rw [if_pos c] at k1; exact k1
        · rw [if_neg c] at k1; exact k1
      · clear hN N
        refine seq_op fun N hN => ?_
        walk_at "rs"
        refine ⟨_, _, rfl, .str z, hok, fun H1 s1 => ⟨_, rfl, ite2 (fun c => ?_) (fun c => ?_)⟩⟩
        · have k1 := k H1 s1
          simp only [opsBehind, if_neg e] at k1
          rw [if_pos (by rw [c, Bool.true_or])] at k1
          exact k1
        · refine ⟨z, -9, 9, rfl, hz, fun H2 s2 => ⟨_, rfl, ite2 (fun c2 => ?_) (fun c2 => hN _ _ ?_)⟩⟩
          · have k1 := k H2 (Same.trans s1 s2)
            simp only [opsBehind, if_neg e] at k1
            rw [if_pos (by rw [c2, Bool.or_true])] at k1
            exact k1
          · clear hN N
            obtain ⟨r, e1, e2⟩ := opt_OPERANDS T z
            have k1 := k H2 (Same.trans s1 s2)
            simp only [opsBehind, if_neg e] at k1
            rw [if_neg (by simp only [Bool.not_eq_true] at c c2; rw [c, c2]; simp)] at k1
            walk_at "rs"
            exact ⟨rfl, _, rfl, z, r, _, rfl, e1, e2, k1⟩
    | non => exact iteTT (by simp [isTy]) k0
    | bl b => exact iteTT (by simp [isTy]) k0
    | int i => exact iteTT (by simp [isTy]) k0
    | lst hs ha => exact iteTT (by simp [isTy]) k0
    | tup hs ha => exact iteTT (by simp [isTy]) k0
theorem lookup_mem2 {α β : Type} [BEq α] {k : α} {v : β} : ∀ {l : List (α × β)}, l.lookup k = some v → ∃ p ∈ l, p.2 = v
  | [], h => by simp at h
  | (a, b) :: r, h => by
    rw [List.lookup_cons] at h
    split at h
    · cases h; exact ⟨_, List.mem_cons_self, rfl⟩
    · obtain ⟨p, hp, e⟩ := lookup_mem2 h
      exact ⟨p, List.mem_cons_of_mem _ hp, e⟩
theorem isExpr_tup (ds : List PyData) : isExpr (.tuple ds) = (decide (1 ≤ ds.length) && decide (ds.length ≤ 30) && walkE "e" ds) := rfl
theorem walkE_cons (wd : Str) (d : PyData) (r : List PyData) : walkE wd (d :: r) = (if wd = "" then false else match opsBehind d (head1 wd) with
    | none => false
    | some o => walkE (o ++ cutS wd (some 1) none) r) := rfl
theorem opsOf_len {z o : Str} (h : opsOf z = some o) : o.length ≤ 3 := by
  have q : ∀ p ∈ opsTab, p.2.length ≤ 3 := by decide +kernel
  have m : ∃ p ∈ opsTab, p.2 = o := by
    unfold opsOf at h
    exact lookup_mem2 h
  obtain ⟨p, hp, rfl⟩ := m
  exact q p hp
theorem opsBehind_len {d : PyData} {k o : Str} (h : opsBehind d k = some o) : o.length ≤ 3 := by
  unfold opsBehind at h
  split at h
  · split at h
    · split at h
      · cases h; decide
      · cases h
    · split at h
      · cases h; decide
      · exact opsOf_len h
  · cases h
theorem dpa_get {H : Hp} : ∀ {vs : List V} {ds : List PyData} {i : Nat} {v : V}, DpAll K H vs ds → vs[i]? = some v → ∃ d, ds[i]? = some d ∧ Dp K H v d
  | _, _, _, _, .nil, e => by simp at e
  | _, _, 0, _, .cons r _, e => by simp at e; subst e; exact ⟨_, rfl, r⟩
  | _, _, i + 1, _, .cons _ t, e => by
    obtain ⟨d, h1, h2⟩ := dpa_get (i := i) t (by simpa using e)
    exact ⟨d, by simpa using h1, h2⟩
theorem dpa_len {H : Hp} : ∀ {vs : List V} {ds : List PyData}, DpAll K H vs ds → vs.length = ds.length
  | _, _, .nil => rfl
  | _, _, .cons _ t => by simp [dpa_len t]
theorem ok_get : ∀ {ds : List PyData} {i : Nat} {d : PyData}, okAll ds = true → ds[i]? = some d → okD d = true
  | [], _, _, _, e => by simp at e
  | a :: r, 0, _, h, e => by
    simp at e; subst e
    unfold okAll at h; rw [Bool.and_eq_true] at h; exact h.1
  | a :: r, i + 1, _, h, e => by
    unfold okAll at h; rw [Bool.and_eq_true] at h
    exact ok_get (i := i) h.2 (by simpa using e)
theorem ok_is_expression (T : Txt w K mg) : FnOk P w K mg base CX0 5 T.a_is_expression T.d_is_expression ["value"] (spP K fun d => .bl (isExpr d)) := by
  refine T.F_is_expression.ok sc_is_expression (fun vs H Q E h => ?_) (fun cdv A outer s H vs Q E hr h => ?_)
  · obtain ⟨v, d, rfl, _⟩ := h
    rfl
  · obtain ⟨v, d, rfl, hd, hok, k⟩ := h
    replace k : ∀ H', Same H H' → Q (.bl (isExpr d)) H' := k
    have hr_operands_behind : Room 4 _ := hr.mono (by decide)
    have G_operands_behind := ok_operands_behind (P := P) (base := base) T
    refine ⟨_, (pss_cons (ps_if (PW.pt (pw_or (pt_not (pt_val (pe_callB (call_isiDK (K := K) rfl) (by rfl) T.n_isinstance (by decide +kernel) (pa_cons (pv 0) (pa_cons (pe_bltn (v := .ty "tuple") (u := .type "tuple") (by rfl) T.n_tuple (by decide +kernel) rfl) pa_nil))))) (pw_or1 (pt_not (pt_chain op_le op_le pe_int (pe_callB call_len_seq (by rfl) T.n_len (by decide +kernel) (pa_cons (pv 0) pa_nil)) (pe_glob (v := .int 30) (by rfl) T.m_MOST_WORDS ⟨_, rfl⟩)))))) (pss_one (ps_ret pe_bl)) pss_nil)
      (pss_cons (ps_set (i := 1) sc_is_expression.nd rfl (Or.inl rfl) pe_str)
      (pss_cons (ps_for PassesOwn.never rfl (pi_tup (pv 0)) (pg_name (i := 2) sc_is_expression.nd rfl (Or.inl rfl)) (pss_cons (ps_if (pt_cmpR op_eqS (pv 1) pe_str (nomark _)) (pss_one (ps_ret pe_bl)) pss_nil)
      (pss_cons (ps_set (i := 3) sc_is_expression.nd rfl (Or.inl rfl) (pe_call G_operands_behind hr_operands_behind (by rfl) T.m_operands_behind T.F_operands_behind.kp T.B_operands_behind .nil pass0 (pa_cons (pv 2) (pa_cons (pe_ix ix_str (pv 1) pe_int (fun _ _ => rfl)) pa_nil))))
      (pss_cons (ps_if (pt_cmpR op_isN (pv 3) pe_non (nomark _)) (pss_one (ps_ret pe_bl)) pss_nil)
      (pss_one (ps_set (i := 1) sc_is_expression.nd rfl (Or.inl rfl) (pe_op op_add_str (pv 3) (pe_slice sl_str (pv 1) (po_some pe_int) po_none))))))))
      (pss_one (ps_ret (pe_cmpR op_eqS (pv 1) pe_str (nomark _))))))), ?_⟩
    have k0 := k H (Same.refl _)
    refine seq_op fun N hN => ?_
    walk_at "rs"
    refine ⟨v, "tuple", ⟨rfl, rfl⟩, d, hd, by simp, ?_⟩
    cases hd with
    | @tup a xs ds hs ha =>
      have hl := dpa_len ha
      refine iteFF (by simp [isTy]) ⟨a, rfl, xs, .inr hs, ite2 (fun c1 => ite2 (fun c2 => ?_) (fun c2 => hN _ _ ?_)) (fun c1 => ?_)⟩
      · have e : isExpr (.tuple ds) = false := by
          rw [isExpr_tup]
          rw [decide_eq_false (p := ds.length ≤ 30) (by omega), Bool.and_false, Bool.false_and]
        rw [e] at k0; exact k0
      · clear hN N
        have e : isExpr (.tuple ds) = walkE "e" ds := by
          rw [isExpr_tup]
          rw [decide_eq_true (p := 1 ≤ ds.length) (by omega), decide_eq_true (p := ds.length ≤ 30) (by omega), Bool.true_and, Bool.true_and]
        rw [e] at k
        clear k0 e
        refine seq_op fun N hN => ?_
        walk_at "rs"
        refine hN _ _ ?_
        clear hN N
        have oka : okAll ds = true := (okD_tup.mp hok).2
        refine cut_seq (fun σ H2 => ∃ (wd : Str) (x y : Option V), σ = [some (.ref a), some (.str wd), x, y] ∧ walkE wd [] = walkE "e" ds ∧ Same H H2) (fun N hN => ?_) ?_
        · refine ⟨_, rfl, a, rfl, ⟨_, hs⟩, for_tup (K := K) (a := a) (xs := xs) (fun i σ H2 => ∃ (wd : Str) (x y : Option V), σ = [some (.ref a), some (.str wd), x, y] ∧ walkE wd (ds.drop i) = walkE "e" ds ∧ wd.length ≤ 1 + 3 * i ∧ Same H H2) ⟨_, none, none, rfl, rfl, by decide, Same.refl _⟩ (fun i σ H2 _ ⟨_, _, _, _, _, _, s2⟩ => Same.seqT s2 hs) ?_ ?_⟩
          · rintro i y σ H2 hi ⟨wd, x, y2, rfl, hw, hwl, s2⟩
            obtain ⟨d, hd, hv⟩ := dpa_get ha hi
            have hdk := ok_get oka hd
            have hil : i < ds.length := (List.getElem?_eq_some_iff.mp hd).1
            have ed : ds.drop i = d :: ds.drop (i + 1) := by
              rw [List.drop_eq_getElem_cons hil]
              rw [(List.getElem?_eq_some_iff.mp hd).2]
            rw [ed] at hw
            have k2 := fun H' (s : Same H2 H') => k H' (Same.trans s2 s)
            refine seq_op fun N2 hN2 => ?_
            walk_at "rs"
            refine ite2 (fun c => ?_) (fun c => hN2 _ _ ?_)
            · have := k2 H2 (Same.refl _)
              rw [← hw] at this
              subst c
              exact this
            · clear hN2 N2
              refine seq_op fun N2 hN2 => ?_
              walk_at "rs"
              have wl : 1 ≤ wd.cps.toList.length := by
                rcases Nat.eq_zero_or_pos wd.cps.toList.length with q | q
                · exact absurd (PyProof.Rows.ext_toList (by rw [List.eq_nil_of_length_eq_zero q]; rfl)) c
                · exact q
              obtain ⟨ch, cr, ec⟩ : ∃ ch cr, wd.cps.toList = ch :: cr := by
                cases hc : wd.cps.toList with
                | nil => rw [hc] at wl; simp at wl
                | cons ch cr => exact ⟨ch, cr, rfl⟩
              have eh : head1 wd = ⟨#[ch]⟩ := by unfold head1; rw [ec]; rfl
              have hl30 : ds.length ≤ 30 := by omega
              have big : wd.length ≤ 100 := by omega
              refine ⟨Nat.le_trans big (by decide), ch, at_ofN (j := 0) rfl (by rw [ec]; rfl), _, d, _, rfl, dp_same s2 hv, hdk, fun H3 s3 => hN2 _ _ ?_⟩
              clear hN2 N2
              rw [walkE_cons, if_neg c, eh] at hw
              have k3 := k2 H3 s3
              cases eo : opsBehind d ⟨#[ch]⟩ with
              | none =>
                rw [eo] at hw
                refine seq_op fun N2 hN2 => ?_
                walk_at "rs"
                rw [← hw] at k3
                exact k3
              | some o =>
                rw [eo] at hw
                have ol := opsBehind_len eo
                refine seq_op fun N2 hN2 => ?_
                walk_at "rs"
                refine hN2 _ _ ?_
                clear hN2 N2
                walk_at "rs"
                have cl := cutS_tail_len wd
                refine ⟨Nat.le_trans big (by decide), o, rfl, Nat.le_trans (show _ ≤ 200 by omega) (by decide), _, _, _, ⟨rfl, rfl, rfl⟩, hw, ?_, Same.trans s2 s3⟩
                rw [str_append_len]
                omega
          · rintro σ H2 ⟨wd, x, y, rfl, hw, _, s2⟩
            refine hN _ _ ⟨wd, x, y, rfl, ?_, s2⟩
            rw [List.drop_eq_nil_of_le (by omega)] at hw
            exact hw
        · rintro σ H2 ⟨wd, x, y, rfl, hw, s2⟩
          walk_at "rs"
          have := k H2 s2
          rw [← hw] at this
          exact this
      · have e : isExpr (.tuple ds) = false := by
          rw [isExpr_tup]
          rw [decide_eq_false (p := 1 ≤ ds.length) (by omega), Bool.false_and, Bool.false_and]
        rw [e] at k0; exact k0
    | non => exact iteTT (by simp [isTy]) k0
    | bl b => exact iteTT (by simp [isTy]) k0
    | int i => exact iteTT (by simp [isTy]) k0
    | lst hs ha => exact iteTT (by simp [isTy]) k0
    | str z => exact iteTT (by simp [isTy]) k0
end
end LK

set_option Elab.async false
set_option linter.all false
set_option maxRecDepth 100000
namespace LK
open PySem PySem.Spec PyProof.Rows L2
local macro_rules | `(tactic| walk_at "rs") => `(tactic| simp only [cxK, cxNK, tCallZ, tAsg, tOp, rI0, rS0, rB0, rI, rU, tUn, rEq, rNe, rIxL, rIxT, rIxS, rSetL, rSlLU, rSlS, rSlU, rCatL, rCatU, rRepL, rIn, tVar, tC, gName, gSub, tIfS, tTest, tB, tAnd, tOr, tNot, tNotV, tAndV, tOrV, tIf, tCall, tCons, tNil, tCB, tDrop, tRet, tRetN, tNext, tLstU, tTupU, tM0, tM1, tPar, tPar3, tAug, ipI, tBM, tBM0, rAppend, rPop, tBreak, tCont, tChain, tSl, tPart, tNoPart, L2.start, List.map, List.length_cons, List.length_nil, List.replicate, List.cons_append, List.nil_append, List.append_nil, List.getElem?_cons_zero, List.getElem?_cons_succ, List.set_cons_zero, List.set_cons_succ, Option.some.injEq, V.int.injEq, V.ref.injEq, V.str.injEq, V.bl.injEq, exists_eq_left', exists_eq_left, exists_and_left, decide_eq_true_eq, List.cons.injEq, and_true, true_and, scal, Bool.not_eq_true', decide_eq_false_iff_not, Nat.zero_add, Nat.reduceAdd, Nat.reduceSub, reduceCtorEq, false_and, exists_false, false_or, or_false, CPow, CMul, CDiv, Int.reduceToNat, ↓reduceIte, wipe, sw, List.nil_append, List.singleton_append])
local macro_rules | `(tactic| walk_at "st") => `(tactic| (refine seq_op fun N hN => ?_; walk_at "rs"))
local macro_rules | `(tactic| walk_at "sd") => `(tactic| first | assumption | decide | omega)
local macro_rules | `(tactic| walk_at "rd") => `(tactic| repeat (first
  | refine ⟨_, SqL.of (by assumption), ?_⟩ | refine ⟨_, SqL.of upd_same, ?_⟩ | refine ⟨_, .inl (SqL.of (by assumption)), ?_⟩ | refine ⟨_, (by assumption : _ = some (HO.lst _)), ?_⟩ | refine ⟨_, upd_same, ?_⟩
  | refine ⟨_, rfl, ?_⟩ | refine And.intro (by walk_at "sd") ?_))

/-! ### the two ways of judging an expression agree -/
def opsL (d : PyData) (c : Nat) : Option (List Nat) := (opsBehind d ⟨#[c]⟩).map fun o => o.cps.toList
def walkL : List Nat → List PyData → Bool
  | [], [] => true
  | _ :: _, [] => false
  | [], _ :: _ => false
  | c :: w, d :: r => match opsL d c with
    | none => false
    | some o => walkL (o ++ w) r
theorem str_ext {a b : Str} (h : a.cps.toList = b.cps.toList) : a = b := by
  cases a; cases b
  congr 1
  exact Array.toList_inj.mp h
theorem walkE_L : ∀ (ds : List PyData) (w : Str), walkE w ds = walkL w.cps.toList ds
  | [], w => by
    rcases e : w.cps.toList with _ | ⟨c, l⟩
    · have q : w = "" := str_ext (by rw [e]; rfl)
      simp only [walkE, walkL, q, decide_true]
    · have q : w ≠ "" := fun z => by rw [z] at e; cases e
      simp only [walkE, walkL]
      exact decide_eq_false q
  | d :: r, w => by
    rcases e : w.cps.toList with _ | ⟨c, l⟩
    · have q : w = "" := str_ext (by rw [e]; rfl)
      simp only [walkE, walkL, q, if_true]
    · have q : w ≠ "" := fun z => by rw [z] at e; cases e
      have h1 : head1 w = ⟨#[c]⟩ := by unfold head1; rw [e]; rfl
      simp only [walkE, walkL, if_neg q, h1, opsL]
      cases opsBehind d ⟨#[c]⟩ with
      | none => rfl
      | some o =>
        show walkE _ r = walkL _ r
        rw [walkE_L r, str_append, cutS_tail, e]
        rfl
end LK

set_option Elab.async false
set_option linter.all false
set_option maxRecDepth 100000
namespace LK
open PySem PySem.Spec PyProof.Rows L2
local macro_rules | `(tactic| walk_at "rs") => `(tactic| simp only [cxK, cxNK, tCallZ, tAsg, tOp, rI0, rS0, rB0, rI, rU, tUn, rEq, rNe, rIxL, rIxT, rIxS, rSetL, rSlLU, rSlS, rSlU, rCatL, rCatU, rRepL, rIn, tVar, tC, gName, gSub, tIfS, tTest, tB, tAnd, tOr, tNot, tNotV, tAndV, tOrV, tIf, tCall, tCons, tNil, tCB, tDrop, tRet, tRetN, tNext, tLstU, tTupU, tM0, tM1, tPar, tPar3, tAug, ipI, tBM, tBM0, rAppend, rPop, tBreak, tCont, tChain, tSl, tPart, tNoPart, L2.start, List.map, List.length_cons, List.length_nil, List.replicate, List.cons_append, List.nil_append, List.append_nil, List.getElem?_cons_zero, List.getElem?_cons_succ, List.set_cons_zero, List.set_cons_succ, Option.some.injEq, V.int.injEq, V.ref.injEq, V.str.injEq, V.bl.injEq, exists_eq_left', exists_eq_left, exists_and_left, decide_eq_true_eq, List.cons.injEq, and_true, true_and, scal, Bool.not_eq_true', decide_eq_false_iff_not, Nat.zero_add, Nat.reduceAdd, Nat.reduceSub, reduceCtorEq, false_and, exists_false, false_or, or_false, CPow, CMul, CDiv, Int.reduceToNat, ↓reduceIte, wipe, sw, List.nil_append, List.singleton_append])
local macro_rules | `(tactic| walk_at "st") => `(tactic| (refine seq_op fun N hN => ?_; walk_at "rs"))
local macro_rules | `(tactic| walk_at "sd") => `(tactic| first | assumption | decide | omega)
local macro_rules | `(tactic| walk_at "rd") => `(tactic| repeat (first
  | refine ⟨_, SqL.of (by assumption), ?_⟩ | refine ⟨_, SqL.of upd_same, ?_⟩ | refine ⟨_, .inl (SqL.of (by assumption)), ?_⟩ | refine ⟨_, (by assumption : _ = some (HO.lst _)), ?_⟩ | refine ⟨_, upd_same, ?_⟩
  | refine ⟨_, rfl, ?_⟩ | refine And.intro (by walk_at "sd") ?_))

theorem fr_spec (p : Int) {q : Int} (h : q ≠ 0) : frP p q * frG p q = p ∧ frQ p q * frG p q = q ∧ 1 ≤ frQ p q ∧ Nat.gcd (frP p q).natAbs (frQ p q).natAbs = 1 ∧ (frP p q).natAbs ≤ p.natAbs ∧ (frQ p q).natAbs ≤ q.natAbs ∧ frG p q ≠ 0 := by
  have g0 : Nat.gcd p.natAbs q.natAbs ≠ 0 := fun z => h (by have := Nat.eq_zero_of_gcd_eq_zero_right z; omega)
  have ga : (frG p q).natAbs = Nat.gcd p.natAbs q.natAbs := by unfold frG; split <;> omega
  have gs : (0 < q ∧ 0 < frG p q) ∨ (q < 0 ∧ frG p q < 0) := by unfold frG; split <;> omega
  have gn : frG p q ≠ 0 := by omega
  have d1 : frG p q ∣ p := Int.natAbs_dvd_natAbs.mp (by rw [ga]; exact Nat.gcd_dvd_left _ _)
  have d2 : frG p q ∣ q := Int.natAbs_dvd_natAbs.mp (by rw [ga]; exact Nat.gcd_dvd_right _ _)
  obtain ⟨a, ea⟩ := d1
  obtain ⟨b, eb⟩ := d2
  have pa : frP p q = a := by
    unfold frP
    generalize frG p q = G at ea gn
    rw [ea, Int.mul_comm]
    exact Int.mul_fdiv_cancel _ gn
  have qb : frQ p q = b := by
    unfold frQ
    generalize frG p q = G at eb gn
    rw [eb, Int.mul_comm]
    exact Int.mul_fdiv_cancel _ gn
  rw [pa, qb]
  have na : p.natAbs = a.natAbs * Nat.gcd p.natAbs q.natAbs := by
    rw [← ga, ← Int.natAbs_mul, Int.mul_comm]; exact congrArg Int.natAbs ea
  have nb : q.natAbs = b.natAbs * Nat.gcd p.natAbs q.natAbs := by
    rw [← ga, ← Int.natAbs_mul, Int.mul_comm]; exact congrArg Int.natAbs eb
  have hg : Nat.gcd a.natAbs b.natAbs = 1 := by
    have e : Nat.gcd (a.natAbs * Nat.gcd p.natAbs q.natAbs) (b.natAbs * Nat.gcd p.natAbs q.natAbs) = Nat.gcd p.natAbs q.natAbs := by rw [← na, ← nb]
    rw [Nat.gcd_mul_right] at e
    exact Nat.eq_of_mul_eq_mul_right (Nat.pos_of_ne_zero g0) (by rw [e, Nat.one_mul])
  refine ⟨by rw [Int.mul_comm]; exact ea.symm, by rw [Int.mul_comm]; exact eb.symm, ?_, hg, ?_, ?_, gn⟩
  · generalize frG p q = G at eb gs
    rcases Int.lt_trichotomy b 0 with c | c | c
    · rcases gs with ⟨h1, h2⟩ | ⟨h1, h2⟩
      · have := Int.mul_neg_of_pos_of_neg h2 c; omega
      · have := Int.mul_pos_of_neg_of_neg h2 c; omega
    · rw [c, Int.mul_zero] at eb; omega
    · omega
  · rw [na]; exact Nat.le_mul_of_pos_right _ (Nat.pos_of_ne_zero g0)
  · rw [nb]; exact Nat.le_mul_of_pos_right _ (Nat.pos_of_ne_zero g0)
theorem pow_le {n a b : Nat} (h : n < 2 ^ a) (hab : a ≤ b) : n < 2 ^ b := Nat.lt_of_lt_of_le h (Nat.pow_le_pow_right (by decide) hab)
theorem eqv_pair (p q r s : Int) : PyData.eqv (.tuple [.int p, .int q]) (.tuple [.int r, .int s]) = (decide (p = r) && decide (q = s)) := by
  simp [PyData.eqv, PyData.eqvAll]
  rfl
theorem fr_low {p q : Int} (h : 1 ≤ q) (hg : Nat.gcd p.natAbs q.natAbs = 1) : frP p q = p ∧ frQ p q = q := by
  have e : frG p q = 1 := by unfold frG; rw [hg, if_neg (by omega)]; rfl
  obtain ⟨h1, h2, _⟩ := fr_spec p (q := q) (by omega)
  rw [e, Int.mul_one] at h1 h2
  exact ⟨h1, h2⟩
/-- what the exact test tells -/
theorem okD_two {p q : Int} (h : okD (.tuple [.int p, .int q]) = true) : p.natAbs < 2 ^ 4000 ∧ q.natAbs < 2 ^ 4000 := by
  have a := (okD_tup.mp h).2
  unfold okAll at a
  rw [Bool.and_eq_true] at a
  obtain ⟨a1, a2⟩ := a
  unfold okAll at a2
  rw [Bool.and_eq_true] at a2
  exact ⟨of_decide_eq_true a1, of_decide_eq_true a2.1⟩
theorem okD_of2 {p q : Int} (h1 : p.natAbs < 2 ^ 4000) (h2 : q.natAbs < 2 ^ 4000) : okD (.tuple [.int p, .int q]) = true := by
  refine okD_tup.mpr ⟨(show 2 ≤ 100000 by decide), ?_⟩
  unfold okAll
  rw [Bool.and_eq_true]
  refine ⟨decide_eq_true h1, ?_⟩
  unfold okAll
  rw [Bool.and_eq_true]
  exact ⟨decide_eq_true h2, rfl⟩
theorem isFrac_iff {p q : Int} : isFrac (.tuple [.int p, .int q]) = true ↔ 1 ≤ q ∧ Nat.gcd p.natAbs q.natAbs = 1 := by
  show (decide (1 ≤ q) && decide (Nat.gcd p.natAbs q.natAbs = 1)) = true ↔ _
  rw [Bool.and_eq_true, decide_eq_true_iff, decide_eq_true_iff]
theorem frac_dp {K : PySem.W.Frag} {H : Hp} {v : V} {d : PyData} (hd : Dp K H v d) (e : isFrac d = true) : ∃ a p q, v = .ref a ∧ d = .tuple [.int p, .int q] ∧ SqT K H a [.int p, .int q] ∧ 1 ≤ q ∧ Nat.gcd p.natAbs q.natAbs = 1 := by
  cases hd with
  | @tup a xs ds hs ha =>
    cases ha with
    | nil => cases e
    | cons h1 ha =>
      cases ha with
      | nil => cases h1 <;> cases e
      | cons h2 ha =>
        cases ha with
        | nil =>
          cases h1 with
          | int p =>
            cases h2 with
            | int q => exact ⟨a, p, q, rfl, rfl, hs, isFrac_iff.mp e⟩
            | _ => cases e
          | _ => cases h2 <;> cases e
        | cons h3 ha => cases h1 <;> cases h2 <;> cases e
  | _ => cases e
end LK

set_option Elab.async false
set_option linter.all false
set_option maxRecDepth 100000
namespace LK
open PySem PySem.Spec PyProof.Rows L2
local macro_rules | `(tactic| walk_at "rs") => `(tactic| simp only [cxK, cxNK, tCallZ, tAsg, tOp, rI0, rS0, rB0, rI, rU, tUn, rEq, rNe, rIxL, rIxT, rIxS, rSetL, rSlLU, rSlS, rSlU, rCatL, rCatU, rRepL, rIn, tVar, tC, gName, gSub, tIfS, tTest, tB, tAnd, tOr, tNot, tNotV, tAndV, tOrV, tIf, tCall, tCons, tNil, tCB, tDrop, tRet, tRetN, tNext, tLstU, tTupU, tM0, tM1, tPar, tPar3, tAug, ipI, tBM, tBM0, rAppend, rPop, tBreak, tCont, tChain, tSl, tPart, tNoPart, L2.start, List.map, List.length_cons, List.length_nil, List.replicate, List.cons_append, List.nil_append, List.append_nil, List.getElem?_cons_zero, List.getElem?_cons_succ, List.set_cons_zero, List.set_cons_succ, Option.some.injEq, V.int.injEq, V.ref.injEq, V.str.injEq, V.bl.injEq, exists_eq_left', exists_eq_left, exists_and_left, decide_eq_true_eq, List.cons.injEq, and_true, true_and, scal, Bool.not_eq_true', decide_eq_false_iff_not, Nat.zero_add, Nat.reduceAdd, Nat.reduceSub, reduceCtorEq, false_and, exists_false, false_or, or_false, CPow, CMul, CDiv, Int.reduceToNat, ↓reduceIte, wipe, sw, List.nil_append, List.singleton_append])
local macro_rules | `(tactic| walk_at "st") => `(tactic| (refine seq_op fun N hN => ?_; walk_at "rs"))
local macro_rules | `(tactic| walk_at "sd") => `(tactic| first | assumption | decide | omega)
local macro_rules | `(tactic| walk_at "rd") => `(tactic| repeat (first
  | refine ⟨_, SqL.of (by assumption), ?_⟩ | refine ⟨_, SqL.of upd_same, ?_⟩ | refine ⟨_, .inl (SqL.of (by assumption)), ?_⟩ | refine ⟨_, (by assumption : _ = some (HO.lst _)), ?_⟩ | refine ⟨_, upd_same, ?_⟩
  | refine ⟨_, rfl, ?_⟩ | refine And.intro (by walk_at "sd") ?_))

open LamX (Tabs TabS ExtN GivesTo pe_lamcall TabB lamS_by tLam CodeO LamS lamCx lamEnv)
/-! ### heaps, but for the bag and the tables of code objects -/
def KN (b : Addr) (H H' : Hp) : Prop := ∀ a o, a ≠ b → H a = some o → (∀ ps, o ≠ HO.tbl ps) → H' a = some o
theorem KN.refl {b : Addr} {H : Hp} : KN b H H := fun _ _ _ h _ => h
theorem KN.kp {b : Addr} {H H' : Hp} (k : Kp b H H') : KN b H H' := fun a o n h _ => (hb_some (k a o (by rw [hb_ne n]; exact h))).2
theorem KN.same {b : Addr} {H H' : Hp} (s : Same H H') : KN b H H' := fun _ _ _ h _ => s _ _ h
theorem KN.ext {b : Addr} {H H' : Hp} (s : ExtN H H') : KN b H H' := fun a o _ h n => s a o h n
theorem KN.trans {b : Addr} {H H1 H2 : Hp} (k : KN b H H1) (l : KN b H1 H2) : KN b H H2 := fun a o n h t => l a o n (k a o n h t) t
theorem KN.list {b a : Addr} {H H' : Hp} {xs : List V} (k : KN b H H') (n : a ≠ b) (h : H a = some (.lst xs)) : H' a = some (.lst xs) := k a _ n h fun _ z => by cases z
theorem KN.tup {b a : Addr} {H H' : Hp} {xs : List V} (k : KN b H H') (n : a ≠ b) (h : H a = some (.tup xs)) : H' a = some (.tup xs) := k a _ n h fun _ z => by cases z
theorem KN.seqT {K : PySem.W.Frag} {b c q : Addr} {H H' : Hp} {xs : List V} (B : Bag H b c) (k : KN b H H') (h : SqT K H q xs) : SqT K H' q xs := by
  obtain ⟨yb, eb⟩ := B.at
  rcases h with (h | ⟨o, h⟩) | h
  · refine .inl (.inl (k q _ (fun e => ?_) h fun _ z => by cases z))
    rw [e, eb] at h; cases h
  · refine .inl (.inr ⟨o, k q _ (fun e => ?_) h fun _ z => by cases z⟩)
    rw [e, eb] at h; cases h
  · exact .inr h
theorem ExtN.seqT {K : PySem.W.Frag} {q : Addr} {H H' : Hp} {xs : List V} (k : ExtN H H') (h : SqT K H q xs) : SqT K H' q xs := by
  rcases h with (h | ⟨o, h⟩) | h
  · exact .inl (.inl (k q _ h fun _ z => by cases z))
  · exact .inl (.inr ⟨o, k q _ h fun _ z => by cases z⟩)
  · exact .inr h
theorem ExtN.seqL {K : PySem.W.Frag} {q : Addr} {H H' : Hp} {xs : List V} (k : ExtN H H') (h : SqL K H q xs) : SqL K H' q xs := by
  rcases h with (h | ⟨o, h⟩) | h
  · exact .inl (.inl (k q _ h fun _ z => by cases z))
  · exact .inl (.inr ⟨o, k q _ h fun _ z => by cases z⟩)
  · exact .inr h
theorem Bag.ext {H H' : Hp} {b c : Addr} (B : Bag H b c) (k : ExtN H H') : Bag H' b c := by
  obtain ⟨cells, i, g, m, n, h1, h2, h3⟩ := B
  exact ⟨cells, i, g, m, n, k _ _ h1 (fun _ z => by cases z), k _ _ h2 (fun _ z => by cases z), h3⟩
theorem Same.extN {H H' : Hp} (s : Same H H') : ExtN H H' := fun _ _ h _ => s _ _ h
theorem Tabs.same {T : List (Addr × Str)} {H H' : Hp} (t : Tabs T H) (s : Same H H') : Tabs T H' := LamX.Tabs.ext t fun b o h => s b o h
theorem codeO_lst {c : Addr} {q : Str} {xs : List V} : CodeO c q ≠ .lst xs := fun z => by
  unfold LamX.CodeO at z
  cases z
theorem Tabs.kp {T : List (Addr × Str)} {H H' : Hp} {b c : Addr} (B : Bag H b c) (t : Tabs T H) (k : Kp b H H') : Tabs T H' := fun p hp => by
  obtain ⟨yb, eb⟩ := B.at
  obtain ⟨ps, h1, h2, h3⟩ := t p hp
  have n1 : p.1 ≠ b := fun e => by rw [e, eb] at h1; cases h1
  refine ⟨ps, k.hd h1 n1, h2, fun pos cv hc => ?_⟩
  obtain ⟨c0, e1, e2⟩ := h3 pos cv hc
  refine ⟨c0, e1, k.hd e2 fun e => ?_⟩
  rw [e, eb] at e2
  exact codeO_lst (Option.some.inj e2).symm
/-- the two fields of a NoName -/
def nnF (v : V) : List (Str × V) := [("code", .str "NoName"), ("name", v)]
/-! ### a def whose code object is told -/
section
variable {P : Program} {w : World} {K : PySem.W.Frag} {mg : Str → Option Value} {base : Heap}
theorem Fun.okC {x qual : Str} {st : Stmt} {f c : Addr} {fd : FuncData} {N ps : List Str} {k : Nat} {sp : Sp} (F : Fun K x qual st f fd) (hc : fd.code = .ref c) (S : FnScope N ps (defScope st)) (len : ∀ vs H Q E, sp vs H Q E → vs.length = ps.length)
    (hbody : ∀ (A : Around) (outer : List Env) (s : Shared) (H : Hp) (vs : List V) (Q : VK) (E : XK), Room k (A.deeper (envOfC qual (defScope st) s.heap.objs.size f (.ref c))) → sp vs H Q E →
      ∃ t, PSs (cxOf CX0 P w K mg base N qual (defScope st) f (.ref c) A outer s H E).nox (defBody st) t ∧ t { nx := fun _ H' => Q .non H', rt := Q } (start N vs) H) : FnOk P w K mg base CX0 (k + 1) f fd ps sp := by
  obtain ⟨oc, od, kV, doc, pm, an, cdv, ct, osl, rfl, lk, hcd⟩ := F.ex
  have e : cdv = .ref c := hc
  subst e
  refine fn_of lk hcd S len fun A outer s H vs Q E hr hsp => ?_
  obtain ⟨t, h, q⟩ := hbody A outer s H vs Q E hr hsp
  exact ⟨t, h.nox, q⟩
end
/-! ### the defs with a lambda: their tables -/
def lamQ (q : Str) : Str := (envOfC q (defScope s__law_so) 0 0 .none).qual ++ "<lambda>"
section
variable {w : World} {K : PySem.W.Frag} {mg : Str → Option Value}
def Txt.TL (T : Txt w K mg) : List (Addr × Str) := [(T.P__law_so, lamQ "_law_so")]
def Txt.cs (T : Txt w K mg) : List (Addr × Addr) := [(T.c__law_so, T.P__law_so)]
theorem Txt.uniq (T : Txt w K mg) {p q : Addr × Str} (hp : p ∈ T.TL) (hq : q ∈ T.TL) (e : p.1 = q.1) : p.2 = q.2 := by
  unfold Txt.TL at hp hq
  simp only [List.mem_cons, List.mem_nil_iff, or_false] at hp hq
  subst hp hq
  rfl
theorem Txt.cs1 (T : Txt w K mg) : (T.c__law_so, T.P__law_so) ∈ T.cs := List.mem_cons_self
theorem Txt.tl1 (T : Txt w K mg) : (T.P__law_so, lamQ "_law_so") ∈ T.TL := List.mem_cons_self
end
mutual
theorem dp_ext {K : PySem.W.Frag} {H H' : Hp} (e : ExtN H H') : ∀ {d : PyData} {v : V}, Dp K H v d → Dp K H' v d
  | .none, _, h => by cases h; exact .non
  | .bool _, _, h => by cases h; exact .bl _
  | .int _, _, h => by cases h; exact .int _
  | .str _, _, h => by cases h; exact .str _
  | .list ds, _, h => by cases h with | lst a b => exact .lst (ExtN.seqL e a) (dpa_ext e b)
  | .tuple ds, _, h => by cases h with | tup a b => exact .tup (ExtN.seqT e a) (dpa_ext e b)
  | .dict _, _, h => by cases h
theorem dpa_ext {K : PySem.W.Frag} {H H' : Hp} (e : ExtN H H') : ∀ {ds : List PyData} {vs : List V}, DpAll K H vs ds → DpAll K H' vs ds
  | [], _, h => by cases h; exact .nil
  | _ :: _, _, h => by cases h with | cons a b => exact .cons (dp_ext e a) (dpa_ext e b)
end
/-! ### isinstance of the exception that a suite holds -/
def rIsX (C a : Addr) (cls : Value) (d : Option Addr) : List V → Hp → VK → Prop := fun xs H Q => xs = [.ref a, .ref C] ∧ cls = .ref C ∧ (∃ (dd : Addr) (fs : List (Str × V)), d = some dd ∧ H dd = some (.xd fs)) ∧ Q (.bl true) H
theorem call_isX {X : Cx} {a C : Addr} {cls : Value} {d : Option Addr} {oe : Obj} {pn : List (Addr × Obj)} (T : IsxC X.K C) (hk : PySem.W.kitOne X.K (.ref C) (.ref C) = some true) (hz : Zc cls d oe) (hf : ∃ vs, oe.data = .fields vs) : CallR (X.suite a ((a, oe) :: pn)) (.builtin "isinstance") (rIsX C a cls d) := by
  intro pins s σ H xs us Q I r h
  obtain ⟨rfl, rfl, ⟨dd, fs, rfl, hd⟩, q⟩ := h
  cases r with
  | cons rx rr =>
    cases rr with
    | cons rt rr =>
      cases rr
      cases rx
      cases rt
      obtain ⟨hget, _⟩ := I.pin (a, oe) (List.mem_append.mpr (.inl List.mem_cons_self))
      obtain ⟨vs, hv⟩ := hf
      have hx : ObjOk X.prog X.w H s.heap dd (.xd fs) := I.hok dd _ hd
      obtain ⟨mA, hns, hr⟩ := hx
      obtain ⟨od, ho, hl⟩ := lookIn_ns hns
      have J : PySem.W.InstAt s.heap a oe C (some od) := ⟨hget, hz.1, by unfold PySem.W.notCls; rw [hv] <;> rfl, by rw [hz.2]; exact ho⟩
      exact PySem.W.kia_one (PySem.W.kitx_exc T.cl T.ga T.gt T.sub T.ha T.hn T.tk T.hm) I.kIn J hk (fun z => nomatch z) fun tk => ⟨.bl true, H, I.kept (t' := tk) fun _ _ z => z, rfl, q⟩
/-- _law_ask(lambda: ..): what was told, or the error's code and value -/
def TTask (C : Addr) : (XK → Hp → VK → Prop) → Hp → VK → Prop := fun tl H Q =>
  tl (fun cls d H' => cls = .ref C ∧ ∃ (dd : Addr) (v : V), d = some dd ∧ H' dd = some (.xd (nnF v)) ∧ ∀ p H2, Same H' H2 → H' p = none → H2 p = some (.lst [.str "NoName", v]) → Q (.ref p) H2) H
    fun v H1 => 2 ≤ sizeLine ∧ ∀ p H2, Same H1 H2 → H1 p = none → H2 p = some (.lst [.str "told", v]) → Q (.ref p) H2
theorem takes_len {X : Cx} {W : WX} {n : Nat} (t : Takes X W) (hn : X.N.length = n) : Takes X (fun c d σ H => σ.length = n → W c d σ H) := fun u s' ⟨a, B, sI, pins, σ, H, cls, d, e, I, nb, up, sky, na, os, ag, w⟩ =>
  t u s' ⟨a, B, sI, pins, σ, H, cls, d, e, I, nb, up, sky, na, os, ag, w (I.len.trans hn)⟩
theorem len2 {σ : L2.St} (h : σ.length = 2) (v : V) : (σ.set 1 (some v))[1]? = some (some v) := by
  rw [List.getElem?_set_self (by omega)]
theorem ask_gives {X : Cx} (T : Txt X.w X.K X.mg) {q : Str} {g : Addr} {cdg : Value} : GivesTo X N__law_ask "_law_ask" (defScope s__law_ask) g cdg (defBody s__law_ask) "deed" q (TTask T.C_NoName) := by
  intro f c' s H Q tl act hc h
  refine ⟨_, pss_one (ps_try_as (X := (cxOf C8.CX0 X.prog X.w X.K X.mg X.base N__law_ask "_law_ask" (defScope s__law_ask) g cdg X.A X.stack s H C8.E0).nox) (c := .ref T.C_Missing) (i := 1)
      (tb := fun W D σ H => ∃ Ech : XK, (∀ cls d σ' H', Ech cls d H' → σ'.length = 2 → W cls d σ' H') ∧ tRet (tLstU (tCons (fun _ H Q => Q (.str "told") H) (tCons (fun σZ HZ Q => σZ[0]? = some (some (.ref f)) ∧ HZ c' = some (CodeO c' q) ∧ tl Ech HZ Q) tNil))) D σ H)
      rfl rfl sc__law_ask.nd rfl rfl ⟨by rfl, by decide, .inl T.m_Missing⟩ LamX.takes0 (fun W pn xe tk _ => ?_)
      (fun a oe cls d pn hz hf => pss_one (ps_ret (pe_lstU (pa_cons (pe_xf T.x_NoName T.c_NoName hz hf (pv 1)) (pa_cons (pe_ifExp (pt_val (pe_callB (call_isX T.y_NoName T.k_NoName hz hf) (by rfl) T.n_isinstance (by decide +kernel) (pa_cons (pv 1) (pa_cons (pe_glob (v := .ref T.C_NoName) (by rfl) T.m_NoName rfl) pa_nil)))) (pe_xf T.x_NoName T.v_NoName hz hf (pv 1)) pe_non) pa_nil)))))), ?_⟩
  · refine ⟨fun pins s' σ H' D I h' => ?_⟩
    obtain ⟨Ech, hW, h3⟩ := h'
    exact (pss_one (ps_ret (pe_lstU (pa_cons pe_str (pa_cons (act (fun c d σ H => σ.length = 2 → W c d σ H) pn xe Ech _ _ (takes_len tk rfl) hW) pa_nil))))).run pins s' σ H' D I h3
  · refine ⟨fun cls d H' => cls = .ref T.C_NoName ∧ ∃ (dd : Addr) (v : V), d = some dd ∧ H' dd = some (.xd (nnF v)) ∧ ∀ p H2, Same H' H2 → H' p = none → H2 p = some (.lst [.str "NoName", v]) → Q (.ref p) H2, ?_, ?_⟩
    · rintro cls d σ' H' ⟨rfl, dd, v, rfl, hd, k⟩ hl
      refine ⟨true, T.e_NoName, fun _ a ha => ?_, fun z => Bool.noConfusion z⟩
      unfold tXf rIsX
      walk_at "rs"
      have h2 := len2 hl (.ref a)
      refine ⟨_, h2, rfl, _, hd, .str "NoName", rfl, _, h2, rfl, ⟨_, hd⟩, _, h2, rfl, _, hd, v, rfl, by decide, k⟩
    · show tRet _ _ _ _
      revert h
      unfold TTask
      walk_at "rs"
      exact fun h => ⟨hc, h⟩
/-- _law_ask(lambda: ..) -/
theorem pe_ask {X : Cx} (T : Txt X.w X.K X.mg) {c P : Addr} {k : Nat} {params : Arguments} {body : Expr} {scope : Scope} {t : XK → TE} {p lpos pos : Pos} (hg : Gl X "_law_ask") (TB : TabB X.base X.mg c P) (hcode : X.env.code = .ref c) (hmT : (P, X.env.qual ++ "<lambda>") ∈ T.TL)
    (hr : Room (k + 2) X.A) (L : LamS X.env.scope scope) (hdef : defaultsOf params X.env = ([], []))
    (hbind : ∀ (q : Str) (cl : List (Str × Addr)) (pm cv ctv : Value), bindArgs (PySem.W.kla_fn "<lambda>" q params body scope cl pm cv ctv) ⟨[], []⟩ = pure [])
    (hbody : ∀ (A : Around) (outer : List Env) (s : Shared) (H : Hp) (E : XK) (f c' : Addr), Room k (A.deeper (lamEnv X scope s.heap.objs.size f c')) → PE (lamCx X A outer s H E scope f c') body (t E)) :
    PE X (.Call (.Name "_law_ask" p) [.Lambda params body scope lpos] [] pos) (tLam T.TL (TTask T.C_NoName) t) := by
  obtain ⟨oc, od, kV, doc, pm, an, cdv, ct, osl, efd, lk, hcd⟩ := T.F__law_ask.ex
  have hb := T.B__law_ask
  rw [efd] at lk hb
  exact pe_lamcall (a := "deed") hg T.m__law_ask T.F__law_ask.kp lk hcd hb sc__law_ask rfl (.inl rfl) (ask_gives T) TB hcode hmT (fun p hp e => T.uniq hp hmT e) hr L hdef hbind hbody
end LK

set_option Elab.async false
set_option linter.all false
set_option maxRecDepth 100000
namespace LK
open PySem PySem.Spec PyProof.Rows L2
local macro_rules | `(tactic| walk_at "rs") => `(tactic| simp only [cxK, cxNK, tCallZ, tAsg, tOp, rI0, rS0, rB0, rI, rU, tUn, rEq, rNe, rIxL, rIxT, rIxS, rSetL, rSlLU, rSlS, rSlU, rCatL, rCatU, rRepL, rIn, tVar, tC, gName, gSub, tIfS, tTest, tB, tAnd, tOr, tNot, tNotV, tAndV, tOrV, tIf, tCall, tCons, tNil, tCB, tDrop, tRet, tRetN, tNext, tLstU, tTupU, tM0, tM1, tPar, tPar3, tAug, ipI, tBM, tBM0, rAppend, rPop, tBreak, tCont, tChain, tSl, tPart, tNoPart, L2.start, List.map, List.length_cons, List.length_nil, List.replicate, List.cons_append, List.nil_append, List.append_nil, List.getElem?_cons_zero, List.getElem?_cons_succ, List.set_cons_zero, List.set_cons_succ, Option.some.injEq, V.int.injEq, V.ref.injEq, V.str.injEq, V.bl.injEq, exists_eq_left', exists_eq_left, exists_and_left, decide_eq_true_eq, List.cons.injEq, and_true, true_and, scal, Bool.not_eq_true', decide_eq_false_iff_not, Nat.zero_add, Nat.reduceAdd, Nat.reduceSub, reduceCtorEq, false_and, exists_false, false_or, or_false, CPow, CMul, CDiv, Int.reduceToNat, ↓reduceIte, wipe, sw, List.nil_append, List.singleton_append])
local macro_rules | `(tactic| walk_at "st") => `(tactic| (refine seq_op fun N hN => ?_; walk_at "rs"))
local macro_rules | `(tactic| walk_at "sd") => `(tactic| first | assumption | decide | omega)
local macro_rules | `(tactic| walk_at "rd") => `(tactic| repeat (first
  | refine ⟨_, SqL.of (by assumption), ?_⟩ | refine ⟨_, SqL.of upd_same, ?_⟩ | refine ⟨_, .inl (SqL.of (by assumption)), ?_⟩ | refine ⟨_, (by assumption : _ = some (HO.lst _)), ?_⟩ | refine ⟨_, upd_same, ?_⟩
  | refine ⟨_, rfl, ?_⟩ | refine And.intro (by walk_at "sd") ?_))

open TL
/-! ### the words that are drawn -/
def names11 : List Str := ["sign", "place", "a", "b", "z9", "letter", "nor", "iff", "m", "mini", "e1"]
def ops17 : List Str := opsTab.map (·.1)
def ints19 : List Str := (List.range 19).map fun (k : Nat) => Str.ofString (toString ((k : Int) - 9))
def allW : List Str := names11 ++ ops17 ++ ints19
def nm (z : Str) : Bool := decide (z ∈ names11)
def intOf (z : Str) : Int := (intText? z).getD 0
theorem w_name : ∀ z ∈ allW, isNameD (.str z) = nm z := by decide +kernel
theorem w_len : ∀ z ∈ allW, z.length ≤ 6 ∧ 0 < z.length ∧ PyData.canLay0 (.str z) = true := by decide +kernel
theorem w_e : ∀ z ∈ allW, opsL (.str z) 101 = some (if nm z = true then [] else match opsOf z with | some o => o.cps.toList | none => []) := by decide +kernel
theorem w_k : ∀ z ∈ allW, ∀ o, opsL (.str z) 107 = some o → o = [] ∧ nm z = false ∧ opsOf z = none ∧ 1 ≤ intOf z ∧ intOf z ≤ 9 := by
  have h : (allW.all fun z => match opsL (.str z) 107 with | none => true | some o => decide (o = [] ∧ nm z = false ∧ opsOf z = none ∧ 1 ≤ intOf z ∧ intOf z ≤ 9)) = true := by decide +kernel
  intro z hz o e
  have := List.all_eq_true.mp h z hz
  rw [e] at this
  exact of_decide_eq_true this
theorem w_int : ∀ z ∈ allW, nm z = false → opsOf z = none → intText? z = some (intOf z) ∧ (intOf z).natAbs ≤ 9 := by
  have h : ∀ z ∈ allW, nm z = false → opsOf z = none → decide (intText? z = some (intOf z)) = true ∧ (intOf z).natAbs ≤ 9 := by decide +kernel
  intro z hz a b
  obtain ⟨c, d⟩ := h z hz a b
  exact ⟨of_decide_eq_true c, d⟩
theorem w_ops : ∀ z ∈ allW, nm z = true → opsOf z = none := by decide +kernel
/-! ### what words are worth -/
abbrev Fr := Int × Int
def lowF (p q : Int) : Fr := (frP p q, frQ p q)
def tf (b : Bool) : Fr := if b = true then (1, 1) else (0, 1)
def gapF (a b : Fr) : Int := a.1 * b.2 - b.1 * a.2
def holdsF (z : Str) (a b : Fr) : Bool :=
  if z = "=" then decide (a = b) else if z = "/=" then !decide (a = b) else if z = "<" then decide (gapF a b < 0) else if z = "<=" then !decide (0 < gapF a b)
  else if z = ">" then decide (0 < gapF a b) else !decide (gapF a b < 0)
def opF (z : Str) (a b : Fr) : Fr :=
  if z = "+" then lowF (a.1 * b.2 + b.1 * a.2) (a.2 * b.2)
  else if z = "-" then lowF (a.1 * b.2 - b.1 * a.2) (a.2 * b.2)
  else if z = "*" then lowF (a.1 * b.1) (a.2 * b.2)
  else if z = "min" then (if gapF b a < 0 then b else a)
  else if z = "max" then (if 0 < gapF b a then b else a)
  else if z = "div" then (a.1.fdiv (a.2 * b.1), 1)
  else if z = "mod" then lowF (a.1 - a.1.fdiv (a.2 * b.1) * b.1 * a.2) a.2
  else if z = "and" then tf (decide (a.1 ≠ 0) && decide (b.1 ≠ 0))
  else if z = "or" then tf (decide (a.1 ≠ 0) || decide (b.1 ≠ 0))
  else tf (holdsF z a b)
def stepF (tab : Str → Option Fr) (z : Str) (st : List Fr) : List Fr :=
  if nm z = true then (tab z).getD (0, 1) :: st
  else if z = "not" then (match st with | a :: r => tf (decide (a.1 = 0)) :: r | [] => [])
  else if z = "if" then (match st with | a :: b :: c :: r => (if a.1 = 0 then c else b) :: r | _ => [])
  else if (opsOf z).isSome = true then (match st with | a :: b :: r => opF z a b :: r | _ => [])
  else (intOf z, 1) :: st
def stk (tab : Str → Option Fr) : List Str → List Fr
  | [] => []
  | z :: r => stepF tab z (stk tab r)
/-- lowest terms, at most so many bits -/
def okB (m : Nat) (f : Fr) : Prop := 1 ≤ f.2 ∧ Nat.gcd f.1.natAbs f.2.natAbs = 1 ∧ f.1.natAbs < 2 ^ m ∧ f.2.natAbs < 2 ^ m
theorem okB.le {m n : Nat} {f : Fr} (h : okB m f) (l : m ≤ n) : okB n f := ⟨h.1, h.2.1, pow_le h.2.2.1 l, pow_le h.2.2.2 l⟩
theorem okB_low {m : Nat} {p q : Int} (q0 : q ≠ 0) (hp : p.natAbs < 2 ^ m) (hq : q.natAbs < 2 ^ m) : okB m (lowF p q) := by
  obtain ⟨_, _, e3, e4, e5, e6, _⟩ := fr_spec p q0
  exact ⟨e3, e4, Nat.lt_of_le_of_lt e5 hp, Nat.lt_of_le_of_lt e6 hq⟩
theorem okB_int {m : Nat} {p : Int} (hm : 0 < m) (hp : p.natAbs < 2 ^ m) : okB m (p, 1) := ⟨Int.le_refl 1, by simp, hp, Nat.one_lt_two_pow (by omega)⟩
theorem okB_tf (b : Bool) {m : Nat} (hm : 0 < m) : okB m (tf b) := by
  have h : (1 : Nat) < 2 ^ m := Nat.one_lt_two_pow (by omega)
  cases b
  · exact okB_int hm (show (0 : Nat) < 2 ^ m by omega)
  · exact okB_int hm h
inductive Stk : List Nat → Nat → List Fr → Prop
  | nil : Stk [] 0 []
  | cons {c m n : Nat} {f : Fr} {w : List Nat} {st : List Fr} (h : okB (64 * m) f) (hm : 0 < m) (d : c = 107 → f.2 = 1 ∧ 1 ≤ f.1 ∧ f.1 ≤ 9) (r : Stk w n st) : Stk (c :: w) (m + n) (f :: st)
theorem Stk.top {c n : Nat} {w : List Nat} {st : List Fr} (h : Stk (c :: w) n st) : ∃ f r m k, st = f :: r ∧ n = m + k ∧ okB (64 * m) f ∧ 0 < m ∧ (c = 107 → f.2 = 1 ∧ 1 ≤ f.1 ∧ f.1 ≤ 9) ∧ Stk w k r := by
  cases h with
  | cons h hm d r => exact ⟨_, _, _, _, rfl, rfl, h, hm, d, r⟩
theorem two_plus {i j : Int} {a b : Nat} (hi : i.natAbs < 2 ^ a) (hj : j.natAbs < 2 ^ b) {k : Nat} (ha : a ≤ k) (hb : b ≤ k) : (i + j).natAbs < 2 ^ (k + 1) ∧ (i - j).natAbs < 2 ^ (k + 1) := ⟨two_add (pow_le hi ha) (pow_le hj hb), two_sub (pow_le hi ha) (pow_le hj hb)⟩
theorem op_ok {z : Str} {a b : Fr} {m n : Nat} (hm : 0 < m) (hn : 0 < n) (ha : okB (64 * m) a) (hb : okB (64 * n) b) (hd : z = "div" ∨ z = "mod" → b.2 = 1 ∧ 1 ≤ b.1 ∧ b.1 ≤ 9) : okB (64 * (m + n + 1)) (opF z a b) := by
  obtain ⟨a1, a2, a3, a4⟩ := ha
  obtain ⟨b1, b2, b3, b4⟩ := hb
  have nz : a.2 * b.2 ≠ 0 := Int.mul_ne_zero (by omega) (by omega)
  have w1 : (a.1 * b.2).natAbs < 2 ^ (64 * m + 64 * n) := wide_lt a3 b4
  have w2 : (b.1 * a.2).natAbs < 2 ^ (64 * n + 64 * m) := wide_lt b3 a4
  have w3 : (a.2 * b.2).natAbs < 2 ^ (64 * m + 64 * n) := wide_lt a4 b4
  have w4 : (a.1 * b.1).natAbs < 2 ^ (64 * m + 64 * n) := wide_lt a3 b3
  have ws := two_plus w1 w2 (k := 64 * m + 64 * n) (Nat.le_refl _) (by omega)
  have kk : 64 * m + 64 * n + 1 ≤ 64 * (m + n + 1) := by omega
  unfold opF
  split
  · exact okB_low nz (pow_le ws.1 kk) (pow_le w3 (by omega))
  split
  · exact okB_low nz (pow_le ws.2 kk) (pow_le w3 (by omega))
  split
  · exact okB_low nz (pow_le w4 (by omega)) (pow_le w3 (by omega))
  split
  · split
    · exact okB.le ⟨b1, b2, b3, b4⟩ (by omega)
    · exact okB.le ⟨a1, a2, a3, a4⟩ (by omega)
  split
  · split
    · exact okB.le ⟨b1, b2, b3, b4⟩ (by omega)
    · exact okB.le ⟨a1, a2, a3, a4⟩ (by omega)
  split
  · rename_i e
    obtain ⟨d1, d2, d3⟩ := hd (.inl e)
    have pos : 1 ≤ a.2 * b.1 := by
      have := Int.mul_le_mul a1 d2 (by decide) (by omega)
      omega
    refine okB_int (by omega) (Nat.lt_of_le_of_lt ?_ (pow_le a3 (show 64 * m ≤ 64 * (m + n + 1) by omega)))
    rw [Int.fdiv_eq_ediv_of_nonneg _ (by omega)]
    exact Int.natAbs_ediv_le_natAbs _ _
  split
  · rename_i e
    obtain ⟨d1, d2, d3⟩ := hd (.inr e)
    have pos : 1 ≤ a.2 * b.1 := by
      have := Int.mul_le_mul a1 d2 (by decide) (by omega)
      omega
    have em : a.1 - a.1.fdiv (a.2 * b.1) * b.1 * a.2 = a.1 % (a.2 * b.1) := by
      rw [Int.fdiv_eq_ediv_of_nonneg _ (by omega), Int.emod_def, Int.mul_assoc, Int.mul_comm b.1 a.2, Int.mul_comm (a.2 * b.1)]
    have l0 := Int.emod_nonneg a.1 (show a.2 * b.1 ≠ 0 by omega)
    have l1 := Int.emod_lt_of_pos a.1 (show 0 < a.2 * b.1 by omega)
    refine okB_low (by omega) ?_ (pow_le a4 (by omega))
    rw [em]
    have b9 : b.1.natAbs < 2 ^ 4 := by omega
    have w5 : (a.2 * b.1).natAbs < 2 ^ (64 * m + 4) := wide_lt a4 b9
    refine Nat.lt_of_lt_of_le ?_ (Nat.pow_le_pow_right (by decide) (show 64 * m + 4 ≤ 64 * (m + n + 1) by omega))
    omega
  split
  · exact okB_tf _ (by omega)
  split
  · exact okB_tf _ (by omega)
  · exact okB_tf _ (by omega)
end LK

set_option Elab.async false
set_option linter.all false
set_option maxRecDepth 100000
namespace LK
open PySem PySem.Spec PyProof.Rows L2
local macro_rules | `(tactic| walk_at "rs") => `(tactic| simp only [cxK, cxNK, tCallZ, tAsg, tOp, rI0, rS0, rB0, rI, rU, tUn, rEq, rNe, rIxL, rIxT, rIxS, rSetL, rSlLU, rSlS, rSlU, rCatL, rCatU, rRepL, rIn, tVar, tC, gName, gSub, tIfS, tTest, tB, tAnd, tOr, tNot, tNotV, tAndV, tOrV, tIf, tCall, tCons, tNil, tCB, tDrop, tRet, tRetN, tNext, tLstU, tTupU, tM0, tM1, tPar, tPar3, tAug, ipI, tBM, tBM0, rAppend, rPop, tBreak, tCont, tChain, tSl, tPart, tNoPart, L2.start, List.map, List.length_cons, List.length_nil, List.replicate, List.cons_append, List.nil_append, List.append_nil, List.getElem?_cons_zero, List.getElem?_cons_succ, List.set_cons_zero, List.set_cons_succ, Option.some.injEq, V.int.injEq, V.ref.injEq, V.str.injEq, V.bl.injEq, exists_eq_left', exists_eq_left, exists_and_left, decide_eq_true_eq, List.cons.injEq, and_true, true_and, scal, Bool.not_eq_true', decide_eq_false_iff_not, Nat.zero_add, Nat.reduceAdd, Nat.reduceSub, reduceCtorEq, false_and, exists_false, false_or, or_false, CPow, CMul, CDiv, Int.reduceToNat, ↓reduceIte, wipe, sw, List.nil_append, List.singleton_append])
local macro_rules | `(tactic| walk_at "st") => `(tactic| (refine seq_op fun N hN => ?_; walk_at "rs"))
local macro_rules | `(tactic| walk_at "sd") => `(tactic| first | assumption | decide | omega)
local macro_rules | `(tactic| walk_at "rd") => `(tactic| repeat (first
  | refine ⟨_, SqL.of (by assumption), ?_⟩ | refine ⟨_, SqL.of upd_same, ?_⟩ | refine ⟨_, .inl (SqL.of (by assumption)), ?_⟩ | refine ⟨_, (by assumption : _ = some (HO.lst _)), ?_⟩ | refine ⟨_, upd_same, ?_⟩
  | refine ⟨_, rfl, ?_⟩ | refine And.intro (by walk_at "sd") ?_))

open TL
theorem w_op {z : Str} (hz : z ∈ allW) {o : Str} (h : opsOf z = some o) : nm z = false ∧ ((z = "not" ∧ o.cps.toList = [101]) ∨ (z = "if" ∧ o.cps.toList = [101, 101, 101]) ∨ (z ≠ "not" ∧ z ≠ "if" ∧ (((z = "div" ∨ z = "mod") ∧ o.cps.toList = [101, 107]) ∨ (¬ (z = "div" ∨ z = "mod") ∧ o.cps.toList = [101, 101])))) := by
  have h2 : (allW.all fun z => match opsOf z with | none => true | some o => decide (nm z = false ∧ ((z = "not" ∧ o.cps.toList = [101]) ∨ (z = "if" ∧ o.cps.toList = [101, 101, 101]) ∨ (z ≠ "not" ∧ z ≠ "if" ∧ (((z = "div" ∨ z = "mod") ∧ o.cps.toList = [101, 107]) ∨ (¬ (z = "div" ∨ z = "mod") ∧ o.cps.toList = [101, 101])))))) = true := by decide +kernel
  have := List.all_eq_true.mp h2 z hz
  rw [h] at this
  exact of_decide_eq_true this
theorem op_not : opsOf "not" = some "e" ∧ opsOf "if" = some "eee" := by decide +kernel
theorem step_int {tab : Str → Option Fr} {z : Str} {st : List Fr} (h1 : nm z = false) (h2 : opsOf z = none) : stepF tab z st = (intOf z, 1) :: st := by
  unfold stepF
  rw [if_neg (by rw [h1]; decide), if_neg, if_neg, if_neg]
  · rw [h2]; decide
  · intro e; rw [e, op_not.2] at h2; cases h2
  · intro e; rw [e, op_not.1] at h2; cases h2
theorem step_two {tab : Str → Option Fr} {z : Str} {a b : Fr} {r : List Fr} {o : Str} (h1 : nm z = false) (h2 : opsOf z = some o) (n1 : z ≠ "not") (n2 : z ≠ "if") : stepF tab z (a :: b :: r) = opF z a b :: r := by
  unfold stepF
  rw [if_neg (by rw [h1]; decide), if_neg n1, if_neg n2, if_pos (by rw [h2]; rfl)]
theorem step_name {tab : Str → Option Fr} {z : Str} {f : Fr} {st : List Fr} (h1 : nm z = true) (h : tab z = some f) : stepF tab z st = f :: st := by
  unfold stepF
  rw [if_pos h1, h]; rfl
theorem step_not {tab : Str → Option Fr} {a : Fr} {st : List Fr} : stepF tab "not" (a :: st) = tf (decide (a.1 = 0)) :: st := rfl
theorem step_if {tab : Str → Option Fr} {a b c : Fr} {st : List Fr} : stepF tab "if" (a :: b :: c :: st) = (if a.1 = 0 then c else b) :: st := rfl
theorem stk_ok {tab : Str → Option Fr} : ∀ (ws : List Str) (w : List Nat), (∀ z ∈ ws, z ∈ allW) → (∀ z ∈ ws, nm z = true → ∃ f, tab z = some f ∧ okB 64 f) → (∀ c ∈ w, c = 101 ∨ c = 107) → walkL w (ws.map PyData.str) = true → Stk w ws.length (stk tab ws)
  | [], w, _, _, _, h => by
    cases w with
    | nil => exact .nil
    | cons c w => simp [walkL] at h
  | z :: r, w, hw, ht, hc, h => by
    have hz := hw z List.mem_cons_self
    have ih := fun w' hc' h' => stk_ok (tab := tab) r w' (fun y hy => hw y (List.mem_cons_of_mem _ hy)) (fun y hy => ht y (List.mem_cons_of_mem _ hy)) hc' h'
    cases w with
    | nil => simp [walkL] at h
    | cons c w =>
      have hc' : ∀ x ∈ w, x = 101 ∨ x = 107 := fun x hx => hc x (List.mem_cons_of_mem _ hx)
      have push : ∀ f : Fr, okB 64 f → (c = 107 → f.2 = 1 ∧ 1 ≤ f.1 ∧ f.1 ≤ 9) → Stk w r.length (stk tab r) → Stk (c :: w) (r.length + 1) (f :: stk tab r) := fun f hf hd hs => by
        have := Stk.cons (m := 1) hf (by decide) hd hs
        rw [Nat.add_comm] at this
        exact this
      show Stk (c :: w) (r.length + 1) (stepF tab z (stk tab r))
      rcases hc c List.mem_cons_self with rfl | rfl
      · have e := w_e z hz
        simp only [List.map_cons, walkL, e] at h
        by_cases n : nm z = true
        · rw [if_pos n] at h
          obtain ⟨f, h1, h2⟩ := ht z List.mem_cons_self n
          rw [step_name n h1]
          exact push f h2 (fun z => by cases z) (ih w hc' h)
        · rw [if_neg n] at h
          simp only [Bool.not_eq_true] at n
          cases eo : opsOf z with
          | none =>
            rw [eo] at h
            rw [step_int n eo]
            obtain ⟨_, h2⟩ := w_int z hz n eo
            exact push _ (okB_int (by decide) (Nat.lt_of_le_of_lt h2 (by decide))) (fun z => by cases z) (ih w hc' h)
          | some o =>
            rw [eo] at h
            dsimp only at h
            rcases (w_op hz eo).2 with ⟨rfl, e1⟩ | ⟨rfl, e1⟩ | ⟨n1, n2, ⟨hd, e1⟩ | ⟨hd, e1⟩⟩
            · rw [e1] at h
              obtain ⟨f, st, m, k, e2, e3, hf, hm, _, hs⟩ := (ih (101 :: w) (fun x hx => by rcases List.mem_cons.mp hx with rfl | hx; exact .inl rfl; exact hc' x hx) h).top
              rw [e2, step_not, e3]
              have := Stk.cons (c := 101) (m := m + 1) (okB_tf (decide (f.1 = 0)) (by omega)) (by omega) (fun z => by cases z) hs
              rw [show m + k + 1 = m + 1 + k by omega]
              exact this
            · rw [e1] at h
              have s1 := ih (101 :: 101 :: 101 :: w) (fun x hx => by
                simp only [List.mem_cons] at hx
                rcases hx with rfl | rfl | rfl | hx <;> first | exact .inl rfl | exact hc' x hx) h
              obtain ⟨a, st1, m1, k1, e2, e3, ha, hm1, _, s2⟩ := s1.top
              obtain ⟨b, st2, m2, k2, e4, e5, hb, hm2, _, s3⟩ := s2.top
              obtain ⟨c3, st3, m3, k3, e6, e7, hc3, hm3, _, s4⟩ := s3.top
              rw [e2, e4, e6, step_if, e3, e5, e7]
              have okv : okB (64 * (m1 + m2 + m3 + 1)) (if a.1 = 0 then c3 else b) := by
                split
                · exact hc3.le (by omega)
                · exact hb.le (by omega)
              have := Stk.cons (c := 101) (m := m1 + m2 + m3 + 1) okv (by omega) (fun z => by cases z) s4
              rw [show m1 + (m2 + (m3 + k3)) + 1 = m1 + m2 + m3 + 1 + k3 by omega]
              exact this
            · rw [e1] at h
              have s1 := ih (101 :: 107 :: w) (fun x hx => by
                simp only [List.mem_cons] at hx
                rcases hx with rfl | rfl | hx <;> first | exact .inl rfl | exact .inr rfl | exact hc' x hx) h
              obtain ⟨a, st1, m1, k1, e2, e3, ha, hm1, _, s2⟩ := s1.top
              obtain ⟨b, st2, m2, k2, e4, e5, hb, hm2, dg, s3⟩ := s2.top
              rw [e2, e4, step_two n eo n1 n2, e3, e5]
              have := Stk.cons (c := 101) (f := opF z a b) (op_ok hm1 hm2 ha hb fun _ => dg rfl) (by omega) (fun z => by cases z) s3
              rw [show m1 + (m2 + k2) + 1 = m1 + m2 + 1 + k2 by omega]
              exact this
            · rw [e1] at h
              have s1 := ih (101 :: 101 :: w) (fun x hx => by
                simp only [List.mem_cons] at hx
                rcases hx with rfl | rfl | hx <;> first | exact .inl rfl | exact hc' x hx) h
              obtain ⟨a, st1, m1, k1, e2, e3, ha, hm1, _, s2⟩ := s1.top
              obtain ⟨b, st2, m2, k2, e4, e5, hb, hm2, _, s3⟩ := s2.top
              rw [e2, e4, step_two n eo n1 n2, e3, e5]
              have := Stk.cons (c := 101) (f := opF z a b) (op_ok hm1 hm2 ha hb fun q => absurd q hd) (by omega) (fun z => by cases z) s3
              rw [show m1 + (m2 + k2) + 1 = m1 + m2 + 1 + k2 by omega]
              exact this
      · cases ek : opsL (.str z) 107 with
        | none => simp [walkL, ek] at h
        | some o =>
          obtain ⟨rfl, n, eo, i1, i2⟩ := w_k z hz o ek
          simp only [List.map_cons, walkL, ek] at h
          rw [step_int n eo]
          obtain ⟨_, h2⟩ := w_int z hz n eo
          exact push _ (okB_int (by decide) (Nat.lt_of_le_of_lt h2 (by decide))) (fun _ => ⟨rfl, i1, i2⟩) (ih w hc' h)
end LK

set_option Elab.async false
set_option linter.all false
set_option maxRecDepth 100000
namespace LK
open PySem PySem.Spec PyProof.Rows L2
local macro_rules | `(tactic| walk_at "rs") => `(tactic| simp only [cxK, cxNK, tCallZ, tAsg, tOp, rI0, rS0, rB0, rI, rU, tUn, rEq, rNe, rIxL, rIxT, rIxS, rSetL, rSlLU, rSlS, rSlU, rCatL, rCatU, rRepL, rIn, tVar, tC, gName, gSub, tIfS, tTest, tB, tAnd, tOr, tNot, tNotV, tAndV, tOrV, tIf, tCall, tCons, tNil, tCB, tDrop, tRet, tRetN, tNext, tLstU, tTupU, tM0, tM1, tPar, tPar3, tAug, ipI, tBM, tBM0, rAppend, rPop, tBreak, tCont, tChain, tSl, tPart, tNoPart, L2.start, List.map, List.length_cons, List.length_nil, List.replicate, List.cons_append, List.nil_append, List.append_nil, List.getElem?_cons_zero, List.getElem?_cons_succ, List.set_cons_zero, List.set_cons_succ, Option.some.injEq, V.int.injEq, V.ref.injEq, V.str.injEq, V.bl.injEq, exists_eq_left', exists_eq_left, exists_and_left, decide_eq_true_eq, List.cons.injEq, and_true, true_and, scal, Bool.not_eq_true', decide_eq_false_iff_not, Nat.zero_add, Nat.reduceAdd, Nat.reduceSub, reduceCtorEq, false_and, exists_false, false_or, or_false, CPow, CMul, CDiv, Int.reduceToNat, ↓reduceIte, wipe, sw, List.nil_append, List.singleton_append])
local macro_rules | `(tactic| walk_at "st") => `(tactic| (refine seq_op fun N hN => ?_; walk_at "rs"))
local macro_rules | `(tactic| walk_at "sd") => `(tactic| first | assumption | decide | omega)
local macro_rules | `(tactic| walk_at "rd") => `(tactic| repeat (first
  | refine ⟨_, SqL.of (by assumption), ?_⟩ | refine ⟨_, SqL.of upd_same, ?_⟩ | refine ⟨_, .inl (SqL.of (by assumption)), ?_⟩ | refine ⟨_, (by assumption : _ = some (HO.lst _)), ?_⟩ | refine ⟨_, upd_same, ?_⟩
  | refine ⟨_, rfl, ?_⟩ | refine And.intro (by walk_at "sd") ?_))

/-- at xs the fractions fs -/
inductive Frs (K : PySem.W.Frag) (H : Hp) : List V → List Fr → Prop
  | nil : Frs K H [] []
  | cons {a : Addr} {f : Fr} {xs : List V} {fs : List Fr} : Pr K H a f.1 f.2 → Frs K H xs fs → Frs K H (.ref a :: xs) (f :: fs)
section
variable {K : PySem.W.Frag} {H H' : Hp}
theorem Frs.same (s : Same H H') : ∀ {xs : List V} {fs : List Fr}, Frs K H xs fs → Frs K H' xs fs
  | _, _, .nil => .nil
  | _, _, .cons h q => .cons (Same.seqT s h) (q.same s)
theorem Frs.len : ∀ {xs : List V} {fs : List Fr}, Frs K H xs fs → xs.length = fs.length
  | _, _, .nil => rfl
  | _, _, .cons _ q => congrArg Nat.succ q.len
theorem Frs.app : ∀ {xs ys : List V} {fs gs : List Fr}, Frs K H xs fs → Frs K H ys gs → Frs K H (xs ++ ys) (fs ++ gs)
  | _, _, _, _, .nil, r => r
  | _, _, _, _, .cons h q, r => .cons h (q.app r)
theorem Frs.drop : ∀ {xs : List V} {fs : List Fr} (n : Nat), Frs K H xs fs → Frs K H (xs.drop n) (fs.drop n)
  | _, _, 0, h => h
  | _, _, _ + 1, .nil => .nil
  | _, _, n + 1, .cons _ q => q.drop n
theorem Frs.take : ∀ {xs : List V} {fs : List Fr} (n : Nat), Frs K H xs fs → Frs K H (xs.take n) (fs.take n)
  | _, _, 0, _ => .nil
  | _, _, _ + 1, .nil => .nil
  | _, _, n + 1, .cons h q => .cons h (q.take n)
theorem Frs.get : ∀ {xs : List V} {fs : List Fr} {n : Nat}, Frs K H xs fs → n < fs.length → ∃ a f, xs[n]? = some (.ref a) ∧ fs[n]? = some f ∧ Pr K H a f.1 f.2
  | _, _, _, .nil, h => absurd h (Nat.not_lt_zero _)
  | _, _, 0, .cons h _, _ => ⟨_, _, rfl, rfl, h⟩
  | _, _, n + 1, .cons _ q, h => by
    obtain ⟨a, f, h1, h2, h3⟩ := q.get (n := n) (Nat.lt_of_succ_lt_succ h)
    exact ⟨a, f, h1, h2, h3⟩
theorem Frs.one {a : Addr} {f : Fr} (h : Pr K H a f.1 f.2) : Frs K H [.ref a] [f] := .cons h .nil
end
theorem seqT_upd {K : PySem.W.Frag} {H : Hp} {a p : Addr} {xs ys : List V} {o : HO} (hp : H p = some (.lst ys)) (h : SqT K H a xs) : SqT K (L2.upd H p o) a xs := by
  rcases h with (h | ⟨u, h⟩) | h
  · refine .inl (.inl ?_)
    rw [upd_ne]; exact h
    intro e; rw [e, hp] at h; cases h
  · refine .inl (.inr ⟨u, ?_⟩)
    rw [upd_ne]; exact h
    intro e; rw [e, hp] at h; cases h
  · exact .inr h
theorem Frs.upd {K : PySem.W.Frag} {H : Hp} {p : Addr} {ys : List V} {o : HO} (hp : H p = some (.lst ys)) : ∀ {xs : List V} {fs : List Fr}, Frs K H xs fs → Frs K (L2.upd H p o) xs fs
  | _, _, .nil => .nil
  | _, _, .cons h q => .cons (seqT_upd hp h) (q.upd hp)
end LK

set_option Elab.async false
set_option linter.all false
set_option maxRecDepth 100000
namespace LK
open PySem PySem.Spec PyProof.Rows L2
local macro_rules | `(tactic| walk_at "rs") => `(tactic| simp only [cxK, cxNK, tCallZ, tAsg, tOp, rI0, rS0, rB0, rI, rU, tUn, rEq, rNe, rIxL, rIxT, rIxS, rSetL, rSlLU, rSlS, rSlU, rCatL, rCatU, rRepL, rIn, tVar, tC, gName, gSub, tIfS, tTest, tB, tAnd, tOr, tNot, tNotV, tAndV, tOrV, tIf, tCall, tCons, tNil, tCB, tDrop, tRet, tRetN, tNext, tLstU, tTupU, tM0, tM1, tPar, tPar3, tAug, ipI, tBM, tBM0, rAppend, rPop, tBreak, tCont, tChain, tSl, tPart, tNoPart, L2.start, List.map, List.length_cons, List.length_nil, List.replicate, List.cons_append, List.nil_append, List.append_nil, List.getElem?_cons_zero, List.getElem?_cons_succ, List.set_cons_zero, List.set_cons_succ, Option.some.injEq, V.int.injEq, V.ref.injEq, V.str.injEq, V.bl.injEq, exists_eq_left', exists_eq_left, exists_and_left, decide_eq_true_eq, List.cons.injEq, and_true, true_and, scal, Bool.not_eq_true', decide_eq_false_iff_not, Nat.zero_add, Nat.reduceAdd, Nat.reduceSub, reduceCtorEq, false_and, exists_false, false_or, or_false, CPow, CMul, CDiv, Int.reduceToNat, ↓reduceIte, wipe, sw, List.nil_append, List.singleton_append])
local macro_rules | `(tactic| walk_at "st") => `(tactic| (refine seq_op fun N hN => ?_; walk_at "rs"))
local macro_rules | `(tactic| walk_at "sd") => `(tactic| first | assumption | decide | omega)
local macro_rules | `(tactic| walk_at "rd") => `(tactic| repeat (first
  | refine ⟨_, SqL.of (by assumption), ?_⟩ | refine ⟨_, SqL.of upd_same, ?_⟩ | refine ⟨_, .inl (SqL.of (by assumption)), ?_⟩ | refine ⟨_, (by assumption : _ = some (HO.lst _)), ?_⟩ | refine ⟨_, upd_same, ?_⟩
  | refine ⟨_, rfl, ?_⟩ | refine And.intro (by walk_at "sd") ?_))

section
variable {P : Program} {w : World} {K : PySem.W.Frag} {mg : Str → Option Value} {base : Heap}
theorem ok_truth (T : Txt w K mg) : FnOk P w K mg base CX0 1 T.a_truth T.d_truth ["holds"] (fun vs H Q _ => ∃ b, vs = [.bl b] ∧ ∀ t, Pr K H t (tf b).1 (tf b).2 → Q (.ref t) H) := by
  refine T.F_truth.ok sc_truth (fun vs H Q E h => ?_) (fun cdv A outer s H vs Q E hr h => ?_)
  · obtain ⟨b, rfl, _⟩ := h
    rfl
  · obtain ⟨b, rfl, k⟩ := h
    refine ⟨_, (pss_one (ps_ret (pe_ifExp (pt_val (pv 0)) (pe_glob (v := .ref T.a_ONE) (by rfl) T.m_ONE rfl) (pe_glob (v := .ref T.a_ZERO) (by rfl) T.m_ZERO rfl)))), ?_⟩
    walk_at "rs"
    cases b
    · exact iteFF (by decide) (k _ (T.s_ZERO H))
    · exact iteTT (by decide) (k _ (T.s_ONE H))
/-- two fractions at the heap -/
def sp_rel (K : PySem.W.Frag) : Sp := fun vs H Q _ => ∃ (z : Str) (a b : Addr) (f g : Fr), vs = [.str z, .ref a, .ref b] ∧ Pr K H a f.1 f.2 ∧ Pr K H b g.1 g.2 ∧ okB 4000 f ∧ okB 4000 g ∧ ∀ H', Same H H' → Q (.bl (holdsF z f g)) H'
theorem ok_compared (T : Txt w K mg) : FnOk P w K mg base CX0 2 T.a_compared T.d_compared ["relation", "a", "b"] (sp_rel K) := by
  refine T.F_compared.ok sc_compared (fun vs H Q E h => ?_) (fun cdv A outer s H vs Q E hr h => ?_)
  · obtain ⟨z, a, b, f, g, rfl, _⟩ := h
    rfl
  · obtain ⟨z, a, b, f, g, rfl, ha, hb, hf, hg, k⟩ := h
    have hr_below : Room 1 _ := hr.mono (by decide)
    have G_below := ok_below (P := P) (base := base) T
    refine ⟨_, (pss_cons (ps_if (pt_cmpR op_eqS (pv 0) pe_str (nomark _)) (pss_one (ps_ret (pe_cmpR (op_eqD hr.units) (pv 1) (pv 2) (nomark _)))) pss_nil)
      (pss_cons (ps_if (pt_cmpR op_eqS (pv 0) pe_str (nomark _)) (pss_one (ps_ret (pe_cmpR (op_neD hr.units) (pv 1) (pv 2) (nomark _)))) pss_nil)
      (pss_cons (ps_if (pt_cmpR op_eqS (pv 0) pe_str (nomark _)) (pss_one (ps_ret (pe_call G_below hr_below (by rfl) T.m_below T.F_below.kp T.B_below .nil pass0 (pa_cons (pv 1) (pa_cons (pv 2) pa_nil))))) pss_nil)
      (pss_cons (ps_if (pt_cmpR op_eqS (pv 0) pe_str (nomark _)) (pss_one (ps_ret (pe_not (pe_call G_below hr_below (by rfl) T.m_below T.F_below.kp T.B_below .nil pass0 (pa_cons (pv 2) (pa_cons (pv 1) pa_nil)))))) pss_nil)
      (pss_cons (ps_if (pt_cmpR op_eqS (pv 0) pe_str (nomark _)) (pss_one (ps_ret (pe_call G_below hr_below (by rfl) T.m_below T.F_below.kp T.B_below .nil pass0 (pa_cons (pv 2) (pa_cons (pv 1) pa_nil))))) pss_nil)
      (pss_one (ps_ret (pe_not (pe_call G_below hr_below (by rfl) T.m_below T.F_below.kp T.B_below .nil pass0 (pa_cons (pv 1) (pa_cons (pv 2) pa_nil))))))))))), ?_⟩
    obtain ⟨f1, f2, f3, f4⟩ := hf
    obtain ⟨g1, g2, g3, g4⟩ := hg
    replace k := k H (Same.refl _)
    unfold holdsF gapF at k
    have eq : (decide (f.1 = g.1) && decide (f.2 = g.2)) = decide (f = g) := by
      rw [← Bool.decide_and]
      exact decide_eq_decide.mpr ⟨fun h => Prod.ext h.1 h.2, fun h => by rw [h]; exact ⟨rfl, rfl⟩⟩
    refine seq_op fun N hN => ?_
    walk_at "rs"
    refine ite2 (fun c => ?_) (fun c => hN _ _ ?_)
    · rw [if_pos c] at k
      refine ⟨_, .tuple [.int g.1, .int g.2], dp_pair ha, dp_pair hb, shaped2 _ _, shaped2 _ _, ?_⟩
      rw [eqv_pair, eq]; exact k
    rw [if_neg c] at k
    clear hN N
    refine seq_op fun N hN => ?_
    walk_at "rs"
    refine ite2 (fun c => ?_) (fun c => hN _ _ ?_)
    · rw [if_pos c] at k
      refine ⟨_, .tuple [.int g.1, .int g.2], dp_pair ha, dp_pair hb, shaped2 _ _, shaped2 _ _, ?_⟩
      rw [eqv_pair, eq]; exact k
    rw [if_neg c] at k
    clear hN N
    refine seq_op fun N hN => ?_
    walk_at "rs"
    refine ite2 (fun c => ?_) (fun c => hN _ _ ?_)
    · rw [if_pos c] at k
      refine ⟨_, _, ⟨rfl, rfl⟩, _, _, ha, _, _, hb, f3, f4, g3, g4, ?_⟩
      rw [show decide (f.1 * g.2 < g.1 * f.2) = decide (f.1 * g.2 - g.1 * f.2 < 0) from decide_eq_decide.mpr ⟨fun h => by omega, fun h => by omega⟩]; exact k
    rw [if_neg c] at k
    clear hN N
    refine seq_op fun N hN => ?_
    walk_at "rs"
    refine ite2 (fun c => ?_) (fun c => hN _ _ ?_)
    · rw [if_pos c] at k
      refine ⟨_, _, ⟨rfl, rfl⟩, _, _, hb, _, _, ha, g3, g4, f3, f4, ?_⟩
      rw [show decide (g.1 * f.2 < f.1 * g.2) = decide (0 < f.1 * g.2 - g.1 * f.2) from decide_eq_decide.mpr ⟨fun h => by omega, fun h => by omega⟩]; exact k
    rw [if_neg c] at k
    clear hN N
    refine seq_op fun N hN => ?_
    walk_at "rs"
    refine ite2 (fun c => ?_) (fun c => hN _ _ ?_)
    · rw [if_pos c] at k
      refine ⟨_, _, ⟨rfl, rfl⟩, _, _, hb, _, _, ha, g3, g4, f3, f4, ?_⟩
      rw [show decide (g.1 * f.2 < f.1 * g.2) = decide (0 < f.1 * g.2 - g.1 * f.2) from decide_eq_decide.mpr ⟨fun h => by omega, fun h => by omega⟩]; exact k
    rw [if_neg c] at k
    clear hN N
    walk_at "rs"
    refine ⟨_, _, ⟨rfl, rfl⟩, _, _, ha, _, _, hb, f3, f4, g3, g4, ?_⟩
    rw [show decide (f.1 * g.2 < g.1 * f.2) = decide (f.1 * g.2 - g.1 * f.2 < 0) from decide_eq_decide.mpr ⟨fun h => by omega, fun h => by omega⟩]; exact k
theorem fdiv_low (p : Int) {q : Int} (h : 1 ≤ q) : (frP p q).fdiv (frQ p q) = p.fdiv q := by
  obtain ⟨e1, e2, e3, _, _, _, e7⟩ := fr_spec p (q := q) (by omega)
  have g0 : 0 < frG p q := by unfold frG at e7 ⊢; rw [if_neg (by omega)] at e7 ⊢; omega
  rw [Int.fdiv_eq_ediv_of_nonneg _ (by omega), Int.fdiv_eq_ediv_of_nonneg _ (by omega)]
  generalize frG p q = G at *
  generalize frP p q = a at *
  generalize frQ p q = b at *
  subst e1; subst e2
  rw [Int.mul_ediv_mul_of_pos_left _ _ g0]
theorem fr_one (p : Int) : frP p 1 = p ∧ frQ p 1 = 1 := fr_low (Int.le_refl 1) (by simp)
def sp_whole (K : PySem.W.Frag) : Sp := fun vs H Q _ => ∃ (a b : Addr) (f g : Fr), vs = [.ref a, .ref b] ∧ Pr K H a f.1 f.2 ∧ Pr K H b g.1 g.2 ∧ okB 3900 f ∧ g.2 = 1 ∧ 1 ≤ g.1 ∧ g.1 ≤ 9 ∧ ∀ t H', Same H H' → H t = none → Pr K H' t (f.1.fdiv (f.2 * g.1)) 1 → Q (.ref t) H'
theorem ok_whole_quotient (T : Txt w K mg) : FnOk P w K mg base (L2.CX P w) 5 T.a_whole_quotient T.d_whole_quotient ["a", "b"] (sp_whole K) := by
  refine T.F_whole_quotient.okX sc_whole_quotient (fun vs H Q E h => ?_) (fun cdv A outer s H vs Q E hr h => ?_)
  · obtain ⟨a, b, f, g, rfl, _⟩ := h
    rfl
  · obtain ⟨a, b, f, g, rfl, ha, hb, hf, g2, g1, g9, k⟩ := h
    have hr_fraction : Room 3 _ := hr.mono (by decide)
    have G_fraction := ok_fraction (P := P) (base := base) T
    obtain ⟨fds, dv_fraction, Db_fraction⟩ := T.D_fraction
    have hr_floor_of : Room 1 _ := hr.mono (by decide)
    have G_floor_of := ok_floor_of (P := P) (base := base) T
    have hr_quotient : Room 4 _ := hr.mono (by decide)
    have G_quotient := ok_quotient (P := P) (base := base) T
    refine ⟨_, (pss_one (ps_ret (pe_call G_fraction hr_fraction (by rfl) T.m_fraction T.F_fraction.kp Db_fraction dv_fraction passL (pa_cons (pe_call G_floor_of hr_floor_of (by rfl) T.m_floor_of T.F_floor_of.kp T.B_floor_of .nil pass0 (pa_cons (pe_call G_quotient hr_quotient (by rfl) T.m_quotient T.F_quotient.kp T.B_quotient .nil passL (pa_cons (pv 0) (pa_cons (pv 1) pa_nil))) pa_nil)) pa_nil)))), ?_⟩
    walk_at "rs"
    obtain ⟨f1, f2, f3, f4⟩ := hf
    have q0 : 1 ≤ f.2 * g.1 := by
      have := Int.mul_le_mul f1 g1 (by decide) (by omega)
      omega
    have b9 : g.1.natAbs < 2 ^ 4 := by omega
    have w5 : (f.2 * g.1).natAbs < 2 ^ (3900 + 4) := wide_lt f4 b9
    have lf := pow_le f3 (show 3900 ≤ 4000 by decide)
    have lg := pow_le f4 (show 3900 ≤ 4000 by decide)
    refine ⟨a, b, f.1, f.2, g.1, g.2, rfl, ha, hb, lf, lg, pow_le b9 (by decide), by rw [g2]; exact Nat.one_lt_two_pow (by decide), by omega, by omega, by rw [g2]; simp, fun _ t H1 s1 _ h1 => ?_, fun e => absurd e (by omega)⟩
    rw [g2, Int.mul_one] at h1
    obtain ⟨e1, e2, e3, e4, e5, e6, e7⟩ := fr_spec f.1 (q := f.2 * g.1) (by omega)
    have fq := fdiv_low f.1 q0
    refine ⟨t, rfl, _, _, .inl (.inl h1), by omega, pow_le (Nat.lt_of_le_of_lt e6 w5) (by decide), ?_⟩
    rw [fq]
    have nb : (f.1.fdiv (f.2 * g.1)).natAbs < 2 ^ 4000 := by
      refine Nat.lt_of_le_of_lt ?_ lf
      rw [Int.fdiv_eq_ediv_of_nonneg _ (by omega)]
      exact Int.natAbs_ediv_le_natAbs _ _
    refine ⟨_, 1, rfl, logL nb (by decide) (by decide), by decide, fun _ t H' s2 h0 h2 => ?_, fun e => absurd e (by decide)⟩
    rw [(fr_one _).1, (fr_one _).2] at h2
    exact k t H' (Same.trans s1 s2) (Same.dom s1 t h0) (.inl (.inl h2))
end
end LK

set_option Elab.async false
set_option linter.all false
set_option maxRecDepth 100000
namespace LK
open PySem PySem.Spec PyProof.Rows L2
local macro_rules | `(tactic| walk_at "rs") => `(tactic| simp only [cxK, cxNK, tCallZ, tAsg, tOp, rI0, rS0, rB0, rI, rU, tUn, rEq, rNe, rIxL, rIxT, rIxS, rSetL, rSlLU, rSlS, rSlU, rCatL, rCatU, rRepL, rIn, tVar, tC, gName, gSub, tIfS, tTest, tB, tAnd, tOr, tNot, tNotV, tAndV, tOrV, tIf, tCall, tCons, tNil, tCB, tDrop, tRet, tRetN, tNext, tLstU, tTupU, tM0, tM1, tPar, tPar3, tAug, ipI, tBM, tBM0, rAppend, rPop, tBreak, tCont, tChain, tSl, tPart, tNoPart, L2.start, List.map, List.length_cons, List.length_nil, List.replicate, List.cons_append, List.nil_append, List.append_nil, List.getElem?_cons_zero, List.getElem?_cons_succ, List.set_cons_zero, List.set_cons_succ, Option.some.injEq, V.int.injEq, V.ref.injEq, V.str.injEq, V.bl.injEq, exists_eq_left', exists_eq_left, exists_and_left, decide_eq_true_eq, List.cons.injEq, and_true, true_and, scal, Bool.not_eq_true', decide_eq_false_iff_not, Nat.zero_add, Nat.reduceAdd, Nat.reduceSub, reduceCtorEq, false_and, exists_false, false_or, or_false, CPow, CMul, CDiv, Int.reduceToNat, ↓reduceIte, wipe, sw, List.nil_append, List.singleton_append])
local macro_rules | `(tactic| walk_at "st") => `(tactic| (refine seq_op fun N hN => ?_; walk_at "rs"))
local macro_rules | `(tactic| walk_at "sd") => `(tactic| first | assumption | decide | omega)
local macro_rules | `(tactic| walk_at "rd") => `(tactic| repeat (first
  | refine ⟨_, SqL.of (by assumption), ?_⟩ | refine ⟨_, SqL.of upd_same, ?_⟩ | refine ⟨_, .inl (SqL.of (by assumption)), ?_⟩ | refine ⟨_, (by assumption : _ = some (HO.lst _)), ?_⟩ | refine ⟨_, upd_same, ?_⟩
  | refine ⟨_, rfl, ?_⟩ | refine And.intro (by walk_at "sd") ?_))

section
variable {P : Program} {w : World} {K : PySem.W.Frag} {mg : Str → Option Value} {base : Heap}
def nineL : List Str := ["+", "-", "*", "min", "max", "and", "or", "div", "mod"]
def sp_val2 (K : PySem.W.Frag) : Sp := fun vs H Q _ => ∃ (z : Str) (a b : Addr) (f g : Fr), vs = [.str z, .ref a, .ref b] ∧ (z ∈ relL ∨ z ∈ nineL) ∧ Pr K H a f.1 f.2 ∧ Pr K H b g.1 g.2 ∧ okB 1900 f ∧ okB 1900 g ∧ (z = "div" ∨ z = "mod" → g.2 = 1 ∧ 1 ≤ g.1 ∧ g.1 ≤ 9) ∧ ∀ t H', Same H H' → Pr K H' t (opF z f g).1 (opF z f g).2 → Q (.ref t) H'
theorem opF_rel {z : Str} (h : z ∈ relL) (f g : Fr) : opF z f g = tf (holdsF z f g) := by
  have q : ∀ z ∈ relL, z ≠ "+" ∧ z ≠ "-" ∧ z ≠ "*" ∧ z ≠ "min" ∧ z ≠ "max" ∧ z ≠ "div" ∧ z ≠ "mod" ∧ z ≠ "and" ∧ z ≠ "or" := by decide +kernel
  obtain ⟨a1, a2, a3, a4, a5, a6, a7, a8, a9⟩ := q z h
  unfold opF
  rw [if_neg a1, if_neg a2, if_neg a3, if_neg a4, if_neg a5, if_neg a6, if_neg a7, if_neg a8, if_neg a9]
theorem zero_eq {m : Nat} {f : Fr} (h : okB m f) : PyData.eqv (.tuple [.int f.1, .int f.2]) (.tuple [.int 0, .int 1]) = decide (f.1 = 0) := by
  rw [eqv_pair, ← Bool.decide_and]
  refine decide_eq_decide.mpr ⟨fun q => q.1, fun q => ⟨q, ?_⟩⟩
  obtain ⟨h1, h2, _⟩ := h
  rw [q, Int.natAbs_zero, Nat.gcd_zero_left] at h2
  omega
theorem inV_rel : ∀ z ∈ relL, inV (.str z) relV = true := by decide +kernel
theorem inV_nine : ∀ z ∈ nineL, inV (.str z) relV = false := by decide +kernel
theorem ok_value_of_two (T : Txt w K mg) : FnOk P w K mg base (L2.CX P w) 6 T.a_value_of_two T.d_value_of_two ["word", "a", "b"] (sp_val2 K) := by
  refine T.F_value_of_two.okX sc_value_of_two (fun vs H Q E h => ?_) (fun cdv A outer s H vs Q E hr h => ?_)
  · obtain ⟨z, a, b, f, g, rfl, _⟩ := h
    rfl
  · obtain ⟨z, a, b, f, g, rfl, hz, ha, hb, hf, hg, hd, k⟩ := h
    have hr_below : Room 1 _ := hr.mono (by decide)
    have G_below := ok_below (P := P) (base := base) T
    have hr_truth : Room 1 _ := hr.mono (by decide)
    have G_truth := ok_truth (P := P) (base := base) T
    have hr_compared : Room 2 _ := hr.mono (by decide)
    have G_compared := ok_compared (P := P) (base := base) T
    have hr_plus : Room 4 _ := hr.mono (by decide)
    have G_plus := ok_plus (P := P) (base := base) T
    have hr_minus : Room 4 _ := hr.mono (by decide)
    have G_minus := ok_minus (P := P) (base := base) T
    have hr_times : Room 4 _ := hr.mono (by decide)
    have G_times := ok_times (P := P) (base := base) T
    have hr_whole_quotient : Room 5 _ := hr.mono (by decide)
    have G_whole_quotient := ok_whole_quotient (P := P) (base := base) T
    refine ⟨_, (pss_cons (ps_if (pt_cmpR op_in_seq (pv 0) (pe_glob (v := .ref T.a_RELATIONS) (by rfl) T.m_RELATIONS rfl) (by rfl)) (pss_one (ps_ret (pe_call G_truth hr_truth (by rfl) T.m_truth T.F_truth.kp T.B_truth .nil pass0 (pa_cons (pe_call G_compared hr_compared (by rfl) T.m_compared T.F_compared.kp T.B_compared .nil pass0 (pa_cons (pv 0) (pa_cons (pv 1) (pa_cons (pv 2) pa_nil)))) pa_nil)))) pss_nil)
      (pss_cons (ps_if (pt_cmpR op_eqS (pv 0) pe_str (nomark _)) (pss_one (ps_ret (pe_call G_plus hr_plus (by rfl) T.m_plus T.F_plus.kp T.B_plus .nil pass0 (pa_cons (pv 1) (pa_cons (pv 2) pa_nil))))) pss_nil)
      (pss_cons (ps_if (pt_cmpR op_eqS (pv 0) pe_str (nomark _)) (pss_one (ps_ret (pe_call G_minus hr_minus (by rfl) T.m_minus T.F_minus.kp T.B_minus .nil pass0 (pa_cons (pv 1) (pa_cons (pv 2) pa_nil))))) pss_nil)
      (pss_cons (ps_if (pt_cmpR op_eqS (pv 0) pe_str (nomark _)) (pss_one (ps_ret (pe_call G_times hr_times (by rfl) T.m_times T.F_times.kp T.B_times .nil pass0 (pa_cons (pv 1) (pa_cons (pv 2) pa_nil))))) pss_nil)
      (pss_cons (ps_if (pt_cmpR op_eqS (pv 0) pe_str (nomark _)) (pss_one (ps_ret (pe_ifExp (pt_val (pe_call G_below hr_below (by rfl) T.m_below T.F_below.kp T.B_below .nil pass0 (pa_cons (pv 2) (pa_cons (pv 1) pa_nil)))) (pv 2) (pv 1)))) pss_nil)
      (pss_cons (ps_if (pt_cmpR op_eqS (pv 0) pe_str (nomark _)) (pss_one (ps_ret (pe_ifExp (pt_val (pe_call G_below hr_below (by rfl) T.m_below T.F_below.kp T.B_below .nil pass0 (pa_cons (pv 1) (pa_cons (pv 2) pa_nil)))) (pv 2) (pv 1)))) pss_nil)
      (pss_cons (ps_if (pt_cmpR op_eqS (pv 0) pe_str (nomark _)) (pss_one (ps_ret (pe_call G_truth hr_truth (by rfl) T.m_truth T.F_truth.kp T.B_truth .nil pass0 (pa_cons (pe_and (pe_cmpR (op_neD hr.units) (pv 1) (pe_glob (v := .ref T.a_ZERO) (by rfl) T.m_ZERO rfl) (nomark _)) (pe_one (pe_cmpR (op_neD hr.units) (pv 2) (pe_glob (v := .ref T.a_ZERO) (by rfl) T.m_ZERO rfl) (nomark _)))) pa_nil)))) pss_nil)
      (pss_cons (ps_if (pt_cmpR op_eqS (pv 0) pe_str (nomark _)) (pss_one (ps_ret (pe_call G_truth hr_truth (by rfl) T.m_truth T.F_truth.kp T.B_truth .nil pass0 (pa_cons (pe_or (pe_cmpR (op_neD hr.units) (pv 1) (pe_glob (v := .ref T.a_ZERO) (by rfl) T.m_ZERO rfl) (nomark _)) (pe_one (pe_cmpR (op_neD hr.units) (pv 2) (pe_glob (v := .ref T.a_ZERO) (by rfl) T.m_ZERO rfl) (nomark _)))) pa_nil)))) pss_nil)
      (pss_cons (ps_if (pt_cmpR op_eqS (pv 0) pe_str (nomark _)) (pss_one (ps_ret (pe_call G_whole_quotient hr_whole_quotient (by rfl) T.m_whole_quotient T.F_whole_quotient.kp T.B_whole_quotient .nil passL (pa_cons (pv 1) (pa_cons (pv 2) pa_nil))))) pss_nil)
      (pss_one (ps_ret (pe_call G_minus hr_minus (by rfl) T.m_minus T.F_minus.kp T.B_minus .nil pass0 (pa_cons (pv 1) (pa_cons (pe_call G_times hr_times (by rfl) T.m_times T.F_times.kp T.B_times .nil pass0 (pa_cons (pv 2) (pa_cons (pe_call G_whole_quotient hr_whole_quotient (by rfl) T.m_whole_quotient T.F_whole_quotient.kp T.B_whole_quotient .nil passL (pa_cons (pv 1) (pa_cons (pv 2) pa_nil))) pa_nil))) pa_nil)))))))))))))), ?_⟩
    obtain ⟨f1, f2, f3, f4⟩ := hf
    obtain ⟨g1, g2, g3, g4⟩ := hg
    have nz : f.2 * g.2 ≠ 0 := Int.mul_ne_zero (by omega) (by omega)
    have F3 := pow_le f3 (show 1900 ≤ 4000 by decide)
    have F4 := pow_le f4 (show 1900 ≤ 4000 by decide)
    have G3 := pow_le g3 (show 1900 ≤ 4000 by decide)
    have G4 := pow_le g4 (show 1900 ≤ 4000 by decide)
    have fk : okB 4000 f := ⟨f1, f2, F3, F4⟩
    have gk : okB 4000 g := ⟨g1, g2, G3, G4⟩
    refine seq_op fun N hN => ?_
    walk_at "rs"
    refine ⟨relV, .inr (T.s_RELATIONS _), rfl, by decide +kernel, ite2 (fun c => ?_) (fun c => hN _ _ ?_)⟩
    · have hr2 : z ∈ relL := by
        rcases hz with hz | hz
        · exact hz
        · rw [inV_nine z hz] at c; cases c
      rw [opF_rel hr2] at k
      exact ⟨z, a, b, f, g, rfl, ha, hb, fk, gk, fun H1 s1 => ⟨_, rfl, fun t ht => k t H1 s1 ht⟩⟩
    clear hN N
    replace hz : z ∈ nineL := by
      rcases hz with hz | hz
      · exact absurd (inV_rel z hz) c
      · exact hz
    unfold opF gapF at k
    refine seq_op fun N hN => ?_
    walk_at "rs"
    refine ite2 (fun c => ?_) (fun c => hN _ _ ?_)
    · rw [if_pos c] at k
      exact ⟨a, b, _, _, _, _, rfl, ha, hb, F3, F4, G3, G4, nz, fun t H' s1 _ h1 => k t H' s1 (.inl (.inl h1))⟩
    rw [if_neg c] at k
    clear hN N
    refine seq_op fun N hN => ?_
    walk_at "rs"
    refine ite2 (fun c => ?_) (fun c => hN _ _ ?_)
    · rw [if_pos c] at k
      exact ⟨a, b, _, _, _, _, rfl, ha, hb, F3, F4, G3, G4, nz, fun t H' s1 _ h1 => k t H' s1 (.inl (.inl h1))⟩
    rw [if_neg c] at k
    clear hN N
    refine seq_op fun N hN => ?_
    walk_at "rs"
    refine ite2 (fun c => ?_) (fun c => hN _ _ ?_)
    · rw [if_pos c] at k
      exact ⟨a, b, _, _, _, _, rfl, ha, hb, F3, F4, G3, G4, nz, fun t H' s1 _ h1 => k t H' s1 (.inl (.inl h1))⟩
    rw [if_neg c] at k
    clear hN N
    refine seq_op fun N hN => ?_
    walk_at "rs"
    refine ite2 (fun c => ?_) (fun c => hN _ _ ?_)
    · rw [if_pos c] at k
      refine ⟨_, _, ⟨rfl, rfl⟩, _, _, hb, _, _, ha, G3, G4, F3, F4, ite2 (fun d => ?_) (fun d => ?_)⟩
      · rw [if_pos (by omega)] at k; exact k b H (Same.refl _) hb
      · rw [if_neg (by omega)] at k; exact k a H (Same.refl _) ha
    rw [if_neg c] at k
    clear hN N
    refine seq_op fun N hN => ?_
    walk_at "rs"
    refine ite2 (fun c => ?_) (fun c => hN _ _ ?_)
    · rw [if_pos c] at k
      refine ⟨_, _, ⟨rfl, rfl⟩, _, _, ha, _, _, hb, F3, F4, G3, G4, ite2 (fun d => ?_) (fun d => ?_)⟩
      · rw [if_pos (by omega)] at k; exact k b H (Same.refl _) hb
      · rw [if_neg (by omega)] at k; exact k a H (Same.refl _) ha
    rw [if_neg c] at k
    clear hN N
    refine seq_op fun N hN => ?_
    walk_at "rs"
    refine ite2 (fun c => ?_) (fun c => hN _ _ ?_)
    · subst c
      rw [if_neg (by decide), if_neg (by decide), if_pos rfl] at k
      have kb : ∀ (b : Bool), b = (decide (f.1 ≠ 0) && decide (g.1 ≠ 0)) → ∀ t, Pr K H t (tf b).1 (tf b).2 → Q (.ref t) H := fun b e t ht => by subst e; exact k t H (Same.refl _) ht
      refine ⟨_, .tuple [.int 0, .int 1], dp_pair ha, dp_pair (T.s_ZERO H), shaped2 _ _, shaped2 _ _, _, rfl, ite2 (fun d => ?_) (fun d => ?_)⟩
      · rw [zero_eq fk] at d
        refine ⟨_, .tuple [.int 0, .int 1], dp_pair hb, dp_pair (T.s_ZERO H), shaped2 _ _, shaped2 _ _, _, rfl, kb _ ?_⟩
        rw [zero_eq gk]
        simp at d
        simp [d]
      · rw [zero_eq fk] at d
        refine kb _ ?_
        simp at d
        simp [d]
    clear hN N
    refine seq_op fun N hN => ?_
    walk_at "rs"
    refine ite2 (fun c => ?_) (fun c => hN _ _ ?_)
    · subst c
      rw [if_neg (by decide), if_neg (by decide), if_neg (by decide), if_pos rfl] at k
      have kb : ∀ (b : Bool), b = (decide (f.1 ≠ 0) || decide (g.1 ≠ 0)) → ∀ t, Pr K H t (tf b).1 (tf b).2 → Q (.ref t) H := fun b e t ht => by subst e; exact k t H (Same.refl _) ht
      refine ⟨_, .tuple [.int 0, .int 1], dp_pair ha, dp_pair (T.s_ZERO H), shaped2 _ _, shaped2 _ _, _, rfl, ite2 (fun d => ?_) (fun d => ?_)⟩
      · rw [zero_eq fk] at d
        refine kb _ ?_
        simp at d
        simp [d]
      · rw [zero_eq fk] at d
        refine ⟨_, .tuple [.int 0, .int 1], dp_pair hb, dp_pair (T.s_ZERO H), shaped2 _ _, shaped2 _ _, _, rfl, kb _ ?_⟩
        rw [zero_eq gk]
        simp at d
        simp [d]
    clear hN N
    refine seq_op fun N hN => ?_
    walk_at "rs"
    refine ite2 (fun c => ?_) (fun c => hN _ _ ?_)
    · subst c
      rw [if_pos rfl] at k
      obtain ⟨d1, d2, d3⟩ := hd (.inl rfl)
      exact ⟨a, b, f, g, rfl, ha, hb, ⟨f1, f2, pow_le f3 (by decide), pow_le f4 (by decide)⟩, d1, d2, d3, fun t H' s1 _ h1 => k t H' s1 h1⟩
    clear hN N
    walk_at "rs"
    have e : z = "mod" := by
      have q : ∀ z ∈ nineL, z = "+" ∨ z = "-" ∨ z = "*" ∨ z = "min" ∨ z = "max" ∨ z = "and" ∨ z = "or" ∨ z = "div" ∨ z = "mod" := by decide +kernel
      rcases q z hz with e | e | e | e | e | e | e | e | e <;> first | exact e | exact absurd e (by assumption)
    subst e
    rw [if_neg (by decide), if_pos rfl] at k
    obtain ⟨d1, d2, d3⟩ := hd (.inr rfl)
    have q0 : 1 ≤ f.2 * g.1 := by
      have := Int.mul_le_mul f1 d2 (by decide) (by omega)
      omega
    have nb : (f.1.fdiv (f.2 * g.1)).natAbs < 2 ^ 1900 := by
      refine Nat.lt_of_le_of_lt ?_ f3
      rw [Int.fdiv_eq_ediv_of_nonneg _ (by omega)]
      exact Int.natAbs_ediv_le_natAbs _ _
    obtain ⟨n, hn⟩ : ∃ n, n = f.1.fdiv (f.2 * g.1) := ⟨_, rfl⟩
    rw [← hn] at k nb
    refine ⟨a, b, f, g, rfl, ha, hb, ⟨f1, f2, pow_le f3 (by decide), pow_le f4 (by decide)⟩, d1, d2, d3, fun t1 H1 s1 _ h1 => ?_⟩
    rw [← hn] at h1
    refine ⟨b, t1, _, _, _, _, rfl, Same.seqT s1 hb, h1, G3, G4, pow_le nb (by decide), Nat.one_lt_two_pow (by decide), by show g.2 * 1 ≠ 0; rw [d1]; decide, fun t2 H2 s2 _ h2 => ?_⟩
    rw [d1] at h2
    dsimp only at h2
    rw [Int.mul_one, (fr_one _).1, (fr_one _).2] at h2
    have gn : (g.1 * n).natAbs < 2 ^ (4 + 1900) := wide_lt (show g.1.natAbs < 2 ^ 4 by omega) nb
    refine ⟨a, t2, _, _, _, _, rfl, Same.seqT s2 (Same.seqT s1 ha), .inl (.inl h2), F3, F4, pow_le gn (by decide), Nat.one_lt_two_pow (by decide), by show f.2 * 1 ≠ 0; rw [Int.mul_one]; omega, fun t H' s3 _ h3 => ?_⟩
    refine k t H' (Same.trans s1 (Same.trans s2 s3)) (.inl (.inl ?_))
    dsimp only at h3
    rw [Int.mul_one, Int.mul_one] at h3
    show H' t = some (.tup [.int (frP _ _), .int (frQ _ _)])
    rw [Int.mul_comm n g.1]
    exact h3
end
end LK

set_option Elab.async false
set_option linter.all false
set_option maxRecDepth 100000
namespace LK
open PySem PySem.Spec PyProof.Rows L2
local macro_rules | `(tactic| walk_at "rs") => `(tactic| simp only [cxK, cxNK, tCallZ, tAsg, tOp, rI0, rS0, rB0, rI, rU, tUn, rEq, rNe, rIxL, rIxT, rIxS, rSetL, rSlLU, rSlS, rSlU, rCatL, rCatU, rRepL, rIn, tVar, tC, gName, gSub, tIfS, tTest, tB, tAnd, tOr, tNot, tNotV, tAndV, tOrV, tIf, tCall, tCons, tNil, tCB, tDrop, tRet, tRetN, tNext, tLstU, tTupU, tM0, tM1, tPar, tPar3, tAug, ipI, tBM, tBM0, rAppend, rPop, tBreak, tCont, tChain, tSl, tPart, tNoPart, L2.start, List.map, List.length_cons, List.length_nil, List.replicate, List.cons_append, List.nil_append, List.append_nil, List.getElem?_cons_zero, List.getElem?_cons_succ, List.set_cons_zero, List.set_cons_succ, Option.some.injEq, V.int.injEq, V.ref.injEq, V.str.injEq, V.bl.injEq, exists_eq_left', exists_eq_left, exists_and_left, decide_eq_true_eq, List.cons.injEq, and_true, true_and, scal, Bool.not_eq_true', decide_eq_false_iff_not, Nat.zero_add, Nat.reduceAdd, Nat.reduceSub, reduceCtorEq, false_and, exists_false, false_or, or_false, CPow, CMul, CDiv, Int.reduceToNat, ↓reduceIte, wipe, sw, List.nil_append, List.singleton_append])
local macro_rules | `(tactic| walk_at "st") => `(tactic| (refine seq_op fun N hN => ?_; walk_at "rs"))
local macro_rules | `(tactic| walk_at "sd") => `(tactic| first | assumption | decide | omega)
local macro_rules | `(tactic| walk_at "rd") => `(tactic| repeat (first
  | refine ⟨_, SqL.of (by assumption), ?_⟩ | refine ⟨_, SqL.of upd_same, ?_⟩ | refine ⟨_, .inl (SqL.of (by assumption)), ?_⟩ | refine ⟨_, (by assumption : _ = some (HO.lst _)), ?_⟩ | refine ⟨_, upd_same, ?_⟩
  | refine ⟨_, rfl, ?_⟩ | refine And.intro (by walk_at "sd") ?_))

/-- what stands at the heap for an entry -/
def EntAt (K : PySem.W.Frag) (H : Hp) : Option V → Option Fr → Prop
  | none, none => True
  | some v, some f => ∃ a, v = .ref a ∧ Pr K H a f.1 f.2
  | _, _ => False
/-- the entries of a dict of fractions -/
def Ents (K : PySem.W.Frag) (H : Hp) (kvs : List (Key × V)) : Prop := ∀ p ∈ kvs, ∃ z a f, p = ((.inr z : Key), V.ref a) ∧ okB 64 f ∧ Pr K H a f.1 f.2
structure DT (K : PySem.W.Frag) (H : Hp) (d : Addr) (kvs : List (Key × V)) (tab : Str → Option Fr) : Prop where
  at_ : H d = some (.dK kvs)
  len : kvs.length ≤ 60
  ents : Ents K H kvs
  tab : ∀ z, EntAt K H (valV kvs (.inr z)) (tab z)
section
variable {K : PySem.W.Frag} {H H' : Hp} {d : Addr} {kvs : List (Key × V)} {tab : Str → Option Fr}
theorem EntAt.same (s : Same H H') : ∀ {o : Option V} {u : Option Fr}, EntAt K H o u → EntAt K H' o u
  | none, none, _ => trivial
  | some _, some _, ⟨a, h1, h2⟩ => ⟨a, h1, Same.seqT s h2⟩
theorem DT.same (s : Same H H') (D : DT K H d kvs tab) : DT K H' d kvs tab where
  at_ := s _ _ D.at_
  len := D.len
  ents := fun p hp => by
    obtain ⟨z, a, f, h1, h2, h3⟩ := D.ents p hp
    exact ⟨z, a, f, h1, h2, Same.seqT s h3⟩
  tab := fun z => (D.tab z).same s
theorem DT.get (D : DT K H d kvs tab) {z : Str} {f : Fr} (h : tab z = some f) : ∃ a, valV kvs (.inr z) = some (.ref a) ∧ Pr K H a f.1 f.2 := by
  have := D.tab z
  rw [h] at this
  cases e : valV kvs (.inr z) with
  | none => rw [e] at this; exact this.elim
  | some v =>
    rw [e] at this
    obtain ⟨a, rfl, h2⟩ := this
    exact ⟨a, rfl, h2⟩
theorem DT.has (D : DT K H d kvs tab) (z : Str) : (valV kvs (.inr z)).isSome = (tab z).isSome := by
  have := D.tab z
  cases e : valV kvs (.inr z) <;> cases e2 : tab z <;> rw [e, e2] at this <;> first | rfl | exact this.elim
end
theorem seqL_same {K : PySem.W.Frag} {q : Addr} {H H' : Hp} {xs : List V} (k : Same H H') (h : SqL K H q xs) : SqL K H' q xs := by
  rcases h with (h | ⟨o, h⟩) | h
  · exact .inl (.inl (k q _ h))
  · exact .inl (.inr ⟨o, k q _ h⟩)
  · exact .inr h
/-- how many a word takes -/
def many (z : Str) : Nat := match opsOf z with
  | some o => o.length
  | none => 0
section
variable {P : Program} {w : World} {K : PySem.W.Frag} {mg : Str → Option Value} {base : Heap}
def sp_vow (K : PySem.W.Frag) : Sp := fun vs H Q _ => ∃ (z : Str) (o d : Addr) (xs : List V) (fs : List Fr) (kvs : List (Key × V)) (tab : Str → Option Fr) (f : Fr), vs = [.str z, .ref o, .ref d] ∧ z ∈ allW ∧ SqL K H o xs ∧ Frs K H xs fs ∧ DT K H d kvs tab ∧
  (nm z = true → (tab z).isSome = true) ∧ (∀ g ∈ fs, okB 1900 g) ∧ (nm z = false → many z = fs.length) ∧ stepF tab z fs = [f] ∧ (z = "div" ∨ z = "mod" → ∀ g, fs[1]? = some g → g.2 = 1 ∧ 1 ≤ g.1 ∧ g.1 ≤ 9) ∧ ∀ t H', Same H H' → Pr K H' t f.1 f.2 → Q (.ref t) H'
theorem lenA1 {α : Type} {l : List α} (h : 1 = l.length) : ∃ a, l = [a] := by
  match l, h with
  | [a], _ => exact ⟨a, rfl⟩
theorem lenA2 {α : Type} {l : List α} (h : 2 = l.length) : ∃ a b, l = [a, b] := by
  match l, h with
  | [a, b], _ => exact ⟨a, b, rfl⟩
theorem lenA3 {α : Type} {l : List α} (h : 3 = l.length) : ∃ a b c, l = [a, b, c] := by
  match l, h with
  | [a, b, c], _ => exact ⟨a, b, c, rfl⟩
theorem w_two : ∀ z ∈ allW, z ≠ "not" → z ≠ "if" → (opsOf z).isSome = true → (z ∈ relL ∨ z ∈ nineL) ∧ many z = 2 ∧ nm z = false := by decide +kernel
theorem nm_not : nm "not" = false ∧ nm "if" = false ∧ many "not" = 1 ∧ many "if" = 3 := by decide +kernel
theorem ok_value_of_word (T : Txt w K mg) : FnOk P w K mg base (L2.CX P w) 7 T.a_value_of_word T.d_value_of_word ["word", "operands", "values"] (sp_vow K) := by
  refine T.F_value_of_word.okX sc_value_of_word (fun vs H Q E h => ?_) (fun cdv A outer s H vs Q E hr h => ?_)
  · obtain ⟨z, o, d, xs, fs, kvs, tab, f, rfl, _⟩ := h
    rfl
  · obtain ⟨z, o, d, xs, fs, kvs, tab, f, rfl, hz, ho, hx, hD, hn, hb, hm, hf, hd, k⟩ := h
    have hr_is_name : Room 3 _ := hr.mono (by decide)
    have G_is_name := ok_is_name (P := P) (base := base) T
    have hr_truth : Room 1 _ := hr.mono (by decide)
    have G_truth := ok_truth (P := P) (base := base) T
    have hr_value_of_two : Room 6 _ := hr.mono (by decide)
    have G_value_of_two := ok_value_of_two (P := P) (base := base) T
    have hr_fraction : Room 3 _ := hr.mono (by decide)
    have G_fraction := ok_fraction (P := P) (base := base) T
    obtain ⟨fds, dv_fraction, Db_fraction⟩ := T.D_fraction
    have hu1 : (A.deeper (envOfC "value_of_word" (defScope s_value_of_word) s.heap.objs.size T.a_value_of_word cdv)).units + 1 < cLine := Nat.lt_of_le_of_lt (Nat.add_le_add_left (by decide : 1 ≤ 64) _) hr.units
    refine ⟨_, (pss_cons (ps_if (pt_val (pe_call G_is_name hr_is_name (by rfl) T.m_is_name T.F_is_name.kp T.B_is_name .nil pass0 (pa_cons (pv 0) pa_nil))) (pss_one (ps_ret (pe_dget hu1 (pv 2) (pv 0) (fun _ _ => rfl)))) pss_nil)
      (pss_cons (ps_if (pt_cmpR op_eqS (pv 0) pe_str (nomark _)) (pss_one (ps_ret (pe_call G_truth hr_truth (by rfl) T.m_truth T.F_truth.kp T.B_truth .nil pass0 (pa_cons (pe_cmpR (op_eqD hr.units) (pe_ix ix_list (pv 1) pe_int (fun _ _ => rfl)) (pe_glob (v := .ref T.a_ZERO) (by rfl) T.m_ZERO rfl) (nomark _)) pa_nil)))) pss_nil)
      (pss_cons (ps_if (pt_cmpR op_eqS (pv 0) pe_str (nomark _)) (pss_one (ps_ret (pe_ifExp (pt_cmpR (op_eqD hr.units) (pe_ix ix_list (pv 1) pe_int (fun _ _ => rfl)) (pe_glob (v := .ref T.a_ZERO) (by rfl) T.m_ZERO rfl) (nomark _)) (pe_ix ix_list (pv 1) pe_int (fun _ _ => rfl)) (pe_ix ix_list (pv 1) pe_int (fun _ _ => rfl))))) pss_nil)
      (pss_cons (ps_if (pt_cmpR (op_in_kd T.D_OPERANDS) (pv 0) (pe_glob (v := .ref T.a_OPERANDS) (by rfl) T.m_OPERANDS rfl) (by rfl)) (pss_one (ps_ret (pe_call G_value_of_two hr_value_of_two (by rfl) T.m_value_of_two T.F_value_of_two.kp T.B_value_of_two .nil passL (pa_cons (pv 0) (pa_cons (pe_ix ix_list (pv 1) pe_int (fun _ _ => rfl)) (pa_cons (pe_ix ix_list (pv 1) pe_int (fun _ _ => rfl)) pa_nil)))))) pss_nil)
      (pss_one (ps_ret (pe_call G_fraction hr_fraction (by rfl) T.m_fraction T.F_fraction.kp Db_fraction dv_fraction passL (pa_cons (pe_callTy call_int_str (by rfl) T.n_int (by decide +kernel) (pa_cons (pv 0) pa_nil)) pa_nil)))))))), ?_⟩
    have hl := hx.len
    refine seq_op fun N hN => ?_
    walk_at "rs"
    refine ⟨.str z, .str z, rfl, .str z, (by exact decide_eq_true (Nat.le_trans (w_len z hz).1 (by decide))), fun H1 s1 => ⟨_, rfl, ite2 (fun c => ?_) (fun c => hN _ _ ?_)⟩⟩
    · have c' : nm z = true := by rw [← w_name z hz]; exact c
      obtain ⟨g, hg⟩ := Option.isSome_iff_exists.mp (hn c')
      have hD1 := hD.same s1
      obtain ⟨a, e1, e2⟩ := hD1.get hg
      rw [step_name c' hg] at hf
      have ef : g = f := (List.cons.inj hf).1
      subst ef
      refine ⟨_, rfl, _, rfl, d, .ref a, rfl, .inl ⟨kvs, .inr z, .inl hD1.at_, rfl, e1.symm⟩, k a H1 s1 e2⟩
    clear hN N
    rw [w_name z hz] at c
    simp only [Bool.not_eq_true] at c
    have ho1 := seqL_same s1 ho
    have hx1 := hx.same s1
    have hD1 := hD.same s1
    refine seq_op fun N hN => ?_
    walk_at "rs"
    refine ite2 (fun c1 => ?_) (fun c1 => hN _ _ ?_)
    · subst c1
      obtain ⟨g, rfl⟩ := lenA1 (by rw [← hm c]; exact nm_not.2.2.1.symm)
      rw [step_not] at hf
      have ef := (List.cons.inj hf).1
      subst ef
      cases hx1 with
      | cons h q =>
      cases q
      have hg := hb g List.mem_cons_self
      refine ⟨_, ho1, _, rfl, .tuple [.int g.1, .int g.2], .tuple [.int 0, .int 1], dp_pair h, dp_pair (T.s_ZERO H1), shaped2 _ _, shaped2 _ _, _, rfl, ?_⟩
      rw [zero_eq hg]
      exact fun t ht => k t H1 s1 ht
    clear hN N
    refine seq_op fun N hN => ?_
    walk_at "rs"
    refine ite2 (fun c2 => ?_) (fun c2 => hN _ _ ?_)
    · subst c2
      obtain ⟨g1, g2, g3, rfl⟩ := lenA3 (by rw [← hm c]; exact nm_not.2.2.2.symm)
      rw [step_if] at hf
      have ef := (List.cons.inj hf).1
      cases hx1 with
      | cons h1 q =>
      cases q with
      | cons h2 q =>
      cases q with
      | cons h3 q =>
      cases q
      have hg := hb g1 List.mem_cons_self
      refine ⟨_, ho1, _, rfl, .tuple [.int g1.1, .int g1.2], .tuple [.int 0, .int 1], dp_pair h1, dp_pair (T.s_ZERO H1), shaped2 _ _, shaped2 _ _, _, rfl, ?_⟩
      rw [zero_eq hg]
      refine ite2 (fun d1 => ?_) (fun d1 => ?_)
      · rw [if_pos (of_decide_eq_true d1)] at ef
        subst ef
        exact ⟨_, ho1, _, rfl, k _ H1 s1 h3⟩
      · rw [if_neg (fun h => d1 (decide_eq_true h))] at ef
        subst ef
        exact ⟨_, ho1, _, rfl, k _ H1 s1 h2⟩
    clear hN N
    refine seq_op fun N hN => ?_
    walk_at "rs"
    obtain ⟨r, e1, e2⟩ := opt_OPERANDS T z
    have es : r.isSome = (opsOf z).isSome := by
      obtain ⟨r2, e3, e4⟩ := T.g_OPERANDS z
      rw [e1] at e3
      cases e3
      cases r with
      | none =>
        have e5 : opsOf z = none := e4
        rw [e5]; rfl
      | some u =>
        obtain ⟨y, e5, _⟩ := e4
        rw [e5]; rfl
    refine ⟨r, e1, ?_⟩
    rw [es]
    refine ite2 (fun c3 => ?_) (fun c3 => hN _ _ ?_)
    · obtain ⟨w1, w2, _⟩ := w_two z hz c1 c2 c3
      obtain ⟨g1, g2, rfl⟩ := lenA2 (by rw [← hm c, w2])
      obtain ⟨ov, hov⟩ := Option.isSome_iff_exists.mp c3
      rw [step_two c hov c1 c2] at hf
      have ef := (List.cons.inj hf).1
      subst ef
      cases hx1 with
      | cons h1 q =>
      cases q with
      | cons h2 q =>
      cases q
      exact ⟨_, ho1, _, rfl, _, ho1, _, rfl, z, _, _, g1, g2, rfl, w1, h1, h2, hb g1 List.mem_cons_self, hb g2 (List.mem_cons_of_mem _ List.mem_cons_self), fun q => hd q g2 rfl, fun t H' s2 ht => k t H' (Same.trans s1 s2) ht⟩
    · clear hN N
      have c4 : opsOf z = none := by cases e : opsOf z <;> simp_all
      obtain ⟨i1, i2⟩ := w_int z hz c c4
      rw [step_int c c4] at hf
      have ef := (List.cons.inj hf).1
      subst ef
      walk_at "rs"
      have lg : (intOf z).natAbs.log2 < 9000 := logL (Nat.lt_of_le_of_lt i2 (show 9 < 2 ^ 4 by decide)) (by decide) (by decide)
      refine ⟨_, i1, Nat.le_trans (w_len z hz).1 (by decide), _, 1, rfl, lg, by decide, fun _ t H' s2 h0 h2 => ?_, fun e => absurd e (by decide)⟩
      rw [(fr_one _).1, (fr_one _).2] at h2
      exact k t H' (Same.trans s1 s2) (.inl (.inl h2))
end
end LK

set_option Elab.async false
set_option linter.all false
set_option maxRecDepth 100000
namespace LK
open PySem PySem.Spec PyProof.Rows L2
local macro_rules | `(tactic| walk_at "rs") => `(tactic| simp only [cxK, cxNK, tCallZ, tAsg, tOp, rI0, rS0, rB0, rI, rU, tUn, rEq, rNe, rIxL, rIxT, rIxS, rSetL, rSlLU, rSlS, rSlU, rCatL, rCatU, rRepL, rIn, tVar, tC, gName, gSub, tIfS, tTest, tB, tAnd, tOr, tNot, tNotV, tAndV, tOrV, tIf, tCall, tCons, tNil, tCB, tDrop, tRet, tRetN, tNext, tLstU, tTupU, tM0, tM1, tPar, tPar3, tAug, ipI, tBM, tBM0, rAppend, rPop, tBreak, tCont, tChain, tSl, tPart, tNoPart, L2.start, List.map, List.length_cons, List.length_nil, List.replicate, List.cons_append, List.nil_append, List.append_nil, List.getElem?_cons_zero, List.getElem?_cons_succ, List.set_cons_zero, List.set_cons_succ, Option.some.injEq, V.int.injEq, V.ref.injEq, V.str.injEq, V.bl.injEq, exists_eq_left', exists_eq_left, exists_and_left, decide_eq_true_eq, List.cons.injEq, and_true, true_and, scal, Bool.not_eq_true', decide_eq_false_iff_not, Nat.zero_add, Nat.reduceAdd, Nat.reduceSub, reduceCtorEq, false_and, exists_false, false_or, or_false, CPow, CMul, CDiv, Int.reduceToNat, ↓reduceIte, wipe, sw, List.nil_append, List.singleton_append])
local macro_rules | `(tactic| walk_at "st") => `(tactic| (refine seq_op fun N hN => ?_; walk_at "rs"))
local macro_rules | `(tactic| walk_at "sd") => `(tactic| first | assumption | decide | omega)
local macro_rules | `(tactic| walk_at "rd") => `(tactic| repeat (first
  | refine ⟨_, SqL.of (by assumption), ?_⟩ | refine ⟨_, SqL.of upd_same, ?_⟩ | refine ⟨_, .inl (SqL.of (by assumption)), ?_⟩ | refine ⟨_, (by assumption : _ = some (HO.lst _)), ?_⟩ | refine ⟨_, upd_same, ?_⟩
  | refine ⟨_, rfl, ?_⟩ | refine And.intro (by walk_at "sd") ?_))

def addS (acc : List Str) (z : Str) : List Str := if z ∈ acc then acc else acc ++ [z]
def onceS (l : List Str) : List Str := l.foldl addS []
def namesOf (ws : List Str) : List Str := onceS (ws.filter nm)
theorem namesOf_snoc (l : List Str) (z : Str) : namesOf (l ++ [z]) = if nm z = true then addS (namesOf l) z else namesOf l := by
  unfold namesOf onceS
  rw [List.filter_append]
  by_cases h : nm z = true
  · rw [if_pos h, List.filter_cons_of_pos h, List.filter_nil, List.foldl_append]; rfl
  · rw [if_neg h, List.filter_cons_of_neg h, List.filter_nil, List.append_nil]
theorem mem_addS {x z : Str} {acc : List Str} : x ∈ addS acc z ↔ x ∈ acc ∨ x = z := by
  unfold addS
  split
  · rename_i h
    exact ⟨.inl, fun q => by rcases q with q | rfl; exact q; exact h⟩
  · simp
theorem mem_foldS {x : Str} : ∀ {l acc : List Str}, x ∈ l.foldl addS acc ↔ x ∈ acc ∨ x ∈ l
  | [], acc => by simp
  | a :: l, acc => by
    rw [List.foldl_cons, mem_foldS, mem_addS]
    simp [or_assoc]
theorem mem_names {ws : List Str} {x : Str} : x ∈ namesOf ws ↔ x ∈ ws ∧ nm x = true := by
  unfold namesOf onceS
  rw [mem_foldS]
  simp
theorem len_addS (acc : List Str) (z : Str) : (addS acc z).length ≤ acc.length + 1 := by
  unfold addS; split <;> simp
theorem len_foldS : ∀ (l acc : List Str), (l.foldl addS acc).length ≤ acc.length + l.length
  | [], acc => by simp
  | a :: l, acc => by
    rw [List.foldl_cons, List.length_cons]
    have h1 := len_foldS l (addS acc a)
    have h2 := len_addS acc a
    omega
theorem len_names (ws : List Str) : (namesOf ws).length ≤ ws.length := by
  have h1 := len_foldS (ws.filter nm) []
  have h2 := List.length_filter_le nm ws
  unfold namesOf onceS
  simp at h1 ⊢
  omega
def mkT (z : Str) : Key × V := (.inr z, .bl true)
theorem putT (l : List Str) (z : Str) : putK (l.map mkT) (.inr z) (.bl true) = (addS l z).map mkT := by
  unfold addS
  by_cases h : z ∈ l
  · rw [if_pos h]
    unfold putK
    rw [if_pos (List.any_eq_true.mpr ⟨mkT z, List.mem_map.mpr ⟨z, h, rfl⟩, decide_eq_true rfl⟩), List.map_map]
    refine List.map_congr_left fun a _ => ?_
    show (if (Sum.inr a : Key) = Sum.inr z then _ else _) = _
    split
    · rename_i e; cases e; rfl
    · rfl
  · rw [if_neg h]
    unfold putK
    rw [if_neg, List.map_append]
    · rfl
    · intro q
      obtain ⟨p, h1, h2⟩ := List.any_eq_true.mp q
      obtain ⟨a, h3, rfl⟩ := List.mem_map.mp h1
      have e : (Sum.inr a : Key) = Sum.inr z := of_decide_eq_true h2
      cases e
      exact h h3
section
variable {P : Program} {w : World} {K : PySem.W.Frag} {mg : Str → Option Value} {base : Heap}
def sp_names_in (K : PySem.W.Frag) : Sp := fun vs H Q _ => ∃ (a : Addr) (ws : List Str), vs = [.ref a] ∧ SqT K H a (ws.map V.str) ∧ (∀ z ∈ ws, z ∈ allW) ∧ ws.length ≤ 30 ∧ ∀ t H', Same H H' → H t = none → H' t = some (.tup ((namesOf ws).map V.str)) → Q (.ref t) H'
theorem ok_names_in (T : Txt w K mg) : FnOk P w K mg base CX0 4 T.a_names_in T.d_names_in ["words"] (sp_names_in K) := by
  refine T.F_names_in.ok sc_names_in (fun vs H Q E h => ?_) (fun cdv A outer s H vs Q E hr h => ?_)
  · obtain ⟨a, ws, rfl, _⟩ := h
    rfl
  · obtain ⟨a, ws, rfl, ha, hw, hl, k⟩ := h
    have hr_is_name : Room 3 _ := hr.mono (by decide)
    have G_is_name := ok_is_name (P := P) (base := base) T
    refine ⟨_, (pss_one (ps_ret (pe_callTy (call_tupleD rfl) (by rfl) T.n_tuple (by decide +kernel) (pa_cons (pe_dc (own := [("word", 1)]) (g := gName 1) (tt := _) rfl sc_names_in.nd (pi_tup (pv 0)) (blkOk_by (own := [("word", 1)]) (N := N_names_in) (sc := defScope s_names_in) (by decide +kernel)) (fun _ _ _ _ _ => pg_name (i := 1) sc_names_in.nd rfl (Or.inl rfl)) (fun _ _ _ _ _ => pts_one (pt_val (pe_call G_is_name hr_is_name (by rfl) T.m_is_name T.F_is_name.kp T.B_is_name .nil pass0 (pa_cons (pv 1) pa_nil)))) (fun _ _ _ _ _ => (pv 1)) (fun _ _ _ _ _ => pe_bl)) pa_nil)))), ?_⟩
    walk_at "rs"
    refine ⟨_, rfl, a, rfl, ⟨_, ha⟩, fun D hD => dc_tup (K := K) (a := a) (xs := ws.map V.str) (fun i G => G D = some (.dK ((namesOf (ws.take i)).map mkT)) ∧ Same H G) ⟨by rw [upd_same]; rfl, same_upd hD⟩ (fun i G _ h => Same.seqT h.2 ha) ?_ ?_⟩
    · rintro i x G hi ⟨h1, h2⟩
      rw [List.getElem?_map] at hi
      obtain ⟨z, hz, rfl⟩ := Option.map_eq_some_iff.mp hi
      have hzm : z ∈ ws := List.mem_of_getElem? hz
      have hil : i < ws.length := (List.getElem?_eq_some_iff.mp hz).1
      have et : ws.take (i + 1) = ws.take i ++ [z] := by rw [List.take_succ, hz]; rfl
      have en := namesOf_snoc (ws.take i) z
      rw [← et] at en
      walk_at "rs"
      refine ⟨.str z, .str z, rfl, .str z, decide_eq_true (Nat.le_trans (w_len z (hw z hzm)).1 (by decide)), fun H1 s1 => ⟨_, rfl, ite2 (fun c => ?_) (fun c => ?_)⟩⟩
      · replace c : isNameD (.str z) = true := c
        rw [w_name z (hw z hzm)] at c
        rw [if_pos c] at en
        have hlen : ((namesOf (ws.take i)).map mkT).length < 1000 := by
          rw [List.length_map]
          have h3 := len_names (ws.take i)
          rw [List.length_take] at h3
          omega
        refine ⟨_, .inr z, rfl, s1 _ _ h1, Nat.lt_of_lt_of_le hlen (by decide), ?_, fun b o e => ?_⟩
        · rw [upd_same, putT, en]
        · rw [upd_ne (ne_of_none e hD)]
          exact s1 _ _ (h2 b o e)
      · replace c : ¬ isNameD (.str z) = true := c
        rw [w_name z (hw z hzm)] at c
        rw [if_neg c] at en
        exact ⟨by rw [en]; exact s1 _ _ h1, Same.trans h2 s1⟩
    · rintro G ⟨h1, h2⟩
      have e : ws.take (ws.map V.str).length = ws := by rw [List.length_map]; exact List.take_length
      rw [e] at h1
      refine ⟨D, rfl, _, .inl h1, fun p H' s2 h3 h4 => k p H' (Same.trans h2 s2) (Same.dom h2 p h3) ?_⟩
      rw [h4, List.map_map]
      rfl
def lacks (tab : Str → Option Fr) (ws : List Str) : List Str := (namesOf ws).filter fun z => (tab z).isNone
def sp_evaluate (K : PySem.W.Frag) (C : Addr) : Sp := fun vs H Q E => ∃ (a d : Addr) (ws : List Str) (kvs : List (Key × V)) (tab : Str → Option Fr), vs = [.ref a, .ref d] ∧ SqT K H a (ws.map V.str) ∧ (∀ z ∈ ws, z ∈ allW) ∧ ws.length ≤ 30 ∧ walkL [101] (ws.map PyData.str) = true ∧ DT K H d kvs tab ∧ (∀ z f, tab z = some f → okB 64 f) ∧
  (lacks tab ws = [] → ∀ t H' f, Same H H' → stk tab ws = [f] → okB 1920 f → Pr K H' t f.1 f.2 → Q (.ref t) H') ∧ (∀ z l, lacks tab ws = z :: l → ∀ x H', Same H H' → H x = none → H' x = some (.xd (nnF (.str z))) → E (.ref C) (some x) H')
end
end LK

set_option Elab.async false
set_option linter.all false
set_option maxRecDepth 100000
namespace LK
open PySem PySem.Spec PyProof.Rows L2
local macro_rules | `(tactic| walk_at "rs") => `(tactic| simp only [cxK, cxNK, tCallZ, tAsg, tOp, rI0, rS0, rB0, rI, rU, tUn, rEq, rNe, rIxL, rIxT, rIxS, rSetL, rSlLU, rSlS, rSlU, rCatL, rCatU, rRepL, rIn, tVar, tC, gName, gSub, tIfS, tTest, tB, tAnd, tOr, tNot, tNotV, tAndV, tOrV, tIf, tCall, tCons, tNil, tCB, tDrop, tRet, tRetN, tNext, tLstU, tTupU, tM0, tM1, tPar, tPar3, tAug, ipI, tBM, tBM0, rAppend, rPop, tBreak, tCont, tChain, tSl, tPart, tNoPart, L2.start, List.map, List.length_cons, List.length_nil, List.replicate, List.cons_append, List.nil_append, List.append_nil, List.getElem?_cons_zero, List.getElem?_cons_succ, List.set_cons_zero, List.set_cons_succ, Option.some.injEq, V.int.injEq, V.ref.injEq, V.str.injEq, V.bl.injEq, exists_eq_left', exists_eq_left, exists_and_left, decide_eq_true_eq, List.cons.injEq, and_true, true_and, scal, Bool.not_eq_true', decide_eq_false_iff_not, Nat.zero_add, Nat.reduceAdd, Nat.reduceSub, reduceCtorEq, false_and, exists_false, false_or, or_false, CPow, CMul, CDiv, Int.reduceToNat, ↓reduceIte, wipe, sw, List.nil_append, List.singleton_append])
local macro_rules | `(tactic| walk_at "st") => `(tactic| (refine seq_op fun N hN => ?_; walk_at "rs"))
local macro_rules | `(tactic| walk_at "sd") => `(tactic| first | assumption | decide | omega)
local macro_rules | `(tactic| walk_at "rd") => `(tactic| repeat (first
  | refine ⟨_, SqL.of (by assumption), ?_⟩ | refine ⟨_, SqL.of upd_same, ?_⟩ | refine ⟨_, .inl (SqL.of (by assumption)), ?_⟩ | refine ⟨_, (by assumption : _ = some (HO.lst _)), ?_⟩ | refine ⟨_, upd_same, ?_⟩
  | refine ⟨_, rfl, ?_⟩ | refine And.intro (by walk_at "sd") ?_))

open TL
theorem Stk.all : ∀ {w : List Nat} {n : Nat} {st : List Fr}, Stk w n st → ∀ g ∈ st, okB (64 * n) g
  | _, _, _, .nil, g, h => by cases h
  | _, _, _, .cons h hm d r, g, hg => by
    rcases List.mem_cons.mp hg with rfl | hg
    · exact h.le (by omega)
    · exact (r.all g hg).le (by omega)
theorem Stk.len : ∀ {w : List Nat} {n : Nat} {st : List Fr}, Stk w n st → st.length = w.length
  | _, _, _, .nil => rfl
  | _, _, _, .cons h hm d r => congrArg Nat.succ r.len
theorem Stk.len_le : ∀ {w : List Nat} {n : Nat} {st : List Fr}, Stk w n st → st.length ≤ n
  | _, _, _, .nil => Nat.le_refl _
  | _, _, _, .cons h hm d r => by
    have := r.len_le
    rw [List.length_cons]
    omega
/-- what a word asks for -/
def owes (z : Str) : List Nat := if nm z = true then [] else match opsOf z with | some o => o.cps.toList | none => []
theorem walk_step {z : Str} {c : Nat} {w : List Nat} {r : List PyData} (hz : z ∈ allW) (hc : c = 101 ∨ c = 107) (h : walkL (c :: w) (.str z :: r) = true) : walkL (owes z ++ w) r = true := by
  rcases hc with rfl | rfl
  · have e := w_e z hz
    simp only [walkL, e] at h
    exact h
  · cases ek : opsL (.str z) 107 with
    | none => simp [walkL, ek] at h
    | some o =>
      obtain ⟨rfl, n, eo, _⟩ := w_k z hz o ek
      simp only [walkL, ek] at h
      unfold owes
      rw [if_neg (by rw [n]; decide), eo]
      exact h
theorem owes_two : ∀ z ∈ allW, ∀ c ∈ owes z, c = 101 ∨ c = 107 := by decide +kernel
theorem many_owes : ∀ z ∈ allW, many z = (owes z).length := by decide +kernel
theorem walk_suffix {tab : Str → Option Fr} : ∀ (ws : List Str) (w : List Nat) (i : Nat) (z : Str), (∀ y ∈ ws, y ∈ allW) → (∀ c ∈ w, c = 101 ∨ c = 107) → walkL w (ws.map PyData.str) = true → ws[i]? = some z → ∃ v : List Nat, (∀ c ∈ v, c = 101 ∨ c = 107) ∧ walkL (owes z ++ v) ((ws.drop (i + 1)).map PyData.str) = true
  | [], _, _, _, _, _, _, e => by simp at e
  | y :: r, w, i, z, hw, hc, h, e => by
    cases w with
    | nil => simp [walkL] at h
    | cons c w =>
      have hy := hw y List.mem_cons_self
      have s := walk_step hy (hc c List.mem_cons_self) h
      have hc' : ∀ x ∈ w, x = 101 ∨ x = 107 := fun x hx => hc x (List.mem_cons_of_mem _ hx)
      cases i with
      | zero =>
        simp at e
        subst e
        exact ⟨w, hc', s⟩
      | succ i =>
        exact walk_suffix (tab := tab) r (owes y ++ w) i z (fun x hx => hw x (List.mem_cons_of_mem _ hx)) (fun x hx => by
          rcases List.mem_append.mp hx with hx | hx
          · exact owes_two y hy x hx
          · exact hc' x hx) s (by simpa using e)
theorem step_split {tab : Str → Option Fr} {z : Str} (hz : z ∈ allW) (hn : nm z = true → (tab z).isSome = true) {w : List Nat} {n : Nat} {st : List Fr} (hs : Stk (owes z ++ w) n st) :
    ∃ f, stepF tab z (st.take (many z)) = [f] ∧ stepF tab z st = f :: st.drop (many z) ∧ (nm z = false → many z = (st.take (many z)).length) ∧ (z = "div" ∨ z = "mod" → ∀ g, (st.take (many z))[1]? = some g → g.2 = 1 ∧ 1 ≤ g.1 ∧ g.1 ≤ 9) := by
  have hm := many_owes z hz
  have hl : many z = (st.take (many z)).length := by
    rw [List.length_take, hs.len, List.length_append, ← hm]; omega
  by_cases n1 : nm z = true
  · obtain ⟨f, hf⟩ := Option.isSome_iff_exists.mp (hn n1)
    have m0 : many z = 0 := by rw [hm]; unfold owes; rw [if_pos n1]; rfl
    have wo := w_ops z hz n1
    refine ⟨f, ?_, ?_, fun q => (by rw [n1] at q; cases q), fun q => ?_⟩
    · rw [step_name n1 hf, m0]; rfl
    · rw [step_name n1 hf, m0]; rfl
    · rw [m0]; intro g hg; simp at hg
  simp only [Bool.not_eq_true] at n1
  have ow : owes z = match opsOf z with | some o => o.cps.toList | none => [] := by unfold owes; rw [if_neg (by rw [n1]; decide)]
  cases eo : opsOf z with
  | none =>
    rw [eo] at ow
    have m0 : many z = 0 := by rw [hm, ow]; rfl
    refine ⟨(intOf z, 1), ?_, ?_, fun _ => hl, fun q => ?_⟩
    · rw [step_int n1 eo, m0]; rfl
    · rw [step_int n1 eo, m0]; rfl
    · rw [m0]; intro g hg; simp at hg
  | some o =>
    rw [eo] at ow
    dsimp only at ow
    rcases (w_op hz eo).2 with ⟨rfl, e1⟩ | ⟨rfl, e1⟩ | ⟨x1, x2, hd⟩
    · rw [e1] at ow
      rw [ow] at hs hm
      obtain ⟨a, st1, m1, k1, rfl, _, _, _, _, _⟩ := hs.top
      rw [hm] at hl ⊢
      exact ⟨_, step_not, step_not, fun _ => hl, fun q => by rcases q with q | q <;> exact absurd q (by decide)⟩
    · rw [e1] at ow
      rw [ow] at hs hm
      obtain ⟨a, st1, m1, k1, rfl, _, _, _, _, s2⟩ := hs.top
      obtain ⟨b, st2, m2, k2, rfl, _, _, _, _, s3⟩ := s2.top
      obtain ⟨c, st3, m3, k3, rfl, _, _, _, _, s4⟩ := s3.top
      rw [hm] at hl ⊢
      exact ⟨_, step_if, step_if, fun _ => hl, fun q => by rcases q with q | q <;> exact absurd q (by decide)⟩
    · have ex : ∃ c : Nat, owes z = [101, c] ∧ (z = "div" ∨ z = "mod" → c = 107) := by
        rcases hd with ⟨d1, e1⟩ | ⟨d1, e1⟩
        · exact ⟨107, by rw [ow, e1], fun _ => rfl⟩
        · exact ⟨101, by rw [ow, e1], fun q => absurd q d1⟩
      obtain ⟨c, ec, dc⟩ := ex
      rw [ec] at hs hm
      obtain ⟨a, st1, m1, k1, rfl, _, _, _, _, s2⟩ := hs.top
      obtain ⟨b, st2, m2, k2, rfl, _, _, _, dg, s3⟩ := s2.top
      rw [hm] at hl ⊢
      refine ⟨_, step_two n1 eo x1 x2, step_two n1 eo x1 x2, fun _ => hl, fun q g hg => ?_⟩
      have eg : b = g := Option.some.inj hg
      subst eg
      exact dg (dc q)
theorem lacks_nil {tab : Str → Option Fr} {ws : List Str} (h : ∀ z ∈ namesOf ws, (tab z).isSome = true) : lacks tab ws = [] := by
  refine List.filter_eq_nil_iff.mpr fun z hz => ?_
  have := h z hz
  cases e : tab z <;> simp_all
theorem lacks_of {tab : Str → Option Fr} {ws : List Str} (h : lacks tab ws = []) : ∀ z ∈ ws, nm z = true → (tab z).isSome = true := fun z hz n => by
  have := List.filter_eq_nil_iff.mp h z (mem_names.mpr ⟨hz, n⟩)
  cases e : tab z <;> simp_all
theorem lacks_at {tab : Str → Option Fr} {ws : List Str} {i : Nat} {z : Str} (h : ∀ y ∈ (namesOf ws).take i, (tab y).isSome = true) (hi : (namesOf ws)[i]? = some z) (hz : tab z = none) : ∃ l, lacks tab ws = z :: l := by
  have hl : i < (namesOf ws).length := (List.getElem?_eq_some_iff.mp hi).1
  have e : namesOf ws = (namesOf ws).take i ++ z :: (namesOf ws).drop (i + 1) := by
    rw [← (List.getElem?_eq_some_iff.mp hi).2, ← List.drop_eq_getElem_cons hl, List.take_append_drop]
  unfold lacks
  rw [e, List.filter_append, List.filter_eq_nil_iff.mpr (fun y hy => by
      have q := h y hy
      cases e2 : tab y with
      | none => rw [e2] at q; cases q
      | some f => exact Bool.false_ne_true), List.nil_append, List.filter_cons_of_pos (by rw [hz]; rfl)]
  exact ⟨_, rfl⟩
theorem mk_nn {C : Addr} {ta : TA} {σ : L2.St} {H0 H1 : Hp} {v : V} {Qx : XK} (ht : ∀ K : List V → Hp → Prop, K [v] H1 → ta σ H0 K) (k : ∀ d H', Same H1 H' → H1 d = none → H' d = some (.xd (nnF v)) → Qx (.ref C) (some d) H') : tMkO C (fun vs H Q _ => ∃ (a : Addr) (v : V), vs = [.ref a, v] ∧ H a = some (exo a C none) ∧
  ∀ dx, H dx = none → dx ≠ a → Q .non (L2.upd (L2.upd (L2.upd H dx (exd dx [("name", v)])) a (exo a C (some dx))) dx (exd dx [("code", .str "NoName"), ("name", v)]))) [] ta σ H0 Qx := by
  refine ht _ ⟨by simp, ?_⟩
  intro a ha
  refine ⟨a, v, rfl, upd_same, fun dx hdx ne => ⟨rfl, dx, nnF v, ?_, upd_same, ?_, k dx _ ?_ ?_ upd_same⟩⟩
  · rw [upd_ne (Ne.symm ne), upd_same]
  · rw [upd_ne ne] at hdx; exact hdx
  · intro b o e
    rw [upd_ne ne] at hdx
    have n1 : b ≠ a := fun z => by rw [z, ha] at e; cases e
    have n2 : b ≠ dx := fun z => by rw [z, hdx] at e; cases e
    rw [upd_ne n2, del_ne n1, upd_ne n2, upd_ne n1, upd_ne n2, upd_ne n1]
    exact e
  · rw [upd_ne ne] at hdx; exact hdx
section
variable {P : Program} {w : World} {K : PySem.W.Frag} {mg : Str → Option Value} {base : Heap}
theorem ok_evaluate (T : Txt w K mg) : FnOk P w K mg base (L2.CX P w) 8 T.a_evaluate T.d_evaluate ["words", "values"] (sp_evaluate K T.C_NoName) := by
  refine T.F_evaluate.okX sc_evaluate (fun vs H Q E h => ?_) (fun cdv A outer s H vs Q E hr h => ?_)
  · obtain ⟨a, d, ws, kvs, tab, rfl, _⟩ := h
    rfl
  · obtain ⟨a, d, ws, kvs, tab, rfl, ha, hw, hl, hwalk, hD, ht, k, kE⟩ := h
    have hr_names_in : Room 4 _ := hr.mono (by decide)
    have G_names_in := ok_names_in (P := P) (base := base) T
    have hr_value_of_word : Room 7 _ := hr.mono (by decide)
    have G_value_of_word := ok_value_of_word (P := P) (base := base) T
    have hr_NoName : Room 2 _ := hr.mono (by decide)
    have G_NoName := ok_NoName (P := P) (base := base) T
    have hu1 : (A.deeper (envOfC "evaluate" (defScope s_evaluate) s.heap.objs.size T.a_evaluate cdv)).units + 1 < cLine := Nat.lt_of_le_of_lt (Nat.add_le_add_left (by decide : 1 ≤ 64) _) hr.units
    refine ⟨_, (pss_cons (ps_for (passes_of rfl) rfl (pi_tup (pe_call G_names_in hr_names_in (by rfl) T.m_names_in T.F_names_in.kp T.B_names_in .nil pass0 (pa_cons (pv 0) pa_nil))) (pg_name (i := 2) sc_evaluate.nd rfl (Or.inl rfl)) (pss_one (ps_if (pt_cmp (pc_dnotin hu1 (pv 2) (pv 1))) (pss_one (ps_raise rfl (takes_of rfl rfl rfl rfl) (pmk_oexM baseLE T.X_NoName T.i_NoName T.t_NoName G_NoName hr_NoName T.B_NoName__init .nil pass0 (by rfl) T.m_NoName (pa_cons (pv 2) pa_nil)))) pss_nil)))
      (pss_cons (ps_set (i := 3) sc_evaluate.nd rfl (Or.inl rfl) (pe_lstU pa_nil))
      (pss_cons (ps_for (passes_of rfl) rfl (RT.pi_revA (by rfl) T.n_reversed (pv 0)) (pg_name (i := 4) sc_evaluate.nd rfl (Or.inl rfl)) (pss_cons (ps_set (i := 5) sc_evaluate.nd rfl (Or.inl rfl) (pe_callB call_len (by rfl) T.n_len (by decide +kernel) (pa_cons (pe_wget2 T.D_OPERANDS (pe_glob (v := .ref T.a_OPERANDS) (by rfl) T.m_OPERANDS rfl) (pv 4) pe_str ⟨rfl, rfl, rfl, rfl⟩) pa_nil)))
      (pss_one (ps_set (i := 3) sc_evaluate.nd rfl (Or.inl rfl) (pe_op op_catL (pe_lstU (pa_cons (pe_call G_value_of_word hr_value_of_word (by rfl) T.m_value_of_word T.F_value_of_word.kp T.B_value_of_word .nil passL (pa_cons (pv 4) (pa_cons (pe_slice sl_listU (pv 3) po_none (po_some (pv 5))) (pa_cons (pv 1) pa_nil)))) pa_nil)) (pe_slice sl_listU (pv 3) (po_some (pv 5)) po_none))))))
      (pss_one (ps_ret (pe_ix ix_list (pv 3) pe_int (fun _ _ => rfl))))))), ?_⟩
    refine cut_seq (fun σ H2 => ∃ x, σ = [some (.ref a), some (.ref d), x, none, none, none] ∧ Same H H2 ∧ lacks tab ws = []) (fun N hN => ?_) ?_
    · walk_at "rs"
      refine ⟨_, rfl, a, ws, rfl, ha, hw, hl, fun t H1 s1 h0 h1 => ?_⟩
      have hT : SqT K H1 t ((namesOf ws).map V.str) := .inl (.inl h1)
      refine ⟨t, rfl, ⟨_, hT⟩, for_tup (K := K) (a := t) (xs := (namesOf ws).map V.str) (fun i σ H2 => ∃ x, σ = [some (.ref a), some (.ref d), x, none, none, none] ∧ Same H1 H2 ∧ ∀ y ∈ (namesOf ws).take i, (tab y).isSome = true) ⟨none, rfl, Same.refl _, fun y hy => by cases hy⟩ (fun i σ H2 _ ⟨_, _, s2, _⟩ => Same.seqT s2 hT) ?_ ?_⟩
      · rintro i y σ H2 hi ⟨x, rfl, s2, hs⟩
        rw [List.getElem?_map] at hi
        obtain ⟨z, hz, rfl⟩ := Option.map_eq_some_iff.mp hi
        have hD2 := hD.same (Same.trans s1 s2)
        walk_at "rs"
        refine ⟨_, rfl, _, rfl, d, _, rfl, .inl ⟨kvs, .inr z, .inl hD2.at_, rfl, rfl⟩, ?_⟩
        rw [hD2.has]
        cases e : tab z with
        | none =>
          refine ⟨_, rfl, iteTT (by rfl) ?_⟩
          obtain ⟨l, el⟩ := lacks_at hs hz e
          exact mk_nn (fun K h => by walk_at "rs"; exact h) fun dx H3 s3 hd3 h3 => kE z l el dx H3 (Same.trans s1 (Same.trans s2 s3)) (Same.dom (Same.trans s1 s2) dx hd3) h3
        | some f =>
          refine ⟨_, rfl, iteFF (by exact Bool.false_ne_true) ⟨s2, fun y hy => ?_⟩⟩
          rw [List.take_succ, hz] at hy
          rcases List.mem_append.mp hy with hy | hy
          · exact hs y hy
          · have : y = z := by simpa using hy
            rw [this, e]; rfl
      · rintro σ H2 ⟨x, rfl, s2, hs⟩
        refine hN _ _ ⟨x, rfl, Same.trans s1 s2, lacks_nil fun z hz => hs z ?_⟩
        rw [List.length_map, List.take_length]
        exact hz
    rintro σ H2 ⟨x, rfl, s2, hlk⟩
    refine seq_op fun N hN => ?_
    walk_at "rs"
    refine ⟨by decide, fun p H3 s3 h0 h3 => hN _ _ ?_⟩
    clear hN N
    have S3 := Same.trans s2 s3
    have hn := lacks_of hlk
    replace k := k hlk
    clear kE
    refine cut_seq (fun σ H4 => ∃ (x y1 y2 : Option V) (q b : Addr) (f : Fr), σ = [some (.ref a), some (.ref d), x, some (.ref q), y1, y2] ∧ Same H H4 ∧ SqL K H4 q [.ref b] ∧ Pr K H4 b f.1 f.2 ∧ stk tab ws = [f] ∧ okB 1920 f) (fun N hN => ?_) ?_
    · walk_at "rs"
      refine ⟨_, rfl, a, _, rfl, .inr ⟨Same.seqT S3 ha, RT.for_ItvT (K := K) (a := a) (xs := ws.map V.str) (fun i σ G => ∃ (y1 y2 : Option V) (q : Addr) (xs : List V), σ = [some (.ref a), some (.ref d), x, some (.ref q), y1, y2] ∧ Same H G ∧ SqL K G q xs ∧ Frs K G xs (stk tab (ws.drop (ws.length - i)))) ⟨none, none, p, [], rfl, S3, .inl (.inl h3), ?_⟩ (fun i σ G ⟨_, _, _, _, _, sg, _⟩ => Same.seqT sg ha) ?_ ?_⟩⟩
      · rw [Nat.sub_zero, List.drop_length]; exact .nil
      · rintro i y σ G hi hy ⟨y1, y2, q, xs, rfl, sg, hq, hx⟩
        rw [List.length_map] at hi
        rw [List.length_map, List.getElem?_map] at hy
        obtain ⟨z, hz, rfl⟩ := Option.map_eq_some_iff.mp hy
        have hzm : z ∈ ws := List.mem_of_getElem? hz
        have hza := hw z hzm
        refine seq_op fun N2 hN2 => ?_
        walk_at "rs"
        unfold tWget2
        walk_at "rs"
        have wget : ∀ R : V → Hp → Prop, R (.str ((opsOf z).getD "")) G → ∃ r, PySem.W.nsIn K T.a_OPERANDS z = some r ∧ (match r with | none => R (.str "") G | some u => ∃ v, RelV v u ∧ R v G) := fun R h => by
          obtain ⟨r, e1, e2⟩ := T.g_OPERANDS z
          refine ⟨r, e1, ?_⟩
          cases r with
          | none =>
            have e3 : opsOf z = none := e2
            rw [e3] at h
            exact h
          | some u =>
            obtain ⟨y, e3, e4⟩ := e2
            rw [e3] at h
            exact ⟨_, e4, h⟩
        have hmz : many z = ((opsOf z).getD "").length := by
          unfold many
          cases opsOf z <;> rfl
        have hms : many z ≤ 3 := by
          rw [hmz]
          cases e : opsOf z with
          | none => decide
          | some o => exact opsOf_len e
        refine wget (fun v H1 => ∃ x2, LenV K v H1 x2 ∧ N2 [some (V.ref a), some (V.ref d), x, some (V.ref q), some (V.str z), some (V.int (x2 : Nat))] H1) ⟨many z, ⟨Nat.le_trans (by rw [← hmz]; exact hms) (by decide), hmz⟩, hN2 _ _ ?_⟩
        clear hN2 N2 wget
        obtain ⟨v, hv, hwv⟩ := walk_suffix (tab := tab) ws [101] (ws.length - 1 - i) z hw (fun c hc => .inl (by simpa using hc)) hwalk hz
        have ei : ws.length - 1 - i + 1 = ws.length - i := by omega
        rw [ei] at hwv
        have hsub : ∀ y ∈ ws.drop (ws.length - i), y ∈ ws := fun y hy => List.mem_of_mem_drop hy
        have hst := stk_ok (tab := tab) (ws.drop (ws.length - i)) (owes z ++ v) (fun y hy => hw y (hsub y hy)) (fun y hy n => by
          obtain ⟨f, hf⟩ := Option.isSome_iff_exists.mp (hn y (hsub y hy) n)
          exact ⟨f, hf, ht y f hf⟩) (fun c hc => by
            rcases List.mem_append.mp hc with hc | hc
            · exact owes_two z hza c hc
            · exact hv c hc) hwv
        obtain ⟨f, f1, f2, f3, f4⟩ := step_split (tab := tab) hza (hn z hzm) hst
        have esuf : ws.drop (ws.length - (i + 1)) = z :: ws.drop (ws.length - i) := by
          have h1 : ws.length - (i + 1) = ws.length - 1 - i := by omega
          rw [h1, List.drop_eq_getElem_cons (by omega), (List.getElem?_eq_some_iff.mp hz).2, ei]
        have est : stk tab (ws.drop (ws.length - (i + 1))) = f :: (stk tab (ws.drop (ws.length - i))).drop (many z) := by
          rw [esuf]; exact f2
        have hlx := hx.len
        have hdl : (ws.drop (ws.length - i)).length ≤ 29 := by rw [List.length_drop]; omega
        have hx3 : xs.length ≤ 29 := by
          rw [hlx]
          exact Nat.le_trans hst.len_le hdl
        walk_at "rs"
        refine ⟨xs, hq, fun p1 G1 s1 h01 h1 => ?_⟩
        rw [cutV_take] at h1
        have sg1 := Same.trans sg s1
        refine ⟨z, p1, d, _, _, kvs, tab, f, rfl, hza, .inl (.inl h1), (hx.same s1).take (many z), hD.same sg1, hn z hzm, fun g hg => (hst.all g (List.mem_of_mem_take hg)).le (by omega), f3, f1, f4, fun t G2 s2' hp => ⟨by decide, fun p2 G3 s3' h02 h2 => ?_⟩⟩
        have sq := Same.trans s1 (Same.trans s2' s3')
        refine ⟨xs, seqL_same sq hq, fun p3 G4 s4' h03 h3 => ⟨_, s4' _ _ h2, _, h3, ?_, fun p4 G5 s5' h04 h4 => ⟨_, _, p4, ⟨rfl, rfl, rfl⟩, ?_, _, .inl (.inl h4), ?_⟩⟩⟩
        · refine Nat.le_trans (Nat.add_le_add_left (cutV_length _ _ _) _) ?_
          exact Nat.le_trans (show _ ≤ 40 by rw [List.length_singleton]; omega) (by decide)
        · exact Same.trans sg (Same.trans sq (Same.trans s4' s5'))
        · rw [est, cutV_drop]
          exact .cons (Same.seqT (Same.trans s3' (Same.trans s4' s5')) hp) ((hx.same (Same.trans sq (Same.trans s4' s5'))).drop (many z))
      · rintro σ G ⟨y1, y2, q, xs, rfl, sg, hq, hx⟩
        rw [List.length_map, Nat.sub_self, List.drop_zero] at hx
        have hst := stk_ok (tab := tab) ws [101] hw (fun z hz n => by
          obtain ⟨f, hf⟩ := Option.isSome_iff_exists.mp (hn z hz n)
          exact ⟨f, hf, ht z f hf⟩) (fun c hc => .inl (by simpa using hc)) hwalk
        obtain ⟨f, r, m, k2, e1, e2, hf, hm, _, h5⟩ := hst.top
        have er : r = [] := List.eq_nil_of_length_eq_zero h5.len
        subst er
        rw [e1] at hx
        cases hx with
        | cons hp hr =>
        cases hr
        exact hN _ _ ⟨x, y1, y2, q, _, f, rfl, sg, hq, hp, e1, hf.le (by omega)⟩
    · rintro σ H4 ⟨x, y1, y2, q, b, f, rfl, s4, hq, hp, e1, hf⟩
      walk_at "rs"
      exact ⟨_, hq, _, rfl, k b H4 f s4 e1 hf hp⟩
end
end LK

set_option Elab.async false
set_option linter.all false
set_option maxRecDepth 100000
namespace LK
open PySem PySem.Spec PyProof.Rows L2
local macro_rules | `(tactic| walk_at "rs") => `(tactic| simp only [cxK, cxNK, tCallZ, tAsg, tOp, rI0, rS0, rB0, rI, rU, tUn, rEq, rNe, rIxL, rIxT, rIxS, rSetL, rSlLU, rSlS, rSlU, rCatL, rCatU, rRepL, rIn, tVar, tC, gName, gSub, tIfS, tTest, tB, tAnd, tOr, tNot, tNotV, tAndV, tOrV, tIf, tCall, tCons, tNil, tCB, tDrop, tRet, tRetN, tNext, tLstU, tTupU, tM0, tM1, tPar, tPar3, tAug, ipI, tBM, tBM0, rAppend, rPop, tBreak, tCont, tChain, tSl, tPart, tNoPart, L2.start, List.map, List.length_cons, List.length_nil, List.replicate, List.cons_append, List.nil_append, List.append_nil, List.getElem?_cons_zero, List.getElem?_cons_succ, List.set_cons_zero, List.set_cons_succ, Option.some.injEq, V.int.injEq, V.ref.injEq, V.str.injEq, V.bl.injEq, exists_eq_left', exists_eq_left, exists_and_left, decide_eq_true_eq, List.cons.injEq, and_true, true_and, scal, Bool.not_eq_true', decide_eq_false_iff_not, Nat.zero_add, Nat.reduceAdd, Nat.reduceSub, reduceCtorEq, false_and, exists_false, false_or, or_false, CPow, CMul, CDiv, Int.reduceToNat, ↓reduceIte, wipe, sw, List.nil_append, List.singleton_append])
local macro_rules | `(tactic| walk_at "st") => `(tactic| (refine seq_op fun N hN => ?_; walk_at "rs"))
local macro_rules | `(tactic| walk_at "sd") => `(tactic| first | assumption | decide | omega)
local macro_rules | `(tactic| walk_at "rd") => `(tactic| repeat (first
  | refine ⟨_, SqL.of (by assumption), ?_⟩ | refine ⟨_, SqL.of upd_same, ?_⟩ | refine ⟨_, .inl (SqL.of (by assumption)), ?_⟩ | refine ⟨_, (by assumption : _ = some (HO.lst _)), ?_⟩ | refine ⟨_, upd_same, ?_⟩
  | refine ⟨_, rfl, ?_⟩ | refine And.intro (by walk_at "sd") ?_))

theorem fr_unique {P Q p q : Int} (hQ : Q ≠ 0) (h : P * q = p * Q) (hq : 1 ≤ q) (hg : Nat.gcd p.natAbs q.natAbs = 1) : frP P Q = p ∧ frQ P Q = q := by
  obtain ⟨e1, e2, e3, e4, _, _, g0⟩ := fr_spec P hQ
  have h2 : frP P Q * q = p * frQ P Q := by
    have e : (frP P Q * q) * frG P Q = (p * frQ P Q) * frG P Q := by
      have a : (frP P Q * q) * frG P Q = (frP P Q * frG P Q) * q := by
        rw [Int.mul_assoc, Int.mul_comm q, ← Int.mul_assoc]
      have b : (p * frQ P Q) * frG P Q = p * (frQ P Q * frG P Q) := Int.mul_assoc _ _ _
      rw [a, b, e1, e2, h]
    exact Int.eq_of_mul_eq_mul_right g0 e
  have hn : (frP P Q).natAbs * q.natAbs = p.natAbs * (frQ P Q).natAbs := by rw [← Int.natAbs_mul, ← Int.natAbs_mul, h2]
  have d1 : q.natAbs ∣ (frQ P Q).natAbs := by
    have d : q.natAbs ∣ p.natAbs * (frQ P Q).natAbs := ⟨(frP P Q).natAbs, by rw [← hn, Nat.mul_comm]⟩
    exact Nat.Coprime.dvd_of_dvd_mul_left (Nat.Coprime.symm hg) d
  have d2 : (frQ P Q).natAbs ∣ q.natAbs := by
    have d : (frQ P Q).natAbs ∣ (frP P Q).natAbs * q.natAbs := ⟨p.natAbs, by rw [hn, Nat.mul_comm]⟩
    exact Nat.Coprime.dvd_of_dvd_mul_left (Nat.Coprime.symm e4) d
  have en := Nat.dvd_antisymm d1 d2
  have eq : frQ P Q = q := by omega
  refine ⟨?_, eq⟩
  rw [eq] at h2
  exact Int.eq_of_mul_eq_mul_right (by omega) h2
theorem gap_zero {m : Nat} {f g : Fr} (hf : okB m f) (hg : okB m g) : gapF f g = 0 ↔ f = g := by
  constructor
  · intro h
    unfold gapF at h
    obtain ⟨a1, a2⟩ := fr_unique (P := f.1) (Q := f.2) (p := g.1) (q := g.2) (by have := hf.1; omega) (by omega) hg.1 hg.2.1
    obtain ⟨b1, b2⟩ := fr_low hf.1 hf.2.1
    exact Prod.ext (by rw [← b1, a1]) (by rw [← b2, a2])
  · rintro rfl
    unfold gapF; omega
theorem tf_snd (b : Bool) : (tf b).2 = 1 := by cases b <;> rfl
def ord3 (d : Int) : Int := (if 0 < d then 1 else 0) - (if d < 0 then 1 else 0)
theorem ord3_lt (d : Int) : ord3 d < 0 ↔ d < 0 := by unfold ord3; split <;> split <;> omega
theorem ord3_gt (d : Int) : 0 < ord3 d ↔ 0 < d := by unfold ord3; split <;> split <;> omega
theorem ord3_eq (d : Int) : ord3 d = 0 ↔ d = 0 := by unfold ord3; split <;> split <;> omega
def hbF (z : Str) (lt gt eq : Bool) : Bool :=
  if z = "=" then eq else if z = "/=" then !eq else if z = "<" then lt else if z = "<=" then !gt else if z = ">" then gt else !lt
theorem hb_tab : ∀ z ∈ relL, z ≠ "/=" → hbF z true false false = decide (60 ∈ z.cps.toList) ∧ hbF z false true false = decide (62 ∈ z.cps.toList) ∧ hbF z false false true = decide (61 ∈ z.cps.toList) := by decide +kernel
section
variable {P : Program} {w : World} {K : PySem.W.Frag} {mg : Str → Option Value} {base : Heap}
theorem ok__law_order (T : Txt w K mg) : FnOk P w K mg base CX0 1 T.a__law_order T.d__law_order ["one", "two"] (fun vs H Q _ => ∃ (a b : Addr) (f g : Fr), vs = [.ref a, .ref b] ∧ Pr K H a f.1 f.2 ∧ Pr K H b g.1 g.2 ∧ okB 4000 f ∧ okB 4000 g ∧ Q (.int (ord3 (gapF f g))) H) := by
  refine T.F__law_order.ok sc__law_order (fun vs H Q E h => ?_) (fun cdv A outer s H vs Q E hr h => ?_)
  · obtain ⟨a, b, f, g, rfl, _⟩ := h
    rfl
  · obtain ⟨a, b, f, g, rfl, ha, hb, hf, hg, k⟩ := h
    refine ⟨_, (pss_cons (ps_set (i := 2) sc__law_order.nd rfl (Or.inl rfl) (pe_op op_sub (pe_op op_mulW (pe_ix ix_tup (pv 0) pe_int (fun _ _ => rfl)) (pe_ix ix_tup (pv 1) pe_int (fun _ _ => rfl))) (pe_op op_mulW (pe_ix ix_tup (pv 1) pe_int (fun _ _ => rfl)) (pe_ix ix_tup (pv 0) pe_int (fun _ _ => rfl)))))
      (pss_one (ps_ret (pe_op op_sub (pe_callTy call_int1 (by rfl) T.n_int (by decide +kernel) (pa_cons (pe_cmpR op_gt (pv 2) pe_int (nomark _)) pa_nil)) (pe_callTy call_int1 (by rfl) T.n_int (by decide +kernel) (pa_cons (pe_cmpR op_lt (pv 2) pe_int (nomark _)) pa_nil)))))), ?_⟩
    refine seq_op fun N hN => ?_
    walk_at "rs"
    refine ⟨_, ha, _, rfl, _, hb, _, rfl, _, rfl, _, rfl, mulW hf.2.2.1 hg.2.2.2, _, hb, _, rfl, _, ha, _, rfl, _, rfl, _, rfl, mulW hg.2.2.1 hf.2.2.2, hN _ _ ?_⟩
    clear hN N
    walk_at "rs"
    exact k
def sp_holds (K : PySem.W.Frag) : Sp := fun vs H Q _ => ∃ (z : Str) (a b : Addr) (f g : Fr), vs = [.str z, .ref a, .ref b] ∧ z ∈ relL ∧ Pr K H a f.1 f.2 ∧ Pr K H b g.1 g.2 ∧ okB 4000 f ∧ okB 4000 g ∧ Q (.bl (holdsF z f g)) H
theorem ok__law_holds (T : Txt w K mg) : FnOk P w K mg base CX0 2 T.a__law_holds T.d__law_holds ["mark", "one", "two"] (sp_holds K) := by
  refine T.F__law_holds.ok sc__law_holds (fun vs H Q E h => ?_) (fun cdv A outer s H vs Q E hr h => ?_)
  · obtain ⟨z, a, b, f, g, rfl, _⟩ := h
    rfl
  · obtain ⟨z, a, b, f, g, rfl, hz, ha, hb, hf, hg, k⟩ := h
    have hr__law_order : Room 1 _ := hr.mono (by decide)
    have G__law_order := ok__law_order (P := P) (base := base) T
    refine ⟨_, (pss_cons (ps_if (pt_val (pe_callB (call_isiDK (K := K) rfl) (by rfl) T.n_isinstance (by decide +kernel) (pa_cons (pv 0) (pa_cons (pe_bltn (v := .ty "tuple") (u := .type "tuple") (by rfl) T.n_tuple (by decide +kernel) rfl) pa_nil)))) (pss_one (ps_ret (pe_cmpR op_in_sign (pe_tupU (pa_cons (pv 1) (pa_cons (pv 2) pa_nil))) (pv 0) (by rfl)))) pss_nil)
      (pss_cons (ps_set (i := 3) sc__law_holds.nd rfl (Or.inl rfl) (pe_call G__law_order hr__law_order (by rfl) T.m__law_order T.F__law_order.kp T.B__law_order .nil pass0 (pa_cons (pv 1) (pa_cons (pv 2) pa_nil))))
      (pss_cons (ps_if (pt_cmpR op_eqS (pv 0) pe_str (nomark _)) (pss_one (ps_ret (pe_cmpR op_neI (pv 3) pe_int (nomark _)))) pss_nil)
      (pss_one (ps_ret (pe_or (pe_and (pe_cmpR op_lt (pv 3) pe_int (nomark _)) (pe_one (pe_cmpR op_in_sign pe_str (pv 0) (by rfl)))) (pe_or (pe_and (pe_cmpR op_gt (pv 3) pe_int (nomark _)) (pe_one (pe_cmpR op_in_sign pe_str (pv 0) (by rfl)))) (pe_one (pe_and (pe_cmpR op_eqI (pv 3) pe_int (nomark _)) (pe_one (pe_cmpR op_in_sign pe_str (pv 0) (by rfl)))))))))))), ?_⟩
    refine seq_op fun N hN => ?_
    walk_at "rs"
    refine ⟨_, _, ⟨rfl, rfl⟩, .str z, .str z, by decide, iteFF (by exact Bool.false_ne_true) (hN _ _ ?_)⟩
    clear hN N
    refine seq_op fun N hN => ?_
    walk_at "rs"
    refine ⟨_, _, ⟨rfl, rfl⟩, f, ha, g, hb, hf, hg, hN _ _ ?_⟩
    clear hN N
    have gz := gap_zero hf hg
    have o1 := ord3_lt (gapF f g)
    have o2 := ord3_gt (gapF f g)
    have o3 := ord3_eq (gapF f g)
    generalize ord3 (gapF f g) = o at *
    have eqd : decide (f = g) = decide (o = 0) := decide_eq_decide.mpr (gz.symm.trans o3.symm)
    have ltd : decide (gapF f g < 0) = decide (o < 0) := decide_eq_decide.mpr o1.symm
    have gtd : decide (0 < gapF f g) = decide (0 < o) := decide_eq_decide.mpr o2.symm
    unfold holdsF at k
    rw [eqd, ltd, gtd] at k
    refine seq_op fun N hN => ?_
    walk_at "rs"
    refine ite2 (fun c => ?_) (fun c => hN _ _ ?_)
    · subst c
      rw [if_neg (by decide), if_pos rfl] at k
      exact k
    clear hN N
    obtain ⟨t1, t2, t3⟩ := hb_tab z hz c
    have hk : Q (.bl (hbF z (decide (o < 0)) (decide (0 < o)) (decide (o = 0)))) H := k
    walk_at "rs"
    rcases Int.lt_trichotomy o 0 with c0 | c0 | c0
    · rw [decide_eq_true c0, decide_eq_false (show ¬ 0 < o by omega), decide_eq_false (show ¬ o = 0 by omega), t1] at hk
      refine iteTT c0 ⟨60, by rfl, ite2 (fun m => ?_) (fun m => iteFF (by omega) (iteFF (by omega) ?_))⟩
      · rw [decide_eq_true m] at hk; exact hk
      · rw [decide_eq_false m] at hk; exact hk
    · rw [decide_eq_false (show ¬ o < 0 by omega), decide_eq_false (show ¬ 0 < o by omega), decide_eq_true c0, t3] at hk
      exact iteFF (by omega) (iteFF (by omega) (iteTT c0 ⟨61, by rfl, hk⟩))
    · rw [decide_eq_false (show ¬ o < 0 by omega), decide_eq_true c0, decide_eq_false (show ¬ o = 0 by omega), t2] at hk
      refine iteFF (by omega) (iteTT c0 ⟨62, by rfl, ite2 (fun m => ?_) (fun m => iteFF (by omega) ?_)⟩)
      · rw [decide_eq_true m] at hk; exact hk
      · rw [decide_eq_false m] at hk; exact hk
theorem ok__law_two (T : Txt w K mg) : FnOk P w K mg base CX0 3 T.a__law_two T.d__law_two ["sign", "one", "two"] (sp_val2 K) := by
  refine T.F__law_two.ok sc__law_two (fun vs H Q E h => ?_) (fun cdv A outer s H vs Q E hr h => ?_)
  · obtain ⟨z, a, b, f, g, rfl, _⟩ := h
    rfl
  · obtain ⟨z, a, b, f, g, rfl, hz, ha, hb, hf, hg, hd, k⟩ := h
    have hr__law_order : Room 1 _ := hr.mono (by decide)
    have G__law_order := ok__law_order (P := P) (base := base) T
    have hr__law_low : Room 1 _ := hr.mono (by decide)
    have G__law_low := ok__law_low (P := P) (base := base) T
    have hr__law_holds : Room 2 _ := hr.mono (by decide)
    have G__law_holds := ok__law_holds (P := P) (base := base) T
    refine ⟨_, (pss_cons (ps_if (pt_cmpR op_in_seq (pv 0) (pe_tupU (pa_cons pe_str (pa_cons pe_str pa_nil))) (by rfl)) (pss_cons (ps_set (i := 3) sc__law_two.nd rfl (Or.inl rfl) (pe_ifExp (pt_cmpR op_eqS (pv 0) pe_str (nomark _)) pe_int (pe_un un_neg pe_int)))
      (pss_one (ps_ret (pe_call G__law_low hr__law_low (by rfl) T.m__law_low T.F__law_low.kp T.B__law_low .nil pass0 (pa_cons (pe_op op_add (pe_op op_mulW (pe_ix ix_tup (pv 1) pe_int (fun _ _ => rfl)) (pe_ix ix_tup (pv 2) pe_int (fun _ _ => rfl))) (pe_op op_mulW (pe_op op_mulW (pv 3) (pe_ix ix_tup (pv 2) pe_int (fun _ _ => rfl))) (pe_ix ix_tup (pv 1) pe_int (fun _ _ => rfl)))) (pa_cons (pe_op op_mulW (pe_ix ix_tup (pv 1) pe_int (fun _ _ => rfl)) (pe_ix ix_tup (pv 2) pe_int (fun _ _ => rfl))) pa_nil)))))) pss_nil)
      (pss_cons (ps_if (pt_cmpR op_eqS (pv 0) pe_str (nomark _)) (pss_one (ps_ret (pe_call G__law_low hr__law_low (by rfl) T.m__law_low T.F__law_low.kp T.B__law_low .nil pass0 (pa_cons (pe_op op_mulW (pe_ix ix_tup (pv 1) pe_int (fun _ _ => rfl)) (pe_ix ix_tup (pv 2) pe_int (fun _ _ => rfl))) (pa_cons (pe_op op_mulW (pe_ix ix_tup (pv 1) pe_int (fun _ _ => rfl)) (pe_ix ix_tup (pv 2) pe_int (fun _ _ => rfl))) pa_nil))))) pss_nil)
      (pss_cons (ps_if (pt_cmpR op_eqS (pv 0) pe_str (nomark _)) (pss_one (ps_ret (pe_ifExp (pt_cmpR op_lt (pe_call G__law_order hr__law_order (by rfl) T.m__law_order T.F__law_order.kp T.B__law_order .nil pass0 (pa_cons (pv 2) (pa_cons (pv 1) pa_nil))) pe_int (nomark _)) (pv 2) (pv 1)))) pss_nil)
      (pss_cons (ps_if (pt_cmpR op_eqS (pv 0) pe_str (nomark _)) (pss_one (ps_ret (pe_ifExp (pt_cmpR op_gt (pe_call G__law_order hr__law_order (by rfl) T.m__law_order T.F__law_order.kp T.B__law_order .nil pass0 (pa_cons (pv 2) (pa_cons (pv 1) pa_nil))) pe_int (nomark _)) (pv 2) (pv 1)))) pss_nil)
      (pss_cons (ps_if (pt_cmpR op_eqS (pv 0) pe_str (nomark _)) (pss_one (ps_ret (pe_tupU (pa_cons (pe_op op_fdivF (pe_ix ix_tup (pv 1) pe_int (fun _ _ => rfl)) (pe_op op_mulW (pe_ix ix_tup (pv 1) pe_int (fun _ _ => rfl)) (pe_ix ix_tup (pv 2) pe_int (fun _ _ => rfl)))) (pa_cons pe_int pa_nil))))) pss_nil)
      (pss_cons (ps_if (pt_cmpR op_eqS (pv 0) pe_str (nomark _)) (pss_one (ps_ret (pe_call G__law_low hr__law_low (by rfl) T.m__law_low T.F__law_low.kp T.B__law_low .nil pass0 (pa_cons (pe_op op_sub (pe_ix ix_tup (pv 1) pe_int (fun _ _ => rfl)) (pe_op op_mulW (pe_op op_mulW (pe_op op_fdivF (pe_ix ix_tup (pv 1) pe_int (fun _ _ => rfl)) (pe_op op_mulW (pe_ix ix_tup (pv 1) pe_int (fun _ _ => rfl)) (pe_ix ix_tup (pv 2) pe_int (fun _ _ => rfl)))) (pe_ix ix_tup (pv 2) pe_int (fun _ _ => rfl))) (pe_ix ix_tup (pv 1) pe_int (fun _ _ => rfl)))) (pa_cons (pe_ix ix_tup (pv 1) pe_int (fun _ _ => rfl)) pa_nil))))) pss_nil)
      (pss_cons (ps_if (pt_cmpR op_eqS (pv 0) pe_str (nomark _)) (pss_one (ps_ret (pe_tupU (pa_cons (pe_callTy call_int1 (by rfl) T.n_int (by decide +kernel) (pa_cons (pe_and (pe_cmpR op_neI (pe_ix ix_tup (pv 1) pe_int (fun _ _ => rfl)) pe_int (nomark _)) (pe_one (pe_cmpR op_neI (pe_ix ix_tup (pv 2) pe_int (fun _ _ => rfl)) pe_int (nomark _)))) pa_nil)) (pa_cons pe_int pa_nil))))) pss_nil)
      (pss_cons (ps_if (pt_cmpR op_eqS (pv 0) pe_str (nomark _)) (pss_one (ps_ret (pe_tupU (pa_cons (pe_callTy call_int1 (by rfl) T.n_int (by decide +kernel) (pa_cons (pe_or (pe_cmpR op_neI (pe_ix ix_tup (pv 1) pe_int (fun _ _ => rfl)) pe_int (nomark _)) (pe_one (pe_cmpR op_neI (pe_ix ix_tup (pv 2) pe_int (fun _ _ => rfl)) pe_int (nomark _)))) pa_nil)) (pa_cons pe_int pa_nil))))) pss_nil)
      (pss_one (ps_ret (pe_tupU (pa_cons (pe_callTy call_int1 (by rfl) T.n_int (by decide +kernel) (pa_cons (pe_call G__law_holds hr__law_holds (by rfl) T.m__law_holds T.F__law_holds.kp T.B__law_holds .nil pass0 (pa_cons (pv 0) (pa_cons (pv 1) (pa_cons (pv 2) pa_nil)))) pa_nil)) (pa_cons pe_int pa_nil))))))))))))), ?_⟩
    refine seq_op fun N hN => ?_
    walk_at "rs"
    refine ⟨by decide, fun p0 H0 s0 h00 h0 => ⟨[.str "+", .str "-"], .inr (.inl (.inl h0)), rfl, by decide +kernel, ite2 (fun c => ?_) (fun c => hN _ _ ?_)⟩⟩
    · have F3 := pow_le hf.2.2.1 (show 1900 ≤ 4000 by decide)
      have F4 := pow_le hf.2.2.2 (show 1900 ≤ 4000 by decide)
      have G3 := pow_le hg.2.2.1 (show 1900 ≤ 4000 by decide)
      have G4 := pow_le hg.2.2.2 (show 1900 ≤ 4000 by decide)
      have nz : f.2 * g.2 ≠ 0 := Int.mul_ne_zero (by have := hf.1; omega) (by have := hg.1; omega)
      have ha0 := Same.seqT s0 ha
      have hb0 := Same.seqT s0 hb
      have hz2 : z = "+" ∨ z = "-" := by
        have q : ∀ z ∈ nineL ++ relL, inV (.str z) [.str "+", .str "-"] = true → z = "+" ∨ z = "-" := by decide +kernel
        exact q z (by rcases hz with h | h; exact List.mem_append_right _ h; exact List.mem_append_left _ h) c
      refine cut_seq (fun σ H2 => ∃ by_ : Int, σ = [some (.str z), some (.ref a), some (.ref b), some (.int by_)] ∧ H2 = H0 ∧ ((z = "+" ∧ by_ = 1) ∨ (z = "-" ∧ by_ = -1))) (fun N hN => ?_) ?_
      · walk_at "rs"
        refine ite2 (fun c1 => hN _ _ ⟨1, rfl, rfl, .inl ⟨c1, rfl⟩⟩) (fun c1 => hN _ _ ⟨-1, rfl, rfl, .inr ⟨?_, rfl⟩⟩)
        rcases hz2 with h | h
        · exact absurd h c1
        · exact h
      · rintro σ H2 ⟨by_, rfl, rfl, hby⟩
        walk_at "rs"
        have b1 : by_.natAbs < 2 ^ 1 := by rcases hby with ⟨_, h⟩ | ⟨_, h⟩ <;> rw [h] <;> decide
        have b2 := pow_le b1 (show 1 ≤ 4000 by decide)
        have b3 : (by_ * g.1).natAbs < 2 ^ (1 + 1900) := wide_lt b1 hg.2.2.1
        have b4 := pow_le b3 (show 1901 ≤ 4000 by decide)
        have k1 : ∀ t H', Same H2 H' → Pr K H' t (frP (f.1 * g.2 + by_ * g.1 * f.2) (f.2 * g.2)) (frQ (f.1 * g.2 + by_ * g.1 * f.2) (f.2 * g.2)) → Q (.ref t) H' := fun t H' s1 h => by
          have k2 := k t H' (Same.trans s0 s1)
          rcases hby with ⟨e1, e2⟩ | ⟨e1, e2⟩
          · rw [e2, Int.one_mul] at h
            rw [e1] at k2
            exact k2 h
          · rw [e2, Int.neg_mul, Int.one_mul, Int.neg_mul, ← Int.sub_eq_add_neg] at h
            rw [e1] at k2
            exact k2 h
        refine ⟨_, ha0, _, rfl, _, hb0, _, rfl, _, rfl, _, rfl, mulW F3 G4, _, hb0, _, rfl, _, rfl, mulW b2 G3, _, ha0, _, rfl, _, rfl, mulW b4 F4, _, ha0, _, rfl, _, hb0, _, rfl, _, rfl, _, rfl, mulW F4 G4, ?_⟩
        exact ⟨_, _, ⟨rfl, rfl⟩, nz, two_add (mulL F3 G4) (mulL b4 F4), pow_le (mulL F4 G4) (by decide), fun t H' s1 _ h1 => k1 t H' s1 (.inl (.inl h1))⟩
    clear hN N
    replace ha := Same.seqT s0 ha
    replace hb := Same.seqT s0 hb
    obtain ⟨f1, f2, f3, f4⟩ := hf
    obtain ⟨g1, g2, g3, g4⟩ := hg
    have nz : f.2 * g.2 ≠ 0 := Int.mul_ne_zero (by omega) (by omega)
    have F3 := pow_le f3 (show 1900 ≤ 4000 by decide)
    have F4 := pow_le f4 (show 1900 ≤ 4000 by decide)
    have G3 := pow_le g3 (show 1900 ≤ 4000 by decide)
    have G4 := pow_le g4 (show 1900 ≤ 4000 by decide)
    have fk : okB 4000 f := ⟨f1, f2, F3, F4⟩
    have gk : okB 4000 g := ⟨g1, g2, G3, G4⟩
    refine seq_op fun N hN => ?_
    walk_at "rs"
    refine ite2 (fun c1 => ?_) (fun c1 => hN _ _ ?_)
    · subst c1
      exact ⟨_, ha, _, rfl, _, hb, _, rfl, _, rfl, _, rfl, mulW F3 G3, _, ha, _, rfl, _, hb, _, rfl, _, rfl, _, rfl, mulW F4 G4, _, _, ⟨rfl, rfl⟩, nz, pow_le (mulL F3 G3) (by decide), pow_le (mulL F4 G4) (by decide), fun t H' s1 _ h1 => k t H' (Same.trans s0 s1) (.inl (.inl h1))⟩
    clear hN N
    refine seq_op fun N hN => ?_
    walk_at "rs"
    refine ite2 (fun c2 => ?_) (fun c2 => hN _ _ ?_)
    · subst c2
      have k' : ∀ t, Pr K H0 t (if gapF g f < 0 then g else f).1 (if gapF g f < 0 then g else f).2 → Q (.ref t) H0 := fun t ht => k t H0 s0 ht
      refine ⟨_, _, ⟨rfl, rfl⟩, g, hb, f, ha, gk, fk, ite2 (fun d => ?_) (fun d => ?_)⟩
      · rw [if_pos ((ord3_lt _).mp d)] at k'; exact k' b hb
      · rw [if_neg (fun q => d ((ord3_lt _).mpr q))] at k'; exact k' a ha
    clear hN N
    refine seq_op fun N hN => ?_
    walk_at "rs"
    refine ite2 (fun c3 => ?_) (fun c3 => hN _ _ ?_)
    · subst c3
      have k' : ∀ t, Pr K H0 t (if 0 < gapF g f then g else f).1 (if 0 < gapF g f then g else f).2 → Q (.ref t) H0 := fun t ht => k t H0 s0 ht
      refine ⟨_, _, ⟨rfl, rfl⟩, g, hb, f, ha, gk, fk, ite2 (fun d => ?_) (fun d => ?_)⟩
      · rw [if_pos ((ord3_gt _).mp d)] at k'; exact k' b hb
      · rw [if_neg (fun q => d ((ord3_gt _).mpr q))] at k'; exact k' a ha
    clear hN N
    refine seq_op fun N hN => ?_
    walk_at "rs"
    refine ite2 (fun c4 => ?_) (fun c4 => hN _ _ ?_)
    · subst c4
      obtain ⟨d1, d2, d3⟩ := hd (.inl rfl)
      have q0 : 1 ≤ f.2 * g.1 := by
        have := Int.mul_le_mul f1 d2 (by decide) (by omega)
        omega
      have cd : CDivF f.1 (f.2 * g.1) := ⟨by omega, logL (mulL F4 G3) (by decide) (by decide)⟩
      exact ⟨_, ha, _, rfl, _, ha, _, rfl, _, hb, _, rfl, _, rfl, _, rfl, mulW F4 G3, _, rfl, cd, by decide, fun p H' s1 _ h1 => k p H' (Same.trans s0 s1) (.inl (.inl h1))⟩
    clear hN N
    refine seq_op fun N hN => ?_
    walk_at "rs"
    refine ite2 (fun c5 => ?_) (fun c5 => hN _ _ ?_)
    · subst c5
      obtain ⟨d1, d2, d3⟩ := hd (.inr rfl)
      have q0 : 1 ≤ f.2 * g.1 := by
        have := Int.mul_le_mul f1 d2 (by decide) (by omega)
        omega
      have cd : CDivF f.1 (f.2 * g.1) := ⟨by omega, logL (mulL F4 G3) (by decide) (by decide)⟩
      have nb : (f.1.fdiv (f.2 * g.1)).natAbs < 2 ^ 1900 := by
        refine Nat.lt_of_le_of_lt ?_ f3
        rw [Int.fdiv_eq_ediv_of_nonneg _ (by omega)]
        exact Int.natAbs_ediv_le_natAbs _ _
      have nk : (f.1.fdiv (f.2 * g.1) * g.1).natAbs < 2 ^ (1900 + 4) := wide_lt nb (show g.1.natAbs < 2 ^ 4 by omega)
      have nq : (f.1.fdiv (f.2 * g.1) * g.1 * f.2).natAbs < 2 ^ (1904 + 1900) := wide_lt nk f4
      have n1 := pow_le nb (show 1900 ≤ 4000 by decide)
      have n2 := pow_le nk (show 1904 ≤ 4000 by decide)
      have n3 := pow_le nq (show 3804 ≤ 8000 by decide)
      have em : f.1 - f.1.fdiv (f.2 * g.1) * g.1 * f.2 = f.1 % (f.2 * g.1) := by
        rw [Int.fdiv_eq_ediv_of_nonneg _ (by omega), Int.emod_def, Int.mul_assoc, Int.mul_comm g.1 f.2, Int.mul_comm (f.2 * g.1)]
      have k1 : ∀ t H', Same H0 H' → Pr K H' t (frP (f.1 - f.1.fdiv (f.2 * g.1) * g.1 * f.2) f.2) (frQ (f.1 - f.1.fdiv (f.2 * g.1) * g.1 * f.2) f.2) → Q (.ref t) H' := fun t H' s1 h => k t H' (Same.trans s0 s1) h
      refine ⟨_, ha, _, rfl, _, ha, _, rfl, _, ha, _, rfl, _, hb, _, rfl, _, rfl, _, rfl, mulW F4 G3, _, rfl, cd, _, hb, _, rfl, _, rfl, mulW n1 G3, _, ha, _, rfl, _, rfl, mulW n2 F4, ?_⟩
      have n4 : (f.1 - f.1.fdiv (f.2 * g.1) * g.1 * f.2).natAbs < 2 ^ 8001 := two_sub (pow_le F3 (by decide)) n3
      exact ⟨_, rfl, _, ha, _, rfl, _, _, ⟨rfl, rfl⟩, by omega, n4, pow_le F4 (by decide), fun t H' s1 _ h1 => k1 t H' s1 (.inl (.inl h1))⟩
    clear hN N
    refine seq_op fun N hN => ?_
    walk_at "rs"
    refine ite2 (fun c6 => ?_) (fun c6 => hN _ _ ?_)
    · subst c6
      have kb : ∀ (n : Int) (t : Addr) (H' : Hp), Same H0 H' → n = (tf (decide (f.1 ≠ 0) && decide (g.1 ≠ 0))).1 → H' t = some (.tup [.int n, .int 1]) → Q (.ref t) H' := fun n t H' s1 e h => by
        have k1 : Pr K H' t (tf (decide (f.1 ≠ 0) && decide (g.1 ≠ 0))).1 (tf (decide (f.1 ≠ 0) && decide (g.1 ≠ 0))).2 → Q (.ref t) H' := k t H' (Same.trans s0 s1)
        rw [tf_snd, ← e] at k1
        exact k1 (.inl (.inl h))
      refine ⟨_, ha, _, rfl, _, rfl, ite2 (fun d => ⟨_, hb, _, rfl, _, rfl, by decide, fun p H' s1 _ h1 => kb _ p H' s1 ?_ h1⟩) (fun d => ⟨by decide, fun p H' s1 _ h1 => kb _ p H' s1 ?_ h1⟩)⟩
      · by_cases e : g.1 = 0 <;> simp [d, e, tf]
      · simp at d
        simp [d, tf]
    clear hN N
    refine seq_op fun N hN => ?_
    walk_at "rs"
    refine ite2 (fun c7 => ?_) (fun c7 => hN _ _ ?_)
    · subst c7
      have kb : ∀ (n : Int) (t : Addr) (H' : Hp), Same H0 H' → n = (tf (decide (f.1 ≠ 0) || decide (g.1 ≠ 0))).1 → H' t = some (.tup [.int n, .int 1]) → Q (.ref t) H' := fun n t H' s1 e h => by
        have k1 : Pr K H' t (tf (decide (f.1 ≠ 0) || decide (g.1 ≠ 0))).1 (tf (decide (f.1 ≠ 0) || decide (g.1 ≠ 0))).2 → Q (.ref t) H' := k t H' (Same.trans s0 s1)
        rw [tf_snd, ← e] at k1
        exact k1 (.inl (.inl h))
      refine ⟨_, ha, _, rfl, _, rfl, ite2 (fun d => ⟨by decide, fun p H' s1 _ h1 => kb _ p H' s1 ?_ h1⟩) (fun d => ⟨_, hb, _, rfl, _, rfl, by decide, fun p H' s1 _ h1 => kb _ p H' s1 ?_ h1⟩)⟩
      · simp [d, tf]
      · simp at d
        by_cases e : g.1 = 0 <;> simp [d, e, tf]
    clear hN N
    walk_at "rs"
    have q : ∀ z ∈ nineL ++ relL, z ∈ relL ∨ inV (.str z) [.str "+", .str "-"] = true ∨ z = "*" ∨ z = "min" ∨ z = "max" ∨ z = "div" ∨ z = "mod" ∨ z = "and" ∨ z = "or" := by decide +kernel
    have hr2 : z ∈ relL := by
      rcases q z (by rcases hz with h | h; exact List.mem_append_right _ h; exact List.mem_append_left _ h) with h | h | h | h | h | h | h | h | h <;> first | exact h | exact absurd h (by assumption)
    rw [opF_rel hr2] at k
    refine ⟨z, a, b, f, g, rfl, hr2, ha, hb, fk, gk, .inr ⟨_, rfl, by decide, fun p H' s1 _ h1 => k p H' (Same.trans s0 s1) (.inl (.inl ?_))⟩⟩
    rw [h1, tf_snd]
    generalize holdsF z f g = x
    cases x <;> rfl
end
end LK

set_option Elab.async false
set_option linter.all false
set_option maxRecDepth 100000
namespace LK
open PySem PySem.Spec PyProof.Rows L2
local macro_rules | `(tactic| walk_at "rs") => `(tactic| simp only [cxK, cxNK, tCallZ, tAsg, tOp, rI0, rS0, rB0, rI, rU, tUn, rEq, rNe, rIxL, rIxT, rIxS, rSetL, rSlLU, rSlS, rSlU, rCatL, rCatU, rRepL, rIn, tVar, tC, gName, gSub, tIfS, tTest, tB, tAnd, tOr, tNot, tNotV, tAndV, tOrV, tIf, tCall, tCons, tNil, tCB, tDrop, tRet, tRetN, tNext, tLstU, tTupU, tM0, tM1, tPar, tPar3, tAug, ipI, tBM, tBM0, rAppend, rPop, tBreak, tCont, tChain, tSl, tPart, tNoPart, L2.start, List.map, List.length_cons, List.length_nil, List.replicate, List.cons_append, List.nil_append, List.append_nil, List.getElem?_cons_zero, List.getElem?_cons_succ, List.set_cons_zero, List.set_cons_succ, Option.some.injEq, V.int.injEq, V.ref.injEq, V.str.injEq, V.bl.injEq, exists_eq_left', exists_eq_left, exists_and_left, decide_eq_true_eq, List.cons.injEq, and_true, true_and, scal, Bool.not_eq_true', decide_eq_false_iff_not, Nat.zero_add, Nat.reduceAdd, Nat.reduceSub, reduceCtorEq, false_and, exists_false, false_or, or_false, CPow, CMul, CDiv, Int.reduceToNat, ↓reduceIte, wipe, sw, List.nil_append, List.singleton_append])
local macro_rules | `(tactic| walk_at "st") => `(tactic| (refine seq_op fun N hN => ?_; walk_at "rs"))
local macro_rules | `(tactic| walk_at "sd") => `(tactic| first | assumption | decide | omega)
local macro_rules | `(tactic| walk_at "rd") => `(tactic| repeat (first
  | refine ⟨_, SqL.of (by assumption), ?_⟩ | refine ⟨_, SqL.of upd_same, ?_⟩ | refine ⟨_, .inl (SqL.of (by assumption)), ?_⟩ | refine ⟨_, (by assumption : _ = some (HO.lst _)), ?_⟩ | refine ⟨_, upd_same, ?_⟩
  | refine ⟨_, rfl, ?_⟩ | refine And.intro (by walk_at "sd") ?_))

theorem Frs.last {K : PySem.W.Frag} {G : Hp} {xs : List V} {fs : List Fr} {f : Fr} (h : Frs K G xs (fs ++ [f])) : ∃ ys a, xs = ys ++ [.ref a] ∧ Frs K G ys fs ∧ Pr K G a f.1 f.2 := by
  have hl := h.len
  rw [List.length_append, List.length_singleton] at hl
  obtain ⟨a, f', h1, h2, h3⟩ := h.get (n := fs.length) (by rw [List.length_append, List.length_singleton]; omega)
  rw [List.getElem?_append_right (Nat.le_refl _), Nat.sub_self] at h2
  have e : f = f' := Option.some.inj h2
  subst e
  have ht := h.take fs.length
  rw [List.take_left] at ht
  refine ⟨_, a, ?_, ht, h3⟩
  have hi : fs.length < xs.length := by omega
  have e2 : xs[fs.length] = .ref a := by
    rw [List.getElem?_eq_getElem hi] at h1
    exact Option.some.inj h1
  conv => lhs; rw [← List.take_append_drop fs.length xs, List.drop_eq_getElem_cons hi, List.drop_eq_nil_of_le (by omega), e2]
theorem w_last : ∀ z ∈ allW, nm z = false → cutS z (some (-1)) none = ⟨#[z.cps.toList.getLastD 0]⟩ ∧ decide (z.cps.toList.getLastD 0 ∈ FIGs.cps.toList) = (opsOf z).isNone := by decide +kernel
theorem last_at (ys : List V) (v : V) : (ys ++ [v])[(ys ++ [v]).length - 1]? = some v ∧ (ys ++ [v]).dropLast = ys := by
  constructor
  · rw [List.length_append, List.length_singleton, Nat.add_sub_cancel, List.getElem?_append_right (Nat.le_refl _), Nat.sub_self]; rfl
  · exact List.dropLast_concat
section
variable {P : Program} {w : World} {K : PySem.W.Frag} {mg : Str → Option Value} {base : Heap}
def sp_worth (K : PySem.W.Frag) : Sp := fun vs H Q _ => ∃ (a d : Addr) (ws : List Str) (kvs : List (Key × V)) (tab : Str → Option Fr), vs = [.ref a, .ref d] ∧ SqT K H a (ws.map V.str) ∧ (∀ z ∈ ws, z ∈ allW) ∧ ws.length ≤ 30 ∧ walkL [101] (ws.map PyData.str) = true ∧ DT K H d kvs tab ∧ (∀ z f, tab z = some f → okB 64 f) ∧
  lacks tab ws = [] ∧ (∀ z ∈ allW, nm z = false → tab z = none) ∧ ∀ t H' f, Same H H' → stk tab ws = [f] → Pr K H' t f.1 f.2 → Q (.ref t) H'
theorem ok__law_worth (T : Txt w K mg) : FnOk P w K mg base CX0 4 T.a__law_worth T.d__law_worth ["prefix", "table"] (sp_worth K) := by
  refine T.F__law_worth.ok sc__law_worth (fun vs H Q E h => ?_) (fun cdv A outer s H vs Q E hr h => ?_)
  · obtain ⟨a, d, ws, kvs, tab, rfl, _⟩ := h
    rfl
  · obtain ⟨a, d, ws, kvs, tab, rfl, ha, hw, hl, hwalk, hD, ht, hlk, hno, k⟩ := h
    have hr__law_two : Room 3 _ := hr.mono (by decide)
    have G__law_two := ok__law_two (P := P) (base := base) T
    have hu1 : (A.deeper (envOfC "_law_worth" (defScope s__law_worth) s.heap.objs.size T.a__law_worth cdv)).units + 1 < cLine := Nat.lt_of_le_of_lt (Nat.add_le_add_left (by decide : 1 ≤ 64) _) hr.units
    refine ⟨_, (pss_cons (ps_set (i := 2) sc__law_worth.nd rfl (Or.inl rfl) (pe_lstU pa_nil))
      (pss_cons (ps_for PassesOwn.never rfl (pi_tup (pe_revT (pv 0))) (pg_name (i := 3) sc__law_worth.nd rfl (Or.inl rfl)) (pss_one (ps_if (pt_cmp (pc_din hu1 (pv 3) (pv 1))) (pss_one (ps_expr (pe_bm PySem.F.plainAttrs_list PySem.F.slot_list_append PySem.F.type_list_append mt_append (pv 2) (pa_cons (pe_dget hu1 (pv 1) (pv 3) (fun _ _ => rfl)) pa_nil)))) (pss_one (ps_if (pt_cmpR op_in_sign (pe_slice sl_str (pv 3) (po_some (pe_un un_neg pe_int)) po_none) pe_str (by rfl)) (pss_one (ps_expr (pe_bm PySem.F.plainAttrs_list PySem.F.slot_list_append PySem.F.type_list_append mt_append (pv 2) (pa_cons (pe_tupU (pa_cons (pe_callTy call_int_str (by rfl) T.n_int (by decide +kernel) (pa_cons (pv 3) pa_nil)) (pa_cons pe_int pa_nil))) pa_nil)))) (pss_cons (ps_set (i := 4) sc__law_worth.nd rfl (Or.inl rfl) (pe_bm0 PySem.F.plainAttrs_list PySem.F.slot_list_pop PySem.F.type_list_pop mt_pop (pv 2)))
      (pss_one (ps_if (pt_cmpR op_eqS (pv 3) pe_str (nomark _)) (pss_one (ps_expr (pe_bm PySem.F.plainAttrs_list PySem.F.slot_list_append PySem.F.type_list_append mt_append (pv 2) (pa_cons (pe_tupU (pa_cons (pe_callTy call_int1 (by rfl) T.n_int (by decide +kernel) (pa_cons (pe_cmpR op_eqI (pe_ix ix_tup (pv 4) pe_int (fun _ _ => rfl)) pe_int (nomark _)) pa_nil)) (pa_cons pe_int pa_nil))) pa_nil)))) (pss_one (ps_if (pt_cmpR op_eqS (pv 3) pe_str (nomark _)) (pss_cons (ps_par (i := 5) (j := 6) (by rfl) sc__law_worth.nd rfl rfl (by decide) rfl rfl (pa_cons (pe_bm0 PySem.F.plainAttrs_list PySem.F.slot_list_pop PySem.F.type_list_pop mt_pop (pv 2)) (pa_cons (pe_bm0 PySem.F.plainAttrs_list PySem.F.slot_list_pop PySem.F.type_list_pop mt_pop (pv 2)) pa_nil)) (by rfl))
      (pss_one (ps_expr (pe_bm PySem.F.plainAttrs_list PySem.F.slot_list_append PySem.F.type_list_append mt_append (pv 2) (pa_cons (pe_ifExp (pt_cmpR op_neI (pe_ix ix_tup (pv 4) pe_int (fun _ _ => rfl)) pe_int (nomark _)) (pv 5) (pv 6)) pa_nil))))) (pss_one (ps_expr (pe_bm PySem.F.plainAttrs_list PySem.F.slot_list_append PySem.F.type_list_append mt_append (pv 2) (pa_cons (pe_call G__law_two hr__law_two (by rfl) T.m__law_two T.F__law_two.kp T.B__law_two .nil pass0 (pa_cons (pv 3) (pa_cons (pv 4) (pa_cons (pe_bm0 PySem.F.plainAttrs_list PySem.F.slot_list_pop PySem.F.type_list_pop mt_pop (pv 2)) pa_nil)))) pa_nil))))))))))))))
      (pss_one (ps_ret (pe_bm0 PySem.F.plainAttrs_list PySem.F.slot_list_pop PySem.F.type_list_pop mt_pop (pv 2)))))), ?_⟩
    have hn := lacks_of hlk
    refine seq_op fun N hN => ?_
    walk_at "rs"
    refine ⟨by decide, fun p H1 s1 h0 h1 => hN _ _ ?_⟩
    clear hN N
    have hp0 : H p = none := h0
    refine cut_seq (fun σ G => ∃ (x3 x4 x5 x6 : Option V) (xs : List V), σ = [some (.ref a), some (.ref d), some (.ref p), x3, x4, x5, x6] ∧ Same H G ∧ G p = some (.lst xs) ∧ Frs K G xs (stk tab ws).reverse) (fun N hN => ?_) ?_
    · refine ⟨_, rfl, a, _, rfl, Same.seqT s1 ha, fun q H2 s2 h02 h2 => ⟨q, rfl, ⟨_, .inl (.inl h2)⟩, for_tup (K := K) (a := q) (xs := (ws.map V.str).reverse) (fun i σ G => ∃ (x3 x4 x5 x6 : Option V) (xs : List V), σ = [some (.ref a), some (.ref d), some (.ref p), x3, x4, x5, x6] ∧ Same H G ∧ G q = some (.tup (ws.map V.str).reverse) ∧ G p = some (.lst xs) ∧ Frs K G xs (stk tab (ws.drop (ws.length - i))).reverse) ⟨none, none, none, none, [], rfl, Same.trans s1 s2, h2, s2 _ _ h1, ?_⟩ (fun i σ G _ ⟨_, _, _, _, _, _, _, gq, _⟩ => .inl (.inl gq)) ?_ ?_⟩⟩
      · rw [Nat.sub_zero, List.drop_length]; exact .nil
      · rintro i y σ G hy ⟨x3, x4, x5, x6, xs, rfl, sg, gq, gp, hx⟩
        have hil : i < ws.length := by
          have := (List.getElem?_eq_some_iff.mp hy).1
          simpa using this
        have hz0 : ((ws.map V.str).reverse)[i]? = (ws[ws.length - 1 - i]?).map V.str := by
          rw [List.getElem?_reverse (by rw [List.length_map]; exact hil), List.getElem?_map, List.length_map]
        rw [hz0] at hy
        obtain ⟨z, hz, rfl⟩ := Option.map_eq_some_iff.mp hy
        have hzm : z ∈ ws := List.mem_of_getElem? hz
        have hza := hw z hzm
        have ei : ws.length - 1 - i + 1 = ws.length - i := by omega
        have esuf : ws.drop (ws.length - (i + 1)) = z :: ws.drop (ws.length - i) := by
          have h1 : ws.length - (i + 1) = ws.length - 1 - i := by omega
          rw [h1, List.drop_eq_getElem_cons (by omega), (List.getElem?_eq_some_iff.mp hz).2, ei]
        have est : stk tab (ws.drop (ws.length - (i + 1))) = stepF tab z (stk tab (ws.drop (ws.length - i))) := by rw [esuf]; rfl
        rw [est]
        obtain ⟨v, hv, hwv⟩ := walk_suffix (tab := tab) ws [101] (ws.length - 1 - i) z hw (fun c hc => .inl (by simpa using hc)) hwalk hz
        rw [ei] at hwv
        have hsub : ∀ y ∈ ws.drop (ws.length - i), y ∈ ws := fun y hy => List.mem_of_mem_drop hy
        have hst := stk_ok (tab := tab) (ws.drop (ws.length - i)) (owes z ++ v) (fun y hy => hw y (hsub y hy)) (fun y hy n => by
          obtain ⟨f, hf⟩ := Option.isSome_iff_exists.mp (hn y (hsub y hy) n)
          exact ⟨f, hf, ht y f hf⟩) (fun c hc => by
            rcases List.mem_append.mp hc with hc | hc
            · exact owes_two z hza c hc
            · exact hv c hc) hwv
        have hdl : (ws.drop (ws.length - i)).length ≤ 29 := by rw [List.length_drop]; omega
        have hD2 := hD.same sg
        generalize stk tab (ws.drop (ws.length - i)) = st at *
        have hin : (tab z).isSome = nm z := by
          cases n : nm z with
          | true => exact hn z hzm n
          | false => rw [hno z hza n]; rfl
        have ps : ∀ (G' : Hp), Same H G' → ∀ o, Same H (upd G' p o) := fun G' s o b u e => by rw [upd_ne (ne_of_none e hp0)]; exact s b u e
        have pq : ∀ (G' : Hp) (ys : List V) (o : HO), G' q = some (.tup (ws.map V.str).reverse) → G' p = some (.lst ys) → upd G' p o q = some (.tup (ws.map V.str).reverse) := fun G' ys o h1 h2 => by
          rw [upd_ne (fun e => by rw [e, h2] at h1; cases h1)]; exact h1
        have fin : ∀ (G' : Hp) (ys : List V) (r : Addr) (f : Fr) (rest : List Fr), Same H G' → G' q = some (.tup (ws.map V.str).reverse) → G' p = some (.lst ys) → Frs K G' ys rest.reverse → Pr K G' r f.1 f.2 → stepF tab z st = f :: rest →
            Same H (upd G' p (.lst (ys ++ [.ref r]))) ∧ upd G' p (.lst (ys ++ [.ref r])) q = some (.tup (ws.map V.str).reverse) ∧ ∃ x2, upd G' p (.lst (ys ++ [.ref r])) p = some (.lst x2) ∧ Frs K (upd G' p (.lst (ys ++ [.ref r]))) x2 (stepF tab z st).reverse := fun G' ys r f rest h1 h2 h3 h4 h5 h6 => by
          refine ⟨ps G' h1 _, pq G' ys _ h2 h3, _, upd_same, ?_⟩
          rw [h6, List.reverse_cons]
          exact (h4.upd h3).app (.cons (seqT_upd h3 h5) .nil)
        have hlx : xs.length ≤ 29 := by
          rw [hx.len, List.length_reverse]
          exact Nat.le_trans hst.len_le hdl
        have small : ∀ ys : List V, ys.length ≤ 29 → ys.length < sizeLine := fun ys h => Nat.lt_of_le_of_lt h (by decide)
        have tyl : ∀ (G' : Hp) (ys : List V), G' p = some (.lst ys) → tyV K "list" (.ref p) G' := fun G' ys h => .inl ⟨rfl, _, .inl (.inl h)⟩
        walk_at "rs"
        refine ⟨_, rfl, _, rfl, d, _, rfl, .inl ⟨kvs, .inr z, .inl hD2.at_, rfl, rfl⟩, ?_⟩
        rw [hD2.has, hin]
        refine ⟨_, rfl, ite2 (fun n => ?_) (fun n => ?_)⟩
        · obtain ⟨f, hf⟩ := Option.isSome_iff_exists.mp (hn z hzm n)
          obtain ⟨r, e1, e2⟩ := hD2.get hf
          refine ⟨tyl _ _ gp, _, rfl, _, rfl, d, _, rfl, .inl ⟨kvs, .inr z, .inl hD2.at_, rfl, e1.symm⟩, xs, gp, small _ hlx, _, _, _, _, ⟨rfl, rfl, rfl, rfl⟩, ?_⟩
          exact fin G xs r f st sg gq gp hx e2 (step_name n hf)
        simp only [Bool.not_eq_true] at n
        obtain ⟨l1, l2⟩ := w_last z hza n
        refine ⟨Nat.le_trans (w_len z hza).1 (by decide), _, l1, ite2 (fun c => ?_) (fun c => ?_)⟩
        · have c4 : opsOf z = none := by
            have c' : decide (z.cps.toList.getLastD 0 ∈ FIGs.cps.toList) = true := decide_eq_true c
            rw [c'] at l2
            cases e : opsOf z with
            | none => rfl
            | some o => rw [e] at l2; cases l2
          obtain ⟨i1, i2⟩ := w_int z hza n c4
          refine ⟨tyl _ _ gp, _, i1, Nat.le_trans (w_len z hza).1 (by decide), by decide, fun r G1 s3 h03 h3 => ⟨xs, s3 _ _ gp, small _ hlx, _, _, _, _, ⟨rfl, rfl, rfl, rfl⟩, ?_⟩⟩
          exact fin G1 xs r (intOf z, 1) st (Same.trans sg s3) (s3 _ _ gq) (s3 _ _ gp) (hx.same s3) (.inl (.inl h3)) (step_int n c4)
        have ⟨o, ho⟩ : ∃ o, opsOf z = some o := by
          cases e : opsOf z with
          | none => rw [e] at l2; exact absurd (of_decide_eq_true l2) c
          | some o => exact ⟨o, rfl⟩
        have ow : owes z = o.cps.toList := by
          unfold owes; rw [if_neg (by rw [n]; decide), ho]
        refine seq_op fun N2 hN2 => ?_
        walk_at "rs"
        have pop : ∀ (ow : List Nat) (n : Nat) (st : List Fr) (c : Nat), Stk (c :: ow) n st → ∃ f r m k, st = f :: r ∧ n = m + k ∧ okB (64 * m) f ∧ 0 < m ∧ (c = 107 → f.2 = 1 ∧ 1 ≤ f.1 ∧ f.1 ≤ 9) ∧ Stk ow k r := fun _ _ _ _ h => h.top
        obtain ⟨c0, cs, ec⟩ : ∃ c0 cs, owes z = c0 :: cs := by
          rcases (w_op hza ho).2 with ⟨_, e1⟩ | ⟨_, e1⟩ | ⟨_, _, ⟨_, e1⟩ | ⟨_, e1⟩⟩ <;> exact ⟨_, _, by rw [ow, e1]⟩
        rw [ec] at hst
        obtain ⟨g, r, m1, k1, rfl, en1, hg, hm1, _, hst2⟩ := hst.top
        rw [List.reverse_cons] at hx
        obtain ⟨ys, b1, rfl, hy, hb1⟩ := hx.last
        refine ⟨tyl _ _ gp, _, gp, _, (last_at ys _).1, hN2 _ _ ?_⟩
        rw [(last_at ys _).2]
        clear hN2 N2
        have hly : ys.length ≤ 29 := by rw [List.length_append, List.length_singleton] at hlx; omega
        have sg1 := ps G sg (.lst ys)
        have gq1 := pq G _ (.lst ys) gq gp
        have gp1 : upd G p (.lst ys) p = some (.lst ys) := upd_same
        have hy1 := hy.upd (o := .lst ys) gp
        have hb1' := seqT_upd (o := .lst ys) gp hb1
        have okg := hg.le (show 64 * m1 ≤ 1900 by omega)
        generalize upd G p (.lst ys) = G1 at *
        walk_at "rs"
        refine ite2 (fun e1 => ?_) (fun e1 => ?_)
        · subst e1
          refine ⟨tyl _ _ gp1, _, hb1', _, rfl, _, rfl, by decide, fun t G2 s3 h03 h3 => ⟨ys, s3 _ _ gp1, small _ hly, _, _, _, _, ⟨rfl, rfl, rfl, rfl⟩, fin G2 ys t (tf (decide (g.1 = 0))) r (Same.trans sg1 s3) (s3 _ _ gq1) (s3 _ _ gp1) (hy1.same s3) (.inl (.inl ?_)) step_not⟩⟩
          rw [h3, tf_snd]
          by_cases e : g.1 = 0 <;> simp [e, tf]
        refine ite2 (fun e2 => ?_) (fun e2 => ?_)
        · refine seq_op fun N2 hN2 => ?_
          walk_at "rs"
          subst e2
          have eo : owes "if" = [101, 101, 101] := by decide +kernel
          rw [eo] at ec
          have ecs : cs = [101, 101] := (List.cons.inj ec).2.symm
          subst ecs
          obtain ⟨g2, r2, m2, k2, rfl, en2, hg2, hm2, _, hst3⟩ := pop _ _ _ _ hst2
          obtain ⟨g3, r3, m3, k3, rfl, en3, hg3, hm3, _, hst4⟩ := pop _ _ _ _ hst3
          rw [List.reverse_cons] at hy1
          obtain ⟨ys2, b2, rfl, hy2, hb2⟩ := hy1.last
          rw [List.reverse_cons] at hy2
          obtain ⟨ys3, b3, rfl, hy3, hb3⟩ := hy2.last
          have d1 := (last_at (ys3 ++ [V.ref b3]) (V.ref b2)).2
          have d2 := (last_at ys3 (V.ref b3)).2
          refine ⟨tyl _ _ gp1, _, gp1, _, (last_at _ _).1, .inl ⟨rfl, _, .inl (.inl upd_same)⟩, _, upd_same, .ref b3, by rw [d1]; exact (last_at _ _).1, _, _, ⟨rfl, rfl⟩, hN2 _ _ ?_⟩
          rw [d1, d2]
          clear hN2 N2
          have gp2 : upd G1 p (.lst (ys3 ++ [V.ref b3])) p = some (.lst (ys3 ++ [V.ref b3])) := upd_same
          have sg3 := ps _ (ps G1 sg1 (.lst (ys3 ++ [V.ref b3]))) (.lst ys3)
          have gq3 := pq _ _ (.lst ys3) (pq G1 _ (.lst (ys3 ++ [V.ref b3])) gq1 gp1) gp2
          have gp3 : upd (upd G1 p (.lst (ys3 ++ [V.ref b3]))) p (.lst ys3) p = some (.lst ys3) := upd_same
          have u3 := (hy3.upd (o := .lst (ys3 ++ [V.ref b3])) gp1).upd (o := .lst ys3) gp2
          have v1 := seqT_upd (o := .lst ys3) gp2 (seqT_upd (o := .lst (ys3 ++ [V.ref b3])) gp1 hb1')
          have v2 := seqT_upd (o := .lst ys3) gp2 (seqT_upd (o := .lst (ys3 ++ [V.ref b3])) gp1 hb2)
          have v3 := seqT_upd (o := .lst ys3) gp2 (seqT_upd (o := .lst (ys3 ++ [V.ref b3])) gp1 hb3)
          have hl3 : ys3.length ≤ 29 := by
            rw [List.length_append, List.length_append] at hly; omega
          generalize upd (upd G1 p (.lst (ys3 ++ [V.ref b3]))) p (.lst ys3) = G3 at *
          walk_at "rs"
          refine ⟨tyl _ _ gp3, _, v1, _, rfl, _, rfl, ite2 (fun c0 => ?_) (fun c0 => ?_)⟩
          · refine ⟨ys3, gp3, small _ hl3, _, _, _, _, ⟨rfl, rfl, rfl, rfl⟩, fin G3 ys3 b2 g2 r3 sg3 gq3 gp3 u3 v2 ?_⟩
            rw [step_if, if_neg c0]
          · refine ⟨ys3, gp3, small _ hl3, _, _, _, _, ⟨rfl, rfl, rfl, rfl⟩, fin G3 ys3 b3 g3 r3 sg3 gq3 gp3 u3 v3 ?_⟩
            rw [step_if, if_pos (Classical.byContradiction c0)]
        obtain ⟨w1, w2, _⟩ := w_two z hza e1 e2 (by rw [ho]; rfl)
        have hcs : ∃ c, cs = [c] ∧ (z = "div" ∨ z = "mod" → c = 107) := by
          rcases (w_op hza ho).2 with ⟨h, _⟩ | ⟨h, _⟩ | ⟨_, _, ⟨h, q⟩ | ⟨h, q⟩⟩
          · exact absurd h e1
          · exact absurd h e2
          · rw [ow, q] at ec
            exact ⟨107, (List.cons.inj ec).2.symm, fun _ => rfl⟩
          · rw [ow, q] at ec
            exact ⟨101, (List.cons.inj ec).2.symm, fun x => absurd x h⟩
        obtain ⟨c1, rfl, hc1⟩ := hcs
        obtain ⟨g2, r2, m2, k2, rfl, en2, hg2, hm2, dg, hst3⟩ := pop _ _ _ _ hst2
        rw [List.reverse_cons] at hy1
        obtain ⟨ys2, b2, rfl, hy2, hb2⟩ := hy1.last
        have d1 := (last_at ys2 (V.ref b2)).2
        refine ⟨tyl _ _ gp1, tyl _ _ gp1, _, gp1, _, (last_at _ _).1, ?_⟩
        rw [d1]
        have hl2 : ys2.length ≤ 29 := by
          rw [List.length_append] at hly; omega
        refine ⟨z, b1, b2, g, g2, rfl, w1, seqT_upd gp1 hb1', seqT_upd gp1 hb2, okg, hg2.le (by omega), fun x => dg (hc1 x), fun t G3 s3 ht3 => ⟨ys2, s3 _ _ upd_same, small _ hl2, _, _, _, _, ⟨rfl, rfl, rfl, rfl⟩, ?_⟩⟩
        exact fin G3 ys2 t (opF z g g2) r2 (Same.trans (ps G1 sg1 _) s3) (s3 _ _ (pq G1 _ _ gq1 gp1)) (s3 _ _ upd_same) ((hy2.upd gp1).same s3) ht3 (step_two n ho e1 e2)
      · rintro σ G ⟨x3, x4, x5, x6, xs, rfl, sg, gq, gp, hx⟩
        rw [List.length_reverse, List.length_map, Nat.sub_self, List.drop_zero] at hx
        exact hN _ _ ⟨x3, x4, x5, x6, xs, rfl, sg, gp, hx⟩
    · rintro σ G ⟨x3, x4, x5, x6, xs, rfl, sg, gp, hx⟩
      have hst := stk_ok (tab := tab) ws [101] hw (fun z hz n => by
        obtain ⟨f, hf⟩ := Option.isSome_iff_exists.mp (hn z hz n)
        exact ⟨f, hf, ht z f hf⟩) (fun c hc => .inl (by simpa using hc)) hwalk
      obtain ⟨f, r, m, k2, e1, e2, hf, hm, _, h5⟩ := hst.top
      have er : r = [] := List.eq_nil_of_length_eq_zero h5.len
      subst er
      rw [e1] at hx
      cases hx with
      | cons hp hr =>
      cases hr
      walk_at "rs"
      refine ⟨.inl ⟨rfl, _, .inl (.inl gp)⟩, _, gp, _, rfl, k _ _ f (fun b u e => by rw [upd_ne (ne_of_none e hp0)]; exact sg b u e) e1 (seqT_upd gp hp)⟩
end
end LK

set_option Elab.async false
set_option linter.all false
set_option maxRecDepth 100000
namespace LK
open PySem PySem.Spec PyProof.Rows L2
local macro_rules | `(tactic| walk_at "rs") => `(tactic| simp only [cxK, cxNK, tCallZ, tAsg, tOp, rI0, rS0, rB0, rI, rU, tUn, rEq, rNe, rIxL, rIxT, rIxS, rSetL, rSlLU, rSlS, rSlU, rCatL, rCatU, rRepL, rIn, tVar, tC, gName, gSub, tIfS, tTest, tB, tAnd, tOr, tNot, tNotV, tAndV, tOrV, tIf, tCall, tCons, tNil, tCB, tDrop, tRet, tRetN, tNext, tLstU, tTupU, tM0, tM1, tPar, tPar3, tAug, ipI, tBM, tBM0, rAppend, rPop, tBreak, tCont, tChain, tSl, tPart, tNoPart, L2.start, List.map, List.length_cons, List.length_nil, List.replicate, List.cons_append, List.nil_append, List.append_nil, List.getElem?_cons_zero, List.getElem?_cons_succ, List.set_cons_zero, List.set_cons_succ, Option.some.injEq, V.int.injEq, V.ref.injEq, V.str.injEq, V.bl.injEq, exists_eq_left', exists_eq_left, exists_and_left, decide_eq_true_eq, List.cons.injEq, and_true, true_and, scal, Bool.not_eq_true', decide_eq_false_iff_not, Nat.zero_add, Nat.reduceAdd, Nat.reduceSub, reduceCtorEq, false_and, exists_false, false_or, or_false, CPow, CMul, CDiv, Int.reduceToNat, ↓reduceIte, wipe, sw, List.nil_append, List.singleton_append])
local macro_rules | `(tactic| walk_at "st") => `(tactic| (refine seq_op fun N hN => ?_; walk_at "rs"))
local macro_rules | `(tactic| walk_at "sd") => `(tactic| first | assumption | decide | omega)
local macro_rules | `(tactic| walk_at "rd") => `(tactic| repeat (first
  | refine ⟨_, SqL.of (by assumption), ?_⟩ | refine ⟨_, SqL.of upd_same, ?_⟩ | refine ⟨_, .inl (SqL.of (by assumption)), ?_⟩ | refine ⟨_, (by assumption : _ = some (HO.lst _)), ?_⟩ | refine ⟨_, upd_same, ?_⟩
  | refine ⟨_, rfl, ?_⟩ | refine And.intro (by walk_at "sd") ?_))

theorem op_notIn_seqK {X : Cx} {K : PySem.W.Frag} (hK : X.K = K) : OpR X (compareOp .NotIn) (rIn K true) := by subst hK; exact op_notIn_seq
theorem inV_map (z : Str) (l : List Str) : inV (.str z) (l.map V.str) = decide (z ∈ l) := by
  induction l with
  | nil => rfl
  | cons a l ih =>
    have e : inV (.str z) ((a :: l).map V.str) = (eqV (.str a) (.str z) || inV (.str z) (l.map V.str)) := rfl
    rw [e, ih]
    have q : eqV (.str a) (.str z) = decide (a = z) := by
      show (_ == _) = _
      exact Bool.beq_eq_decide_eq _ _
    rw [q]
    by_cases h : a = z
    · subst h; simp
    · have h' : ¬ z = a := fun e => h e.symm
      simp [h, h']
theorem flat_strs (l : List Str) : (l.map V.str).all flatV = true := List.all_eq_true.mpr fun v hv => by
  obtain ⟨z, _, rfl⟩ := List.mem_map.mp hv
  rfl
theorem w_named : ∀ z ∈ allW, (Txt.islower (cutS z none (some 1)) && !inV (.str z) [.str "min", .str "max", .str "mod", .str "div", .str "and", .str "or", .str "not", .str "if"]) = nm z := by decide +kernel
section
variable {P : Program} {w : World} {K : PySem.W.Frag} {mg : Str → Option Value} {base : Heap}
theorem ok__law_once (T : Txt w K mg) : FnOk P w K mg base CX0 1 T.a__law_once T.d__law_once ["things"] (fun vs H Q _ => ∃ (a : Addr) (ws : List Str), vs = [.ref a] ∧ SqL K H a (ws.map V.str) ∧ ws.length ≤ 30 ∧ ∀ t H', Same H H' → H t = none → H' t = some (.lst ((onceS ws).map V.str)) → Q (.ref t) H') := by
  refine T.F__law_once.ok sc__law_once (fun vs H Q E h => ?_) (fun cdv A outer s H vs Q E hr h => ?_)
  · obtain ⟨a, ws, rfl, _⟩ := h
    rfl
  · obtain ⟨a, ws, rfl, ha, hl, k⟩ := h
    refine ⟨_, (pss_cons (ps_set (i := 1) sc__law_once.nd rfl (Or.inl rfl) (pe_lstU pa_nil))
      (pss_cons (ps_for PassesOwn.never rfl (pi_list (pv 0)) (pg_name (i := 2) sc__law_once.nd rfl (Or.inl rfl)) (pss_one (ps_if (pt_cmpR op_notIn_seq (pv 2) (pv 1) (by rfl)) (pss_one (ps_expr (pe_bm PySem.F.plainAttrs_list PySem.F.slot_list_append PySem.F.type_list_append mt_append (pv 1) (pa_cons (pv 2) pa_nil)))) pss_nil)))
      (pss_one (ps_ret (pv 1))))), ?_⟩
    refine seq_op fun N hN => ?_
    walk_at "rs"
    refine ⟨by decide, fun p H1 s1 h0 h1 => hN _ _ ?_⟩
    clear hN N
    refine cut_seq (fun σ G => ∃ x, σ = [some (.ref a), some (.ref p), x] ∧ Same H G ∧ G p = some (.lst ((onceS ws).map V.str))) (fun N hN => ?_) ?_
    · refine ⟨_, rfl, a, rfl, ⟨_, seqL_same s1 ha⟩, for_list (K := K) (a := a) (xs := ws.map V.str) (fun i σ G => ∃ x, σ = [some (.ref a), some (.ref p), x] ∧ Same H G ∧ G p = some (.lst ((onceS (ws.take i)).map V.str))) ⟨none, rfl, s1, h1⟩ (fun i σ G _ ⟨_, _, sg, _⟩ => seqL_same sg ha) ?_ ?_⟩
      · rintro i y σ G hy ⟨x, rfl, sg, gp⟩
        rw [List.getElem?_map] at hy
        obtain ⟨z, hz, rfl⟩ := Option.map_eq_some_iff.mp hy
        have et : ws.take (i + 1) = ws.take i ++ [z] := by rw [List.take_succ, hz]; rfl
        have en : onceS (ws.take (i + 1)) = addS (onceS (ws.take i)) z := by
          rw [et]; unfold onceS; rw [List.foldl_append]; rfl
        have hl2 : (onceS (ws.take i)).length ≤ 30 := by
          have h3 := len_foldS (ws.take i) []
          rw [List.length_take] at h3
          unfold onceS
          simp at h3 ⊢
          omega
        walk_at "rs"
        refine ⟨_, .inl (.inl (.inl gp)), rfl, flat_strs _, ?_⟩
        rw [inV_map]
        refine ite2 (fun c => ?_) (fun c => ?_)
        · have c' : z ∉ onceS (ws.take i) := of_decide_eq_false c
          refine ⟨.inl ⟨rfl, _, .inl (.inl gp)⟩, _, gp, ?_, fun b o e => by rw [upd_ne (ne_of_none e h0)]; exact sg b o e, ?_⟩
          · rw [List.length_map]; exact Nat.lt_of_le_of_lt hl2 (by decide)
          · rw [upd_same, en, addS, if_neg c', List.map_append]; rfl
        · have c' : z ∈ onceS (ws.take i) := by
            simpa using c
          exact ⟨sg, by rw [en, addS, if_pos c']; exact gp⟩
      · rintro σ G ⟨x, rfl, sg, gp⟩
        rw [List.length_map, List.take_length] at gp
        exact hN _ _ ⟨x, rfl, sg, gp⟩
    · rintro σ G ⟨x, rfl, s2, h2⟩
      walk_at "rs"
      exact k p G s2 h0 h2
theorem ok__law_named (T : Txt w K mg) : FnOk P w K mg base CX0 2 T.a__law_named T.d__law_named ["prefix"] (fun vs H Q _ => ∃ (a : Addr) (ws : List Str), vs = [.ref a] ∧ SqT K H a (ws.map V.str) ∧ (∀ z ∈ ws, z ∈ allW) ∧ ws.length ≤ 30 ∧ ∀ t H', Same H H' → H t = none → H' t = some (.lst ((namesOf ws).map V.str)) → Q (.ref t) H') := by
  refine T.F__law_named.ok sc__law_named (fun vs H Q E h => ?_) (fun cdv A outer s H vs Q E hr h => ?_)
  · obtain ⟨a, ws, rfl, _⟩ := h
    rfl
  · obtain ⟨a, ws, rfl, ha, hw, hl, k⟩ := h
    have hr__law_once : Room 1 _ := hr.mono (by decide)
    have G__law_once := ok__law_once (P := P) (base := base) T
    refine ⟨_, (pss_cons (ps_set (i := 1) sc__law_named.nd rfl (Or.inr rfl) (pe_lstU (pa_cons pe_str (pa_cons pe_str (pa_cons pe_str (pa_cons pe_str (pa_cons pe_str (pa_cons pe_str (pa_cons pe_str (pa_cons pe_str pa_nil))))))))))
      (pss_one (ps_ret (pe_call G__law_once hr__law_once (by rfl) T.m__law_once T.F__law_once.kp T.B__law_once .nil pass0 (pa_cons (pe_lc (own := [("part", 2)]) (g := gName 2) (tt := _) rfl sc__law_named.nd (pi_tup (pv 0)) (blkOk_by (own := [("part", 2)]) (N := N__law_named) (sc := defScope s__law_named) (by decide +kernel)) (fun _ _ _ _ _ => pg_name (i := 2) sc__law_named.nd rfl (Or.inl rfl)) (fun _ _ _ _ _ => pts_one (PW.pt (pw_and (pt_val (pe_m0 PySem.F.slot_str_islower PySem.F.type_str_islower mt_islower (pe_slice sl_str (pv 2) po_none (po_some pe_int)))) (pw_and1 (pt_cmpR (op_notIn_seqK (K := K) rfl) (pv 2) (pv 1) (by rfl)))))) (fun _ _ _ _ _ => (pv 2))) pa_nil))))), ?_⟩
    refine seq_op fun N hN => ?_
    walk_at "rs"
    refine ⟨by decide, fun p H1 s1 h0 h1 => hN _ _ ?_⟩
    clear hN N
    walk_at "rs"
    have ha1 := Same.seqT s1 ha
    refine ⟨_, rfl, a, rfl, ⟨_, ha1⟩, fun D hD => lc_it (walk_tup (K := K) (a := a) (xs := ws.map V.str)) (fun i G => G D = some (.lst ((ws.take i).filter nm |>.map V.str)) ∧ Same H1 G) ⟨upd_same, same_upd hD⟩ (fun i G _ h => Same.seqT h.2 ha1) ?_ ?_⟩
    · rintro i x G G' hi ⟨h3, h4⟩ ⟨rfl, hy⟩
      rw [List.getElem?_map] at hy
      obtain ⟨z, hz, rfl⟩ := Option.map_eq_some_iff.mp hy
      have hza := hw z (List.mem_of_getElem? hz)
      have et : ws.take (i + 1) = ws.take i ++ [z] := by rw [List.take_succ, hz]; rfl
      have w1 := w_named z hza
      walk_at "rs"
      have yes : nm z = true → upd G' D (.lst ((((ws.take i).filter nm).map V.str) ++ [V.str z])) D = some (.lst (((ws.take (i + 1)).filter nm).map V.str)) := fun n => by
        rw [upd_same, et, List.filter_append, List.filter_cons_of_pos n, List.map_append]; rfl
      have no : ¬ nm z = true → G' D = some (.lst (((ws.take (i + 1)).filter nm).map V.str)) := fun n => by
        rw [h3, et, List.filter_append, List.filter_cons_of_neg n, List.filter_nil, List.append_nil]
      have up : ∀ o, Same H1 (upd G' D o) := fun o b u e => by rw [upd_ne (ne_of_none e hD)]; exact h4 b u e
      have sl : (((ws.take i).filter nm).map V.str).length < sizeLine := by
        rw [List.length_map]
        have q := List.length_filter_le nm (ws.take i)
        rw [List.length_take] at q
        exact Nat.lt_of_le_of_lt (show _ ≤ 30 by omega) (by decide)
      refine ⟨Nat.le_trans (w_len z hza).1 (by decide), ⟨_, rfl⟩, ite2 (fun c => ?_) (fun c => ?_)⟩
      · rw [c, Bool.true_and] at w1
        refine ⟨_, .inl (.inl (.inl (h4 _ _ h1))), rfl, rfl, ite2 (fun c2 => ?_) (fun c2 => ?_)⟩
        · rw [c2] at w1
          exact ⟨_, h3, sl, yes w1.symm, up _⟩
        · refine ⟨no ?_, h4⟩
          simp only [Bool.not_eq_false] at c2
          rw [c2] at w1
          rw [← w1]; decide
      · refine ⟨no ?_, h4⟩
        simp only [Bool.not_eq_true] at c
        rw [c, Bool.false_and] at w1
        rw [← w1]; decide
    · rintro G ⟨h3, h4⟩
      rw [List.length_map, List.take_length] at h3
      refine ⟨D, rfl, ws.filter nm, .inl (.inl h3), Nat.le_trans (List.length_filter_le _ _) hl, fun t H' s2 h02 h2 => ?_⟩
      exact k t H' (Same.trans s1 (Same.trans h4 s2)) (Same.dom (Same.trans s1 h4) t h02) h2
end
end LK

set_option Elab.async false
set_option linter.all false
set_option maxRecDepth 100000
namespace LK
open PySem PySem.Spec PyProof.Rows L2
local macro_rules | `(tactic| walk_at "rs") => `(tactic| simp only [cxK, cxNK, tCallZ, tAsg, tOp, rI0, rS0, rB0, rI, rU, tUn, rEq, rNe, rIxL, rIxT, rIxS, rSetL, rSlLU, rSlS, rSlU, rCatL, rCatU, rRepL, rIn, tVar, tC, gName, gSub, tIfS, tTest, tB, tAnd, tOr, tNot, tNotV, tAndV, tOrV, tIf, tCall, tCons, tNil, tCB, tDrop, tRet, tRetN, tNext, tLstU, tTupU, tM0, tM1, tPar, tPar3, tAug, ipI, tBM, tBM0, rAppend, rPop, tBreak, tCont, tChain, tSl, tPart, tNoPart, L2.start, List.map, List.length_cons, List.length_nil, List.replicate, List.cons_append, List.nil_append, List.append_nil, List.getElem?_cons_zero, List.getElem?_cons_succ, List.set_cons_zero, List.set_cons_succ, Option.some.injEq, V.int.injEq, V.ref.injEq, V.str.injEq, V.bl.injEq, exists_eq_left', exists_eq_left, exists_and_left, decide_eq_true_eq, List.cons.injEq, and_true, true_and, scal, Bool.not_eq_true', decide_eq_false_iff_not, Nat.zero_add, Nat.reduceAdd, Nat.reduceSub, reduceCtorEq, false_and, exists_false, false_or, or_false, CPow, CMul, CDiv, Int.reduceToNat, ↓reduceIte, wipe, sw, List.nil_append, List.singleton_append])
local macro_rules | `(tactic| walk_at "st") => `(tactic| (refine seq_op fun N hN => ?_; walk_at "rs"))
local macro_rules | `(tactic| walk_at "sd") => `(tactic| first | assumption | decide | omega)
local macro_rules | `(tactic| walk_at "rd") => `(tactic| repeat (first
  | refine ⟨_, SqL.of (by assumption), ?_⟩ | refine ⟨_, SqL.of upd_same, ?_⟩ | refine ⟨_, .inl (SqL.of (by assumption)), ?_⟩ | refine ⟨_, (by assumption : _ = some (HO.lst _)), ?_⟩ | refine ⟨_, upd_same, ?_⟩
  | refine ⟨_, rfl, ?_⟩ | refine And.intro (by walk_at "sd") ?_))

open TL
theorem small_str {i : Int} (h1 : -20 ≤ i) (h2 : i ≤ 20) : (Str.ofString (toString i)).length ≤ 20 := by
  have q : ∀ k : Fin 41, (Str.ofString (toString (((k.val : Nat) : Int) - 20))).length ≤ 20 := by decide +kernel
  have e := q ⟨(i + 20).toNat, by omega⟩
  rw [show (((i + 20).toNat : Nat) : Int) - 20 = i by omega] at e
  exact e
theorem small_log {i : Int} (h1 : -20 ≤ i) (h2 : i ≤ 20) : i.natAbs.log2 < 1920 := Nat.lt_of_le_of_lt (Nat.log2_le_self _) (by omega)
/-- what holds of the two lists of _law_prefix -/
structure Pfx (b c : Addr) (H H2 : Hp) (o m : Addr) (os ms : List Str) : Prop where
  bag : Bag H2 b c
  kp : Kp b H H2
  o0 : H o = none
  m0 : H m = none
  om : o ≠ m
  ob : o ≠ b
  mb : m ≠ b
  oc : c ≠ o
  mc : c ≠ m
  ho : H2 o = some (.lst (os.map V.str))
  hm : H2 m = some (.lst (ms.map V.str))
  eo : ∀ z ∈ os, z = "e" ∨ z = "k"
  em : ∀ z ∈ ms, z.length ≤ 20
theorem kp_upd {b p : Addr} {H H2 : Hp} {o : HO} (k : Kp b H H2) (h0 : H p = none) : Kp b H (L2.upd H2 p o) := fun a u e => by
  obtain ⟨h1, h2⟩ := hb_some e
  rw [hb_ne h1, upd_ne (ne_of_none h2 h0)]
  exact k.hd h2 h1
section
variable {b c : Addr} {H H2 H3 : Hp} {o m : Addr} {os ms : List Str}
theorem Pfx.call (p : Pfx b c H H2 o m os ms) (B : Bag H3 b c) (k : Kp b H2 H3) : Pfx b c H H3 o m os ms :=
  ⟨B, Same.trans p.kp k, p.o0, p.m0, p.om, p.ob, p.mb, p.oc, p.mc, k.hd p.ho p.ob, k.hd p.hm p.mb, p.eo, p.em⟩
theorem Pfx.same (p : Pfx b c H H2 o m os ms) (s : Same H2 H3) : Pfx b c H H3 o m os ms := p.call (p.bag.same s) (Kp.of s)
theorem Pfx.pushm (p : Pfx b c H H2 o m os ms) {z : Str} (hz : z.length ≤ 20) : Pfx b c H (L2.upd H2 m (.lst (ms.map V.str ++ [V.str z]))) o m os (ms ++ [z]) :=
  ⟨p.bag.upd p.mb.symm p.mc, kp_upd p.kp p.m0, p.o0, p.m0, p.om, p.ob, p.mb, p.oc, p.mc, by rw [upd_ne p.om]; exact p.ho, by rw [upd_same, List.map_append]; rfl, p.eo, fun y hy => by
    rcases List.mem_append.mp hy with hy | hy
    · exact p.em y hy
    · obtain rfl : y = z := by simpa using hy
      exact hz⟩
theorem Pfx.pusho (p : Pfx b c H H2 o m os ms) {z : Str} (hz : z = "e" ∨ z = "k") : Pfx b c H (L2.upd H2 o (.lst (os.map V.str ++ [V.str z]))) o m (os ++ [z]) ms :=
  ⟨p.bag.upd p.ob.symm p.oc, kp_upd p.kp p.o0, p.o0, p.m0, p.om, p.ob, p.mb, p.oc, p.mc, by rw [upd_same, List.map_append]; rfl, by rw [upd_ne p.om.symm]; exact p.hm, fun y hy => by
    rcases List.mem_append.mp hy with hy | hy
    · exact p.eo y hy
    · obtain rfl : y = z := by simpa using hy
      exact hz, p.em⟩
theorem Pfx.pop (p : Pfx b c H H2 o m os ms) : Pfx b c H (L2.upd H2 o (.lst (os.map V.str).dropLast)) o m os.dropLast ms :=
  ⟨p.bag.upd p.ob.symm p.oc, kp_upd p.kp p.o0, p.o0, p.m0, p.om, p.ob, p.mb, p.oc, p.mc, by rw [upd_same, List.map_dropLast], by rw [upd_ne p.om.symm]; exact p.hm, fun y hy => p.eo y (List.dropLast_sublist _ |>.subset hy), p.em⟩
/-- another list in o's place -/
theorem Pfx.newo (p : Pfx b c H H2 o m os ms) (s : Same H2 H3) {o2 : Addr} {os2 : List Str} (h0 : H2 o2 = none) (h : H3 o2 = some (.lst (os2.map V.str))) (eo : ∀ z ∈ os2, z = "e" ∨ z = "k") : Pfx b c H H3 o2 m os2 ms := by
  have q := p.same s
  obtain ⟨xb, eb⟩ := p.bag.at
  obtain ⟨xc, ec⟩ := p.bag.at2
  refine ⟨q.bag, q.kp, Kp.bn p.kp eb h0, p.m0, fun e => ?_, fun e => ?_, p.mb, fun e => ?_, p.mc, h, q.hm, eo, p.em⟩
  · rw [e, p.hm] at h0; cases h0
  · rw [e, eb] at h0; cases h0
  · rw [← e, ec] at h0; cases h0
end
theorem strs_lay : ∀ {zs : List Str}, (∀ z ∈ zs, PyData.canLay0 (.str z) = true) → PyData.canLayAll0 (zs.map PyData.str) = true
  | [], _ => rfl
  | z :: zs, h => by
    show (PyData.canLay0 (.str z) && PyData.canLayAll0 (zs.map PyData.str)) = true
    rw [h z List.mem_cons_self, strs_lay fun y hy => h y (List.mem_cons_of_mem _ hy)]; rfl
theorem strs_depth : ∀ zs : List Str, PyData.depthAll (zs.map PyData.str) = 0
  | [] => rfl
  | z :: zs => by
    show max (PyData.depth (.str z)) (PyData.depthAll (zs.map PyData.str)) = 0
    rw [strs_depth zs]; rfl
theorem strs_shaped {zs : List Str} (h : ∀ z ∈ zs, PyData.canLay0 (.str z) = true) : SeqAt.shaped (.list (zs.map PyData.str)) = true := by
  unfold SeqAt.shaped
  rw [Bool.and_eq_true]
  refine ⟨strs_lay h, decide_eq_true ?_⟩
  show PyData.depthAll (zs.map PyData.str) + 1 ≤ 64
  rw [strs_depth]; decide
theorem strs_dpa {K : PySem.W.Frag} {H : Hp} : ∀ (zs : List Str), DpAll K H (zs.map V.str) (zs.map PyData.str)
  | [] => .nil
  | z :: zs => .cons (.str z) (strs_dpa zs)
/-! ### what the words made so far leave to be made -/
theorem if_ofP {c : TT} {t u : TS} {D : Ends} {σ : L2.St} {H : Hp} (Φ : Bool → Prop) (hc : ∀ K : Bool → Hp → Prop, (∀ b, Φ b → K b H) → c σ H K) (hA : Φ true → t D σ H) (hB : Φ false → u D σ H) : tIfS c t u D σ H := hc _ fun b hb => by
  cases b
  · exact iteFF (by decide) (hB hb)
  · exact iteTT rfl (hA hb)
def code (z : Str) : Nat := if z = "k" then 107 else 101
def codes (os : List Str) : List Nat := (os.map code).reverse
theorem codes_app (a b : List Str) : codes (a ++ b) = codes b ++ codes a := by unfold codes; rw [List.map_append, List.reverse_append]
structure PfW (parts : List Str) (size : Int) (os ms : List Str) : Prop where
  wd : ∀ z ∈ ms, z ∈ allW ∧ (nm z = true → z ∈ parts)
  wk : ∀ r, walkL [101] (ms.map PyData.str ++ r) = walkL (codes os) r
  ln : (ms.length : Int) + os.length ≤ size
theorem PfW.step {parts : List Str} {size : Int} {os ms L : List Str} {z0 z : Str} (W : PfW parts size (os ++ [z0]) ms) (hz : z ∈ allW) (hn : nm z = true → z ∈ parts) (ho : opsL (.str z) (code z0) = some (codes L)) (hl : (ms.length : Int) + 1 + os.length + L.length ≤ size) : PfW parts size (os ++ L) (ms ++ [z]) where
  wd := fun y hy => by
    rcases List.mem_append.mp hy with hy | hy
    · exact W.wd y hy
    · obtain rfl : y = z := by simpa using hy
      exact ⟨hz, hn⟩
  wk := fun r => by
    have e1 : (ms ++ [z]).map PyData.str ++ r = ms.map PyData.str ++ (PyData.str z :: r) := by simp
    rw [e1, W.wk, codes_app, codes_app]
    show walkL (code z0 :: codes os) (.str z :: r) = _
    simp only [walkL, ho]
  ln := by
    rw [List.length_append, List.length_append, List.length_singleton]
    omega
theorem f_int : ∀ k : Fin 19, ("".length = 0) ∧ Str.ofString (toString ((k.val : Int) - 9)) ∈ allW ∧ nm (Str.ofString (toString ((k.val : Int) - 9))) = false ∧ opsL (.str (Str.ofString (toString ((k.val : Int) - 9)))) 101 = some [] := by decide +kernel
theorem f_fig : ∀ k : Fin 9, Str.ofString (toString (1 + (k.val : Int))) ∈ allW ∧ nm (Str.ofString (toString (1 + (k.val : Int)))) = false ∧ opsL (.str (Str.ofString (toString (1 + (k.val : Int))))) 107 = some [] ∧ opsL (.str (Str.ofString (toString (1 + (k.val : Int))))) 101 = some [] := by decide +kernel
theorem f_md : ∀ z ∈ (["mod", "div"] : List Str), z ∈ allW ∧ nm z = false ∧ opsL (.str z) 101 = some (codes ["k", "e"]) := by decide +kernel
theorem f_op : ∀ z ∈ (["+", "-", "*", "+", "-", "min", "max", "=", "/=", "<", "<=", ">", ">=", "and", "or"] : List Str), z ∈ allW ∧ nm z = false ∧ opsL (.str z) 101 = some (codes ["e", "e"]) := by decide +kernel
theorem f_one : ("not" : Str) ∈ allW ∧ nm "not" = false ∧ opsL (.str "not") 101 = some (codes ["e"]) ∧ ("if" : Str) ∈ allW ∧ nm "if" = false ∧ opsL (.str "if") 101 = some (codes ["e", "e", "e"]) := by decide +kernel
theorem f_nm : ∀ z ∈ names11, z ∈ allW ∧ nm z = true ∧ opsL (.str z) 101 = some (codes []) := by decide +kernel
theorem f_int' {i : Int} (h1 : -9 ≤ i) (h2 : i ≤ 9) : Str.ofString (toString i) ∈ allW ∧ nm (Str.ofString (toString i)) = false ∧ opsL (.str (Str.ofString (toString i))) 101 = some [] := by
  have q := f_int ⟨(i + 9).toNat, by omega⟩
  rw [show (((i + 9).toNat : Nat) : Int) - 9 = i by omega] at q
  exact q.2
theorem f_fig' {i : Int} (h1 : 1 ≤ i) (h2 : i ≤ 9) : Str.ofString (toString i) ∈ allW ∧ nm (Str.ofString (toString i)) = false ∧ opsL (.str (Str.ofString (toString i))) 107 = some [] ∧ opsL (.str (Str.ofString (toString i))) 101 = some [] := by
  have q := f_fig ⟨(i - 1).toNat, by omega⟩
  rw [show 1 + (((i - 1).toNat : Nat) : Int) = i by omega] at q
  exact q
def sp_pre (K : PySem.W.Frag) : Sp := fun vs H Q _ => ∃ (b c p : Addr) (parts : List Str) (size : Int), vs = [.ref b, .ref p, .int size] ∧ Bag H b c ∧ hb H b p = some (.lst (parts.map V.str)) ∧ (∀ z ∈ parts, z ∈ names11) ∧ parts.length ≤ 20 ∧ 1 ≤ size ∧ size ≤ 30 ∧
  ∀ q (ws : List Str) H', Bag H' b c → Kp b H H' → H q = none → H' q = some (.tup (ws.map V.str)) → ws.length ≤ 30 → (∀ z ∈ ws, z ∈ allW ∧ (nm z = true → z ∈ parts)) → walkL [101] (ws.map PyData.str) = true → Q (.ref q) H'
section
variable {P : Program} {w : World} {K : PySem.W.Frag} {mg : Str → Option Value} {base : Heap}
theorem ok__law_prefix (T : Txt w K mg) : FnOk P w K mg base CX0 3 T.a__law_prefix T.d__law_prefix ["bag", "parts", "size"] (sp_pre K) := by
  refine T.F__law_prefix.ok sc__law_prefix (fun vs H Q E h => ?_) (fun cdv A outer s H vs Q E hr h => ?_)
  · obtain ⟨b, c, p, parts, size, rfl, _⟩ := h
    rfl
  · obtain ⟨b, c, p, parts, size, rfl, B, hp, hpl, hpn, sz1, sz30, k⟩ := h
    have hr__law_draw : Room 1 _ := hr.mono (by decide)
    have G__law_draw := ok__law_draw (P := P) (base := base) T
    have hr__law_of : Room 2 _ := hr.mono (by decide)
    have G__law_of := ok__law_of (P := P) (base := base) T
    refine ⟨_, (pss_cons (ps_par (i := 3) (j := 4) (by rfl) sc__law_prefix.nd rfl rfl (by decide) rfl rfl (pa_cons (pe_lstU (pa_cons pe_str pa_nil)) (pa_cons (pe_lstU pa_nil) pa_nil)) (by rfl))
      (pss_cons (ps_for PassesOwn.never rfl (pi_range1 (by rfl) T.n_range (pa_cons pe_int pa_nil)) (pg_name (i := 5) sc__law_prefix.nd rfl (Or.inl rfl)) (pss_cons (ps_if (pt_cmpR (op_eqD hr.units) (pv 3) (pe_lstU pa_nil) (nomark _)) (pss_one ps_break) pss_nil)
      (pss_cons (ps_set (i := 6) sc__law_prefix.nd rfl (Or.inl rfl) (pe_bm0 PySem.F.plainAttrs_list PySem.F.slot_list_pop PySem.F.type_list_pop mt_pop (pv 3)))
      (pss_cons (ps_set (i := 7) sc__law_prefix.nd rfl (Or.inl rfl) (pe_op op_sub (pe_op op_sub (pe_op op_sub (pv 2) (pe_callB call_len_seq (by rfl) T.n_len (by decide +kernel) (pa_cons (pv 4) pa_nil))) (pe_callB call_len_seq (by rfl) T.n_len (by decide +kernel) (pa_cons (pv 3) pa_nil))) pe_int))
      (pss_cons (ps_set (i := 8) sc__law_prefix.nd rfl (Or.inl rfl) (pe_call G__law_draw hr__law_draw (by rfl) T.m__law_draw T.F__law_draw.kp T.B__law_draw .nil pass0 (pa_cons (pv 0) (pa_cons pe_int pa_nil))))
      (pss_one (ps_if (pt_cmpR op_eqS (pv 6) pe_str (nomark _)) (pss_one (ps_expr (pe_bm PySem.F.plainAttrs_list PySem.F.slot_list_append PySem.F.type_list_append mt_append (pv 4) (pa_cons (pe_callTy call_str_int (by rfl) T.n_str (by decide +kernel) (pa_cons (pe_op op_add pe_int (pe_call G__law_draw hr__law_draw (by rfl) T.m__law_draw T.F__law_draw.kp T.B__law_draw .nil pass0 (pa_cons (pv 0) (pa_cons pe_int pa_nil)))) pa_nil)) pa_nil)))) (pss_one (ps_if (PW.pt (pw_and (pt_cmpR op_eqI (pv 8) pe_int (nomark _)) (pw_and1 (pt_cmpR op_gt (pv 7) pe_int (nomark _))))) (pss_cons (ps_expr (pe_bm PySem.F.plainAttrs_list PySem.F.slot_list_append PySem.F.type_list_append mt_append (pv 4) (pa_cons pe_str pa_nil)))
      (pss_one (ps_expr (pe_bm PySem.F.plainAttrs_list PySem.F.slot_list_append PySem.F.type_list_append mt_append (pv 3) (pa_cons pe_str pa_nil))))) (pss_one (ps_if (PW.pt (pw_and (pt_cmpR op_eqI (pv 8) pe_int (nomark _)) (pw_and1 (pt_cmpR op_gt (pv 7) pe_int (nomark _))))) (pss_cons (ps_expr (pe_bm PySem.F.plainAttrs_list PySem.F.slot_list_append PySem.F.type_list_append mt_append (pv 4) (pa_cons pe_str pa_nil)))
      (pss_one (ps_set (i := 3) sc__law_prefix.nd rfl (Or.inl rfl) (pe_op op_catL (pv 3) (pe_lstU (pa_cons pe_str (pa_cons pe_str (pa_cons pe_str pa_nil)))))))) (pss_one (ps_if (PW.pt (pw_and (pt_cmpR op_eqI (pv 8) pe_int (nomark _)) (pw_and1 (pt_cmpR op_gt (pv 7) pe_int (nomark _))))) (pss_cons (ps_expr (pe_bm PySem.F.plainAttrs_list PySem.F.slot_list_append PySem.F.type_list_append mt_append (pv 4) (pa_cons (pe_call G__law_of hr__law_of (by rfl) T.m__law_of T.F__law_of.kp T.B__law_of .nil pass0 (pa_cons (pv 0) (pa_cons (pe_lstU (pa_cons pe_str (pa_cons pe_str pa_nil))) pa_nil))) pa_nil)))
      (pss_one (ps_set (i := 3) sc__law_prefix.nd rfl (Or.inl rfl) (pe_op op_catL (pv 3) (pe_lstU (pa_cons pe_str (pa_cons pe_str pa_nil))))))) (pss_one (ps_if (PW.pt (pw_and (pt_cmpR op_gt (pv 8) pe_int (nomark _)) (pw_and1 (pt_cmpR op_gt (pv 7) pe_int (nomark _))))) (pss_cons (ps_expr (pe_bm PySem.F.plainAttrs_list PySem.F.slot_list_append PySem.F.type_list_append mt_append (pv 4) (pa_cons (pe_call G__law_of hr__law_of (by rfl) T.m__law_of T.F__law_of.kp T.B__law_of .nil pass0 (pa_cons (pv 0) (pa_cons (pe_lstU (pa_cons pe_str (pa_cons pe_str (pa_cons pe_str (pa_cons pe_str (pa_cons pe_str (pa_cons pe_str (pa_cons pe_str (pa_cons pe_str (pa_cons pe_str (pa_cons pe_str (pa_cons pe_str (pa_cons pe_str (pa_cons pe_str (pa_cons pe_str (pa_cons pe_str pa_nil)))))))))))))))) pa_nil))) pa_nil)))
      (pss_one (ps_set (i := 3) sc__law_prefix.nd rfl (Or.inl rfl) (pe_op op_catL (pv 3) (pe_lstU (pa_cons pe_str (pa_cons pe_str pa_nil))))))) (pss_one (ps_if (PW.pt (pw_or (pt_cmpR op_eqI (pv 8) pe_int (nomark _)) (pw_or1 (pt_cmpR (op_eqD hr.units) (pv 1) (pe_lstU pa_nil) (nomark _))))) (pss_one (ps_expr (pe_bm PySem.F.plainAttrs_list PySem.F.slot_list_append PySem.F.type_list_append mt_append (pv 4) (pa_cons (pe_callTy call_str_int (by rfl) T.n_str (by decide +kernel) (pa_cons (pe_op op_sub (pe_call G__law_draw hr__law_draw (by rfl) T.m__law_draw T.F__law_draw.kp T.B__law_draw .nil pass0 (pa_cons (pv 0) (pa_cons pe_int pa_nil))) pe_int) pa_nil)) pa_nil)))) (pss_one (ps_expr (pe_bm PySem.F.plainAttrs_list PySem.F.slot_list_append PySem.F.type_list_append mt_append (pv 4) (pa_cons (pe_call G__law_of hr__law_of (by rfl) T.m__law_of T.F__law_of.kp T.B__law_of .nil pass0 (pa_cons (pv 0) (pa_cons (pv 1) pa_nil))) pa_nil)))))))))))))))))))))
      (pss_one (ps_ret (pe_callTy call_tupleN (by rfl) T.n_tuple (by decide +kernel) (pa_cons (pv 4) pa_nil)))))), ?_⟩
    refine seq_op fun N hN => ?_
    walk_at "rs"
    refine ⟨by decide, fun o H1 s1 o0 h1 => ⟨by decide, fun m H2 s2 m0 h2 => ⟨_, _, ⟨rfl, rfl⟩, hN _ _ ?_⟩⟩⟩
    clear hN N
    obtain ⟨xb, eb⟩ := B.at
    obtain ⟨xc, ec⟩ := B.at2
    have P0 : Pfx b c H H2 o m ["e"] [] := by
      refine ⟨(B.same s1).same s2, Kp.of (Same.trans s1 s2), o0, Same.dom s1 m m0, fun e => ?_, fun e => ?_, fun e => ?_, fun e => ?_, fun e => ?_, s2 _ _ h1, h2, fun z hz => .inl (by simpa using hz), fun z hz => absurd hz (by simp)⟩
      · rw [e, m0] at h1; cases h1
      · rw [e, eb] at o0; cases o0
      · rw [e, s1 _ _ eb] at m0; cases m0
      · rw [← e, ec] at o0; cases o0
      · rw [← e, s1 _ _ ec] at m0; cases m0
    have W0 : PfW parts size ["e"] [] := ⟨fun z hz => absurd hz (by simp), fun r => rfl, by simp; omega⟩
    refine cut_seq (fun σ H3 => ∃ (o : Addr) (os ms : List Str) (x1 x2 x3 x4 : Option V), σ = [some (.ref b), some (.ref p), some (.int size), some (.ref o), some (.ref m), x1, x2, x3, x4] ∧ Pfx b c H H3 o m os ms ∧ PfW parts size [] ms) (fun N hN => ?_) ?_
    · refine ⟨30, rfl, by decide, by decide, for_range (lo := 0) (n := (30 : Int).toNat) (fun i σ H3 => ∃ (o : Addr) (os ms : List Str) (x1 x2 x3 x4 : Option V), σ = [some (.ref b), some (.ref p), some (.int size), some (.ref o), some (.ref m), x1, x2, x3, x4] ∧ Pfx b c H H3 o m os ms ∧ ms.length = i ∧ PfW parts size os ms)
        ⟨o, _, _, none, none, none, none, rfl, P0, rfl, W0⟩ ?_ ?_⟩
      · rintro i σ H3 hi ⟨o, os, ms, x1, x2, x3, x4, rfl, P3, hml, W3⟩
        have hol : os.length ≤ 30 := by have := W3.ln; omega
        have hi30 : i < 30 := hi
        refine seq_op fun N2 hN2 => ?_
        walk_at "rs"
        have d1 : Dp K H3 (.ref o) (.list (os.map PyData.str)) := .lst (SqL.of P3.ho) (strs_dpa os)
        refine ⟨by decide, fun q H4 s4 h04 h4 => ⟨_, .list [], dp_same s4 d1, .lst (SqL.of h4) .nil, ?_, by decide, _, rfl, ite2 (fun e => ?_) (fun e => hN2 _ _ ?_)⟩⟩
        · refine strs_shaped fun z hz => ?_
          rcases P3.eo z hz with rfl | rfl <;> decide +kernel
        · have en : os = [] := by
            cases os with
            | nil => rfl
            | cons x r => exact absurd e (by simp [PyData.eqv, PyData.eqvAll])
          exact hN _ _ ⟨o, os, ms, _, _, _, _, rfl, P3.same s4, by rw [en] at W3; exact W3⟩
        clear hN2 N2
        have P4 := P3.same s4
        have one : os ≠ [] := fun z => e (by subst z; rfl)
        have ol : 0 < os.length := by cases os with | nil => exact absurd rfl one | cons => exact Nat.succ_pos _
        obtain ⟨z0, hz0⟩ : ∃ z0, os[os.length - 1]? = some z0 := ⟨_, List.getElem?_eq_getElem (by omega)⟩
        refine seq_op fun N2 hN2 => ?_
        walk_at "rs"
        refine ⟨.inl ⟨rfl, _, SqL.of P4.ho⟩, _, P4.ho, .str z0, by rw [List.length_map, List.getElem?_map, hz0] <;> rfl, hN2 _ _ ?_⟩
        clear hN2 N2
        have P5 := P4.pop
        have ol5 : os.dropLast.length ≤ 30 := by rw [List.length_dropLast]; omega
        have eos : os = os.dropLast ++ [z0] := by
          have gl : os.getLast one = z0 := by
            rw [List.getLast_eq_getElem]
            exact Option.some.inj ((List.getElem?_eq_getElem _).symm.trans hz0)
          rw [← gl]
          exact (List.dropLast_concat_getLast one).symm
        have ez : z0 = "e" ∨ z0 = "k" := P3.eo z0 (List.mem_of_getElem? hz0)
        have W5 : PfW parts size (os.dropLast ++ [z0]) ms := by rw [← eos]; exact W3
        show tSeq _ _ _ _ (L2.upd H4 o (.lst (os.map V.str).dropLast))
        generalize L2.upd H4 o (.lst (os.map V.str).dropLast) = H5 at P5
        generalize os.dropLast = os5 at P5 ol5 W5
        clear P4 d1 e one ol hz0 P3 eos W3 hol
        refine seq_op fun N2 hN2 => ?_
        walk_at "rs"
        refine ⟨_, .inl (SqL.of P5.hm), _, .inl (SqL.of P5.ho), hN2 _ _ ?_⟩
        clear hN2 N2
        refine seq_op fun N2 hN2 => ?_
        walk_at "rs"
        refine ⟨b, c, 6, rfl, P5.bag, by decide, by decide, fun way H6 w0 w1 B6 K6 => hN2 _ _ ?_⟩
        clear hN2 N2
        have P6 := P5.call B6 K6
        have mlen : (ms.map V.str).length < sizeLine := Nat.lt_of_le_of_lt (show _ ≤ 100 by rw [List.length_map]; omega) (by decide)
        -- a word and two lists are put on, the invariant at the next turn
        have next : ∀ (o7 : Addr) (os7 : List Str) (z7 : Str) (H7 : Hp) (y1 y2 y3 y4 : Option V), Pfx b c H H7 o7 m os7 (ms ++ [z7]) → PfW parts size os7 (ms ++ [z7]) → ∃ (o : Addr) (os ms : List Str) (x1 x2 x3 x4 : Option V), [some (V.ref b), some (.ref p), some (.int size), some (.ref o7), some (.ref m), y1, y2, y3, y4] = [some (.ref b), some (.ref p), some (.int size), some (.ref o), some (.ref m), x1, x2, x3, x4] ∧ Pfx b c H H7 o m os ms ∧ ms.length = i + 1 ∧ PfW parts size os ms :=
          fun o7 os7 z7 H7 y1 y2 y3 y4 P7 l7 => ⟨o7, os7, ms ++ [z7], y1, y2, y3, y4, rfl, P7, by rw [List.length_append, List.length_singleton, hml], l7⟩
        clear P5
        refine nx_op fun N2 hN2 => ?_
        replace hN2 := fun o7 os7 z7 H7 y1 y2 y3 y4 hP hl => hN2 _ _ (next o7 os7 z7 H7 y1 y2 y3 y4 hP hl)
        clear next
        have rm : ∀ n : Int, decide (n < size - ((ms.map V.str).length : Int) - ((os5.map V.str).length : Int) - 1) = true → n < size - ms.length - os5.length - 1 := fun n e => by
          have q := of_decide_eq_true e
          rw [List.length_map, List.length_map] at q
          exact q
        have lW : (0 : Int) ≤ size - ms.length - os5.length - 1 := by
          have := W5.ln
          rw [List.length_append, List.length_singleton] at this
          omega
        have st : ∀ (z : Str) (L : List Str), z ∈ allW → (nm z = true → z ∈ parts) → opsL (.str z) (code z0) = some (codes L) → ((L.length : Int) ≤ size - ms.length - os5.length - 1) → PfW parts size (os5 ++ L) (ms ++ [z]) := fun z L h1 h2 h3 h4 => W5.step h1 h2 h3 (by omega)
        have st0 : ∀ (z : Str), z ∈ allW → (nm z = true → z ∈ parts) → opsL (.str z) (code z0) = some [] → PfW parts size os5 (ms ++ [z]) := fun z h1 h2 h3 => by
          have q := st z [] h1 h2 h3 lW
          rw [List.append_nil] at q
          exact q
        have ck : code "k" = 107 := by decide +kernel
        have ce : code "e" = 101 := by decide +kernel
        have nono : ∀ {z : Str}, nm z = false → nm z = true → z ∈ parts := fun h1 h2 => by rw [h1] at h2; cases h2
        have ofL : ∀ (L : List Str), (∀ z ∈ L, z.length ≤ 20) → L ≠ [] → L.length ≤ 1000 → ∀ (q : Addr) (H7 : Hp), Same H6 H7 → H6 q = none → H7 q = some (HO.lst (L.map V.str)) → ∀ (Q2 : VK), (∀ z H8, z ∈ L → z.length ≤ 20 → Pfx b c H H8 o m os5 ms → Q2 (.str z) H8) → sp__law_of K [V.ref b, V.ref q] H7 Q2 E0 := by
          intro L hL ne ln q H7 s7 h07 h7 Q2 hq
          have P7 := P6.same s7
          refine of_lst P7.bag h7 (fun e => ?_) (by simpa using ne) (by rw [List.length_map]; omega) fun y H8 hy B8 K8 => ?_
          · obtain ⟨xs, z⟩ := P6.bag.at
            rw [e, z] at h07; cases h07
          · obtain ⟨z, hz, rfl⟩ := List.mem_map.mp hy
            exact hq z H8 hz (hL z hz) (P7.call B8 K8)
        have catL : ∀ (L : List Str) (z7 : Str) (H7 : Hp), (∀ z ∈ L, z = "e" ∨ z = "k") → L.length ≤ 3 → PfW parts size (os5 ++ L) (ms ++ [z7]) → Pfx b c H H7 o m os5 (ms ++ [z7]) → ∀ (y1 y2 y3 y4 : Option V), ∀ (q : Addr) (H8 : Hp), Same H7 H8 → H7 q = none → H8 q = some (HO.lst (L.map V.str)) →
            ∃ x, H8 o = some (HO.lst x) ∧ ∃ x_1, H8 q = some (HO.lst x_1) ∧ x.length + x_1.length ≤ sizeLine ∧ ∀ (p' : Addr) (H9 : Hp), Same H8 H9 → H8 p' = none → H9 p' = some (HO.lst (x ++ x_1)) → N2 [some (V.ref b), some (.ref p), some (.int size), some (.ref p'), some (.ref m), y1, y2, y3, y4] H9 := by
          intro L z7 H7 hL hl W7 P7 y1 y2 y3 y4 q H8 s8 h08 h8
          have P8 := P7.same s8
          refine ⟨_, P8.ho, _, h8, Nat.le_trans (show _ ≤ 200 by rw [List.length_map, List.length_map]; omega) (by decide), fun p' H9 s9 h09 h9 => ?_⟩
          refine hN2 p' (os5 ++ L) z7 H9 y1 y2 y3 y4 (P8.newo s9 h09 (by rw [h9, List.map_append]) fun z hz => ?_) W7
          rcases List.mem_append.mp hz with hz | hz
          · exact P8.eo z hz
          · exact hL z hz
        have tm : tyV K "list" (V.ref m) H6 := .inl ⟨rfl, _, SqL.of P6.hm⟩
        refine if_ofP (fun b => b = decide (z0 = "k")) (fun K hK => by walk_at "rs"; exact hK _ rfl) (fun e0 => ?_) (fun e0 => ?_)
        · have ek : z0 = "k" := of_decide_eq_true e0.symm
          walk_at "rs"
          refine ⟨tm, b, c, 9, rfl, P6.bag, by decide, by decide, fun r H7 r0 r1 B7 K7 => ⟨r, rfl, small_log (by omega) (by omega), _, (P6.call B7 K7).hm, mlen, hN2 o os5 _ _ _ _ _ _ ((P6.call B7 K7).pushm (small_str (by omega) (by omega))) ?_⟩⟩
          obtain ⟨g1, g2, g3, _⟩ := f_fig' (i := 1 + r) (by omega) (by omega)
          exact st0 _ g1 (nono g2) (by rw [ek, ck]; exact g3)
        have ee : z0 = "e" := by
          rcases ez with h | h
          · exact h
          · exact absurd h (of_decide_eq_false e0.symm)
        have cz : code z0 = 101 := by rw [ee, ce]
        clear e0
        refine if_ofP (fun b => b = true → 0 < size - ms.length - os5.length - 1) (fun K hK => by walk_at "rs"; exact ite2 (fun _ => hK _ fun e => rm 0 e) (fun _ => hK _ fun e => by cases e)) (fun e0 => ?_) (fun _ => ?_)
        · refine seq_op fun N3 hN3 => ?_
          walk_at "rs"
          refine ⟨tm, _, P6.hm, mlen, hN3 _ _ ?_⟩
          have P7 := P6.pushm (z := "not") (by decide)
          walk_at "rs"
          refine ⟨.inl ⟨rfl, _, SqL.of P7.ho⟩, _, P7.ho, Nat.lt_of_le_of_lt (show _ ≤ 100 by rw [List.length_map]; omega) (by decide), hN2 o _ _ _ _ _ _ _ (P7.pusho (z := "e") (.inl rfl)) (st "not" ["e"] f_one.1 (nono f_one.2.1) (by rw [cz]; exact f_one.2.2.1) (by have := e0 rfl; simp; omega))⟩
        refine if_ofP (fun b => b = true → 2 < size - ms.length - os5.length - 1) (fun K hK => by walk_at "rs"; exact ite2 (fun _ => hK _ fun e => rm 2 e) (fun _ => hK _ fun e => by cases e)) (fun e0 => ?_) (fun _ => ?_)
        · refine seq_op fun N3 hN3 => ?_
          walk_at "rs"
          refine ⟨tm, _, P6.hm, mlen, hN3 _ _ ?_⟩
          have P7 := P6.pushm (z := "if") (by decide)
          walk_at "rs"
          exact ⟨by decide, fun q H8 s8 h08 h8 => catL ["e", "e", "e"] "if" _ (by simp) (by decide) (st "if" ["e", "e", "e"] f_one.2.2.2.1 (nono f_one.2.2.2.2.1) (by rw [cz]; exact f_one.2.2.2.2.2) (by have := e0 rfl; simp; omega)) P7 _ _ _ _ q H8 s8 h08 h8⟩
        refine if_ofP (fun b => b = true → 1 < size - ms.length - os5.length - 1) (fun K hK => by walk_at "rs"; exact ite2 (fun _ => hK _ fun e => rm 1 e) (fun _ => hK _ fun e => by cases e)) (fun e0 => ?_) (fun _ => ?_)
        · refine seq_op fun N3 hN3 => ?_
          walk_at "rs"
          refine ⟨tm, by decide, fun q H7 s7 h07 h7 => ofL ["mod", "div"] (by decide) (by simp) (by decide) q H7 s7 h07 h7 _ fun z H8 hzL hz P8 => ⟨_, P8.hm, mlen, hN3 _ _ ?_⟩⟩
          have P9 := P8.pushm hz
          obtain ⟨g1, g2, g3⟩ := f_md z hzL
          walk_at "rs"
          exact ⟨by decide, fun q H8 s8 h08 h8 => catL ["k", "e"] z _ (by simp) (by decide) (st z ["k", "e"] g1 (nono g2) (by rw [cz]; exact g3) (by have := e0 rfl; simp; omega)) P9 _ _ _ _ q H8 s8 h08 h8⟩
        refine if_ofP (fun b => b = true → 1 < size - ms.length - os5.length - 1) (fun K hK => by walk_at "rs"; exact ite2 (fun _ => hK _ fun e => rm 1 e) (fun _ => hK _ fun e => by cases e)) (fun e0 => ?_) (fun _ => ?_)
        · refine seq_op fun N3 hN3 => ?_
          walk_at "rs"
          refine ⟨tm, by decide, fun q H7 s7 h07 h7 => ofL ["+", "-", "*", "+", "-", "min", "max", "=", "/=", "<", "<=", ">", ">=", "and", "or"] (by decide) (by simp) (by decide) q H7 s7 h07 h7 _ fun z H8 hzL hz P8 => ⟨_, P8.hm, mlen, hN3 _ _ ?_⟩⟩
          have P9 := P8.pushm hz
          obtain ⟨g1, g2, g3⟩ := f_op z hzL
          walk_at "rs"
          exact ⟨by decide, fun q H8 s8 h08 h8 => catL ["e", "e"] z _ (by simp) (by decide) (st z ["e", "e"] g1 (nono g2) (by rw [cz]; exact g3) (by have := e0 rfl; simp; omega)) P9 _ _ _ _ q H8 s8 h08 h8⟩
        have hp6 : hb H6 b p = some (.lst (parts.map V.str)) := P6.kp _ _ hp
        have hpH : H6 p = some (.lst (parts.map V.str)) := (hb_some hp6).2
        refine if_of (fun b => b = false → parts ≠ []) (fun Kc hK => ?_) (fun H7 _ s7 => ?_) (fun H7 hne s7 => ?_)
        · walk_at "rs"
          refine ite2 (fun _ => hK _ _ (fun z => absurd z (by decide)) (Same.refl _)) (fun _ => ⟨by decide, fun q H7 s7 h07 h7 => ?_⟩)
          refine ⟨.list (parts.map PyData.str), .list [], .lst (SqL.of (s7 _ _ hpH)) (strs_dpa parts), .lst (SqL.of h7) .nil, strs_shaped fun z hz => (w_len z (f_nm z (hpl z hz)).1).2.2, by decide, _, rfl, hK _ _ (fun e z => ?_) s7⟩
          subst z
          exact absurd e (by decide)
        · have P7 := P6.same s7
          walk_at "rs"
          refine ⟨.inl ⟨rfl, _, SqL.of P7.hm⟩, b, c, 19, rfl, P7.bag, by decide, by decide, fun r H8 r0 r1 B8 K8 => ⟨r, rfl, small_log (by omega) (by omega), _, (P7.call B8 K8).hm, mlen, hN2 o os5 _ _ _ _ _ _ ((P7.call B8 K8).pushm (small_str (by omega) (by omega))) ?_⟩⟩
          obtain ⟨g1, g2, g3⟩ := f_int' (i := r - 9) (by omega) (by omega)
          exact st0 _ g1 (nono g2) (by rw [cz]; exact g3)
        · have P7 := P6.same s7
          walk_at "rs"
          refine ⟨.inl ⟨rfl, _, SqL.of P7.hm⟩, of_lst P7.bag (s7 _ _ hpH) (hb_some hp).1 (by simpa using hne rfl) (by rw [List.length_map]; omega) fun y H8 hy B8 K8 => ?_⟩
          obtain ⟨z, hz, rfl⟩ := List.mem_map.mp hy
          obtain ⟨g1, g2, g3⟩ := f_nm z (hpl z hz)
          exact ⟨_, (P7.call B8 K8).hm, mlen, hN2 o os5 _ _ _ _ _ _ ((P7.call B8 K8).pushm (Nat.le_trans (w_len z g1).1 (by decide))) (st0 z g1 (fun _ => hz) (by rw [cz]; exact g3))⟩
      · rintro σ H3 ⟨o, os, ms, x1, x2, x3, x4, rfl, P3, hml, W3⟩
        have en : os = [] := by
          have q := W3.ln
          have q2 : ms.length = 30 := hml
          exact List.eq_nil_of_length_eq_zero (by omega)
        rw [en] at W3
        exact hN _ _ ⟨o, os, ms, x1, x2, x3, x4, rfl, P3, W3⟩
    · rintro σ H3 ⟨o, os, ms, x1, x2, x3, x4, rfl, P3, W3⟩
      walk_at "rs"
      obtain ⟨xb3, eb3⟩ := P3.bag.at
      refine ⟨_, SqL.of P3.hm, fun q H4 s4 h04 h4 => k q ms H4 (P3.bag.same s4) (Same.trans P3.kp (Kp.of s4)) (Kp.bn P3.kp eb3 h04) h4 (by have := W3.ln; omega) W3.wd ?_⟩
      have q := W3.wk []
      rw [List.append_nil] at q
      rw [q]; rfl
end
end LK

set_option Elab.async false
set_option linter.all false
set_option maxRecDepth 100000
namespace LK
open PySem PySem.Spec PyProof.Rows L2
local macro_rules | `(tactic| walk_at "rs") => `(tactic| simp only [cxK, cxNK, tCallZ, tAsg, tOp, rI0, rS0, rB0, rI, rU, tUn, rEq, rNe, rIxL, rIxT, rIxS, rSetL, rSlLU, rSlS, rSlU, rCatL, rCatU, rRepL, rIn, tVar, tC, gName, gSub, tIfS, tTest, tB, tAnd, tOr, tNot, tNotV, tAndV, tOrV, tIf, tCall, tCons, tNil, tCB, tDrop, tRet, tRetN, tNext, tLstU, tTupU, tM0, tM1, tPar, tPar3, tAug, ipI, tBM, tBM0, rAppend, rPop, tBreak, tCont, tChain, tSl, tPart, tNoPart, L2.start, List.map, List.length_cons, List.length_nil, List.replicate, List.cons_append, List.nil_append, List.append_nil, List.getElem?_cons_zero, List.getElem?_cons_succ, List.set_cons_zero, List.set_cons_succ, Option.some.injEq, V.int.injEq, V.ref.injEq, V.str.injEq, V.bl.injEq, exists_eq_left', exists_eq_left, exists_and_left, decide_eq_true_eq, List.cons.injEq, and_true, true_and, scal, Bool.not_eq_true', decide_eq_false_iff_not, Nat.zero_add, Nat.reduceAdd, Nat.reduceSub, reduceCtorEq, false_and, exists_false, false_or, or_false, CPow, CMul, CDiv, Int.reduceToNat, ↓reduceIte, wipe, sw, List.nil_append, List.singleton_append])
local macro_rules | `(tactic| walk_at "st") => `(tactic| (refine seq_op fun N hN => ?_; walk_at "rs"))
local macro_rules | `(tactic| walk_at "sd") => `(tactic| first | assumption | decide | omega)
local macro_rules | `(tactic| walk_at "rd") => `(tactic| repeat (first
  | refine ⟨_, SqL.of (by assumption), ?_⟩ | refine ⟨_, SqL.of upd_same, ?_⟩ | refine ⟨_, .inl (SqL.of (by assumption)), ?_⟩ | refine ⟨_, (by assumption : _ = some (HO.lst _)), ?_⟩ | refine ⟨_, upd_same, ?_⟩
  | refine ⟨_, rfl, ?_⟩ | refine And.intro (by walk_at "sd") ?_))

/-! ### methods within comprehensions -/
section
variable {X : Cx} {K : PySem.W.Frag} {o e : Expr} {es : List Expr} {to : TE} {t : TA} {name : Str} {apos cpos : Pos} {T id : String} {r : V → List V → Hp → VK → Prop}
theorem pe_bm0K (hK : X.K = K) (pa : PlainAttrs T) (slot : Slot T name id) (hty : typeOf (.builtin id) = pure (.type "method_descriptor")) (hm : MtR X id r) (ho : PE X o to)
    (h1 : attributeBase o name X.env (eval o X.env) = eval o X.env := by rfl) (h2 : (apos.endLine == cpos.line) = true := by rfl) : PE X (.Call (.Attribute o name apos) [] [] cpos) (tBM0 K T r to) := by
  subst hK
  exact pe_bm0 pa slot hty hm ho h1 h2
theorem pe_bmK (hK : X.K = K) (pa : PlainAttrs T) (slot : Slot T name id) (hty : typeOf (.builtin id) = pure (.type "method_descriptor")) (hm : MtR X id r) (ho : PE X o to) (ha : PA X (e :: es) t)
    (h1 : attributeBase o name X.env (eval o X.env) = eval o X.env := by rfl)
    (h2 : ((backTo cpos (starEach (e :: es) X.env)).all (fun x => !x.1) && (backToKw cpos (keywordEach [] X.env)).all (fun x => x.1.isSome) && decide ((e :: es).length + ([] : List Keyword).length + (if ([] : List Keyword).isEmpty then 0 else 1) < 30)) = true := by rfl)
    (h3 : (apos.endLine == cpos.line) = true := by rfl) (h4 : starEach (e :: es) X.env = (false, eval e X.env) :: starEach es X.env := by rfl) (h5 : (backTo cpos (starEach es X.env)).any (·.1) = false := by rfl) :
    PE X (.Call (.Attribute o name apos) (e :: es) [] cpos) (tBM K T r to t) := by
  subst hK
  exact pe_bm pa slot hty hm ho ha h1 h2 h3 h4 h5
end
theorem lc_rngI {n : Nat} {lo : Int} {te : TE} {i0 : Nat} {σ : L2.St} {H1 : Hp} {D : Addr} {Qd : Hp → Prop} (F : Nat → Hp → List V → Prop) (hn : n ≤ 1000000) (f0 : F 0 (L2.upd H1 D (.lst [])) [])
    (hs : ∀ i G ys, i < n → G D = some (.lst ys) → ys.length = i → F i G ys → ∀ Q2 : VK, (∀ y G4, G4 D = some (.lst ys) → F (i + 1) (L2.upd G4 D (.lst (ys ++ [y]))) (ys ++ [y]) → Q2 y G4) → te ((wipe σ [i0]).set i0 (some (.int (lo + i)))) G Q2)
    (hq : ∀ G ys, G D = some (.lst ys) → ys.length = n → F n G ys → Qd G) :
    ∃ W : Nat → Nat → Hp → Prop, (∃ m, W 0 m (L2.upd H1 D (.lst []))) ∧ ∀ i m H, W i m H →
      ((Itr lo n).stop i H ∧ Qd H) ∨ ((Itr lo n).go i H ∧ ∃ Nx : Hp → Prop, (∀ H', Nx H' → ∃ m', m' < m ∧ W (i + 1) m' H') ∧ ∀ x H', (Itr lo n).yld i H x H' → gName i0 x (wipe σ [i0]) H' fun σ2 H2 => wipe σ2 [i0] = wipe σ [i0] ∧ tYes σ2 H2 fun b H3 =>
        if b = true then te σ2 H3 fun y H4 => ∃ acc, H4 D = some (.lst acc) ∧ acc.length < sizeLine ∧ Nx (L2.upd H4 D (.lst (acc ++ [y]))) else Nx H3) := by
  refine lc_it walk_range (fun i H => ∃ ys, H D = some (.lst ys) ∧ ys.length = i ∧ F i H ys) ⟨[], upd_same, rfl, f0⟩ (fun _ _ _ _ => trivial) (fun i x H H' hi ⟨ys, h1, hl, hf⟩ y => ?_) (fun H ⟨ys, h1, hl, hf⟩ => hq H ys h1 hl hf)
  obtain ⟨rfl, rfl⟩ := y
  refine ⟨?_, ?_⟩
  · show ((σ.set i0 none).set i0 (some _)).set i0 none = σ.set i0 none
    rw [List.set_set, List.set_set]
  · simp only [tYes, eq_self, ite_true]
    refine hs i H' ys hi h1 hl hf _ fun y G4 e f => ⟨ys, e, ?_, ys ++ [y], upd_same, by rw [List.length_append, hl]; rfl, f⟩
    rw [hl]
    exact Nat.lt_of_lt_of_le (Nat.lt_of_lt_of_le hi hn) (by decide)
theorem call_len_seqK {X : Cx} {K : PySem.W.Frag} (hK : X.K = K) : CallR X (.builtin "len") (fun xs H Q => ∃ p ys, xs = [.ref p] ∧ (SqL K H p ys ∨ SqT K H p ys) ∧ Q (.int ys.length) H) := by subst hK; exact call_len_seq
theorem erase_perm {α : Type} : ∀ {l : List α} {k : Nat} {y : α}, l[k]? = some y → l.Perm (y :: l.eraseIdx k)
  | [], k, y, h => by simp at h
  | x :: l, 0, y, h => by simp at h; subst h; exact .refl _
  | x :: l, k + 1, y, h => by
    have ih := erase_perm (l := l) (k := k) (y := y) (by simpa using h)
    exact ((ih.cons x).trans (.swap y x _))
theorem Kp.upd2 {b p : Addr} {H H' : Hp} {o : HO} (k : Kp b H H') (h : H p = none) : Kp b H (L2.upd H' p o) := fun a u e => by
  obtain ⟨n1, e1⟩ := hb_some e
  have n : a ≠ p := fun z => by rw [z, h] at e1; cases e1
  rw [hb_ne n1, upd_ne n]
  have := k a u e
  rw [hb_ne n1] at this
  exact this
theorem Kp.none {b p c : Addr} {H H' : Hp} (k : Kp b H H') (B : Bag H' b c) (h : H' p = none) : H p = none := Kp.bn k B.at.choose_spec h
theorem Bag.ne2 {H : Hp} {b c p : Addr} (B : Bag H b c) (h : H p = none) : b ≠ p ∧ c ≠ p := ⟨(new_ne B h).symm, fun e => by
  obtain ⟨xc, ec⟩ := B.at2
  rw [e, h] at ec; cases ec⟩
end LK

set_option Elab.async false
set_option linter.all false
set_option maxRecDepth 100000
namespace LK
open PySem PySem.Spec PyProof.Rows L2
local macro_rules | `(tactic| walk_at "rs") => `(tactic| simp only [cxK, cxNK, tCallZ, tAsg, tOp, rI0, rS0, rB0, rI, rU, tUn, rEq, rNe, rIxL, rIxT, rIxS, rSetL, rSlLU, rSlS, rSlU, rCatL, rCatU, rRepL, rIn, tVar, tC, gName, gSub, tIfS, tTest, tB, tAnd, tOr, tNot, tNotV, tAndV, tOrV, tIf, tCall, tCons, tNil, tCB, tDrop, tRet, tRetN, tNext, tLstU, tTupU, tM0, tM1, tPar, tPar3, tAug, ipI, tBM, tBM0, rAppend, rPop, tBreak, tCont, tChain, tSl, tPart, tNoPart, L2.start, List.map, List.length_cons, List.length_nil, List.replicate, List.cons_append, List.nil_append, List.append_nil, List.getElem?_cons_zero, List.getElem?_cons_succ, List.set_cons_zero, List.set_cons_succ, Option.some.injEq, V.int.injEq, V.ref.injEq, V.str.injEq, V.bl.injEq, exists_eq_left', exists_eq_left, exists_and_left, decide_eq_true_eq, List.cons.injEq, and_true, true_and, scal, Bool.not_eq_true', decide_eq_false_iff_not, Nat.zero_add, Nat.reduceAdd, Nat.reduceSub, reduceCtorEq, false_and, exists_false, false_or, or_false, CPow, CMul, CDiv, Int.reduceToNat, ↓reduceIte, wipe, sw, List.nil_append, List.singleton_append])
local macro_rules | `(tactic| walk_at "st") => `(tactic| (refine seq_op fun N hN => ?_; walk_at "rs"))
local macro_rules | `(tactic| walk_at "sd") => `(tactic| first | assumption | decide | omega)
local macro_rules | `(tactic| walk_at "rd") => `(tactic| repeat (first
  | refine ⟨_, SqL.of (by assumption), ?_⟩ | refine ⟨_, SqL.of upd_same, ?_⟩ | refine ⟨_, .inl (SqL.of (by assumption)), ?_⟩ | refine ⟨_, (by assumption : _ = some (HO.lst _)), ?_⟩ | refine ⟨_, upd_same, ?_⟩
  | refine ⟨_, rfl, ?_⟩ | refine And.intro (by walk_at "sd") ?_))

/-- a fraction of at most 64 bits at the heap -/
def Fok (K : PySem.W.Frag) (G : Hp) (v : V) : Prop := ∃ (a : Addr) (f : Fr), v = .ref a ∧ okB 64 f ∧ Pr K G a f.1 f.2
theorem Fok.same {K : PySem.W.Frag} {G G' : Hp} {v : V} (s : Same G G') (h : Fok K G v) : Fok K G' v := by
  obtain ⟨a, f, h1, h2, h3⟩ := h
  exact ⟨a, f, h1, h2, Same.seqT s h3⟩
theorem Fok.kp {K : PySem.W.Frag} {G G' : Hp} {b c : Addr} {v : V} (B : Bag G b c) (s : Kp b G G') (h : Fok K G v) : Fok K G' v := by
  obtain ⟨a, f, h1, h2, h3⟩ := h
  exact ⟨a, f, h1, h2, seqT_kp B s h3⟩
instance {m : Nat} {f : Fr} : Decidable (okB m f) := by unfold okB; infer_instance
theorem Fok.lit {K : PySem.W.Frag} {G : Hp} {a : Addr} {p q : Int} (h : G a = some (.tup [.int p, .int q])) (o : okB 64 (p, q)) : Fok K G (.ref a) := ⟨a, (p, q), rfl, o, .inl (.inl h)⟩
section
variable {P : Program} {w : World} {K : PySem.W.Frag} {mg : Str → Option Value} {base : Heap}
def sp_some (K : PySem.W.Frag) : Sp := fun vs H Q _ => ∃ (b c : Addr), vs = [.ref b] ∧ Bag H b c ∧ ∀ v H', Fok K H' v → Bag H' b c → Kp b H H' → Q v H'
theorem ok__law_some (T : Txt w K mg) : FnOk P w K mg base CX0 3 T.a__law_some T.d__law_some ["bag"] (sp_some K) := by
  refine T.F__law_some.ok sc__law_some (fun vs H Q E h => ?_) (fun cdv A outer s H vs Q E hr h => ?_)
  · obtain ⟨b, c, rfl, _⟩ := h
    rfl
  · obtain ⟨b, c, rfl, B, k⟩ := h
    have hr__law_draw : Room 1 _ := hr.mono (by decide)
    have G__law_draw := ok__law_draw (P := P) (base := base) T
    have hr__law_low : Room 1 _ := hr.mono (by decide)
    have G__law_low := ok__law_low (P := P) (base := base) T
    have hr__law_of : Room 2 _ := hr.mono (by decide)
    have G__law_of := ok__law_of (P := P) (base := base) T
    refine ⟨_, (pss_cons (ps_set (i := 1) sc__law_some.nd rfl (Or.inl rfl) (pe_call G__law_low hr__law_low (by rfl) T.m__law_low T.F__law_low.kp T.B__law_low .nil pass0 (pa_cons (pe_op op_add (pe_op op_mul (pe_call G__law_draw hr__law_draw (by rfl) T.m__law_draw T.F__law_draw.kp T.B__law_draw .nil pass0 (pa_cons (pv 0) (pa_cons (pe_op op_pow pe_int pe_int) pa_nil))) (pe_op op_pow pe_int pe_int)) (pe_call G__law_draw hr__law_draw (by rfl) T.m__law_draw T.F__law_draw.kp T.B__law_draw .nil pass0 (pa_cons (pv 0) (pa_cons (pe_op op_pow pe_int pe_int) pa_nil)))) (pa_cons (pe_op op_add pe_int (pe_op op_mul (pe_call G__law_draw hr__law_draw (by rfl) T.m__law_draw T.F__law_draw.kp T.B__law_draw .nil pass0 (pa_cons (pv 0) (pa_cons (pe_op op_pow pe_int pe_int) pa_nil))) (pe_op op_pow pe_int pe_int))) pa_nil))))
      (pss_cons (ps_set (i := 2) sc__law_some.nd rfl (Or.inl rfl) (pe_call G__law_low hr__law_low (by rfl) T.m__law_low T.F__law_low.kp T.B__law_low .nil pass0 (pa_cons (pe_op op_sub (pe_call G__law_draw hr__law_draw (by rfl) T.m__law_draw T.F__law_draw.kp T.B__law_draw .nil pass0 (pa_cons (pv 0) (pa_cons pe_int pa_nil))) pe_int) (pa_cons (pe_op op_add pe_int (pe_call G__law_draw hr__law_draw (by rfl) T.m__law_draw T.F__law_draw.kp T.B__law_draw .nil pass0 (pa_cons (pv 0) (pa_cons pe_int pa_nil)))) pa_nil))))
      (pss_cons (ps_set (i := 3) sc__law_some.nd rfl (Or.inl rfl) (pe_lstU (pa_cons (pe_tupU (pa_cons pe_int (pa_cons pe_int pa_nil))) (pa_cons (pe_tupU (pa_cons pe_int (pa_cons pe_int pa_nil))) (pa_cons (pv 2) (pa_cons (pv 2) (pa_cons (pe_tupU (pa_cons (pe_un un_neg pe_int) (pa_cons pe_int pa_nil))) (pa_cons (pe_tupU (pa_cons pe_int (pa_cons pe_int pa_nil))) (pa_cons (pe_tupU (pa_cons pe_int (pa_cons pe_int pa_nil))) (pa_cons (pe_tupU (pa_cons (pe_un un_neg pe_int) (pa_cons pe_int pa_nil))) (pa_cons (pv 1) (pa_cons (pe_tupU (pa_cons (pe_op op_sub pe_int (pe_ix ix_tup (pv 1) pe_int (fun _ _ => rfl))) (pa_cons (pe_ix ix_tup (pv 1) pe_int (fun _ _ => rfl)) pa_nil))) (pa_cons (pe_tupU (pa_cons pe_int (pa_cons pe_int pa_nil))) (pa_cons (pe_tupU (pa_cons (pe_un un_neg pe_int) (pa_cons pe_int pa_nil))) (pa_cons (pe_tupU (pa_cons pe_int (pa_cons pe_int pa_nil))) pa_nil)))))))))))))))
      (pss_one (ps_ret (pe_call G__law_of hr__law_of (by rfl) T.m__law_of T.F__law_of.kp T.B__law_of .nil pass0 (pa_cons (pv 0) (pa_cons (pv 3) pa_nil)))))))), ?_⟩
    refine seq_op fun N hN => ?_
    walk_at "rs"
    have p6 : (0 : Int) ≤ 6 ∧ (6 : Int) ≤ 1000000 ∧ Int.natAbs 10 < 2 ^ 64 := by decide
    have p12 : (0 : Int) ≤ 12 ∧ (12 : Int) ≤ 1000000 ∧ Int.natAbs 10 < 2 ^ 64 := by decide
    have p11 : (0 : Int) ≤ 11 ∧ (11 : Int) ≤ 1000000 ∧ Int.natAbs 10 < 2 ^ 64 := by decide
    refine ⟨p6, b, c, 10 ^ 6, rfl, B, by decide, by decide, fun r1 H1 r10 r11 B1 K1 => ⟨p12, r1, rfl, .inl ⟨by omega, by omega⟩, p6, b, c, 10 ^ 6, rfl, B1, by decide, by decide, fun r2 H2 r20 r21 B2 K2 => ⟨r2, rfl, p6, b, c, 10 ^ 6, rfl, B2, by decide, by decide, fun r3 H3 r30 r31 B3 K3 => ?_⟩⟩⟩
    have hq : (1 + r3 * 10 ^ 11 : Int) ≠ 0 := by omega
    have bp : (r1 * 10 ^ 12 + r2).natAbs < 2 ^ 64 := by omega
    have bq : (1 + r3 * 10 ^ 11).natAbs < 2 ^ 64 := by omega
    refine ⟨p11, r3, rfl, .inl ⟨by omega, by omega⟩, _, _, ⟨rfl, rfl⟩, hq, pow_le bp (by decide), pow_le bq (by decide), fun t1 H4 s4 h04 h4 => hN _ _ ?_⟩
    clear hN N
    have B4 := B3.same s4
    have K4 : Kp b H H4 := Same.trans K1 (Same.trans K2 (Same.trans K3 (Kp.of s4)))
    have okf : okB 64 (lowF (r1 * 10 ^ 12 + r2) (1 + r3 * 10 ^ 11)) := okB_low hq bp bq
    have hfar : Pr K H4 t1 (lowF (r1 * 10 ^ 12 + r2) (1 + r3 * 10 ^ 11)).1 (lowF (r1 * 10 ^ 12 + r2) (1 + r3 * 10 ^ 11)).2 := .inl (.inl h4)
    generalize lowF (r1 * 10 ^ 12 + r2) (1 + r3 * 10 ^ 11) = far at *
    clear h4 bp bq hq
    refine seq_op fun N hN => ?_
    walk_at "rs"
    refine ⟨b, c, 41, rfl, B4, by decide, by decide, fun r4 H5 r40 r41 B5 K5 => ⟨r4, rfl, b, c, 9, rfl, B5, by decide, by decide, fun r5 H6 r50 r51 B6 K6 => ?_⟩⟩
    have hq : (1 + r5 : Int) ≠ 0 := by omega
    have bp : (r4 - 20).natAbs < 2 ^ 64 := by omega
    have bq : (1 + r5).natAbs < 2 ^ 64 := by omega
    refine ⟨r5, rfl, _, _, ⟨rfl, rfl⟩, hq, pow_le bp (by decide), pow_le bq (by decide), fun t2 H7 s7 h07 h7 => hN _ _ ?_⟩
    clear hN N
    have okn : okB 64 (lowF (r4 - 20) (1 + r5)) := okB_low hq bp bq
    have hnear : Fok K H7 (.ref t2) := ⟨t2, _, rfl, okn, .inl (.inl h7)⟩
    have hfar7 : Pr K H7 t1 far.1 far.2 := Same.seqT s7 (seqT_kp B4 (Same.trans K5 K6) hfar)
    have B7 := B6.same s7
    have K7 : Kp b H H7 := Same.trans K4 (Same.trans K5 (Same.trans K6 (Kp.of s7)))
    clear hfar hq bp bq okn h7
    refine seq_op fun N hN => ?_
    walk_at "rs"
    have big : ∀ n : Nat, n ≤ 20 → n ≤ sizeLine := fun n h => Nat.le_trans h (by decide)
    refine ⟨big _ (by decide), fun p0 J0 s0' n0' e0 => ?_⟩
    replace hnear := hnear.same s0'
    replace hfar7 := Same.seqT s0' hfar7
    have q0 : Fok K J0 (.ref p0) := .lit e0 (by decide +kernel)
    clear e0
    refine ⟨big _ (by decide), fun p1 J1 s1' n1' e1 => ?_⟩
    replace hnear := hnear.same s1'
    replace q0 := q0.same s1'
    replace hfar7 := Same.seqT s1' hfar7
    have q1 : Fok K J1 (.ref p1) := .lit e1 (by decide +kernel)
    clear e1
    refine ⟨big _ (by decide), fun p2 J2 s2' n2' e2 => ?_⟩
    replace hnear := hnear.same s2'
    replace q0 := q0.same s2'
    replace q1 := q1.same s2'
    replace hfar7 := Same.seqT s2' hfar7
    have q2 : Fok K J2 (.ref p2) := .lit e2 (by decide +kernel)
    clear e2
    refine ⟨big _ (by decide), fun p3 J3 s3' n3' e3 => ?_⟩
    replace hnear := hnear.same s3'
    replace q0 := q0.same s3'
    replace q1 := q1.same s3'
    replace q2 := q2.same s3'
    replace hfar7 := Same.seqT s3' hfar7
    have q3 : Fok K J3 (.ref p3) := .lit e3 (by decide +kernel)
    clear e3
    refine ⟨big _ (by decide), fun p4 J4 s4' n4' e4 => ?_⟩
    replace hnear := hnear.same s4'
    replace q0 := q0.same s4'
    replace q1 := q1.same s4'
    replace q2 := q2.same s4'
    replace q3 := q3.same s4'
    replace hfar7 := Same.seqT s4' hfar7
    have q4 : Fok K J4 (.ref p4) := .lit e4 (by decide +kernel)
    clear e4
    refine ⟨big _ (by decide), fun p5 J5 s5' n5' e5 => ?_⟩
    replace hnear := hnear.same s5'
    replace q0 := q0.same s5'
    replace q1 := q1.same s5'
    replace q2 := q2.same s5'
    replace q3 := q3.same s5'
    replace q4 := q4.same s5'
    replace hfar7 := Same.seqT s5' hfar7
    have q5 : Fok K J5 (.ref p5) := .lit e5 (by decide +kernel)
    clear e5
    refine ⟨_, hfar7, _, rfl, _, rfl, _, hfar7, _, rfl, big _ (by decide), fun p6 J6 s6' n6' e6 => ?_⟩
    replace hnear := hnear.same s6'
    replace q0 := q0.same s6'
    replace q1 := q1.same s6'
    replace q2 := q2.same s6'
    replace q3 := q3.same s6'
    replace q4 := q4.same s6'
    replace q5 := q5.same s6'
    replace hfar7 := Same.seqT s6' hfar7
    have q6 : Fok K J6 (.ref p6) := .lit e6 ⟨okf.1, by rw [Int.zero_sub, Int.natAbs_neg]; exact okf.2.1, by rw [Int.zero_sub, Int.natAbs_neg]; exact okf.2.2.1, okf.2.2.2⟩
    clear e6
    refine ⟨big _ (by decide), fun p7 J7 s7' n7' e7 => ?_⟩
    replace hnear := hnear.same s7'
    replace q0 := q0.same s7'
    replace q1 := q1.same s7'
    replace q2 := q2.same s7'
    replace q3 := q3.same s7'
    replace q4 := q4.same s7'
    replace q5 := q5.same s7'
    replace q6 := q6.same s7'
    replace hfar7 := Same.seqT s7' hfar7
    have q7 : Fok K J7 (.ref p7) := .lit e7 (by decide +kernel)
    clear e7
    refine ⟨big _ (by decide), fun p8 J8 s8' n8' e8 => ?_⟩
    replace hnear := hnear.same s8'
    replace q0 := q0.same s8'
    replace q1 := q1.same s8'
    replace q2 := q2.same s8'
    replace q3 := q3.same s8'
    replace q4 := q4.same s8'
    replace q5 := q5.same s8'
    replace q6 := q6.same s8'
    replace q7 := q7.same s8'
    replace hfar7 := Same.seqT s8' hfar7
    have q8 : Fok K J8 (.ref p8) := .lit e8 (by decide +kernel)
    clear e8
    refine ⟨big _ (by decide), fun p9 J9 s9' n9' e9 => ?_⟩
    replace hnear := hnear.same s9'
    replace q0 := q0.same s9'
    replace q1 := q1.same s9'
    replace q2 := q2.same s9'
    replace q3 := q3.same s9'
    replace q4 := q4.same s9'
    replace q5 := q5.same s9'
    replace q6 := q6.same s9'
    replace q7 := q7.same s9'
    replace q8 := q8.same s9'
    replace hfar7 := Same.seqT s9' hfar7
    have q9 : Fok K J9 (.ref p9) := .lit e9 (by decide +kernel)
    clear e9
    refine ⟨big _ (by decide), fun t3 J sJ nJ eJ => hN _ _ ?_⟩
    clear hN N
    replace hnear := hnear.same sJ
    replace q0 := q0.same sJ
    replace q1 := q1.same sJ
    replace q2 := q2.same sJ
    replace q3 := q3.same sJ
    replace q4 := q4.same sJ
    replace q5 := q5.same sJ
    replace q6 := q6.same sJ
    replace q7 := q7.same sJ
    replace q8 := q8.same sJ
    replace q9 := q9.same sJ
    replace hfar7 := Same.seqT sJ hfar7
    have sA := (Same.trans (Same.trans (Same.trans (Same.trans (Same.trans (Same.trans (Same.trans (Same.trans (Same.trans s0' s1') s2') s3') s4') s5') s6') s7') s8') s9')
    clear s0' n0' s1' n1' s2' n2' s3' n3' s4' n4' s5' n5' s6' n6' s7' n7' s8' n8' s9' n9'
    have all : ∀ v ∈ [V.ref p0, .ref p1, .ref t2, .ref t2, .ref p2, .ref p3, .ref p4, .ref p5, .ref t1, .ref p6, .ref p7, .ref p8, .ref p9], Fok K J v := fun v hv => by
      simp only [List.mem_cons, List.mem_nil_iff, or_false] at hv
      rcases hv with rfl | rfl | rfl | rfl | rfl | rfl | rfl | rfl | rfl | rfl | rfl | rfl | rfl
      all_goals first | exact q0 | exact q1 | exact hnear | exact q2 | exact q3 | exact q4 | exact q5 | exact ⟨t1, far, rfl, okf, hfar7⟩ | exact q6 | exact q7 | exact q8 | exact q9
    walk_at "rs"
    have BJ := (B7.same sA).same sJ
    refine of_lst BJ eJ (new_ne (B7.same sA) nJ) (by simp) (show 13 ≤ 1000000 by decide) fun y H9 hy B9 K9 => ?_
    exact k y H9 ((all y hy).kp BJ K9) B9 (Same.trans K7 (Same.trans (Kp.of sA) (Same.trans (Kp.of sJ) K9)))
theorem ixN_nat {k n : Nat} (h : k < n) : seqIndex? (k : Int) n = some k := by
  unfold seqIndex?
  simp only
  have h1 : ¬ ((k : Int) < 0) := by omega
  simp [h1, h]
theorem eraseS_map (l : List Str) (k : Nat) : (l.map V.str).eraseIdx k = (l.eraseIdx k).map V.str := by
  induction l generalizing k with
  | nil => rfl
  | cons a l ih =>
    cases k with
    | zero => rfl
    | succ k => show V.str a :: (l.map V.str).eraseIdx k = _; rw [ih]; rfl
def sp_names (K : PySem.W.Frag) : Sp := fun vs H Q _ => ∃ (b c : Addr), vs = [.ref b] ∧ Bag H b c ∧ ∀ p parts H', (∀ z ∈ parts, z ∈ names11) → parts.Nodup → parts ≠ [] → parts.length ≤ 3 → H p = none → H' p = some (.lst (parts.map V.str)) → Bag H' b c → Kp b H H' → Q (.ref p) H'
theorem ok__law_names (T : Txt w K mg) : FnOk P w K mg base CX0 3 T.a__law_names T.d__law_names ["bag"] (sp_names K) := by
  refine T.F__law_names.ok sc__law_names (fun vs H Q E h => ?_) (fun cdv A outer s H vs Q E hr h => ?_)
  · obtain ⟨b, c, rfl, _⟩ := h
    rfl
  · obtain ⟨b, c, rfl, B, k⟩ := h
    have hr__law_draw : Room 1 _ := hr.mono (by decide)
    have G__law_draw := ok__law_draw (P := P) (base := base) T
    refine ⟨_, (pss_cons (ps_set (i := 1) sc__law_names.nd rfl (Or.inr rfl) (pe_lstU (pa_cons pe_str (pa_cons pe_str (pa_cons pe_str (pa_cons pe_str (pa_cons pe_str (pa_cons pe_str (pa_cons pe_str (pa_cons pe_str (pa_cons pe_str (pa_cons pe_str (pa_cons pe_str pa_nil)))))))))))))
      (pss_one (ps_ret (pe_lc (own := [("k", 2)]) (g := gName 2) (tt := tYes) rfl sc__law_names.nd (pi_range1 (by rfl) T.n_range (pa_cons (pe_op op_add pe_int (pe_call G__law_draw hr__law_draw (by rfl) T.m__law_draw T.F__law_draw.kp T.B__law_draw .nil pass0 (pa_cons (pv 0) (pa_cons pe_int pa_nil)))) pa_nil)) (blkOk_by (own := [("k", 2)]) (N := N__law_names) (sc := defScope s__law_names) (by decide +kernel)) (fun _ _ _ _ _ => pg_name (i := 2) sc__law_names.nd rfl (Or.inl rfl)) (fun _ _ _ _ _ => pts_nil) (fun _ _ _ _ _ => (pe_bmK (K := K) rfl PySem.F.plainAttrs_list PySem.F.slot_list_pop PySem.F.type_list_pop mt_popAt (pv 1) (pa_cons (pe_call G__law_draw hr__law_draw (by rfl) T.m__law_draw T.F__law_draw.kp T.B__law_draw .nil pass0 (pa_cons (pv 0) (pa_cons (pe_callB (call_len_seqK (K := K) rfl) (by rfl) T.n_len (by decide +kernel) (pa_cons (pv 1) pa_nil)) pa_nil))) pa_nil))))))), ?_⟩
    refine seq_op fun N hN => ?_
    walk_at "rs"
    refine ⟨by decide, fun p H1 s1 h0 h1 => hN _ _ ?_⟩
    clear hN N
    walk_at "rs"
    refine ⟨_, rfl, b, c, 3, rfl, B.same s1, by decide, by decide, fun r H2 r0 r1 B2 K2 => ⟨1, r, rfl, rfl, _, rfl, by omega, by omega, fun D hD => ?_⟩⟩
    have npb : p ≠ b := new_ne B h0
    have hp2 := K2.hd h1 npb
    have npD : p ≠ D := fun e => by rw [e, hD] at hp2; cases hp2
    have KH2 : Kp b H H2 := Same.trans (Kp.of s1) K2
    refine lc_rngI (n := (1 + r).toNat) (fun i G ys => ∃ out rest : List Str, ys = out.map V.str ∧ G p = some (.lst (rest.map V.str)) ∧ (out ++ rest).Perm names11 ∧ out.length = i ∧ Bag G b c ∧ Kp b H G) (by omega) ⟨[], names11, rfl, ?_, .refl _, rfl, ?_, ?_⟩ (fun i G ys hi hG hl ⟨out, rest, ey, hp, pm, lo, BG, KG⟩ Q2 hq => ?_) fun G ys hG hl ⟨out, rest, ey, hp, pm, lo, BG, KG⟩ => ?_
    · rw [upd_ne npD]; exact hp2
    · exact B2.upd (B2.ne2 hD).1 (B2.ne2 hD).2
    · exact Kp.upd2 KH2 (KH2.none B2 hD)
    · walk_at "rs"
      have lp : out.length + rest.length = 11 := by
        have := pm.length_eq
        rw [List.length_append] at this
        exact this
      refine ⟨.inl ⟨rfl, _, SqL.of hp⟩, _, .inl (SqL.of hp), ?_⟩
      rw [List.length_map]
      refine ⟨b, c, _, rfl, BG, by omega, by omega, fun x J2 x0 x1 B3 K3 => ?_⟩
      obtain ⟨k1, rfl⟩ : ∃ k1 : Nat, x = (k1 : Int) := ⟨x.toNat, by omega⟩
      have hk1 : k1 < rest.length := by omega
      have e1 : rest[k1]? = some rest[k1] := List.getElem?_eq_getElem hk1
      have hp3 := K3.hd hp npb
      have hJ3 := K3.hd hG (B2.ne2 hD).1.symm
      refine ⟨p, _, _, k1, .str rest[k1], rfl, rfl, hp3, by omega, by omega, ixN_nat (by rw [List.length_map]; exact hk1), by rw [List.getElem?_map, e1]; rfl, hq _ _ (by rw [upd_ne npD.symm]; exact hJ3) ⟨out ++ [rest[k1]], rest.eraseIdx k1, by rw [ey, List.map_append]; rfl, ?_, ?_, ?_, ?_, ?_⟩⟩
      · rw [upd_ne npD, upd_same, eraseS_map]
      · refine List.Perm.trans ?_ pm
        rw [List.append_assoc]
        exact List.Perm.append_left _ (erase_perm e1).symm
      · rw [List.length_append, lo]; rfl
      · exact (B3.upd (B.ne2 h0).1 (B.ne2 h0).2).upd (B2.ne2 hD).1 (B2.ne2 hD).2
      · exact Kp.upd2 (Kp.upd2 (Same.trans KG K3) h0) (KH2.none B2 hD)
    · have nd : (out ++ rest).Nodup := pm.nodup_iff.mpr (by decide +kernel)
      have mo : ∀ z ∈ out, z ∈ names11 := fun z hz => pm.subset (List.mem_append_left _ hz)
      rw [ey] at hG
      exact k D out G mo (List.nodup_append.mp nd).1 (fun e => by rw [e] at lo; simp at lo; omega) (by omega) (KH2.none B2 hD) hG BG KG
end
end LK

set_option Elab.async false
set_option linter.all false
set_option maxRecDepth 100000
namespace LK
open PySem PySem.Spec PyProof.Rows L2
local macro_rules | `(tactic| walk_at "rs") => `(tactic| simp only [cxK, cxNK, tCallZ, tAsg, tOp, rI0, rS0, rB0, rI, rU, tUn, rEq, rNe, rIxL, rIxT, rIxS, rSetL, rSlLU, rSlS, rSlU, rCatL, rCatU, rRepL, rIn, tVar, tC, gName, gSub, tIfS, tTest, tB, tAnd, tOr, tNot, tNotV, tAndV, tOrV, tIf, tCall, tCons, tNil, tCB, tDrop, tRet, tRetN, tNext, tLstU, tTupU, tM0, tM1, tPar, tPar3, tAug, ipI, tBM, tBM0, rAppend, rPop, tBreak, tCont, tChain, tSl, tPart, tNoPart, L2.start, List.map, List.length_cons, List.length_nil, List.replicate, List.cons_append, List.nil_append, List.append_nil, List.getElem?_cons_zero, List.getElem?_cons_succ, List.set_cons_zero, List.set_cons_succ, Option.some.injEq, V.int.injEq, V.ref.injEq, V.str.injEq, V.bl.injEq, exists_eq_left', exists_eq_left, exists_and_left, decide_eq_true_eq, List.cons.injEq, and_true, true_and, scal, Bool.not_eq_true', decide_eq_false_iff_not, Nat.zero_add, Nat.reduceAdd, Nat.reduceSub, reduceCtorEq, false_and, exists_false, false_or, or_false, CPow, CMul, CDiv, Int.reduceToNat, ↓reduceIte, wipe, sw, List.nil_append, List.singleton_append])
local macro_rules | `(tactic| walk_at "st") => `(tactic| (refine seq_op fun N hN => ?_; walk_at "rs"))
local macro_rules | `(tactic| walk_at "sd") => `(tactic| first | assumption | decide | omega)
local macro_rules | `(tactic| walk_at "rd") => `(tactic| repeat (first
  | refine ⟨_, SqL.of (by assumption), ?_⟩ | refine ⟨_, SqL.of upd_same, ?_⟩ | refine ⟨_, .inl (SqL.of (by assumption)), ?_⟩ | refine ⟨_, (by assumption : _ = some (HO.lst _)), ?_⟩ | refine ⟨_, upd_same, ?_⟩
  | refine ⟨_, rfl, ?_⟩ | refine And.intro (by walk_at "sd") ?_))

theorem seqT_updD {K : PySem.W.Frag} {H : Hp} {a p : Addr} {xs : List V} {ks : List (Key × V)} {o : HO} (hp : H p = some (.dK ks)) (h : SqT K H a xs) : SqT K (L2.upd H p o) a xs := by
  rcases h with (h | ⟨u, h⟩) | h
  · refine .inl (.inl ?_)
    rw [upd_ne]; exact h
    intro e; rw [e, hp] at h; cases h
  · refine .inl (.inr ⟨u, ?_⟩)
    rw [upd_ne]; exact h
    intro e; rw [e, hp] at h; cases h
  · exact .inr h
theorem mem_putK {kvs : List (Key × V)} {k : Key} {v : V} {p : Key × V} (h : p ∈ putK kvs k v) : p ∈ kvs ∨ p = (k, v) := by
  unfold putK at h
  split at h
  · obtain ⟨q, hq, e⟩ := List.mem_map.mp h
    split at e
    · rename_i c; rw [← e, c]; exact .inr rfl
    · rw [← e]; exact .inl hq
  · rcases List.mem_append.mp h with h | h
    · exact .inl h
    · exact .inr (by simpa using h)
def putF (tab : Str → Option Fr) (z : Str) (f : Fr) : Str → Option Fr := fun y => if y = z then some f else tab y
theorem putF_same {tab : Str → Option Fr} {z : Str} {f : Fr} : putF tab z f z = some f := if_pos rfl
section
variable {K : PySem.W.Frag} {H H' : Hp} {d b c : Addr} {kvs : List (Key × V)} {tab : Str → Option Fr}
theorem EntAt.updD {ks : List (Key × V)} {p : Addr} {o : HO} (hp : H p = some (.dK ks)) : ∀ {x : Option V} {u : Option Fr}, EntAt K H x u → EntAt K (L2.upd H p o) x u
  | none, none, _ => trivial
  | some _, some _, ⟨a, h1, h2⟩ => ⟨a, h1, seqT_updD hp h2⟩
theorem EntAt.kp (B : Bag H b c) (s : Kp b H H') : ∀ {x : Option V} {u : Option Fr}, EntAt K H x u → EntAt K H' x u
  | none, none, _ => trivial
  | some _, some _, ⟨a, h1, h2⟩ => ⟨a, h1, seqT_kp B s h2⟩
theorem dk_ne (B : Bag H b c) {ks : List (Key × V)} (h : H d = some (.dK ks)) : d ≠ b := fun e => by
  obtain ⟨xb, eb⟩ := B.at
  rw [e, eb] at h; cases h
theorem DT.kp (B : Bag H b c) (s : Kp b H H') (D : DT K H d kvs tab) : DT K H' d kvs tab where
  at_ := s.hd D.at_ (dk_ne B D.at_)
  len := D.len
  ents := fun p hp => by
    obtain ⟨z, a, f, h1, h2, h3⟩ := D.ents p hp
    exact ⟨z, a, f, h1, h2, seqT_kp B s h3⟩
  tab := fun z => (D.tab z).kp B s
theorem DT.put (D : DT K H d kvs tab) (hl : kvs.length < 60) {z : Str} {a : Addr} {f : Fr} (ho : okB 64 f) (ha : Pr K H a f.1 f.2) : DT K (L2.upd H d (.dK (putK kvs (.inr z) (.ref a)))) d (putK kvs (.inr z) (.ref a)) (putF tab z f) where
  at_ := upd_same
  len := Nat.le_trans (length_putK _ _ _) (by omega)
  ents := fun p hp => by
    rcases mem_putK hp with hp | rfl
    · obtain ⟨z, a, f, h1, h2, h3⟩ := D.ents p hp
      exact ⟨z, a, f, h1, h2, seqT_updD D.at_ h3⟩
    · exact ⟨z, a, f, rfl, ho, seqT_updD D.at_ ha⟩
  tab := fun y => by
    rw [valV_put]
    unfold putF
    by_cases e : y = z
    · rw [if_pos (by rw [e]), if_pos e]
      exact ⟨a, rfl, seqT_updD D.at_ ha⟩
    · rw [if_neg (fun q => e (by cases q; rfl)), if_neg e]
      exact (D.tab y).updD D.at_
theorem DT.upd {p : Addr} {o : HO} (D : DT K H d kvs tab) (hp : ∃ ys, H p = some (.lst ys)) : DT K (L2.upd H p o) d kvs tab := by
  obtain ⟨ys, hp⟩ := hp
  have n : d ≠ p := fun e => by have := D.at_; rw [e, hp] at this; cases this
  refine ⟨by rw [upd_ne n]; exact D.at_, D.len, fun q hq => ?_, fun z => ?_⟩
  · obtain ⟨z, a, f, h1, h2, h3⟩ := D.ents q hq
    exact ⟨z, a, f, h1, h2, seqT_upd hp h3⟩
  · have := D.tab z
    revert this
    cases valV kvs (.inr z) with
    | none => cases tab z with
      | none => exact fun h => h
      | some f => exact fun h => h
    | some v => cases tab z with
      | none => exact fun h => h
      | some f => exact fun ⟨a, h1, h2⟩ => ⟨a, h1, seqT_upd hp h2⟩
theorem DT.new {G : Hp} (h : G d = some (.dK [])) : DT K G d [] (fun _ => none) := ⟨h, by decide, fun p hp => absurd hp (List.not_mem_nil), fun z => trivial⟩
theorem Fok.updL {p : Addr} {ys : List V} {o : HO} {v : V} (hp : H p = some (.lst ys)) (h : Fok K H v) : Fok K (L2.upd H p o) v := by
  obtain ⟨a, f, h1, h2, h3⟩ := h
  exact ⟨a, f, h1, h2, seqT_upd hp h3⟩
theorem Fok.updD {p : Addr} {ks : List (Key × V)} {o : HO} {v : V} (hp : H p = some (.dK ks)) (h : Fok K H v) : Fok K (L2.upd H p o) v := by
  obtain ⟨a, f, h1, h2, h3⟩ := h
  exact ⟨a, f, h1, h2, seqT_updD hp h3⟩
end
section
variable {P : Program} {w : World} {K : PySem.W.Frag} {mg : Str → Option Value} {base : Heap}
def sp_table (K : PySem.W.Frag) : Sp := fun vs H Q _ => ∃ (b c p1 p2 : Addr) (parts others : List Str), vs = [.ref b, .ref p1, .ref p2] ∧ Bag H b c ∧ H p1 = some (.lst (parts.map V.str)) ∧ p1 ≠ b ∧ H p2 = some (.lst (others.map V.str)) ∧ p2 ≠ b ∧ parts.length ≤ 3 ∧ others.length ≤ 1 ∧
  ∀ d kvs tab H', DT K H' d kvs tab → (∀ z, (tab z).isSome = decide (z ∈ parts ++ others)) → (∀ z f, tab z = some f → okB 64 f) → kvs.length ≤ 4 → Bag H' b c → Kp b H H' → H d = none → Q (.ref d) H'
theorem ok__law_table (T : Txt w K mg) : FnOk P w K mg base CX0 4 T.a__law_table T.d__law_table ["bag", "parts", "others"] (sp_table K) := by
  refine T.F__law_table.ok sc__law_table (fun vs H Q E h => ?_) (fun cdv A outer s H vs Q E hr h => ?_)
  · obtain ⟨b, c, p1, p2, parts, others, rfl, _⟩ := h
    rfl
  · obtain ⟨b, c, p1, p2, parts, others, rfl, B, hp1, n1, hp2, n2, l1, l2, k⟩ := h
    have hr__law_draw : Room 1 _ := hr.mono (by decide)
    have G__law_draw := ok__law_draw (P := P) (base := base) T
    have hr__law_of : Room 2 _ := hr.mono (by decide)
    have G__law_of := ok__law_of (P := P) (base := base) T
    have hr__law_some : Room 3 _ := hr.mono (by decide)
    have G__law_some := ok__law_some (P := P) (base := base) T
    have hu1 : (A.deeper (envOfC "_law_table" (defScope s__law_table) s.heap.objs.size T.a__law_table cdv)).units + 1 < cLine := Nat.lt_of_le_of_lt (Nat.add_le_add_left (by decide : 1 ≤ 64) _) hr.units
    refine ⟨_, (pss_cons (ps_par (i := 3) (j := 4) (by rfl) sc__law_table.nd rfl rfl (by decide) rfl rfl (pa_cons (pe_op op_catL (pe_callTy call_listU (by rfl) T.n_list (by decide +kernel) (pa_cons (pv 1) pa_nil)) (pe_callTy call_listU (by rfl) T.n_list (by decide +kernel) (pa_cons (pv 2) pa_nil))) (pa_cons pe_dnewK pa_nil)) (by rfl))
      (pss_cons (ps_setLc (i := 5) (own := [("k", 6)]) (g := gName 6) (tt := tYes) rfl sc__law_table.nd rfl rfl (sw_true rfl rfl rfl (by decide +kernel)) (pi_range1 (by rfl) T.n_range (pa_cons pe_int pa_nil)) (blkOk_by (own := [("k", 6)]) (N := N__law_table) (sc := defScope s__law_table) (by decide +kernel)) (fun _ _ _ _ _ => pg_name (i := 6) sc__law_table.nd rfl (Or.inl rfl)) (fun _ _ _ _ _ => pts_nil) (fun _ _ _ _ _ => (pe_call G__law_some hr__law_some (by rfl) T.m__law_some T.F__law_some.kp T.B__law_some .nil pass0 (pa_cons (pv 0) pa_nil))))
      (pss_cons (ps_for PassesOwn.never rfl (pi_range1 (by rfl) T.n_range (pa_cons (pe_callB call_len_seq (by rfl) T.n_len (by decide +kernel) (pa_cons (pv 3) pa_nil)) pa_nil)) (pg_name (i := 6) sc__law_table.nd rfl (Or.inl rfl)) (pss_cons (ps_set (i := 7) sc__law_table.nd rfl (Or.inl rfl) (pe_bm PySem.F.plainAttrs_list PySem.F.slot_list_pop PySem.F.type_list_pop mt_popAt (pv 3) (pa_cons (pe_call G__law_draw hr__law_draw (by rfl) T.m__law_draw T.F__law_draw.kp T.B__law_draw .nil pass0 (pa_cons (pv 0) (pa_cons (pe_callB call_len_seq (by rfl) T.n_len (by decide +kernel) (pa_cons (pv 3) pa_nil)) pa_nil))) pa_nil)))
      (pss_one (ps_dput hu1 (pv 4) (pv 7) (pe_call G__law_of hr__law_of (by rfl) T.m__law_of T.F__law_of.kp T.B__law_of .nil pass0 (pa_cons (pv 0) (pa_cons (pe_op op_catL (pv 5) (pe_lstU (pa_cons (pe_call G__law_some hr__law_some (by rfl) T.m__law_some T.F__law_some.kp T.B__law_some .nil pass0 (pa_cons (pv 0) pa_nil)) pa_nil))) pa_nil))) rfl))))
      (pss_one (ps_ret (pv 4)))))), ?_⟩
    refine seq_op fun N hN => ?_
    walk_at "rs"
    refine ⟨_, .inl (SqL.of hp1), fun la H1 s1 h01 h1 => ⟨_, .inl (SqL.of (s1 _ _ hp2)), fun lb H2 s2 h02 h2 => ⟨_, s2 _ _ h1, _, h2, ?_, fun o H3 s3 h03 h3 => ?_⟩⟩⟩
    · rw [List.length_map, List.length_map]
      exact Nat.le_trans (show _ ≤ 4 by omega) (by decide)
    rw [← List.map_append] at h3
    have S3 := Same.trans s1 (Same.trans s2 s3)
    have B3 := B.same S3
    have o0 : H o = none := Same.dom (Same.trans s1 s2) o h03
    unfold tDNewK
    refine fun d hd => ⟨_, _, ⟨rfl, rfl⟩, hN _ _ ?_⟩
    clear hN N
    have nod : o ≠ d := fun e => by rw [← e, h3] at hd; cases hd
    have S4 : Same H (L2.upd H3 d (.dK [])) := Same.trans S3 (same_upd hd)
    have B4 : Bag (L2.upd H3 d (.dK [])) b c := B3.same (same_upd hd)
    have d0 : H d = none := Same.dom S3 d hd
    have hD4 : DT K (L2.upd H3 d (.dK [])) d [] (fun _ => none) := DT.new upd_same
    have ho4 : L2.upd H3 d (.dK []) o = some (.lst ((parts ++ others).map V.str)) := by rw [upd_ne nod]; exact h3
    generalize L2.upd H3 d (.dK []) = H4 at *
    have nob : o ≠ b := new_ne B o0
    have ndb : d ≠ b := new_ne B d0
    refine seq_op fun N hN => ?_
    walk_at "rs"
    refine ⟨2, rfl, by decide, by decide, fun q hq => lc_rngI (n := (2 : Int).toNat) (fun i G ys => (∀ v ∈ ys, Fok K G v) ∧ Bag G b c ∧ Kp b H4 G) (by decide) ⟨fun v hv => absurd hv List.not_mem_nil, B4.upd (B4.ne2 hq).1 (B4.ne2 hq).2, Kp.upd2 (Same.refl _) hq⟩ (fun i G ys hi hG hl ⟨hv, BG, KG⟩ Q2 hQ2 => ?_) fun G ys hG hl ⟨hv, BG, KG⟩ => hN _ _ ?_⟩
    · walk_at "rs"
      refine ⟨b, c, rfl, BG, fun v G5 fv B5 K5 => ?_⟩
      have hG5 := K5.hd hG (B4.ne2 hq).1.symm
      refine hQ2 v G5 hG5 ⟨fun u hu => ?_, B5.upd (B4.ne2 hq).1 (B4.ne2 hq).2, Kp.upd2 (Same.trans KG K5) hq⟩
      rcases List.mem_append.mp hu with hu | hu
      · exact ((hv u hu).kp BG K5).updL hG5
      · obtain rfl : u = v := by simpa using hu
        exact fv.updL hG5
    clear hN N
    have nqb : q ≠ b := (B4.ne2 hq).1.symm
    have nqo : q ≠ o := fun e => by rw [e, ho4] at hq; cases hq
    have q0 : H q = none := Same.dom S4 q hq
    have P0 : Kp b H G := Same.trans (Kp.of S4) KG
    have hoG := KG.hd ho4 nob
    have hDG := hD4.kp B4 KG
    clear hD4 ho4 KG B4
    refine cut_seq (fun σ G2 => ∃ (x6 x7 : Option V) (kvs : List (Key × V)) (tab : Str → Option Fr), σ = [some (.ref b), some (.ref p1), some (.ref p2), some (.ref o), some (.ref d), some (.ref q), x6, x7] ∧ Bag G2 b c ∧ Kp b H G2 ∧ DT K G2 d kvs tab ∧ kvs.length ≤ 4 ∧ (∀ z, (tab z).isSome = decide (z ∈ parts ++ others)) ∧ (∀ z f, tab z = some f → okB 64 f)) (fun N hN => ?_) ?_
    · have hlen : ((parts ++ others).map V.str).length = (parts ++ others).length := List.length_map _
      have hl4 : (parts ++ others).length ≤ 4 := by rw [List.length_append]; omega
      refine ⟨_, rfl, o, _, rfl, .inl (SqL.of hoG), _, rfl, by rw [hlen]; omega, by rw [hlen]; omega, for_range (lo := 0) (n := (((parts ++ others).map V.str).length : Int).toNat) (fun i σ G2 => ∃ (x6 x7 : Option V) (out rest : List Str) (kvs : List (Key × V)) (tab : Str → Option Fr), σ = [some (.ref b), some (.ref p1), some (.ref p2), some (.ref o), some (.ref d), some (.ref q), x6, x7] ∧
        G2 o = some (.lst (rest.map V.str)) ∧ (out ++ rest).Perm (parts ++ others) ∧ out.length = i ∧ DT K G2 d kvs tab ∧ kvs.length ≤ i ∧ (∀ z, (tab z).isSome = decide (z ∈ out)) ∧ (∀ z f, tab z = some f → okB 64 f) ∧ G2 q = some (.lst ys) ∧ (∀ v ∈ ys, Fok K G2 v) ∧ Bag G2 b c ∧ Kp b H G2)
        ⟨none, none, [], parts ++ others, [], _, rfl, hoG, .refl _, rfl, hDG, Nat.le_refl _, (fun z => by simp), (fun z f e => by cases e), hG, hv, BG, P0⟩ ?_ ?_⟩
      · rintro i σ G2 hi ⟨x6, x7, out, rest, kvs, tab, rfl, hp, pm, lo, D2, hkl, hs, hok, hq2, hv2, B2, K2⟩
        rw [hlen] at hi
        have lp : out.length + rest.length = (parts ++ others).length := by
          have := pm.length_eq
          rw [List.length_append] at this
          exact this
        refine seq_op fun N2 hN2 => ?_
        walk_at "rs"
        refine ⟨.inl ⟨rfl, _, SqL.of hp⟩, _, .inl (SqL.of hp), ?_⟩
        rw [List.length_map]
        refine ⟨b, c, _, rfl, B2, by omega, by omega, fun x G3 x0 x1 B3 K3 => ?_⟩
        obtain ⟨k1, rfl⟩ : ∃ k1 : Nat, x = (k1 : Int) := ⟨x.toNat, by omega⟩
        have hk1 : k1 < rest.length := by omega
        have e1 : rest[k1]? = some rest[k1] := List.getElem?_eq_getElem hk1
        have hp3 := K3.hd hp nob
        refine ⟨o, _, _, k1, .str rest[k1], rfl, rfl, hp3, by omega, by omega, ixN_nat (by rw [List.length_map]; exact hk1), by rw [List.getElem?_map, e1]; rfl, hN2 _ _ ?_⟩
        clear hN2 N2
        rw [eraseS_map]
        have hp4 : upd G3 o (.lst ((rest.eraseIdx k1).map V.str)) o = some (.lst ((rest.eraseIdx k1).map V.str)) := upd_same
        have B4 := B3.upd (o := .lst ((rest.eraseIdx k1).map V.str)) (B.ne2 o0).1 (B.ne2 o0).2
        have K4 : Kp b H (upd G3 o (.lst ((rest.eraseIdx k1).map V.str))) := Kp.upd2 (Same.trans K2 K3) o0
        have D4 := (D2.kp B2 K3).upd (o := .lst ((rest.eraseIdx k1).map V.str)) ⟨_, hp3⟩
        have hq4 : upd G3 o (.lst ((rest.eraseIdx k1).map V.str)) q = some (.lst ys) := by rw [upd_ne nqo]; exact K3.hd hq2 nqb
        have hv4 : ∀ v ∈ ys, Fok K (upd G3 o (.lst ((rest.eraseIdx k1).map V.str))) v := fun v hv => ((hv2 v hv).kp B2 K3).updL hp3
        have pm4 : ((out ++ [rest[k1]]) ++ rest.eraseIdx k1).Perm (parts ++ others) := by
          refine List.Perm.trans ?_ pm
          rw [List.append_assoc]
          exact List.Perm.append_left _ (erase_perm e1).symm
        clear pm e1 hp3 D2 hq2 hv2 hp
        generalize upd G3 o (.lst ((rest.eraseIdx k1).map V.str)) = G4 at *
        generalize rest.eraseIdx k1 = rest4 at *
        generalize rest[k1] = z at *
        walk_at "rs"
        unfold sDPut
        walk_at "rs"
        refine ⟨b, c, rfl, B4, fun v G5 fv B5 K5 => ?_⟩
        refine ⟨by decide, fun p5 G6 s6 n6 h6 => ⟨ys, s6 _ _ (K5.hd hq4 nqb), _, h6, ?_, fun p6 G7 s7 n7 h7 => ?_⟩⟩
        · rw [hl]; exact Nat.le_trans (show (2 : Int).toNat + 1 ≤ 10 by decide) (by decide)
        have s67 := Same.trans s6 s7
        have B7 := B5.same s67
        refine of_lst B7 h7 (new_ne (B5.same s6) n7) (by simp) (by rw [List.length_append, hl]; exact (show (2 : Int).toNat + 1 ≤ 1000000 by decide)) fun y G8 hy B8 K8 => ?_
        have fk : ∀ v ∈ ys, Fok K G8 v := fun v hv => (((hv4 v hv).kp B4 K5).same s67).kp B7 K8
        have fy : Fok K G8 y := by
          rcases List.mem_append.mp hy with hy | hy
          · exact fk y hy
          · obtain rfl : y = v := by simpa using hy
            exact (fv.same s67).kp B7 K8
        obtain ⟨a, f, rfl, hokf, ha⟩ := fy
        have D8 := ((D4.kp B4 K5).same s67).kp B7 K8
        have ho8 := K8.hd (s67 _ _ (K5.hd hp4 nob)) nob
        have hq8 := K8.hd (s67 _ _ (K5.hd hq4 nqb)) nqb
        have nqd : q ≠ d := fun e => by
          have := D8.at_
          rw [← e, hq8] at this; cases this
        refine ⟨_, DPut.k (k := .inr z) D8.at_ (Nat.lt_of_le_of_lt (show kvs.length ≤ 10 by omega) (by decide)), _, _, ⟨rfl, rfl⟩, out ++ [z], rest4, by rw [upd_ne nod]; exact ho8, pm4, by rw [List.length_append, lo]; rfl, _, _, D8.put (by omega) hokf ha, Nat.le_trans (length_putK _ _ _) (by omega), fun y => ?_, fun y g e => ?_, by rw [upd_ne nqd]; exact hq8, fun v hv => (fk v hv).updD D8.at_, B8.upd ndb.symm (fun e => ?_), Kp.upd2 (Same.trans K4 (Same.trans K5 (Same.trans (Kp.of s67) K8))) d0⟩
        · unfold putF
          by_cases e : y = z
          · rw [if_pos e, e]; simp
          · rw [if_neg e, hs]
            exact decide_eq_decide.mpr ⟨fun h => List.mem_append_left _ h, fun h => by
              rcases List.mem_append.mp h with h | h
              · exact h
              · exact absurd (by simpa using h) e⟩
        · unfold putF at e
          split at e
          · cases e; exact hokf
          · exact hok y g e
        · exact (B.ne2 d0).2 e
      · rintro σ G2 ⟨x6, x7, out, rest, kvs, tab, rfl, hp, pm, lo, D2, hkl, hs, hok, hq2, hv2, B2, K2⟩
        have lo4 : out.length = (parts ++ others).length := by rw [lo, hlen]; rfl
        have er : rest = [] := by
          have := pm.length_eq
          rw [List.length_append] at this
          exact List.length_eq_zero_iff.mp (by omega)
        subst er
        rw [List.append_nil] at pm
        exact hN _ _ ⟨x6, x7, kvs, tab, rfl, B2, K2, D2, by omega, fun z => by rw [hs]; exact decide_eq_decide.mpr pm.mem_iff, hok⟩
    · rintro σ G2 ⟨x6, x7, kvs, tab, rfl, B2, K2, D2, hl2, hs, hok⟩
      walk_at "rs"
      exact k d kvs tab G2 D2 hs hok hl2 B2 K2 d0
end
end LK

set_option Elab.async false
set_option linter.all false
set_option maxRecDepth 100000
namespace LK
open PySem PySem.Spec PyProof.Rows L2
local macro_rules | `(tactic| walk_at "rs") => `(tactic| simp only [cxK, cxNK, tCallZ, tAsg, tOp, rI0, rS0, rB0, rI, rU, tUn, rEq, rNe, rIxL, rIxT, rIxS, rSetL, rSlLU, rSlS, rSlU, rCatL, rCatU, rRepL, rIn, tVar, tC, gName, gSub, tIfS, tTest, tB, tAnd, tOr, tNot, tNotV, tAndV, tOrV, tIf, tCall, tCons, tNil, tCB, tDrop, tRet, tRetN, tNext, tLstU, tTupU, tM0, tM1, tPar, tPar3, tAug, ipI, tBM, tBM0, rAppend, rPop, tBreak, tCont, tChain, tSl, tPart, tNoPart, L2.start, List.map, List.length_cons, List.length_nil, List.replicate, List.cons_append, List.nil_append, List.append_nil, List.getElem?_cons_zero, List.getElem?_cons_succ, List.set_cons_zero, List.set_cons_succ, Option.some.injEq, V.int.injEq, V.ref.injEq, V.str.injEq, V.bl.injEq, exists_eq_left', exists_eq_left, exists_and_left, decide_eq_true_eq, List.cons.injEq, and_true, true_and, scal, Bool.not_eq_true', decide_eq_false_iff_not, Nat.zero_add, Nat.reduceAdd, Nat.reduceSub, reduceCtorEq, false_and, exists_false, false_or, or_false, CPow, CMul, CDiv, Int.reduceToNat, ↓reduceIte, wipe, sw, List.nil_append, List.singleton_append])
local macro_rules | `(tactic| walk_at "st") => `(tactic| (refine seq_op fun N hN => ?_; walk_at "rs"))
local macro_rules | `(tactic| walk_at "sd") => `(tactic| first | assumption | decide | omega)
local macro_rules | `(tactic| walk_at "rd") => `(tactic| repeat (first
  | refine ⟨_, SqL.of (by assumption), ?_⟩ | refine ⟨_, SqL.of upd_same, ?_⟩ | refine ⟨_, .inl (SqL.of (by assumption)), ?_⟩ | refine ⟨_, (by assumption : _ = some (HO.lst _)), ?_⟩ | refine ⟨_, upd_same, ?_⟩
  | refine ⟨_, rfl, ?_⟩ | refine And.intro (by walk_at "sd") ?_))

open LamX (Tabs TabS ExtN GivesTo pe_lamcall TabB lamS_by tLam CodeO LamS lamCx lamEnv)
def mkE (e : Str × Addr × Fr) : Key × V := (.inr e.1, .ref e.2.1)
def entD (es : List (Str × Addr × Fr)) : List PyData := es.map fun e => .tuple [.str e.1, .tuple [.int e.2.2.1, .int e.2.2.2]]
theorem ents_list {K : PySem.W.Frag} {H : Hp} : ∀ {kvs : List (Key × V)}, Ents K H kvs → ∃ es : List (Str × Addr × Fr), kvs = es.map mkE ∧ ∀ e ∈ es, Pr K H e.2.1 e.2.2.1 e.2.2.2
  | [], _ => ⟨[], rfl, fun e h => absurd h List.not_mem_nil⟩
  | p :: r, h => by
    obtain ⟨z, a, f, h1, h2, h3⟩ := h p List.mem_cons_self
    obtain ⟨es, e1, e2⟩ := ents_list (kvs := r) fun q hq => h q (List.mem_cons_of_mem _ hq)
    refine ⟨(z, a, f) :: es, by rw [e1, h1]; rfl, fun e he => ?_⟩
    rcases List.mem_cons.mp he with rfl | he
    · exact h3
    · exact e2 e he
theorem items_dp {K : PySem.W.Frag} {G : Hp} : ∀ {es : List (Str × Addr × Fr)} {ts : List Addr}, Paired (fun (t : Addr) (q : Key × V) => G t = some (.tup [kV q.1, q.2])) ts (es.map mkE) → (∀ e ∈ es, Pr K G e.2.1 e.2.2.1 e.2.2.2) → DpAll K G (ts.map V.ref) (entD es)
  | [], _, .nil, _ => .nil
  | e :: _, _ :: _, .cons h q, hp => .cons (.tup (.inl (.inl h)) (.cons (.str e.1) (.cons (dp_pair (hp e List.mem_cons_self)) .nil))) (items_dp q fun x hx => hp x (List.mem_cons_of_mem _ hx))
theorem items_lay : ∀ {es : List (Str × Addr × Fr)}, (∀ e ∈ es, PyData.canLay0 (.str e.1) = true) → PyData.canLayAll0 (entD es) = true ∧ PyData.depthAll (entD es) ≤ 2
  | [], _ => ⟨rfl, by decide⟩
  | e :: es, h => by
    obtain ⟨h1, h2⟩ := items_lay (es := es) fun x hx => h x (List.mem_cons_of_mem _ hx)
    constructor
    · show ((PyData.canLay0 (.str e.1) && _) && PyData.canLayAll0 (entD es)) = true
      rw [h e List.mem_cons_self, h1]; rfl
    · show max _ (PyData.depthAll (entD es)) ≤ 2
      exact Nat.max_le.mpr ⟨Nat.le_refl 2, h2⟩
theorem items_shaped {es : List (Str × Addr × Fr)} (h : ∀ e ∈ es, PyData.canLay0 (.str e.1) = true) : SeqAt.shaped (.list (entD es)) = true ∧ PyData.eqv (.list (entD es)) (.list (entD es)) = true := by
  obtain ⟨h1, h2⟩ := items_lay h
  have hs : SeqAt.shaped (.list (entD es)) = true := by
    unfold SeqAt.shaped
    rw [Bool.and_eq_true]
    refine ⟨h1, decide_eq_true ?_⟩
    show PyData.depthAll (entD es) + 1 ≤ 64
    omega
  exact ⟨hs, SeqAt.eqv_refl _ (SeqAt.canLay_of_shaped hs)⟩
theorem mem_val {kvs : List (Key × V)} {p : Key × V} (h : p ∈ kvs) : (valV kvs p.1).isSome = true := by
  rw [← valV_any]
  exact List.any_eq_true.mpr ⟨p, h, decide_eq_true rfl⟩
theorem codeO_dk {c : Addr} {q : Str} {ks : List (Key × V)} : CodeO c q ≠ .dK ks := fun z => by
  unfold LamX.CodeO at z
  cases z
theorem Tabs.updD {T : List (Addr × Str)} {H : Hp} {g : Addr} {ks : List (Key × V)} {o : HO} (hg : H g = some (.dK ks)) (t : Tabs T H) : Tabs T (L2.upd H g o) := fun p hp => by
  obtain ⟨ps, h1, h2, h3⟩ := t p hp
  have n1 : p.1 ≠ g := fun e => by rw [e, hg] at h1; cases h1
  refine ⟨ps, by rw [upd_ne n1]; exact h1, h2, fun pos cv hc => ?_⟩
  obtain ⟨c0, e1, e2⟩ := h3 pos cv hc
  refine ⟨c0, e1, ?_⟩
  rw [upd_ne]
  · exact e2
  · intro e
    rw [e, hg] at e2
    exact codeO_dk (Option.some.inj e2).symm
theorem DT.ext {K : PySem.W.Frag} {H H' : Hp} {d : Addr} {kvs : List (Key × V)} {tab : Str → Option Fr} (s : ExtN H H') (D : DT K H d kvs tab) : DT K H' d kvs tab where
  at_ := s _ _ D.at_ fun _ z => by cases z
  len := D.len
  ents := fun p hp => by
    obtain ⟨z, a, f, h1, h2, h3⟩ := D.ents p hp
    exact ⟨z, a, f, h1, h2, ExtN.seqT s h3⟩
  tab := fun z => by
    have := D.tab z
    revert this
    cases valV kvs (.inr z) with
    | none => cases tab z with
      | none => exact fun h => h
      | some f => exact fun h => h
    | some v => cases tab z with
      | none => exact fun h => h
      | some f => exact fun ⟨a, h1, h2⟩ => ⟨a, h1, ExtN.seqT s h2⟩
section
variable {P : Program} {w : World} {K : PySem.W.Frag} {mg : Str → Option Value} {base : Heap}
def sp_so (K : PySem.W.Frag) (TL : List (Addr × Str)) : Sp := fun vs H Q _ => ∃ (a d : Addr) (ws : List Str) (kvs : List (Key × V)) (tab : Str → Option Fr) (way : Int), vs = [.ref a, .ref d, .int way] ∧ SqT K H a (ws.map V.str) ∧ (∀ z ∈ ws, z ∈ allW) ∧ ws.length ≤ 30 ∧ walkL [101] (ws.map PyData.str) = true ∧ DT K H d kvs tab ∧ (∀ z f, tab z = some f → okB 64 f) ∧
  (∀ z ∈ allW, nm z = false → tab z = none) ∧ (∀ z, (tab z).isSome = true → PyData.canLay0 (.str z) = true) ∧ Tabs TL H ∧ ∀ H', ExtN H H' → Tabs TL H' → Q (.bl true) H'
theorem ok__law_so (T : Txt w K mg) (hB : ∀ p ∈ T.cs, TabB base mg p.1 p.2) : FnOk P w K mg base CX0 11 T.a__law_so T.d__law_so ["prefix", "table", "way"] (sp_so K T.TL) := by
  refine Fun.okC T.F__law_so T.k__law_so sc__law_so (fun vs H Q E h => ?_) (fun A outer s H vs Q E hr h => ?_)
  · obtain ⟨a, d, ws, kvs, tab, way, rfl, _⟩ := h
    rfl
  · obtain ⟨a, d, ws, kvs, tab, way, rfl, ha, hw, hl, hwalk, hD, hok, hno, hlay, tb, k⟩ := h
    have hr__law_named : Room 2 _ := hr.mono (by decide)
    have G__law_named := ok__law_named (P := P) (base := base) T
    have hr__law_worth : Room 4 _ := hr.mono (by decide)
    have G__law_worth := ok__law_worth (P := P) (base := base) T
    have hr__law_like : Room 3 _ := hr.mono (by decide)
    have G__law_like := ok__law_like (P := P) (base := base) T 2
    have G_evaluate := ok_evaluate (P := P) (base := base) T
    have hr_ask : Room 10 _ := hr
    have hu1 : (A.deeper (envOfC "_law_so" (defScope s__law_so) s.heap.objs.size T.a__law_so (.ref T.c__law_so))).units + 1 < cLine := Nat.lt_of_le_of_lt (Nat.add_le_add_left (by decide : 1 ≤ 64) _) hr.units
    refine ⟨_, (pss_cons (ps_setLc (i := 3) (own := [("part", 6)]) (g := gName 6) (tt := _) rfl sc__law_so.nd rfl rfl (sw_true rfl rfl rfl (by decide +kernel)) (pi_list (pe_call G__law_named hr__law_named (by rfl) T.m__law_named T.F__law_named.kp T.B__law_named .nil pass0 (pa_cons (pv 0) pa_nil))) (blkOk_by (own := [("part", 6)]) (N := N__law_so) (sc := defScope s__law_so) (by decide +kernel)) (fun _ _ _ _ _ => pg_name (i := 6) sc__law_so.nd rfl (Or.inl rfl)) (fun _ _ _ _ _ => pts_one (pt_cmp (pc_dnotin hu1 (pv 6) (pv 1)))) (fun _ _ _ _ _ => (pv 6)))
      (pss_cons (ps_set (i := 4) sc__law_so.nd rfl (Or.inl rfl) (LiI.pe_listItems rfl (pv 1) (by rfl) T.n_list (by decide +kernel)))
      (pss_cons (ps_set (i := 5) sc__law_so.nd rfl (Or.inl rfl) (pe_ask (k := 8) T (by rfl) (hB _ T.cs1) rfl T.tl1 hr_ask (lamS_by (sc := defScope s__law_so) (by decide +kernel)) rfl (fun _ _ _ _ _ => rfl) (fun A9 outer9 s9 H9 E9 f9 c9 hr9 => (pe_ifExp (pt_cmpR op_eqI (pv 2) pe_int (nomark _)) (pe_call G_evaluate hr9 (by rfl) T.m_evaluate T.F_evaluate.kp T.B_evaluate .nil (passes_call (takes_of rfl rfl rfl rfl) (fun _ _ _ _ h => h)) (pa_cons (pv 0) (pa_cons (pv 1) pa_nil))) (pe_callZ (g := fun ws => sw ws) (gV := fun zs => sw zs) G_evaluate hr9 (by rfl) T.m_evaluate T.F_evaluate.kp T.Z_evaluate (passes_call (takes_of rfl rfl rfl rfl) (fun _ _ _ _ h => h)) (pk_cons (pv 1) (pk_cons (pv 0) pk_nil)))))))
      (pss_cons (ps_if (pt_cmpR (op_neD hr.units) (LiI.pe_listItems rfl (pv 1) (by rfl) T.n_list (by decide +kernel)) (pv 4) (nomark _)) (pss_one (ps_ret pe_bl)) pss_nil)
      (pss_cons (ps_if (pt_cmpR (op_neD hr.units) (pv 3) (pe_lstU pa_nil) (nomark _)) (pss_one (ps_ret (pe_call G__law_like hr__law_like (by rfl) T.m__law_like T.F__law_like.kp T.B__law_like .nil pass0 (pa_cons (pv 5) (pa_cons (pe_lstU (pa_cons pe_str (pa_cons (pe_ix ix_list (pv 3) pe_int (fun _ _ => rfl)) pa_nil))) pa_nil))))) pss_nil)
      (pss_one (ps_ret (pe_call G__law_like hr__law_like (by rfl) T.m__law_like T.F__law_like.kp T.B__law_like .nil pass0 (pa_cons (pv 5) (pa_cons (pe_lstU (pa_cons pe_str (pa_cons (pe_call G__law_worth hr__law_worth (by rfl) T.m__law_worth T.F__law_worth.kp T.B__law_worth .nil pass0 (pa_cons (pv 0) (pa_cons (pv 1) pa_nil))) pa_nil))) pa_nil)))))))))), ?_⟩
    refine seq_op fun N hN => ?_
    walk_at "rs"
    refine ⟨_, rfl, a, rfl, ws, ha, hw, hl, fun t H1 s1 h01 h1 => ⟨t, rfl, ⟨_, .inl (.inl h1)⟩, fun D hDn => lc_it (walk_list (K := K) (a := t) (xs := (namesOf ws).map V.str)) (fun i G => G D = some (.lst (((namesOf ws).take i).filter (fun z => (tab z).isNone) |>.map V.str)) ∧ Same H1 G) ⟨upd_same, same_upd hDn⟩ (fun i G _ h => .inl (.inl (h.2 _ _ h1))) ?_ ?_⟩⟩
    · rintro i x G G' hi ⟨h3, h4⟩ ⟨rfl, hy⟩
      rw [List.getElem?_map] at hy
      obtain ⟨z, hz, rfl⟩ := Option.map_eq_some_iff.mp hy
      have et : (namesOf ws).take (i + 1) = (namesOf ws).take i ++ [z] := by rw [List.take_succ, hz]; rfl
      have D4 := hD.same (Same.trans s1 h4)
      have e5 := D4.has z
      have sl : ((((namesOf ws).take i).filter (fun z => (tab z).isNone)).map V.str).length < sizeLine := by
        rw [List.length_map]
        have q := List.length_filter_le (fun z => (tab z).isNone) ((namesOf ws).take i)
        rw [List.length_take] at q
        have q2 := len_names ws
        exact Nat.lt_of_le_of_lt (show _ ≤ 30 by omega) (by decide)
      unfold tB tDNotIn
      walk_at "rs"
      refine ⟨_, .inl ⟨kvs, .inr z, .inl D4.at_, rfl, rfl⟩, ?_⟩
      rw [e5]
      refine ite2 (fun c => ?_) (fun c => ?_)
      · have n : (tab z).isNone = true := by cases e : tab z <;> simp_all
        refine ⟨_, h3, sl, ?_, fun b u e => by rw [upd_ne (ne_of_none e hDn)]; exact h4 b u e⟩
        rw [upd_same, et, List.filter_append, List.filter_cons_of_pos (p := fun z => (tab z).isNone) n, List.map_append]; rfl
      · have n : ¬ (tab z).isNone = true := by cases e : tab z <;> simp_all
        refine ⟨?_, h4⟩
        rw [h3, et, List.filter_append, List.filter_cons_of_neg (p := fun z => (tab z).isNone) n, List.filter_nil, List.append_nil]
    rintro G ⟨h3, h4⟩
    rw [List.length_map, List.take_length] at h3
    refine hN _ _ ?_
    clear hN N
    replace h3 : G D = some (.lst ((lacks tab ws).map V.str)) := h3
    have sG := Same.trans s1 h4
    have DG := hD.same sG
    refine seq_op fun N hN => ?_
    walk_at "rs"
    refine ⟨_, rfl, d, kvs, rfl, DG.at_, fun G2 p ts s2 hp hts hpts hp2 hpair => hN _ _ ?_⟩
    clear hN N
    obtain ⟨es, ees, hes⟩ := ents_list hD.ents
    have hcl : ∀ e ∈ es, PyData.canLay0 (.str e.1) = true := fun e he => hlay e.1 (by
      rw [← hD.has, ees]
      exact mem_val (p := mkE e) (List.mem_map_of_mem he))
    obtain ⟨shp, eqr⟩ := items_shaped hcl
    have S2 := Same.trans sG s2
    have D2 := hD.same S2
    have dk2 : Dp K G2 (.ref p) (.list (entD es)) := .lst (.inl (.inl hp2)) (items_dp (ees ▸ hpair) fun e he => Same.seqT S2 (hes e he))
    have tb2 := Tabs.same tb S2
    have ha2 := Same.seqT S2 ha
    have hl2 : G2 D = some (.lst ((lacks tab ws).map V.str)) := s2 _ _ h3
    refine cut_seq (fun σ H5 => ∃ (g : Addr), σ = [some (.ref a), some (.ref d), some (.int way), some (.ref D), some (.ref p), some (.ref g), none] ∧ ExtN G2 H5 ∧ Tabs T.TL H5 ∧ ((lacks tab ws = [] ∧ ∃ t f, stk tab ws = [f] ∧ okB 1920 f ∧ Pr K H5 t f.1 f.2 ∧ H5 g = some (.lst [.str "told", .ref t])) ∨ ∃ z l, lacks tab ws = z :: l ∧ H5 g = some (.lst [.str "NoName", .str z]))) (fun N hN => ?_) ?_
    · walk_at "rs"
      refine ⟨tb2, fun H5 e5 tb5 => ?_⟩
      unfold TTask
      have D5 := D2.ext e5
      have ha5 := ExtN.seqT e5 ha2
      walk_at "rs"
      have fin : sp_evaluate K T.C_NoName [V.ref a, V.ref d] H5 (fun v H1 => 2 ≤ sizeLine ∧ ∀ (p_1 : Addr) (H2 : Hp), Same H1 H2 → H1 p_1 = none → H2 p_1 = some (HO.lst [V.str (Str.ofString "told"), v]) → N [some (V.ref a), some (V.ref d), some (V.int way), some (V.ref D), some (V.ref p), some (V.ref p_1), none] H2)
          (fun cls d_1 H' => cls = Value.ref T.C_NoName ∧ ∃ dd, d_1 = some dd ∧ ∃ x, H' dd = some (HO.xd (nnF x)) ∧ ∀ (p_1 : Addr) (H2 : Hp), Same H' H2 → H' p_1 = none → H2 p_1 = some (HO.lst [V.str (Str.ofString "NoName"), x]) → N [some (V.ref a), some (V.ref d), some (V.int way), some (V.ref D), some (V.ref p), some (V.ref p_1), none] H2) := by
        refine ⟨a, d, ws, kvs, tab, rfl, ha5, hw, hl, hwalk, D5, hok, fun hn t H6 f s6 hst hf hp => ⟨by decide, fun g H7 s7 h07 h7 => hN _ _ ⟨g, rfl, ?_, Tabs.same tb5 (Same.trans s6 s7), .inl ⟨hn, t, f, hst, hf, Same.seqT s7 hp, h7⟩⟩⟩, fun z l hz x H6 s6 h06 h6 => ⟨rfl, x, rfl, .str z, h6, fun g H7 s7 h07 h7 => hN _ _ ⟨g, rfl, ?_, Tabs.same tb5 (Same.trans s6 s7), .inr ⟨z, l, hz, h7⟩⟩⟩⟩
        · exact fun b o h n => Same.trans s6 s7 b o (e5 b o h n)
        · exact fun b o h n => Same.trans s6 s7 b o (e5 b o h n)
      exact ite2 (fun _ => fin) (fun _ => fin)
    · rintro σ H5 ⟨g, rfl, e5, tb5, hg⟩
      have D5 := D2.ext e5
      have ha5 := ExtN.seqT e5 ha2
      have dk5 := dp_ext e5 dk2
      have hl5 := e5 _ _ hl2 fun _ z => by cases z
      refine seq_op fun N hN => ?_
      walk_at "rs"
      refine ⟨_, rfl, d, kvs, rfl, D5.at_, fun H6 p6 ts6 s6 _ _ _ hp6 hpair6 => ?_⟩
      have dk6 : Dp K H6 (.ref p6) (.list (entD es)) := .lst (.inl (.inl hp6)) (items_dp (ees ▸ hpair6) fun e he => Same.seqT s6 (ExtN.seqT e5 (Same.seqT S2 (hes e he))))
      refine ⟨_, _, dk6, dp_same s6 dk5, shp, shp, ?_⟩
      rw [eqr]
      refine ⟨_, rfl, iteFF (by decide) (hN _ _ ?_)⟩
      clear hN N
      have E6 : ∀ H', Same H6 H' → ExtN H H' ∧ Tabs T.TL H' := fun H' s' => ⟨fun b o h n => s' _ _ (s6 _ _ (e5 b o (S2 b o h) n)), Tabs.same tb5 (Same.trans s6 s')⟩
      have fin : ∀ H', Same H6 H' → Q (.bl true) H' := fun H' s' => k H' (E6 H' s').1 (E6 H' s').2
      have hl6 := s6 _ _ hl5
      refine seq_op fun N hN => ?_
      walk_at "rs"
      have lsub : ∀ z ∈ lacks tab ws, z ∈ allW := fun z hz => hw z (mem_names.mp (List.mem_filter.mp hz).1).1
      refine ⟨by decide, fun q7 H7 s7 h07 h7 => ⟨.list ((lacks tab ws).map PyData.str), .list [], .lst (.inl (.inl (s7 _ _ hl6))) (strs_dpa _), .lst (.inl (.inl h7)) .nil, strs_shaped fun z hz => (w_len z (lsub z hz)).2.2, by decide, ?_⟩⟩
      rcases hg with ⟨hn, t, f, hst, hf, hp, hg⟩ | ⟨z, l, hz, hg⟩
      · rw [hn]
        refine ⟨false, rfl, iteFF (by decide) (hN _ _ ?_)⟩
        clear hN N
        walk_at "rs"
        have s67 := Same.trans s6 s7
        have D7 := D5.same s67
        have ha7 := Same.seqT s67 ha5
        refine ⟨a, d, ws, kvs, tab, rfl, ha7, hw, hl, hwalk, D7, hok, hn, hno, fun t8 H8 f8 s8 hst8 hp8 => ⟨by decide, fun q9 H9 s9 h09 h9 => ?_⟩⟩
        have ef : f8 = f := by rw [hst] at hst8; exact (List.cons.inj hst8).1.symm
        subst ef
        have s69 := Same.trans s67 (Same.trans s8 s9)
        refine ⟨_, _, .list [.str "told", .tuple [.int f8.1, .int f8.2]], rfl, .lst (.inl (.inl (s69 _ _ hg))) (.cons (.str _) (.cons (dp_pair (Same.seqT s69 hp)) .nil)), .lst (.inl (.inl h9)) (.cons (.str _) (.cons (dp_pair (Same.seqT s9 hp8)) .nil)), ?_, ?_, fun H10 s10 => fin H10 (Same.trans s7 (Same.trans s8 (Same.trans s9 s10)))⟩
        · refine okD_lst.mpr ⟨(show 2 ≤ 100000 by decide), ?_⟩
          unfold okAll
          rw [Bool.and_eq_true]
          refine ⟨by decide +kernel, ?_⟩
          unfold okAll
          rw [Bool.and_eq_true]
          exact ⟨okD_of2 (pow_le hf.2.2.1 (by decide)) (pow_le hf.2.2.2 (by decide)), rfl⟩
        · exact Nat.le_refl 2
      · rw [hz]
        refine ⟨true, rfl, iteTT rfl ⟨_, .inl (.inl (s7 _ _ hl6)), .str z, by rw [hz]; exact at_ofN (j := 0) rfl rfl, by decide, fun q8 H8 s8 h08 h8 => ?_⟩⟩
        have s68 := Same.trans s6 (Same.trans s7 s8)
        refine ⟨_, _, .list [.str "NoName", .str z], rfl, .lst (.inl (.inl (s68 _ _ hg))) (.cons (.str _) (.cons (.str z) .nil)), .lst (.inl (.inl h8)) (.cons (.str _) (.cons (.str z) .nil)), ?_, ?_, fun H9 s9 => fin H9 (Same.trans s7 (Same.trans s8 s9))⟩
        · have hz6 := (w_len z (lsub z (by rw [hz]; exact List.mem_cons_self))).1
          refine okD_lst.mpr ⟨(show 2 ≤ 100000 by decide), ?_⟩
          unfold okAll
          rw [Bool.and_eq_true]
          refine ⟨by decide +kernel, ?_⟩
          unfold okAll
          rw [Bool.and_eq_true]
          exact ⟨decide_eq_true (Nat.le_trans hz6 (by decide)), rfl⟩
        · exact Nat.le_succ 1
def sp_more (K : PySem.W.Frag) (TL : List (Addr × Str)) : Sp := fun vs H Q _ => ∃ (b c a p d1 d2 : Addr) (ws : List Str) (kvs1 kvs2 : List (Key × V)) (tab1 tab2 : Str → Option Fr), vs = [.ref b, .ref a, .ref p] ∧ Bag H b c ∧ SqT K H a (ws.map V.str) ∧ (∀ z ∈ ws, z ∈ allW) ∧ ws.length ≤ 30 ∧ walkL [101] (ws.map PyData.str) = true ∧
  H p = some (.lst [.ref d1, .ref d2]) ∧ p ≠ b ∧ DT K H d1 kvs1 tab1 ∧ DT K H d2 kvs2 tab2 ∧ (∀ z f, tab1 z = some f → okB 64 f) ∧ (∀ z f, tab2 z = some f → okB 64 f) ∧ kvs2.length ≤ 4 ∧ lacks tab1 ws = [] ∧
  (∀ z ∈ allW, nm z = false → tab2 z = none) ∧ (∀ z, (tab2 z).isSome = true → PyData.canLay0 (.str z) = true) ∧ Tabs TL H ∧ ∀ H', KN b H H' → Bag H' b c → Tabs TL H' → Q (.bl true) H'
theorem ok__law_one_more (T : Txt w K mg) (hB : ∀ p ∈ T.cs, TabB base mg p.1 p.2) : FnOk P w K mg base CX0 12 T.a__law_one_more T.d__law_one_more ["bag", "prefix", "tables"] (sp_more K T.TL) := by
  refine T.F__law_one_more.ok sc__law_one_more (fun vs H Q E h => ?_) (fun cdv A outer s H vs Q E hr h => ?_)
  · obtain ⟨b, c, a, p, d1, d2, ws, kvs1, kvs2, tab1, tab2, rfl, _⟩ := h
    rfl
  · obtain ⟨b, c, a, p, d1, d2, ws, kvs1, kvs2, tab1, tab2, rfl, B, ha, hw, hl, hwalk, hp, npb, D1, D2, hok1, hok2, hkl, hlk, hno, hlay, tb, k⟩ := h
    have hr__law_named : Room 2 _ := hr.mono (by decide)
    have G__law_named := ok__law_named (P := P) (base := base) T
    have hr_evaluate : Room 8 _ := hr.mono (by decide)
    have G_evaluate := ok_evaluate (P := P) (base := base) T
    have hr__law_of : Room 2 _ := hr.mono (by decide)
    have G__law_of := ok__law_of (P := P) (base := base) T
    have hr__law_so : Room 11 _ := hr.mono (by decide)
    have G__law_so := ok__law_so (P := P) T hB
    have hu1 : (A.deeper (envOfC "_law_one_more" (defScope s__law_one_more) s.heap.objs.size T.a__law_one_more cdv)).units + 1 < cLine := Nat.lt_of_le_of_lt (Nat.add_le_add_left (by decide : 1 ≤ 64) _) hr.units
    refine ⟨_, (pss_cons (ps_set (i := 3) sc__law_one_more.nd rfl (Or.inl rfl) (pe_call G_evaluate hr_evaluate (by rfl) T.m_evaluate T.F_evaluate.kp T.B_evaluate .nil passL (pa_cons (pv 1) (pa_cons (pe_ix ix_list (pv 2) pe_int (fun _ _ => rfl)) pa_nil))))
      (pss_cons (ps_set (i := 4) sc__law_one_more.nd rfl (Or.inl rfl) (pe_call G__law_named hr__law_named (by rfl) T.m__law_named T.F__law_named.kp T.B__law_named .nil pass0 (pa_cons (pv 1) pa_nil)))
      (pss_cons (ps_if (PW.pt (pw_or (pt_cmpR (op_eqD hr.units) (pv 4) (pe_lstU pa_nil) (nomark _)) (pw_or (pt_cmpR op_ge (pe_callB call_abs (by rfl) T.n_abs (by decide +kernel) (pa_cons (pe_ix ix_tup (pv 3) pe_int (fun _ _ => rfl)) pa_nil)) (pe_op op_pow pe_int pe_int) (nomark _)) (pw_or1 (pt_cmpR op_ge (pe_ix ix_tup (pv 3) pe_int (fun _ _ => rfl)) (pe_op op_pow pe_int pe_int) (nomark _)))))) (pss_one (ps_ret pe_bl)) pss_nil)
      (pss_cons (ps_set (i := 5) sc__law_one_more.nd rfl (Or.inl rfl) (pe_callTy call_dictD (by rfl) T.n_dict (by decide +kernel) (pa_cons (pe_ix ix_list (pv 2) pe_int (fun _ _ => rfl)) pa_nil)))
      (pss_cons (ps_dput hu1 (pv 5) (pe_call G__law_of hr__law_of (by rfl) T.m__law_of T.F__law_of.kp T.B__law_of .nil pass0 (pa_cons (pv 0) (pa_cons (pv 4) pa_nil))) (pv 3) rfl)
      (pss_one (ps_ret (pe_call G__law_so hr__law_so (by rfl) T.m__law_so T.F__law_so.kp T.B__law_so .nil pass0 (pa_cons (pv 1) (pa_cons (pv 5) (pa_cons pe_int pa_nil))))))))))), ?_⟩
    refine seq_op fun N hN => ?_
    walk_at "rs"
    refine ⟨_, .inl (.inl hp), .ref d1, at_ofN (j := 0) rfl rfl, a, d1, ws, kvs1, tab1, rfl, ha, hw, hl, hwalk, D1, hok1, fun _ t H1 f s1 hst hf ht => hN _ _ ?_, fun z l e => by rw [hlk] at e; cases e⟩
    clear hN N
    refine seq_op fun N hN => ?_
    walk_at "rs"
    refine ⟨ws, Same.seqT s1 ha, hw, hl, fun n H2 s2 h02 h2 => hN _ _ ?_⟩
    clear hN N
    have S2 := Same.trans s1 s2
    have ht2 := Same.seqT s2 ht
    refine seq_op fun N hN => ?_
    walk_at "rs"
    have nsub : ∀ z ∈ namesOf ws, z ∈ allW ∧ nm z = true := fun z hz => ⟨hw z (mem_names.mp hz).1, (mem_names.mp hz).2⟩
    have p18 : (0 : Int) ≤ 18 ∧ (18 : Int) ≤ 1000000 ∧ Int.natAbs 10 < 2 ^ 64 := by decide
    refine ⟨by decide, fun q3 H3 s3 h03 h3 => ⟨.list ((namesOf ws).map PyData.str), .list [], .lst (.inl (.inl (s3 _ _ h2))) (strs_dpa _), .lst (.inl (.inl h3)) .nil, strs_shaped fun z hz => (w_len z (nsub z hz).1).2.2, by decide, ?_⟩⟩
    have S3 := Same.trans S2 s3
    have done : Q (.bl true) H3 := k H3 (KN.same S3) (B.same S3) (Tabs.same tb S3)
    refine ⟨_, rfl, ite2 (fun _ => done) (fun ne => ?_)⟩
    have ht3 := Same.seqT s3 ht2
    refine ⟨_, ht3, _, at_ofN (j := 0) rfl rfl, _, rfl, p18, ite2 (fun _ => done) (fun c1 => ⟨_, ht3, _, at_ofN (j := 1) rfl rfl, p18, _, rfl, ite2 (fun _ => done) (fun c2 => hN _ _ ?_)⟩)⟩
    clear hN N
    have nn : namesOf ws ≠ [] := fun e => ne (by rw [e]; rfl)
    have okf : okB 64 f := by
      refine ⟨hf.1, hf.2.1, ?_, ?_⟩
      · split at c1 <;> omega
      · have := hf.1; omega
    have B3 := B.same S3
    have hn3 := s3 _ _ h2
    have hp3 := S3 _ _ hp
    have D23 := D2.same S3
    have ha3 := Same.seqT S3 ha
    have tb3 := Tabs.same tb S3
    have n2 : n ≠ b := new_ne (B.same s1) h02
    refine seq_op fun N hN => ?_
    walk_at "rs"
    refine ⟨_, .inl (.inl hp3), .ref d2, at_ofN (j := 1) rfl rfl, d2, rfl, kvs2, .inl D23.at_, fun g hg => hN _ _ ?_⟩
    clear hN N
    have sg := same_upd (o := .dK kvs2) hg
    have D4 : DT K (upd H3 g (.dK kvs2)) g kvs2 tab2 := ⟨upd_same, D23.len, (D23.same sg).ents, (D23.same sg).tab⟩
    have B4 := B3.same sg
    have ha4 := Same.seqT sg ha3
    have ht4 := Same.seqT sg ht3
    have tb4 := Tabs.same tb3 sg
    have hn4 := sg _ _ hn3
    have S4 := Same.trans S3 sg
    have g0 : H g = none := Same.dom S3 g hg
    generalize upd H3 g (.dK kvs2) = H4 at *
    refine seq_op fun N hN => ?_
    walk_at "rs"
    unfold sDPut
    walk_at "rs"
    have ln := len_names ws
    refine of_lst B4 hn4 n2 (by simpa using nn) (by rw [List.length_map]; omega) fun y H5 hy B5 K5 => ?_
    obtain ⟨z, hz, rfl⟩ := List.mem_map.mp hy
    have D5 := D4.kp B4 K5
    have ht5 := seqT_kp B4 K5 ht4
    have ha5 := seqT_kp B4 K5 ha4
    have tb5 := Tabs.kp B4 tb4 K5
    refine ⟨_, DPut.k (k := .inr z) D5.at_ (Nat.lt_of_le_of_lt (show kvs2.length ≤ 10 by omega) (by decide)), hN _ _ ?_⟩
    clear hN N
    have D6 := D5.put (z := z) (by omega) okf ht5
    have ha6 := seqT_updD (o := .dK (putK kvs2 (.inr z) (.ref t))) D5.at_ ha5
    have tb6 := Tabs.updD (o := .dK (putK kvs2 (.inr z) (.ref t))) D5.at_ tb5
    have B6 := B5.upd (o := .dK (putK kvs2 (.inr z) (.ref t))) (B.ne2 g0).1 (B.ne2 g0).2
    have K6 : Kp b H (upd H5 g (.dK (putK kvs2 (.inr z) (.ref t)))) := Kp.upd2 (Same.trans (Kp.of S4) K5) g0
    generalize upd H5 g (.dK (putK kvs2 (.inr z) (.ref t))) = H6 at *
    obtain ⟨z1, z2⟩ := nsub z hz
    walk_at "rs"
    refine ⟨a, g, ws, _, putF tab2 z f, 0, rfl, ha6, hw, hl, hwalk, D6, fun y h e => ?_, fun y hy n => ?_, fun y e => ?_, tb6, fun H7 e7 tb7 => k H7 (KN.trans (KN.kp K6) (KN.ext e7)) (B6.ext e7) tb7⟩
    · unfold putF at e
      split at e
      · cases e; exact okf
      · exact hok2 y h e
    · unfold putF
      rw [if_neg (fun e => by rw [e, z2] at n; cases n)]
      exact hno y hy n
    · unfold putF at e
      split at e
      · rename_i q; rw [q]; exact (w_len z z1).2.2
      · exact hlay y e
end
end LK

set_option Elab.async false
set_option linter.all false
set_option maxRecDepth 100000
namespace LK
open PySem PySem.Spec PyProof.Rows L2
local macro_rules | `(tactic| walk_at "rs") => `(tactic| simp only [cxK, cxNK, tCallZ, tAsg, tOp, rI0, rS0, rB0, rI, rU, tUn, rEq, rNe, rIxL, rIxT, rIxS, rSetL, rSlLU, rSlS, rSlU, rCatL, rCatU, rRepL, rIn, tVar, tC, gName, gSub, tIfS, tTest, tB, tAnd, tOr, tNot, tNotV, tAndV, tOrV, tIf, tCall, tCons, tNil, tCB, tDrop, tRet, tRetN, tNext, tLstU, tTupU, tM0, tM1, tPar, tPar3, tAug, ipI, tBM, tBM0, rAppend, rPop, tBreak, tCont, tChain, tSl, tPart, tNoPart, L2.start, List.map, List.length_cons, List.length_nil, List.replicate, List.cons_append, List.nil_append, List.append_nil, List.getElem?_cons_zero, List.getElem?_cons_succ, List.set_cons_zero, List.set_cons_succ, Option.some.injEq, V.int.injEq, V.ref.injEq, V.str.injEq, V.bl.injEq, exists_eq_left', exists_eq_left, exists_and_left, decide_eq_true_eq, List.cons.injEq, and_true, true_and, scal, Bool.not_eq_true', decide_eq_false_iff_not, Nat.zero_add, Nat.reduceAdd, Nat.reduceSub, reduceCtorEq, false_and, exists_false, false_or, or_false, CPow, CMul, CDiv, Int.reduceToNat, ↓reduceIte, wipe, sw, List.nil_append, List.singleton_append])
local macro_rules | `(tactic| walk_at "st") => `(tactic| (refine seq_op fun N hN => ?_; walk_at "rs"))
local macro_rules | `(tactic| walk_at "sd") => `(tactic| first | assumption | decide | omega)
local macro_rules | `(tactic| walk_at "rd") => `(tactic| repeat (first
  | refine ⟨_, SqL.of (by assumption), ?_⟩ | refine ⟨_, SqL.of upd_same, ?_⟩ | refine ⟨_, .inl (SqL.of (by assumption)), ?_⟩ | refine ⟨_, (by assumption : _ = some (HO.lst _)), ?_⟩ | refine ⟨_, upd_same, ?_⟩
  | refine ⟨_, rfl, ?_⟩ | refine And.intro (by walk_at "sd") ?_))

open LamX (Tabs TabS ExtN GivesTo pe_lamcall TabB lamS_by tLam CodeO LamS lamCx lamEnv)
open TL
def sp_law (K : PySem.W.Frag) (TL : List (Addr × Str)) : Sp := fun vs H Q _ => ∃ (a : Addr) (ns : List Int), vs = [.ref a] ∧ SqL K H a (ns.map V.int) ∧ ns.length ≤ 63 ∧ Tabs TL H ∧ ∀ H', Q (.bl true) H'
theorem sl_listUK {X : Cx} {K : PySem.W.Frag} (hK : X.K = K) : SlR X (rSlLU K) := by subst hK; exact sl_listU
theorem okAll_strs : ∀ {ws : List Str}, (∀ z ∈ ws, z ∈ allW) → okAll (ws.map PyData.str) = true
  | [], _ => rfl
  | z :: r, h => by
    show (okD (.str z) && okAll (r.map PyData.str)) = true
    rw [okAll_strs fun y hy => h y (List.mem_cons_of_mem _ hy), Bool.and_true]
    exact decide_eq_true (Nat.le_trans (w_len z (h z List.mem_cons_self)).1 (by decide))
theorem dep_strs : ∀ ws : List Str, depAll (ws.map PyData.str) = 0
  | [] => rfl
  | z :: r => by
    show max 0 (depAll (r.map PyData.str)) = 0
    rw [dep_strs r]; rfl
theorem walk_nots {r : List PyData} : ∀ n : Nat, walkL [101] ((List.replicate n ("not" : Str)).map PyData.str ++ r) = walkL [101] r
  | 0 => rfl
  | n + 1 => by
    rw [List.replicate_succ, List.map_cons, List.cons_append]
    have e : opsL (.str "not") 101 = some [101] := by decide +kernel
    simp only [walkL, e]
    exact walk_nots n
theorem expr_ok {ws : List Str} (hl : ws.length ≤ 30) (h : walkL [101] (ws.map PyData.str) = true) : isExpr (.tuple (ws.map PyData.str)) = true := by
  have h1 : 1 ≤ ws.length := by
    cases ws with
    | nil => cases h
    | cons a r => simp
  rw [isExpr_tup, walkE_L, List.length_map, decide_eq_true h1, decide_eq_true hl]
  exact h
/-- words that make an expression, at q -/
structure Wds (K : PySem.W.Frag) (H : Hp) (q : Addr) (parts ws : List Str) : Prop where
  at_ : SqT K H q (ws.map V.str)
  wd : ∀ z ∈ ws, z ∈ allW ∧ (nm z = true → z ∈ parts)
  ln : ws.length ≤ 30
  wk : walkL [101] (ws.map PyData.str) = true
structure TabP (parts : List Str) (tab : Str → Option Fr) : Prop where
  has : ∀ z, z ∈ parts → (tab z).isSome = true
  only : ∀ z, (tab z).isSome = true → z ∈ parts ∨ z = "q"
  ok : ∀ z f, tab z = some f → okB 64 f
def Tb (K : PySem.W.Frag) (G : Hp) (parts : List Str) (v : V) : Prop := ∃ (d : Addr) (kvs : List (Key × V)) (tab : Str → Option Fr), v = .ref d ∧ DT K G d kvs tab ∧ TabP parts tab ∧ kvs.length ≤ 4
theorem Tb.kp {K : PySem.W.Frag} {G G' : Hp} {b c : Addr} {parts : List Str} {v : V} (B : Bag G b c) (k : Kp b G G') (h : Tb K G parts v) : Tb K G' parts v := by
  obtain ⟨d, kvs, tab, h1, h2, h3⟩ := h
  exact ⟨d, kvs, tab, h1, h2.kp B k, h3⟩
theorem Tb.updL {K : PySem.W.Frag} {G : Hp} {parts : List Str} {v : V} {p : Addr} {o : HO} (hp : ∃ ys, G p = some (.lst ys)) (h : Tb K G parts v) : Tb K (L2.upd G p o) parts v := by
  obtain ⟨d, kvs, tab, h1, h2, h3⟩ := h
  exact ⟨d, kvs, tab, h1, h2.upd hp, h3⟩
theorem Tb.ext {K : PySem.W.Frag} {G G' : Hp} {parts : List Str} {v : V} (k : ExtN G G') (h : Tb K G parts v) : Tb K G' parts v := by
  obtain ⟨d, kvs, tab, h1, h2, h3⟩ := h
  exact ⟨d, kvs, tab, h1, h2.ext k, h3⟩
theorem DT.kn {K : PySem.W.Frag} {H H' : Hp} {b c d : Addr} {kvs : List (Key × V)} {tab : Str → Option Fr} (B : Bag H b c) (s : KN b H H') (D : DT K H d kvs tab) : DT K H' d kvs tab where
  at_ := s _ _ (dk_ne B D.at_) D.at_ fun _ z => by cases z
  len := D.len
  ents := fun p hp => by
    obtain ⟨z, a, f, h1, h2, h3⟩ := D.ents p hp
    exact ⟨z, a, f, h1, h2, KN.seqT B s h3⟩
  tab := fun z => by
    have := D.tab z
    revert this
    cases valV kvs (.inr z) with
    | none => cases tab z with
      | none => exact fun h => h
      | some f => exact fun h => h
    | some v => cases tab z with
      | none => exact fun h => h
      | some f => exact fun ⟨a, h1, h2⟩ => ⟨a, h1, KN.seqT B s h2⟩
structure Sit (K : PySem.W.Frag) (TL : List (Addr × Str)) (b c p : Addr) (parts : List Str) (q : Addr) (ws : List Str) (D : Addr) (ys : List V) (G : Hp) : Prop where
  bag : Bag G b c
  tabs : Tabs TL G
  hp : G p = some (.lst (parts.map V.str))
  wds : Wds K G q parts ws
  hD : G D = some (.lst ys)
  tb : ∀ v ∈ ys, Tb K G parts v
  np : p ≠ b
  nD : D ≠ b
theorem Sit.kn {K : PySem.W.Frag} {TL : List (Addr × Str)} {b c p : Addr} {parts : List Str} {q : Addr} {ws : List Str} {D : Addr} {ys : List V} {G G' : Hp} (S : Sit K TL b c p parts q ws D ys G) (s : KN b G G') (B : Bag G' b c) (t : Tabs TL G') : Sit K TL b c p parts q ws D ys G' where
  bag := B
  tabs := t
  hp := s.list S.np S.hp
  wds := ⟨KN.seqT S.bag s S.wds.at_, S.wds.wd, S.wds.ln, S.wds.wk⟩
  hD := s.list S.nD S.hD
  tb := fun v hv => by
    obtain ⟨d, kvs, tab, h1, h2, h3⟩ := S.tb v hv
    exact ⟨d, kvs, tab, h1, h2.kn S.bag s, h3⟩
  np := S.np
  nD := S.nD
theorem Sit.same {K : PySem.W.Frag} {TL : List (Addr × Str)} {b c p : Addr} {parts : List Str} {q : Addr} {ws : List Str} {D : Addr} {ys : List V} {G G' : Hp} (S : Sit K TL b c p parts q ws D ys G) (s : Same G G') : Sit K TL b c p parts q ws D ys G' := S.kn (KN.same s) (S.bag.same s) (Tabs.same S.tabs s)
theorem Sit.kp {K : PySem.W.Frag} {TL : List (Addr × Str)} {b c p : Addr} {parts : List Str} {q : Addr} {ws : List Str} {D : Addr} {ys : List V} {G G' : Hp} (S : Sit K TL b c p parts q ws D ys G) (s : Kp b G G') (B : Bag G' b c) : Sit K TL b c p parts q ws D ys G' := S.kn (KN.kp s) B (Tabs.kp S.bag S.tabs s)
theorem Sit.ext {K : PySem.W.Frag} {TL : List (Addr × Str)} {b c p : Addr} {parts : List Str} {q : Addr} {ws : List Str} {D : Addr} {ys : List V} {G G' : Hp} (S : Sit K TL b c p parts q ws D ys G) (s : ExtN G G') (t : Tabs TL G') : Sit K TL b c p parts q ws D ys G' := S.kn (KN.ext s) (S.bag.ext s) t
theorem KN.updN {b g : Addr} {H H' : Hp} {o : HO} (k : KN b H H') (h : H g = none) : KN b H (L2.upd H' g o) := fun a u n e t => by
  rw [upd_ne (ne_of_none e h)]
  exact k a u n e t
theorem valV_dropK (k j : Key) : ∀ kvs : List (Key × V), valV (dropK kvs k) j = if j = k then none else valV kvs j
  | [] => by split <;> rfl
  | p :: r => by
    have ih := valV_dropK k j r
    unfold dropK at ih ⊢
    by_cases e : p.1 = k
    · rw [List.filter_cons_of_neg (by simp [e]), ih]
      by_cases ej : j = k
      · rw [if_pos ej, if_pos ej]
      · rw [if_neg ej, if_neg ej, valV_neg (fun q => ej (by rw [← q, e]))]
    · rw [List.filter_cons_of_pos (by simp [e])]
      by_cases ep : p.1 = j
      · rw [valV_pos ep, if_neg (fun q => e (by rw [ep, q])), valV_pos ep]
      · rw [valV_neg ep, valV_neg ep, ih]
def dropF (tab : Str → Option Fr) (z : Str) : Str → Option Fr := fun y => if y = z then none else tab y
theorem DT.drop {K : PySem.W.Frag} {H : Hp} {d : Addr} {kvs : List (Key × V)} {tab : Str → Option Fr} (D : DT K H d kvs tab) (z : Str) : DT K (L2.upd H d (.dK (dropK kvs (.inr z)))) d (dropK kvs (.inr z)) (dropF tab z) where
  at_ := upd_same
  len := Nat.le_trans (dropK_le _ _) D.len
  ents := fun p hp => by
    obtain ⟨y, a, f, h1, h2, h3⟩ := D.ents p (List.mem_filter.mp hp).1
    exact ⟨y, a, f, h1, h2, seqT_updD D.at_ h3⟩
  tab := fun y => by
    rw [valV_dropK]
    unfold dropF
    by_cases e : y = z
    · rw [if_pos (by rw [e]), if_pos e]; trivial
    · rw [if_neg (fun q => e (by cases q; rfl)), if_neg e]
      exact (D.tab y).updD D.at_
theorem nm_q : ("q" : Str) ∉ allW ∧ PyData.canLay0 (.str ("q" : Str)) = true := by decide +kernel
theorem tab_no {parts : List Str} {tab : Str → Option Fr} (h : ∀ z, (tab z).isSome = true → z ∈ parts ∨ z = "q") (hp : ∀ z ∈ parts, z ∈ names11) : ∀ z ∈ allW, nm z = false → tab z = none := fun z hz n => by
  cases e : tab z with
  | none => rfl
  | some f =>
    rcases h z (by rw [e]; rfl) with q | q
    · have := (f_nm z (hp z q)).2.1
      rw [n] at this; cases this
    · rw [q] at hz; exact absurd hz nm_q.1
theorem tab_lay {parts : List Str} {tab : Str → Option Fr} (h : ∀ z, (tab z).isSome = true → z ∈ parts ∨ z = "q") (hp : ∀ z ∈ parts, z ∈ names11) : ∀ z, (tab z).isSome = true → PyData.canLay0 (.str z) = true := fun z hz => by
  rcases h z hz with q | q
  · exact (w_len z (f_nm z (hp z q)).1).2.2
  · rw [q]; exact nm_q.2
section
variable {P : Program} {w : World} {K : PySem.W.Frag} {mg : Str → Option Value} {base : Heap}
theorem ok_law (T : Txt w K mg) (hB : ∀ p ∈ T.cs, TabB base mg p.1 p.2) : FnOk P w K mg base CX0 13 T.a_law T.d_law ["script"] (sp_law K T.TL) := by
  refine T.F_law.ok sc_law (fun vs H Q E h => ?_) (fun cdv A outer s H vs Q E hr h => ?_)
  · obtain ⟨a, ns, rfl, _⟩ := h
    rfl
  · obtain ⟨a, ns, rfl, hS, hn, tb, k⟩ := h
    have hr__law_bag : Room 1 _ := hr.mono (by decide)
    have G__law_bag := ok__law_bag (P := P) (base := base) T
    have hr__law_draw : Room 1 _ := hr.mono (by decide)
    have G__law_draw := ok__law_draw (P := P) (base := base) T
    have hr__law_of : Room 2 _ := hr.mono (by decide)
    have G__law_of := ok__law_of (P := P) (base := base) T
    have hr__law_names : Room 3 _ := hr.mono (by decide)
    have G__law_names := ok__law_names (P := P) (base := base) T
    have hr__law_prefix : Room 3 _ := hr.mono (by decide)
    have G__law_prefix := ok__law_prefix (P := P) (base := base) T
    have hr_is_expression : Room 5 _ := hr.mono (by decide)
    have G_is_expression := ok_is_expression (P := P) (base := base) T
    have hr_names_in : Room 4 _ := hr.mono (by decide)
    have G_names_in := ok_names_in (P := P) (base := base) T
    have hr__law_named : Room 2 _ := hr.mono (by decide)
    have G__law_named := ok__law_named (P := P) (base := base) T
    have hr__law_like : Room 3 _ := hr.mono (by decide)
    have G__law_like := ok__law_like (P := P) (base := base) T 2
    have hr__law_table : Room 4 _ := hr.mono (by decide)
    have G__law_table := ok__law_table (P := P) (base := base) T
    have hr__law_so : Room 11 _ := hr.mono (by decide)
    have G__law_so := ok__law_so (P := P) T hB
    have hr__law_one_more : Room 12 _ := hr
    have G__law_one_more := ok__law_one_more (P := P) T hB
    have hu1 : (A.deeper (envOfC "law" (defScope s_law) s.heap.objs.size T.a_law cdv)).units + 1 < cLine := Nat.lt_of_le_of_lt (Nat.add_le_add_left (by decide : 1 ≤ 64) _) hr.units
    refine ⟨_, (pss_cons (ps_set (i := 1) sc_law.nd rfl (Or.inr rfl) (pe_call G__law_bag hr__law_bag (by rfl) T.m__law_bag T.F__law_bag.kp T.B__law_bag .nil pass0 (pa_cons (pv 0) pa_nil)))
      (pss_cons (ps_for PassesOwn.never rfl (pi_range1 (by rfl) T.n_range (pa_cons pe_int pa_nil)) (pg_name (i := 2) sc_law.nd rfl (Or.inl rfl)) (pss_cons (ps_set (i := 3) sc_law.nd rfl (Or.inr rfl) (pe_call G__law_names hr__law_names (by rfl) T.m__law_names T.F__law_names.kp T.B__law_names .nil pass0 (pa_cons (pv 1) pa_nil)))
      (pss_cons (ps_set (i := 4) sc_law.nd rfl (Or.inl rfl) (pe_call G__law_prefix hr__law_prefix (by rfl) T.m__law_prefix T.F__law_prefix.kp T.B__law_prefix .nil pass0 (pa_cons (pv 1) (pa_cons (pv 3) (pa_cons (pe_call G__law_of hr__law_of (by rfl) T.m__law_of T.F__law_of.kp T.B__law_of .nil pass0 (pa_cons (pv 1) (pa_cons (pe_lstU (pa_cons pe_int (pa_cons pe_int (pa_cons pe_int (pa_cons pe_int (pa_cons pe_int (pa_cons pe_int (pa_cons pe_int (pa_cons pe_int (pa_cons (pe_op op_add pe_int (pe_call G__law_draw hr__law_draw (by rfl) T.m__law_draw T.F__law_draw.kp T.B__law_draw .nil pass0 (pa_cons (pv 1) (pa_cons pe_int pa_nil)))) pa_nil)))))))))) pa_nil))) pa_nil)))))
      (pss_cons (ps_if (pt_cmpR op_eqI (pv 2) pe_int (nomark _)) (pss_one (ps_set (i := 4) sc_law.nd rfl (Or.inl rfl) (pe_op op_catU (pe_callTy call_tupleN (by rfl) T.n_tuple (by decide +kernel) (pa_cons (pe_op op_repL (pe_lstU (pa_cons pe_str pa_nil)) pe_int) pa_nil)) (pe_tupU (pa_cons (pe_call G__law_of hr__law_of (by rfl) T.m__law_of T.F__law_of.kp T.B__law_of .nil pass0 (pa_cons (pv 1) (pa_cons (pe_op op_catL (pv 3) (pe_lstU (pa_cons pe_str (pa_cons pe_str pa_nil)))) pa_nil))) pa_nil))))) pss_nil)
      (pss_cons (ps_if (PW.pt (pw_or (pt_cmpR op_isnot_bl (pe_call G_is_expression hr_is_expression (by rfl) T.m_is_expression T.F_is_expression.kp T.B_is_expression .nil pass0 (pa_cons (pv 4) pa_nil)) pe_bl (nomark _)) (pw_or1 (pt_cmpR op_isnot_bl (pe_callZ (g := fun ws => ws) (gV := fun zs => zs) G_is_expression hr_is_expression (by rfl) T.m_is_expression T.F_is_expression.kp T.Z_is_expression pass0 (pk_cons (pv 4) pk_nil)) pe_bl (nomark _))))) (pss_one (ps_ret pe_bl)) pss_nil)
      (pss_cons (ps_set (i := 5) sc_law.nd rfl (Or.inl rfl) (pe_ifExp (pt_cmpR op_eqI (pe_call G__law_draw hr__law_draw (by rfl) T.m__law_draw T.F__law_draw.kp T.B__law_draw .nil pass0 (pa_cons (pv 1) (pa_cons pe_int pa_nil))) pe_int (nomark _)) (pe_call G_names_in hr_names_in (by rfl) T.m_names_in T.F_names_in.kp T.B_names_in .nil pass0 (pa_cons (pv 4) pa_nil)) (pe_callZ (g := fun ws => ws) (gV := fun zs => zs) G_names_in hr_names_in (by rfl) T.m_names_in T.F_names_in.kp T.Z_names_in pass0 (pk_cons (pv 4) pk_nil))))
      (pss_cons (ps_if (pt_not (pt_val (pe_call G__law_like hr__law_like (by rfl) T.m__law_like T.F__law_like.kp T.B__law_like .nil pass0 (pa_cons (pv 5) (pa_cons (pe_callTy call_tupleN (by rfl) T.n_tuple (by decide +kernel) (pa_cons (pe_call G__law_named hr__law_named (by rfl) T.m__law_named T.F__law_named.kp T.B__law_named .nil pass0 (pa_cons (pv 4) pa_nil)) pa_nil)) pa_nil))))) (pss_one (ps_ret pe_bl)) pss_nil)
      (pss_cons (ps_setLc (i := 6) (own := [("k", 7)]) (g := gName 7) (tt := tYes) rfl sc_law.nd rfl rfl (sw_true rfl rfl rfl (by decide +kernel)) (pi_range1 (by rfl) T.n_range (pa_cons pe_int pa_nil)) (blkOk_by (own := [("k", 7)]) (N := N_law) (sc := defScope s_law) (by decide +kernel)) (fun _ _ _ _ _ => pg_name (i := 7) sc_law.nd rfl (Or.inl rfl)) (fun _ _ _ _ _ => pts_nil) (fun _ _ _ _ _ => (pe_call G__law_table hr__law_table (by rfl) T.m__law_table T.F__law_table.kp T.B__law_table .nil pass0 (pa_cons (pv 1) (pa_cons (pv 3) (pa_cons (pe_slice (sl_listUK (K := K) rfl) (pe_lstU (pa_cons pe_str pa_nil)) po_none (po_some (pe_call G__law_draw hr__law_draw (by rfl) T.m__law_draw T.F__law_draw.kp T.B__law_draw .nil pass0 (pa_cons (pv 1) (pa_cons pe_int pa_nil))))) pa_nil))))))
      (pss_cons (ps_for PassesOwn.never rfl (pi_tup (pe_tupU (pa_cons pe_int (pa_cons pe_int (pa_cons pe_int pa_nil))))) (pg_name (i := 7) sc_law.nd rfl (Or.inl rfl)) (pss_one (ps_if (pt_not (pt_val (pe_call G__law_so hr__law_so (by rfl) T.m__law_so T.F__law_so.kp T.B__law_so .nil pass0 (pa_cons (pv 4) (pa_cons (pe_ix ix_list (pv 6) (pv 7) (fun _ _ => rfl)) (pa_cons (pv 7) pa_nil)))))) (pss_one (ps_ret pe_bl)) pss_nil)))
      (pss_cons (ps_set (i := 8) sc_law.nd rfl (Or.inl rfl) (pe_callTy call_dictD (by rfl) T.n_dict (by decide +kernel) (pa_cons (pe_ix ix_list (pv 6) pe_int (fun _ _ => rfl)) pa_nil)))
      (pss_cons (ps_for PassesOwn.never rfl (pi_list (pv 3)) (pg_name (i := 9) sc_law.nd rfl (Or.inl rfl)) (pss_one (ps_if (pt_cmpR op_eqI (pe_call G__law_draw hr__law_draw (by rfl) T.m__law_draw T.F__law_draw.kp T.B__law_draw .nil pass0 (pa_cons (pv 1) (pa_cons pe_int pa_nil))) pe_int (nomark _)) (pss_one (ps_expr (pe_dpop1 (pv 8) (pv 9) ⟨rfl, rfl, rfl, rfl⟩))) pss_nil)))
      (pss_one (ps_if (PW.pt (pw_or (pt_not (pt_val (pe_call G__law_so hr__law_so (by rfl) T.m__law_so T.F__law_so.kp T.B__law_so .nil pass0 (pa_cons (pv 4) (pa_cons (pv 8) (pa_cons pe_int pa_nil)))))) (pw_or (pt_not (pt_val (pe_call G__law_so hr__law_so (by rfl) T.m__law_so T.F__law_so.kp T.B__law_so .nil pass0 (pa_cons (pv 4) (pa_cons pe_dnewK (pa_cons pe_int pa_nil)))))) (pw_or1 (pt_not (pt_val (pe_call G__law_one_more hr__law_one_more (by rfl) T.m__law_one_more T.F__law_one_more.kp T.B__law_one_more .nil pass0 (pa_cons (pv 1) (pa_cons (pv 4) (pa_cons (pv 6) pa_nil)))))))))) (pss_one (ps_ret pe_bl)) pss_nil)))))))))))))
      (pss_one (ps_ret pe_bl)))), ?_⟩
    refine seq_op fun N hN => ?_
    walk_at "rs"
    refine ⟨a, ns, rfl, hS, hn, fun b c H1 s1 B _ => hN _ _ ?_⟩
    clear hN N
    have tb1 := Tabs.same tb s1
    refine cut_seq (fun σ H2 => True) (fun N hN => ?_) (fun σ H2 _ => by walk_at "rs"; exact k H2)
    refine ⟨7, rfl, by decide, by decide, for_range (lo := 0) (n := (7 : Int).toNat) (fun i σ H2 => ∃ (x2 x3 x4 x5 x6 x7 x8 x9 : Option V), σ = [some (.ref a), some (.ref b), x2, x3, x4, x5, x6, x7, x8, x9] ∧ Bag H2 b c ∧ Tabs T.TL H2) ⟨_, _, _, _, _, _, _, _, rfl, B, tb1⟩ ?_ (fun σ H2 _ => hN _ _ trivial)⟩
    rintro i σ H2 hi ⟨x2, x3, x4, x5, x6, x7, x8, x9, rfl, B2, tb2⟩
    walk_at "rs"
    refine seq_op fun N2 hN2 => ?_
    walk_at "rs"
    refine ⟨b, c, rfl, B2, fun p parts H3 hps hnd hne hpl h03 hp B3 K3 => hN2 _ _ ?_⟩
    clear hN2 N2
    have npb : p ≠ b := new_ne B2 h03
    have tb3 := Tabs.kp B2 tb2 K3
    refine cut_seq (fun σ H5 => ∃ (q : Addr) (ws : List Str), σ = [some (.ref a), some (.ref b), some (.int (0 + (i : Int))), some (.ref p), some (.ref q), x5, x6, x7, x8, x9] ∧ Bag H5 b c ∧ Tabs T.TL H5 ∧ H5 p = some (.lst (parts.map V.str)) ∧ Wds K H5 q parts ws) (fun N2 hN2 => ?_) ?_
    · walk_at "rs"
      refine ⟨b, c, 29, rfl, B3, by decide, by decide, fun r H4 r0 r1 B4 K4 => ⟨r, rfl, by decide, fun l5 H5 s5 h05 h5 => of_lst (B4.same s5) h5 (new_ne B4 h05) (by simp) (show 9 ≤ 1000000 by decide) fun y H6 hy B6 K6 => ?_⟩⟩
      obtain ⟨n, rfl, n1, n30⟩ : ∃ n : Int, y = .int n ∧ 1 ≤ n ∧ n ≤ 30 := by
        simp only [List.mem_cons, List.mem_nil_iff, or_false] at hy
        rcases hy with rfl | rfl | rfl | rfl | rfl | rfl | rfl | rfl | rfl <;> exact ⟨_, rfl, by omega, by omega⟩
      have K36 : Kp b H3 H6 := Same.trans K4 (Same.trans (Kp.of s5) K6)
      have hp6 := K36.hd hp npb
      refine ⟨b, c, p, parts, n, rfl, B6, by rw [hb_ne npb]; exact hp6, hps, by omega, n1, n30, fun q ws H7 B7 K7 h07 h7 hl hwd hwk => hN2 _ _ ⟨q, ws, rfl, B7, Tabs.kp B6 (Tabs.kp B3 tb3 K36) K7, K7.hd hp6 npb, ⟨.inl (.inl h7), hwd, hl, hwk⟩⟩⟩
    rintro σ H5 ⟨q, ws, rfl, B5, tb5, hp5, W5⟩
    clear tb3 K3 hp h03 B3 tb2 B2
    refine cut_seq (fun σ H6 => ∃ (q : Addr) (ws : List Str), σ = [some (.ref a), some (.ref b), some (.int (0 + (i : Int))), some (.ref p), some (.ref q), x5, x6, x7, x8, x9] ∧ Bag H6 b c ∧ Tabs T.TL H6 ∧ H6 p = some (.lst (parts.map V.str)) ∧ Wds K H6 q parts ws) (fun N2 hN2 => ?_) ?_
    · walk_at "rs"
      refine ite2 (fun _ => ?_) (fun _ => hN2 _ _ ⟨q, ws, rfl, B5, tb5, hp5, W5⟩)
      refine ⟨by decide, fun p1 H6 s6 h06 h6 => ⟨_, h6, by decide, by decide, by decide, fun p2 H7 s7 h07 h7 => ⟨_, .inl (.inl h7), fun q1 H8 s8 h08 h8 => ⟨by decide, fun p3 H9 s9 h09 h9 => ⟨_, s9 _ _ (s8 _ _ (s7 _ _ (s6 _ _ hp5))), _, h9, ?_, fun p4 H10 s10 h010 h10 => ?_⟩⟩⟩⟩⟩
      · rw [List.length_map]; exact Nat.le_trans (show parts.length + 2 ≤ 10 by omega) (by decide)
      have s510 := Same.trans s6 (Same.trans s7 (Same.trans s8 (Same.trans s9 s10)))
      have B10 := B5.same s510
      refine of_lst B10 h10 (new_ne (B5.same (Same.trans s6 (Same.trans s7 (Same.trans s8 s9)))) h010) (by simp) (by rw [List.length_append, List.length_map]; exact Nat.le_trans (Nat.add_le_add_right hpl _) (by decide)) fun y H11 hy B11 K11 => ⟨by decide, fun p5 H12 s12 h012 h12 => ?_⟩
      obtain ⟨z, rfl, z1, z2, z3⟩ : ∃ z, y = .str z ∧ z ∈ allW ∧ (nm z = true → z ∈ parts) ∧ opsL (.str z) 101 = some [] := by
        rcases List.mem_append.mp hy with hy | hy
        · obtain ⟨z, hz, rfl⟩ := List.mem_map.mp hy
          obtain ⟨g1, g2, g3⟩ := f_nm z (hps z hz)
          exact ⟨z, rfl, g1, fun _ => hz, g3⟩
        · have q : ∀ z ∈ (["0", "-9"] : List Str), z ∈ allW ∧ nm z = false ∧ opsL (.str z) 101 = some [] := by decide +kernel
          obtain ⟨z, hz, rfl⟩ := List.mem_map.mp (show y ∈ (["0", "-9"] : List Str).map V.str from hy)
          obtain ⟨g1, g2, g3⟩ := q z hz
          exact ⟨z, rfl, g1, (fun h => by rw [g2] at h; cases h), g3⟩
      have h8' := s9 _ _ h8
      have hq1 : SqT K H12 q1 ((List.replicate 29 ("not" : Str)).map V.str) := Same.seqT s12 (seqT_kp B10 K11 (Same.seqT s10 (.inl (.inl h8'))))
      refine ⟨_, hq1, _, .inl (.inl h12), (show 30 ≤ sizeLine by decide), fun q2 H13 s13 h13 => hN2 _ _ ⟨q2, List.replicate 29 ("not" : Str) ++ [z], rfl, (B11.same s12).same s13, ?_, ?_, ⟨?_, ?_, ?_, ?_⟩⟩⟩
      · exact Tabs.same (Tabs.same (Tabs.kp B10 (Tabs.same tb5 s510) K11) s12) s13
      · exact s13 _ _ (s12 _ _ (K11.hd (s510 _ _ hp5) npb))
      · rw [List.map_append]; exact h13
      · intro y hy
        rcases List.mem_append.mp hy with hy | hy
        · rw [List.eq_of_mem_replicate hy]
          exact ⟨f_one.1, fun h => by rw [f_one.2.1] at h; cases h⟩
        · obtain rfl : y = z := by simpa using hy
          exact ⟨z1, z2⟩
      · simp
      · rw [List.map_append, walk_nots]
        show walkL [101] [.str z] = true
        simp only [walkL, z3]
        rfl
    clear W5 B5 tb5 hp5 ws q H5
    rintro σ H5 ⟨q, ws, rfl, B5, tb5, hp5, W5⟩
    refine seq_op fun N2 hN2 => ?_
    walk_at "rs"
    have wA : ∀ z ∈ ws, z ∈ allW := fun z hz => (W5.wd z hz).1
    have ex := expr_ok W5.ln W5.wk
    have okw : okD (.tuple (ws.map PyData.str)) = true := okD_tup.mpr ⟨by rw [List.length_map]; exact Nat.le_trans W5.ln (by decide), okAll_strs wA⟩
    refine ⟨.ref q, _, rfl, .tup W5.at_ (strs_dpa ws), okw, fun H6 s6 => ⟨true, by rw [← ex], iteFF (by decide) ⟨.ref q, _, rfl, .tup (Same.seqT s6 W5.at_) (strs_dpa ws), okw, fun H7 s7 => ⟨true, by rw [← ex], iteFF (by decide) (hN2 _ _ ?_)⟩⟩⟩⟩
    clear hN2 N2
    have s67 := Same.trans s6 s7
    have B7 := B5.same s67
    have tb7 := Tabs.same tb5 s67
    have hp7 := s67 _ _ hp5
    have W7 : Wds K H7 q parts ws := ⟨Same.seqT s67 W5.at_, W5.wd, W5.ln, W5.wk⟩
    clear B5 tb5 hp5 W5 s67 s7 s6 okw ex
    refine seq_op fun N2 hN2 => ?_
    walk_at "rs"
    refine ⟨b, c, 2, rfl, B7, by decide, by decide, fun r H8 r0 r1 B8 K8 => ⟨r, rfl, ?_⟩⟩
    have W8 : Wds K H8 q parts ws := ⟨seqT_kp B7 K8 W7.at_, W7.wd, W7.ln, W7.wk⟩
    have tb8 := Tabs.kp B7 tb7 K8
    have hp8 := K8.hd hp7 npb
    have fin : sp_names_in K [V.ref q] H8 (fun x H1 => N2 [some (V.ref a), some (V.ref b), some (V.int (0 + ↑i)), some (V.ref p), some (V.ref q), some x, x6, x7, x8, x9] H1) E0 := by
      refine ⟨q, ws, rfl, W8.at_, wA, W8.ln, fun t H9 s9 h09 h9 => hN2 _ _ ?_⟩
      clear hN2 N2
      have B9 := B8.same s9
      have tb9 := Tabs.same tb8 s9
      have hp9 := s9 _ _ hp8
      have W9 : Wds K H9 q parts ws := ⟨Same.seqT s9 W8.at_, W8.wd, W8.ln, W8.wk⟩
      clear B7 tb7 hp7 W7 K8 B8 tb8 hp8 W8 s9 h09 r0 r1 H8 H7
      have okn : okD (.tuple ((namesOf ws).map PyData.str)) = true := okD_tup.mpr ⟨by rw [List.length_map]; exact Nat.le_trans (len_names ws) (Nat.le_trans W9.ln (by decide)), okAll_strs fun z hz => wA z (mem_names.mp hz).1⟩
      refine seq_op fun N2 hN2 => ?_
      walk_at "rs"
      have dn : dep (.tuple ((namesOf ws).map PyData.str)) ≤ 2 := by
        show depAll _ + 1 ≤ 2
        rw [dep_strs]; decide
      refine ⟨ws, W9.at_, wA, W9.ln, fun l1 H10 s10 h010 h10 => ⟨_, .inl (.inl h10), fun u H11 s11 h011 h11 => ⟨.ref t, .ref u, .tuple ((namesOf ws).map PyData.str), rfl, .tup (.inl (.inl (s11 _ _ (s10 _ _ h9)))) (strs_dpa _), .tup (.inl (.inl h11)) (strs_dpa _), okn, dn, fun H12 s12 => ⟨true, rfl, iteFF (by decide) (hN2 _ _ ?_)⟩⟩⟩⟩
      clear hN2 N2
      have S12 := Same.trans s10 (Same.trans s11 s12)
      have B12 := B9.same S12
      have tb12 := Tabs.same tb9 S12
      have hp12 := S12 _ _ hp9
      have W12 : Wds K H12 q parts ws := ⟨Same.seqT S12 W9.at_, W9.wd, W9.ln, W9.wk⟩
      clear B9 tb9 hp9 W9 S12 h9 okn dn s10 s11 s12 h10 h11 h010 h011 u l1 H11 H10
      refine seq_op fun N2 hN2 => ?_
      walk_at "rs"
      refine ⟨2, rfl, by decide, by decide, fun D hD => lc_rngI (n := (2 : Int).toNat) (fun i G ys => (∀ v ∈ ys, Tb K G parts v) ∧ Bag G b c ∧ Kp b H12 G) (by decide) ⟨fun v hv => absurd hv List.not_mem_nil, B12.upd (B12.ne2 hD).1 (B12.ne2 hD).2, Kp.upd2 (Same.refl _) hD⟩ (fun i2 G ys hi2 hG hl ⟨hv, BG, KG⟩ Q2 hQ2 => ?_) fun G ys hG hl ⟨hv, BG, KG⟩ => hN2 _ _ ?_⟩
      · walk_at "rs"
        refine ⟨by decide, fun p1 G1 s1 h01 h1 => ⟨b, c, 2, rfl, BG.same s1, by decide, by decide, fun r G2 r0 r1 B2' K2' => ⟨r, rfl, _, .inl (.inl (K2'.hd h1 (new_ne BG h01))), fun p2 G3 s3 h03 h3 => ?_⟩⟩⟩
        obtain ⟨k1, rfl⟩ : ∃ k1 : Nat, r = (k1 : Int) := ⟨r.toNat, by omega⟩
        have e3 : cutV [V.str "q"] none (some (k1 : Int)) = ((["q"] : List Str).take k1).map V.str := by rw [cutV_take, List.map_take]; rfl
        have h3' : G3 p2 = some (.lst (((["q"] : List Str).take k1).map V.str)) := by rw [h3]; exact congrArg (fun x => some (HO.lst x)) e3
        have B3 := B2'.same s3
        have K3 : Kp b G G3 := Same.trans (Kp.of s1) (Same.trans K2' (Kp.of s3))
        have hp3 := K3.hd (KG.hd hp12 npb) npb
        have l1 : ((["q"] : List Str).take k1).length ≤ 1 := by rw [List.length_take]; exact Nat.min_le_right _ _
        refine ⟨b, c, p, p2, parts, (["q"] : List Str).take k1, rfl, B3, hp3, npb, h3', new_ne B2' h03, hpl, l1, fun d kvs tab G4 D4 hs hok hl4 B4 K4 h04 => hQ2 (.ref d) G4 (K4.hd (K3.hd hG (B12.ne2 hD).1.symm) (B12.ne2 hD).1.symm) ⟨fun v hvm => ?_, B4.upd (B12.ne2 hD).1 (B12.ne2 hD).2, Kp.upd2 (Same.trans KG (Same.trans K3 K4)) hD⟩⟩
        have hG4 := K4.hd (K3.hd hG (B12.ne2 hD).1.symm) (B12.ne2 hD).1.symm
        rcases List.mem_append.mp hvm with hvm | hvm
        · exact ((((hv v hvm).kp BG K3).kp B3 K4)).updL ⟨_, hG4⟩
        · obtain rfl : v = .ref d := by simpa using hvm
          refine Tb.updL ⟨_, hG4⟩ ⟨d, kvs, tab, rfl, D4, ⟨fun z hz => ?_, fun z hz => ?_, hok⟩, hl4⟩
          · rw [hs]; exact decide_eq_true (List.mem_append_left _ hz)
          · rw [hs] at hz
            rcases List.mem_append.mp (of_decide_eq_true hz) with h | h
            · exact .inl h
            · exact .inr (by simpa using List.mem_of_mem_take h)
      clear hN2 N2
      have tbG := Tabs.kp B12 tb12 KG
      have hpG := KG.hd hp12 npb
      have WG : Wds K G q parts ws := ⟨seqT_kp B12 KG W12.at_, W12.wd, W12.ln, W12.wk⟩
      have nDb : D ≠ b := (B12.ne2 hD).1.symm
      have S0 : Sit K T.TL b c p parts q ws D ys G := ⟨BG, tbG, hpG, WG, hG, hv, npb, nDb⟩
      clear B12 tb12 hp12 W12 KG hD BG tbG hpG WG hG hv
      obtain ⟨v1, v2, rfl⟩ := lenA2 (show 2 = ys.length from hl.symm)
      have so_of : ∀ (v : V) (way : Int) (G' : Hp) (Q' : VK), Sit K T.TL b c p parts q ws D [v1, v2] G' → Tb K G' parts v → (∀ H', Sit K T.TL b c p parts q ws D [v1, v2] H' → ExtN G' H' → Q' (.bl true) H') → sp_so K T.TL [.ref q, v, .int way] G' Q' E0 := fun v way G' Q' S h kk => by
        obtain ⟨d, kvs, tab, rfl, h2, h3, h4⟩ := h
        exact ⟨q, d, ws, kvs, tab, way, rfl, S.wds.at_, wA, S.wds.ln, S.wds.wk, h2, h3.ok, tab_no h3.only hps, tab_lay h3.only hps, S.tabs, fun H' e t => kk H' (S.ext e t) e⟩
      refine cut_seq (fun σ G2 => ∃ x7, σ = [some (.ref a), some (.ref b), some (.int (0 + (i : Int))), some (.ref p), some (.ref q), some (.ref t), some (.ref D), x7, x8, x9] ∧ Sit K T.TL b c p parts q ws D [v1, v2] G2) (fun N2 hN2 => ?_) ?_
      · refine ⟨by decide, fun p1 H6 s6 h06 h6 => ⟨p1, rfl, ⟨_, .inl (.inl h6)⟩, for_tup (K := K) (a := p1) (xs := [.int 0, .int 1, .int 0]) (fun i2 σ G2 => ∃ x7, σ = [some (.ref a), some (.ref b), some (.int (0 + (i : Int))), some (.ref p), some (.ref q), some (.ref t), some (.ref D), x7, x8, x9] ∧ Sit K T.TL b c p parts q ws D [v1, v2] G2 ∧ G2 p1 = some (.tup [.int 0, .int 1, .int 0])) ⟨x7, rfl, S0.same s6, h6⟩ (fun i2 σ G2 _ ⟨_, _, _, h⟩ => .inl (.inl h)) ?_ ?_⟩⟩
        · rintro i2 y σ G2 hy ⟨x7, rfl, S2, h62⟩
          obtain ⟨w, v, rfl, hv, hvm⟩ : ∃ (w : Int) (v : V), y = .int w ∧ atI [v1, v2] w = some v ∧ v ∈ [v1, v2] := by
            have hm := List.mem_of_getElem? hy
            simp only [List.mem_cons, List.mem_nil_iff, or_false] at hm
            rcases hm with rfl | rfl | rfl
            · exact ⟨0, v1, rfl, at_ofN (j := 0) rfl rfl, List.mem_cons_self⟩
            · exact ⟨1, v2, rfl, at_ofN (j := 1) rfl rfl, List.mem_cons_of_mem _ List.mem_cons_self⟩
            · exact ⟨0, v1, rfl, at_ofN (j := 0) rfl rfl, List.mem_cons_self⟩
          walk_at "rs"
          refine ⟨_, .inl (.inl S2.hD), v, hv, so_of v w G2 _ S2 (S2.tb v hvm) fun H' S' e' => ?_⟩
          walk_at "rs"
          exact ⟨S', e' _ _ h62 fun _ z => by cases z⟩
        · rintro σ G2 ⟨x7, rfl, S2, _⟩
          exact hN2 _ _ ⟨x7, rfl, S2⟩
      rintro σ G2 ⟨x7, rfl, S2⟩
      clear S0
      refine seq_op fun N2 hN2 => ?_
      walk_at "rs"
      obtain ⟨d1, kvs1, tab1, rfl, D1, P1, l1⟩ := S2.tb v1 List.mem_cons_self
      obtain ⟨d2, kvs2, tab2, rfl, D2, P2, l2⟩ := S2.tb v2 (List.mem_cons_of_mem _ List.mem_cons_self)
      refine ⟨_, .inl (.inl S2.hD), .ref d1, at_ofN (j := 0) rfl rfl, d1, rfl, kvs1, .inl D1.at_, fun g hg => hN2 _ _ ?_⟩
      clear hN2 N2
      have sg := same_upd (o := .dK kvs1) hg
      have Dg : DT K (upd G2 g (.dK kvs1)) g kvs1 tab1 := ⟨upd_same, D1.len, (D1.same sg).ents, (D1.same sg).tab⟩
      have Kg : KN b G2 (upd G2 g (.dK kvs1)) := KN.same sg
      have Bg := S2.bag.same sg
      have tg := Tabs.same S2.tabs sg
      have ngb : b ≠ g ∧ c ≠ g := S2.bag.ne2 hg
      refine cut_seq (fun σ G3 => ∃ (x9 : Option V) (kvs : List (Key × V)) (tab : Str → Option Fr), σ = [some (.ref a), some (.ref b), some (.int (0 + (i : Int))), some (.ref p), some (.ref q), some (.ref t), some (.ref D), x7, some (.ref g), x9] ∧ KN b G2 G3 ∧ Bag G3 b c ∧ Tabs T.TL G3 ∧ DT K G3 g kvs tab ∧ (∀ z, (tab z).isSome = true → z ∈ parts ∨ z = "q") ∧ (∀ z f, tab z = some f → okB 64 f)) (fun N2 hN2 => ?_) ?_
      · refine ⟨_, rfl, p, rfl, ⟨_, .inl (.inl (sg _ _ S2.hp))⟩, for_list (K := K) (a := p) (xs := parts.map V.str) (fun i2 σ G3 => ∃ (x9 : Option V) (kvs : List (Key × V)) (tab : Str → Option Fr), σ = [some (.ref a), some (.ref b), some (.int (0 + (i : Int))), some (.ref p), some (.ref q), some (.ref t), some (.ref D), x7, some (.ref g), x9] ∧ KN b G2 G3 ∧ Bag G3 b c ∧ Tabs T.TL G3 ∧ DT K G3 g kvs tab ∧ (∀ z, (tab z).isSome = true → z ∈ parts ∨ z = "q") ∧ (∀ z f, tab z = some f → okB 64 f) ∧ (∀ j z, i2 ≤ j → parts[j]? = some z → (tab z).isSome = true))
          ⟨x9, kvs1, tab1, rfl, Kg, Bg, tg, Dg, P1.only, P1.ok, fun j z _ hz => P1.has z (List.mem_of_getElem? hz)⟩ (fun i2 σ G3 _ ⟨_, _, _, _, hk, _⟩ => .inl (.inl (hk.list S2.np S2.hp))) ?_ ?_⟩
        · rintro i2 y σ G3 hy ⟨x9, kvs, tab, rfl, K3, B3, t3, D3, on3, ok3, has3⟩
          rw [List.getElem?_map] at hy
          obtain ⟨z, hz, rfl⟩ := Option.map_eq_some_iff.mp hy
          walk_at "rs"
          refine ⟨b, c, 2, rfl, B3, by decide, by decide, fun r G4 r0 r1 B4 K4 => ⟨r, rfl, ite2 (fun _ => ?_) (fun _ => ?_)⟩⟩
          · have D4 := D3.kp B3 K4
            obtain ⟨f, hf⟩ := Option.isSome_iff_exists.mp (has3 i2 z (Nat.le_refl _) hz)
            obtain ⟨r5, e5, _⟩ := D4.get hf
            unfold tDPop1
            walk_at "rs"
            refine ⟨.inl ⟨_, .inl D4.at_⟩, _, D4.at_, .inr z, rfl, .ref r5, e5, KN.updN (KN.trans K3 (KN.kp K4)) hg, B4.upd ngb.1 ngb.2, Tabs.updD D4.at_ (Tabs.kp B3 t3 K4), _, _, D4.drop z, fun y h => ?_, fun y f h => ?_, fun j y hj hjy => ?_⟩
            · unfold dropF at h
              split at h
              · cases h
              · exact on3 y h
            · unfold dropF at h
              split at h
              · cases h
              · exact ok3 y f h
            · unfold dropF
              rw [if_neg]
              · exact has3 j y (by omega) hjy
              · rintro rfl
                have hlt : i2 < parts.length := (List.getElem?_eq_some_iff.mp hz).1
                have := (List.getElem?_inj hlt hnd).mp (hz.trans hjy.symm)
                omega
          · exact ⟨KN.trans K3 (KN.kp K4), B4, Tabs.kp B3 t3 K4, kvs, tab, D3.kp B3 K4, on3, ok3, fun j z h => has3 j z (by omega)⟩
        · rintro σ G3 ⟨x9, kvs, tab, rfl, K3, B3, t3, D3, on3, ok3, _⟩
          exact hN2 _ _ ⟨x9, kvs, tab, rfl, K3, B3, t3, D3, on3, ok3⟩
      rintro σ G3 ⟨x9, kvs, tab, rfl, K3, B3, t3, D3, on3, ok3⟩
      have S3 := S2.kn K3 B3 t3
      walk_at "rs"
      refine ⟨q, g, ws, kvs, tab, 1, rfl, S3.wds.at_, wA, S3.wds.ln, S3.wds.wk, D3, ok3, tab_no on3 hps, tab_lay on3 hps, S3.tabs, fun H4 e4 t4 => ⟨true, rfl, iteFF (by decide) ?_⟩⟩
      have S4 := S3.ext e4 t4
      unfold tDNewK
      intro g2 hg2
      have S5 := S4.same (same_upd (o := .dK []) hg2)
      refine ⟨q, g2, ws, [], fun _ => none, 0, rfl, S5.wds.at_, wA, S5.wds.ln, S5.wds.wk, DT.new upd_same, fun z f e => (by cases e), fun _ _ _ => rfl, fun z e => (by cases e), S5.tabs, fun H6 e6 t6 => ⟨true, rfl, iteFF (by decide) ?_⟩⟩
      have S6 := S5.ext e6 t6
      obtain ⟨d1', k1, tb1', e1, D1', P1', l1'⟩ := S6.tb (.ref d1) List.mem_cons_self
      obtain ⟨d2', k2, tb2', e2, D2', P2', l2'⟩ := S6.tb (.ref d2) (List.mem_cons_of_mem _ List.mem_cons_self)
      cases e1
      cases e2
      refine ⟨b, c, q, D, d1, d2, ws, k1, k2, tb1', tb2', rfl, S6.bag, S6.wds.at_, wA, S6.wds.ln, S6.wds.wk, S6.hD, S6.nD, D1', D2', P1'.ok, P2'.ok, l2', lacks_nil fun z hz => P1'.has z ((S6.wds.wd z (mem_names.mp hz).1).2 (mem_names.mp hz).2), tab_no P2'.only hps, tab_lay P2'.only hps, S6.tabs, fun H7 k7 b7 t7 => ⟨true, rfl, iteFF (by decide) ⟨_, _, _, _, _, _, _, _, ⟨rfl, rfl, rfl, rfl, rfl, rfl, rfl, rfl⟩, b7, t7⟩⟩⟩
    exact ite2 (fun _ => fin) (fun _ => fin)
end
end LK

set_option Elab.async false
set_option linter.all false
set_option maxRecDepth 100000
namespace LK
open PySem PySem.Spec PyProof.Rows L2
local macro_rules | `(tactic| walk_at "rs") => `(tactic| simp only [cxK, cxNK, tCallZ, tAsg, tOp, rI0, rS0, rB0, rI, rU, tUn, rEq, rNe, rIxL, rIxT, rIxS, rSetL, rSlLU, rSlS, rSlU, rCatL, rCatU, rRepL, rIn, tVar, tC, gName, gSub, tIfS, tTest, tB, tAnd, tOr, tNot, tNotV, tAndV, tOrV, tIf, tCall, tCons, tNil, tCB, tDrop, tRet, tRetN, tNext, tLstU, tTupU, tM0, tM1, tPar, tPar3, tAug, ipI, tBM, tBM0, rAppend, rPop, tBreak, tCont, tChain, tSl, tPart, tNoPart, L2.start, List.map, List.length_cons, List.length_nil, List.replicate, List.cons_append, List.nil_append, List.append_nil, List.getElem?_cons_zero, List.getElem?_cons_succ, List.set_cons_zero, List.set_cons_succ, Option.some.injEq, V.int.injEq, V.ref.injEq, V.str.injEq, V.bl.injEq, exists_eq_left', exists_eq_left, exists_and_left, decide_eq_true_eq, List.cons.injEq, and_true, true_and, scal, Bool.not_eq_true', decide_eq_false_iff_not, Nat.zero_add, Nat.reduceAdd, Nat.reduceSub, reduceCtorEq, false_and, exists_false, false_or, or_false, CPow, CMul, CDiv, Int.reduceToNat, ↓reduceIte, wipe, sw, List.nil_append, List.singleton_append])
local macro_rules | `(tactic| walk_at "st") => `(tactic| (refine seq_op fun N hN => ?_; walk_at "rs"))
local macro_rules | `(tactic| walk_at "sd") => `(tactic| first | assumption | decide | omega)
local macro_rules | `(tactic| walk_at "rd") => `(tactic| repeat (first
  | refine ⟨_, SqL.of (by assumption), ?_⟩ | refine ⟨_, SqL.of upd_same, ?_⟩ | refine ⟨_, .inl (SqL.of (by assumption)), ?_⟩ | refine ⟨_, (by assumption : _ = some (HO.lst _)), ?_⟩ | refine ⟨_, upd_same, ?_⟩
  | refine ⟨_, rfl, ?_⟩ | refine And.intro (by walk_at "sd") ?_))
open LamX (Tabs TabS ExtN GivesTo pe_lamcall TabB lamS_by tLam CodeO LamS lamCx lamEnv)
/-! ### what the head tells, as Bools -/
def oexB (K : PySem.W.Frag) (C : Addr) : Bool := (match K.lookup C with
  | some ⟨.type c, _, .cls cd, sl⟩ => (match cd.mro, sl.toList with
    | .ref C' :: bm, [_, _, _, _, some (.builtin n), _] => decide (c = "type") && (decide (C' = C) && (decide (n = "ValueError.__new__") && (!cd.hasDel && (cd.hasDict && PySem.HandSPX.refsVE bm))))
    | _, _ => false)
  | _ => false) && (He.eqO (PySem.W.findIn K (.ref C) "__setattr__") (some (some (.builtin "object.__setattr__"))) && (decide (PySem.W.subIn K (.ref C) (.type "BaseException") = some true) && (decide (PySem.W.typeIn K (.ref C) = some (.type "type")) && PySem.W.keepIn K (.ref C))))
theorem oexB_ok {K : PySem.W.Frag} {C : Addr} (h : oexB K C = true) : OexC K C := by
  obtain ⟨h1, h2⟩ := He.ba h
  obtain ⟨h3, h4⟩ := He.ba h2
  obtain ⟨h5, h6⟩ := He.ba h4
  obtain ⟨h7, h8⟩ := He.ba h6
  refine ⟨?_, He.eqO_ok h3, of_decide_eq_true h5, of_decide_eq_true h7, h8⟩
  cases e : K.lookup C with
  | none => rw [e] at h1; cases h1
  | some ob =>
    obtain ⟨oc, od, dt, osl⟩ := ob
    rw [e] at h1
    cases oc with
    | type c =>
      cases dt with
      | cls cd =>
        obtain ⟨nm, bs, mro, ns, qn, hd, sn, sb, ab, col, del⟩ := cd
        dsimp only at h1
        split at h1
        · rename_i xl C' bm k0 k1 k2 k3 n k5 es
          obtain ⟨a1, b1⟩ := He.ba h1
          obtain ⟨a2, b2⟩ := He.ba b1
          obtain ⟨a3, b3⟩ := He.ba b2
          obtain ⟨a4, b4⟩ := He.ba b3
          obtain ⟨a5, a6⟩ := He.ba b4
          have ec : c = "type" := of_decide_eq_true a1
          have eC : C' = C := of_decide_eq_true a2
          have en : n = "ValueError.__new__" := of_decide_eq_true a3
          have ed : del = false := by cases del with
            | false => rfl
            | true => cases a4
          have eh : hd = true := a5
          have eo : osl = #[k0, k1, k2, k3, some (.builtin n), k5] := by
            have := congrArg List.toArray es
            simpa using this
          subst ec eC en ed eh eo
          exact ⟨nm, qn, ns, bs, bm, sn, sb, ab, col, od, k0, k1, k2, k3, k5, rfl, a6⟩
        · cases h1
      | _ => cases h1
    | _ => cases dt <;> cases h1
def isxB (K : PySem.W.Frag) (C : Addr) : Bool := (PySem.W.clsIn K C).isSome && (He.eqO (PySem.W.findIn K (.ref C) "__getattribute__") (some (some (.builtin "BaseException.__getattribute__"))) && (He.eqO (PySem.W.findIn K (.ref C) "__getattr__") (some none) && (decide (PySem.W.subIn K (.ref C) (.type "BaseException") = some true) && (He.eqO (PySem.W.findIn K (.ref C) "__class__") (some (some (.builtin "object.__class__"))) && (He.eqO (PySem.W.specialIn K (.builtin "object.__class__") "__get__") (some (some (.builtin "getset_descriptor.__get__"))) && (decide (PySem.W.takesIn K (.builtin "object.__class__") = some true) && decide (PySem.W.mroIn K C (.type "object") = some true)))))))
theorem isxB_ok {K : PySem.W.Frag} {C : Addr} (h : isxB K C = true) : IsxC K C := by
  obtain ⟨h1, h⟩ := He.ba h
  obtain ⟨h2, h⟩ := He.ba h
  obtain ⟨h3, h⟩ := He.ba h
  obtain ⟨h4, h⟩ := He.ba h
  obtain ⟨h5, h⟩ := He.ba h
  obtain ⟨h6, h⟩ := He.ba h
  obtain ⟨h7, h8⟩ := He.ba h
  exact ⟨h1, He.eqO_ok h2, He.eqO_ok h3, of_decide_eq_true h4, He.eqO_ok h5, He.eqO_ok h6, of_decide_eq_true h7, of_decide_eq_true h8⟩
def bvC (K : PySem.W.Frag) : Addr := He.ga K "BadValue"
def bvI (K : PySem.W.Frag) : Addr := He.fAd K ("BadValue", some "__init__")
def nnC (K : PySem.W.Frag) : Addr := He.ga K "NoName"
def nnI (K : PySem.W.Frag) : Addr := He.fAd K ("NoName", some "__init__")
def tabP (K : PySem.W.Frag) (x : Str) : Addr := (He.cT K (x, none)).2
/-- an own exception over LookupError, one class between -/
def oelB (K : PySem.W.Frag) (C M : Addr) : Bool := (match K.lookup C with
  | some ⟨.type c, _, .cls cd, sl⟩ => (match cd.mro, sl.toList with
    | .ref C' :: bm, [_, _, _, _, some (.builtin n), _] => decide (c = "type") && (decide (C' = C) && (decide (n = "LookupError.__new__") && (!cd.hasDel && (cd.hasDict && decide (bm = Value.ref M :: leTail)))))
    | _, _ => false)
  | _ => false) && (He.eqO (PySem.W.findIn K (.ref C) "__setattr__") (some (some (.builtin "object.__setattr__"))) && (decide (PySem.W.subIn K (.ref C) (.type "BaseException") = some true) && (decide (PySem.W.typeIn K (.ref C) = some (.type "type")) && PySem.W.keepIn K (.ref C))))
theorem oelB_ok {K : PySem.W.Frag} {C M : Addr} (h : oelB K C M = true) : OexM K C "LookupError.__new__" leTail := by
  obtain ⟨h1, h2⟩ := He.ba h
  obtain ⟨h3, h4⟩ := He.ba h2
  obtain ⟨h5, h6⟩ := He.ba h4
  obtain ⟨h7, h8⟩ := He.ba h6
  refine ⟨?_, He.eqO_ok h3, of_decide_eq_true h5, of_decide_eq_true h7, h8⟩
  cases e : K.lookup C with
  | none => rw [e] at h1; cases h1
  | some ob =>
    obtain ⟨oc, od, dt, osl⟩ := ob
    rw [e] at h1
    cases oc with
    | type c =>
      cases dt with
      | cls cd =>
        obtain ⟨nm, bs, mro, ns, qn, hd, sn, sb, ab, col, del⟩ := cd
        dsimp only at h1
        split at h1
        · rename_i xl C' bm k0 k1 k2 k3 n k5 es
          obtain ⟨a1, b1⟩ := He.ba h1
          obtain ⟨a2, b2⟩ := He.ba b1
          obtain ⟨a3, b3⟩ := He.ba b2
          obtain ⟨a4, b4⟩ := He.ba b3
          obtain ⟨a5, a6⟩ := He.ba b4
          have ec : c = "type" := of_decide_eq_true a1
          have eC : C' = C := of_decide_eq_true a2
          have en : n = "LookupError.__new__" := of_decide_eq_true a3
          have ed : del = false := by cases del with
            | false => rfl
            | true => cases a4
          have eh : hd = true := a5
          have eo : osl = #[k0, k1, k2, k3, some (.builtin n), k5] := by
            have := congrArg List.toArray es
            simpa using this
          subst ec eC en ed eh eo
          exact ⟨nm, qn, ns, bs, bm, sn, sb, ab, col, od, k0, k1, k2, k3, k5, rfl, ⟨[M], of_decide_eq_true a6⟩⟩
        · cases h1
      | _ => cases h1
    | _ => cases dt <;> cases h1
/-! ### the table of operands -/
def kvOf (e : DictEntry) : Option (Str × Str) := match e.key, e.val with
  | .str k _, .str v _ => some (k, v)
  | _, _ => none
theorem kvOf_some {e : DictEntry} {p : Str × Str} (h : kvOf e = some p) : (∃ t, e.key = .str p.1 t) ∧ ∃ t, e.val = .str p.2 t := by
  unfold kvOf at h
  split at h
  · rename_i k t v u e1 e2
    obtain rfl := Option.some.inj h
    exact ⟨⟨t, e1⟩, u, e2⟩
  · cases h
theorem find_kv (z : Str) : ∀ {l : List DictEntry} {tab : List (Str × Str)}, l.map kvOf = tab.map some → ∃ r : Option Value,
    (match l.find? (fun e => e.key.isStr z) with
      | some e => some (some e.val)
      | none => if l.any (fun e => e.refKey) then none else some none) = some r ∧ (match r with | none => tab.lookup z = none | some u => ∃ y, tab.lookup z = some y ∧ RelV (.str y) u)
  | [], [], _ => ⟨none, rfl, rfl⟩
  | [], p :: tab, h => by cases h
  | e :: l, [], h => by cases h
  | e :: l, p :: tab, h => by
    rw [List.map_cons, List.map_cons, List.cons.injEq] at h
    obtain ⟨⟨t, e1⟩, u, e2⟩ := kvOf_some h.1
    have hs : e.key.isStr z = (p.1 == z) := by rw [e1]; rfl
    have hr : e.refKey = false := by unfold DictEntry.refKey; rw [e1]
    obtain ⟨k, v⟩ := p
    by_cases hz : z = k
    · have ez : (k == z) = true := beq_iff_eq.mpr hz.symm
      refine ⟨some e.val, ?_, ?_⟩
      · rw [List.find?_cons, hs, ez]
      · exact ⟨v, by rw [List.lookup_cons, beq_iff_eq.mpr hz], u, e2⟩
    · have ez : (k == z) = false := beq_eq_false_iff_ne.mpr (Ne.symm hz)
      have ez2 : (z == k) = false := beq_eq_false_iff_ne.mpr hz
      obtain ⟨r, h1, h2⟩ := find_kv z h.2
      refine ⟨r, ?_, ?_⟩
      · rw [List.find?_cons, hs, ez, List.any_cons, hr, Bool.false_or]
        exact h1
      · rw [List.lookup_cons, ez2]
        exact h2
def opB (K : PySem.W.Frag) : Bool := match K.lookup (He.ga K "OPERANDS") with
  | some ⟨_, _, .dict es _, _⟩ => decide (es.toList.map kvOf = opsTab.map some)
  | _ => false
theorem opG {K : PySem.W.Frag} {es : Array DictEntry} {n : Nat} (l : K.lookup (He.ga K "OPERANDS") = some ⟨.type "dict", none, .dict es n, #[]⟩) (h : opB K = true) (z : Str) : ∃ r, PySem.W.nsIn K (He.ga K "OPERANDS") z = some r ∧ (match r with | none => opsOf z = none | some u => ∃ y, opsOf z = some y ∧ RelV (.str y) u) := by
  unfold opB at h
  rw [l] at h
  obtain ⟨r, h1, h2⟩ := find_kv z (of_decide_eq_true h)
  refine ⟨r, ?_, h2⟩
  unfold PySem.W.nsIn
  rw [l]
  exact h1
def tsL : List He.Tab := [(fun K => He.ga K "OPERANDS", opsTab.map (·.1))]
def exB (K : PySem.W.Frag) : Bool := oexB K (bvC K) && (oelB K (nnC K) (He.ga K "Missing") && (xfB K (nnC K) && (isxB K (nnC K) && (decide (PySem.W.kitOne K (.ref (nnC K)) (.ref (nnC K)) = some true) && (He.eqO (PySem.W.nsIn K mainGlobals "gcd") (some (some (.builtin "math.gcd"))) && (He.tupB K "ZERO" [.int 0, .int 1] && (He.tupB K "ONE" [.int 1, .int 1] && (He.tupB K "RESERVED" (keptL.map He.Dv.str) && (He.tupB K "GIVEN" [.str "sign", .str "place"] && (He.tupB K "RELATIONS" (relL.map He.Dv.str) && (opB K && (decide (PySem.W.typeIn K (.ref (bvI K)) = some (.type "function")) && (He.eqO (PySem.W.findIn K (.ref (bvC K)) "__init__") (some (some (.ref (bvI K)))) && (decide (PySem.W.typeIn K (.ref (nnI K)) = some (.type "function")) && (He.eqO (PySem.W.findIn K (.ref (nnC K)) "__init__") (some (some (.ref (nnI K)))) && decide (mainGlobals ≠ tabP K "_law_so"))))))))))))))))
def dInit : He.DefD := ⟨("BadValue", some "__init__"), "__init__", "BadValue.__init__", defArgs s_BadValue, defBody s_BadValue, defScope s_BadValue, [], []⟩
def dInit2 : He.DefD := ⟨("NoName", some "__init__"), "__init__", "NoName.__init__", defArgs s_NoName, defBody s_NoName, defScope s_NoName, [], []⟩
def D_is_number : He.DefD := ⟨("is_number", none), "is_number", "is_number", defArgs s_is_number, defBody s_is_number, defScope s_is_number, [], []⟩
def D_is_fraction : He.DefD := ⟨("is_fraction", none), "is_fraction", "is_fraction", defArgs s_is_fraction, defBody s_is_fraction, defScope s_is_fraction, [], []⟩
def D_fraction : He.DefD := ⟨("fraction", none), "fraction", "fraction", defArgs s_fraction, defBody s_fraction, defScope s_fraction, [.int 1], []⟩
def D_plus : He.DefD := ⟨("plus", none), "plus", "plus", defArgs s_plus, defBody s_plus, defScope s_plus, [], []⟩
def D_minus : He.DefD := ⟨("minus", none), "minus", "minus", defArgs s_minus, defBody s_minus, defScope s_minus, [], []⟩
def D_times : He.DefD := ⟨("times", none), "times", "times", defArgs s_times, defBody s_times, defScope s_times, [], []⟩
def D_quotient : He.DefD := ⟨("quotient", none), "quotient", "quotient", defArgs s_quotient, defBody s_quotient, defScope s_quotient, [], []⟩
def D_below : He.DefD := ⟨("below", none), "below", "below", defArgs s_below, defBody s_below, defScope s_below, [], []⟩
def D_floor_of : He.DefD := ⟨("floor_of", none), "floor_of", "floor_of", defArgs s_floor_of, defBody s_floor_of, defScope s_floor_of, [], []⟩
def D_read_number : He.DefD := ⟨("read_number", none), "read_number", "read_number", defArgs s_read_number, defBody s_read_number, defScope s_read_number, [], []⟩
def D_is_word_name : He.DefD := ⟨("is_word_name", none), "is_word_name", "is_word_name", defArgs s_is_word_name, defBody s_is_word_name, defScope s_is_word_name, [], []⟩
def D_is_own_name : He.DefD := ⟨("is_own_name", none), "is_own_name", "is_own_name", defArgs s_is_own_name, defBody s_is_own_name, defScope s_is_own_name, [], []⟩
def D_is_name : He.DefD := ⟨("is_name", none), "is_name", "is_name", defArgs s_is_name, defBody s_is_name, defScope s_is_name, [], []⟩
def D_is_integer_word : He.DefD := ⟨("is_integer_word", none), "is_integer_word", "is_integer_word", defArgs s_is_integer_word, defBody s_is_integer_word, defScope s_is_integer_word, [], []⟩
def D_operands_behind : He.DefD := ⟨("operands_behind", none), "operands_behind", "operands_behind", defArgs s_operands_behind, defBody s_operands_behind, defScope s_operands_behind, [], []⟩
def D_is_expression : He.DefD := ⟨("is_expression", none), "is_expression", "is_expression", defArgs s_is_expression, defBody s_is_expression, defScope s_is_expression, [], []⟩
def D_names_in : He.DefD := ⟨("names_in", none), "names_in", "names_in", defArgs s_names_in, defBody s_names_in, defScope s_names_in, [], []⟩
def D_truth : He.DefD := ⟨("truth", none), "truth", "truth", defArgs s_truth, defBody s_truth, defScope s_truth, [], []⟩
def D_compared : He.DefD := ⟨("compared", none), "compared", "compared", defArgs s_compared, defBody s_compared, defScope s_compared, [], []⟩
def D_whole_quotient : He.DefD := ⟨("whole_quotient", none), "whole_quotient", "whole_quotient", defArgs s_whole_quotient, defBody s_whole_quotient, defScope s_whole_quotient, [], []⟩
def D_value_of_two : He.DefD := ⟨("value_of_two", none), "value_of_two", "value_of_two", defArgs s_value_of_two, defBody s_value_of_two, defScope s_value_of_two, [], []⟩
def D_value_of_word : He.DefD := ⟨("value_of_word", none), "value_of_word", "value_of_word", defArgs s_value_of_word, defBody s_value_of_word, defScope s_value_of_word, [], []⟩
def D_evaluate : He.DefD := ⟨("evaluate", none), "evaluate", "evaluate", defArgs s_evaluate, defBody s_evaluate, defScope s_evaluate, [], []⟩
def D__law_bag : He.DefD := ⟨("_law_bag", none), "_law_bag", "_law_bag", defArgs s__law_bag, defBody s__law_bag, defScope s__law_bag, [], []⟩
def D__law_draw : He.DefD := ⟨("_law_draw", none), "_law_draw", "_law_draw", defArgs s__law_draw, defBody s__law_draw, defScope s__law_draw, [], []⟩
def D__law_of : He.DefD := ⟨("_law_of", none), "_law_of", "_law_of", defArgs s__law_of, defBody s__law_of, defScope s__law_of, [], []⟩
def D__law_like : He.DefD := ⟨("_law_like", none), "_law_like", "_law_like", defArgs s__law_like, defBody s__law_like, defScope s__law_like, [], []⟩
def D__law_low : He.DefD := ⟨("_law_low", none), "_law_low", "_law_low", defArgs s__law_low, defBody s__law_low, defScope s__law_low, [], []⟩
def D__law_order : He.DefD := ⟨("_law_order", none), "_law_order", "_law_order", defArgs s__law_order, defBody s__law_order, defScope s__law_order, [], []⟩
def D__law_holds : He.DefD := ⟨("_law_holds", none), "_law_holds", "_law_holds", defArgs s__law_holds, defBody s__law_holds, defScope s__law_holds, [], []⟩
def D__law_two : He.DefD := ⟨("_law_two", none), "_law_two", "_law_two", defArgs s__law_two, defBody s__law_two, defScope s__law_two, [], []⟩
def D__law_worth : He.DefD := ⟨("_law_worth", none), "_law_worth", "_law_worth", defArgs s__law_worth, defBody s__law_worth, defScope s__law_worth, [], []⟩
def D__law_prefix : He.DefD := ⟨("_law_prefix", none), "_law_prefix", "_law_prefix", defArgs s__law_prefix, defBody s__law_prefix, defScope s__law_prefix, [], []⟩
def D__law_once : He.DefD := ⟨("_law_once", none), "_law_once", "_law_once", defArgs s__law_once, defBody s__law_once, defScope s__law_once, [], []⟩
def D__law_named : He.DefD := ⟨("_law_named", none), "_law_named", "_law_named", defArgs s__law_named, defBody s__law_named, defScope s__law_named, [], []⟩
def D__law_some : He.DefD := ⟨("_law_some", none), "_law_some", "_law_some", defArgs s__law_some, defBody s__law_some, defScope s__law_some, [], []⟩
def D__law_names : He.DefD := ⟨("_law_names", none), "_law_names", "_law_names", defArgs s__law_names, defBody s__law_names, defScope s__law_names, [], []⟩
def D__law_table : He.DefD := ⟨("_law_table", none), "_law_table", "_law_table", defArgs s__law_table, defBody s__law_table, defScope s__law_table, [], []⟩
def D__law_ask : He.DefD := ⟨("_law_ask", none), "_law_ask", "_law_ask", defArgs s__law_ask, defBody s__law_ask, defScope s__law_ask, [], []⟩
def D__law_so : He.DefD := ⟨("_law_so", none), "_law_so", "_law_so", defArgs s__law_so, defBody s__law_so, defScope s__law_so, [], []⟩
def D__law_one_more : He.DefD := ⟨("_law_one_more", none), "_law_one_more", "_law_one_more", defArgs s__law_one_more, defBody s__law_one_more, defScope s__law_one_more, [], []⟩
def D_law : He.DefD := ⟨("law", none), "law", "law", defArgs s_law, defBody s_law, defScope s_law, [], []⟩
def fnL : List He.DefD := [dInit, dInit2, D_is_number, D_is_fraction, D_fraction, D_plus, D_minus, D_times, D_quotient, D_below, D_floor_of, D_read_number, D_is_word_name, D_is_own_name, D_is_name, D_is_integer_word, D_operands_behind, D_is_expression, D_names_in, D_truth, D_compared, D_whole_quotient, D_value_of_two, D_value_of_word, D_evaluate, D__law_bag, D__law_draw, D__law_of, D__law_like, D__law_low, D__law_order, D__law_holds, D__law_two, D__law_worth, D__law_prefix, D__law_once, D__law_named, D__law_some, D__law_names, D__law_table, D__law_ask, D__law_so, D__law_one_more, D_law]
def faL : List He.Fa := [.free "len", .free "int", .free "str", .free "list", .free "tuple", .free "bool", .free "dict", .free "isinstance", .free "all", .free "range", .free "zip", .free "abs", .free "reversed", .glo "ZERO", .glo "ONE", .glo "RESERVED", .glo "GIVEN", .glo "RELATIONS", .glo "OPERANDS", .glo "BadValue", .glo "NoName", .glo "Missing", .glo "is_number", .glo "is_fraction", .glo "fraction", .glo "plus", .glo "minus", .glo "times", .glo "quotient", .glo "below", .glo "floor_of", .glo "read_number", .glo "is_word_name", .glo "is_own_name", .glo "is_name", .glo "is_integer_word", .glo "operands_behind", .glo "is_expression", .glo "names_in", .glo "truth", .glo "compared", .glo "whole_quotient", .glo "value_of_two", .glo "value_of_word", .glo "evaluate", .glo "_law_bag", .glo "_law_draw", .glo "_law_of", .glo "_law_like", .glo "_law_low", .glo "_law_order", .glo "_law_holds", .glo "_law_two", .glo "_law_worth", .glo "_law_prefix", .glo "_law_once", .glo "_law_named", .glo "_law_some", .glo "_law_names", .glo "_law_table", .glo "_law_ask", .glo "_law_so", .glo "_law_one_more", .glo "law", .str "FIGURES" FIGs, .str "LETTERS" LETs, .int "MOST_WORDS" 30, .noat "BadValue" "value", .noat "BadValue" "code", .noat "NoName" "name", .noat "NoName" "code", .exm "NoName" "Missing" true]
def tfL : List He.Defn := [("_law_so", none)]
theorem fun_ofD {K : PySem.W.Frag} {x q : Str} {st : Stmt} {f : Addr} {fd : FuncData} {kws : List (Str × V)} (F : FunD K x q (defArgs st) (defBody st) (defScope st) [] kws f fd) : Fun K x q st f fd := by
  obtain ⟨oc, od, dV, kV, doc, pm, an, cdv, ct, osl, rfl, lk, hcd, hD, _⟩ := F.ex
  rcases hD with ⟨_, rfl⟩ | ⟨e, _⟩
  · exact ⟨⟨oc, od, kV, doc, pm, an, cdv, ct, osl, rfl, lk, hcd⟩, F.kp⟩
  · exact absurd rfl e
theorem code_ofD {K : PySem.W.Frag} {x q : Str} {ps : Arguments} {b : List Stmt} {sc : Scope} {dv : List V} {kw : List (Str × V)} {p : He.Defn} {fd : FuncData} (F : FunD K x q ps b sc dv kw (He.fAd K p) fd) : fd.code = .ref (He.codeOf K p) := by
  obtain ⟨oc, od, dV, kV, doc, pm, an, cdv, ct, osl, rfl, lk, hcd, _, _⟩ := F.ex
  obtain ⟨c, rfl⟩ := He.codeIn_ref hcd
  rw [He.codeOf_eq lk rfl]
/-- a def with defaults called by keywords alone -/
theorem kb_ofD {K : PySem.W.Frag} {x qual : Str} {params : Arguments} {body : List Stmt} {scope : Scope} {dvs : List V} {kws : List (Str × V)} {f : Addr} {fd : FuncData} {ps : List Str} (F : FunD K x qual params body scope dvs kws f fd) (ks : List Str) (g : {α : Type} → List α → List α → List α) (hd : dvs ≠ [])
    (hrel : ∀ {ds zs : List V} {its ws : List Value}, Vals ds its → Vals zs ws → Vals (g ds zs) (g its ws))
    (h : ∀ (T : Addr) (kV doc pm : Value) (an : Option Addr) (cdv ct : Value) (its ws : List Value), its.length = dvs.length → ws.length = ks.length →
      ∃ k, bindArgs (PySem.W.fnOf x qual params body scope (.ref T) kV doc pm an cdv ct) ⟨[], ks.zip ws⟩ = seqItems? (.ref T) >>= k ∧ k (some its.toArray) = pure (ps.zip (g its ws))) :
    ∃ its : List Value, its.length = dvs.length ∧ KBn K fd ps 0 ks (fun _ ws => g its ws) (fun _ zs => g dvs zs) := by
  obtain ⟨oc, od, dV, kV, doc, pm, an, cdv, ct, osl, rfl, lk, hcd, hD, hK⟩ := F.ex
  rcases hD with ⟨e, _⟩ | ⟨_, T, ob, its, m, rfl, lT, oT, rT⟩
  · exact absurd e hd
  · have l1 : its.length = dvs.length := rT.length.symm
    refine ⟨its, l1, ⟨fun s us ws X hu hw => ?_, fun _ rz => hrel rT rz⟩⟩
    obtain rfl : us = [] := List.eq_nil_of_length_eq_zero hu
    obtain ⟨k, e1, e2⟩ := h T kV doc pm an cdv ct its ws l1 hw
    refine BindsTo.of_looks fun M => ?_
    rw [e1]
    exact looks_items X lT oT (.of_pure e2)
set_option maxHeartbeats 0 in
theorem facts {P : Program} {w : World} {K : PySem.W.Frag} {h : Heap} {mg : Str → Option Value} {f : Addr} (X : K.In h) (G : h.Ns mainGlobals mg) (hfa : mg ("law" : Str) = some (.ref f)) (c : He.SaysX faL fnL tsL tfL exB w h K) :
    ∃ (fd : FuncData) (cs : List (Addr × Addr)) (sp : Sp), (∀ p ∈ cs, h.get? p.2 = some { cls := .none, data := .fields #[] }) ∧ (∀ p ∈ cs, K.lookup p.2 = none) ∧ (∀ p ∈ cs, PySem.W.CodeHd h p.1 p.2) ∧ (∀ (s : Shared) (u : Value), BindsTo s fd ⟨[u], []⟩ [("script", u)]) ∧
      (∀ (H : Hp) (a : Addr) (ns : List Int), ns.length ≤ 63 → (∀ z ∈ ns, Builtin.Int.intBits z ≤ 1048576) → (∀ p ∈ cs, H p.2 = some (.tbl #[])) → SqL K H a (ns.map V.int) → sp [.ref a] H (fun v _ => v = .bl true) fun _ _ _ => False) ∧
      ∀ base : Heap, K.In base → base.Ns mainGlobals mg → (∀ p ∈ cs, LamX.TabB base mg p.1 p.2) → FnOk P w K mg base CX0 13 f fd ["script"] sp := by
  have d := c.t.d
  obtain ⟨e1, ex⟩ := He.ba c.more
  obtain ⟨e2, ex⟩ := He.ba ex
  obtain ⟨e3, ex⟩ := He.ba ex
  obtain ⟨e4, ex⟩ := He.ba ex
  obtain ⟨e5, ex⟩ := He.ba ex
  obtain ⟨e6, ex⟩ := He.ba ex
  obtain ⟨e7, ex⟩ := He.ba ex
  obtain ⟨e8, ex⟩ := He.ba ex
  obtain ⟨e9, ex⟩ := He.ba ex
  obtain ⟨e10, ex⟩ := He.ba ex
  obtain ⟨e11, ex⟩ := He.ba ex
  obtain ⟨e12, ex⟩ := He.ba ex
  obtain ⟨e13, ex⟩ := He.ba ex
  obtain ⟨e14, ex⟩ := He.ba ex
  obtain ⟨e15, ex⟩ := He.ba ex
  obtain ⟨e16, e17⟩ := He.ba ex
  obtain ⟨esO, nO, hO⟩ := c.t.tab 0 (t := (fun K => He.ga K "OPERANDS", opsTab.map (·.1))) rfl
  obtain ⟨d_init, FD_init⟩ := d.def_ 0 (d := dInit) rfl
  obtain ⟨d_init2, FD_init2⟩ := d.def_ 1 (d := dInit2) rfl
  obtain ⟨d_is_number, FD_is_number⟩ := d.def_ 2 (d := D_is_number) rfl
  obtain ⟨d_is_fraction, FD_is_fraction⟩ := d.def_ 3 (d := D_is_fraction) rfl
  obtain ⟨d_fraction, FD_fraction⟩ := d.def_ 4 (d := D_fraction) rfl
  obtain ⟨d_plus, FD_plus⟩ := d.def_ 5 (d := D_plus) rfl
  obtain ⟨d_minus, FD_minus⟩ := d.def_ 6 (d := D_minus) rfl
  obtain ⟨d_times, FD_times⟩ := d.def_ 7 (d := D_times) rfl
  obtain ⟨d_quotient, FD_quotient⟩ := d.def_ 8 (d := D_quotient) rfl
  obtain ⟨d_below, FD_below⟩ := d.def_ 9 (d := D_below) rfl
  obtain ⟨d_floor_of, FD_floor_of⟩ := d.def_ 10 (d := D_floor_of) rfl
  obtain ⟨d_read_number, FD_read_number⟩ := d.def_ 11 (d := D_read_number) rfl
  obtain ⟨d_is_word_name, FD_is_word_name⟩ := d.def_ 12 (d := D_is_word_name) rfl
  obtain ⟨d_is_own_name, FD_is_own_name⟩ := d.def_ 13 (d := D_is_own_name) rfl
  obtain ⟨d_is_name, FD_is_name⟩ := d.def_ 14 (d := D_is_name) rfl
  obtain ⟨d_is_integer_word, FD_is_integer_word⟩ := d.def_ 15 (d := D_is_integer_word) rfl
  obtain ⟨d_operands_behind, FD_operands_behind⟩ := d.def_ 16 (d := D_operands_behind) rfl
  obtain ⟨d_is_expression, FD_is_expression⟩ := d.def_ 17 (d := D_is_expression) rfl
  obtain ⟨d_names_in, FD_names_in⟩ := d.def_ 18 (d := D_names_in) rfl
  obtain ⟨d_truth, FD_truth⟩ := d.def_ 19 (d := D_truth) rfl
  obtain ⟨d_compared, FD_compared⟩ := d.def_ 20 (d := D_compared) rfl
  obtain ⟨d_whole_quotient, FD_whole_quotient⟩ := d.def_ 21 (d := D_whole_quotient) rfl
  obtain ⟨d_value_of_two, FD_value_of_two⟩ := d.def_ 22 (d := D_value_of_two) rfl
  obtain ⟨d_value_of_word, FD_value_of_word⟩ := d.def_ 23 (d := D_value_of_word) rfl
  obtain ⟨d_evaluate, FD_evaluate⟩ := d.def_ 24 (d := D_evaluate) rfl
  obtain ⟨d__law_bag, FD__law_bag⟩ := d.def_ 25 (d := D__law_bag) rfl
  obtain ⟨d__law_draw, FD__law_draw⟩ := d.def_ 26 (d := D__law_draw) rfl
  obtain ⟨d__law_of, FD__law_of⟩ := d.def_ 27 (d := D__law_of) rfl
  obtain ⟨d__law_like, FD__law_like⟩ := d.def_ 28 (d := D__law_like) rfl
  obtain ⟨d__law_low, FD__law_low⟩ := d.def_ 29 (d := D__law_low) rfl
  obtain ⟨d__law_order, FD__law_order⟩ := d.def_ 30 (d := D__law_order) rfl
  obtain ⟨d__law_holds, FD__law_holds⟩ := d.def_ 31 (d := D__law_holds) rfl
  obtain ⟨d__law_two, FD__law_two⟩ := d.def_ 32 (d := D__law_two) rfl
  obtain ⟨d__law_worth, FD__law_worth⟩ := d.def_ 33 (d := D__law_worth) rfl
  obtain ⟨d__law_prefix, FD__law_prefix⟩ := d.def_ 34 (d := D__law_prefix) rfl
  obtain ⟨d__law_once, FD__law_once⟩ := d.def_ 35 (d := D__law_once) rfl
  obtain ⟨d__law_named, FD__law_named⟩ := d.def_ 36 (d := D__law_named) rfl
  obtain ⟨d__law_some, FD__law_some⟩ := d.def_ 37 (d := D__law_some) rfl
  obtain ⟨d__law_names, FD__law_names⟩ := d.def_ 38 (d := D__law_names) rfl
  obtain ⟨d__law_table, FD__law_table⟩ := d.def_ 39 (d := D__law_table) rfl
  obtain ⟨d__law_ask, FD__law_ask⟩ := d.def_ 40 (d := D__law_ask) rfl
  obtain ⟨d__law_so, FD__law_so⟩ := d.def_ 41 (d := D__law_so) rfl
  obtain ⟨d__law_one_more, FD__law_one_more⟩ := d.def_ 42 (d := D__law_one_more) rfl
  obtain ⟨d_law, FD_law⟩ := d.def_ 43 (d := D_law) rfl
  have F_init : Fun K "__init__" "BadValue.__init__" s_BadValue (bvI K) d_init := fun_ofD FD_init
  have F_init2 : Fun K "__init__" "NoName.__init__" s_NoName (nnI K) d_init2 := fun_ofD FD_init2
  have F_is_number : Fun K "is_number" "is_number" s_is_number (He.ga K "is_number") d_is_number := fun_ofD FD_is_number
  have F_is_fraction : Fun K "is_fraction" "is_fraction" s_is_fraction (He.ga K "is_fraction") d_is_fraction := fun_ofD FD_is_fraction
  have F_plus : Fun K "plus" "plus" s_plus (He.ga K "plus") d_plus := fun_ofD FD_plus
  have F_minus : Fun K "minus" "minus" s_minus (He.ga K "minus") d_minus := fun_ofD FD_minus
  have F_times : Fun K "times" "times" s_times (He.ga K "times") d_times := fun_ofD FD_times
  have F_quotient : Fun K "quotient" "quotient" s_quotient (He.ga K "quotient") d_quotient := fun_ofD FD_quotient
  have F_below : Fun K "below" "below" s_below (He.ga K "below") d_below := fun_ofD FD_below
  have F_floor_of : Fun K "floor_of" "floor_of" s_floor_of (He.ga K "floor_of") d_floor_of := fun_ofD FD_floor_of
  have F_read_number : Fun K "read_number" "read_number" s_read_number (He.ga K "read_number") d_read_number := fun_ofD FD_read_number
  have F_is_word_name : Fun K "is_word_name" "is_word_name" s_is_word_name (He.ga K "is_word_name") d_is_word_name := fun_ofD FD_is_word_name
  have F_is_own_name : Fun K "is_own_name" "is_own_name" s_is_own_name (He.ga K "is_own_name") d_is_own_name := fun_ofD FD_is_own_name
  have F_is_name : Fun K "is_name" "is_name" s_is_name (He.ga K "is_name") d_is_name := fun_ofD FD_is_name
  have F_is_integer_word : Fun K "is_integer_word" "is_integer_word" s_is_integer_word (He.ga K "is_integer_word") d_is_integer_word := fun_ofD FD_is_integer_word
  have F_operands_behind : Fun K "operands_behind" "operands_behind" s_operands_behind (He.ga K "operands_behind") d_operands_behind := fun_ofD FD_operands_behind
  have F_is_expression : Fun K "is_expression" "is_expression" s_is_expression (He.ga K "is_expression") d_is_expression := fun_ofD FD_is_expression
  have F_names_in : Fun K "names_in" "names_in" s_names_in (He.ga K "names_in") d_names_in := fun_ofD FD_names_in
  have F_truth : Fun K "truth" "truth" s_truth (He.ga K "truth") d_truth := fun_ofD FD_truth
  have F_compared : Fun K "compared" "compared" s_compared (He.ga K "compared") d_compared := fun_ofD FD_compared
  have F_whole_quotient : Fun K "whole_quotient" "whole_quotient" s_whole_quotient (He.ga K "whole_quotient") d_whole_quotient := fun_ofD FD_whole_quotient
  have F_value_of_two : Fun K "value_of_two" "value_of_two" s_value_of_two (He.ga K "value_of_two") d_value_of_two := fun_ofD FD_value_of_two
  have F_value_of_word : Fun K "value_of_word" "value_of_word" s_value_of_word (He.ga K "value_of_word") d_value_of_word := fun_ofD FD_value_of_word
  have F_evaluate : Fun K "evaluate" "evaluate" s_evaluate (He.ga K "evaluate") d_evaluate := fun_ofD FD_evaluate
  have F__law_bag : Fun K "_law_bag" "_law_bag" s__law_bag (He.ga K "_law_bag") d__law_bag := fun_ofD FD__law_bag
  have F__law_draw : Fun K "_law_draw" "_law_draw" s__law_draw (He.ga K "_law_draw") d__law_draw := fun_ofD FD__law_draw
  have F__law_of : Fun K "_law_of" "_law_of" s__law_of (He.ga K "_law_of") d__law_of := fun_ofD FD__law_of
  have F__law_like : Fun K "_law_like" "_law_like" s__law_like (He.ga K "_law_like") d__law_like := fun_ofD FD__law_like
  have F__law_low : Fun K "_law_low" "_law_low" s__law_low (He.ga K "_law_low") d__law_low := fun_ofD FD__law_low
  have F__law_order : Fun K "_law_order" "_law_order" s__law_order (He.ga K "_law_order") d__law_order := fun_ofD FD__law_order
  have F__law_holds : Fun K "_law_holds" "_law_holds" s__law_holds (He.ga K "_law_holds") d__law_holds := fun_ofD FD__law_holds
  have F__law_two : Fun K "_law_two" "_law_two" s__law_two (He.ga K "_law_two") d__law_two := fun_ofD FD__law_two
  have F__law_worth : Fun K "_law_worth" "_law_worth" s__law_worth (He.ga K "_law_worth") d__law_worth := fun_ofD FD__law_worth
  have F__law_prefix : Fun K "_law_prefix" "_law_prefix" s__law_prefix (He.ga K "_law_prefix") d__law_prefix := fun_ofD FD__law_prefix
  have F__law_once : Fun K "_law_once" "_law_once" s__law_once (He.ga K "_law_once") d__law_once := fun_ofD FD__law_once
  have F__law_named : Fun K "_law_named" "_law_named" s__law_named (He.ga K "_law_named") d__law_named := fun_ofD FD__law_named
  have F__law_some : Fun K "_law_some" "_law_some" s__law_some (He.ga K "_law_some") d__law_some := fun_ofD FD__law_some
  have F__law_names : Fun K "_law_names" "_law_names" s__law_names (He.ga K "_law_names") d__law_names := fun_ofD FD__law_names
  have F__law_table : Fun K "_law_table" "_law_table" s__law_table (He.ga K "_law_table") d__law_table := fun_ofD FD__law_table
  have F__law_ask : Fun K "_law_ask" "_law_ask" s__law_ask (He.ga K "_law_ask") d__law_ask := fun_ofD FD__law_ask
  have F__law_so : Fun K "_law_so" "_law_so" s__law_so (He.ga K "_law_so") d__law_so := fun_ofD FD__law_so
  have F__law_one_more : Fun K "_law_one_more" "_law_one_more" s__law_one_more (He.ga K "_law_one_more") d__law_one_more := fun_ofD FD__law_one_more
  have F_law : Fun K "law" "law" s_law (He.ga K "law") d_law := fun_ofD FD_law
  have b_init2 := F_init2.binds (ps := ["self", "name"]) fun _ _ _ _ _ _ us hl => match us, hl with | [_, _], _ => rfl
  have b_init := F_init.binds (ps := ["self", "value"]) fun _ _ _ _ _ _ us hl => match us, hl with | [_, _], _ => rfl
  have b_is_number := F_is_number.binds (ps := ["value"]) fun _ _ _ _ _ _ us hl => match us, hl with | [_], _ => rfl
  have b_is_fraction := F_is_fraction.binds (ps := ["value"]) fun _ _ _ _ _ _ us hl => match us, hl with | [_], _ => rfl
  have b_plus := F_plus.binds (ps := ["a", "b"]) fun _ _ _ _ _ _ us hl => match us, hl with | [_, _], _ => rfl
  have b_minus := F_minus.binds (ps := ["a", "b"]) fun _ _ _ _ _ _ us hl => match us, hl with | [_, _], _ => rfl
  have b_times := F_times.binds (ps := ["a", "b"]) fun _ _ _ _ _ _ us hl => match us, hl with | [_, _], _ => rfl
  have b_quotient := F_quotient.binds (ps := ["a", "b"]) fun _ _ _ _ _ _ us hl => match us, hl with | [_, _], _ => rfl
  have b_below := F_below.binds (ps := ["a", "b"]) fun _ _ _ _ _ _ us hl => match us, hl with | [_, _], _ => rfl
  have b_floor_of := F_floor_of.binds (ps := ["a"]) fun _ _ _ _ _ _ us hl => match us, hl with | [_], _ => rfl
  have b_read_number := F_read_number.binds (ps := ["word"]) fun _ _ _ _ _ _ us hl => match us, hl with | [_], _ => rfl
  have b_is_word_name := F_is_word_name.binds (ps := ["value"]) fun _ _ _ _ _ _ us hl => match us, hl with | [_], _ => rfl
  have b_is_own_name := F_is_own_name.binds (ps := ["value"]) fun _ _ _ _ _ _ us hl => match us, hl with | [_], _ => rfl
  have b_is_name := F_is_name.binds (ps := ["value"]) fun _ _ _ _ _ _ us hl => match us, hl with | [_], _ => rfl
  have b_is_integer_word := F_is_integer_word.binds (ps := ["word", "least", "greatest"]) fun _ _ _ _ _ _ us hl => match us, hl with | [_, _, _], _ => rfl
  have b_operands_behind := F_operands_behind.binds (ps := ["word", "kind"]) fun _ _ _ _ _ _ us hl => match us, hl with | [_, _], _ => rfl
  have b_is_expression := F_is_expression.binds (ps := ["value"]) fun _ _ _ _ _ _ us hl => match us, hl with | [_], _ => rfl
  have b_names_in := F_names_in.binds (ps := ["words"]) fun _ _ _ _ _ _ us hl => match us, hl with | [_], _ => rfl
  have b_truth := F_truth.binds (ps := ["holds"]) fun _ _ _ _ _ _ us hl => match us, hl with | [_], _ => rfl
  have b_compared := F_compared.binds (ps := ["relation", "a", "b"]) fun _ _ _ _ _ _ us hl => match us, hl with | [_, _, _], _ => rfl
  have b_whole_quotient := F_whole_quotient.binds (ps := ["a", "b"]) fun _ _ _ _ _ _ us hl => match us, hl with | [_, _], _ => rfl
  have b_value_of_two := F_value_of_two.binds (ps := ["word", "a", "b"]) fun _ _ _ _ _ _ us hl => match us, hl with | [_, _, _], _ => rfl
  have b_value_of_word := F_value_of_word.binds (ps := ["word", "operands", "values"]) fun _ _ _ _ _ _ us hl => match us, hl with | [_, _, _], _ => rfl
  have b_evaluate := F_evaluate.binds (ps := ["words", "values"]) fun _ _ _ _ _ _ us hl => match us, hl with | [_, _], _ => rfl
  have b__law_bag := F__law_bag.binds (ps := ["script"]) fun _ _ _ _ _ _ us hl => match us, hl with | [_], _ => rfl
  have b__law_draw := F__law_draw.binds (ps := ["bag", "size"]) fun _ _ _ _ _ _ us hl => match us, hl with | [_, _], _ => rfl
  have b__law_of := F__law_of.binds (ps := ["bag", "things"]) fun _ _ _ _ _ _ us hl => match us, hl with | [_, _], _ => rfl
  have b__law_like := F__law_like.binds (ps := ["got", "due"]) fun _ _ _ _ _ _ us hl => match us, hl with | [_, _], _ => rfl
  have b__law_low := F__law_low.binds (ps := ["top", "low"]) fun _ _ _ _ _ _ us hl => match us, hl with | [_, _], _ => rfl
  have b__law_order := F__law_order.binds (ps := ["one", "two"]) fun _ _ _ _ _ _ us hl => match us, hl with | [_, _], _ => rfl
  have b__law_holds := F__law_holds.binds (ps := ["mark", "one", "two"]) fun _ _ _ _ _ _ us hl => match us, hl with | [_, _, _], _ => rfl
  have b__law_two := F__law_two.binds (ps := ["sign", "one", "two"]) fun _ _ _ _ _ _ us hl => match us, hl with | [_, _, _], _ => rfl
  have b__law_worth := F__law_worth.binds (ps := ["prefix", "table"]) fun _ _ _ _ _ _ us hl => match us, hl with | [_, _], _ => rfl
  have b__law_prefix := F__law_prefix.binds (ps := ["bag", "parts", "size"]) fun _ _ _ _ _ _ us hl => match us, hl with | [_, _, _], _ => rfl
  have b__law_once := F__law_once.binds (ps := ["things"]) fun _ _ _ _ _ _ us hl => match us, hl with | [_], _ => rfl
  have b__law_named := F__law_named.binds (ps := ["prefix"]) fun _ _ _ _ _ _ us hl => match us, hl with | [_], _ => rfl
  have b__law_some := F__law_some.binds (ps := ["bag"]) fun _ _ _ _ _ _ us hl => match us, hl with | [_], _ => rfl
  have b__law_names := F__law_names.binds (ps := ["bag"]) fun _ _ _ _ _ _ us hl => match us, hl with | [_], _ => rfl
  have b__law_table := F__law_table.binds (ps := ["bag", "parts", "others"]) fun _ _ _ _ _ _ us hl => match us, hl with | [_, _, _], _ => rfl
  have b__law_ask := F__law_ask.binds (ps := ["deed"]) fun _ _ _ _ _ _ us hl => match us, hl with | [_], _ => rfl
  have b__law_so := F__law_so.binds (ps := ["prefix", "table", "way"]) fun _ _ _ _ _ _ us hl => match us, hl with | [_, _, _], _ => rfl
  have b__law_one_more := F__law_one_more.binds (ps := ["bag", "prefix", "tables"]) fun _ _ _ _ _ _ us hl => match us, hl with | [_, _, _], _ => rfl
  have b_law := F_law.binds (ps := ["script"]) fun _ _ _ _ _ _ us hl => match us, hl with | [_], _ => rfl
  have b_fraction : Binds K d_fraction ["p", "q"] [] := by
    obtain ⟨ds, hv, hb⟩ := FunD.binds1 (ps := ["p", "q"]) FD_fraction 2 1 (List.cons_ne_nil _ _) rfl fun _ _ _ _ _ _ _ us its h1 h2 => match us, its, h1, h2 with | [_, _], [_], _, _ => ⟨_, rfl, rfl⟩
    cases hv
    exact hb
  have dfl_fraction : ∃ ds, Vals [.int 1] ds ∧ Binds K d_fraction ["p", "q"] ds := FunD.binds1 (ps := ["p", "q"]) FD_fraction 1 0 (List.cons_ne_nil _ _) rfl fun _ _ _ _ _ _ _ us its h1 h2 => match us, its, h1, h2 with | [_], [_], _, _ => ⟨_, rfl, rfl⟩
  have z_is_expression : KBn K d_is_expression ["value"] 0 ["value"] (fun _ ws => ws) (fun _ zs => zs) := kb_of F_is_expression (n := 0) (ks := ["value"]) (ps := ["value"]) (fun _ ws => ws) (fun _ h => h) fun _ _ _ _ _ _ us ws h1 h2 => match us, ws, h1, h2 with | [], [_], _, _ => rfl
  have z_names_in : KBn K d_names_in ["words"] 0 ["words"] (fun _ ws => ws) (fun _ zs => zs) := kb_of F_names_in (n := 0) (ks := ["words"]) (ps := ["words"]) (fun _ ws => ws) (fun _ h => h) fun _ _ _ _ _ _ us ws h1 h2 => match us, ws, h1, h2 with | [], [_], _, _ => rfl
  have z_evaluate : KBn K d_evaluate ["words", "values"] 0 ["values", "words"] (fun _ ws => sw ws) (fun _ zs => sw zs) := kb_of F_evaluate (n := 0) (ks := ["values", "words"]) (ps := ["words", "values"]) (fun _ ws => sw ws) (fun _ h => sw_rel h) fun _ _ _ _ _ _ us ws h1 h2 => match us, ws, h1, h2 with | [], [_, _], _, _ => rfl
  obtain ⟨tFIG, hFIG⟩ := He.str_ok X G (d.fact 64 (f := .str "FIGURES" FIGs) rfl)
  obtain ⟨tLET, hLET⟩ := He.str_ok X G (d.fact 65 (f := .str "LETTERS" LETs) rfl)
  obtain ⟨tMST, hMST⟩ := He.int_ok X G (d.fact 66 (f := .int "MOST_WORDS" 30) rfl)
  let T : Txt w K mg := {
    n_len := He.free_ok X G (d.fact 0 (f := .free "len") rfl)
    n_int := He.free_ok X G (d.fact 1 (f := .free "int") rfl)
    n_str := He.free_ok X G (d.fact 2 (f := .free "str") rfl)
    n_list := He.free_ok X G (d.fact 3 (f := .free "list") rfl)
    n_tuple := He.free_ok X G (d.fact 4 (f := .free "tuple") rfl)
    n_bool := He.free_ok X G (d.fact 5 (f := .free "bool") rfl)
    n_dict := He.free_ok X G (d.fact 6 (f := .free "dict") rfl)
    n_isinstance := He.free_ok X G (d.fact 7 (f := .free "isinstance") rfl)
    n_all := He.free_ok X G (d.fact 8 (f := .free "all") rfl)
    n_range := He.free_ok X G (d.fact 9 (f := .free "range") rfl)
    n_zip := He.free_ok X G (d.fact 10 (f := .free "zip") rfl)
    n_abs := He.free_ok X G (d.fact 11 (f := .free "abs") rfl)
    n_reversed := He.free_ok X G (d.fact 12 (f := .free "reversed") rfl)
    m_gcd := PySem.W.mg_of X G (He.eqO_ok e6)
    a_ZERO := He.ga K "ZERO"
    m_ZERO := He.glo_ok X G (d.fact 13 (f := .glo "ZERO") rfl)
    s_ZERO := fun H => He.tupB_ok e7 H
    a_ONE := He.ga K "ONE"
    m_ONE := He.glo_ok X G (d.fact 14 (f := .glo "ONE") rfl)
    s_ONE := fun H => He.tupB_ok e8 H
    t_FIGURES := tFIG
    m_FIGURES := hFIG
    t_LETTERS := tLET
    m_LETTERS := hLET
    t_MOST_WORDS := tMST
    m_MOST_WORDS := hMST
    a_RESERVED := He.ga K "RESERVED"
    m_RESERVED := He.glo_ok X G (d.fact 15 (f := .glo "RESERVED") rfl)
    s_RESERVED := fun H => He.tupB_ok e9 H
    a_GIVEN := He.ga K "GIVEN"
    m_GIVEN := He.glo_ok X G (d.fact 16 (f := .glo "GIVEN") rfl)
    s_GIVEN := fun H => He.tupB_ok e10 H
    a_RELATIONS := He.ga K "RELATIONS"
    m_RELATIONS := He.glo_ok X G (d.fact 17 (f := .glo "RELATIONS") rfl)
    s_RELATIONS := fun H => He.tupB_ok e11 H
    a_OPERANDS := He.ga K "OPERANDS"
    m_OPERANDS := He.glo_ok X G (d.fact 18 (f := .glo "OPERANDS") rfl)
    es_OPERANDS := esO
    n_es_OPERANDS := nO
    D_OPERANDS := hO
    g_OPERANDS := opG hO.at_ e12
    C_BadValue := bvC K
    f_BadValue := bvI K
    d_BadValue := d_init
    m_BadValue := He.glo_ok X G (d.fact 19 (f := .glo "BadValue") rfl)
    X_BadValue := oexB_ok e1
    i_BadValue := He.eqO_ok e14
    t_BadValue := of_decide_eq_true e13
    F_BadValue := F_init
    B_BadValue__init := b_init
    v_BadValue := He.noat_ok (d.fact 67 (f := .noat "BadValue" "value") rfl)
    c_BadValue := He.noat_ok (d.fact 68 (f := .noat "BadValue" "code") rfl)
    C_NoName := nnC K
    f_NoName := nnI K
    d_NoName := d_init2
    m_NoName := He.glo_ok X G (d.fact 20 (f := .glo "NoName") rfl)
    X_NoName := oelB_ok e2
    i_NoName := He.eqO_ok e16
    t_NoName := of_decide_eq_true e15
    F_NoName := F_init2
    B_NoName__init := b_init2
    v_NoName := He.noat_ok (d.fact 69 (f := .noat "NoName" "name") rfl)
    c_NoName := He.noat_ok (d.fact 70 (f := .noat "NoName" "code") rfl)
    C_Missing := He.ga K "Missing"
    m_Missing := He.glo_ok X G (d.fact 21 (f := .glo "Missing") rfl)
    e_NoName := He.exm_ok (d.fact 71 (f := .exm "NoName" "Missing" true) rfl)
    x_NoName := xfB_ok e3
    y_NoName := isxB_ok e4
    k_NoName := of_decide_eq_true e5
    a_is_number := He.ga K "is_number"
    d_is_number := d_is_number
    F_is_number := F_is_number
    m_is_number := He.glo_ok X G (d.fact 22 (f := .glo "is_number") rfl)
    B_is_number := b_is_number
    a_is_fraction := He.ga K "is_fraction"
    d_is_fraction := d_is_fraction
    F_is_fraction := F_is_fraction
    m_is_fraction := He.glo_ok X G (d.fact 23 (f := .glo "is_fraction") rfl)
    B_is_fraction := b_is_fraction
    a_fraction := He.ga K "fraction"
    d_fraction := d_fraction
    F_fraction := FD_fraction
    m_fraction := He.glo_ok X G (d.fact 24 (f := .glo "fraction") rfl)
    B_fraction := b_fraction
    a_plus := He.ga K "plus"
    d_plus := d_plus
    F_plus := F_plus
    m_plus := He.glo_ok X G (d.fact 25 (f := .glo "plus") rfl)
    B_plus := b_plus
    a_minus := He.ga K "minus"
    d_minus := d_minus
    F_minus := F_minus
    m_minus := He.glo_ok X G (d.fact 26 (f := .glo "minus") rfl)
    B_minus := b_minus
    a_times := He.ga K "times"
    d_times := d_times
    F_times := F_times
    m_times := He.glo_ok X G (d.fact 27 (f := .glo "times") rfl)
    B_times := b_times
    a_quotient := He.ga K "quotient"
    d_quotient := d_quotient
    F_quotient := F_quotient
    m_quotient := He.glo_ok X G (d.fact 28 (f := .glo "quotient") rfl)
    B_quotient := b_quotient
    a_below := He.ga K "below"
    d_below := d_below
    F_below := F_below
    m_below := He.glo_ok X G (d.fact 29 (f := .glo "below") rfl)
    B_below := b_below
    a_floor_of := He.ga K "floor_of"
    d_floor_of := d_floor_of
    F_floor_of := F_floor_of
    m_floor_of := He.glo_ok X G (d.fact 30 (f := .glo "floor_of") rfl)
    B_floor_of := b_floor_of
    a_read_number := He.ga K "read_number"
    d_read_number := d_read_number
    F_read_number := F_read_number
    m_read_number := He.glo_ok X G (d.fact 31 (f := .glo "read_number") rfl)
    B_read_number := b_read_number
    a_is_word_name := He.ga K "is_word_name"
    d_is_word_name := d_is_word_name
    F_is_word_name := F_is_word_name
    m_is_word_name := He.glo_ok X G (d.fact 32 (f := .glo "is_word_name") rfl)
    B_is_word_name := b_is_word_name
    a_is_own_name := He.ga K "is_own_name"
    d_is_own_name := d_is_own_name
    F_is_own_name := F_is_own_name
    m_is_own_name := He.glo_ok X G (d.fact 33 (f := .glo "is_own_name") rfl)
    B_is_own_name := b_is_own_name
    a_is_name := He.ga K "is_name"
    d_is_name := d_is_name
    F_is_name := F_is_name
    m_is_name := He.glo_ok X G (d.fact 34 (f := .glo "is_name") rfl)
    B_is_name := b_is_name
    a_is_integer_word := He.ga K "is_integer_word"
    d_is_integer_word := d_is_integer_word
    F_is_integer_word := F_is_integer_word
    m_is_integer_word := He.glo_ok X G (d.fact 35 (f := .glo "is_integer_word") rfl)
    B_is_integer_word := b_is_integer_word
    a_operands_behind := He.ga K "operands_behind"
    d_operands_behind := d_operands_behind
    F_operands_behind := F_operands_behind
    m_operands_behind := He.glo_ok X G (d.fact 36 (f := .glo "operands_behind") rfl)
    B_operands_behind := b_operands_behind
    a_is_expression := He.ga K "is_expression"
    d_is_expression := d_is_expression
    F_is_expression := F_is_expression
    m_is_expression := He.glo_ok X G (d.fact 37 (f := .glo "is_expression") rfl)
    B_is_expression := b_is_expression
    a_names_in := He.ga K "names_in"
    d_names_in := d_names_in
    F_names_in := F_names_in
    m_names_in := He.glo_ok X G (d.fact 38 (f := .glo "names_in") rfl)
    B_names_in := b_names_in
    a_truth := He.ga K "truth"
    d_truth := d_truth
    F_truth := F_truth
    m_truth := He.glo_ok X G (d.fact 39 (f := .glo "truth") rfl)
    B_truth := b_truth
    a_compared := He.ga K "compared"
    d_compared := d_compared
    F_compared := F_compared
    m_compared := He.glo_ok X G (d.fact 40 (f := .glo "compared") rfl)
    B_compared := b_compared
    a_whole_quotient := He.ga K "whole_quotient"
    d_whole_quotient := d_whole_quotient
    F_whole_quotient := F_whole_quotient
    m_whole_quotient := He.glo_ok X G (d.fact 41 (f := .glo "whole_quotient") rfl)
    B_whole_quotient := b_whole_quotient
    a_value_of_two := He.ga K "value_of_two"
    d_value_of_two := d_value_of_two
    F_value_of_two := F_value_of_two
    m_value_of_two := He.glo_ok X G (d.fact 42 (f := .glo "value_of_two") rfl)
    B_value_of_two := b_value_of_two
    a_value_of_word := He.ga K "value_of_word"
    d_value_of_word := d_value_of_word
    F_value_of_word := F_value_of_word
    m_value_of_word := He.glo_ok X G (d.fact 43 (f := .glo "value_of_word") rfl)
    B_value_of_word := b_value_of_word
    a_evaluate := He.ga K "evaluate"
    d_evaluate := d_evaluate
    F_evaluate := F_evaluate
    m_evaluate := He.glo_ok X G (d.fact 44 (f := .glo "evaluate") rfl)
    B_evaluate := b_evaluate
    a__law_bag := He.ga K "_law_bag"
    d__law_bag := d__law_bag
    F__law_bag := F__law_bag
    m__law_bag := He.glo_ok X G (d.fact 45 (f := .glo "_law_bag") rfl)
    B__law_bag := b__law_bag
    a__law_draw := He.ga K "_law_draw"
    d__law_draw := d__law_draw
    F__law_draw := F__law_draw
    m__law_draw := He.glo_ok X G (d.fact 46 (f := .glo "_law_draw") rfl)
    B__law_draw := b__law_draw
    a__law_of := He.ga K "_law_of"
    d__law_of := d__law_of
    F__law_of := F__law_of
    m__law_of := He.glo_ok X G (d.fact 47 (f := .glo "_law_of") rfl)
    B__law_of := b__law_of
    a__law_like := He.ga K "_law_like"
    d__law_like := d__law_like
    F__law_like := F__law_like
    m__law_like := He.glo_ok X G (d.fact 48 (f := .glo "_law_like") rfl)
    B__law_like := b__law_like
    a__law_low := He.ga K "_law_low"
    d__law_low := d__law_low
    F__law_low := F__law_low
    m__law_low := He.glo_ok X G (d.fact 49 (f := .glo "_law_low") rfl)
    B__law_low := b__law_low
    a__law_order := He.ga K "_law_order"
    d__law_order := d__law_order
    F__law_order := F__law_order
    m__law_order := He.glo_ok X G (d.fact 50 (f := .glo "_law_order") rfl)
    B__law_order := b__law_order
    a__law_holds := He.ga K "_law_holds"
    d__law_holds := d__law_holds
    F__law_holds := F__law_holds
    m__law_holds := He.glo_ok X G (d.fact 51 (f := .glo "_law_holds") rfl)
    B__law_holds := b__law_holds
    a__law_two := He.ga K "_law_two"
    d__law_two := d__law_two
    F__law_two := F__law_two
    m__law_two := He.glo_ok X G (d.fact 52 (f := .glo "_law_two") rfl)
    B__law_two := b__law_two
    a__law_worth := He.ga K "_law_worth"
    d__law_worth := d__law_worth
    F__law_worth := F__law_worth
    m__law_worth := He.glo_ok X G (d.fact 53 (f := .glo "_law_worth") rfl)
    B__law_worth := b__law_worth
    a__law_prefix := He.ga K "_law_prefix"
    d__law_prefix := d__law_prefix
    F__law_prefix := F__law_prefix
    m__law_prefix := He.glo_ok X G (d.fact 54 (f := .glo "_law_prefix") rfl)
    B__law_prefix := b__law_prefix
    a__law_once := He.ga K "_law_once"
    d__law_once := d__law_once
    F__law_once := F__law_once
    m__law_once := He.glo_ok X G (d.fact 55 (f := .glo "_law_once") rfl)
    B__law_once := b__law_once
    a__law_named := He.ga K "_law_named"
    d__law_named := d__law_named
    F__law_named := F__law_named
    m__law_named := He.glo_ok X G (d.fact 56 (f := .glo "_law_named") rfl)
    B__law_named := b__law_named
    a__law_some := He.ga K "_law_some"
    d__law_some := d__law_some
    F__law_some := F__law_some
    m__law_some := He.glo_ok X G (d.fact 57 (f := .glo "_law_some") rfl)
    B__law_some := b__law_some
    a__law_names := He.ga K "_law_names"
    d__law_names := d__law_names
    F__law_names := F__law_names
    m__law_names := He.glo_ok X G (d.fact 58 (f := .glo "_law_names") rfl)
    B__law_names := b__law_names
    a__law_table := He.ga K "_law_table"
    d__law_table := d__law_table
    F__law_table := F__law_table
    m__law_table := He.glo_ok X G (d.fact 59 (f := .glo "_law_table") rfl)
    B__law_table := b__law_table
    a__law_ask := He.ga K "_law_ask"
    d__law_ask := d__law_ask
    F__law_ask := F__law_ask
    m__law_ask := He.glo_ok X G (d.fact 60 (f := .glo "_law_ask") rfl)
    B__law_ask := b__law_ask
    a__law_so := He.ga K "_law_so"
    d__law_so := d__law_so
    F__law_so := F__law_so
    m__law_so := He.glo_ok X G (d.fact 61 (f := .glo "_law_so") rfl)
    B__law_so := b__law_so
    a__law_one_more := He.ga K "_law_one_more"
    d__law_one_more := d__law_one_more
    F__law_one_more := F__law_one_more
    m__law_one_more := He.glo_ok X G (d.fact 62 (f := .glo "_law_one_more") rfl)
    B__law_one_more := b__law_one_more
    a_law := He.ga K "law"
    d_law := d_law
    F_law := F_law
    m_law := He.glo_ok X G (d.fact 63 (f := .glo "law") rfl)
    B_law := b_law
    D_fraction := dfl_fraction
    c__law_so := He.codeOf K ("_law_so", none)
    P__law_so := tabP K "_law_so"
    k__law_so := code_ofD FD__law_so
    Z_is_expression := z_is_expression
    Z_names_in := z_names_in
    Z_evaluate := z_evaluate
  }
  have ef : f = He.ga K "law" := by
    have e := hfa.symm.trans T.m_law
    cases e
    rfl
  have at_ : ∀ p ∈ T.cs, ∃ x ∈ tfL, p = He.cT K x := fun p hp => by
    have hp : p ∈ [He.cT K ("_law_so", none)] := hp
    simp only [List.mem_cons, List.mem_nil_iff, or_false] at hp
    subst hp
    exact ⟨_, by simp [tfL], rfl⟩
  refine ⟨d_law, T.cs, sp_law K T.TL, fun p hp => ?_, fun p hp => ?_, fun p hp => ?_, fun s u => FunD.bindsA (ps := ["script"]) FD_law (fun _ _ _ _ _ _ us hl => match us, hl with | [_], _ => rfl) s [u] rfl, fun H a ns hl _ hT hS => ⟨a, ns, rfl, hS, hl, fun p hp => ?_, fun _ => rfl⟩, fun base _ _ hB => ?_⟩
  · obtain ⟨x, hx, rfl⟩ := at_ p hp
    exact c.empty x hx
  · obtain ⟨x, hx, rfl⟩ := at_ p hp
    exact c.out x hx
  · obtain ⟨x, hx, rfl⟩ := at_ p hp
    exact PySem.W.codeHd_of_K X (c.hd x hx)
  · have hp : p ∈ [(T.P__law_so, lamQ "_law_so")] := hp
    simp only [List.mem_cons, List.mem_nil_iff, or_false] at hp
    subst hp
    exact LamX.TabS.nil (hT _ (T.cs1))
  · rw [ef]
    exact ok_law (P := P) (base := base) T hB
/-! ### the head's run -/
abbrev R : PySem.W.OpenRow := PySem.W.OpenLaw.row PySem.Challenge.rw_lookingnets_k03_whole_expressions
abbrev hk : PySem.W.Hook := He.hookX 6 faL fnL tsL tfL exB
def ob (s : PySem.W.SharedT) : He.AlX := He.obsX 6 faL fnL tsL tfL exB (HandSHeadRun.getT s)
theorem ob_eq (s : PySem.W.SharedT) : ob s = hk.obs s.abs := He.obsX_eq (HandSHeadRun.getT_eq s)
def loose : List Str := (["NetError", "Missing", "BadValue", "NoName", "ZERO", "ONE", "FIGURES", "is_number", "is_fraction", "fraction", "plus", "minus", "times", "quotient", "below", "floor_of"] : List Str) ++ (["read_number", "RESERVED", "GIVEN", "RELATIONS", "LETTERS", "MOST_WORDS", "OPERANDS", "is_word_name", "is_own_name", "is_name", "is_integer_word", "operands_behind", "is_expression", "names_in", "truth", "compared"] : List Str) ++ (["whole_quotient", "value_of_two", "value_of_word", "evaluate", "_law_bag", "_law_draw", "_law_of", "_law_like", "_law_low", "_law_order", "_law_holds", "_law_two", "_law_worth", "_law_prefix", "_law_once", "_law_named"] : List Str) ++ (["_law_trio", "_law_uses", "_law_some", "_law_names", "_law_table", "_law_ask", "_law_so", "_law_one_more"] : List Str)
end LK

set_option Elab.async false
set_option linter.all false
set_option maxRecDepth 100000
namespace LK
open PySem PySem.Spec PyProof.Rows L2
/-- what the head's facts tell, from what it has laid down -/
theorem says_of {K : Params → PySem.W.Frag} {as : List Addr} {e : ∀ P, as = (K P).map (·.1)} {ts : List Addr} {w : World} {h : Heap} (Y : (PySem.W.kmHook K as e ts).says w h) (ht : He.obsT faL fnL tsL (K w.params) = He.valT fnL tsL w) (hm : exB (K w.params) = true)
    (hh : (tfL.all fun p => PySem.W.codeHdIn (K w.params) (He.cT (K w.params) p).1 (He.cT (K w.params) p).2) = true) (ho : (tfL.all fun p => ((K w.params).lookup (He.cT (K w.params) p).2).isNone) = true) (he : (tfL.all fun p => decide ((He.cT (K w.params) p).2 ∈ ts)) = true) :
    (K w.params).In h ∧ He.SaysX faL fnL tsL tfL exB w h (K w.params) :=
  ⟨PySem.W.km_in_of Y, ht, hm, fun p hp => List.all_eq_true.mp hh p hp, fun p hp => Option.isNone_iff_eq_none.mp (List.all_eq_true.mp ho p hp), fun p hp => PySem.W.km_tabs_of Y _ (of_decide_eq_true (List.all_eq_true.mp he p hp))⟩
end LK

open PySem PySem.W PySem.Calls PyProof.Rows
set_option maxRecDepth 100000 in
set_option maxHeartbeats 0 in
theorem PySem.Challenge.cw_lookingnets_k03_whole_expressions_holds : PySem.Challenge.rw_lookingnets_k03_whole_expressions.Holds := by
  w_on; o_law; k_head; (case hw => w_witness2)
  refine LamX.walk_ofTsE (l := PySem.Challenge.rw_lookingnets_k03_whole_expressions) (n := 63) (k := 13) (x := "script") (CX := fun _ => L2.CX0) rfl (by decide) (by kernel_rfl) ⟨rfl, by decide, by decide⟩ ?F (fun _ _ _ _ _ z => z)
  intro w mg fa h Y G hmg0
  have hmg : mg ("law" : PySem.Str) = some (.ref fa) := hmg0
  have q := LK.says_of Y
    (by kernel_rfl)
    (by kernel_rfl)
    (by kernel_rfl)
    (by kernel_rfl)
    (by kernel_rfl)
  exact ⟨_, q.1, LK.facts q.1 G hmg q.2⟩
