import PyProof.Rows.All
import Wide.All
import OpenK.AllK
import Wide.FinOn
import HandS.ForMost
import HandS.IsInst
import HandS.Zip
import HandS.TupAny
import HandS.Style
import HandS.More
import HandS.Defaults
import HandS.Walk
import HandS.ExcInit
import HandS.Gcd
import HandS.Wide
import HandS.WordsExc
import HandS.Lambda
import HandS.Deep
import HandS.ExcField
import HandS.FStr
import HandS.Text
import HandS.ReplaceLit
import HandS.ReplaceDef
import KE.KExcIs
import HandS.HeadHook4
import HandS.HeadWalk
import HandS.Head2
import HandS.Head3
import PySem.Challenge.RW_lookingnets_k02_texts_of_fractions
set_option Elab.async false
set_option linter.all false
set_option maxRecDepth 100000
namespace LK
open PySem PySem.Spec PyProof.Rows L2
/-! ### heaps but for one object -/
def hb (H : Hp) (b : Addr) : Hp := fun a => if a = b then none else H a
theorem hb_ne {H : Hp} {a b : Addr} (h : a ≠ b) : hb H b a = H a := if_neg h
theorem hb_same {H : Hp} {b : Addr} : hb H b b = none := if_pos rfl
theorem hb_some {H : Hp} {a b : Addr} {o : HO} (h : hb H b a = some o) : a ≠ b ∧ H a = some o := by
  unfold hb at h
  split at h
  · cases h
  · exact ⟨by assumption, h⟩
theorem hb_le (H : Hp) (b : Addr) : Same (hb H b) H := fun _ _ h => (hb_some h).2
/-- all but b stays -/
abbrev Kp (b : Addr) (H H' : Hp) : Prop := Same (hb H b) (hb H' b)
theorem Kp.of {b : Addr} {H H' : Hp} (s : Same H H') : Kp b H H' := fun a o h => by
  obtain ⟨h1, h2⟩ := hb_some h
  rw [hb_ne h1]
  exact s _ _ h2
theorem Kp.refl (b : Addr) (H : Hp) : Kp b H H := Same.refl _
theorem Kp.upd {b : Addr} {H : Hp} {o : HO} : Kp b H (upd H b o) := fun a u h => by
  obtain ⟨h1, h2⟩ := hb_some h
  rw [hb_ne h1, upd_ne h1]
  exact h2
theorem Kp.hd {b a : Addr} {H H' : Hp} {o : HO} (k : Kp b H H') (h : H a = some o) (n : a ≠ b) : H' a = some o := (hb_some (k a o (by rw [hb_ne n]; exact h))).2
/-- a new object -/
theorem al {H : Hp} {R : Addr → Hp → Prop} {o : HO} (h : ∀ p H1, Same H H1 → H1 p = some o → H p = none → R p H1) : ∀ p, H p = none → R p (upd H p o) := fun p hp =>
  h p _ (fun a u e => by rw [upd_ne (ne_of_none e hp)]; exact e) upd_same hp
theorem same_upd {H : Hp} {p : Addr} {o : HO} (hp : H p = none) : Same H (upd H p o) := fun a u e => by rw [upd_ne (ne_of_none e hp)]; exact e
theorem at_ofN {α : Type} {xs : List α} {z : Int} {j : Nat} {v : α} (e : z = (j : Int)) (h : xs[j]? = some v) : atI xs z = some v := by
  subst e
  exact atI_nat h
/-! ### the bag of a law -/
def Bag (H : Hp) (b c : Addr) : Prop := ∃ (cells : List Int) (i g m n : Int), H b = some (.lst [.ref c, .int i, .int g, .int m, .int n]) ∧ H c = some (.lst (cells.map V.int)) ∧ c ≠ b ∧ 0 ≤ i ∧ 0 ≤ m ∧ m < 2147483579
theorem Bag.same {H H' : Hp} {b c : Addr} (B : Bag H b c) (s : Same H H') : Bag H' b c := by
  obtain ⟨cells, i, g, m, n, h1, h2, h3⟩ := B
  exact ⟨cells, i, g, m, n, s _ _ h1, s _ _ h2, h3⟩
theorem Bag.at {H : Hp} {b c : Addr} (B : Bag H b c) : ∃ xs, H b = some (.lst xs) := by
  obtain ⟨cells, i, g, m, n, h1, _⟩ := B
  exact ⟨_, h1⟩
theorem Bag.at2 {H : Hp} {b c : Addr} (B : Bag H b c) : ∃ xs, H c = some (.lst xs) := by
  obtain ⟨cells, i, g, m, n, h1, h2, _⟩ := B
  exact ⟨_, h2⟩
/-- another object is stored -/
theorem Bag.upd {H : Hp} {b c p : Addr} {o : HO} (B : Bag H b c) (n1 : b ≠ p) (n2 : c ≠ p) : Bag (upd H p o) b c := by
  obtain ⟨cells, i, g, m, n, h1, h2, h3⟩ := B
  exact ⟨cells, i, g, m, n, by rw [upd_ne n1]; exact h1, by rw [upd_ne n2]; exact h2, h3⟩
/-- a new object beside a bag -/
theorem alB {H : Hp} {R : Addr → Hp → Prop} {o : HO} {b c : Addr} (B : Bag H b c) (h : ∀ p H1, Kp b H H1 → Bag H1 b c → hb H1 b p = some o → Same H H1 → H p = none → R p H1) : ∀ p, H p = none → R p (upd H p o) :=
  al fun p H1 s h1 h0 => h p H1 (Kp.of s) (B.same s) (by
    have n : p ≠ b := fun e => by
      obtain ⟨xs, q⟩ := B.at
      rw [e, q] at h0; cases h0
    rw [hb_ne n]; exact h1) s h0
/-! ### data -/
theorem Same.seqT {K : PySem.W.Frag} {H H' : Hp} {a : Addr} {xs : List V} (e : Same H H') (h : SqT K H a xs) : SqT K H' a xs := by
  rcases h with (h | ⟨o, h⟩) | h
  · exact .inl (.inl (e _ _ h))
  · exact .inl (.inr ⟨o, e _ _ h⟩)
  · exact .inr h
mutual
theorem dp_same {K : PySem.W.Frag} {H H' : Hp} (e : Same H H') : ∀ {d : PyData} {v : V}, Dp K H v d → Dp K H' v d
  | .none, _, h => by cases h; exact .non
  | .bool _, _, h => by cases h; exact .bl _
  | .int _, _, h => by cases h; exact .int _
  | .str _, _, h => by cases h; exact .str _
  | .list ds, _, h => by cases h with | lst a b => exact .lst (L2.Same.seq e a) (dpa_same e b)
  | .tuple ds, _, h => by cases h with | tup a b => exact .tup (Same.seqT e a) (dpa_same e b)
  | .dict _, _, h => by cases h
theorem dpa_same {K : PySem.W.Frag} {H H' : Hp} (e : Same H H') : ∀ {ds : List PyData} {vs : List V}, DpAll K H vs ds → DpAll K H' vs ds
  | [], _, h => by cases h; exact .nil
  | _ :: _, _, h => by cases h with | cons a b => exact .cons (dp_same e a) (dpa_same e b)
end
end LK
namespace LK
open PySem PySem.Spec PyProof.Rows L2
section
variable {CX : CXT} {P : Program} {w : World} {K : PySem.W.Frag} {mg : Str → Option Value} {base : Heap} {N : List Str} {q : Str} {sc : Scope} {f : Addr} {cd : Value} {A : Around} {outer : List Env} {s : Shared} {H : Hp} {E : XK}
theorem cxK : (cxOf CX P w K mg base N q sc f cd A outer s H E).K = K := rfl
theorem cxNK : (cxOf CX P w K mg base N q sc f cd A outer s H E).nox.K = K := rfl
theorem cxW : (cxOf CX P w K mg base N q sc f cd A outer s H E).w = w := rfl
end
theorem cut_seq {t u : TS} {D : Ends} {σ : L2.St} {H : Hp} (Mid : L2.St → Hp → Prop) (h1 : ∀ N : L2.St → Hp → Prop, (∀ σ' H', Mid σ' H' → N σ' H') → t { D with nx := N } σ H) (h2 : ∀ σ' H', Mid σ' H' → u D σ' H') : tSeq t u D σ H := h1 _ h2
end LK
namespace LK
open PySem PySem.Spec PyProof.Rows L2
theorem seq_op {t u : TS} {D : Ends} {σ : L2.St} {H : Hp} (h : ∀ N : L2.St → Hp → Prop, (∀ σ' H', u D σ' H' → N σ' H') → t { D with nx := N } σ H) : tSeq t u D σ H := h _ fun _ _ z => z
end LK
namespace LK
open PySem PySem.Spec PyProof.Rows L2
section
variable {X : Cx}
theorem opr_imp {f : Value → Value → Sem Value} {r r' : R2} (h : OpR X f r) (i : ∀ x y H Q, r' x y H Q → r x y H Q) : OpR X f r' := fun pins s σ H x y v u Q I rx ry q => h pins s σ H x y v u Q I rx ry (i _ _ _ _ q)
theorem cr_imp {f : Value} {r r' : List V → Hp → VK → Prop} (h : CallR X f r) (i : ∀ x H Q, r' x H Q → r x H Q) : CallR X f r' := fun pins s σ H xs us Q I rx q => h pins s σ H xs us Q I rx (i _ _ _ q)
theorem op_eqI : OpR X (compareOp .Eq) (rI0 fun i j => .bl (decide (i = j))) := opr_imp op_eq fun x y H Q h => by
  obtain ⟨i, j, rfl, rfl, q⟩ := h
  refine ⟨rfl, ?_⟩
  rw [L2.dec_int, Bool.beq_eq_decide_eq]; exact q
theorem op_neI : OpR X (compareOp .NotEq) (rI0 fun i j => .bl (!decide (i = j))) := opr_imp op_ne fun x y H Q h => by
  obtain ⟨i, j, rfl, rfl, q⟩ := h
  refine ⟨rfl, ?_⟩
  rw [L2.dec_int, Bool.beq_eq_decide_eq]; exact q
def rS0 (g : Str → Str → V) : R2 := fun x y H Q => ∃ i j, x = .str i ∧ y = .str j ∧ Q (g i j) H
theorem op_eqS : OpR X (compareOp .Eq) (rS0 fun i j => .bl (decide (i = j))) := opr_imp op_eq fun x y H Q h => by
  obtain ⟨i, j, rfl, rfl, q⟩ := h
  refine ⟨rfl, ?_⟩
  have e : decide (V.str i = V.str j) = decide (i = j) := by
    by_cases c : i = j
    · subst c; simp
    · rw [decide_eq_false c, decide_eq_false (fun z => c (V.str.inj z))]
  rw [e]; exact q
theorem op_neS : OpR X (compareOp .NotEq) (rS0 fun i j => .bl (!decide (i = j))) := opr_imp op_ne fun x y H Q h => by
  obtain ⟨i, j, rfl, rfl, q⟩ := h
  refine ⟨rfl, ?_⟩
  have e : decide (V.str i = V.str j) = decide (i = j) := by
    by_cases c : i = j
    · subst c; simp
    · rw [decide_eq_false c, decide_eq_false (fun z => c (V.str.inj z))]
  rw [e]; exact q
def rB0 (g : Bool → Bool → V) : R2 := fun x y H Q => ∃ i j, x = .bl i ∧ y = .bl j ∧ Q (g i j) H
theorem op_eqB : OpR X (compareOp .Eq) (rB0 fun i j => .bl (i == j)) := opr_imp op_eq fun x y H Q h => by
  obtain ⟨i, j, rfl, rfl, q⟩ := h
  refine ⟨rfl, ?_⟩
  rw [L2.dec_bl]; exact q
theorem op_neB : OpR X (compareOp .NotEq) (rB0 fun i j => .bl (!(i == j))) := opr_imp op_ne fun x y H Q h => by
  obtain ⟨i, j, rfl, rfl, q⟩ := h
  refine ⟨rfl, ?_⟩
  rw [L2.dec_bl]; exact q
/-- int(n) of an int -/
theorem call_intI : CallR X (.type "int") (fun xs H Q => ∃ i, xs = [.int i] ∧ Q (.int i) H) := cr_imp call_int1 fun xs H Q h => .inl h
end
end LK
namespace LK
open PySem PySem.Spec PyProof.Rows L2
/-! ### isinstance of data -/
def tyN : PyData → String
  | .none => "NoneType" | .bool _ => "bool" | .int _ => "int" | .str _ => "str" | .list _ => "list" | .tuple _ => "tuple" | .dict _ => "dict"
def isTy (T : String) : PyData → Bool
  | .none => false | .bool _ => T == "bool" || T == "int" | .int _ => T == "int" | .str _ => T == "str" | .list _ => T == "list" | .tuple _ => T == "tuple" | .dict _ => false
theorem dp_ty {K : PySem.W.Frag} {H : Hp} {v : V} {d : PyData} (h : Dp K H v d) : TyX K H v (.type (tyN d)) := by
  cases h with
  | non => exact .base .non
  | bl b => exact .base (.bl b)
  | int i => exact .base (.int i)
  | str x => exact .base (.str x)
  | lst hs _ =>
    rcases hs with (h | ⟨o, h⟩) | ⟨o, its, n, h1, h2, _⟩
    · exact .base (.lst h)
    · exact .base (.frz h)
    · exact .kList h1 h2
  | tup hs _ =>
    rcases hs with (h | ⟨o, h⟩) | ⟨o, its, n, h1, h2, _⟩
    · exact .base (.tup h)
    · exact .fTuple h
    · exact .kTuple h1 h2
theorem dp_kit {K : PySem.W.Frag} {H : Hp} {v : V} {d : PyData} (h : Dp K H v d) {T : String} (hT : T ∈ ["str", "int", "bool", "list", "tuple"]) : PySem.W.kitOne K (.type (tyN d)) (.type T) = some (isTy T d) := by
  refine kit_ty ?_
  simp only [List.mem_cons, List.mem_nil_iff, or_false] at hT
  cases h <;> rcases hT with rfl | rfl | rfl | rfl | rfl <;> (simp only [tyN, isTy]; decide +kernel)
section
variable {X : Cx}
theorem call_isiD : CallR X (.builtin "isinstance") (fun xs H Q => ∃ x T d, xs = [x, .ty T] ∧ Dp X.K H x d ∧ T ∈ ["str", "int", "bool", "list", "tuple"] ∧ Q (.bl (isTy T d)) H) := cr_imp call_isi fun xs H Q h => by
  obtain ⟨x, T, d, rfl, hd, hT, q⟩ := h
  exact ⟨x, .ty T, _, _, _, rfl, .ty T, dp_ty hd, dp_kit hd hT, q⟩
theorem call_isiDT : CallR X (.builtin "isinstance") (fun xs H Q => ∃ x tp d, xs = [x, .ref tp] ∧ H tp = some (.tup [.ty "list", .ty "tuple"]) ∧ Dp X.K H x d ∧ Q (.bl (isTy "list" d || isTy "tuple" d)) H) := cr_imp call_isiT fun xs H Q h => by
  obtain ⟨x, tp, d, rfl, ht, hd, q⟩ := h
  refine ⟨x, tp, _, .type (tyN d), [.type "list", .type "tuple"], _, rfl, ht, .cons (.ty _) (.cons (.ty _) .nil), dp_ty hd, ?_, q⟩
  have h1 := dp_kit hd (T := "list") (by simp)
  have h2 := dp_kit hd (T := "tuple") (by simp)
  unfold PySem.W.kitAny PySem.W.kitAny PySem.W.kitAny
  rw [h1, h2]
  cases isTy "list" d <;> cases isTy "tuple" d <;> rfl
/-- len of data -/
theorem call_lenD : CallR X (.builtin "len") (fun xs H Q => ∃ x d, xs = [x] ∧ Dp X.K H x d ∧ ((∃ ds, (d = .list ds ∨ d = .tuple ds) ∧ Q (.int ds.length) H) ∨ ∃ z, d = .str z ∧ z.length ≤ sizeLine ∧ Q (.int z.length) H)) := cr_imp call_len fun xs H Q h => by
  obtain ⟨x, d, rfl, hd, ⟨ds, e, q⟩ | ⟨z, rfl, hz, q⟩⟩ := h
  · have ln : ∀ {vs : List V} {es : List PyData}, DpAll X.K H vs es → vs.length = es.length := by
      intro vs es h
      induction es generalizing vs with
      | nil => cases h; rfl
      | cons a r ih => cases h with | cons _ h2 => simp [ih h2]
    rcases e with rfl | rfl
    · cases hd with
      | lst hs ha => exact ⟨_, ds.length, rfl, .inl ⟨_, hs, (ln ha).symm⟩, q⟩
    · cases hd with
      | tup hs ha => exact ⟨_, ds.length, rfl, .inr ⟨_, hs, (ln ha).symm⟩, q⟩
  · cases hd
    exact ⟨_, z.length, rfl, ⟨hz, rfl⟩, q⟩
/-- t[lo:hi] of a tuple: some tuple of that content -/
def rSlU (K : PySem.W.Frag) : V → Option Int → Option Int → Hp → VK → Prop := fun x lo hi H Q => ∃ a xs, x = .ref a ∧ SqT K H a xs ∧ ∀ q H', Same H H' → SqT K H' q (cutV xs lo hi) → Q (.ref q) H'
theorem sl_tupU : SlR X (rSlU X.K) := by
  intro pins s σ H x v vl vu lo hi sl Q I rx hs pl pu h
  obtain ⟨a, xs, rfl, hx, q⟩ := h
  refine sl_tupA pins s σ H _ v vl vu lo hi sl Q I rx hs pl pu ⟨a, xs, rfl, hx, fun hw => q a H (Same.refl H) ?_, fun hw p hp => q p _ (fun b o e => ?_) (.inl (.inl upd_same))⟩
  · have e : cutV xs lo hi = xs := by
      unfold cutV
      rw [hw.1, hw.2]
      simp
    rw [e]; exact hx
  · rw [upd_ne (ne_of_none e hp)]; exact e
def rCatU (K : PySem.W.Frag) : R2 := fun x y H Q => ∃ a b xs ys, x = .ref a ∧ y = .ref b ∧ SqT K H a xs ∧ SqT K H b ys ∧ xs.length + ys.length ≤ sizeLine ∧ ∀ q H', Same H H' → SqT K H' q (xs ++ ys) → Q (.ref q) H'
theorem op_catU : OpR X (binaryOp .Add) (rCatU X.K) := opr_imp op_catA fun x y H Q h => by
  obtain ⟨a, b, xs, ys, rfl, rfl, ha, hb, hz, q⟩ := h
  refine ⟨a, b, xs, ys, rfl, rfl, ha, hb, hz, fun e => q b H (Same.refl H) ?_, fun _ e => q a H (Same.refl H) ?_, fun _ _ p hp => q p _ (fun c o e => ?_) (.inl (.inl upd_same))⟩
  · subst e; exact hb
  · subst e; rw [List.append_nil]; exact ha
  · rw [upd_ne (ne_of_none e hp)]; exact e
/-- tuple(x) of a list or tuple -/
theorem call_tupleU : CallR X (.type "tuple") (fun xs H Q => ∃ p ys, xs = [.ref p] ∧ (SqL X.K H p ys ∨ SqT X.K H p ys) ∧ ∀ q H', Same H H' → SqT X.K H' q ys → Q (.ref q) H') := cr_imp call_tuple_of fun xs H Q h => by
  obtain ⟨p, ys, rfl, h, q⟩ := h
  refine ⟨p, ys, rfl, ?_⟩
  rcases h with h | h
  · exact .inl ⟨h, fun l hl => q l _ (fun c o e => by rw [upd_ne (ne_of_none e hl)]; exact e) (.inl (.inl upd_same))⟩
  · exact .inr ⟨h, q p H (Same.refl H) h⟩
end
/-! ### calls by keywords alone -/
def tCallZ (m : Nat) (sp : Sp) (gV : List V → List V) (E : XK) (tk : TA) : TE := fun σ H Q => tk σ H fun zs H2 => zs.length = m ∧ sp (gV zs) H2 Q E
section
variable {X : Cx} {CX : CXT} {k : Nat} {f : Addr} {fd : FuncData} {ps ks : List Str} {sp : Sp} {E : XK} {x : Str} {p pos : Pos} {kws : List Keyword} {tk : TA} {g : List Value → List Value} {gV : List V → List V}
/-- f(k = v, ..) -/
theorem pe_callZ (F : FnOk X.prog X.w X.K X.mg X.base CX k f fd ps sp) (hr : Room k X.A) (hg : Gl X x) (hm : X.mg x = some (.ref f)) (hk : PySem.W.keepIn X.K (.ref f) = true) (hb : KBn X.K fd ps 0 ks (fun _ ws => g ws) (fun _ zs => gV zs)) (hx : Passes CX X E)
    (hkw : PK X kws tk) (hall : (backToKw pos (keywordEach kws X.env)).all (·.1.isSome) = true := by rfl) (hks : (backToKw pos (keywordEach kws X.env)).filterMap (·.1) = ks := by rfl)
    (hdb : (x == ("__debug__" : Str)) = false := by decide)
    (hpl : ((backTo pos (starEach [] X.env)).any (·.1) || (backToKw pos (keywordEach kws X.env)).any (·.1.isNone)) = false := by rfl) :
    PE X (.Call (.Name x p) [] kws pos) (tCallZ ks.length sp gV E tk) := by
  refine ⟨fun pins s σ H Q I h => ?_⟩
  refine wpAny_Call_Name_kw (ld_glob I hg hm ?_ hdb)
  refine PySem.W.callWith_KW0 (h₀ := X.base) I.ok.mod.kin hk hall (thn (hkw.run pos pins s σ H _ I h) fun ws s2 ⟨zs, H2, I2, rz, l2, q2⟩ => ⟨I2.kIn, ?_⟩) hpl
  rw [hks]
  exact run_fnN F hr hb hx I2 .nil rz rfl l2 q2
end
theorem kb_of {K : PySem.W.Frag} {x qual : Str} {st : Stmt} {f : Addr} {fd : FuncData} {ps : List Str} (F : Fun K x qual st f fd) {n : Nat} {ks : List Str} (g : {α : Type} → List α → List α → List α)
    (hrel : ∀ {vs zs : List V} {us ws : List Value}, Vals vs us → Vals zs ws → Vals (g vs zs) (g us ws))
    (h : ∀ (kV doc pm : Value) (an : Option Addr) (cdv ct : Value) (us ws : List Value), us.length = n → ws.length = ks.length → bindArgs (PySem.W.fnOf x qual (defArgs st) (defBody st) (defScope st) .none kV doc pm an cdv ct) ⟨us, ks.zip ws⟩ = pure (ps.zip (g us ws))) : KBn K fd ps n ks (fun us ws => g us ws) (fun vs zs => g vs zs) := by
  obtain ⟨oc, od, kV, doc, pm, an, cdv, ct, osl, rfl, lk, hcd⟩ := F.ex
  exact ⟨fun s us ws _ l1 l2 => .of_eq (h kV doc pm an cdv ct us ws l1 l2), hrel⟩
end LK

namespace LK
open PySem PySem.Spec PyProof.Rows L2
/-! ### t[::-1] of a tuple -/
theorem fm_map {α β : Type} {f : α → Option β} {g : α → β} : ∀ {l : List α}, (∀ m ∈ l, f m = some (g m)) → l.filterMap f = l.map g
  | [], _ => rfl
  | a :: l, h => by
    rw [List.filterMap_cons, h a List.mem_cons_self]
    exact congrArg (g a :: ·) (fm_map fun m hm => h m (List.mem_cons_of_mem _ hm))
theorem rev_pick (xs : Array Value) : ((List.range xs.size).filterMap fun (m : Nat) => xs[(((xs.size : Int) - 1) + (m : Int) * (-1)).toNat]?).toArray = xs.toList.reverse.toArray := by
  have e : ((List.range xs.size).filterMap fun (m : Nat) => xs[(((xs.size : Int) - 1) + (m : Int) * (-1)).toNat]?) = xs.toList.reverse := by
    have h : ∀ m ∈ List.range xs.size, (xs[(((xs.size : Int) - 1) + (m : Int) * (-1)).toNat]?) = some (xs.toList.reverse.getD m .none) := by
      intro m hm
      have hm := List.mem_range.mp hm
      have e1 : (((xs.size : Int) - 1) + (m : Int) * (-1)).toNat = xs.size - 1 - m := by omega
      rw [e1, List.getD_eq_getElem?_getD, List.getElem?_reverse (by simpa using hm)]
      rw [Array.getElem?_eq_getElem (by omega), Array.length_toList, List.getElem?_eq_getElem (by rw [Array.length_toList]; omega)]
      rfl
    rw [fm_map h]
    refine List.ext_getElem? fun i => ?_
    rw [List.getElem?_map]
    by_cases hi : i < xs.size
    · rw [List.getElem?_range hi, List.getElem?_eq_getElem (by simpa using hi)]
      simp [List.getElem?_eq_getElem, hi]
    · rw [List.getElem?_eq_none (by simpa using hi), List.getElem?_eq_none (by simpa using hi)]
      rfl
  rw [e]
section
variable {prog : Program} {w : World} {A : Around} {E : Value → Shared → Prop} {s : Shared}
theorem sliceApplied_rev {sl : Addr} {vl vu vs : Value} {n : Nat} {Q : Int × Int × Nat → Shared → Prop} (hs : s.heap.IsSliceOf sl vl vu vs) (pl : IsPart vl none) (pu : IsPart vu none) (ps : IsPart vs (some (-1)))
    (h : Q ((n : Int) - 1, -1, n) s) : wpAny (model prog w) A (Builtin.Slice.sliceApplied (.ref sl) (pure (n : Int))) Q E s := by
  obtain ⟨os, hos, hcs, hds⟩ := id hs
  unfold Builtin.Slice.sliceApplied Builtin.Slice.sliceFields
  refine wpAny_bind (wpAny_bind (wpAny_field hos hds (x := vl) rfl (wpAny_bind (wpAny_field hos hds (x := vu) rfl (wpAny_bind (wpAny_field hos hds (x := vs) rfl (wpAny_pure ?_)))))))
  refine wpAny_bind (HT.slicePart_ ps ?_)
  show wpAny _ _ (if ((-1 : Int) == 0) = true then _ else _) _ _ s
  rw [if_neg (by decide)]
  refine wpAny_bind (HT.slicePart_ pl (wpAny_bind (HT.slicePart_ pu (wpAny_bind (wpAny_pure ?_)))))
  show wpAny _ _ (match Builtin.Slice.sliceAdjust none none (-1) (n : Int) with | (lo, hi) => pure (lo, (-1 : Int), Builtin.Slice.slicePlaces lo hi (-1))) _ _ s
  have e1 : Builtin.Slice.sliceAdjust none none (-1) (n : Int) = ((n : Int) - 1, -1) := rfl
  rw [e1]
  show wpAny _ _ (pure ((n : Int) - 1, (-1 : Int), Builtin.Slice.slicePlaces ((n : Int) - 1) (-1) (-1))) _ _ s
  have e2 : Builtin.Slice.slicePlaces ((n : Int) - 1) (-1) (-1) = n := by
    unfold Builtin.Slice.slicePlaces
    rw [if_neg (by decide)]
    by_cases c : n = 0
    · subst c; rfl
    · rw [if_pos (by omega)]
      show (((n : Int) - 1 - -1 - 1) / 1 + 1).toNat = n
      rw [Int.ediv_one]; omega
  rw [e2]
  exact wpAny_pure h
theorem getItem_tuple_rev {t sl : Addr} {items : Array Value} {vl vu vs : Value} {Q : Value → Shared → Prop} (ht : IsTup s.heap t items) (hs : s.heap.IsSliceOf sl vl vu vs) (pl : IsPart vl none) (pu : IsPart vu none) (ps : IsPart vs (some (-1)))
    (h : Q (.ref s.heap.objs.size) { s with heap := s.heap.push { cls := .type "tuple", data := .seq items.toList.reverse.toArray } })
    (hsz : items.size ≤ sizeLine) : wpAny (model prog w) A (getItem (.ref t) (.ref sl)) Q E s := by
  have htake : sizeOk (.seq items.toList.reverse.toArray) := by
    show items.toList.reverse.toArray.size ≤ sizeLine
    simpa using hsz
  obtain ⟨os, hos, hcs, hds⟩ := id hs
  have hTs : s.TypeIs (.ref sl) "slice" := ⟨os, hos, hcs⟩
  unfold getItem
  try with_reducible refine wpAny_holding ?_
  first | refine wpAny_bind (wpAny_pure ?_) | skip
  refine wpAny_bind (wpAny_sequenceKey ht.typeIs (by decide) ?_)
  refine wpAny_bind (wpAny_callSpecial?_slot (name := Str.ofString "__getitem__") ht.typeIs PyProof.Rows.slot_tuple_getitem
    (wpAny_call_entry PyProof.Rows.slot_tuple_getitem ht.typeIs PyProof.Rows.entry_tuple_getitem ?_ (PyProof.Rows.args_tuple_getitem _ _)))
  show wpAny _ _ (Builtin.Tuple.tupleItemsOf (.ref t) >>= _) _ _ s
  refine wpAny_bind (PyProof.Rows.tupleItemsOf_ ht ?_)
  refine wpAny_bind (wpAny_typeOf hTs ?_)
  rw [if_pos (by decide)]
  refine wpAny_bind (sliceApplied_rev hs pl pu ps ?_)
  have hno : ¬ ((((items.size : Int) - 1) == 0 && (-1 : Int) == 1 && items.size == items.size) = true) := by
    intro q
    rw [Bool.and_eq_true, Bool.and_eq_true] at q
    exact absurd (eq_of_beq q.1.2) (by decide)
  show wpAny _ _ (if (((items.size : Int) - 1) == 0 && (-1 : Int) == 1 && items.size == items.size) = true then _ else _) _ _ s
  rw [if_neg hno, rev_pick]
  first
    | exact wpAny_bind (m := Builtin.Tuple.tupleExact _) (wpAny_newObj_type (wpAny_pure ⟨_, rfl, wpAny_pure h⟩) htake)
    | exact wpAny_bind (m := Builtin.Tuple.tupleExact _) (wpAny_newObj_type (wpAny_bind (wpAny_pure (wpAny_pure ⟨_, rfl, wpAny_pure h⟩))) htake)
    | exact wpAny_bind (wpAny_bind (m := Builtin.Tuple.tupleExact _) (wpAny_newObj_type (wpAny_pure (wpAny_pure ⟨_, rfl, wpAny_pure h⟩)) htake))
    | exact wpAny_bind (wpAny_bind (m := Builtin.Tuple.tupleExact _) (wpAny_newObj_type (wpAny_pure ⟨_, rfl, wpAny_pure h⟩) htake))
end
section
variable {X : Cx}
def tRevT (K : PySem.W.Frag) (te : TE) : TE := fun σ H Q => te σ H fun x H1 => ∃ a xs, x = .ref a ∧ SqT K H1 a xs ∧ ∀ p H2, Same H1 H2 → H1 p = none → H2 p = some (.tup xs.reverse) → Q (.ref p) H2
theorem pe_revT {e : Expr} {te : TE} {k : Nat} {p1 p2 p3 pos : Pos} (he : PE X e te) : PE X (.Subscript e (.Slice none none (some (.UnaryOp .USub (.Constant (.int 1) k p1) p2)) p3) pos) (tRevT X.K te) := by
  refine ⟨fun pins s σ H Q I h => ?_⟩
  refine Subscript_ (thn (he.run pins s σ H _ I h) fun v s1 ⟨x, H1, I1, r1, q1⟩ => ?_)
  obtain ⟨a, xs, ex, hx, q⟩ := q1
  subst ex
  cases r1
  have hst : PO X (some (.UnaryOp .USub (.Constant (.int 1) k p1) p2)) (tPart (tUn (rU fun i => .int (-i)) (tC (.int 1)))) := po_some (pe_un un_neg pe_int)
  refine wpAny_Slice (thn (po_none.run pins s1 σ H1 (fun o H2 => o = none ∧ H2 = H1) I1 ⟨rfl, rfl⟩) fun vl s2 ⟨l, H2, I2, pl, el, e2⟩ => ?_)
  subst el e2
  refine thn (po_none.run pins s2 σ H2 (fun o H3 => o = none ∧ H3 = H2) I2 ⟨rfl, rfl⟩) fun vu s3 ⟨u, H3, I3, pu, eu, e3⟩ => ?_
  subst eu e3
  refine thn (hst.run pins s3 σ H3 (fun o H4 => o = some (-1) ∧ H4 = H3) I3 ⟨1, rfl, -1, rfl, rfl, rfl⟩) fun vs s4 ⟨o, H4, I4, ps, eo, e4⟩ => ?_
  subst eo e4
  have I5 : Inv X pins σ H4 { s4 with heap := s4.heap.push { cls := .type "slice", data := .fields #[vl, vu, vs] } } := I4.kept (t' := s4.toks) fun b ob q => Heap.get?_push_of_some _ q
  obtain ⟨its, r, ht, hz⟩ := I5.tuple hx
  have hlen := r.length
  show wpAny (model X.prog X.w) X.A (subscriptTail e (.Slice none none (some (.UnaryOp .USub (.Constant (.int 1) k p1) p2)) p3) (.ref a) (.ref s4.heap.objs.size)) (EP X pins σ Q) X.xe { s4 with heap := s4.heap.push { cls := .type "slice", data := .fields #[vl, vu, vs] } }
  refine tail_any (ops := [.ref a, .ref s4.heap.objs.size]) ht.typeIs (PyProof.Rows.slot_tuple_getitem.lookup) ?_ (by with_unfolding_all rfl)
  refine getItem_tuple_rev ht (Heap.IsSliceOf.new _ vl vu vs) pl pu ps ?_ (by rw [List.size_toArray]; omega)
  refine ⟨.ref _, _, I5.laid (t' := s4.toks) (o := .tup xs.reverse) (fun b ob q => Heap.get?_push_of_some _ q) (Nat.le_refl _) ?_, rfl, q _ _ (same_upd (I5.hok.fresh (Nat.le_refl _))) (I5.hok.fresh (Nat.le_refl _)) upd_same⟩
  exact ⟨by rw [List.length_reverse]; exact hz, _, r.reverse, IsTup.new _ _⟩
end
end LK
namespace LK
open PySem PySem.Spec PyProof.Rows L2
/-! ### d.get(k) of a written dict with text keys -/
section
variable {X : Cx} {d : Addr} {es : Array DictEntry} {n : Nat} {o e : Expr} {apos cpos : Pos} {td ty : TE}
def tWget (K : PySem.W.Frag) (d : Addr) (td ty : TE) : TE := fun σ H Q => td σ H fun x H1 => x = .ref d ∧ ty σ H1 fun y H2 => ∃ (z : Str) (r : Option Value) (v : V), y = .str z ∧ PySem.W.nsIn K d z = some r ∧ RelV v (r.getD .none) ∧ Q v H2
theorem pe_wget (D : KDict X.K X.w d es n) (ho : PE X o td) (he : PE X e ty) (hbase : attributeBase o "get" X.env (eval o X.env) = eval o X.env := by rfl)
    (hfew : ((backTo cpos (starEach [e] X.env)).all (fun x => !x.1) && (backToKw cpos (keywordEach [] X.env)).all (fun x => x.1.isSome)
    && decide (([e] : List Expr).length + ([] : List Keyword).length + (if ([] : List Keyword).isEmpty then 0 else 1) < 30)) = true := by rfl)
    (hline : (apos.endLine == cpos.line) = true := by rfl) (htr : backTo cpos (starEach [e] X.env) = [(false, eval e X.env)] := by rfl) : PE X (.Call (.Attribute o "get" apos) [e] [] cpos) (tWget X.K d td ty) := by
  refine ⟨fun pins s σ H Q I h => ?_⟩
  refine wpAny_Call_method hbase hfew hline PySem.F.plainAttrs_dict PySem.F.slot_dict_get PySem.F.type_dict_get (thn (ho.run pins s σ H _ I h) fun u s1 ⟨x, H1, I1, rx, ex, q1⟩ => ?_)
  subst ex
  obtain rfl : u = Value.ref d := rx
  have ob := I1.kIn _ _ D.at_
  refine ⟨kd_type D I1, fun b q => ?_, ?_⟩
  · cases q
    exact ⟨_, ob, rfl⟩
  rw [htr]
  refine Calls.callWith_builtin rfl (Calls.evalArgs_plain (Calls.spliced_cons (thn (he.run pins s1 σ H1 _ I1 q1) fun iv s2 ⟨y, H2, I2, ry, z, r, v, ey, hn, rv, q2⟩ => Calls.spliced_nil ?_)))
  subst ey
  obtain ⟨t, rfl⟩ := ry
  refine call_meetsIn PySem.F.slot_dict_get (kd_type D I2) PySem.F.entry_dict_get (PySem.F.args_dict_get_2 _ _) (meets_dict_get (strKind X.prog X.w) d (PySem.strKind_is X.prog X.w z t) D.low)
    ⟨_, PySem.W.mapOf_K (prog := X.prog) I2.kIn D.at_ D.lit, v, H2, I2.tok _, ?_, q2⟩
  rw [PySem.W.find_K D.at_ hn]
  exact rv
end
end LK
namespace LK
open PySem PySem.Spec PyProof.Rows L2
/-! ### comprehensions without tests -/
/-- what is new since H -/
def nw (H H' : Hp) : Hp := fun a => if H a = none then H' a else none
theorem nw_some {H H' : Hp} {a : Addr} {o : HO} (h : nw H H' a = some o) : H a = none ∧ H' a = some o := by
  unfold nw at h
  split at h
  · exact ⟨by assumption, h⟩
  · cases h
theorem nw_of {H H' : Hp} {a : Addr} {o : HO} (h0 : H a = none) (h : H' a = some o) : nw H H' a = some o := by
  unfold nw
  rw [if_pos h0]; exact h
theorem nw_le (H H' : Hp) : Same (nw H H') H' := fun _ _ h => (nw_some h).2
theorem nw_hb {H H' : Hp} {b : Addr} {o : HO} (h : H b = some o) : Same (nw H H') (hb H' b) := fun a u e => by
  obtain ⟨h1, h2⟩ := nw_some e
  have n : a ≠ b := fun q => by rw [q, h] at h1; cases h1
  rw [hb_ne n]; exact h2
/-- new since a later heap is new since an earlier one -/
theorem nw_anti {H0 H H' : Hp} (d : ∀ a, H a = none → H0 a = none) : Same (nw H H') (nw H0 H') := fun a u e => by
  obtain ⟨h1, h2⟩ := nw_some e
  exact nw_of (d a h1) h2
theorem nw_same {H H' H'' : Hp} (s : ∀ a o, H a = none → H' a = some o → H'' a = some o) : Same (nw H H') (nw H H'') := fun a u e => by
  obtain ⟨h1, h2⟩ := nw_some e
  exact nw_of h1 (s _ _ h1 h2)
theorem Kp.dom {b : Addr} {H H' : Hp} {o : HO} (k : Kp b H H') (hb' : H' b = some o) : ∀ a, H' a = none → H a = none := fun a h => by
  cases q : H a with
  | none => rfl
  | some u =>
    by_cases e : a = b
    · subst e; rw [hb'] at h; cases h
    · rw [k.hd q e] at h; cases h
theorem Same.dom {H H' : Hp} (k : Same H H') : ∀ a, H' a = none → H a = none := fun a h => k.free h

/-- a pure one -/
theorem lc_pure {J : It} {n : Nat} {G : Hp → Prop} {Y : Nat → Hp → V → Hp → Prop} (w : Walk J n G Y) {g : TG} {te : TE} {vs : List Nat} {σ : L2.St} {H1 : Hp} {D : Addr} {Qd : Hp → Prop} (hD : H1 D = none) (hn : n ≤ 1000000) (y : Nat → V)
    (hG : ∀ H, Same H1 H → G H)
    (hs : ∀ i x H H', i < n → Same H1 H → Y i H x H' → g x (wipe σ vs) H' fun σ2 H2 => Same H H2 ∧ wipe σ2 vs = wipe σ vs ∧ ∀ Q2 : V → Hp → Prop, (∀ H3, Same H2 H3 → Q2 (y i) H3) → te σ2 H2 Q2)
    (gm : ∀ x σ0 H0 Q0 Q1, (∀ σ2 H2, Q0 σ2 H2 → Q1 σ2 H2) → g x σ0 H0 Q0 → g x σ0 H0 Q1)
    (hq : ∀ H', Same H1 H' → H' D = some (.lst ((List.range n).map y)) → Qd H') :
    ∃ W : Nat → Nat → Hp → Prop, (∃ m, W 0 m (upd H1 D (.lst []))) ∧ ∀ i m H, W i m H →
      (J.stop i H ∧ Qd H) ∨ (J.go i H ∧ ∃ Nx : Hp → Prop, (∀ H', Nx H' → ∃ m', m' < m ∧ W (i + 1) m' H') ∧ ∀ x H', J.yld i H x H' → g x (wipe σ vs) H' fun σ2 H2 => wipe σ2 vs = wipe σ vs ∧ tYes σ2 H2 fun b H3 =>
        if b = true then te σ2 H3 fun y H4 => ∃ acc, H4 D = some (.lst acc) ∧ acc.length < sizeLine ∧ Nx (upd H4 D (.lst (acc ++ [y]))) else Nx H3) := by
  have up : ∀ {H : Hp} {o : HO}, Same H1 H → Same H1 (upd H D o) := fun s a u e => by
    rw [upd_ne (ne_of_none e hD)]; exact s _ _ e
  refine lc_it w (fun i H => Same H1 H ∧ H D = some (.lst ((List.range i).map y))) ⟨up (Same.refl _), upd_same⟩ (fun i H _ h => hG H h.1) (fun i x H H' hi ⟨s1, h1⟩ hY => ?_) (fun H h => hq H h.1 h.2)
  refine gm _ _ _ _ _ (fun σ2 H2 ⟨s2, e2, k⟩ => ⟨e2, ?_⟩) (hs i x H H' hi s1 hY)
  simp only [tYes, eq_self, ite_true]
  refine k _ fun H3 s3 => ⟨_, s3 _ _ (s2 _ _ h1), ?_, up (Same.trans (Same.trans s1 s2) s3), ?_⟩
  · rw [List.length_map, List.length_range]
    exact Nat.lt_of_lt_of_le (Nat.lt_of_lt_of_le hi hn) (by decide)
  · rw [upd_same, List.range_succ, List.map_append]
    rfl
/-- one that draws from a bag -/
theorem lc_bag {J : It} {n : Nat} {G : Hp → Prop} {Y : Nat → Hp → V → Hp → Prop} (w : Walk J n G Y) {g : TG} {te : TE} {vs : List Nat} {σ : L2.St} {H1 : Hp} {D b c : Addr} {Qd : Hp → Prop} (hD : H1 D = none) (hB : Bag H1 b c) (hn : n ≤ 1000000) (Φ : Hp → V → Prop) (mono : ∀ G G' v, Same G G' → Φ G v → Φ G' v)
    (hG : ∀ H, Kp b H1 H → G H)
    (hs : ∀ i x H H', i < n → Kp b H1 H → Bag H b c → Y i H x H' → g x (wipe σ vs) H' fun σ2 H2 => Same H H2 ∧ wipe σ2 vs = wipe σ vs ∧ ∀ Q2 : V → Hp → Prop, (∀ v H3, Bag H3 b c → Kp b H2 H3 → Φ (nw H2 H3) v → Q2 v H3) → te σ2 H2 Q2)
    (gm : ∀ x σ0 H0 Q0 Q1, (∀ σ2 H2, Q0 σ2 H2 → Q1 σ2 H2) → g x σ0 H0 Q0 → g x σ0 H0 Q1)
    (hq : ∀ H' ys, Bag H' b c → Kp b H1 H' → H' D = some (.lst ys) → ys.length = n → (∀ v ∈ ys, Φ (nw (upd H1 D (.lst [])) H') v) → Qd H') :
    ∃ W : Nat → Nat → Hp → Prop, (∃ m, W 0 m (upd H1 D (.lst []))) ∧ ∀ i m H, W i m H →
      (J.stop i H ∧ Qd H) ∨ (J.go i H ∧ ∃ Nx : Hp → Prop, (∀ H', Nx H' → ∃ m', m' < m ∧ W (i + 1) m' H') ∧ ∀ x H', J.yld i H x H' → g x (wipe σ vs) H' fun σ2 H2 => wipe σ2 vs = wipe σ vs ∧ tYes σ2 H2 fun b H3 =>
        if b = true then te σ2 H3 fun y H4 => ∃ acc, H4 D = some (.lst acc) ∧ acc.length < sizeLine ∧ Nx (upd H4 D (.lst (acc ++ [y]))) else Nx H3) := by
  obtain ⟨xb, eb⟩ := hB.at
  obtain ⟨xc, ec⟩ := hB.at2
  have nbD : b ≠ D := fun e => by rw [← e, eb] at hD; cases hD
  have ncD : c ≠ D := fun e => by rw [← e, ec] at hD; cases hD
  have up : ∀ {H : Hp} {o : HO}, Kp b H1 H → Kp b H1 (upd H D o) := fun s a u e => by
    obtain ⟨h1, h2⟩ := hb_some e
    rw [hb_ne h1, upd_ne (ne_of_none h2 hD)]
    exact s.hd h2 h1
  refine lc_it w (fun i H => Kp b H1 H ∧ Bag H b c ∧ ∃ ys, H D = some (.lst ys) ∧ ys.length = i ∧ ∀ v ∈ ys, Φ (nw (upd H1 D (.lst [])) H) v) ⟨up (Kp.refl _ _), hB.upd nbD ncD, [], upd_same, rfl, fun v hv => absurd hv (by simp)⟩ (fun i H _ h => hG H h.1) (fun i x H H' hi ⟨s1, B1, ys, h1, hl, hp⟩ hY => ?_) (fun H ⟨s1, B1, ys, h1, hl, hp⟩ => hq H ys B1 s1 h1 hl hp)
  refine gm _ _ _ _ _ (fun σ2 H2 ⟨s2, e2, k⟩ => ⟨e2, ?_⟩) (hs i x H H' hi s1 B1 hY)
  simp only [tYes, eq_self, ite_true]
  have B2 := B1.same s2
  refine k _ fun v H3 B3 k3 hv => ⟨ys, k3.hd (s2 _ _ h1) nbD.symm, ?_, up (Same.trans (Same.trans s1 (Kp.of s2)) k3), B3.upd nbD ncD, ys ++ [v], upd_same, by rw [List.length_append, hl]; rfl, fun u hu => ?_⟩
  · rw [hl]
    exact Nat.lt_of_lt_of_le (Nat.lt_of_lt_of_le hi hn) (by decide)
  · have kk : ∀ a o, upd H1 D (.lst []) a = none → H3 a = some o → upd H3 D (.lst (ys ++ [v])) a = some o := fun a o q e => by
      have n : a ≠ D := fun z => by rw [z, upd_same] at q; cases q
      rw [upd_ne n]; exact e
    rcases List.mem_append.mp hu with hu | hu
    · refine mono _ _ _ (fun a o e => ?_) (hp u hu)
      obtain ⟨q1, q2⟩ := nw_some e
      have n : a ≠ b := fun z => by rw [z, upd_ne nbD, eb] at q1; cases q1
      exact nw_of q1 (kk _ _ q1 (k3.hd (s2 _ _ q2) n))
    · obtain rfl : u = v := by simpa using hu
      refine mono _ _ _ (fun a o e => ?_) hv
      obtain ⟨q1, q2⟩ := nw_some e
      have d1 : upd H1 D (.lst []) a = none := by
        by_cases n : a = D
        · rw [n, s2 _ _ h1] at q1; cases q1
        · rw [upd_ne n]
          exact Kp.dom (Same.trans s1 (Kp.of s2)) (B2.at.choose_spec) a q1
      exact nw_of d1 (kk _ _ d1 q2)
end LK
namespace LK
open PySem PySem.Spec PyProof.Rows L2
theorem cutV_take (xs : List V) (k : Nat) : cutV xs none (some (k : Int)) = xs.take k := by
  unfold cutV HT.sIx
  simp only [List.drop_zero, Nat.sub_zero]
  by_cases h : (k : Int) < 0
  · omega
  · rw [if_neg h]
    have e : ((k : Int)).toNat = k := Int.toNat_natCast k
    by_cases c : k ≤ xs.length
    · congr 1
      omega
    · rw [List.take_of_length_le (by omega), List.take_of_length_le (by omega)]
theorem cutV_drop (xs : List V) (k : Nat) : cutV xs (some (k : Int)) none = xs.drop k := by
  unfold cutV
  rw [HT.sIx_nat, HT.sIx_none]
  by_cases c : k ≤ xs.length
  · rw [Nat.min_eq_left c, List.take_of_length_le (by simp)]
  · rw [Nat.min_eq_right (by omega), List.drop_eq_nil_of_le (by omega), List.drop_eq_nil_of_le (by omega)]
    simp
end LK
namespace LK
open PySem PySem.Spec PyProof.Rows L2
/-! ### new objects, the heap behind them by a name -/
section
variable {X : Cx} {es : List Expr} {t : TA} {pos : Pos}
def tTupU (t : TA) : TE := fun σ H Q => t σ H fun xs H1 => xs.length ≤ sizeLine ∧ ∀ p H2, Same H1 H2 → H1 p = none → H2 p = some (.tup xs) → Q (.ref p) H2
def tLstU (t : TA) : TE := fun σ H Q => t σ H fun xs H1 => xs.length ≤ sizeLine ∧ ∀ p H2, Same H1 H2 → H1 p = none → H2 p = some (.lst xs) → Q (.ref p) H2
theorem pe_tupU {x1} (h : PA X es t) : PE X (.Tuple es x1 pos) (tTupU t) := by
  refine ⟨fun pins s σ H Q I hq => ?_⟩
  refine wpAny_Tuple_spliced (thn (h.run pos pins s σ H _ I hq) fun us s1 ⟨xs, H1, I1, r, z, q⟩ => ⟨by rw [← r.length]; exact z, ?_⟩)
  have hf : H1 s1.heap.objs.size = none := I1.hok.fresh (Nat.le_refl _)
  refine ⟨.ref s1.heap.objs.size, L2.upd H1 s1.heap.objs.size (.tup xs), I1.laid (t' := s1.toks) (fun b u e => Heap.get?_push_of_some _ e) (Nat.le_refl _) ?_, rfl, q _ _ (same_upd hf) hf upd_same⟩
  exact ⟨z, us, r, ⟨_, Heap.get?_push_size _ rfl, rfl, _, rfl⟩⟩
theorem pe_lstU (h : PA X es t) : PE X (.List es pos) (tLstU t) := by
  refine ⟨fun pins s σ H Q I hq => ?_⟩
  refine wpAny_List_spliced (thn (h.run pos pins s σ H _ I hq) fun us s1 ⟨xs, H1, I1, r, z, q⟩ => ⟨by rw [← r.length]; exact z, ?_⟩)
  have hf : H1 s1.heap.objs.size = none := I1.hok.fresh (Nat.le_refl _)
  refine ⟨.ref s1.heap.objs.size, L2.upd H1 s1.heap.objs.size (.lst xs), I1.laid (t' := s1.toks) (fun b u e => Heap.get?_push_of_some _ e) (Nat.le_refl _) ?_, rfl, q _ _ (same_upd hf) hf upd_same⟩
  exact ⟨z, us, 0, r, Heap.get?_push_size _ rfl⟩
def rSlLU (K : PySem.W.Frag) : V → Option Int → Option Int → Hp → VK → Prop := fun x lo hi H Q => ∃ a xs, x = .ref a ∧ SqL K H a xs ∧ ∀ p H2, Same H H2 → H p = none → H2 p = some (.lst (cutV xs lo hi)) → Q (.ref p) H2
theorem sl_listU : SlR X (rSlLU X.K) := by
  intro pins s σ H x v vl vu lo hi sl Q I rx hs pl pu h
  obtain ⟨a, xs, rfl, hx, q⟩ := h
  exact sl_list pins s σ H _ v vl vu lo hi sl Q I rx hs pl pu ⟨a, xs, rfl, hx, fun p hp => q p _ (same_upd hp) hp upd_same⟩
theorem call_listU : CallR X (.type "list") (fun xs H Q => ∃ p ys, xs = [.ref p] ∧ (SqL X.K H p ys ∨ SqT X.K H p ys) ∧ ∀ l H2, Same H H2 → H l = none → H2 l = some (.lst ys) → Q (.ref l) H2) := cr_imp call_list_of fun xs H Q h => by
  obtain ⟨p, ys, rfl, h, q⟩ := h
  exact ⟨p, ys, rfl, h, fun l hl => q l _ (same_upd hl) hl upd_same⟩
def rCatL : R2 := fun x y H Q => ∃ l b xs zs, x = .ref l ∧ y = .ref b ∧ H l = some (.lst xs) ∧ H b = some (.lst zs) ∧ xs.length + zs.length ≤ sizeLine ∧ ∀ p H2, Same H H2 → H p = none → H2 p = some (.lst (xs ++ zs)) → Q (.ref p) H2
theorem op_catL : OpR X (binaryOp .Add) rCatL := opr_imp op_cat fun x y H Q h => by
  obtain ⟨l, b, xs, zs, rfl, rfl, h1, h2, hz, q⟩ := h
  exact ⟨l, b, xs, zs, rfl, rfl, h1, h2, hz, fun p hp => q p _ (same_upd hp) hp upd_same⟩
def rRepL : R2 := fun x y H Q => ∃ l k xs, x = .ref l ∧ y = .int k ∧ H l = some (.lst xs) ∧ -(2 ^ 63) ≤ k ∧ k < 2 ^ 63 ∧ xs.length * k.toNat ≤ sizeLine ∧ ∀ p H2, Same H H2 → H p = none → H2 p = some (.lst (List.replicate k.toNat xs).flatten) → Q (.ref p) H2
theorem op_repL : OpR X (binaryOp .Mult) rRepL := opr_imp op_rep fun x y H Q h => by
  obtain ⟨l, k, xs, rfl, rfl, h1, h2, h3, hz, q⟩ := h
  exact ⟨l, k, xs, rfl, rfl, h1, h2, h3, hz, fun p hp => q p _ (same_upd hp) hp upd_same⟩
end
end LK
namespace LK
open PySem PySem.Spec PyProof.Rows L2
/-- [f(x) for x in ..], the items known -/
theorem lc_map {J : It} {n : Nat} {G : Hp → Prop} {Y : Nat → Hp → V → Hp → Prop} (w : Walk J n G Y) {te : TE} {i : Nat} {σ : L2.St} {H1 : Hp} {D : Addr} {Qd : Hp → Prop} (xs : List V) (f : V → V) (hD : H1 D = none) (hn : n ≤ 1000000) (hx : xs.length = n)
    (hY : ∀ k H x H', k < n → Y k H x H' → H' = H ∧ xs[k]? = some x) (hG : ∀ H, Same H1 H → G H)
    (hs : ∀ x H, x ∈ xs → Same H1 H → ∀ Q2 : V → Hp → Prop, (∀ H3, Same H H3 → Q2 (f x) H3) → te ((wipe σ [i]).set i (some x)) H Q2)
    (hq : ∀ H', Same H1 H' → H' D = some (.lst (xs.map f)) → Qd H') :
    ∃ W : Nat → Nat → Hp → Prop, (∃ m, W 0 m (L2.upd H1 D (.lst []))) ∧ ∀ i' m H, W i' m H →
      (J.stop i' H ∧ Qd H) ∨ (J.go i' H ∧ ∃ Nx : Hp → Prop, (∀ H', Nx H' → ∃ m', m' < m ∧ W (i' + 1) m' H') ∧ ∀ x H', J.yld i' H x H' → gName i x (wipe σ [i]) H' fun σ2 H2 => wipe σ2 [i] = wipe σ [i] ∧ tYes σ2 H2 fun b H3 =>
        if b = true then te σ2 H3 fun y H4 => ∃ acc, H4 D = some (.lst acc) ∧ acc.length < sizeLine ∧ Nx (L2.upd H4 D (.lst (acc ++ [y]))) else Nx H3) := by
  have e : (List.range n).map (fun k => f (xs.getD k .non)) = xs.map f := by
    refine List.ext_getElem? fun k => ?_
    rw [List.getElem?_map, List.getElem?_map]
    by_cases hk : k < n
    · rw [List.getElem?_range hk, List.getElem?_eq_getElem (by omega)]
      simp [List.getD_eq_getElem?_getD, List.getElem?_eq_getElem (show k < xs.length by omega)]
    · rw [List.getElem?_eq_none (by simpa using hk), List.getElem?_eq_none (by omega)]
      rfl
  refine lc_pure w hD hn (fun k => f (xs.getD k .non)) hG (fun k x H H' hk s1 y => ?_) (fun x σ0 H0 Q0 Q1 h q => h _ _ q) (fun H' s h => hq H' s (by rw [← e]; exact h))
  obtain ⟨rfl, hx2⟩ := hY _ _ _ _ hk y
  refine ⟨Same.refl _, ?_, fun Q2 h2 => hs x H' (List.mem_of_getElem? hx2) s1 Q2 fun H3 s3 => ?_⟩
  · show ((σ.set i none).set i (some x)).set i none = σ.set i none
    rw [List.set_set, List.set_set]
  · have e2 : xs.getD k .non = x := by rw [List.getD_eq_getElem?_getD, hx2]; rfl
    have := h2 H3 s3
    rw [e2] at this
    exact this
/-- the same, drawing from a bag -/
theorem lc_draw {J : It} {n : Nat} {G : Hp → Prop} {Y : Nat → Hp → V → Hp → Prop} (w : Walk J n G Y) {te : TE} {i : Nat} {σ : L2.St} {H1 : Hp} {D b c : Addr} {Qd : Hp → Prop} (Φ : Hp → V → Prop) (mono : ∀ G G' v, Same G G' → Φ G v → Φ G' v) (hD : H1 D = none) (hB : Bag H1 b c) (hn : n ≤ 1000000)
    (hY : ∀ k H x H', Y k H x H' → H' = H) (hG : ∀ H, Kp b H1 H → G H)
    (hs : ∀ x H, Kp b H1 H → Bag H b c → ∀ Q2 : V → Hp → Prop, (∀ v H3, Bag H3 b c → Kp b H H3 → Φ (nw H H3) v → Q2 v H3) → te ((wipe σ [i]).set i (some x)) H Q2)
    (hq : ∀ H' ys, Bag H' b c → Kp b H1 H' → H' D = some (.lst ys) → ys.length = n → (∀ v ∈ ys, Φ (nw (L2.upd H1 D (.lst [])) H') v) → Qd H') :
    ∃ W : Nat → Nat → Hp → Prop, (∃ m, W 0 m (L2.upd H1 D (.lst []))) ∧ ∀ i' m H, W i' m H →
      (J.stop i' H ∧ Qd H) ∨ (J.go i' H ∧ ∃ Nx : Hp → Prop, (∀ H', Nx H' → ∃ m', m' < m ∧ W (i' + 1) m' H') ∧ ∀ x H', J.yld i' H x H' → gName i x (wipe σ [i]) H' fun σ2 H2 => wipe σ2 [i] = wipe σ [i] ∧ tYes σ2 H2 fun b H3 =>
        if b = true then te σ2 H3 fun y H4 => ∃ acc, H4 D = some (.lst acc) ∧ acc.length < sizeLine ∧ Nx (L2.upd H4 D (.lst (acc ++ [y]))) else Nx H3) := by
  refine lc_bag w hD hB hn Φ mono hG (fun k x H H' hk s1 B1 y => ?_) (fun x σ0 H0 Q0 Q1 h q => h _ _ q) hq
  have e := hY _ _ _ _ y
  subst e
  refine ⟨Same.refl _, ?_, fun Q2 h2 => hs x H' s1 B1 Q2 h2⟩
  show ((σ.set i none).set i (some x)).set i none = σ.set i none
  rw [List.set_set, List.set_set]
def signsV (z : Str) : List V := z.cps.toList.map fun c => V.str ⟨#[c]⟩
theorem signsV_at {z : Str} : ∀ (k : Nat) (H : Hp) (x : V) (H' : Hp), (H' = H ∧ ∃ c, z.cps[k]? = some c ∧ x = V.str ⟨#[c]⟩) → H' = H ∧ (signsV z)[k]? = some x := by
  rintro k H x H' ⟨rfl, c, h, rfl⟩
  refine ⟨rfl, ?_⟩
  unfold signsV
  rw [List.getElem?_map, Array.getElem?_toList, h]
  rfl
theorem signsV_length (z : Str) : (signsV z).length = z.cps.size := by simp [signsV]
theorem all_map_id {α : Type} (p : α → Bool) (l : List α) : (l.map p).all id = l.all p := by
  rw [List.all_map]; rfl
end LK
namespace LK
open PySem PySem.Spec PyProof.Rows L2
/-- [p(c) for c in z], z a text -/
theorem lc_signs {z : Str} {te : TE} {i : Nat} {σ : L2.St} {H1 : Hp} {D : Addr} {Qd : Hp → Prop} (p : Nat → Bool) (hD : H1 D = none) (hz : z.length ≤ 1000000)
    (hs : ∀ c H, c ∈ z.cps.toList → Same H1 H → ∀ Q2 : V → Hp → Prop, (∀ H3, Same H H3 → Q2 (.bl (p c)) H3) → te ((wipe σ [i]).set i (some (.str ⟨#[c]⟩))) H Q2)
    (hq : ∀ H', Same H1 H' → H' D = some (.lst ((z.cps.toList.map p).map V.bl)) → Qd H') :
    ∃ W : Nat → Nat → Hp → Prop, (∃ m, W 0 m (L2.upd H1 D (.lst []))) ∧ ∀ i' m H, W i' m H →
      ((Its z).stop i' H ∧ Qd H) ∨ ((Its z).go i' H ∧ ∃ Nx : Hp → Prop, (∀ H', Nx H' → ∃ m', m' < m ∧ W (i' + 1) m' H') ∧ ∀ x H', (Its z).yld i' H x H' → gName i x (wipe σ [i]) H' fun σ2 H2 => wipe σ2 [i] = wipe σ [i] ∧ tYes σ2 H2 fun b H3 =>
        if b = true then te σ2 H3 fun y H4 => ∃ acc, H4 D = some (.lst acc) ∧ acc.length < sizeLine ∧ Nx (L2.upd H4 D (.lst (acc ++ [y]))) else Nx H3) := by
  refine lc_map walk_str (signsV z) (fun v => match v with | .str y => .bl (p (y.cps.toList.headD 0)) | _ => .non) hD hz (signsV_length z) (fun k H x H' _ y => signsV_at k H x H' y) (fun _ _ => trivial) (fun x H hx s1 Q2 h2 => ?_) (fun H' s h => hq H' s ?_)
  · obtain ⟨c, hc, rfl⟩ := List.mem_map.mp hx
    exact hs c H hc s1 Q2 h2
  · rw [h]
    unfold signsV
    rw [List.map_map, List.map_map]
    rfl
theorem starts_minus {z : Str} (h : Txt.startswith z "-" = true) : ∃ r, z.cps.toList = 45 :: r := by
  have h2 : PySem.StrLaws.At z "-" z.length 0 := by
    unfold Txt.startswith at h
    rw [Bool.and_eq_true] at h
    exact ⟨of_decide_eq_true h.1, h.2⟩
  have e : TL.tl "-" = [45] := by decide +kernel
  have q := (TL.at_iff (by rw [e]; simp) 0).mp h2
  rw [e, List.drop_zero] at q
  unfold TL.pre at q
  have q2 : z.cps.toList.take 1 = [45] := eq_of_beq q
  cases hz : z.cps.toList with
  | nil => rw [hz] at q2; simp at q2
  | cons c r => rw [hz] at q2; simp at q2; rw [q2]; exact ⟨r, rfl⟩
theorem cutS_tail (z : Str) : (cutS z (some 1) none).cps.toList = z.cps.toList.drop 1 := by
  unfold cutS
  have e1 := HT.sIx_nat z.length 0 1
  have l : z.length = z.cps.toList.length := by rw [Array.length_toList]; rfl
  show ((z.cps.toList.drop (HT.sIx z.length 0 (some ((1 : Nat) : Int)))).take (HT.sIx z.length z.length none - HT.sIx z.length 0 (some ((1 : Nat) : Int)))) = _
  rw [e1, HT.sIx_none]
  by_cases c : 1 ≤ z.length
  · rw [Nat.min_eq_left c, List.take_of_length_le (by rw [List.length_drop]; omega)]
  · rw [List.drop_eq_nil_of_le (by omega), List.drop_eq_nil_of_le (by omega)]
    simp
theorem len_cps (z : Str) : z.cps.toList.length = z.length := by rw [Array.length_toList]; rfl
end LK
namespace LK
theorem iteTT {c A B : Prop} [Decidable c] (hc : c) (h : A) : if c then A else B := by rw [if_pos hc]; exact h
theorem iteFF {c A B : Prop} [Decidable c] (hc : ¬ c) (h : B) : if c then A else B := by rw [if_neg hc]; exact h
end LK
namespace LK
open PySem PySem.Spec PyProof.Rows L2
theorem str_append (a b : Str) : (a ++ b).cps.toList = a.cps.toList ++ b.cps.toList := by
  show (a.cps ++ b.cps).toList = _
  exact Array.toList_append
theorem str_append_len (a b : Str) : (a ++ b).length = a.length + b.length := by
  rw [← len_cps, str_append, List.length_append, len_cps, len_cps]
theorem cutS_tail_len (z : Str) : (cutS z (some 1) none).length = z.length - 1 := by
  rw [← len_cps, cutS_tail, List.length_drop, len_cps]
theorem cutS_len (z : Str) (lo hi : Option Int) : (cutS z lo hi).length ≤ z.length := by
  rw [← len_cps, ← len_cps z]
  unfold cutS
  show (List.take _ (List.drop _ _)).length ≤ _
  rw [List.length_take, List.length_drop]
  omega
end LK
namespace LK
open PySem PySem.Spec PyProof.Rows L2
/-- [f(k) for k in range(n)] -/
theorem lc_rng {lo : Int} {n : Nat} {te : TE} {i : Nat} {σ : L2.St} {H1 : Hp} {D : Addr} {Qd : Hp → Prop} (f : Int → V) (hD : H1 D = none) (hn : n ≤ 1000000)
    (hs : ∀ (k : Nat) H, k < n → Same H1 H → ∀ Q2 : V → Hp → Prop, (∀ H3, Same H H3 → Q2 (f (lo + (k : Int))) H3) → te ((wipe σ [i]).set i (some (.int (lo + (k : Int))))) H Q2)
    (hq : ∀ H', Same H1 H' → H' D = some (.lst ((List.range n).map fun (k : Nat) => f (lo + (k : Int)))) → Qd H') :
    ∃ W : Nat → Nat → Hp → Prop, (∃ m, W 0 m (L2.upd H1 D (.lst []))) ∧ ∀ i' m H, W i' m H →
      ((Itr lo n).stop i' H ∧ Qd H) ∨ ((Itr lo n).go i' H ∧ ∃ Nx : Hp → Prop, (∀ H', Nx H' → ∃ m', m' < m ∧ W (i' + 1) m' H') ∧ ∀ x H', (Itr lo n).yld i' H x H' → gName i x (wipe σ [i]) H' fun σ2 H2 => wipe σ2 [i] = wipe σ [i] ∧ tYes σ2 H2 fun b H3 =>
        if b = true then te σ2 H3 fun y H4 => ∃ acc, H4 D = some (.lst acc) ∧ acc.length < sizeLine ∧ Nx (L2.upd H4 D (.lst (acc ++ [y]))) else Nx H3) := by
  refine lc_map walk_range ((List.range n).map fun (k : Nat) => V.int (lo + (k : Int))) (fun v => match v with | .int j => f j | _ => .non) hD hn (by rw [List.length_map, List.length_range]) (fun k H x H' hk y => ?_) (fun _ _ => trivial) (fun x H hx s1 Q2 h2 => ?_) (fun H' s h => hq H' s ?_)
  · refine ⟨y.1, ?_⟩
    rw [List.getElem?_map, List.getElem?_range hk, y.2]
    rfl
  · obtain ⟨k, hk, rfl⟩ := List.mem_map.mp hx
    exact hs k H (List.mem_range.mp hk) s1 Q2 h2
  · rw [h, List.map_map]
    rfl
end LK
namespace LK
open PySem PySem.Spec PyProof.Rows L2
section
variable {X : Cx} {K : PySem.W.Frag}
theorem call_isiDK (hK : X.K = K) : CallR X (.builtin "isinstance") (fun xs H Q => ∃ x T d, xs = [x, .ty T] ∧ Dp K H x d ∧ T ∈ ["str", "int", "bool", "list", "tuple"] ∧ Q (.bl (isTy T d)) H) := by
  subst hK
  exact call_isiD
end
end LK
namespace LK
open PySem PySem.Spec PyProof.Rows L2
section
variable {X : Cx}
/-- tuple(x) of a list: a new tuple -/
theorem call_tupleN : CallR X (.type "tuple") (fun xs H Q => ∃ p ys, xs = [.ref p] ∧ SqL X.K H p ys ∧ ∀ q H', Same H H' → H q = none → H' q = some (.tup ys) → Q (.ref q) H') := cr_imp call_tuple_of fun xs H Q h => by
  obtain ⟨p, ys, rfl, h, q⟩ := h
  exact ⟨p, ys, rfl, .inl ⟨h, fun l hl => q l _ (same_upd hl) hl upd_same⟩⟩
end
theorem strs_of {m : Nat} : ∀ {l : List V}, (∀ v ∈ l, ∃ z, v = V.str z ∧ z.length ≤ m) → ∃ zs : List Str, l = zs.map V.str ∧ ∀ z ∈ zs, z.length ≤ m
  | [], _ => ⟨[], rfl, fun z h => absurd h (by simp)⟩
  | v :: l, h => by
    obtain ⟨z, rfl, hz⟩ := h v List.mem_cons_self
    obtain ⟨zs, rfl, hzs⟩ := strs_of (l := l) fun v hv => h v (List.mem_cons_of_mem _ hv)
    refine ⟨z :: zs, rfl, fun y hy => ?_⟩
    rcases List.mem_cons.mp hy with rfl | hy
    · exact hz
    · exact hzs y hy
theorem sum_le {m : Nat} : ∀ {zs : List Str}, (∀ z ∈ zs, z.length ≤ m) → (zs.map (·.length)).sum ≤ zs.length * m
  | [], _ => by simp
  | z :: zs, h => by
    rw [List.map_cons, List.sum_cons, List.length_cons, Nat.succ_mul]
    have h1 := h z List.mem_cons_self
    have h2 := sum_le (zs := zs) fun y hy => h y (List.mem_cons_of_mem _ hy)
    omega
end LK
namespace LK
open PySem PySem.Spec PyProof.Rows L2
theorem joinL_len (S : List Nat) : ∀ ps : List (List Nat), (TL.joinL S ps).length ≤ (ps.map List.length).sum + ps.length * S.length
  | [] => by simp [TL.joinL]
  | [p] => by simp [TL.joinL]
  | p :: q :: r => by
    have ih := joinL_len S (q :: r)
    show (p ++ (S ++ TL.joinL S (q :: r))).length ≤ _
    rw [List.length_append, List.length_append, List.map_cons, List.sum_cons, List.length_cons, Nat.succ_mul]
    omega
theorem join_len (y : Str) (zs : List Str) : (Txt.join y zs).length ≤ (zs.map (·.length)).sum + zs.length * y.length := by
  rw [TL.join_eq, ← len_cps]
  have e := TL.tl_join y zs
  show (TL.tl (Str.join y zs)).length ≤ _
  rw [e]
  refine Nat.le_trans (joinL_len _ _) ?_
  rw [List.map_map, List.length_map]
  have e1 : ((zs.map (List.length ∘ TL.tl))) = zs.map (·.length) := List.map_congr_left fun z _ => len_cps z
  rw [e1]
  show _ + zs.length * (y.cps.toList).length ≤ _
  rw [len_cps]
  exact Nat.le_refl _
/-- the list that lc_draw has made, as texts -/
theorem kp_new {b c : Addr} {H H1 : Hp} (B : Bag H b c) (s : Same H H1) : Kp b H H1 ∧ Bag H1 b c := ⟨Kp.of s, B.same s⟩
theorem hb_new {b c p : Addr} {H H1 : Hp} {o : HO} (B : Bag H b c) (h0 : H p = none) (h1 : H1 p = some o) : hb H1 b p = some o := by
  have n : p ≠ b := fun e => by
    obtain ⟨xs, q⟩ := B.at
    rw [e, q] at h0; cases h0
  rw [hb_ne n]; exact h1
end LK
namespace LK
open PySem PySem.Spec PyProof.Rows L2
def isIntV : V → Bool
  | .int _ => true
  | _ => false
theorem ints_of {l : List V} (h : l.all isIntV = true) : ∀ y ∈ l, ∃ i, y = V.int i := fun y hy => by
  have q := List.all_eq_true.mp h y hy
  cases y <;> first | exact ⟨_, rfl⟩ | simp [isIntV] at q
end LK
namespace LK
open PySem PySem.Spec PyProof.Rows L2
theorem nx_op {t : TS} {D : Ends} {σ : L2.St} {H : Hp} (h : ∀ N : L2.St → Hp → Prop, (∀ σ' H', D.nx σ' H' → N σ' H') → t { D with nx := N } σ H) : t D σ H := h D.nx fun _ _ z => z
/-- a test that changes nothing and whose answer does not matter -/
theorem if_any {c : TT} {t u : TS} {D : Ends} {σ : L2.St} {H : Hp} (hc : ∀ K : Bool → Hp → Prop, (∀ b, K b H) → c σ H K) (hA : t D σ H) (hB : u D σ H) : tIfS c t u D σ H := hc _ fun b => by
  cases b
  · exact iteFF (by decide) hB
  · exact iteTT rfl hA
end LK
namespace LK
open PySem PySem.Spec PyProof.Rows L2
theorem if_anyS {c : TT} {t u : TS} {D : Ends} {σ : L2.St} {H : Hp} (hc : ∀ K : Bool → Hp → Prop, (∀ b H1, Same H H1 → K b H1) → c σ H K) (hA : ∀ H1, Same H H1 → t D σ H1) (hB : ∀ H1, Same H H1 → u D σ H1) : tIfS c t u D σ H := hc _ fun b H1 s => by
  cases b
  · exact iteFF (by decide) (hB H1 s)
  · exact iteTT rfl (hA H1 s)
end LK
namespace LK
open PySem PySem.Spec PyProof.Rows L2
theorem if_of {c : TT} {t u : TS} {D : Ends} {σ : L2.St} {H : Hp} (R : Bool → Prop) (hc : ∀ K : Bool → Hp → Prop, (∀ b H1, R b → Same H H1 → K b H1) → c σ H K) (hA : ∀ H1, R true → Same H H1 → t D σ H1) (hB : ∀ H1, R false → Same H H1 → u D σ H1) : tIfS c t u D σ H := hc _ fun b H1 r s => by
  cases b
  · exact iteFF (by decide) (hB H1 r s)
  · exact iteTT rfl (hA H1 r s)
end LK

set_option Elab.async false
set_option linter.all false
set_option maxRecDepth 100000
namespace LK
open PySem PySem.Spec PyProof.Rows L2
def top (i : Nat) : Stmt := PySem.Challenge.pw_lookingnets_k02_texts_of_fractions.main.body.getD i (.Pass ⟨0, 0, 0, 0⟩)
local macro_rules | `(tactic| walk_at "rs") => `(tactic| simp only [cxK, cxNK, tCallZ, tAsg, tOp, rI0, rS0, rB0, rI, rU, tUn, rEq, rNe, rIxL, rIxT, rIxS, rSetL, rSlLU, rSlS, rSlU, rCatL, rCatU, rRepL, rIn, tVar, tC, gName, gSub, tIfS, tTest, tB, tAnd, tOr, tNot, tNotV, tAndV, tOrV, tIf, tCall, tCons, tNil, tCB, tDrop, tRet, tRetN, tNext, tLstU, tTupU, tM0, tM1, tPar, tPar3, tAug, ipI, tBM, tBM0, rAppend, rPop, tBreak, tCont, tChain, tSl, tPart, tNoPart, L2.start, List.map, List.length_cons, List.length_nil, List.replicate, List.cons_append, List.nil_append, List.append_nil, List.getElem?_cons_zero, List.getElem?_cons_succ, List.set_cons_zero, List.set_cons_succ, Option.some.injEq, V.int.injEq, V.ref.injEq, V.str.injEq, V.bl.injEq, exists_eq_left', exists_eq_left, exists_and_left, decide_eq_true_eq, List.cons.injEq, and_true, true_and, scal, Bool.not_eq_true', decide_eq_false_iff_not, Nat.zero_add, Nat.reduceAdd, Nat.reduceSub, reduceCtorEq, false_and, exists_false, false_or, or_false, CPow, CMul, CDiv, Int.reduceToNat, ↓reduceIte, wipe, sw, List.nil_append, List.singleton_append])
local macro_rules | `(tactic| walk_at "st") => `(tactic| (refine seq_op fun N hN => ?_; walk_at "rs"))
local macro_rules | `(tactic| walk_at "sd") => `(tactic| first | assumption | decide | omega)
local macro_rules | `(tactic| walk_at "rd") => `(tactic| repeat (first
  | refine ⟨_, SqL.of (by assumption), ?_⟩ | refine ⟨_, SqL.of upd_same, ?_⟩ | refine ⟨_, .inl (SqL.of (by assumption)), ?_⟩ | refine ⟨_, (by assumption : _ = some (HO.lst _)), ?_⟩ | refine ⟨_, upd_same, ?_⟩
  | refine ⟨_, rfl, ?_⟩ | refine And.intro (by walk_at "sd") ?_))

abbrev s_BadValue : Stmt := inClass (top 3) 0
abbrev N_BadValue : List Str := ["self", "value"]
theorem sc_BadValue : FnScope N_BadValue ["self", "value"] (defScope s_BadValue) := ⟨rfl, rfl, rfl, by decide +kernel, rfl, by decide +kernel, by decide +kernel⟩
abbrev s_is_number : Stmt := top 7
abbrev N_is_number : List Str := ["value"]
theorem sc_is_number : FnScope N_is_number ["value"] (defScope s_is_number) := ⟨rfl, rfl, rfl, by decide +kernel, rfl, by decide +kernel, by decide +kernel⟩

abbrev s_is_fraction : Stmt := top 8
abbrev N_is_fraction : List Str := ["value", "p", "q"]
theorem sc_is_fraction : FnScope N_is_fraction ["value"] (defScope s_is_fraction) := ⟨rfl, rfl, rfl, by decide +kernel, rfl, by decide +kernel, by decide +kernel⟩

abbrev s_is_value : Stmt := top 9
abbrev N_is_value : List Str := ["value", "p", "q"]
theorem sc_is_value : FnScope N_is_value ["value"] (defScope s_is_value) := ⟨rfl, rfl, rfl, by decide +kernel, rfl, by decide +kernel, by decide +kernel⟩

abbrev s_fraction : Stmt := top 10
abbrev N_fraction : List Str := ["p", "q", "divisor"]
theorem sc_fraction : FnScope N_fraction ["p", "q"] (defScope s_fraction) := ⟨rfl, rfl, rfl, by decide +kernel, rfl, by decide +kernel, by decide +kernel⟩

abbrev s_plus : Stmt := top 11
abbrev N_plus : List Str := ["a", "b"]
theorem sc_plus : FnScope N_plus ["a", "b"] (defScope s_plus) := ⟨rfl, rfl, rfl, by decide +kernel, rfl, by decide +kernel, by decide +kernel⟩

abbrev s_minus : Stmt := top 12
abbrev N_minus : List Str := ["a", "b"]
theorem sc_minus : FnScope N_minus ["a", "b"] (defScope s_minus) := ⟨rfl, rfl, rfl, by decide +kernel, rfl, by decide +kernel, by decide +kernel⟩

abbrev s_times : Stmt := top 13
abbrev N_times : List Str := ["a", "b"]
theorem sc_times : FnScope N_times ["a", "b"] (defScope s_times) := ⟨rfl, rfl, rfl, by decide +kernel, rfl, by decide +kernel, by decide +kernel⟩

abbrev s_quotient : Stmt := top 14
abbrev N_quotient : List Str := ["a", "b"]
theorem sc_quotient : FnScope N_quotient ["a", "b"] (defScope s_quotient) := ⟨rfl, rfl, rfl, by decide +kernel, rfl, by decide +kernel, by decide +kernel⟩

abbrev s_value_text : Stmt := top 15
abbrev N_value_text : List Str := ["value", "p", "q"]
theorem sc_value_text : FnScope N_value_text ["value"] (defScope s_value_text) := ⟨rfl, rfl, rfl, by decide +kernel, rfl, by decide +kernel, by decide +kernel⟩

abbrev s_read_number : Stmt := top 16
abbrev N_read_number : List Str := ["word", "figures", "number", "sign"]
theorem sc_read_number : FnScope N_read_number ["word"] (defScope s_read_number) := ⟨rfl, rfl, rfl, by decide +kernel, rfl, by decide +kernel, by decide +kernel⟩

abbrev s_read_value : Stmt := top 17
abbrev N_read_value : List Str := ["text", "top", "bar", "bottom", "value"]
theorem sc_read_value : FnScope N_read_value ["text"] (defScope s_read_value) := ⟨rfl, rfl, rfl, by decide +kernel, rfl, by decide +kernel, by decide +kernel⟩

abbrev s__law_bag : Stmt := top 19
abbrev N__law_bag : List Str := ["script", "mixed", "cell"]
theorem sc__law_bag : FnScope N__law_bag ["script"] (defScope s__law_bag) := ⟨rfl, rfl, rfl, by decide +kernel, rfl, by decide +kernel, by decide +kernel⟩

abbrev s__law_draw : Stmt := top 20
abbrev N__law_draw : List Str := ["bag", "size", "cell", "digit"]
theorem sc__law_draw : FnScope N__law_draw ["bag", "size"] (defScope s__law_draw) := ⟨rfl, rfl, rfl, by decide +kernel, rfl, by decide +kernel, by decide +kernel⟩

abbrev s__law_of : Stmt := top 21
abbrev N__law_of : List Str := ["bag", "things"]
theorem sc__law_of : FnScope N__law_of ["bag", "things"] (defScope s__law_of) := ⟨rfl, rfl, rfl, by decide +kernel, rfl, by decide +kernel, by decide +kernel⟩

abbrev s__law_like : Stmt := top 22
abbrev N__law_like : List Str := ["got", "due", "one", "two"]
theorem sc__law_like : FnScope N__law_like ["got", "due"] (defScope s__law_like) := ⟨rfl, rfl, rfl, by decide +kernel, rfl, by decide +kernel, by decide +kernel⟩

abbrev s__law_any : Stmt := top 23
abbrev N__law_any : List Str := ["bag", "deep", "way", "far", "some", "k"]
theorem sc__law_any : FnScope N__law_any ["bag", "deep"] (defScope s__law_any) := ⟨rfl, rfl, rfl, by decide +kernel, rfl, by decide +kernel, by decide +kernel⟩

abbrev s__law_low : Stmt := top 24
abbrev N__law_low : List Str := ["top", "low", "one", "two"]
theorem sc__law_low : FnScope N__law_low ["top", "low"] (defScope s__law_low) := ⟨rfl, rfl, rfl, by decide +kernel, rfl, by decide +kernel, by decide +kernel⟩

abbrev s__law_order : Stmt := top 25
abbrev N__law_order : List Str := ["one", "two", "gap"]
theorem sc__law_order : FnScope N__law_order ["one", "two"] (defScope s__law_order) := ⟨rfl, rfl, rfl, by decide +kernel, rfl, by decide +kernel, by decide +kernel⟩

abbrev s__law_whole : Stmt := top 26
abbrev N__law_whole : List Str := ["thing"]
theorem sc__law_whole : FnScope N__law_whole ["thing"] (defScope s__law_whole) := ⟨rfl, rfl, rfl, by decide +kernel, rfl, by decide +kernel, by decide +kernel⟩

abbrev s__law_broken : Stmt := top 27
abbrev N__law_broken : List Str := ["thing"]
theorem sc__law_broken : FnScope N__law_broken ["thing"] (defScope s__law_broken) := ⟨rfl, rfl, rfl, by decide +kernel, rfl, by decide +kernel, by decide +kernel⟩

abbrev s__law_short : Stmt := top 28
abbrev N__law_short : List Str := ["thing"]
theorem sc__law_short : FnScope N__law_short ["thing"] (defScope s__law_short) := ⟨rfl, rfl, rfl, by decide +kernel, rfl, by decide +kernel, by decide +kernel⟩

abbrev s__law_read : Stmt := top 29
abbrev N__law_read : List Str := ["word", "minus_ahead", "parts", "k", "found", "part"]
theorem sc__law_read : FnScope N__law_read ["word"] (defScope s__law_read) := ⟨rfl, rfl, rfl, by decide +kernel, rfl, by decide +kernel, by decide +kernel⟩

abbrev s__law_digits : Stmt := top 30
abbrev N__law_digits : List Str := ["bag", "size", "chunk", "k"]
theorem sc__law_digits : FnScope N__law_digits ["bag"] (defScope s__law_digits) := ⟨rfl, rfl, rfl, by decide +kernel, rfl, by decide +kernel, by decide +kernel⟩

abbrev s__law_word : Stmt := top 31
abbrev N__law_word : List Str := ["bag", "way", "ahead", "found"]
theorem sc__law_word : FnScope N__law_word ["bag"] (defScope s__law_word) := ⟨rfl, rfl, rfl, by decide +kernel, rfl, by decide +kernel, by decide +kernel⟩

abbrev s__law_bent : Stmt := top 32
abbrev N__law_bent : List Str := ["bag", "word", "way", "at_sign", "mark"]
theorem sc__law_bent : FnScope N__law_bent ["bag", "word"] (defScope s__law_bent) := ⟨rfl, rfl, rfl, by decide +kernel, rfl, by decide +kernel, by decide +kernel⟩

abbrev s__law_ask : Stmt := top 33
abbrev N__law_ask : List Str := ["deed", "error"]
theorem sc__law_ask : FnScope N__law_ask ["deed"] (defScope s__law_ask) := ⟨rfl, rfl, rfl, by decide +kernel, rfl, by decide +kernel, by decide +kernel⟩

abbrev s__law_judged : Stmt := top 34
abbrev N__law_judged : List Str := ["thing", "way", "short", "due", "got", "fine", "near"]
theorem sc__law_judged : FnScope N__law_judged ["thing", "way"] (defScope s__law_judged) := ⟨rfl, rfl, rfl, by decide +kernel, rfl, by decide +kernel, by decide +kernel⟩

abbrev s__law_told : Stmt := top 35
abbrev N__law_told : List Str := ["word", "way", "due", "got"]
theorem sc__law_told : FnScope N__law_told ["word", "way"] (defScope s__law_told) := ⟨rfl, rfl, rfl, by decide +kernel, rfl, by decide +kernel, by decide +kernel⟩

abbrev s__law_great : Stmt := top 36
abbrev N__law_great : List Str := ["bag", "great", "near", "here", "away"]
theorem sc__law_great : FnScope N__law_great ["bag"] (defScope s__law_great) := ⟨rfl, rfl, rfl, by decide +kernel, rfl, by decide +kernel, by decide +kernel⟩

abbrev s__law_pair : Stmt := top 37
abbrev N__law_pair : List Str := ["bag", "top", "low"]
theorem sc__law_pair : FnScope N__law_pair ["bag"] (defScope s__law_pair) := ⟨rfl, rfl, rfl, by decide +kernel, rfl, by decide +kernel, by decide +kernel⟩

abbrev s_law : Stmt := top 38
abbrev N_law : List Str := ["script", "bag", "turn", "word", "k", "step", "pair", "thing"]
theorem sc_law : FnScope N_law ["script"] (defScope s_law) := ⟨rfl, rfl, rfl, by decide +kernel, rfl, by decide +kernel, by decide +kernel⟩

mutual
def okD : PyData → Bool
  | .none => true | .bool _ => true | .int i => decide (i.natAbs < 2 ^ 4000)
  | .str z => decide (z.length ≤ 100000)
  | .list ds => decide (ds.length ≤ 100000) && okAll ds
  | .tuple ds => decide (ds.length ≤ 100000) && okAll ds
  | .dict _ => false
def okAll : List PyData → Bool
  | [] => true
  | d :: ds => okD d && okAll ds
end
theorem okD_tup {ds : List PyData} : okD (.tuple ds) = true ↔ ds.length ≤ 100000 ∧ okAll ds = true := by
  show (decide (ds.length ≤ 100000) && okAll ds) = true ↔ _
  rw [Bool.and_eq_true, decide_eq_true_iff]
theorem okD_lst {ds : List PyData} : okD (.list ds) = true ↔ ds.length ≤ 100000 ∧ okAll ds = true := by
  show (decide (ds.length ≤ 100000) && okAll ds) = true ↔ _
  rw [Bool.and_eq_true, decide_eq_true_iff]
mutual
def dep : PyData → Nat
  | .none => 0 | .bool _ => 0 | .int _ => 0 | .str _ => 0
  | .list ds => depAll ds + 1
  | .tuple ds => depAll ds + 1
  | .dict _ => 0
def depAll : List PyData → Nat
  | [] => 0
  | d :: ds => max (dep d) (depAll ds)
end
def spP (K : PySem.W.Frag) (F : PyData → V) : Sp := fun vs H Q _ => ∃ v d, vs = [v] ∧ Dp K H v d ∧ okD d = true ∧ ∀ H', Same H H' → Q (F d) H'
def SeqV (K : PySem.W.Frag) (G : Hp) (x : V) (ys : List V) : Prop := (∃ p, x = .ref p ∧ SqL K G p ys) ∨ (∃ p, x = .ref p ∧ SqT K G p ys) ∨ ∃ z, x = .str z ∧ z.length ≤ 100000 ∧ ys = z.cps.toList.map fun c => V.str ⟨#[c]⟩
def sp__law_bag (K : PySem.W.Frag) : Sp := fun vs H Q _ => ∃ (a : Addr) (ns : List Int), vs = [.ref a] ∧ SqL K H a (ns.map V.int) ∧ ns.length ≤ 63 ∧ ∀ b c H', Same H H' → Bag H' b c → H b = none → Q (.ref b) H'
def sp__law_draw : Sp := fun vs H Q _ => ∃ (b c : Addr) (n : Int), vs = [.ref b, .int n] ∧ Bag H b c ∧ 0 < n ∧ n < 1073741824 ∧ ∀ (r : Int) H', 0 ≤ r → r < n → Bag H' b c → Kp b H H' → Q (.int r) H'
def sp__law_of (K : PySem.W.Frag) : Sp := fun vs H Q _ => ∃ (b c : Addr) (x : V) (ys : List V), vs = [.ref b, x] ∧ Bag H b c ∧ SeqV K H x ys ∧ SeqV K (hb H b) x ys ∧ ys ≠ [] ∧ ys.length ≤ 1000000 ∧ ∀ y H', y ∈ ys → Bag H' b c → Kp b H H' → Q y H'
def sp__law_like (K : PySem.W.Frag) (n : Nat) : Sp := fun vs H Q _ => ∃ v u d, vs = [v, u] ∧ Dp K H v d ∧ Dp K H u d ∧ okD d = true ∧ dep d ≤ n ∧ ∀ H', Same H H' → Q (.bl true) H'
def sp__law_any (K : PySem.W.Frag) (n : Nat) : Sp := fun vs H Q _ => ∃ (b c : Addr) (k : Int), vs = [.ref b, .int k] ∧ Bag H b c ∧ k ≤ n ∧ ∀ v d H', Bag H' b c → Kp b H H' → Dp K (nw H H') v d → okD d = true → dep d ≤ n → Q v H'
/-! ### mirrors -/
def FIGs : Str := "0123456789"
def inS (c : Nat) (z : Str) : Bool := decide (c ∈ z.cps.toList)
def optS : Option Str → V
  | none => .non
  | some s => .str s
def optI : Option Int → V
  | none => .non
  | some i => .int i
def figures (z : Str) : Str := if Txt.startswith z "-" then cutS z (some 1) none else z
def readNum (z : Str) : Option Int :=
  if (1 ≤ (figures z).length ∧ (figures z).length ≤ 60) ∧ ((figures z).cps.toList.all fun c => inS c FIGs) = true then
    (match intText? z with
      | some n => if Str.ofString (toString n) = z then some n else none
      | none => none)
  else none
def isNum : PyData → Bool
  | .int _ => true
  | _ => false
def isFrac : PyData → Bool
  | .tuple [.int p, .int q] => decide (1 ≤ q) && decide (Nat.gcd p.natAbs q.natAbs = 1)
  | _ => false
def strI (i : Int) : Str := Str.ofString (toString i)
def txtF (p q : Int) : Str := if q = 1 then strI p else strI p ++ "/" ++ strI q
def shortZ : PyData → Option Str
  | .tuple [.int p, .int q] => if isFrac (.tuple [.int p, .int q]) = true ∧ p.natAbs < 10 ^ 60 ∧ q.natAbs < 10 ^ 60 then some (txtF p q) else none
  | _ => none
def isVal : PyData → Bool
  | .tuple [.int p, .int q] => isFrac (.tuple [.int p, .int q]) && (decide (q ≤ 9999) && decide ((p.natAbs : Int) ≤ 99 * q))
  | _ => false
def readQ (r : Str × Str × Str) : Option Int := if r.2.1.length = 0 then some 1 else readNum r.2.2
def readZ (z : Str) : Option (Int × Int) := match readNum (Txt.partition z "/").1, readQ (Txt.partition z "/") with
  | some p, some q => if isFrac (.tuple [.int p, .int q]) = true ∧ txtF p q = z then some (p, q) else none
  | _, _ => none
def readVal : PyData → Option (Int × Int)
  | .str z => readZ z
  | _ => none
/-! ### promises -/
def sp_read_number : Sp := fun vs H Q _ => ∃ z, vs = [.str z] ∧ z.length ≤ 100000 ∧ ∀ H', Same H H' → Q (optI (readNum z)) H'
def sp_read (K : PySem.W.Frag) : Sp := fun vs H Q _ => ∃ v d, vs = [v] ∧ Dp K H v d ∧ okD d = true ∧ (readVal d = none → ∀ H', Same H H' → Q .non H') ∧
  ∀ p q, readVal d = some (p, q) → ∀ t H', Same H H' → H t = none → H' t = some (.tup [.int p, .int q]) → Q (.ref t) H'
def sp_str (n : Nat) : Sp := fun vs H Q _ => ∃ (b c : Addr), vs = [.ref b] ∧ Bag H b c ∧ ∀ z H', z.length ≤ n → Bag H' b c → Kp b H H' → Q (.str z) H'
def sp__law_bent : Sp := fun vs H Q _ => ∃ (b c : Addr) (z : Str), vs = [.ref b, .str z] ∧ Bag H b c ∧ z.length ≤ 10000 ∧ ∀ z' H', z'.length ≤ 100000 → Bag H' b c → Kp b H H' → Q (.str z') H'
def sp_pair (K : PySem.W.Frag) : Sp := fun vs H Q _ => ∃ (b c : Addr), vs = [.ref b] ∧ Bag H b c ∧ ∀ v d H', Bag H' b c → Kp b H H' → Dp K (nw H H') v d → okD d = true → dep d ≤ 3 → Q v H'
/-! ### an exception's class, as isinstance asks for it -/
structure IsxC (K : PySem.W.Frag) (C : Addr) : Prop where
  cl : (PySem.W.clsIn K C).isSome = true
  ga : PySem.W.findIn K (.ref C) "__getattribute__" = some (some (.builtin "BaseException.__getattribute__"))
  gt : PySem.W.findIn K (.ref C) "__getattr__" = some none
  sub : PySem.W.subIn K (.ref C) (.type "BaseException") = some true
  ha : PySem.W.findIn K (.ref C) "__class__" = some (some (.builtin "object.__class__"))
  hn : PySem.W.specialIn K (.builtin "object.__class__") "__get__" = some (some (.builtin "getset_descriptor.__get__"))
  tk : PySem.W.takesIn K (.builtin "object.__class__") = some true
  hm : PySem.W.mroIn K C (.type "object") = some true
/-- two keywords in the other order -/
def sw {α : Type} : List α → List α
  | [x, y] => [y, x]
  | l => l
theorem sw_rel : ∀ {zs : List V} {ws : List Value}, Vals zs ws → Vals (sw zs) (sw ws)
  | _, _, .nil => .nil
  | _, _, .cons a .nil => .cons a .nil
  | _, _, .cons a (.cons b .nil) => .cons b (.cons a .nil)
  | _, _, .cons a (.cons b (.cons c r)) => .cons a (.cons b (.cons c r))
/-! ### wide whole numbers -/
def CDivF (_ j : Int) : Prop := j ≠ 0 ∧ j.natAbs.log2 < 9000
theorem op_fdivF {X : Cx} : OpR X (binaryOp .FloorDiv) (rI CDivF fun i j => .int (i.fdiv j)) := opI fun _ _ _ _ _ _ _ hc q => floordiv_int hc.1 q (.inl (PyProof.noPylong_of_log2 hc.2))
structure Txt (w : World) (K : PySem.W.Frag) (mg : Str → Option Value) where
  n_len : mg "len" = none
  n_int : mg "int" = none
  n_str : mg "str" = none
  n_list : mg "list" = none
  n_tuple : mg "tuple" = none
  n_bool : mg "bool" = none
  n_isinstance : mg "isinstance" = none
  n_all : mg "all" = none
  n_range : mg "range" = none
  n_zip : mg "zip" = none
  n_abs : mg "abs" = none
  n_min : mg "min" = none
  m_gcd : mg "gcd" = some (.builtin "math.gcd")
  a_ZERO : Addr
  m_ZERO : mg "ZERO" = some (.ref a_ZERO)
  s_ZERO : ∀ H, SqT K H a_ZERO [.int 0, .int 1]
  t_FIGURES : Tok
  m_FIGURES : mg "FIGURES" = some (.str FIGs t_FIGURES)
  C_BadValue : Addr
  f_BadValue : Addr
  d_BadValue : FuncData
  m_BadValue : mg "BadValue" = some (.ref C_BadValue)
  X_BadValue : OexC K C_BadValue
  i_BadValue : PySem.W.findIn K (.ref C_BadValue) "__init__" = some (some (.ref f_BadValue))
  t_BadValue : PySem.W.typeIn K (.ref f_BadValue) = some (.type "function")
  F_BadValue : Fun K "__init__" "BadValue.__init__" s_BadValue f_BadValue d_BadValue
  B_BadValue__init : Binds K d_BadValue ["self", "value"] []
  v_BadValue : PySem.W.findIn K (.ref C_BadValue) "value" = some none
  c_BadValue : PySem.W.findIn K (.ref C_BadValue) "code" = some none
  C_NetError : Addr
  m_NetError : mg "NetError" = some (.ref C_NetError)
  e_BadValue : PySem.W.exmOne K (.ref C_BadValue) (.ref C_NetError) = some true
  x_BadValue : XfC K C_BadValue
  y_BadValue : IsxC K C_BadValue
  k_BadValue : PySem.W.kitOne K (.ref C_BadValue) (.ref C_BadValue) = some true
  a_is_number : Addr
  d_is_number : FuncData
  F_is_number : Fun K "is_number" "is_number" s_is_number a_is_number d_is_number
  m_is_number : mg "is_number" = some (.ref a_is_number)
  B_is_number : Binds K d_is_number ["value"] []
  a_is_fraction : Addr
  d_is_fraction : FuncData
  F_is_fraction : Fun K "is_fraction" "is_fraction" s_is_fraction a_is_fraction d_is_fraction
  m_is_fraction : mg "is_fraction" = some (.ref a_is_fraction)
  B_is_fraction : Binds K d_is_fraction ["value"] []
  a_is_value : Addr
  d_is_value : FuncData
  F_is_value : Fun K "is_value" "is_value" s_is_value a_is_value d_is_value
  m_is_value : mg "is_value" = some (.ref a_is_value)
  B_is_value : Binds K d_is_value ["value"] []
  a_fraction : Addr
  d_fraction : FuncData
  F_fraction : FunD K "fraction" "fraction" (defArgs s_fraction) (defBody s_fraction) (defScope s_fraction) [.int 1] [] a_fraction d_fraction
  D_fraction : ∃ ds, Vals [.int 1] ds ∧ Binds K d_fraction ["p", "q"] ds
  m_fraction : mg "fraction" = some (.ref a_fraction)
  B_fraction : Binds K d_fraction ["p", "q"] []
  a_plus : Addr
  d_plus : FuncData
  F_plus : Fun K "plus" "plus" s_plus a_plus d_plus
  m_plus : mg "plus" = some (.ref a_plus)
  B_plus : Binds K d_plus ["a", "b"] []
  a_minus : Addr
  d_minus : FuncData
  F_minus : Fun K "minus" "minus" s_minus a_minus d_minus
  m_minus : mg "minus" = some (.ref a_minus)
  B_minus : Binds K d_minus ["a", "b"] []
  a_times : Addr
  d_times : FuncData
  F_times : Fun K "times" "times" s_times a_times d_times
  m_times : mg "times" = some (.ref a_times)
  B_times : Binds K d_times ["a", "b"] []
  a_quotient : Addr
  d_quotient : FuncData
  F_quotient : Fun K "quotient" "quotient" s_quotient a_quotient d_quotient
  m_quotient : mg "quotient" = some (.ref a_quotient)
  B_quotient : Binds K d_quotient ["a", "b"] []
  a_value_text : Addr
  d_value_text : FuncData
  F_value_text : Fun K "value_text" "value_text" s_value_text a_value_text d_value_text
  m_value_text : mg "value_text" = some (.ref a_value_text)
  B_value_text : Binds K d_value_text ["value"] []
  a_read_number : Addr
  d_read_number : FuncData
  F_read_number : Fun K "read_number" "read_number" s_read_number a_read_number d_read_number
  m_read_number : mg "read_number" = some (.ref a_read_number)
  B_read_number : Binds K d_read_number ["word"] []
  a_read_value : Addr
  d_read_value : FuncData
  F_read_value : Fun K "read_value" "read_value" s_read_value a_read_value d_read_value
  m_read_value : mg "read_value" = some (.ref a_read_value)
  B_read_value : Binds K d_read_value ["text"] []
  a__law_bag : Addr
  d__law_bag : FuncData
  F__law_bag : Fun K "_law_bag" "_law_bag" s__law_bag a__law_bag d__law_bag
  m__law_bag : mg "_law_bag" = some (.ref a__law_bag)
  B__law_bag : Binds K d__law_bag ["script"] []
  a__law_draw : Addr
  d__law_draw : FuncData
  F__law_draw : Fun K "_law_draw" "_law_draw" s__law_draw a__law_draw d__law_draw
  m__law_draw : mg "_law_draw" = some (.ref a__law_draw)
  B__law_draw : Binds K d__law_draw ["bag", "size"] []
  a__law_of : Addr
  d__law_of : FuncData
  F__law_of : Fun K "_law_of" "_law_of" s__law_of a__law_of d__law_of
  m__law_of : mg "_law_of" = some (.ref a__law_of)
  B__law_of : Binds K d__law_of ["bag", "things"] []
  a__law_like : Addr
  d__law_like : FuncData
  F__law_like : Fun K "_law_like" "_law_like" s__law_like a__law_like d__law_like
  m__law_like : mg "_law_like" = some (.ref a__law_like)
  B__law_like : Binds K d__law_like ["got", "due"] []
  a__law_any : Addr
  d__law_any : FuncData
  F__law_any : Fun K "_law_any" "_law_any" s__law_any a__law_any d__law_any
  m__law_any : mg "_law_any" = some (.ref a__law_any)
  B__law_any : Binds K d__law_any ["bag", "deep"] []
  a__law_low : Addr
  d__law_low : FuncData
  F__law_low : Fun K "_law_low" "_law_low" s__law_low a__law_low d__law_low
  m__law_low : mg "_law_low" = some (.ref a__law_low)
  B__law_low : Binds K d__law_low ["top", "low"] []
  a__law_order : Addr
  d__law_order : FuncData
  F__law_order : Fun K "_law_order" "_law_order" s__law_order a__law_order d__law_order
  m__law_order : mg "_law_order" = some (.ref a__law_order)
  B__law_order : Binds K d__law_order ["one", "two"] []
  a__law_whole : Addr
  d__law_whole : FuncData
  F__law_whole : Fun K "_law_whole" "_law_whole" s__law_whole a__law_whole d__law_whole
  m__law_whole : mg "_law_whole" = some (.ref a__law_whole)
  B__law_whole : Binds K d__law_whole ["thing"] []
  a__law_broken : Addr
  d__law_broken : FuncData
  F__law_broken : Fun K "_law_broken" "_law_broken" s__law_broken a__law_broken d__law_broken
  m__law_broken : mg "_law_broken" = some (.ref a__law_broken)
  B__law_broken : Binds K d__law_broken ["thing"] []
  a__law_short : Addr
  d__law_short : FuncData
  F__law_short : Fun K "_law_short" "_law_short" s__law_short a__law_short d__law_short
  m__law_short : mg "_law_short" = some (.ref a__law_short)
  B__law_short : Binds K d__law_short ["thing"] []
  a__law_read : Addr
  d__law_read : FuncData
  F__law_read : Fun K "_law_read" "_law_read" s__law_read a__law_read d__law_read
  m__law_read : mg "_law_read" = some (.ref a__law_read)
  B__law_read : Binds K d__law_read ["word"] []
  a__law_digits : Addr
  d__law_digits : FuncData
  F__law_digits : Fun K "_law_digits" "_law_digits" s__law_digits a__law_digits d__law_digits
  m__law_digits : mg "_law_digits" = some (.ref a__law_digits)
  B__law_digits : Binds K d__law_digits ["bag"] []
  a__law_word : Addr
  d__law_word : FuncData
  F__law_word : Fun K "_law_word" "_law_word" s__law_word a__law_word d__law_word
  m__law_word : mg "_law_word" = some (.ref a__law_word)
  B__law_word : Binds K d__law_word ["bag"] []
  a__law_bent : Addr
  d__law_bent : FuncData
  F__law_bent : Fun K "_law_bent" "_law_bent" s__law_bent a__law_bent d__law_bent
  m__law_bent : mg "_law_bent" = some (.ref a__law_bent)
  B__law_bent : Binds K d__law_bent ["bag", "word"] []
  a__law_ask : Addr
  d__law_ask : FuncData
  F__law_ask : Fun K "_law_ask" "_law_ask" s__law_ask a__law_ask d__law_ask
  m__law_ask : mg "_law_ask" = some (.ref a__law_ask)
  B__law_ask : Binds K d__law_ask ["deed"] []
  a__law_judged : Addr
  d__law_judged : FuncData
  F__law_judged : Fun K "_law_judged" "_law_judged" s__law_judged a__law_judged d__law_judged
  m__law_judged : mg "_law_judged" = some (.ref a__law_judged)
  B__law_judged : Binds K d__law_judged ["thing", "way"] []
  a__law_told : Addr
  d__law_told : FuncData
  F__law_told : Fun K "_law_told" "_law_told" s__law_told a__law_told d__law_told
  m__law_told : mg "_law_told" = some (.ref a__law_told)
  B__law_told : Binds K d__law_told ["word", "way"] []
  a__law_great : Addr
  d__law_great : FuncData
  F__law_great : Fun K "_law_great" "_law_great" s__law_great a__law_great d__law_great
  m__law_great : mg "_law_great" = some (.ref a__law_great)
  B__law_great : Binds K d__law_great ["bag"] []
  a__law_pair : Addr
  d__law_pair : FuncData
  F__law_pair : Fun K "_law_pair" "_law_pair" s__law_pair a__law_pair d__law_pair
  m__law_pair : mg "_law_pair" = some (.ref a__law_pair)
  B__law_pair : Binds K d__law_pair ["bag"] []
  a_law : Addr
  d_law : FuncData
  F_law : Fun K "law" "law" s_law a_law d_law
  m_law : mg "law" = some (.ref a_law)
  B_law : Binds K d_law ["script"] []
  c__law_judged : Addr
  P__law_judged : Addr
  k__law_judged : d__law_judged.code = .ref c__law_judged
  Z_is_fraction : KBn K d_is_fraction ["value"] 0 ["value"] (fun _ ws => ws) (fun _ zs => zs)
  Z_is_value : KBn K d_is_value ["value"] 0 ["value"] (fun _ ws => ws) (fun _ zs => zs)
  Z_value_text : KBn K d_value_text ["value"] 0 ["value"] (fun _ ws => ws) (fun _ zs => zs)
  Z_read_value : KBn K d_read_value ["text"] 0 ["text"] (fun _ ws => ws) (fun _ zs => zs)

end LK

set_option Elab.async false
set_option linter.all false
set_option maxRecDepth 100000
namespace LK
open PySem PySem.Spec PyProof.Rows L2
local macro_rules | `(tactic| walk_at "rs") => `(tactic| simp only [cxK, cxNK, tCallZ, tAsg, tOp, rI0, rS0, rB0, rI, rU, tUn, rEq, rNe, rIxL, rIxT, rIxS, rSetL, rSlLU, rSlS, rSlU, rCatL, rCatU, rRepL, rIn, tVar, tC, gName, gSub, tIfS, tTest, tB, tAnd, tOr, tNot, tNotV, tAndV, tOrV, tIf, tCall, tCons, tNil, tCB, tDrop, tRet, tRetN, tNext, tLstU, tTupU, tM0, tM1, tPar, tPar3, tAug, ipI, tBM, tBM0, rAppend, rPop, tBreak, tCont, tChain, tSl, tPart, tNoPart, L2.start, List.map, List.length_cons, List.length_nil, List.replicate, List.cons_append, List.nil_append, List.append_nil, List.getElem?_cons_zero, List.getElem?_cons_succ, List.set_cons_zero, List.set_cons_succ, Option.some.injEq, V.int.injEq, V.ref.injEq, V.str.injEq, V.bl.injEq, exists_eq_left', exists_eq_left, exists_and_left, decide_eq_true_eq, List.cons.injEq, and_true, true_and, scal, Bool.not_eq_true', decide_eq_false_iff_not, Nat.zero_add, Nat.reduceAdd, Nat.reduceSub, reduceCtorEq, false_and, exists_false, false_or, or_false, CPow, CMul, CDiv, Int.reduceToNat, ↓reduceIte, wipe, sw, List.nil_append, List.singleton_append])
local macro_rules | `(tactic| walk_at "st") => `(tactic| (refine seq_op fun N hN => ?_; walk_at "rs"))
local macro_rules | `(tactic| walk_at "sd") => `(tactic| first | assumption | decide | omega)
local macro_rules | `(tactic| walk_at "rd") => `(tactic| repeat (first
  | refine ⟨_, SqL.of (by assumption), ?_⟩ | refine ⟨_, SqL.of upd_same, ?_⟩ | refine ⟨_, .inl (SqL.of (by assumption)), ?_⟩ | refine ⟨_, (by assumption : _ = some (HO.lst _)), ?_⟩ | refine ⟨_, upd_same, ?_⟩
  | refine ⟨_, rfl, ?_⟩ | refine And.intro (by walk_at "sd") ?_))

def spV (sp : List V → Hp → VK → Prop) : Sp := fun vs H Q _ => sp vs H Q
/-- the two fields of a BadValue -/
def badF (v : V) : List (Str × V) := [("code", .str "BadValue"), ("value", v)]
def sp_BadValue (C : Addr) : Sp := fun vs H Q _ => ∃ (a : Addr) (v : V), vs = [.ref a, v] ∧ H a = some (exo a C none) ∧
  ∀ dx, H dx = none → dx ≠ a → Q .non (L2.upd (L2.upd (L2.upd H dx (exd dx [("value", v)])) a (exo a C (some dx))) dx (exd dx (badF v)))
def spP1 (K : PySem.W.Frag) (F : PyData → V) : Sp := fun vs H Q _ => ∃ v d, vs = [v] ∧ Dp K H v d ∧ ∀ H', Same H H' → Q (F d) H'
section
variable {P : Program} {w : World} {K : PySem.W.Frag} {mg : Str → Option Value} {base : Heap}
theorem ok_BadValue (T : Txt w K mg) : FnOk P w K mg base CX0 1 T.f_BadValue T.d_BadValue ["self", "value"] (sp_BadValue T.C_BadValue) := by
  refine T.F_BadValue.ok sc_BadValue (fun vs H Q E h => ?_) (fun cdv A outer s H vs Q E hr h => ?_)
  · obtain ⟨a, v, rfl, _⟩ := h
    rfl
  · obtain ⟨a, v, rfl, ha, k⟩ := h
    refine ⟨_, pss_cons (ps_ost (pv 0) (pv 1)) (pss_one (ps_ost (pv 0) pe_str)), ?_⟩
    refine seq_op fun N hN => ?_
    unfold tOst
    walk_at "rs"
    refine ⟨T.C_BadValue, T.X_BadValue, T.v_BadValue, .inl ⟨ha, fun dx hdx ne => hN _ _ ?_⟩⟩
    clear hN N
    unfold tOst
    walk_at "rs"
    refine ⟨T.C_BadValue, T.X_BadValue, T.c_BadValue, .inr ⟨dx, upd_same, [("value", v)], by rw [upd_ne ne]; exact upd_same, by simp, k dx hdx ne⟩⟩
theorem ok_is_number (T : Txt w K mg) : FnOk P w K mg base CX0 1 T.a_is_number T.d_is_number ["value"] (spP1 K fun d => .bl (isNum d)) := by
  refine T.F_is_number.ok sc_is_number (fun vs H Q E h => ?_) (fun cdv A outer s H vs Q E hr h => ?_)
  · obtain ⟨v, d, rfl, _⟩ := h
    rfl
  · obtain ⟨v, d, rfl, hD, k⟩ := h
    refine ⟨_, (pss_one (ps_ret (pe_and (pe_callB (call_isiDK (K := K) rfl) (by rfl) T.n_isinstance (by decide +kernel) (pa_cons (pv 0) (pa_cons (pe_bltn (v := .ty "int") (u := .type "int") (by rfl) T.n_int (by decide +kernel) rfl) pa_nil))) (pe_one (pe_not (pe_callB (call_isiDK (K := K) rfl) (by rfl) T.n_isinstance (by decide +kernel) (pa_cons (pv 0) (pa_cons (pe_bltn (v := .ty "bool") (u := .type "bool") (by rfl) T.n_bool (by decide +kernel) rfl) pa_nil)))))))), ?_⟩
    walk_at "rs"
    refine ⟨v, "int", ⟨rfl, rfl⟩, d, hD, by decide, ite2 (fun h => ⟨v, "bool", ⟨rfl, rfl⟩, d, hD, by decide, ?_⟩) (fun h => ?_)⟩
    · have e : isNum d = !isTy "bool" d := by cases d <;> first | rfl | cases h
      rw [← e]; exact k H (Same.refl _)
    · have e : isNum d = false := by cases d <;> first | rfl | (exact absurd rfl h)
      have q : Q (.bl (isNum d)) H := k H (Same.refl _)
      rw [e] at q; exact q
theorem ok_is_fraction (T : Txt w K mg) : FnOk P w K mg base CX0 2 T.a_is_fraction T.d_is_fraction ["value"] (spP1 K fun d => .bl (isFrac d)) := by
  refine T.F_is_fraction.ok sc_is_fraction (fun vs H Q E h => ?_) (fun cdv A outer s H vs Q E hr h => ?_)
  · obtain ⟨v, d, rfl, _⟩ := h
    rfl
  · obtain ⟨v, d, rfl, hD, k⟩ := h
    have hr_is_number : Room 1 _ := hr.mono (by decide)
    have G_is_number := ok_is_number (P := P) (base := base) T
    refine ⟨_, (pss_cons (ps_if (PW.pt (pw_or (pt_not (pt_val (pe_callB (call_isiDK (K := K) rfl) (by rfl) T.n_isinstance (by decide +kernel) (pa_cons (pv 0) (pa_cons (pe_bltn (v := .ty "tuple") (u := .type "tuple") (by rfl) T.n_tuple (by decide +kernel) rfl) pa_nil))))) (pw_or1 (pt_cmpR op_neI (pe_callB call_lenD (by rfl) T.n_len (by decide +kernel) (pa_cons (pv 0) pa_nil)) pe_int (nomark _))))) (pss_one (ps_ret pe_bl)) pss_nil)
      (pss_cons (ps_asg (pv 0) (pg_tup rfl (pgs_cons (pg_name (i := 1) sc_is_fraction.nd rfl (Or.inl rfl)) (pgs_cons (pg_name (i := 2) sc_is_fraction.nd rfl (Or.inl rfl)) pgs_nil))))
      (pss_one (ps_ret (pe_and (pe_call G_is_number hr_is_number (by rfl) T.m_is_number T.F_is_number.kp T.B_is_number .nil pass0 (pa_cons (pv 1) pa_nil)) (pe_and (pe_call G_is_number hr_is_number (by rfl) T.m_is_number T.F_is_number.kp T.B_is_number .nil pass0 (pa_cons (pv 2) pa_nil)) (pe_and (pe_cmpR op_ge (pv 2) pe_int (nomark _)) (pe_one (pe_cmpR op_eqI (pe_callBfun cr_gcd (by rfl) T.m_gcd (pa_cons (pv 1) (pa_cons (pv 2) pa_nil))) pe_int (nomark _)))))))))), ?_⟩
    refine seq_op fun N hN => ?_
    walk_at "rs"
    refine ⟨v, "tuple", ⟨rfl, rfl⟩, d, hD, by decide, ite2 (fun h => ?_) (fun h => ⟨d, hD, ?_⟩)⟩
    · have e : isFrac d = false := by cases d <;> first | rfl | cases h
      have q : Q (.bl (isFrac d)) H := k H (Same.refl _)
      rw [e] at q; exact q
    obtain ⟨ds, rfl⟩ : ∃ ds, d = .tuple ds := by cases d <;> first | exact ⟨_, rfl⟩ | (exact absurd rfl h)
    clear h
    refine .inl ⟨ds, .inr rfl, ite2 (fun h2 => ?_) (fun h2 => hN _ _ ?_)⟩
    · have e : isFrac (.tuple ds) = false := by
        rcases ds with _ | ⟨x, _ | ⟨y, _ | ⟨z, r⟩⟩⟩
        · rfl
        · cases x <;> rfl
        · exact absurd rfl h2
        · cases x <;> cases y <;> rfl
      have q : Q (.bl (isFrac (.tuple ds))) H := k H (Same.refl _)
      rw [e] at q; exact q
    clear hN N
    obtain ⟨x, y, rfl⟩ : ∃ x y, ds = [x, y] := by
      rcases ds with _ | ⟨x, _ | ⟨y, _ | ⟨z, r⟩⟩⟩
      · exact absurd (by simp) h2
      · exact absurd (by simp) h2
      · exact ⟨x, y, rfl⟩
      · exact absurd (by simp; omega) h2
    cases hD with
    | tup hs ha =>
    cases ha with
    | cons hx ha =>
    cases ha with
    | cons hy ha =>
    cases ha
    refine seq_op fun N hN => ?_
    walk_at "rs"
    refine ⟨_, _, rfl, hs, rfl, ?_⟩
    unfold gCons gNil
    walk_at "rs"
    refine ⟨_, _, ⟨rfl, rfl⟩, _, _, rfl, rfl, hN _ _ ?_⟩
    clear hN N
    walk_at "rs"
    have no : ∀ (H' : Hp), Same H H' → isFrac (.tuple [x, y]) = false → Q (.bl false) H' := fun H' s' e => by
      have q : Q (.bl (isFrac (.tuple [x, y]))) H' := k H' s'
      rw [e] at q; exact q
    refine ⟨_, x, rfl, hx, fun H1 s1 => ⟨isNum x, rfl, ite2 (fun hp => ?_) (fun hp => no H1 s1 (by cases x <;> first | rfl | exact absurd rfl hp))⟩⟩
    refine ⟨_, y, rfl, dp_same s1 hy, fun H2 s2 => ⟨isNum y, rfl, ite2 (fun hq => ?_) (fun hq => no H2 (Same.trans s1 s2) (by cases x <;> cases y <;> first | rfl | exact absurd rfl hq))⟩⟩
    obtain ⟨p, rfl⟩ : ∃ p, x = .int p := by cases x <;> first | exact ⟨_, rfl⟩ | cases hp
    obtain ⟨q, rfl⟩ : ∃ q, y = .int q := by cases y <;> first | exact ⟨_, rfl⟩ | cases hq
    cases hx
    cases hy
    refine ⟨q, rfl, ite2 (fun h1 => ⟨p, q, rfl, _, rfl, ?_⟩) (fun h1 => no H2 (Same.trans s1 s2) (by
      show (decide (1 ≤ q) && _) = false
      rw [decide_eq_false h1]; rfl))⟩
    have e : isFrac (.tuple [.int p, .int q]) = decide ((((Nat.gcd p.natAbs q.natAbs : Nat) : Int)) = 1) := by
      show (decide (1 ≤ q) && _) = _
      rw [decide_eq_true h1, Bool.true_and]
      exact decide_eq_decide.mpr (by omega)
    rw [← e]; exact k H2 (Same.trans s1 s2)
/-! ### lowest terms -/
def frG (p q : Int) : Int := if q < 0 then -((Nat.gcd p.natAbs q.natAbs : Nat) : Int) else ((Nat.gcd p.natAbs q.natAbs : Nat) : Int)
def frP (p q : Int) : Int := p.fdiv (frG p q)
def frQ (p q : Int) : Int := q.fdiv (frG p q)
def sp_fraction (C : Addr) : Sp := fun vs H Q E => ∃ p q : Int, vs = [.int p, .int q] ∧ p.natAbs.log2 < 9000 ∧ q.natAbs.log2 < 9000 ∧
  (q ≠ 0 → ∀ t H', Same H H' → H t = none → H' t = some (.tup [.int (frP p q), .int (frQ p q)]) → Q (.ref t) H') ∧
  (q = 0 → ∀ d H', Same H H' → H d = none → H' d = some (.xd (badF (.int q))) → E (.ref C) (some d) H')
theorem gcd_log {p q : Int} (h : q ≠ 0) : (Nat.gcd p.natAbs q.natAbs).log2 ≤ q.natAbs.log2 := by
  have h0 : q.natAbs ≠ 0 := by omega
  have le : Nat.gcd p.natAbs q.natAbs ≤ q.natAbs := Nat.le_of_dvd (by omega) (Nat.gcd_dvd_right _ _)
  have g0 : Nat.gcd p.natAbs q.natAbs ≠ 0 := fun e => h0 (Nat.eq_zero_of_gcd_eq_zero_right e)
  exact (Nat.le_log2 h0).mpr (Nat.le_trans (Nat.log2_self_le g0) le)
theorem mk_bad {C : Addr} {H1 : Hp} {v : V} {Qx : XK} (k : ∀ d H', Same H1 H' → H1 d = none → H' d = some (.xd (badF v)) → Qx (.ref C) (some d) H') : ∀ a, H1 a = none → sp_BadValue C (.ref a :: ([v] ++ [])) (L2.upd H1 a (exo a C none)) (fun v2 H2 => v2 = .non ∧ ∃ (d : Addr) (fs : List (Str × V)), H2 a = some (exo a C (some d)) ∧ H2 d = some (exd d fs) ∧ H1 d = none ∧ Qx (.ref C) (some d) (L2.upd (del H2 a) d (.xd fs))) E0 := by
  intro a ha
  refine ⟨a, v, rfl, upd_same, fun dx hdx ne => ⟨rfl, dx, badF v, ?_, upd_same, ?_, k dx _ ?_ ?_ upd_same⟩⟩
  · rw [upd_ne (Ne.symm ne), upd_same]
  · rw [upd_ne ne] at hdx; exact hdx
  · intro b o e
    rw [upd_ne ne] at hdx
    have n1 : b ≠ a := fun z => by rw [z, ha] at e; cases e
    have n2 : b ≠ dx := fun z => by rw [z, hdx] at e; cases e
    rw [upd_ne n2, del_ne n1, upd_ne n2, upd_ne n1, upd_ne n2, upd_ne n1]
    exact e
  · rw [upd_ne ne] at hdx; exact hdx
theorem mk_badT {C : Addr} {ta : TA} {σ : L2.St} {H0 H1 : Hp} {v : V} {Qx : XK} (ht : ∀ K : List V → Hp → Prop, K [v] H1 → ta σ H0 K) (k : ∀ d H', Same H1 H' → H1 d = none → H' d = some (.xd (badF v)) → Qx (.ref C) (some d) H') : tMkO C (sp_BadValue C) [] ta σ H0 Qx :=
  ht _ ⟨by simp, mk_bad k⟩
theorem ok_fraction (T : Txt w K mg) : FnOk P w K mg base (L2.CX P w) 3 T.a_fraction T.d_fraction ["p", "q"] (sp_fraction T.C_BadValue) := by
  refine T.F_fraction.ok sc_fraction (fun vs H Q E h => ?_) (fun cdv A outer s H vs Q E hr h => ?_)
  · obtain ⟨p, q, rfl, _⟩ := h
    rfl
  · obtain ⟨p, q, rfl, lp, lq, k, kE⟩ := h
    have hr_is_number : Room 1 _ := hr.mono (by decide)
    have G_is_number := ok_is_number (P := P) (base := base) T
    have hr_BadValue : Room 2 _ := hr.mono (by decide)
    have G_BadValue := ok_BadValue (P := P) (base := base) T
    refine ⟨_, (pss_cons (ps_if (PW.pt (pw_or (pt_not (pt_val (pe_call G_is_number hr_is_number (by rfl) T.m_is_number T.F_is_number.kp T.B_is_number .nil pass0 (pa_cons (pv 1) pa_nil)))) (pw_or1 (pt_cmpR op_eqI (pv 1) pe_int (nomark _))))) (pss_one (ps_raise rfl (takes_of rfl rfl rfl rfl) (pmk_oex T.X_BadValue T.i_BadValue T.t_BadValue G_BadValue hr_BadValue T.B_BadValue__init .nil pass0 (by rfl) T.m_BadValue (pa_cons (pv 1) pa_nil)))) pss_nil)
      (pss_cons (ps_set (i := 2) sc_fraction.nd rfl (Or.inl rfl) (pe_callBfun cr_gcd (by rfl) T.m_gcd (pa_cons (pv 0) (pa_cons (pv 1) pa_nil))))
      (pss_cons (ps_if (pt_cmpR op_lt (pv 1) pe_int (nomark _)) (pss_one (ps_set (i := 2) sc_fraction.nd rfl (Or.inl rfl) (pe_un un_neg (pv 2)))) pss_nil)
      (pss_one (ps_ret (pe_tupU (pa_cons (pe_op op_fdivF (pv 0) (pv 2)) (pa_cons (pe_op op_fdivF (pv 1) (pv 2)) pa_nil)))))))), ?_⟩
    refine seq_op fun N hN => ?_
    walk_at "rs"
    refine ⟨_, .int q, rfl, .int q, fun H1 s1 => ⟨true, rfl, iteFF (by decide) (ite2 (fun e => ?_) (fun e => hN _ _ ?_))⟩⟩
    · subst e
      exact mk_badT (fun K h => by walk_at "rs"; exact h) fun d H2 s2 hd h2 => kE rfl d H2 (Same.trans s1 s2) (Same.dom s1 d hd) h2
    clear hN N
    replace k := k e
    clear kE
    have g0 : (Nat.gcd p.natAbs q.natAbs : Nat) ≠ 0 := fun z => e (by have := Nat.eq_zero_of_gcd_eq_zero_right z; omega)
    have gl := gcd_log (p := p) e
    refine seq_op fun N hN => ?_
    walk_at "rs"
    refine ⟨p, q, rfl, hN _ _ ?_⟩
    clear hN N
    refine cut_seq (fun σ H2 => σ = [some (.int p), some (.int q), some (.int (frG p q))] ∧ H2 = H1) (fun N hN => ?_) ?_
    · walk_at "rs"
      unfold frG at hN
      refine ite2 (fun c => ?_) (fun c => ?_)
      · rw [if_pos c] at hN; exact hN _ _ ⟨rfl, rfl⟩
      · rw [if_neg c] at hN; exact hN _ _ ⟨rfl, rfl⟩
    · rintro σ H2 ⟨rfl, rfl⟩
      have n0 : frG p q ≠ 0 := by unfold frG; split <;> omega
      have nl : (frG p q).natAbs.log2 < 9000 := by
        have : (frG p q).natAbs = Nat.gcd p.natAbs q.natAbs := by unfold frG; split <;> omega
        rw [this]; omega
      walk_at "rs"
      exact ⟨⟨n0, nl⟩, ⟨n0, nl⟩, by decide, fun t H3 s3 h03 h3 => k t H3 (Same.trans s1 s3) (Same.dom s1 t h03) h3⟩
/-! ### the reckoning -/
def FrT (p q : Int) : V × V := (.int (frP p q), .int (frQ p q))
/-- a pair of whole numbers at a -/
def Pr (K : PySem.W.Frag) (H : Hp) (a : Addr) (p q : Int) : Prop := SqT K H a [.int p, .int q]
def sp_two (K : PySem.W.Frag) (f g : Int → Int → Int → Int → Int) : Sp := fun vs H Q _ => ∃ (a b : Addr) (p q r s : Int), vs = [.ref a, .ref b] ∧ Pr K H a p q ∧ Pr K H b r s ∧ p.natAbs < 2 ^ 4000 ∧ q.natAbs < 2 ^ 4000 ∧ r.natAbs < 2 ^ 4000 ∧ s.natAbs < 2 ^ 4000 ∧ g p q r s ≠ 0 ∧
  ∀ t H', Same H H' → H t = none → H' t = some (.tup [.int (frP (f p q r s) (g p q r s)), .int (frQ (f p q r s) (g p q r s))]) → Q (.ref t) H'
theorem two_add {i j : Int} {a : Nat} (hi : i.natAbs < 2 ^ a) (hj : j.natAbs < 2 ^ a) : (i + j).natAbs < 2 ^ (a + 1) := by
  have e : 2 ^ (a + 1) = 2 * 2 ^ a := Nat.pow_succ'
  omega
theorem two_sub {i j : Int} {a : Nat} (hi : i.natAbs < 2 ^ a) (hj : j.natAbs < 2 ^ a) : (i - j).natAbs < 2 ^ (a + 1) := by
  have e : 2 ^ (a + 1) = 2 * 2 ^ a := Nat.pow_succ'
  omega
theorem mulW {i j : Int} (hi : i.natAbs < 2 ^ 4000) (hj : j.natAbs < 2 ^ 4000) : CMulW i j := wide_mul hi hj (by decide) (by decide) (by decide)
theorem mulL {i j : Int} (hi : i.natAbs < 2 ^ 4000) (hj : j.natAbs < 2 ^ 4000) : (i * j).natAbs < 2 ^ 8000 := wide_lt (a := 4000) (b := 4000) hi hj
theorem logL {i : Int} {a : Nat} (h : i.natAbs < 2 ^ a) (h0 : 0 < a) (h9 : a ≤ 9000) : i.natAbs.log2 < 9000 := Nat.lt_of_lt_of_le (PySem.Flt.log2_lt_of h0 h) h9
theorem ok_plus (T : Txt w K mg) : FnOk P w K mg base CX0 4 T.a_plus T.d_plus ["a", "b"] (sp_two K (fun p q r s => p * s + r * q) fun _ q _ s => q * s) := by
  refine T.F_plus.ok sc_plus (fun vs H Q E h => ?_) (fun cdv A outer s H vs Q E hr h => ?_)
  · obtain ⟨a, b, p, q, r, s', rfl, _⟩ := h
    rfl
  · obtain ⟨a, b, p, q, r, s', rfl, ha, hb, lp, lq, lr, ls, n0, k⟩ := h
    have hr_fraction : Room 3 _ := hr.mono (by decide)
    have G_fraction := ok_fraction (P := P) (base := base) T
    refine ⟨_, (pss_one (ps_ret (pe_call G_fraction hr_fraction (by rfl) T.m_fraction T.F_fraction.kp T.B_fraction .nil passL (pa_cons (pe_op op_add (pe_op op_mulW (pe_ix ix_tup (pv 0) pe_int (fun _ _ => rfl)) (pe_ix ix_tup (pv 1) pe_int (fun _ _ => rfl))) (pe_op op_mulW (pe_ix ix_tup (pv 1) pe_int (fun _ _ => rfl)) (pe_ix ix_tup (pv 0) pe_int (fun _ _ => rfl)))) (pa_cons (pe_op op_mulW (pe_ix ix_tup (pv 0) pe_int (fun _ _ => rfl)) (pe_ix ix_tup (pv 1) pe_int (fun _ _ => rfl))) pa_nil))))), ?_⟩
    walk_at "rs"
    refine ⟨_, ha, _, rfl, _, hb, _, rfl, _, rfl, _, rfl, mulW lp ls, _, hb, _, rfl, _, ha, _, rfl, _, rfl, _, rfl, mulW lr lq, _, ha, _, rfl, _, hb, _, rfl, _, rfl, _, rfl, mulW lq ls, ?_⟩
    exact ⟨_, _, rfl, logL (two_add (mulL lp ls) (mulL lr lq)) (by decide) (by decide), logL (mulL lq ls) (by decide) (by decide), fun _ => k, fun e => absurd e n0⟩
theorem ok_minus (T : Txt w K mg) : FnOk P w K mg base CX0 4 T.a_minus T.d_minus ["a", "b"] (sp_two K (fun p q r s => p * s - r * q) (fun _ q _ s => q * s)) := by
  refine T.F_minus.ok sc_minus (fun vs H Q E h => ?_) (fun cdv A outer s H vs Q E hr h => ?_)
  · obtain ⟨a, b, p, q, r, s', rfl, _⟩ := h
    rfl
  · obtain ⟨a, b, p, q, r, s', rfl, ha, hb, lp, lq, lr, ls, n0, k⟩ := h
    have hr_fraction : Room 3 _ := hr.mono (by decide)
    have G_fraction := ok_fraction (P := P) (base := base) T
    refine ⟨_, (pss_one (ps_ret (pe_call G_fraction hr_fraction (by rfl) T.m_fraction T.F_fraction.kp T.B_fraction .nil passL (pa_cons (pe_op op_sub (pe_op op_mulW (pe_ix ix_tup (pv 0) pe_int (fun _ _ => rfl)) (pe_ix ix_tup (pv 1) pe_int (fun _ _ => rfl))) (pe_op op_mulW (pe_ix ix_tup (pv 1) pe_int (fun _ _ => rfl)) (pe_ix ix_tup (pv 0) pe_int (fun _ _ => rfl)))) (pa_cons (pe_op op_mulW (pe_ix ix_tup (pv 0) pe_int (fun _ _ => rfl)) (pe_ix ix_tup (pv 1) pe_int (fun _ _ => rfl))) pa_nil))))), ?_⟩
    walk_at "rs"
    refine ⟨_, ha, _, rfl, _, hb, _, rfl, _, rfl, _, rfl, mulW lp ls, _, hb, _, rfl, _, ha, _, rfl, _, rfl, _, rfl, mulW lr lq, _, ha, _, rfl, _, hb, _, rfl, _, rfl, _, rfl, mulW lq ls, ?_⟩
    exact ⟨_, _, rfl, logL (two_sub (mulL lp ls) (mulL lr lq)) (by decide) (by decide), logL (mulL lq ls) (by decide) (by decide), fun _ => k, fun e => absurd e n0⟩
theorem ok_times (T : Txt w K mg) : FnOk P w K mg base CX0 4 T.a_times T.d_times ["a", "b"] (sp_two K (fun p _ r _ => p * r) (fun _ q _ s => q * s)) := by
  refine T.F_times.ok sc_times (fun vs H Q E h => ?_) (fun cdv A outer s H vs Q E hr h => ?_)
  · obtain ⟨a, b, p, q, r, s', rfl, _⟩ := h
    rfl
  · obtain ⟨a, b, p, q, r, s', rfl, ha, hb, lp, lq, lr, ls, n0, k⟩ := h
    have hr_fraction : Room 3 _ := hr.mono (by decide)
    have G_fraction := ok_fraction (P := P) (base := base) T
    refine ⟨_, (pss_one (ps_ret (pe_call G_fraction hr_fraction (by rfl) T.m_fraction T.F_fraction.kp T.B_fraction .nil passL (pa_cons (pe_op op_mulW (pe_ix ix_tup (pv 0) pe_int (fun _ _ => rfl)) (pe_ix ix_tup (pv 1) pe_int (fun _ _ => rfl))) (pa_cons (pe_op op_mulW (pe_ix ix_tup (pv 0) pe_int (fun _ _ => rfl)) (pe_ix ix_tup (pv 1) pe_int (fun _ _ => rfl))) pa_nil))))), ?_⟩
    walk_at "rs"
    refine ⟨_, ha, _, rfl, _, hb, _, rfl, _, rfl, _, rfl, mulW lp lr, _, ha, _, rfl, _, hb, _, rfl, _, rfl, _, rfl, mulW lq ls, ?_⟩
    exact ⟨_, _, rfl, logL (mulL lp lr) (by decide) (by decide), logL (mulL lq ls) (by decide) (by decide), fun _ => k, fun e => absurd e n0⟩
end
end LK

set_option Elab.async false
set_option linter.all false
set_option maxRecDepth 100000
namespace LK
open PySem PySem.Spec PyProof.Rows L2
local macro_rules | `(tactic| walk_at "rs") => `(tactic| simp only [cxK, cxNK, tCallZ, tAsg, tOp, rI0, rS0, rB0, rI, rU, tUn, rEq, rNe, rIxL, rIxT, rIxS, rSetL, rSlLU, rSlS, rSlU, rCatL, rCatU, rRepL, rIn, tVar, tC, gName, gSub, tIfS, tTest, tB, tAnd, tOr, tNot, tNotV, tAndV, tOrV, tIf, tCall, tCons, tNil, tCB, tDrop, tRet, tRetN, tNext, tLstU, tTupU, tM0, tM1, tPar, tPar3, tAug, ipI, tBM, tBM0, rAppend, rPop, tBreak, tCont, tChain, tSl, tPart, tNoPart, L2.start, List.map, List.length_cons, List.length_nil, List.replicate, List.cons_append, List.nil_append, List.append_nil, List.getElem?_cons_zero, List.getElem?_cons_succ, List.set_cons_zero, List.set_cons_succ, Option.some.injEq, V.int.injEq, V.ref.injEq, V.str.injEq, V.bl.injEq, exists_eq_left', exists_eq_left, exists_and_left, decide_eq_true_eq, List.cons.injEq, and_true, true_and, scal, Bool.not_eq_true', decide_eq_false_iff_not, Nat.zero_add, Nat.reduceAdd, Nat.reduceSub, reduceCtorEq, false_and, exists_false, false_or, or_false, CPow, CMul, CDiv, Int.reduceToNat, ↓reduceIte, wipe, sw, List.nil_append, List.singleton_append])
local macro_rules | `(tactic| walk_at "st") => `(tactic| (refine seq_op fun N hN => ?_; walk_at "rs"))
local macro_rules | `(tactic| walk_at "sd") => `(tactic| first | assumption | decide | omega)
local macro_rules | `(tactic| walk_at "rd") => `(tactic| repeat (first
  | refine ⟨_, SqL.of (by assumption), ?_⟩ | refine ⟨_, SqL.of upd_same, ?_⟩ | refine ⟨_, .inl (SqL.of (by assumption)), ?_⟩ | refine ⟨_, (by assumption : _ = some (HO.lst _)), ?_⟩ | refine ⟨_, upd_same, ?_⟩
  | refine ⟨_, rfl, ?_⟩ | refine And.intro (by walk_at "sd") ?_))

section
variable {P : Program} {w : World} {K : PySem.W.Frag} {mg : Str → Option Value} {base : Heap}
theorem ok__law_draw (T : Txt w K mg) : FnOk P w K mg base CX0 1 T.a__law_draw T.d__law_draw ["bag", "size"] sp__law_draw := by
  refine T.F__law_draw.ok sc__law_draw (fun vs H Q E h => ?_) (fun cdv A outer s H vs Q E hr h => ?_)
  · obtain ⟨b, c, n, rfl, _⟩ := h
    rfl
  · obtain ⟨b, c, n, rfl, ⟨cells, i, g, m, d, hB, hC, ncb, hi, hm, hm2⟩, n0, n1, k⟩ := h
    refine ⟨_, (pss_cons (ps_asg (pe_op op_add (pe_ix ix_list (pv 0) pe_int (fun _ _ => rfl)) pe_int) (pg_sub (pv 0) pe_int set_list))
      (pss_cons (ps_if (PW.pt (pw_and (pt_cmpR op_eqI (pe_ix ix_list (pv 0) pe_int (fun _ _ => rfl)) pe_int (nomark _)) (pw_and1 (pt_cmpR op_lt (pe_ix ix_list (pv 0) pe_int (fun _ _ => rfl)) (pe_callB call_len_seq (by rfl) T.n_len (by decide +kernel) (pa_cons (pe_ix ix_list (pv 0) pe_int (fun _ _ => rfl)) pa_nil)) (nomark _))))) (pss_cons (ps_set (i := 2) sc__law_draw.nd rfl (Or.inl rfl) (pe_ix ix_list (pe_ix ix_list (pv 0) pe_int (fun _ _ => rfl)) (pe_ix ix_list (pv 0) pe_int (fun _ _ => rfl)) (fun _ _ => rfl)))
      (pss_cons (ps_asg (pe_op op_add (pe_ix ix_list (pv 0) pe_int (fun _ _ => rfl)) pe_int) (pg_sub (pv 0) pe_int set_list))
      (pss_one (ps_if (pt_cmpR op_ge (pv 2) (pe_op op_pow pe_int pe_int) (nomark _)) (pss_one (ps_asg (pv 2) (pg_sub (pv 0) pe_int set_list))) (pss_one (ps_asg (pe_op op_mod (pe_callTy call_intI (by rfl) T.n_int (by decide +kernel) (pa_cons (pe_op op_add (pe_op op_add (pe_op op_mul (pe_ix ix_list (pv 0) pe_int (fun _ _ => rfl)) pe_int) (pe_op op_mul (pe_op op_mod (pe_callTy call_intI (by rfl) T.n_int (by decide +kernel) (pa_cons (pv 2) pa_nil)) pe_int) pe_int)) pe_int) pa_nil)) pe_int) (pg_sub (pv 0) pe_int set_list))))))) pss_nil)
      (pss_cons (ps_if (pt_cmpR op_gt (pe_ix ix_list (pv 0) pe_int (fun _ _ => rfl)) pe_int (nomark _)) (pss_cons (ps_set (i := 3) sc__law_draw.nd rfl (Or.inl rfl) (pe_op op_mod (pe_callTy call_intI (by rfl) T.n_int (by decide +kernel) (pa_cons (pe_ix ix_list (pv 0) pe_int (fun _ _ => rfl)) pa_nil)) (pv 1)))
      (pss_cons (ps_asg (pe_op op_fdiv (pe_ix ix_list (pv 0) pe_int (fun _ _ => rfl)) (pv 1)) (pg_sub (pv 0) pe_int set_list))
      (pss_one (ps_ret (pv 3))))) pss_nil)
      (pss_cons (ps_asg (pe_op op_mod (pe_callTy call_intI (by rfl) T.n_int (by decide +kernel) (pa_cons (pe_op op_add (pe_op op_add (pe_op op_pow (pe_ix ix_list (pv 0) pe_int (fun _ _ => rfl)) pe_int) (pe_op op_mul (pe_ix ix_list (pv 0) pe_int (fun _ _ => rfl)) pe_int)) pe_int) pa_nil)) pe_int) (pg_sub (pv 0) pe_int set_list))
      (pss_one (ps_ret (pe_op op_mod (pe_callTy call_intI (by rfl) T.n_int (by decide +kernel) (pa_cons (pe_op op_add (pe_op op_fdiv (pe_ix ix_list (pv 0) pe_int (fun _ _ => rfl)) pe_int) (pe_op op_mul (pe_op op_mod (pe_callTy call_intI (by rfl) T.n_int (by decide +kernel) (pa_cons (pe_ix ix_list (pv 0) pe_int (fun _ _ => rfl)) pa_nil)) pe_int) pe_int)) pa_nil)) (pv 1)))))))), ?_⟩
    -- bag[4] = bag[4] + 1
    refine seq_op fun N hN => ?_
    walk_at "rs"
    refine ⟨_, SqL.of hB, _, rfl, _, rfl, _, hB, _, rfl, ?_⟩
    refine hN _ _ ?_
    clear hN N
    -- if bag[2] == 0 and bag[1] < len(bag[0]): ..
    have B1 : Bag (upd H b (.lst [.ref c, .int i, .int g, .int m, .int (d + 1)])) b c := ⟨cells, i, g, m, d + 1, upd_same, by rw [upd_ne ncb]; exact hC, ncb, hi, hm, hm2⟩
    have K1 : Kp b H (upd H b (.lst [.ref c, .int i, .int g, .int m, .int (d + 1)])) := Kp.upd
    show tSeq _ _ _ _ (upd H b (.lst [.ref c, .int i, .int g, .int m, .int (d + 1)]))
    generalize upd H b (.lst [.ref c, .int i, .int g, .int m, .int (d + 1)]) = H1 at B1 K1 ⊢
    clear hB hC ncb hi hm hm2 i g m d cells
    refine cut_seq (fun σ H2 => ∃ x, σ = [some (.ref b), some (.int n), x, none] ∧ Bag H2 b c ∧ Kp b H H2) (fun N hN => ?_) ?_
    · obtain ⟨cells, i, g, m, d, hB, hC, ncb, hi, hm, hm2⟩ := id B1
      walk_at "rs"
      refine ⟨_, SqL.of hB, _, rfl, _, rfl, ite2 (fun z => ?_) (fun _ => hN _ _ ⟨_, rfl, B1, K1⟩)⟩
      refine ⟨_, SqL.of hB, _, rfl, _, SqL.of hB, _, rfl, _, rfl, _, .inl (SqL.of hC), _, rfl, ite2 (fun zl => ?_) (fun _ => hN _ _ ⟨_, rfl, B1, K1⟩)⟩
      -- cell = bag[0][bag[1]]
      rw [List.length_map] at zl
      obtain ⟨cl, hcl⟩ : ∃ cl, cells[i.toNat]? = some cl := ⟨cells[i.toNat]'(by omega), List.getElem?_eq_getElem _⟩
      refine seq_op fun N2 hN2 => ?_
      walk_at "rs"
      walk_at "rd"
      refine ⟨_, _, rfl, SqL.of hC, _, at_of (j := i.toNat) (v := .int cl) (by omega) (by rw [List.getElem?_map, hcl] <;> rfl), hN2 _ _ ?_⟩
      clear hN2 N2
      -- bag[1] = bag[1] + 1
      refine seq_op fun N2 hN2 => ?_
      walk_at "rs"
      walk_at "rd"
      refine hN2 _ _ ?_
      clear hN2 N2
      -- if cell >= 10 ** 18: bag[2] = cell else: ..
      walk_at "rs"
      refine ⟨by decide, ite2 (fun _ => ?_) (fun _ => ?_)⟩
      · refine ⟨_, upd_same, _, rfl, hN _ _ ⟨_, rfl, ?_, ?_⟩⟩
        · exact ⟨cells, i + 1, cl, m, d, upd_same, by rw [upd_ne ncb, upd_ne ncb]; exact hC, ncb, by omega, hm, hm2⟩
        · exact K1.trans (Kp.upd.trans Kp.upd)
      · walk_at "rd"
        refine hN _ _ ⟨_, rfl, ?_, ?_⟩
        · exact ⟨cells, i + 1, g, _, d, upd_same, by rw [upd_ne ncb, upd_ne ncb]; exact hC, ncb, by omega, Int.emod_nonneg _ (by decide), Int.emod_lt_of_pos _ (by decide)⟩
        · exact K1.trans (Kp.upd.trans Kp.upd)
    · rintro σ H2 ⟨x, rfl, B2, K2⟩
      obtain ⟨cells, i, g, m, d, hB, hC, ncb, hi, hm, hm2⟩ := id B2
      -- if bag[2] > 0: ..
      refine seq_op fun N hN => ?_
      walk_at "rs"
      refine ⟨_, SqL.of hB, _, rfl, _, rfl, ite2 (fun _ => ?_) (fun _ => hN _ _ ?_)⟩
      · refine seq_op fun N2 hN2 => ?_
        walk_at "rs"
        walk_at "rd"
        refine hN2 _ _ ?_
        clear hN2 N2
        refine seq_op fun N2 hN2 => ?_
        walk_at "rs"
        refine ⟨_, SqL.of hB, _, rfl, _, rfl, ⟨n0, n1⟩, ?_⟩
        walk_at "rd"
        refine hN2 _ _ ?_
        walk_at "rs"
        exact k _ _ (Int.emod_nonneg _ (by omega)) (Int.emod_lt_of_pos _ n0) ⟨cells, i, _, m, d, upd_same, by rw [upd_ne ncb]; exact hC, ncb, hi, hm, hm2⟩ (K2.trans Kp.upd)
      · clear hN N
        refine seq_op fun N hN => ?_
        walk_at "rs"
        refine ⟨_, SqL.of hB, _, rfl, _, rfl, ⟨by decide, by decide, by omega⟩, _, SqL.of hB, _, rfl, _, rfl, .inr (by decide), by decide, ?_⟩
        walk_at "rd"
        refine hN _ _ ?_
        clear hN N
        walk_at "rs"
        walk_at "rd"
        exact k _ _ (Int.emod_nonneg _ (by omega)) (Int.emod_lt_of_pos _ n0) ⟨cells, i, g, _, d, upd_same, by rw [upd_ne ncb]; exact hC, ncb, hi, Int.emod_nonneg _ (by decide), Int.emod_lt_of_pos _ (by decide)⟩ (K2.trans Kp.upd)

theorem ok__law_of (T : Txt w K mg) : FnOk P w K mg base CX0 2 T.a__law_of T.d__law_of ["bag", "things"] (sp__law_of K) := by
  refine T.F__law_of.ok sc__law_of (fun vs H Q E h => ?_) (fun cdv A outer s H vs Q E hr h => ?_)
  · obtain ⟨b, c, x, ys, rfl, _⟩ := h
    rfl
  · obtain ⟨b, c, x, ys, rfl, B, sq, sqb, ne, hl, k⟩ := h
    have hr__law_draw : Room 1 _ := hr.mono (by decide)
    have G__law_draw := ok__law_draw (P := P) (base := base) T
    refine ⟨_, (pss_one (ps_ret (pe_ix ix_seq (pv 1) (pe_call G__law_draw hr__law_draw (by rfl) T.m__law_draw T.F__law_draw.kp T.B__law_draw .nil pass0 (pa_cons (pv 0) (pa_cons (pe_callB call_len (by rfl) T.n_len (by decide +kernel) (pa_cons (pv 1) pa_nil)) pa_nil))) (fun _ _ => rfl)))), ?_⟩
    walk_at "rs"
    have ln : 0 < ys.length := by cases ys with | nil => exact absurd rfl ne | cons => exact Nat.succ_pos _
    have pick : ∀ (r : Int), 0 ≤ r → r < (ys.length : Int) → ∃ y, atI ys r = some y ∧ y ∈ ys := fun r r0 r1 => by
      have h1 : r.toNat < ys.length := by omega
      exact ⟨ys[r.toNat], at_of (j := r.toNat) (by omega) (List.getElem?_eq_getElem h1), List.getElem_mem h1⟩
    refine ⟨ys.length, ?_, b, c, _, rfl, B, by omega, by omega, fun r H' r0 r1 B' K' => ?_⟩
    · rcases sq with ⟨p, rfl, h⟩ | ⟨p, rfl, h⟩ | ⟨z, rfl, hz, rfl⟩
      · exact .inl ⟨_, h, rfl⟩
      · exact .inr ⟨_, h, rfl⟩
      · refine ⟨Nat.le_trans hz (by decide), ?_⟩
        rw [List.length_map, Array.length_toList] <;> rfl
    · obtain ⟨y, e, hy⟩ := pick r r0 r1
      rcases sqb with ⟨p, rfl, h⟩ | ⟨p, rfl, h⟩ | ⟨z, rfl, hz, rfl⟩
      · exact .inl ⟨p, ys, r, y, rfl, rfl, Same.seq (hb_le _ _) (Same.seq K' h), e, k y H' hy B' K'⟩
      · exact .inr (.inl ⟨p, ys, r, y, rfl, rfl, Same.seqT (hb_le _ _) (Same.seqT K' h), e, k y H' hy B' K'⟩)
      · refine .inr (.inr ?_)
        have h1 : r.toNat < z.cps.toList.length := by rw [List.length_map] at r1; omega
        have e2 : atI z.cps.toList r = some z.cps.toList[r.toNat] := at_ofN (j := r.toNat) (by omega) (List.getElem?_eq_getElem h1)
        refine ⟨z, r, _, rfl, rfl, Nat.le_trans hz (by decide), e2, k _ H' ?_ B' K'⟩
        exact List.mem_map.mpr ⟨_, List.getElem_mem h1, rfl⟩
theorem ok__law_bag (T : Txt w K mg) : FnOk P w K mg base CX0 1 T.a__law_bag T.d__law_bag ["script"] (sp__law_bag K) := by
  refine T.F__law_bag.ok sc__law_bag (fun vs H Q E h => ?_) (fun cdv A outer s H vs Q E hr h => ?_)
  · obtain ⟨a, ns, rfl, _⟩ := h
    rfl
  · obtain ⟨a, ns, rfl, hS, hl, k⟩ := h
    refine ⟨_, (pss_cons (ps_set (i := 1) sc__law_bag.nd rfl (Or.inl rfl) pe_int)
      (pss_cons (ps_for PassesOwn.never rfl (pi_list (pe_slice sl_listU (pv 0) po_none (po_some pe_int))) (pg_name (i := 2) sc__law_bag.nd rfl (Or.inl rfl)) (pss_one (ps_set (i := 1) sc__law_bag.nd rfl (Or.inl rfl) (pe_op op_mod (pe_callTy call_intI (by rfl) T.n_int (by decide +kernel) (pa_cons (pe_op op_add (pe_op op_add (pe_op op_mul (pv 1) pe_int) (pe_op op_mod (pe_callTy call_intI (by rfl) T.n_int (by decide +kernel) (pa_cons (pv 2) pa_nil)) pe_int)) pe_int) pa_nil)) pe_int))))
      (pss_one (ps_ret (pe_lstU (pa_cons (pe_callTy call_listU (by rfl) T.n_list (by decide +kernel) (pa_cons (pe_slice sl_listU (pv 0) po_none (po_some pe_int)) pa_nil)) (pa_cons pe_int (pa_cons pe_int (pa_cons (pv 1) (pa_cons pe_int pa_nil)))))))))), ?_⟩
    refine seq_op fun N hN => ?_
    walk_at "rs"
    refine hN _ _ ?_
    clear hN N
    refine cut_seq (fun σ H2 => ∃ m x, σ = [some (.ref a), some (.int m), x] ∧ 0 ≤ m ∧ m < 2147483579 ∧ Same H H2) (fun N hN => ?_) ?_
    · refine ⟨_, rfl, _, rfl, a, _, rfl, hS, fun p H1 s1 h0 h1 => ?_⟩
      refine ⟨p, rfl, ⟨_, SqL.of h1⟩, for_list (K := K) (a := p) (xs := cutV (ns.map V.int) none (some 63)) (fun i σ H2 => ∃ m x, σ = [some (.ref a), some (.int m), x] ∧ 0 ≤ m ∧ m < 2147483579 ∧ Same H1 H2) ⟨_, _, rfl, by decide, by decide, Same.refl _⟩ (fun i σ H2 _ ⟨_, _, _, _, _, s2⟩ => SqL.of (s2 _ _ h1)) ?_ ?_⟩
      · rintro i y σ H2 hi ⟨m, x, rfl, m0, m1, s2⟩
        obtain ⟨u, rfl⟩ : ∃ u, y = V.int u := by
          have q := List.mem_of_getElem? hi
          have q2 : y ∈ (ns.map V.int).take 63 := (cutV_take (ns.map V.int) 63) ▸ q
          obtain ⟨u, _, rfl⟩ := List.mem_map.mp (List.mem_of_mem_take q2)
          exact ⟨u, rfl⟩
        walk_at "rs"
        refine ⟨.inr (by decide), by decide, by decide, _, _, ⟨rfl, rfl⟩, ?_⟩
        exact ⟨Int.emod_nonneg _ (by decide), Int.emod_lt_of_pos _ (by decide), s2⟩
      · rintro σ H2 ⟨m, x, rfl, m0, m1, s2⟩
        exact hN _ _ ⟨m, x, rfl, m0, m1, Same.trans s1 s2⟩
    · rintro σ H2 ⟨m, x, rfl, m0, m1, s2⟩
      walk_at "rs"
      refine ⟨_, Same.seq s2 hS, fun p H3 s3 h30 h3 => ⟨_, .inl (SqL.of h3), fun l H4 s4 h40 h4 => ⟨by decide, fun q H5 s5 h50 h5 => ?_⟩⟩⟩
      have e : cutV (ns.map V.int) none (some 63) = ns.map V.int := by
        refine (cutV_take (ns.map V.int) 63).trans ?_
        rw [List.take_of_length_le (by simpa using hl)]
      rw [e] at h4
      have s25 : Same H2 H5 := Same.trans s3 (Same.trans s4 s5)
      refine k q l H5 (Same.trans s2 s25) ⟨ns, 0, 0, m, 0, h5, s5 _ _ h4, fun z => ?_, Int.le_refl _, m0, m1⟩ ?_
      · rw [z, h50] at h4; cases h4
      · exact Same.dom s2 q (Same.dom s3 q (Same.dom s4 q h50))
end
end LK

set_option Elab.async false
set_option linter.all false
set_option maxRecDepth 100000
namespace LK
open PySem PySem.Spec PyProof.Rows L2
local macro_rules | `(tactic| walk_at "rs") => `(tactic| simp only [cxK, cxNK, tCallZ, tAsg, tOp, rI0, rS0, rB0, rI, rU, tUn, rEq, rNe, rIxL, rIxT, rIxS, rSetL, rSlLU, rSlS, rSlU, rCatL, rCatU, rRepL, rIn, tVar, tC, gName, gSub, tIfS, tTest, tB, tAnd, tOr, tNot, tNotV, tAndV, tOrV, tIf, tCall, tCons, tNil, tCB, tDrop, tRet, tRetN, tNext, tLstU, tTupU, tM0, tM1, tPar, tPar3, tAug, ipI, tBM, tBM0, rAppend, rPop, tBreak, tCont, tChain, tSl, tPart, tNoPart, L2.start, List.map, List.length_cons, List.length_nil, List.replicate, List.cons_append, List.nil_append, List.append_nil, List.getElem?_cons_zero, List.getElem?_cons_succ, List.set_cons_zero, List.set_cons_succ, Option.some.injEq, V.int.injEq, V.ref.injEq, V.str.injEq, V.bl.injEq, exists_eq_left', exists_eq_left, exists_and_left, decide_eq_true_eq, List.cons.injEq, and_true, true_and, scal, Bool.not_eq_true', decide_eq_false_iff_not, Nat.zero_add, Nat.reduceAdd, Nat.reduceSub, reduceCtorEq, false_and, exists_false, false_or, or_false, CPow, CMul, CDiv, Int.reduceToNat, ↓reduceIte, wipe, sw, List.nil_append, List.singleton_append])
local macro_rules | `(tactic| walk_at "st") => `(tactic| (refine seq_op fun N hN => ?_; walk_at "rs"))
local macro_rules | `(tactic| walk_at "sd") => `(tactic| first | assumption | decide | omega)
local macro_rules | `(tactic| walk_at "rd") => `(tactic| repeat (first
  | refine ⟨_, SqL.of (by assumption), ?_⟩ | refine ⟨_, SqL.of upd_same, ?_⟩ | refine ⟨_, .inl (SqL.of (by assumption)), ?_⟩ | refine ⟨_, (by assumption : _ = some (HO.lst _)), ?_⟩ | refine ⟨_, upd_same, ?_⟩
  | refine ⟨_, rfl, ?_⟩ | refine And.intro (by walk_at "sd") ?_))

section
variable {P : Program} {w : World} {K : PySem.W.Frag} {mg : Str → Option Value} {base : Heap}
def sp_quotient (K : PySem.W.Frag) (C : Addr) : Sp := fun vs H Q E => ∃ (a b : Addr) (p q r s : Int), vs = [.ref a, .ref b] ∧ Pr K H a p q ∧ Pr K H b r s ∧ p.natAbs < 2 ^ 4000 ∧ q.natAbs < 2 ^ 4000 ∧ r.natAbs < 2 ^ 4000 ∧ s.natAbs < 2 ^ 4000 ∧ q ≠ 0 ∧ 1 ≤ s ∧ Nat.gcd r.natAbs s.natAbs = 1 ∧
  (r ≠ 0 → ∀ t H', Same H H' → H t = none → H' t = some (.tup [.int (frP (p * s) (q * r)), .int (frQ (p * s) (q * r))]) → Q (.ref t) H') ∧
  (r = 0 → ∀ d H', Same H H' → H d = none → H' d = some (.xd (badF (.ref b))) → E (.ref C) (some d) H')
theorem eqv_zero (r s : Int) : PyData.eqv (.tuple [.int r, .int s]) (.tuple [.int 0, .int 1]) = (decide (r = 0) && decide (s = 1)) := by
  simp [PyData.eqv, PyData.eqvAll]
  rfl
theorem shaped2 (r s : Int) : SeqAt.shaped (.tuple [.int r, .int s]) = true := by rfl
theorem dp_pair {H : Hp} {a : Addr} {p q : Int} (h : Pr K H a p q) : Dp K H (.ref a) (.tuple [.int p, .int q]) := .tup h (.cons (.int p) (.cons (.int q) .nil))
theorem ok_quotient (T : Txt w K mg) : FnOk P w K mg base (L2.CX P w) 4 T.a_quotient T.d_quotient ["a", "b"] (sp_quotient K T.C_BadValue) := by
  refine T.F_quotient.okX sc_quotient (fun vs H Q E h => ?_) (fun cdv A outer s H vs Q E hr h => ?_)
  · obtain ⟨a, b, p, q, r, s', rfl, _⟩ := h
    rfl
  · obtain ⟨a, b, p, q, r, s', rfl, ha, hb, lp, lq, lr, ls, q0, s1, hg, k, kE⟩ := h
    have hr_is_fraction : Room 2 _ := hr.mono (by decide)
    have G_is_fraction := ok_is_fraction (P := P) (base := base) T
    have hr_fraction : Room 3 _ := hr.mono (by decide)
    have G_fraction := ok_fraction (P := P) (base := base) T
    have hr_BadValue : Room 2 _ := hr.mono (by decide)
    have G_BadValue := ok_BadValue (P := P) (base := base) T
    refine ⟨_, (pss_cons (ps_if (PW.pt (pw_or (pt_not (pt_val (pe_call G_is_fraction hr_is_fraction (by rfl) T.m_is_fraction T.F_is_fraction.kp T.B_is_fraction .nil pass0 (pa_cons (pv 1) pa_nil)))) (pw_or1 (pt_cmpR (op_eqD hr.units) (pv 1) (pe_glob (v := .ref T.a_ZERO) (by rfl) T.m_ZERO rfl) (nomark _))))) (pss_one (ps_raise rfl (takes_of rfl rfl rfl rfl) (pmk_oex T.X_BadValue T.i_BadValue T.t_BadValue G_BadValue hr_BadValue T.B_BadValue__init .nil pass0 (by rfl) T.m_BadValue (pa_cons (pv 1) pa_nil)))) pss_nil)
      (pss_one (ps_ret (pe_call G_fraction hr_fraction (by rfl) T.m_fraction T.F_fraction.kp T.B_fraction .nil passL (pa_cons (pe_op op_mulW (pe_ix ix_tup (pv 0) pe_int (fun _ _ => rfl)) (pe_ix ix_tup (pv 1) pe_int (fun _ _ => rfl))) (pa_cons (pe_op op_mulW (pe_ix ix_tup (pv 0) pe_int (fun _ _ => rfl)) (pe_ix ix_tup (pv 1) pe_int (fun _ _ => rfl))) pa_nil)))))), ?_⟩
    refine seq_op fun N hN => ?_
    walk_at "rs"
    have hf : isFrac (.tuple [.int r, .int s']) = true := by
      show (decide (1 ≤ s') && decide (Nat.gcd r.natAbs s'.natAbs = 1)) = true
      rw [decide_eq_true s1, decide_eq_true hg]; rfl
    refine ⟨_, _, rfl, dp_pair hb, fun H1 e1 => ⟨true, (by show V.bl (isFrac _) = V.bl true; rw [hf]), iteFF (by decide) ⟨_, .tuple [.int 0, .int 1], dp_same e1 (dp_pair hb), dp_pair (T.s_ZERO H1), shaped2 _ _, by decide +kernel, _, rfl, ?_⟩⟩⟩
    rw [eqv_zero]
    refine ite2 (fun e => ?_) (fun e => hN _ _ ?_)
    · rw [Bool.and_eq_true] at e
      have r0 : r = 0 := of_decide_eq_true e.1
      exact mk_badT (fun K h => by walk_at "rs"; exact h) fun d H2 s2 hd h2 => kE r0 d H2 (Same.trans e1 s2) (Same.dom e1 d hd) h2
    clear hN N
    have r0 : r ≠ 0 := fun z => e (by
      subst z
      have : s' = 1 := by
        rw [Int.natAbs_zero, Nat.gcd_zero_left] at hg; omega
      subst this; rfl)
    replace ha := Same.seqT e1 ha
    replace hb := Same.seqT e1 hb
    walk_at "rs"
    refine ⟨_, ha, _, rfl, _, hb, _, rfl, _, rfl, _, rfl, mulW lp ls, _, ha, _, rfl, _, hb, _, rfl, _, rfl, _, rfl, mulW lq lr, ?_⟩
    refine ⟨_, _, rfl, logL (mulL lp ls) (by decide) (by decide), logL (mulL lq lr) (by decide) (by decide), fun _ t H' s2 h0 h2 => k r0 t H' (Same.trans e1 s2) (Same.dom e1 t h0) h2, fun e => absurd e (Int.mul_ne_zero q0 r0)⟩
theorem abs_if (p : Int) : (if p < 0 then -p else p) = ((p.natAbs : Nat) : Int) := by split <;> omega
theorem ok__law_low (T : Txt w K mg) : FnOk P w K mg base CX0 1 T.a__law_low T.d__law_low ["top", "low"] (fun vs H Q _ => ∃ p q : Int, vs = [.int p, .int q] ∧ q ≠ 0 ∧ p.natAbs < 2 ^ 8001 ∧ q.natAbs < 2 ^ 8001 ∧
    ∀ t H', Same H H' → H t = none → H' t = some (.tup [.int (frP p q), .int (frQ p q)]) → Q (.ref t) H') := by
  refine T.F__law_low.ok sc__law_low (fun vs H Q E h => ?_) (fun cdv A outer s H vs Q E hr h => ?_)
  · obtain ⟨p, q, rfl, _⟩ := h
    rfl
  · obtain ⟨p, q, rfl, q0, lp, lq, k⟩ := h
    refine ⟨_, (pss_cons (ps_par (i := 2) (j := 3) (by rfl) sc__law_low.nd rfl rfl (by decide) rfl rfl (pa_cons (pe_callB call_abs (by rfl) T.n_abs (by decide +kernel) (pa_cons (pv 0) pa_nil)) (pa_cons (pe_callB call_abs (by rfl) T.n_abs (by decide +kernel) (pa_cons (pv 1) pa_nil)) pa_nil)) (by rfl))
      (pss_cons (ps_while PassesOwn.never (pt_cmpR op_neI (pv 3) pe_int (nomark _)) (pss_one (ps_par (i := 2) (j := 3) (by rfl) sc__law_low.nd rfl rfl (by decide) rfl rfl (pa_cons (pv 3) (pa_cons (pe_op op_mod (pe_callTy call_intI (by rfl) T.n_int (by decide +kernel) (pa_cons (pv 2) pa_nil)) (pv 3)) pa_nil)) (by rfl))))
      (pss_cons (ps_if (pt_cmpR op_lt (pv 1) pe_int (nomark _)) (pss_one (ps_set (i := 2) sc__law_low.nd rfl (Or.inl rfl) (pe_op op_sub pe_int (pv 2)))) pss_nil)
      (pss_one (ps_ret (pe_tupU (pa_cons (pe_op op_fdivF (pv 0) (pv 2)) (pa_cons (pe_op op_fdivF (pv 1) (pv 2)) pa_nil)))))))), ?_⟩
    refine seq_op fun N hN => ?_
    walk_at "rs"
    refine ⟨_, _, ⟨rfl, rfl⟩, hN _ _ ?_⟩
    clear hN N
    refine cut_seq (fun σ H2 => σ = [some (.int p), some (.int q), some (.int ((Nat.gcd p.natAbs q.natAbs : Nat) : Int)), some (.int 0)] ∧ H2 = H) (fun N hN => ?_) ?_
    · refine while_by (fun σ H2 => ∃ a b : Nat, σ = [some (.int p), some (.int q), some (.int (a : Int)), some (.int (b : Int))] ∧ H2 = H ∧ Nat.gcd a b = Nat.gcd p.natAbs q.natAbs) (fun (σ : L2.St) (_ : Hp) => match σ[3]? with
          | some (some (V.int b)) => b.toNat
          | _ => 0) ⟨p.natAbs, q.natAbs, by rw [abs_if, abs_if], rfl, rfl⟩ ?_ ?_
      · rintro σ H2 ⟨a, b, rfl, rfl, hg⟩
        walk_at "rs"
        refine ite2 (fun hb => ?_) (fun hb => ?_)
        · refine ⟨by omega, _, _, ⟨rfl, rfl⟩, ⟨b, a % b, ⟨rfl, rfl⟩, ?_⟩, ?_⟩
          · rw [← hg, Nat.gcd_comm a b, Nat.gcd_rec b a, Nat.gcd_comm]
          · show ((a : Int) % (b : Int)).toNat < (b : Int).toNat
            have := Int.emod_lt_of_pos (a : Int) (show (0 : Int) < (b : Int) by omega)
            have := Int.emod_nonneg (a : Int) hb
            omega
        · have b0 : b = 0 := by omega
          subst b0
          rw [Nat.gcd_zero_right] at hg
          rw [hg]
          exact hN _ _ ⟨rfl, rfl⟩
      · intro σ H2 Q1 Q2 h hq
        revert hq
        walk_at "rs"
        rintro ⟨v, e, i, rfl, hq⟩
        exact ⟨_, e, i, rfl, h _ _ hq⟩
    · rintro σ H2 ⟨rfl, rfl⟩
      have g0 : (Nat.gcd p.natAbs q.natAbs : Nat) ≠ 0 := fun z => q0 (by have := Nat.eq_zero_of_gcd_eq_zero_right z; omega)
      have gl := gcd_log (p := p) q0
      have ql := logL lq (by decide) (by decide)
      have n0 : frG p q ≠ 0 := by unfold frG; split <;> omega
      have nl : (frG p q).natAbs.log2 < 9000 := by
        have : (frG p q).natAbs = Nat.gcd p.natAbs q.natAbs := by unfold frG; split <;> omega
        rw [this]; omega
      refine cut_seq (fun σ H3 => σ = [some (.int p), some (.int q), some (.int (frG p q)), some (.int 0)] ∧ H3 = H2) (fun N hN => ?_) ?_
      · walk_at "rs"
        unfold frG at hN
        refine ite2 (fun c => ?_) (fun c => ?_)
        · rw [if_pos c] at hN
          rw [Int.zero_sub]
          exact hN _ _ ⟨rfl, rfl⟩
        · rw [if_neg c] at hN; exact hN _ _ ⟨rfl, rfl⟩
      · rintro σ H3 ⟨rfl, rfl⟩
        walk_at "rs"
        exact ⟨⟨n0, nl⟩, ⟨n0, nl⟩, by decide, k⟩
end
end LK

set_option Elab.async false
set_option linter.all false
set_option maxRecDepth 100000
namespace LK
open PySem PySem.Spec PyProof.Rows L2
local macro_rules | `(tactic| walk_at "rs") => `(tactic| simp only [cxK, cxNK, tCallZ, tAsg, tOp, rI0, rS0, rB0, rI, rU, tUn, rEq, rNe, rIxL, rIxT, rIxS, rSetL, rSlLU, rSlS, rSlU, rCatL, rCatU, rRepL, rIn, tVar, tC, gName, gSub, tIfS, tTest, tB, tAnd, tOr, tNot, tNotV, tAndV, tOrV, tIf, tCall, tCons, tNil, tCB, tDrop, tRet, tRetN, tNext, tLstU, tTupU, tM0, tM1, tPar, tPar3, tAug, ipI, tBM, tBM0, rAppend, rPop, tBreak, tCont, tChain, tSl, tPart, tNoPart, L2.start, List.map, List.length_cons, List.length_nil, List.replicate, List.cons_append, List.nil_append, List.append_nil, List.getElem?_cons_zero, List.getElem?_cons_succ, List.set_cons_zero, List.set_cons_succ, Option.some.injEq, V.int.injEq, V.ref.injEq, V.str.injEq, V.bl.injEq, exists_eq_left', exists_eq_left, exists_and_left, decide_eq_true_eq, List.cons.injEq, and_true, true_and, scal, Bool.not_eq_true', decide_eq_false_iff_not, Nat.zero_add, Nat.reduceAdd, Nat.reduceSub, reduceCtorEq, false_and, exists_false, false_or, or_false, CPow, CMul, CDiv, Int.reduceToNat, ↓reduceIte, wipe, sw, List.nil_append, List.singleton_append])
local macro_rules | `(tactic| walk_at "st") => `(tactic| (refine seq_op fun N hN => ?_; walk_at "rs"))
local macro_rules | `(tactic| walk_at "sd") => `(tactic| first | assumption | decide | omega)
local macro_rules | `(tactic| walk_at "rd") => `(tactic| repeat (first
  | refine ⟨_, SqL.of (by assumption), ?_⟩ | refine ⟨_, SqL.of upd_same, ?_⟩ | refine ⟨_, .inl (SqL.of (by assumption)), ?_⟩ | refine ⟨_, (by assumption : _ = some (HO.lst _)), ?_⟩ | refine ⟨_, upd_same, ?_⟩
  | refine ⟨_, rfl, ?_⟩ | refine And.intro (by walk_at "sd") ?_))

theorem dep_tup (ds : List PyData) : dep (.tuple ds) = depAll ds + 1 := rfl
theorem dep_lst (ds : List PyData) : dep (.list ds) = depAll ds + 1 := rfl
theorem depAll_get : ∀ {ds : List PyData} {i : Nat} {d : PyData}, ds[i]? = some d → dep d ≤ depAll ds
  | [], _, _, e => by simp at e
  | a :: r, 0, _, e => by simp at e; subst e; exact Nat.le_max_left _ _
  | a :: r, i + 1, _, e => Nat.le_trans (depAll_get (ds := r) (i := i) (by simpa using e)) (Nat.le_max_right _ _)
theorem dpa_get4 {K : PySem.W.Frag} {H : Hp} : ∀ {vs : List V} {ds : List PyData} {i : Nat} {v : V}, DpAll K H vs ds → vs[i]? = some v → ∃ d, ds[i]? = some d ∧ Dp K H v d
  | _, _, _, _, .nil, e => by simp at e
  | _, _, 0, _, .cons r _, e => by simp at e; subst e; exact ⟨_, rfl, r⟩
  | _, _, i + 1, _, .cons _ t, e => by
    obtain ⟨d, h1, h2⟩ := dpa_get4 (i := i) t (by simpa using e)
    exact ⟨d, by simpa using h1, h2⟩
theorem dpa_len4 {K : PySem.W.Frag} {H : Hp} : ∀ {vs : List V} {ds : List PyData}, DpAll K H vs ds → vs.length = ds.length
  | _, _, .nil => rfl
  | _, _, .cons _ t => by simp [dpa_len4 t]
theorem ok_get4 : ∀ {ds : List PyData} {i : Nat} {d : PyData}, okAll ds = true → ds[i]? = some d → okD d = true
  | [], _, _, _, e => by simp at e
  | a :: r, 0, _, h, e => by
    simp at e; subst e
    unfold okAll at h; rw [Bool.and_eq_true] at h; exact h.1
  | a :: r, i + 1, _, h, e => by
    unfold okAll at h; rw [Bool.and_eq_true] at h
    exact ok_get4 (i := i) h.2 (by simpa using e)
theorem isTy_leaf {d : PyData} (h1 : ∀ ds, d ≠ .list ds) (h2 : ∀ ds, d ≠ .tuple ds) : isTy "list" d = false ∧ isTy "tuple" d = false := by
  cases d <;> simp [isTy] <;> first | exact absurd rfl (h1 _) | exact absurd rfl (h2 _)
theorem walk_zipT {K : PySem.W.Frag} {a b : Addr} {xs ys : List V} {n : Nat} (hx : xs.length = n) (hy : ys.length = n) : Walk (RZ.ItzT K a b) n (fun H => SqT K H a xs ∧ SqT K H b ys) (YPair (fun i => xs[i]?) (fun i => ys[i]?)) := by
  refine ⟨fun i _ hi q => ?_, fun _ q => ⟨xs, ys, q.1, q.2, by omega⟩, fun i H v H' _ q y => ?_⟩
  · have h1 : i < xs.length := by omega
    have h2 : i < ys.length := by omega
    exact ⟨xs, ys, xs[i], ys[i], q.1, q.2, by simp [h1], by simp [h2]⟩
  · obtain ⟨T, x, z, h1, h2, h3, h4, h5⟩ := y
    exact ⟨T, x, z, h1, h2, h3, h4 xs q.1, h5 ys q.2⟩
section
variable {P : Program} {w : World} {K : PySem.W.Frag} {mg : Str → Option Value} {base : Heap}
theorem like_step (T : Txt w K mg) (n : Nat) (ih : ∀ m, m + 1 = n → FnOk P w K mg base CX0 (m + 1) T.a__law_like T.d__law_like ["got", "due"] (sp__law_like K m)) : FnOk P w K mg base CX0 (n + 1) T.a__law_like T.d__law_like ["got", "due"] (sp__law_like K n) := by
  refine T.F__law_like.ok sc__law_like (fun vs H Q E h => ?_) (fun cdv A outer s H vs Q E hr h => ?_)
  · obtain ⟨v, u, d, rfl, _⟩ := h
    rfl
  · obtain ⟨v, u, d, rfl, hv, hu, hok, hdep, k⟩ := h
    have leaf : isTy "list" d = false ∧ isTy "tuple" d = false ∨ (∃ ds, (d = .list ds ∨ d = .tuple ds)) := by
      cases d <;> first | exact .inr ⟨_, .inl rfl⟩ | exact .inr ⟨_, .inr rfl⟩ | exact .inl ⟨rfl, rfl⟩
    rcases leaf with ⟨el, et⟩ | ⟨ds, hds⟩
    · refine ⟨_, (pss_cons (ps_if (pt_val (pe_callB call_isiDT (by rfl) T.n_isinstance (by decide +kernel) (pa_cons (pv 1) (pa_cons (pe_tupU (pa_cons (pe_bltn (v := .ty "list") (u := .type "list") (by rfl) T.n_list (by decide +kernel) rfl) (pa_cons (pe_bltn (v := .ty "tuple") (u := .type "tuple") (by rfl) T.n_tuple (by decide +kernel) rfl) pa_nil))) pa_nil)))) pss_never pss_nil) (pss_cons (ps_if (PW.pt (pw_or (pt_cmpR op_isN (pv 1) pe_non (nomark _)) (pw_or1 (pt_cmpR op_isN (pv 0) pe_non (nomark _))))) (pss_one (ps_ret (pe_and (pe_cmpR op_isN (pv 1) pe_non (nomark _)) (pe_one (pe_cmpR op_isN (pv 0) pe_non (nomark _)))))) pss_nil)
      (pss_cons (ps_if (PW.pt (pw_or (pt_val (pe_callB call_isiDT (by rfl) T.n_isinstance (by decide +kernel) (pa_cons (pv 0) (pa_cons (pe_tupU (pa_cons (pe_bltn (v := .ty "list") (u := .type "list") (by rfl) T.n_list (by decide +kernel) rfl) (pa_cons (pe_bltn (v := .ty "tuple") (u := .type "tuple") (by rfl) T.n_tuple (by decide +kernel) rfl) pa_nil))) pa_nil)))) (pw_or1 (pt_cmpR op_neB (pe_callB (call_isiDK (K := K) rfl) (by rfl) T.n_isinstance (by decide +kernel) (pa_cons (pv 0) (pa_cons (pe_bltn (v := .ty "bool") (u := .type "bool") (by rfl) T.n_bool (by decide +kernel) rfl) pa_nil))) (pe_callB (call_isiDK (K := K) rfl) (by rfl) T.n_isinstance (by decide +kernel) (pa_cons (pv 1) (pa_cons (pe_bltn (v := .ty "bool") (u := .type "bool") (by rfl) T.n_bool (by decide +kernel) rfl) pa_nil))) (nomark _))))) (pss_one (ps_ret pe_bl)) pss_nil)
      (pss_cons (ps_if (PW.pt (pw_or (pt_cmpR op_neB (pe_callB (call_isiDK (K := K) rfl) (by rfl) T.n_isinstance (by decide +kernel) (pa_cons (pv 0) (pa_cons (pe_bltn (v := .ty "str") (u := .type "str") (by rfl) T.n_str (by decide +kernel) rfl) pa_nil))) (pe_callB (call_isiDK (K := K) rfl) (by rfl) T.n_isinstance (by decide +kernel) (pa_cons (pv 1) (pa_cons (pe_bltn (v := .ty "str") (u := .type "str") (by rfl) T.n_str (by decide +kernel) rfl) pa_nil))) (nomark _)) (pw_or1 (pt_cmpR op_neB (pe_callB (call_isiDK (K := K) rfl) (by rfl) T.n_isinstance (by decide +kernel) (pa_cons (pv 0) (pa_cons (pe_bltn (v := .ty "int") (u := .type "int") (by rfl) T.n_int (by decide +kernel) rfl) pa_nil))) (pe_callB (call_isiDK (K := K) rfl) (by rfl) T.n_isinstance (by decide +kernel) (pa_cons (pv 1) (pa_cons (pe_bltn (v := .ty "int") (u := .type "int") (by rfl) T.n_int (by decide +kernel) rfl) pa_nil))) (nomark _))))) (pss_one (ps_ret pe_bl)) pss_nil)
      (pss_one (ps_ret (pe_cmpR op_eq (pv 0) (pv 1) (nomark _)))))))), ?_⟩
      refine seq_op fun N hN => ?_
      walk_at "rs"
      refine ⟨by decide, fun p H1 s1 h0 h1 => ⟨_, p, ⟨rfl, rfl⟩, h1, _, dp_same s1 hu, iteFF (by rw [el, et]; decide) (hN _ _ ?_)⟩⟩
      clear hN N h1
      have hv1 := dp_same s1 hv
      have hu1 := dp_same s1 hu
      have k1 := fun H' (s : Same H1 H') => k H' (Same.trans s1 s)
      refine seq_op fun N hN => ?_
      walk_at "rs"
      by_cases cn : d = .none
      · subst cn
        cases hu
        cases hv
        exact iteTT rfl (iteTT rfl (k1 H1 (Same.refl _)))
      · have vn : v ≠ .non := fun e => by subst e; cases hv; exact cn rfl
        have un : u ≠ .non := fun e => by subst e; cases hu; exact cn rfl
        refine iteFF un (iteFF vn (hN _ _ ?_))
        clear hN N
        refine seq_op fun N hN => ?_
        walk_at "rs"
        refine ⟨by decide, fun p2 H2 s2 h02 h12 => ⟨_, p2, ⟨rfl, rfl⟩, h12, _, dp_same s2 hv1, iteFF (by rw [el, et]; decide) ?_⟩⟩
        refine ⟨_, "bool", ⟨rfl, rfl⟩, _, dp_same s2 hv1, by simp, _, "bool", ⟨rfl, rfl⟩, _, dp_same s2 hu1, by simp, iteFF (by simp) (hN _ _ ?_)⟩
        clear hN N
        refine seq_op fun N hN => ?_
        walk_at "rs"
        refine ⟨_, "str", ⟨rfl, rfl⟩, _, dp_same s2 hv1, by simp, _, "str", ⟨rfl, rfl⟩, _, dp_same s2 hu1, by simp, iteFF (by simp) ?_⟩
        refine ⟨_, "int", ⟨rfl, rfl⟩, _, dp_same s2 hv1, by simp, _, "int", ⟨rfl, rfl⟩, _, dp_same s2 hu1, by simp, iteFF (by simp) (hN _ _ ?_)⟩
        clear hN N
        walk_at "rs"
        have kk := k1 H2 s2
        have fin : scal v u = true ∧ Q (.bl (decide (v = u))) H2 := by
          cases hv with
          | non => exact absurd rfl cn
          | bl b => cases hu; exact ⟨rfl, by rw [decide_eq_true rfl]; exact kk⟩
          | int b => cases hu; exact ⟨rfl, by rw [decide_eq_true rfl]; exact kk⟩
          | str b => cases hu; exact ⟨rfl, by rw [decide_eq_true rfl]; exact kk⟩
          | lst _ _ => simp [isTy] at el
          | tup _ _ => simp [isTy] at et
        exact fin
    · obtain ⟨m, rfl⟩ : ∃ m, n = m + 1 := by
        rcases hds with rfl | rfl
        · rw [dep_lst] at hdep; exact ⟨n - 1, by omega⟩
        · rw [dep_tup] at hdep; exact ⟨n - 1, by omega⟩
      have hr__law_like : Room (m + 1) _ := hr
      have G__law_like := ih m rfl
      have hdm : depAll ds ≤ m := by
        rcases hds with rfl | rfl
        · rw [dep_lst] at hdep; omega
        · rw [dep_tup] at hdep; omega
      refine ⟨_, (pss_cons (ps_if (pt_val (pe_callB call_isiDT (by rfl) T.n_isinstance (by decide +kernel) (pa_cons (pv 1) (pa_cons (pe_tupU (pa_cons (pe_bltn (v := .ty "list") (u := .type "list") (by rfl) T.n_list (by decide +kernel) rfl) (pa_cons (pe_bltn (v := .ty "tuple") (u := .type "tuple") (by rfl) T.n_tuple (by decide +kernel) rfl) pa_nil))) pa_nil)))) (pss_cons (ps_if (PW.pt (pw_or (pt_cmpR op_neB (pe_callB (call_isiDK (K := K) rfl) (by rfl) T.n_isinstance (by decide +kernel) (pa_cons (pv 0) (pa_cons (pe_bltn (v := .ty "list") (u := .type "list") (by rfl) T.n_list (by decide +kernel) rfl) pa_nil))) (pe_callB (call_isiDK (K := K) rfl) (by rfl) T.n_isinstance (by decide +kernel) (pa_cons (pv 1) (pa_cons (pe_bltn (v := .ty "list") (u := .type "list") (by rfl) T.n_list (by decide +kernel) rfl) pa_nil))) (nomark _)) (pw_or1 (pt_cmpR op_neB (pe_callB (call_isiDK (K := K) rfl) (by rfl) T.n_isinstance (by decide +kernel) (pa_cons (pv 0) (pa_cons (pe_bltn (v := .ty "tuple") (u := .type "tuple") (by rfl) T.n_tuple (by decide +kernel) rfl) pa_nil))) (pe_callB (call_isiDK (K := K) rfl) (by rfl) T.n_isinstance (by decide +kernel) (pa_cons (pv 1) (pa_cons (pe_bltn (v := .ty "tuple") (u := .type "tuple") (by rfl) T.n_tuple (by decide +kernel) rfl) pa_nil))) (nomark _))))) (pss_one (ps_ret pe_bl)) pss_nil)
      (pss_one (ps_ret (pe_and (pe_cmpR op_eqI (pe_callB call_lenD (by rfl) T.n_len (by decide +kernel) (pa_cons (pv 0) pa_nil)) (pe_callB call_lenD (by rfl) T.n_len (by decide +kernel) (pa_cons (pv 1) pa_nil)) (nomark _)) (pe_one (pe_callB (cr_all rfl) (by rfl) T.n_all (by decide +kernel) (pa_cons (pe_lc (own := [("one", 2), ("two", 3)]) (g := gTup K 2 (gCons (gName 2) (gCons (gName 3) (gNil)))) (tt := tYes) rfl sc__law_like.nd (RZ.pi_zipA (by rfl) T.n_zip (pa_cons (pv 0) (pa_cons (pv 1) pa_nil))) (blkOk_by (own := [("one", 2), ("two", 3)]) (N := N__law_like) (sc := defScope s__law_like) (by decide +kernel)) (fun _ _ _ _ _ => by exact (pg_tup rfl (pgs_cons (pg_name (i := 2) sc__law_like.nd rfl (Or.inl rfl)) (pgs_cons (pg_name (i := 3) sc__law_like.nd rfl (Or.inl rfl)) pgs_nil)))) (fun _ _ _ _ _ => pts_nil) (fun _ _ _ _ _ => (pe_call G__law_like hr__law_like (by rfl) T.m__law_like T.F__law_like.kp T.B__law_like .nil pass0 (pa_cons (pv 2) (pa_cons (pv 3) pa_nil))))) pa_nil))))))) pss_nil) pss_never), ?_⟩
      refine seq_op fun N hN => ?_
      clear hN
      walk_at "rs"
      refine ⟨by decide, fun p H1 s1 h0 h1 => ⟨_, p, ⟨rfl, rfl⟩, h1, _, dp_same s1 hu, iteTT (by rcases hds with rfl | rfl <;> simp [isTy]) ?_⟩⟩
      clear h1
      have hv1 := dp_same s1 hv
      have hu1 := dp_same s1 hu
      have k1 := fun H' (s : Same H1 H') => k H' (Same.trans s1 s)
      refine seq_op fun N2 hN2 => ?_
      walk_at "rs"
      refine ⟨_, "list", ⟨rfl, rfl⟩, _, hv1, by simp, _, "list", ⟨rfl, rfl⟩, _, hu1, by simp, iteFF (by simp) ?_⟩
      refine ⟨_, "tuple", ⟨rfl, rfl⟩, _, hv1, by simp, _, "tuple", ⟨rfl, rfl⟩, _, hu1, by simp, iteFF (by simp) (hN2 _ _ ?_)⟩
      clear hN2 N2
      walk_at "rs"
      have gm : ∀ (x : V) (σ0 : L2.St) (H0 : Hp) (Q0 Q1 : L2.St → Hp → Prop), (∀ σ2 H2, Q0 σ2 H2 → Q1 σ2 H2) → gTup K 2 (gCons (gName 2) (gCons (gName 3) gNil)) x σ0 H0 Q0 → gTup K 2 (gCons (gName 2) (gCons (gName 3) gNil)) x σ0 H0 Q1 :=
        fun x σ0 H0 Q0 Q1 h ⟨a, xs, e1, e2, e3, v, r, e4, v2, r2, e5, e6, q⟩ => ⟨a, xs, e1, e2, e3, v, r, e4, v2, r2, e5, e6, h _ _ q⟩
      have turn : ∀ {xs ys : List V} (hx : DpAll K H1 xs ds) (hy : DpAll K H1 ys ds) (i : Nat) (x : V) (H2 H' : Hp), Same H1 H2 → YPair (fun i => xs[i]?) (fun i => ys[i]?) i H2 x H' →
          gTup K 2 (gCons (gName 2) (gCons (gName 3) gNil)) x (wipe [some v, some u, none, none] [2, 3]) H' fun σ2 H3 => Same H2 H3 ∧ wipe σ2 [2, 3] = wipe [some v, some u, none, none] [2, 3] ∧ ∀ Q2 : V → Hp → Prop, (∀ H4, Same H3 H4 → Q2 (.bl true) H4) → tCall (sp__law_like K m) [] E0 (tCons (tVar 2) (tCons (tVar 3) tNil)) σ2 H3 Q2 := by
        rintro xs ys hx hy i x H2 H' s2 ⟨T0, y1, y2, rfl, hT, rfl, h1, h2⟩
        obtain ⟨d1, e1, hd1⟩ := dpa_get4 hx h1
        obtain ⟨d2, e2, hd2⟩ := dpa_get4 hy h2
        rw [e1] at e2
        cases e2
        have s3 := Same.trans s2 (same_upd (o := .tup [y1, y2]) hT)
        refine ⟨T0, [y1, y2], rfl, .inl (.inl upd_same), rfl, y1, [y2], rfl, y2, [], rfl, rfl, same_upd hT, rfl, fun Q2 hq => ?_⟩
        refine ⟨_, rfl, _, rfl, y1, y2, d1, rfl, dp_same s3 hd1, dp_same s3 hd2, ?_, Nat.le_trans (depAll_get e1) hdm, hq⟩
        refine ok_get4 ?_ e1
        rcases hds with rfl | rfl
        · exact (okD_lst.mp hok).2
        · exact (okD_tup.mp hok).2
      have fin : ∀ {D : Addr} {H' : Hp} {n : Nat}, Same H1 H' → H' D = some (.lst ((List.range n).map fun _ => V.bl true)) → rAll K [V.ref D] H' Q := by
        intro D H' n s h
        refine ⟨D, (List.range n).map fun _ => true, rfl, SqL.of (by rw [h, List.map_map]; rfl), ?_⟩
        rw [all_map_id]
        have e : ((List.range n).all fun _ => true) = true := by simp
        rw [e]
        exact k1 H' s
      refine ⟨_, hv1, .inl ⟨ds, hds, _, hu1, .inl ⟨ds, hds, iteTT rfl ?_⟩⟩⟩
      rcases hds with rfl | rfl
      · cases hv1 with
        | @lst a xs _ ha hda =>
          cases hu1 with
          | @lst b ys _ hb hdb =>
            have lx := dpa_len4 hda
            have ly := dpa_len4 hdb
            have small : ds.length ≤ 1000000 := Nat.le_trans (okD_lst.mp hok).1 (by decide)
            exact ⟨_, rfl, _, rfl, a, b, xs, ys, rfl, .inl ⟨ha, hb, fun D hD => lc_pure (walk_zip (n := ds.length) (by omega)) hD small (fun _ => .bl true) (fun H s => ⟨Same.seq s ha, Same.seq s hb⟩) (fun i x H2 H' _ s2 y => turn hda hdb i x H2 H' s2 y) gm fun H' s h => fin s h⟩⟩
      · cases hv1 with
        | @tup a xs _ ha hda =>
          cases hu1 with
          | @tup b ys _ hb hdb =>
            have lx := dpa_len4 hda
            have ly := dpa_len4 hdb
            have small : ds.length ≤ 1000000 := Nat.le_trans (okD_tup.mp hok).1 (by decide)
            exact ⟨_, rfl, _, rfl, a, b, xs, ys, rfl, .inr ⟨ha, hb, fun D hD => lc_pure (walk_zipT (n := ds.length) lx ly) hD small (fun _ => .bl true) (fun H s => ⟨Same.seqT s ha, Same.seqT s hb⟩) (fun i x H2 H' _ s2 y => turn hda hdb i x H2 H' s2 y) gm fun H' s h => fin s h⟩⟩
theorem ok__law_like (T : Txt w K mg) : ∀ n : Nat, FnOk P w K mg base CX0 (n + 1) T.a__law_like T.d__law_like ["got", "due"] (sp__law_like K n) := by
  intro n
  induction n with
  | zero => exact like_step T 0 fun m e => by omega
  | succ n ih =>
    refine like_step T (n + 1) fun m e => ?_
    obtain rfl : m = n := by omega
    exact ih
end
end LK

set_option Elab.async false
set_option linter.all false
set_option maxRecDepth 100000
namespace LK
open PySem PySem.Spec PyProof.Rows L2
local macro_rules | `(tactic| walk_at "rs") => `(tactic| simp only [cxK, cxNK, tCallZ, tAsg, tOp, rI0, rS0, rB0, rI, rU, tUn, rEq, rNe, rIxL, rIxT, rIxS, rSetL, rSlLU, rSlS, rSlU, rCatL, rCatU, rRepL, rIn, tVar, tC, gName, gSub, tIfS, tTest, tB, tAnd, tOr, tNot, tNotV, tAndV, tOrV, tIf, tCall, tCons, tNil, tCB, tDrop, tRet, tRetN, tNext, tLstU, tTupU, tM0, tM1, tPar, tPar3, tAug, ipI, tBM, tBM0, rAppend, rPop, tBreak, tCont, tChain, tSl, tPart, tNoPart, L2.start, List.map, List.length_cons, List.length_nil, List.replicate, List.cons_append, List.nil_append, List.append_nil, List.getElem?_cons_zero, List.getElem?_cons_succ, List.set_cons_zero, List.set_cons_succ, Option.some.injEq, V.int.injEq, V.ref.injEq, V.str.injEq, V.bl.injEq, exists_eq_left', exists_eq_left, exists_and_left, decide_eq_true_eq, List.cons.injEq, and_true, true_and, scal, Bool.not_eq_true', decide_eq_false_iff_not, Nat.zero_add, Nat.reduceAdd, Nat.reduceSub, reduceCtorEq, false_and, exists_false, false_or, or_false, CPow, CMul, CDiv, Int.reduceToNat, ↓reduceIte, wipe, sw, List.nil_append, List.singleton_append])
local macro_rules | `(tactic| walk_at "st") => `(tactic| (refine seq_op fun N hN => ?_; walk_at "rs"))
local macro_rules | `(tactic| walk_at "sd") => `(tactic| first | assumption | decide | omega)
local macro_rules | `(tactic| walk_at "rd") => `(tactic| repeat (first
  | refine ⟨_, SqL.of (by assumption), ?_⟩ | refine ⟨_, SqL.of upd_same, ?_⟩ | refine ⟨_, .inl (SqL.of (by assumption)), ?_⟩ | refine ⟨_, (by assumption : _ = some (HO.lst _)), ?_⟩ | refine ⟨_, upd_same, ?_⟩
  | refine ⟨_, rfl, ?_⟩ | refine And.intro (by walk_at "sd") ?_))

theorem okAll_mem {K : PySem.W.Frag} {G : Hp} {m : Nat} : ∀ {ys : List V}, (∀ v ∈ ys, ∃ d, Dp K G v d ∧ okD d = true ∧ dep d ≤ m) → ∃ ds, DpAll K G ys ds ∧ okAll ds = true ∧ depAll ds ≤ m ∧ ds.length = ys.length
  | [], _ => ⟨[], .nil, rfl, Nat.zero_le _, rfl⟩
  | v :: ys, h => by
    obtain ⟨d, h1, h2, h3⟩ := h v List.mem_cons_self
    obtain ⟨ds, q1, q2, q3, q4⟩ := okAll_mem (ys := ys) fun v hv => h v (List.mem_cons_of_mem _ hv)
    refine ⟨d :: ds, .cons h1 q1, ?_, Nat.max_le.mpr ⟨h3, q3⟩, by simp [q4]⟩
    unfold okAll
    rw [h2, q2]; rfl
theorem Kp.bn {b : Addr} {H H' : Hp} (k : Kp b H H') {o : HO} (h : H' b = some o) {p : Addr} (h0 : H' p = none) : H p = none := k.dom h p h0
theorem of_str {K : PySem.W.Frag} {H : Hp} {b c : Addr} (B : Bag H b c) {z : Str} (h0 : 0 < z.length) (h1 : z.length ≤ 100000) {Q : VK} {E : XK} (k : ∀ c0 H', Bag H' b c → Kp b H H' → Q (.str ⟨#[c0]⟩) H') : sp__law_of K [.ref b, .str z] H Q E := by
  have l := len_cps z
  refine ⟨b, c, .str z, _, rfl, B, .inr (.inr ⟨z, rfl, h1, rfl⟩), .inr (.inr ⟨z, rfl, h1, rfl⟩), ?_, ?_, fun y H' hy B' K' => ?_⟩
  · intro e
    have q := congrArg List.length e
    rw [List.length_map, l, List.length_nil] at q
    omega
  · rw [List.length_map]; omega
  · obtain ⟨c0, _, rfl⟩ := List.mem_map.mp hy
    exact k c0 H' B' K'
theorem of_lst {K : PySem.W.Frag} {H : Hp} {b c p : Addr} (B : Bag H b c) {ys : List V} (h : H p = some (.lst ys)) (n : p ≠ b) (ne : ys ≠ []) (hl : ys.length ≤ 1000000) {Q : VK} {E : XK} (k : ∀ y H', y ∈ ys → Bag H' b c → Kp b H H' → Q y H') : sp__law_of K [.ref b, .ref p] H Q E :=
  ⟨b, c, .ref p, ys, rfl, B, .inl ⟨p, rfl, SqL.of h⟩, .inl ⟨p, rfl, SqL.of (by rw [hb_ne n]; exact h)⟩, ne, hl, k⟩
theorem sqT_hb {K : PySem.W.Frag} {H : Hp} {b c q : Addr} {xs : List V} (B : Bag H b c) (h : SqT K H q xs) : SqT K (hb H b) q xs := by
  obtain ⟨yb, eb⟩ := B.at
  rcases h with (h | ⟨o, h⟩) | h
  · refine .inl (.inl ?_)
    rw [hb_ne]; exact h
    intro e; rw [e, eb] at h; cases h
  · refine .inl (.inr ⟨o, ?_⟩)
    rw [hb_ne]; exact h
    intro e; rw [e, eb] at h; cases h
  · exact .inr h
theorem of_new {K : PySem.W.Frag} {H H1 : Hp} {b c p : Addr} (B : Bag H b c) {L : List V} (s1 : Same H H1) (h0 : H p = none) (h1 : H1 p = some (.lst L)) (ne : L ≠ []) (hl : L.length ≤ 1000000) {Q : VK} {E : XK} (k : ∀ y H2, y ∈ L → Bag H2 b c → Kp b H H2 → Q y H2) : sp__law_of K [.ref b, .ref p] H1 Q E :=
  of_lst (B.same s1) h1 (fun e => by
    obtain ⟨xb, eb⟩ := B.at
    rw [e, eb] at h0; cases h0) ne hl fun y H2 hy B2 K2 => k y H2 hy B2 (Same.trans (Kp.of s1) K2)
/-- as before, of words -/
theorem of_newS {K : PySem.W.Frag} {H H1 : Hp} {b c p : Addr} (B : Bag H b c) (L : List Str) (s1 : Same H H1) (h0 : H p = none) (h1 : H1 p = some (.lst (L.map V.str))) (ne : L ≠ []) (hl : L.length ≤ 1000000) {m : Nat} (hm : ∀ z ∈ L, z.length ≤ m) {Q : VK} {E : XK} (k : ∀ z H2, z.length ≤ m → Bag H2 b c → Kp b H H2 → Q (.str z) H2) : sp__law_of K [.ref b, .ref p] H1 Q E :=
  of_new B s1 h0 h1 (by simpa using ne) (by rw [List.length_map]; exact hl) fun y H2 hy B2 K2 => by
    obtain ⟨z, hz, rfl⟩ := List.mem_map.mp hy
    exact k z H2 (hm z hz) B2 K2
theorem of_newR {K : PySem.W.Frag} {H H1 : Hp} {b c p : Addr} (B : Bag H b c) (L : List Str) (s1 : Same H H1) (h0 : H p = none) (h1 : H1 p = some (.lst (L.map V.str))) (ne : L ≠ []) (hl : L.length ≤ 1000000) {R : Str → Prop} (hm : ∀ z ∈ L, R z) {Q : VK} {E : XK} (k : ∀ z H2, R z → Bag H2 b c → Kp b H H2 → Q (.str z) H2) : sp__law_of K [.ref b, .ref p] H1 Q E :=
  of_new B s1 h0 h1 (by simpa using ne) (by rw [List.length_map]; exact hl) fun y H2 hy B2 K2 => by
    obtain ⟨z, hz, rfl⟩ := List.mem_map.mp hy
    exact k z H2 (hm z hz) B2 K2
theorem of_lstS {K : PySem.W.Frag} {H : Hp} {b c p : Addr} (B : Bag H b c) (L : List Str) (h : H p = some (.lst (L.map V.str))) (n : p ≠ b) (ne : L ≠ []) (hl : L.length ≤ 1000000) {m : Nat} (hm : ∀ z ∈ L, z.length ≤ m) {Q : VK} {E : XK} (k : ∀ z H', z.length ≤ m → Bag H' b c → Kp b H H' → Q (.str z) H') : sp__law_of K [.ref b, .ref p] H Q E :=
  of_lst B h n (by simpa using ne) (by rw [List.length_map]; exact hl) fun y H2 hy B2 K2 => by
    obtain ⟨z, hz, rfl⟩ := List.mem_map.mp hy
    exact k z H2 (hm z hz) B2 K2
/-- each thing in xs is a thing that can be told of -/
def Ev (K : PySem.W.Frag) (G : Hp) (xs : List V) : Prop := ∀ v ∈ xs, ∃ d, Dp K G v d ∧ okD d = true
theorem Ev.same {K : PySem.W.Frag} {G G' : Hp} {xs : List V} (s : Same G G') (h : Ev K G xs) : Ev K G' xs := fun v hv => by
  obtain ⟨d, h1, h2⟩ := h v hv
  exact ⟨d, dp_same s h1, h2⟩
theorem Ev.app {K : PySem.W.Frag} {G : Hp} {xs ys : List V} (h : Ev K G xs) (h' : Ev K G ys) : Ev K G (xs ++ ys) := fun v hv => (List.mem_append.mp hv).elim (h v) (h' v)
theorem Ev.cut {K : PySem.W.Frag} {G : Hp} {xs : List V} (h : Ev K G xs) (lo hi : Option Int) : Ev K G (cutV xs lo hi) := fun v hv => h v (List.mem_of_mem_drop (List.mem_of_mem_take hv))
theorem Ev.one {K : PySem.W.Frag} {G : Hp} {v : V} {d : PyData} (h : Dp K G v d) (ok : okD d = true) : Ev K G [v] := fun u hu => by
  obtain rfl := List.mem_singleton.mp hu
  exact ⟨d, h, ok⟩
theorem Ev.strs {K : PySem.W.Frag} {G : Hp} {ws : List Str} (h : ∀ z ∈ ws, z.length ≤ 20) : Ev K G (ws.map V.str) := fun v hv => by
  obtain ⟨z, hz, rfl⟩ := List.mem_map.mp hv
  exact ⟨.str z, .str z, decide_eq_true (Nat.le_trans (h z hz) (by decide))⟩
theorem Ev.all {K : PySem.W.Frag} {G : Hp} : ∀ {xs : List V}, Ev K G xs → ∃ ds, DpAll K G xs ds ∧ okAll ds = true ∧ ds.length = xs.length
  | [], _ => ⟨[], .nil, rfl, rfl⟩
  | v :: xs, h => by
    obtain ⟨d, h1, h2⟩ := h v List.mem_cons_self
    obtain ⟨ds, q1, q2, q3⟩ := Ev.all (xs := xs) fun v hv => h v (List.mem_cons_of_mem _ hv)
    exact ⟨d :: ds, .cons h1 q1, by unfold okAll; rw [h2, q2]; rfl, by simp [q3]⟩
theorem Ev.of {K : PySem.W.Frag} {G : Hp} : ∀ {xs : List V} {ds : List PyData}, DpAll K G xs ds → okAll ds = true → Ev K G xs ∧ xs.length = ds.length
  | _, _, .nil, _ => ⟨fun v hv => absurd hv (by simp), rfl⟩
  | _, _, .cons h q, ok => by
    unfold okAll at ok
    rw [Bool.and_eq_true] at ok
    obtain ⟨e, l⟩ := Ev.of q ok.2
    exact ⟨fun v hv => (List.mem_cons.mp hv).elim (fun z => by rw [z]; exact ⟨_, h, ok.1⟩) (e v), by simp [l]⟩
theorem seqT_kp {K : PySem.W.Frag} {H H' : Hp} {b c q : Addr} {xs : List V} (B : Bag H b c) (k : Kp b H H') (h : SqT K H q xs) : SqT K H' q xs := Same.seqT (hb_le H' b) (Same.seqT k (sqT_hb B h))
theorem cut1_le (xs : List V) {i : Int} (h : 0 ≤ i) : (cutV xs (some i) (some (i + 1))).length ≤ 1 := by
  obtain ⟨j, rfl⟩ := Int.eq_ofNat_of_zero_le h
  unfold cutV
  rw [List.length_take, HT.sIx_nat, show ((j : Int) + 1) = ((j + 1 : Nat) : Int) from rfl, HT.sIx_nat]
  omega
theorem Kp.keep {b p : Addr} {H1 H2 : Hp} {o : HO} (k : Kp b H1 H2) (n : p ≠ b) (h : H1 p = some o) : H2 p = some o := k.hd h n
theorem new_ne {b c p : Addr} {H : Hp} (B : Bag H b c) (h0 : H p = none) : p ≠ b := fun e => by
  obtain ⟨xb, eb⟩ := B.at
  rw [e, eb] at h0; cases h0
theorem rep_strs (n : Nat) (z : Str) : (List.replicate n [V.str z]).flatten = (List.replicate n z).map V.str := by
  induction n with
  | zero => rfl
  | succ n ih => rw [List.replicate_succ, List.flatten_cons, ih, List.replicate_succ]; rfl
theorem rep_short {n m : Nat} {z : Str} (h : z.length ≤ m) : ∀ y ∈ List.replicate n z, y.length ≤ m := fun y hy => by
  rw [(List.mem_replicate.mp hy).2]; exact h
end LK

set_option Elab.async false
set_option linter.all false
set_option maxRecDepth 100000
namespace LK
open PySem PySem.Spec PyProof.Rows L2
local macro_rules | `(tactic| walk_at "rs") => `(tactic| simp only [cxK, cxNK, tCallZ, tAsg, tOp, rI0, rS0, rB0, rI, rU, tUn, rEq, rNe, rIxL, rIxT, rIxS, rSetL, rSlLU, rSlS, rSlU, rCatL, rCatU, rRepL, rIn, tVar, tC, gName, gSub, tIfS, tTest, tB, tAnd, tOr, tNot, tNotV, tAndV, tOrV, tIf, tCall, tCons, tNil, tCB, tDrop, tRet, tRetN, tNext, tLstU, tTupU, tM0, tM1, tPar, tPar3, tAug, ipI, tBM, tBM0, rAppend, rPop, tBreak, tCont, tChain, tSl, tPart, tNoPart, L2.start, List.map, List.length_cons, List.length_nil, List.replicate, List.cons_append, List.nil_append, List.append_nil, List.getElem?_cons_zero, List.getElem?_cons_succ, List.set_cons_zero, List.set_cons_succ, Option.some.injEq, V.int.injEq, V.ref.injEq, V.str.injEq, V.bl.injEq, exists_eq_left', exists_eq_left, exists_and_left, decide_eq_true_eq, List.cons.injEq, and_true, true_and, scal, Bool.not_eq_true', decide_eq_false_iff_not, Nat.zero_add, Nat.reduceAdd, Nat.reduceSub, reduceCtorEq, false_and, exists_false, false_or, or_false, CPow, CMul, CDiv, Int.reduceToNat, ↓reduceIte, wipe, sw, List.nil_append, List.singleton_append])
local macro_rules | `(tactic| walk_at "st") => `(tactic| (refine seq_op fun N hN => ?_; walk_at "rs"))
local macro_rules | `(tactic| walk_at "sd") => `(tactic| first | assumption | decide | omega)
local macro_rules | `(tactic| walk_at "rd") => `(tactic| repeat (first
  | refine ⟨_, SqL.of (by assumption), ?_⟩ | refine ⟨_, SqL.of upd_same, ?_⟩ | refine ⟨_, .inl (SqL.of (by assumption)), ?_⟩ | refine ⟨_, (by assumption : _ = some (HO.lst _)), ?_⟩ | refine ⟨_, upd_same, ?_⟩
  | refine ⟨_, rfl, ?_⟩ | refine And.intro (by walk_at "sd") ?_))

theorem FIG_digit {c : Nat} (h : inS c FIGs = true) : 48 ≤ c ∧ c ≤ 57 := by
  have q : c ∈ FIGs.cps.toList := of_decide_eq_true h
  have e : FIGs.cps.toList = [48, 49, 50, 51, 52, 53, 54, 55, 56, 57] := by decide +kernel
  rw [e] at q
  simp only [List.mem_cons, List.mem_nil_iff, or_false] at q
  omega
theorem digitsVal_lt : ∀ (cs : List Nat) (a : Nat), NumText.AllDigits cs → cs.foldl (fun acc c => acc * 10 + (c - 48)) a < (a + 1) * 10 ^ cs.length
  | [], a, _ => by simp
  | c :: cs, a, h => by
    have hc := h.head
    have ih := digitsVal_lt cs (a * 10 + (c - 48)) h.tail
    show cs.foldl _ (a * 10 + (c - 48)) < _
    refine Nat.lt_of_lt_of_le ih ?_
    rw [List.length_cons, Nat.pow_succ, ← Nat.mul_assoc, Nat.mul_right_comm]
    exact Nat.mul_le_mul_right _ (by omega)
theorem log_small {n : Nat} (h : n < 10 ^ 60) : n.log2 < 1920 := by
  by_cases c : n = 0
  · subst c; decide
  · exact (Nat.log2_lt c).mpr (Nat.lt_of_lt_of_le h (by decide +kernel))
theorem int_figures {z : Str} (h1 : 1 ≤ (figures z).length ∧ (figures z).length ≤ 60) (h2 : ((figures z).cps.toList.all fun c => inS c FIGs) = true) (hz : z.length ≤ 100000) : ∃ n, intText? z = some n ∧ n.natAbs.log2 < 1920 ∧ z.length ≤ 640 := by
  have ad : NumText.AllDigits (figures z).cps.toList := fun c hc => FIG_digit (List.all_eq_true.mp h2 c hc)
  have ne : (figures z).cps.toList ≠ [] := fun e => by
    have l : (figures z).length = (figures z).cps.toList.length := by rw [Array.length_toList]; rfl
    rw [e] at l
    have := h1.1
    simp at l
    omega
  have lf : (figures z).cps.toList.length ≤ 60 := by rw [Array.length_toList]; exact h1.2
  have vl := digitsVal_lt (figures z).cps.toList 0 ad
  have vs : NumText.digitsVal (figures z).cps.toList < 10 ^ 60 := Nat.lt_of_lt_of_le vl (by rw [Nat.zero_add, Nat.one_mul]; exact Nat.pow_le_pow_right (by decide) lf)
  by_cases c : Txt.startswith z "-" = true
  · have e : figures z = cutS z (some 1) none := if_pos c
    obtain ⟨r, hr⟩ := starts_minus c
    have er : (figures z).cps.toList = r := by rw [e, cutS_tail, hr]; rfl
    rw [er] at ad ne vs lf
    have lz : z.length ≤ 61 := by rw [← len_cps, hr, List.length_cons]; omega
    refine ⟨_, intText_neg hr ad ne (by omega), ?_, by omega⟩
    rw [Int.natAbs_neg, Int.natAbs_natCast]
    exact log_small vs
  · have e : figures z = z := if_neg c
    rw [e] at ad ne vs h1
    refine ⟨_, intText_digits ad ne (by have := h1.2; omega), ?_, by have := h1.2; omega⟩
    rw [Int.natAbs_natCast]
    exact log_small vs
section
variable {P : Program} {w : World} {K : PySem.W.Frag} {mg : Str → Option Value} {base : Heap}
theorem ok_read_number (T : Txt w K mg) : FnOk P w K mg base CX0 1 T.a_read_number T.d_read_number ["word"] sp_read_number := by
  refine T.F_read_number.ok sc_read_number (fun vs H Q E h => ?_) (fun cdv A outer s H vs Q E hr h => ?_)
  · obtain ⟨z, rfl, _⟩ := h
    rfl
  · obtain ⟨z, rfl, hz, k⟩ := h
    refine ⟨_, (pss_cons (ps_set (i := 1) sc_read_number.nd rfl (Or.inl rfl) (pe_ifExp (pt_val (pe_m1 PySem.F.slot_str_startswith PySem.F.type_str_startswith mt_startswith (pv 0) pe_str)) (pe_slice sl_str (pv 0) (po_some pe_int) po_none) (pv 0)))
      (pss_cons (ps_if (PW.pt (pw_or (pt_not (pt_chain op_le op_le pe_int (pe_callB call_len_str (by rfl) T.n_len (by decide +kernel) (pa_cons (pv 1) pa_nil)) pe_int)) (pw_or1 (pt_not (pt_val (pe_callB (cr_all rfl) (by rfl) T.n_all (by decide +kernel) (pa_cons (pe_lc (own := [("sign", 3)]) (g := gName 3) (tt := tYes) rfl sc_read_number.nd (pi_str (pv 1)) (blkOk_by (own := [("sign", 3)]) (N := N_read_number) (sc := defScope s_read_number) (by decide +kernel)) (fun _ _ _ _ _ => pg_name (i := 3) sc_read_number.nd rfl (Or.inl rfl)) (fun _ _ _ _ _ => pts_nil) (fun _ _ _ _ _ => (pe_cmpR op_in_sign (pv 3) (pe_glob (v := .str FIGs) (by rfl) T.m_FIGURES ⟨_, rfl⟩) (by rfl)))) pa_nil))))))) (pss_one (ps_ret pe_non)) pss_nil)
      (pss_cons (ps_set (i := 2) sc_read_number.nd rfl (Or.inl rfl) (pe_callTy call_int_str (by rfl) T.n_int (by decide +kernel) (pa_cons (pv 0) pa_nil)))
      (pss_one (ps_ret (pe_ifExp (pt_cmpR op_eqS (pe_callTy call_str_int (by rfl) T.n_str (by decide +kernel) (pa_cons (pv 2) pa_nil)) (pv 0) (nomark _)) (pv 2) pe_non)))))), ?_⟩
    have hf : (figures z).length ≤ 100000 := by
      unfold figures
      split
      · refine Nat.le_trans ?_ hz
        unfold cutS
        show (List.toArray _).size ≤ _
        rw [List.size_toArray, List.length_take, List.length_drop, Array.length_toList]
        show _ ≤ z.cps.size
        omega
      · exact hz
    refine cut_seq (fun σ H2 => H2 = H ∧ σ = [some (.str z), some (.str (figures z)), none, none]) (fun N hN => ?_) ?_
    · walk_at "rs"
      refine ⟨⟨_, rfl⟩, ite2 (fun c => ⟨Nat.le_trans hz (by decide), ?_⟩) (fun c => ?_)⟩
      · exact hN _ _ ⟨rfl, by rw [figures, if_pos c]⟩
      · exact hN _ _ ⟨rfl, by rw [figures, if_neg c]⟩
    · rintro σ H2 ⟨rfl, rfl⟩
      refine cut_seq (fun σ H3 => Same H2 H3 ∧ σ = [some (.str z), some (.str (figures z)), none, none] ∧ (1 ≤ (figures z).length ∧ (figures z).length ≤ 60) ∧ ((figures z).cps.toList.all fun c => inS c FIGs) = true) (fun N hN => ?_) ?_
      · walk_at "rs"
        refine ⟨Nat.le_trans hf (by decide), ite2 (fun c1 => ite2 (fun c2 => ?_) (fun c2 => ?_)) (fun c1 => ?_)⟩
        · have := k H2 (Same.refl _)
          rw [readNum, if_neg (by omega)] at this
          exact this
        · refine ⟨_, rfl, _, rfl, fun D hD => lc_signs (z := figures z) (fun c => inS c FIGs) hD (by omega) ?_ ?_⟩
          · intro c H3 hc s3 Q2 h2
            walk_at "rs"
            exact ⟨c, rfl, h2 H3 (Same.refl _)⟩
          · intro H3 s3 hD3
            refine ⟨D, _, rfl, SqL.of hD3, _, rfl, ?_⟩
            rw [all_map_id]
            refine ite2 (fun e => ?_) (fun e => ?_)
            · have := k H3 s3
              rw [readNum, if_neg (by rw [e]; simp)] at this
              exact this
            · exact hN _ _ ⟨s3, rfl, ⟨by omega, by omega⟩, by simpa using e⟩
        · have := k H2 (Same.refl _)
          rw [readNum, if_neg (by omega)] at this
          exact this
      · rintro σ H3 ⟨s3, rfl, h1, h2⟩
        obtain ⟨n, e1, e2, e3⟩ := int_figures h1 h2 hz
        refine seq_op fun N hN => ?_
        walk_at "rs"
        refine ⟨_, e1, e3, hN _ _ ?_⟩
        clear hN N
        walk_at "rs"
        have := k H3 s3
        rw [readNum, if_pos ⟨h1, h2⟩, e1] at this
        refine ⟨e2, ite2 (fun e => ?_) (fun e => ?_)⟩
        · simp only [if_pos e] at this
          exact this
        · simp only [if_neg e] at this
          exact this
end
end LK

set_option Elab.async false
set_option linter.all false
set_option maxRecDepth 100000
namespace LK
open PySem PySem.Spec PyProof.Rows L2
local macro_rules | `(tactic| walk_at "rs") => `(tactic| simp only [cxK, cxNK, tCallZ, tAsg, tOp, rI0, rS0, rB0, rI, rU, tUn, rEq, rNe, rIxL, rIxT, rIxS, rSetL, rSlLU, rSlS, rSlU, rCatL, rCatU, rRepL, rIn, tVar, tC, gName, gSub, tIfS, tTest, tB, tAnd, tOr, tNot, tNotV, tAndV, tOrV, tIf, tCall, tCons, tNil, tCB, tDrop, tRet, tRetN, tNext, tLstU, tTupU, tM0, tM1, tPar, tPar3, tAug, ipI, tBM, tBM0, rAppend, rPop, tBreak, tCont, tChain, tSl, tPart, tNoPart, L2.start, List.map, List.length_cons, List.length_nil, List.replicate, List.cons_append, List.nil_append, List.append_nil, List.getElem?_cons_zero, List.getElem?_cons_succ, List.set_cons_zero, List.set_cons_succ, Option.some.injEq, V.int.injEq, V.ref.injEq, V.str.injEq, V.bl.injEq, exists_eq_left', exists_eq_left, exists_and_left, decide_eq_true_eq, List.cons.injEq, and_true, true_and, scal, Bool.not_eq_true', decide_eq_false_iff_not, Nat.zero_add, Nat.reduceAdd, Nat.reduceSub, reduceCtorEq, false_and, exists_false, false_or, or_false, CPow, CMul, CDiv, Int.reduceToNat, ↓reduceIte, wipe, sw, List.nil_append, List.singleton_append])
local macro_rules | `(tactic| walk_at "st") => `(tactic| (refine seq_op fun N hN => ?_; walk_at "rs"))
local macro_rules | `(tactic| walk_at "sd") => `(tactic| first | assumption | decide | omega)
local macro_rules | `(tactic| walk_at "rd") => `(tactic| repeat (first
  | refine ⟨_, SqL.of (by assumption), ?_⟩ | refine ⟨_, SqL.of upd_same, ?_⟩ | refine ⟨_, .inl (SqL.of (by assumption)), ?_⟩ | refine ⟨_, (by assumption : _ = some (HO.lst _)), ?_⟩ | refine ⟨_, upd_same, ?_⟩
  | refine ⟨_, rfl, ?_⟩ | refine And.intro (by walk_at "sd") ?_))

def isSm : V → Bool
  | .int i => decide (i.natAbs < 2 ^ 64)
  | _ => false
theorem smalls_of {l : List V} (h : l.all isSm = true) : ∀ y ∈ l, ∃ i, y = V.int i ∧ i.natAbs < 2 ^ 64 := fun y hy => by
  have q := List.all_eq_true.mp h y hy
  cases y <;> first | exact ⟨_, rfl, of_decide_eq_true q⟩ | simp [isSm] at q
theorem ok_int {i : Int} (h : i.natAbs < 2 ^ 64) : okD (.int i) = true := decide_eq_true (Nat.lt_of_lt_of_le h (Nat.pow_le_pow_right (by decide) (by decide)))
section
variable {P : Program} {w : World} {K : PySem.W.Frag} {mg : Str → Option Value} {base : Heap}
theorem any_step (T : Txt w K mg) (n : Nat) (ih : ∀ m, m + 1 = n → FnOk P w K mg base CX0 (m + 3) T.a__law_any T.d__law_any ["bag", "deep"] (sp__law_any K m)) : FnOk P w K mg base CX0 (n + 3) T.a__law_any T.d__law_any ["bag", "deep"] (sp__law_any K n) := by
  refine T.F__law_any.ok sc__law_any (fun vs H Q E h => ?_) (fun cdv A outer s H vs Q E hr h => ?_)
  · obtain ⟨b, c, k, rfl, _⟩ := h
    rfl
  · obtain ⟨b, c, dp, rfl, B, hk, k⟩ := h
    have hr__law_draw : Room 1 _ := hr.mono (by omega)
    have G__law_draw := ok__law_draw (P := P) (base := base) T
    have hr__law_of : Room 2 _ := hr.mono (by omega)
    have G__law_of := ok__law_of (P := P) (base := base) T
    by_cases hn : 0 < n
    · obtain ⟨m, rfl⟩ : ∃ m, n = m + 1 := ⟨n - 1, by omega⟩
      have hr__law_any : Room (m + 3) _ := hr.mono (by omega)
      have G__law_any := ih m rfl
      refine ⟨_, (pss_cons (ps_set (i := 2) sc__law_any.nd rfl (Or.inl rfl) (pe_call G__law_draw hr__law_draw (by rfl) T.m__law_draw T.F__law_draw.kp T.B__law_draw .nil pass0 (pa_cons (pv 0) (pa_cons (pe_ifExp (pt_cmpR op_gt (pv 1) pe_int (nomark _)) pe_int pe_int) pa_nil))))
      (pss_cons (ps_if (pt_cmpR op_eqI (pv 2) pe_int (nomark _)) (pss_one (ps_ret pe_non)) pss_nil)
      (pss_cons (ps_if (pt_cmpR op_eqI (pv 2) pe_int (nomark _)) (pss_one (ps_ret (pe_cmpR op_eqI (pe_call G__law_draw hr__law_draw (by rfl) T.m__law_draw T.F__law_draw.kp T.B__law_draw .nil pass0 (pa_cons (pv 0) (pa_cons pe_int pa_nil))) pe_int (nomark _)))) pss_nil)
      (pss_cons (ps_if (pt_cmpR op_lt (pv 2) pe_int (nomark _)) (pss_cons (ps_set (i := 3) sc__law_any.nd rfl (Or.inl rfl) (pe_op op_add (pe_op op_add pe_int (pe_op op_mul (pe_call G__law_draw hr__law_draw (by rfl) T.m__law_draw T.F__law_draw.kp T.B__law_draw .nil pass0 (pa_cons (pv 0) (pa_cons pe_int pa_nil))) (pe_op op_pow pe_int pe_int))) (pe_call G__law_draw hr__law_draw (by rfl) T.m__law_draw T.F__law_draw.kp T.B__law_draw .nil pass0 (pa_cons (pv 0) (pa_cons pe_int pa_nil)))))
      (pss_one (ps_ret (pe_call G__law_of hr__law_of (by rfl) T.m__law_of T.F__law_of.kp T.B__law_of .nil pass0 (pa_cons (pv 0) (pa_cons (pe_lstU (pa_cons pe_int (pa_cons pe_int (pa_cons pe_int (pa_cons pe_int (pa_cons (pe_un un_neg pe_int) (pa_cons pe_int (pa_cons pe_int (pa_cons pe_int (pa_cons pe_int (pa_cons (pe_un un_neg pe_int) (pa_cons pe_int (pa_cons pe_int (pa_cons pe_int (pa_cons pe_int (pa_cons (pe_op op_sub (pe_op op_pow pe_int pe_int) pe_int) (pa_cons (pe_op op_sub pe_int (pe_op op_pow pe_int pe_int)) (pa_cons (pv 3) (pa_cons (pe_op op_sub pe_int (pv 3)) pa_nil))))))))))))))))))) pa_nil)))))) pss_nil)
      (pss_cons (ps_if (pt_cmpR op_lt (pv 2) pe_int (nomark _)) (pss_one (ps_ret (pe_join pe_str (pe_lc (own := [("k", 5)]) (g := gName 5) (tt := tYes) rfl sc__law_any.nd (pi_range1 (by rfl) T.n_range (pa_cons (pe_call G__law_draw hr__law_draw (by rfl) T.m__law_draw T.F__law_draw.kp T.B__law_draw .nil pass0 (pa_cons (pv 0) (pa_cons pe_int pa_nil))) pa_nil)) (blkOk_by (own := [("k", 5)]) (N := N__law_any) (sc := defScope s__law_any) (by decide +kernel)) (fun _ _ _ _ _ => pg_name (i := 5) sc__law_any.nd rfl (Or.inl rfl)) (fun _ _ _ _ _ => pts_nil) (fun _ _ _ _ _ => (pe_call G__law_of hr__law_of (by rfl) T.m__law_of T.F__law_of.kp T.B__law_of .nil pass0 (pa_cons (pv 0) (pa_cons pe_str pa_nil)))))))) pss_nil)
      (pss_cons (ps_setLc (i := 4) (own := [("k", 5)]) (g := gName 5) (tt := tYes) rfl sc__law_any.nd rfl rfl (sw_true rfl rfl rfl (by decide +kernel)) (pi_range1 (by rfl) T.n_range (pa_cons (pe_call G__law_draw hr__law_draw (by rfl) T.m__law_draw T.F__law_draw.kp T.B__law_draw .nil pass0 (pa_cons (pv 0) (pa_cons pe_int pa_nil))) pa_nil)) (blkOk_by (own := [("k", 5)]) (N := N__law_any) (sc := defScope s__law_any) (by decide +kernel)) (fun _ _ _ _ _ => pg_name (i := 5) sc__law_any.nd rfl (Or.inl rfl)) (fun _ _ _ _ _ => pts_nil) (fun _ _ _ _ _ => (pe_call G__law_any hr__law_any (by rfl) T.m__law_any T.F__law_any.kp T.B__law_any .nil pass0 (pa_cons (pv 0) (pa_cons (pe_op op_sub (pv 1) pe_int) pa_nil)))))
      (pss_one (ps_ret (pe_ifExp (pt_cmpR op_eqI (pv 2) pe_int (nomark _)) (pv 4) (pe_callTy call_tupleN (by rfl) T.n_tuple (by decide +kernel) (pa_cons (pv 4) pa_nil))))))))))), ?_⟩
      refine cut_seq (fun σ H1 => ∃ way : Int, σ = [some (.ref b), some (.int dp), some (.int way), none, none, none] ∧ 0 ≤ way ∧ (way < 8 ∨ way < 10 ∧ 0 < dp) ∧ Bag H1 b c ∧ Kp b H H1) (fun N hN => ?_) ?_
      · walk_at "rs"
        refine ite2 (fun e => ?_) (fun e => ?_)
        · exact ⟨b, c, 10, rfl, B, by decide, by decide, fun way H1 w0 w1 B1 K1 => hN _ _ ⟨way, rfl, w0, .inr ⟨w1, e⟩, B1, K1⟩⟩
        · exact ⟨b, c, 8, rfl, B, by decide, by decide, fun way H1 w0 w1 B1 K1 => hN _ _ ⟨way, rfl, w0, .inl w1, B1, K1⟩⟩
      rintro σ H1 ⟨way, rfl, w0, w1, B1, K1⟩
      obtain ⟨xb1, eb1⟩ := B1.at
      refine seq_op fun N hN => ?_
      walk_at "rs"
      refine ite2 (fun e => k _ _ _ B1 K1 .non rfl (Nat.zero_le _)) (fun e0 => hN _ _ ?_)
      clear hN N
      refine seq_op fun N hN => ?_
      walk_at "rs"
      refine ite2 (fun e => ?_) (fun e1 => hN _ _ ?_)
      · exact ⟨b, c, 2, rfl, B1, by decide, by decide, fun r H2 r0 r1 B2 K2 => ⟨_, rfl, k _ _ _ B2 (Same.trans K1 K2) (.bl _) rfl (Nat.zero_le _)⟩⟩
      clear hN N
      refine seq_op fun N hN => ?_
      walk_at "rs"
      refine ite2 (fun e => ?_) (fun e2 => hN _ _ ?_)
      · refine seq_op fun N2 hN2 => ?_
        walk_at "rs"
        refine ⟨b, c, 1000000, rfl, B1, by decide, by decide, fun r H2 r0 r1 B2 K2 => ⟨by decide, r, rfl, .inr (by decide), b, c, 1000000, rfl, B2, by decide, by decide, fun r2 H3 r20 r21 B3 K3 => ⟨_, rfl, hN2 _ _ ?_⟩⟩⟩
        walk_at "rs"
        have K13 := Same.trans K1 (Same.trans K2 K3)
        have fin : ∀ (L : List V), L.all isSm = true → L ≠ [] → L.length ≤ 1000 → ∀ (p : Addr) (H4 : Hp), Same H3 H4 → H3 p = none → H4 p = some (HO.lst L) → sp__law_of K [V.ref b, V.ref p] H4 Q E0 := by
          intro L hL hne hlen p H4 s4 h04 h4
          refine of_lst (B3.same s4) h4 (fun e => ?_) hne (by omega) fun y H5 hy B5 K5 => ?_
          · obtain ⟨xs, q⟩ := B3.at
            rw [e, q] at h04; cases h04
          · obtain ⟨i, rfl, hi⟩ := smalls_of hL y hy
            exact k _ (.int i) H5 B5 (Same.trans K13 (Same.trans (Kp.of s4) K5)) (.int i) (ok_int hi) (Nat.zero_le _)
        exact ⟨by decide, by decide, by decide, fun p H4 s4 h04 h4 => fin _ (by simp only [List.all_cons, List.all_nil, isSm, Bool.and_true, Bool.and_eq_true, decide_eq_true_eq]; omega) (by simp) (Nat.le_trans (show 18 ≤ 18 from Nat.le_refl _) (by decide)) p H4 s4 h04 h4⟩
      clear hN N
      refine seq_op fun N hN => ?_
      walk_at "rs"
      refine ite2 (fun e => ?_) (fun e3 => hN _ _ ?_)
      · refine ⟨⟨_, rfl⟩, _, rfl, b, c, 7, rfl, B1, by decide, by decide, fun r H2 r0 r1 B2 K2 => ⟨r, rfl, by omega, by omega, fun D hD => lc_draw walk_range (fun _ v => ∃ z, v = V.str z ∧ z.length ≤ 1) (fun _ _ _ _ h => h) hD B2 (by omega) (fun _ _ _ _ y => y.1) (fun _ _ => trivial) ?_ ?_⟩⟩
        · intro x H3 K3 B3 Q2 hq
          walk_at "rs"
          exact of_str B3 (by decide +kernel) (by decide +kernel) fun c0 H4 B4 K4 => hq _ H4 B4 K4 ⟨_, rfl, Nat.le_refl 1⟩
        · intro H3 ys B3 K3 h3 hl hp
          obtain ⟨zs, rfl, hz⟩ := strs_of hp
          have hs := sum_le hz
          have hj := join_len "" zs
          rw [List.length_map] at hl
          refine ⟨D, rfl, zs, .inl (SqL.of h3), ?_, k _ (.str _) H3 B3 (Same.trans K1 (Same.trans K2 K3)) (.str _) (decide_eq_true ?_) (Nat.zero_le _)⟩
          · show _ + zs.length * 0 ≤ _
            omega
          · have e0 : zs.length * (Str.ofString "").length = 0 := Nat.mul_zero _
            omega
      clear hN N
      refine seq_op fun N hN => ?_
      walk_at "rs"
      refine ⟨_, rfl, b, c, 4, rfl, B1, by decide, by decide, fun r H2 r0 r1 B2 K2 => ⟨r, rfl, by omega, by omega, fun D hD => lc_draw walk_range (fun G v => ∃ d, Dp K G v d ∧ okD d = true ∧ dep d ≤ m) (fun G G' v s ⟨d, h1, h2⟩ => ⟨d, dp_same s h1, h2⟩) hD B2 (by omega) (fun _ _ _ _ y => y.1) (fun _ _ => trivial) ?_ ?_⟩⟩
      · intro x H3 K3 B3 Q2 hq
        walk_at "rs"
        exact ⟨b, c, dp - 1, rfl, B3, by omega, fun v d H4 B4 K4 hd hok hdep => hq v H4 B4 K4 ⟨d, hd, hok, hdep⟩⟩
      · intro H3 ys B3 K3 h3 hl hp
        refine hN _ _ ?_
        clear hN N
        obtain ⟨ds, hd, hok, hdep, hlen⟩ := okAll_mem hp
        obtain ⟨xb2, eb2⟩ := B2.at
        have K12 := Same.trans K1 K2
        have K13 := Same.trans K12 K3
        have h0D : H D = none := Kp.bn K12 eb2 hD
        have nDb : b ≠ D := fun e => by rw [e, hD] at eb2; cases eb2
        have hd2 : DpAll K (nw H H3) ys ds := dpa_same (nw_anti fun a e => by
          have nD : a ≠ D := fun z => by rw [z, upd_same] at e; cases e
          rw [upd_ne nD] at e
          exact Kp.bn K12 eb2 e) hd
        have hlen4 : ds.length ≤ 100000 := by omega
        walk_at "rs"
        refine ite2 (fun e => ?_) (fun e => ⟨_, SqL.of h3, fun q H4 s4 h04 h4 => ?_⟩)
        · refine k _ (.list ds) H3 B3 K13 (.lst (SqL.of (nw_of h0D h3)) hd2) (okD_lst.mpr ⟨hlen4, hok⟩) ?_
          show depAll ds + 1 ≤ m + 1
          omega
        · obtain ⟨xb3, eb3⟩ := B3.at
          refine k _ (.tuple ds) H4 (B3.same s4) (Same.trans K13 (Kp.of s4)) (.tup (.inl (.inl (nw_of (Kp.bn K13 eb3 h04) h4))) (dpa_same (nw_same fun a o _ e => s4 _ _ e) hd2)) (okD_tup.mpr ⟨hlen4, hok⟩) ?_
          show depAll ds + 1 ≤ m + 1
          omega
    · refine ⟨_, (pss_cons (ps_set (i := 2) sc__law_any.nd rfl (Or.inl rfl) (pe_call G__law_draw hr__law_draw (by rfl) T.m__law_draw T.F__law_draw.kp T.B__law_draw .nil pass0 (pa_cons (pv 0) (pa_cons (pe_ifExp (pt_cmpR op_gt (pv 1) pe_int (nomark _)) pe_int pe_int) pa_nil))))
      (pss_cons (ps_if (pt_cmpR op_eqI (pv 2) pe_int (nomark _)) (pss_one (ps_ret pe_non)) pss_nil)
      (pss_cons (ps_if (pt_cmpR op_eqI (pv 2) pe_int (nomark _)) (pss_one (ps_ret (pe_cmpR op_eqI (pe_call G__law_draw hr__law_draw (by rfl) T.m__law_draw T.F__law_draw.kp T.B__law_draw .nil pass0 (pa_cons (pv 0) (pa_cons pe_int pa_nil))) pe_int (nomark _)))) pss_nil)
      (pss_cons (ps_if (pt_cmpR op_lt (pv 2) pe_int (nomark _)) (pss_cons (ps_set (i := 3) sc__law_any.nd rfl (Or.inl rfl) (pe_op op_add (pe_op op_add pe_int (pe_op op_mul (pe_call G__law_draw hr__law_draw (by rfl) T.m__law_draw T.F__law_draw.kp T.B__law_draw .nil pass0 (pa_cons (pv 0) (pa_cons pe_int pa_nil))) (pe_op op_pow pe_int pe_int))) (pe_call G__law_draw hr__law_draw (by rfl) T.m__law_draw T.F__law_draw.kp T.B__law_draw .nil pass0 (pa_cons (pv 0) (pa_cons pe_int pa_nil)))))
      (pss_one (ps_ret (pe_call G__law_of hr__law_of (by rfl) T.m__law_of T.F__law_of.kp T.B__law_of .nil pass0 (pa_cons (pv 0) (pa_cons (pe_lstU (pa_cons pe_int (pa_cons pe_int (pa_cons pe_int (pa_cons pe_int (pa_cons (pe_un un_neg pe_int) (pa_cons pe_int (pa_cons pe_int (pa_cons pe_int (pa_cons pe_int (pa_cons (pe_un un_neg pe_int) (pa_cons pe_int (pa_cons pe_int (pa_cons pe_int (pa_cons pe_int (pa_cons (pe_op op_sub (pe_op op_pow pe_int pe_int) pe_int) (pa_cons (pe_op op_sub pe_int (pe_op op_pow pe_int pe_int)) (pa_cons (pv 3) (pa_cons (pe_op op_sub pe_int (pv 3)) pa_nil))))))))))))))))))) pa_nil)))))) pss_nil)
      (pss_cons (ps_if (pt_cmpR op_lt (pv 2) pe_int (nomark _)) (pss_one (ps_ret (pe_join pe_str (pe_lc (own := [("k", 5)]) (g := gName 5) (tt := tYes) rfl sc__law_any.nd (pi_range1 (by rfl) T.n_range (pa_cons (pe_call G__law_draw hr__law_draw (by rfl) T.m__law_draw T.F__law_draw.kp T.B__law_draw .nil pass0 (pa_cons (pv 0) (pa_cons pe_int pa_nil))) pa_nil)) (blkOk_by (own := [("k", 5)]) (N := N__law_any) (sc := defScope s__law_any) (by decide +kernel)) (fun _ _ _ _ _ => pg_name (i := 5) sc__law_any.nd rfl (Or.inl rfl)) (fun _ _ _ _ _ => pts_nil) (fun _ _ _ _ _ => (pe_call G__law_of hr__law_of (by rfl) T.m__law_of T.F__law_of.kp T.B__law_of .nil pass0 (pa_cons (pv 0) (pa_cons pe_str pa_nil)))))))) pss_nil)
      pss_never))))), ?_⟩
      refine cut_seq (fun σ H1 => ∃ way : Int, σ = [some (.ref b), some (.int dp), some (.int way), none, none, none] ∧ 0 ≤ way ∧ (way < 8 ∨ way < 10 ∧ 0 < dp) ∧ Bag H1 b c ∧ Kp b H H1) (fun N hN => ?_) ?_
      · walk_at "rs"
        refine ite2 (fun e => ?_) (fun e => ?_)
        · exact ⟨b, c, 10, rfl, B, by decide, by decide, fun way H1 w0 w1 B1 K1 => hN _ _ ⟨way, rfl, w0, .inr ⟨w1, e⟩, B1, K1⟩⟩
        · exact ⟨b, c, 8, rfl, B, by decide, by decide, fun way H1 w0 w1 B1 K1 => hN _ _ ⟨way, rfl, w0, .inl w1, B1, K1⟩⟩
      rintro σ H1 ⟨way, rfl, w0, w1, B1, K1⟩
      obtain ⟨xb1, eb1⟩ := B1.at
      refine seq_op fun N hN => ?_
      walk_at "rs"
      refine ite2 (fun e => k _ _ _ B1 K1 .non rfl (Nat.zero_le _)) (fun e0 => hN _ _ ?_)
      clear hN N
      refine seq_op fun N hN => ?_
      walk_at "rs"
      refine ite2 (fun e => ?_) (fun e1 => hN _ _ ?_)
      · exact ⟨b, c, 2, rfl, B1, by decide, by decide, fun r H2 r0 r1 B2 K2 => ⟨_, rfl, k _ _ _ B2 (Same.trans K1 K2) (.bl _) rfl (Nat.zero_le _)⟩⟩
      clear hN N
      refine seq_op fun N hN => ?_
      walk_at "rs"
      refine ite2 (fun e => ?_) (fun e2 => hN _ _ ?_)
      · refine seq_op fun N2 hN2 => ?_
        walk_at "rs"
        refine ⟨b, c, 1000000, rfl, B1, by decide, by decide, fun r H2 r0 r1 B2 K2 => ⟨by decide, r, rfl, .inr (by decide), b, c, 1000000, rfl, B2, by decide, by decide, fun r2 H3 r20 r21 B3 K3 => ⟨_, rfl, hN2 _ _ ?_⟩⟩⟩
        walk_at "rs"
        have K13 := Same.trans K1 (Same.trans K2 K3)
        have fin : ∀ (L : List V), L.all isSm = true → L ≠ [] → L.length ≤ 1000 → ∀ (p : Addr) (H4 : Hp), Same H3 H4 → H3 p = none → H4 p = some (HO.lst L) → sp__law_of K [V.ref b, V.ref p] H4 Q E0 := by
          intro L hL hne hlen p H4 s4 h04 h4
          refine of_lst (B3.same s4) h4 (fun e => ?_) hne (by omega) fun y H5 hy B5 K5 => ?_
          · obtain ⟨xs, q⟩ := B3.at
            rw [e, q] at h04; cases h04
          · obtain ⟨i, rfl, hi⟩ := smalls_of hL y hy
            exact k _ (.int i) H5 B5 (Same.trans K13 (Same.trans (Kp.of s4) K5)) (.int i) (ok_int hi) (Nat.zero_le _)
        exact ⟨by decide, by decide, by decide, fun p H4 s4 h04 h4 => fin _ (by simp only [List.all_cons, List.all_nil, isSm, Bool.and_true, Bool.and_eq_true, decide_eq_true_eq]; omega) (by simp) (Nat.le_trans (show 18 ≤ 18 from Nat.le_refl _) (by decide)) p H4 s4 h04 h4⟩
      clear hN N
      refine seq_op fun N hN => ?_
      walk_at "rs"
      refine ite2 (fun e => ?_) (fun e3 => hN _ _ ?_)
      · refine ⟨⟨_, rfl⟩, _, rfl, b, c, 7, rfl, B1, by decide, by decide, fun r H2 r0 r1 B2 K2 => ⟨r, rfl, by omega, by omega, fun D hD => lc_draw walk_range (fun _ v => ∃ z, v = V.str z ∧ z.length ≤ 1) (fun _ _ _ _ h => h) hD B2 (by omega) (fun _ _ _ _ y => y.1) (fun _ _ => trivial) ?_ ?_⟩⟩
        · intro x H3 K3 B3 Q2 hq
          walk_at "rs"
          exact of_str B3 (by decide +kernel) (by decide +kernel) fun c0 H4 B4 K4 => hq _ H4 B4 K4 ⟨_, rfl, Nat.le_refl 1⟩
        · intro H3 ys B3 K3 h3 hl hp
          obtain ⟨zs, rfl, hz⟩ := strs_of hp
          have hs := sum_le hz
          have hj := join_len "" zs
          rw [List.length_map] at hl
          refine ⟨D, rfl, zs, .inl (SqL.of h3), ?_, k _ (.str _) H3 B3 (Same.trans K1 (Same.trans K2 K3)) (.str _) (decide_eq_true ?_) (Nat.zero_le _)⟩
          · show _ + zs.length * 0 ≤ _
            omega
          · have e0 : zs.length * (Str.ofString "").length = 0 := Nat.mul_zero _
            omega
      clear hN N
      omega
theorem ok__law_any (T : Txt w K mg) : ∀ n : Nat, FnOk P w K mg base CX0 (n + 3) T.a__law_any T.d__law_any ["bag", "deep"] (sp__law_any K n) := by
  intro n
  induction n with
  | zero => exact any_step T 0 fun m e => by omega
  | succ n ih =>
    refine any_step T (n + 1) fun m e => ?_
    obtain rfl : m = n := by omega
    exact ih
end
end LK

set_option Elab.async false
set_option linter.all false
set_option maxRecDepth 100000
namespace LK
open PySem PySem.Spec PyProof.Rows L2
local macro_rules | `(tactic| walk_at "rs") => `(tactic| simp only [cxK, cxNK, tCallZ, tAsg, tOp, rI0, rS0, rB0, rI, rU, tUn, rEq, rNe, rIxL, rIxT, rIxS, rSetL, rSlLU, rSlS, rSlU, rCatL, rCatU, rRepL, rIn, tVar, tC, gName, gSub, tIfS, tTest, tB, tAnd, tOr, tNot, tNotV, tAndV, tOrV, tIf, tCall, tCons, tNil, tCB, tDrop, tRet, tRetN, tNext, tLstU, tTupU, tM0, tM1, tPar, tPar3, tAug, ipI, tBM, tBM0, rAppend, rPop, tBreak, tCont, tChain, tSl, tPart, tNoPart, L2.start, List.map, List.length_cons, List.length_nil, List.replicate, List.cons_append, List.nil_append, List.append_nil, List.getElem?_cons_zero, List.getElem?_cons_succ, List.set_cons_zero, List.set_cons_succ, Option.some.injEq, V.int.injEq, V.ref.injEq, V.str.injEq, V.bl.injEq, exists_eq_left', exists_eq_left, exists_and_left, decide_eq_true_eq, List.cons.injEq, and_true, true_and, scal, Bool.not_eq_true', decide_eq_false_iff_not, Nat.zero_add, Nat.reduceAdd, Nat.reduceSub, reduceCtorEq, false_and, exists_false, false_or, or_false, CPow, CMul, CDiv, Int.reduceToNat, ↓reduceIte, wipe, sw, List.nil_append, List.singleton_append])
local macro_rules | `(tactic| walk_at "st") => `(tactic| (refine seq_op fun N hN => ?_; walk_at "rs"))
local macro_rules | `(tactic| walk_at "sd") => `(tactic| first | assumption | decide | omega)
local macro_rules | `(tactic| walk_at "rd") => `(tactic| repeat (first
  | refine ⟨_, SqL.of (by assumption), ?_⟩ | refine ⟨_, SqL.of upd_same, ?_⟩ | refine ⟨_, .inl (SqL.of (by assumption)), ?_⟩ | refine ⟨_, (by assumption : _ = some (HO.lst _)), ?_⟩ | refine ⟨_, upd_same, ?_⟩
  | refine ⟨_, rfl, ?_⟩ | refine And.intro (by walk_at "sd") ?_))

open LamX (Tabs TabS ExtN GivesTo pe_lamcall TabB lamS_by tLam CodeO LamS lamCx lamEnv)
/-! ### heaps, but for the bag and the tables of code objects -/
def KN (b : Addr) (H H' : Hp) : Prop := ∀ a o, a ≠ b → H a = some o → (∀ ps, o ≠ HO.tbl ps) → H' a = some o
theorem KN.refl {b : Addr} {H : Hp} : KN b H H := fun _ _ _ h _ => h
theorem KN.kp {b : Addr} {H H' : Hp} (k : Kp b H H') : KN b H H' := fun a o n h _ => (hb_some (k a o (by rw [hb_ne n]; exact h))).2
theorem KN.same {b : Addr} {H H' : Hp} (s : Same H H') : KN b H H' := fun _ _ _ h _ => s _ _ h
theorem KN.ext {b : Addr} {H H' : Hp} (s : ExtN H H') : KN b H H' := fun a o _ h n => s a o h n
theorem KN.trans {b : Addr} {H H1 H2 : Hp} (k : KN b H H1) (l : KN b H1 H2) : KN b H H2 := fun a o n h t => l a o n (k a o n h t) t
theorem KN.list {b a : Addr} {H H' : Hp} {xs : List V} (k : KN b H H') (n : a ≠ b) (h : H a = some (.lst xs)) : H' a = some (.lst xs) := k a _ n h fun _ z => by cases z
theorem KN.tup {b a : Addr} {H H' : Hp} {xs : List V} (k : KN b H H') (n : a ≠ b) (h : H a = some (.tup xs)) : H' a = some (.tup xs) := k a _ n h fun _ z => by cases z
theorem KN.seqT {K : PySem.W.Frag} {b c q : Addr} {H H' : Hp} {xs : List V} (B : Bag H b c) (k : KN b H H') (h : SqT K H q xs) : SqT K H' q xs := by
  obtain ⟨yb, eb⟩ := B.at
  rcases h with (h | ⟨o, h⟩) | h
  · refine .inl (.inl (k q _ (fun e => ?_) h fun _ z => by cases z))
    rw [e, eb] at h; cases h
  · refine .inl (.inr ⟨o, k q _ (fun e => ?_) h fun _ z => by cases z⟩)
    rw [e, eb] at h; cases h
  · exact .inr h
theorem ExtN.seqT {K : PySem.W.Frag} {q : Addr} {H H' : Hp} {xs : List V} (k : ExtN H H') (h : SqT K H q xs) : SqT K H' q xs := by
  rcases h with (h | ⟨o, h⟩) | h
  · exact .inl (.inl (k q _ h fun _ z => by cases z))
  · exact .inl (.inr ⟨o, k q _ h fun _ z => by cases z⟩)
  · exact .inr h
theorem ExtN.seqL {K : PySem.W.Frag} {q : Addr} {H H' : Hp} {xs : List V} (k : ExtN H H') (h : SqL K H q xs) : SqL K H' q xs := by
  rcases h with (h | ⟨o, h⟩) | h
  · exact .inl (.inl (k q _ h fun _ z => by cases z))
  · exact .inl (.inr ⟨o, k q _ h fun _ z => by cases z⟩)
  · exact .inr h
theorem Bag.ext {H H' : Hp} {b c : Addr} (B : Bag H b c) (k : ExtN H H') : Bag H' b c := by
  obtain ⟨cells, i, g, m, n, h1, h2, h3⟩ := B
  exact ⟨cells, i, g, m, n, k _ _ h1 (fun _ z => by cases z), k _ _ h2 (fun _ z => by cases z), h3⟩
theorem Same.extN {H H' : Hp} (s : Same H H') : ExtN H H' := fun _ _ h _ => s _ _ h
theorem Tabs.same {T : List (Addr × Str)} {H H' : Hp} (t : Tabs T H) (s : Same H H') : Tabs T H' := LamX.Tabs.ext t fun b o h => s b o h
theorem codeO_lst {c : Addr} {q : Str} {xs : List V} : CodeO c q ≠ .lst xs := fun z => by
  unfold LamX.CodeO at z
  cases z
theorem Tabs.kp {T : List (Addr × Str)} {H H' : Hp} {b c : Addr} (B : Bag H b c) (t : Tabs T H) (k : Kp b H H') : Tabs T H' := fun p hp => by
  obtain ⟨yb, eb⟩ := B.at
  obtain ⟨ps, h1, h2, h3⟩ := t p hp
  have n1 : p.1 ≠ b := fun e => by rw [e, eb] at h1; cases h1
  refine ⟨ps, k.hd h1 n1, h2, fun pos cv hc => ?_⟩
  obtain ⟨c0, e1, e2⟩ := h3 pos cv hc
  refine ⟨c0, e1, k.hd e2 fun e => ?_⟩
  rw [e, eb] at e2
  exact codeO_lst (Option.some.inj e2).symm
/-! ### a def whose code object is told -/
section
variable {P : Program} {w : World} {K : PySem.W.Frag} {mg : Str → Option Value} {base : Heap}
theorem Fun.okC {x qual : Str} {st : Stmt} {f c : Addr} {fd : FuncData} {N ps : List Str} {k : Nat} {sp : Sp} (F : Fun K x qual st f fd) (hc : fd.code = .ref c) (S : FnScope N ps (defScope st)) (len : ∀ vs H Q E, sp vs H Q E → vs.length = ps.length)
    (hbody : ∀ (A : Around) (outer : List Env) (s : Shared) (H : Hp) (vs : List V) (Q : VK) (E : XK), Room k (A.deeper (envOfC qual (defScope st) s.heap.objs.size f (.ref c))) → sp vs H Q E →
      ∃ t, PSs (cxOf CX0 P w K mg base N qual (defScope st) f (.ref c) A outer s H E).nox (defBody st) t ∧ t { nx := fun _ H' => Q .non H', rt := Q } (start N vs) H) : FnOk P w K mg base CX0 (k + 1) f fd ps sp := by
  obtain ⟨oc, od, kV, doc, pm, an, cdv, ct, osl, rfl, lk, hcd⟩ := F.ex
  have e : cdv = .ref c := hc
  subst e
  refine fn_of lk hcd S len fun A outer s H vs Q E hr hsp => ?_
  obtain ⟨t, h, q⟩ := hbody A outer s H vs Q E hr hsp
  exact ⟨t, h.nox, q⟩
end
/-! ### the defs with a lambda: their tables -/
def lamQ (q : Str) : Str := (envOfC q (defScope s__law_judged) 0 0 .none).qual ++ "<lambda>"
section
variable {w : World} {K : PySem.W.Frag} {mg : Str → Option Value}
def Txt.TL (T : Txt w K mg) : List (Addr × Str) := [(T.P__law_judged, lamQ "_law_judged")]
def Txt.cs (T : Txt w K mg) : List (Addr × Addr) := [(T.c__law_judged, T.P__law_judged)]
theorem Txt.uniq (T : Txt w K mg) {p q : Addr × Str} (hp : p ∈ T.TL) (hq : q ∈ T.TL) (e : p.1 = q.1) : p.2 = q.2 := by
  unfold Txt.TL at hp hq
  simp only [List.mem_cons, List.mem_nil_iff, or_false] at hp hq
  subst hp hq
  rfl
theorem Txt.cs1 (T : Txt w K mg) : (T.c__law_judged, T.P__law_judged) ∈ T.cs := List.mem_cons_self
theorem Txt.tl1 (T : Txt w K mg) : (T.P__law_judged, lamQ "_law_judged") ∈ T.TL := List.mem_cons_self
end
mutual
theorem dp_ext {K : PySem.W.Frag} {H H' : Hp} (e : ExtN H H') : ∀ {d : PyData} {v : V}, Dp K H v d → Dp K H' v d
  | .none, _, h => by cases h; exact .non
  | .bool _, _, h => by cases h; exact .bl _
  | .int _, _, h => by cases h; exact .int _
  | .str _, _, h => by cases h; exact .str _
  | .list ds, _, h => by cases h with | lst a b => exact .lst (ExtN.seqL e a) (dpa_ext e b)
  | .tuple ds, _, h => by cases h with | tup a b => exact .tup (ExtN.seqT e a) (dpa_ext e b)
  | .dict _, _, h => by cases h
theorem dpa_ext {K : PySem.W.Frag} {H H' : Hp} (e : ExtN H H') : ∀ {ds : List PyData} {vs : List V}, DpAll K H vs ds → DpAll K H' vs ds
  | [], _, h => by cases h; exact .nil
  | _ :: _, _, h => by cases h with | cons a b => exact .cons (dp_ext e a) (dpa_ext e b)
end
/-! ### isinstance of the exception that a suite holds -/
def rIsX (C a : Addr) (cls : Value) (d : Option Addr) : List V → Hp → VK → Prop := fun xs H Q => xs = [.ref a, .ref C] ∧ cls = .ref C ∧ (∃ (dd : Addr) (fs : List (Str × V)), d = some dd ∧ H dd = some (.xd fs)) ∧ Q (.bl true) H
theorem call_isX {X : Cx} {a C : Addr} {cls : Value} {d : Option Addr} {oe : Obj} {pn : List (Addr × Obj)} (T : IsxC X.K C) (hk : PySem.W.kitOne X.K (.ref C) (.ref C) = some true) (hz : Zc cls d oe) (hf : ∃ vs, oe.data = .fields vs) : CallR (X.suite a ((a, oe) :: pn)) (.builtin "isinstance") (rIsX C a cls d) := by
  intro pins s σ H xs us Q I r h
  obtain ⟨rfl, rfl, ⟨dd, fs, rfl, hd⟩, q⟩ := h
  cases r with
  | cons rx rr =>
    cases rr with
    | cons rt rr =>
      cases rr
      cases rx
      cases rt
      obtain ⟨hget, _⟩ := I.pin (a, oe) (List.mem_append.mpr (.inl List.mem_cons_self))
      obtain ⟨vs, hv⟩ := hf
      have hx : ObjOk X.prog X.w H s.heap dd (.xd fs) := I.hok dd _ hd
      obtain ⟨mA, hns, hr⟩ := hx
      obtain ⟨od, ho, hl⟩ := lookIn_ns hns
      have J : PySem.W.InstAt s.heap a oe C (some od) := ⟨hget, hz.1, by unfold PySem.W.notCls; rw [hv] <;> rfl, by rw [hz.2]; exact ho⟩
      exact PySem.W.kia_one (PySem.W.kitx_exc T.cl T.ga T.gt T.sub T.ha T.hn T.tk T.hm) I.kIn J hk (fun z => nomatch z) fun tk => ⟨.bl true, H, I.kept (t' := tk) fun _ _ z => z, rfl, q⟩
/-- _law_ask(lambda: ..): what was told, or the error's code and value -/
def TTask (C : Addr) : (XK → Hp → VK → Prop) → Hp → VK → Prop := fun tl H Q =>
  tl (fun cls d H' => cls = .ref C ∧ ∃ (dd : Addr) (v : V), d = some dd ∧ H' dd = some (.xd (badF v)) ∧ ∀ p H2, Same H' H2 → H' p = none → H2 p = some (.lst [.str "BadValue", v]) → Q (.ref p) H2) H
    fun v H1 => 2 ≤ sizeLine ∧ ∀ p H2, Same H1 H2 → H1 p = none → H2 p = some (.lst [.str "told", v]) → Q (.ref p) H2
theorem takes_len {X : Cx} {W : WX} {n : Nat} (t : Takes X W) (hn : X.N.length = n) : Takes X (fun c d σ H => σ.length = n → W c d σ H) := fun u s' ⟨a, B, sI, pins, σ, H, cls, d, e, I, nb, up, sky, na, os, ag, w⟩ =>
  t u s' ⟨a, B, sI, pins, σ, H, cls, d, e, I, nb, up, sky, na, os, ag, w (I.len.trans hn)⟩
theorem len2 {σ : L2.St} (h : σ.length = 2) (v : V) : (σ.set 1 (some v))[1]? = some (some v) := by
  rw [List.getElem?_set_self (by omega)]
theorem ask_gives {X : Cx} (T : Txt X.w X.K X.mg) {q : Str} {g : Addr} {cdg : Value} : GivesTo X N__law_ask "_law_ask" (defScope s__law_ask) g cdg (defBody s__law_ask) "deed" q (TTask T.C_BadValue) := by
  intro f c' s H Q tl act hc h
  refine ⟨_, pss_one (ps_try_as (X := (cxOf C8.CX0 X.prog X.w X.K X.mg X.base N__law_ask "_law_ask" (defScope s__law_ask) g cdg X.A X.stack s H C8.E0).nox) (c := .ref T.C_NetError) (i := 1)
      (tb := fun W D σ H => ∃ Ech : XK, (∀ cls d σ' H', Ech cls d H' → σ'.length = 2 → W cls d σ' H') ∧ tRet (tLstU (tCons (fun _ H Q => Q (.str "told") H) (tCons (fun σZ HZ Q => σZ[0]? = some (some (.ref f)) ∧ HZ c' = some (CodeO c' q) ∧ tl Ech HZ Q) tNil))) D σ H)
      rfl rfl sc__law_ask.nd rfl rfl ⟨by rfl, by decide, .inl T.m_NetError⟩ LamX.takes0 (fun W pn xe tk _ => ?_)
      (fun a oe cls d pn hz hf => pss_one (ps_ret (pe_lstU (pa_cons (pe_xf T.x_BadValue T.c_BadValue hz hf (pv 1)) (pa_cons (pe_ifExp (pt_val (pe_callB (call_isX T.y_BadValue T.k_BadValue hz hf) (by rfl) T.n_isinstance (by decide +kernel) (pa_cons (pv 1) (pa_cons (pe_glob (v := .ref T.C_BadValue) (by rfl) T.m_BadValue rfl) pa_nil)))) (pe_xf T.x_BadValue T.v_BadValue hz hf (pv 1)) pe_non) pa_nil)))))), ?_⟩
  · refine ⟨fun pins s' σ H' D I h' => ?_⟩
    obtain ⟨Ech, hW, h3⟩ := h'
    exact (pss_one (ps_ret (pe_lstU (pa_cons pe_str (pa_cons (act (fun c d σ H => σ.length = 2 → W c d σ H) pn xe Ech _ _ (takes_len tk rfl) hW) pa_nil))))).run pins s' σ H' D I h3
  · refine ⟨fun cls d H' => cls = .ref T.C_BadValue ∧ ∃ (dd : Addr) (v : V), d = some dd ∧ H' dd = some (.xd (badF v)) ∧ ∀ p H2, Same H' H2 → H' p = none → H2 p = some (.lst [.str "BadValue", v]) → Q (.ref p) H2, ?_, ?_⟩
    · rintro cls d σ' H' ⟨rfl, dd, v, rfl, hd, k⟩ hl
      refine ⟨true, T.e_BadValue, fun _ a ha => ?_, fun z => Bool.noConfusion z⟩
      unfold tXf rIsX
      walk_at "rs"
      have h2 := len2 hl (.ref a)
      refine ⟨_, h2, rfl, _, hd, .str "BadValue", rfl, _, h2, rfl, ⟨_, hd⟩, _, h2, rfl, _, hd, v, rfl, by decide, k⟩
    · show tRet _ _ _ _
      revert h
      unfold TTask
      walk_at "rs"
      exact fun h => ⟨hc, h⟩
/-- _law_ask(lambda: ..) -/
theorem pe_ask {X : Cx} (T : Txt X.w X.K X.mg) {c P : Addr} {k : Nat} {params : Arguments} {body : Expr} {scope : Scope} {t : XK → TE} {p lpos pos : Pos} (hg : Gl X "_law_ask") (TB : TabB X.base X.mg c P) (hcode : X.env.code = .ref c) (hmT : (P, X.env.qual ++ "<lambda>") ∈ T.TL)
    (hr : Room (k + 2) X.A) (L : LamS X.env.scope scope) (hdef : defaultsOf params X.env = ([], []))
    (hbind : ∀ (q : Str) (cl : List (Str × Addr)) (pm cv ctv : Value), bindArgs (PySem.W.kla_fn "<lambda>" q params body scope cl pm cv ctv) ⟨[], []⟩ = pure [])
    (hbody : ∀ (A : Around) (outer : List Env) (s : Shared) (H : Hp) (E : XK) (f c' : Addr), Room k (A.deeper (lamEnv X scope s.heap.objs.size f c')) → PE (lamCx X A outer s H E scope f c') body (t E)) :
    PE X (.Call (.Name "_law_ask" p) [.Lambda params body scope lpos] [] pos) (tLam T.TL (TTask T.C_BadValue) t) := by
  obtain ⟨oc, od, kV, doc, pm, an, cdv, ct, osl, efd, lk, hcd⟩ := T.F__law_ask.ex
  have hb := T.B__law_ask
  rw [efd] at lk hb
  exact pe_lamcall (a := "deed") hg T.m__law_ask T.F__law_ask.kp lk hcd hb sc__law_ask rfl (.inl rfl) (ask_gives T) TB hcode hmT (fun p hp e => T.uniq hp hmT e) hr L hdef hbind hbody
end LK

set_option Elab.async false
set_option linter.all false
set_option maxRecDepth 100000
namespace LK
open PySem PySem.Spec PyProof.Rows L2
local macro_rules | `(tactic| walk_at "rs") => `(tactic| simp only [cxK, cxNK, tCallZ, tAsg, tOp, rI0, rS0, rB0, rI, rU, tUn, rEq, rNe, rIxL, rIxT, rIxS, rSetL, rSlLU, rSlS, rSlU, rCatL, rCatU, rRepL, rIn, tVar, tC, gName, gSub, tIfS, tTest, tB, tAnd, tOr, tNot, tNotV, tAndV, tOrV, tIf, tCall, tCons, tNil, tCB, tDrop, tRet, tRetN, tNext, tLstU, tTupU, tM0, tM1, tPar, tPar3, tAug, ipI, tBM, tBM0, rAppend, rPop, tBreak, tCont, tChain, tSl, tPart, tNoPart, L2.start, List.map, List.length_cons, List.length_nil, List.replicate, List.cons_append, List.nil_append, List.append_nil, List.getElem?_cons_zero, List.getElem?_cons_succ, List.set_cons_zero, List.set_cons_succ, Option.some.injEq, V.int.injEq, V.ref.injEq, V.str.injEq, V.bl.injEq, exists_eq_left', exists_eq_left, exists_and_left, decide_eq_true_eq, List.cons.injEq, and_true, true_and, scal, Bool.not_eq_true', decide_eq_false_iff_not, Nat.zero_add, Nat.reduceAdd, Nat.reduceSub, reduceCtorEq, false_and, exists_false, false_or, or_false, CPow, CMul, CDiv, Int.reduceToNat, ↓reduceIte, wipe, sw, List.nil_append, List.singleton_append])
local macro_rules | `(tactic| walk_at "st") => `(tactic| (refine seq_op fun N hN => ?_; walk_at "rs"))
local macro_rules | `(tactic| walk_at "sd") => `(tactic| first | assumption | decide | omega)
local macro_rules | `(tactic| walk_at "rd") => `(tactic| repeat (first
  | refine ⟨_, SqL.of (by assumption), ?_⟩ | refine ⟨_, SqL.of upd_same, ?_⟩ | refine ⟨_, .inl (SqL.of (by assumption)), ?_⟩ | refine ⟨_, (by assumption : _ = some (HO.lst _)), ?_⟩ | refine ⟨_, upd_same, ?_⟩
  | refine ⟨_, rfl, ?_⟩ | refine And.intro (by walk_at "sd") ?_))

theorem fr_spec (p : Int) {q : Int} (h : q ≠ 0) : frP p q * frG p q = p ∧ frQ p q * frG p q = q ∧ 1 ≤ frQ p q ∧ Nat.gcd (frP p q).natAbs (frQ p q).natAbs = 1 ∧ (frP p q).natAbs ≤ p.natAbs ∧ (frQ p q).natAbs ≤ q.natAbs ∧ frG p q ≠ 0 := by
  have g0 : Nat.gcd p.natAbs q.natAbs ≠ 0 := fun z => h (by have := Nat.eq_zero_of_gcd_eq_zero_right z; omega)
  have ga : (frG p q).natAbs = Nat.gcd p.natAbs q.natAbs := by unfold frG; split <;> omega
  have gs : (0 < q ∧ 0 < frG p q) ∨ (q < 0 ∧ frG p q < 0) := by unfold frG; split <;> omega
  have gn : frG p q ≠ 0 := by omega
  have d1 : frG p q ∣ p := Int.natAbs_dvd_natAbs.mp (by rw [ga]; exact Nat.gcd_dvd_left _ _)
  have d2 : frG p q ∣ q := Int.natAbs_dvd_natAbs.mp (by rw [ga]; exact Nat.gcd_dvd_right _ _)
  obtain ⟨a, ea⟩ := d1
  obtain ⟨b, eb⟩ := d2
  have pa : frP p q = a := by
    unfold frP
    generalize frG p q = G at ea gn
    rw [ea, Int.mul_comm]
    exact Int.mul_fdiv_cancel _ gn
  have qb : frQ p q = b := by
    unfold frQ
    generalize frG p q = G at eb gn
    rw [eb, Int.mul_comm]
    exact Int.mul_fdiv_cancel _ gn
  rw [pa, qb]
  have na : p.natAbs = a.natAbs * Nat.gcd p.natAbs q.natAbs := by
    rw [← ga, ← Int.natAbs_mul, Int.mul_comm]; exact congrArg Int.natAbs ea
  have nb : q.natAbs = b.natAbs * Nat.gcd p.natAbs q.natAbs := by
    rw [← ga, ← Int.natAbs_mul, Int.mul_comm]; exact congrArg Int.natAbs eb
  have hg : Nat.gcd a.natAbs b.natAbs = 1 := by
    have e : Nat.gcd (a.natAbs * Nat.gcd p.natAbs q.natAbs) (b.natAbs * Nat.gcd p.natAbs q.natAbs) = Nat.gcd p.natAbs q.natAbs := by rw [← na, ← nb]
    rw [Nat.gcd_mul_right] at e
    exact Nat.eq_of_mul_eq_mul_right (Nat.pos_of_ne_zero g0) (by rw [e, Nat.one_mul])
  refine ⟨by rw [Int.mul_comm]; exact ea.symm, by rw [Int.mul_comm]; exact eb.symm, ?_, hg, ?_, ?_, gn⟩
  · generalize frG p q = G at eb gs
    rcases Int.lt_trichotomy b 0 with c | c | c
    · rcases gs with ⟨h1, h2⟩ | ⟨h1, h2⟩
      · have := Int.mul_neg_of_pos_of_neg h2 c; omega
      · have := Int.mul_pos_of_neg_of_neg h2 c; omega
    · rw [c, Int.mul_zero] at eb; omega
    · omega
  · rw [na]; exact Nat.le_mul_of_pos_right _ (Nat.pos_of_ne_zero g0)
  · rw [nb]; exact Nat.le_mul_of_pos_right _ (Nat.pos_of_ne_zero g0)
theorem pow_le {n a b : Nat} (h : n < 2 ^ a) (hab : a ≤ b) : n < 2 ^ b := Nat.lt_of_lt_of_le h (Nat.pow_le_pow_right (by decide) hab)
theorem eqv_pair (p q r s : Int) : PyData.eqv (.tuple [.int p, .int q]) (.tuple [.int r, .int s]) = (decide (p = r) && decide (q = s)) := by
  simp [PyData.eqv, PyData.eqvAll]
  rfl
theorem fr_low {p q : Int} (h : 1 ≤ q) (hg : Nat.gcd p.natAbs q.natAbs = 1) : frP p q = p ∧ frQ p q = q := by
  have e : frG p q = 1 := by unfold frG; rw [hg, if_neg (by omega)]; rfl
  obtain ⟨h1, h2, _⟩ := fr_spec p (q := q) (by omega)
  rw [e, Int.mul_one] at h1 h2
  exact ⟨h1, h2⟩
/-- what the exact test tells -/
theorem okD_two {p q : Int} (h : okD (.tuple [.int p, .int q]) = true) : p.natAbs < 2 ^ 4000 ∧ q.natAbs < 2 ^ 4000 := by
  have a := (okD_tup.mp h).2
  unfold okAll at a
  rw [Bool.and_eq_true] at a
  obtain ⟨a1, a2⟩ := a
  unfold okAll at a2
  rw [Bool.and_eq_true] at a2
  exact ⟨of_decide_eq_true a1, of_decide_eq_true a2.1⟩
theorem okD_of2 {p q : Int} (h1 : p.natAbs < 2 ^ 4000) (h2 : q.natAbs < 2 ^ 4000) : okD (.tuple [.int p, .int q]) = true := by
  refine okD_tup.mpr ⟨(show 2 ≤ 100000 by decide), ?_⟩
  unfold okAll
  rw [Bool.and_eq_true]
  refine ⟨decide_eq_true h1, ?_⟩
  unfold okAll
  rw [Bool.and_eq_true]
  exact ⟨decide_eq_true h2, rfl⟩
theorem isFrac_iff {p q : Int} : isFrac (.tuple [.int p, .int q]) = true ↔ 1 ≤ q ∧ Nat.gcd p.natAbs q.natAbs = 1 := by
  show (decide (1 ≤ q) && decide (Nat.gcd p.natAbs q.natAbs = 1)) = true ↔ _
  rw [Bool.and_eq_true, decide_eq_true_iff, decide_eq_true_iff]
theorem frac_dp {K : PySem.W.Frag} {H : Hp} {v : V} {d : PyData} (hd : Dp K H v d) (e : isFrac d = true) : ∃ a p q, v = .ref a ∧ d = .tuple [.int p, .int q] ∧ SqT K H a [.int p, .int q] ∧ 1 ≤ q ∧ Nat.gcd p.natAbs q.natAbs = 1 := by
  cases hd with
  | @tup a xs ds hs ha =>
    cases ha with
    | nil => cases e
    | cons h1 ha =>
      cases ha with
      | nil => cases h1 <;> cases e
      | cons h2 ha =>
        cases ha with
        | nil =>
          cases h1 with
          | int p =>
            cases h2 with
            | int q => exact ⟨a, p, q, rfl, rfl, hs, isFrac_iff.mp e⟩
            | _ => cases e
          | _ => cases h2 <;> cases e
        | cons h3 ha => cases h1 <;> cases h2 <;> cases e
  | _ => cases e
end LK

set_option Elab.async false
set_option linter.all false
set_option maxRecDepth 100000
namespace LK
open PySem PySem.Spec PyProof.Rows L2
local macro_rules | `(tactic| walk_at "rs") => `(tactic| simp only [cxK, cxNK, tCallZ, tAsg, tOp, rI0, rS0, rB0, rI, rU, tUn, rEq, rNe, rIxL, rIxT, rIxS, rSetL, rSlLU, rSlS, rSlU, rCatL, rCatU, rRepL, rIn, tVar, tC, gName, gSub, tIfS, tTest, tB, tAnd, tOr, tNot, tNotV, tAndV, tOrV, tIf, tCall, tCons, tNil, tCB, tDrop, tRet, tRetN, tNext, tLstU, tTupU, tM0, tM1, tPar, tPar3, tAug, ipI, tBM, tBM0, rAppend, rPop, tBreak, tCont, tChain, tSl, tPart, tNoPart, L2.start, List.map, List.length_cons, List.length_nil, List.replicate, List.cons_append, List.nil_append, List.append_nil, List.getElem?_cons_zero, List.getElem?_cons_succ, List.set_cons_zero, List.set_cons_succ, Option.some.injEq, V.int.injEq, V.ref.injEq, V.str.injEq, V.bl.injEq, exists_eq_left', exists_eq_left, exists_and_left, decide_eq_true_eq, List.cons.injEq, and_true, true_and, scal, Bool.not_eq_true', decide_eq_false_iff_not, Nat.zero_add, Nat.reduceAdd, Nat.reduceSub, reduceCtorEq, false_and, exists_false, false_or, or_false, CPow, CMul, CDiv, Int.reduceToNat, ↓reduceIte, wipe, sw, List.nil_append, List.singleton_append])
local macro_rules | `(tactic| walk_at "st") => `(tactic| (refine seq_op fun N hN => ?_; walk_at "rs"))
local macro_rules | `(tactic| walk_at "sd") => `(tactic| first | assumption | decide | omega)
local macro_rules | `(tactic| walk_at "rd") => `(tactic| repeat (first
  | refine ⟨_, SqL.of (by assumption), ?_⟩ | refine ⟨_, SqL.of upd_same, ?_⟩ | refine ⟨_, .inl (SqL.of (by assumption)), ?_⟩ | refine ⟨_, (by assumption : _ = some (HO.lst _)), ?_⟩ | refine ⟨_, upd_same, ?_⟩
  | refine ⟨_, rfl, ?_⟩ | refine And.intro (by walk_at "sd") ?_))

open TL
theorem tl_cps (z : Str) : tl z = z.cps.toList := rfl
theorem tl_strI (i : Int) : tl (strI i) = (if i < 0 then [45] else []) ++ numL i.natAbs := by
  unfold strI
  by_cases h : i < 0
  · rw [if_pos h, PyProof.Rows.toString_neg h]
    have e : (0 - i) = ((i.natAbs : Nat) : Int) := by omega
    rw [e, tl_ofString, String.toList_append, List.map_append]
    have e2 := tl_num i.natAbs
    rw [tl_ofString] at e2
    rw [e2]
    rfl
  · rw [if_neg h, List.nil_append]
    have e : i = ((i.natAbs : Nat) : Int) := by omega
    conv => lhs; rw [e]
    exact tl_num _
theorem strI_len {i : Int} (h : i.natAbs < 10 ^ 60) : (strI i).length ≤ 61 := by
  rw [len_tl, tl_strI, List.length_append]
  have := numL_len (by decide : 0 < 60) h
  split <;> simp <;> omega
theorem empty_append (z : Str) : Str.empty ++ z = z := by
  refine ext_tl ?_
  rw [tl_append]
  rfl
theorem numL_lead : ∀ (n : Nat), 0 < n → ∃ c r, numL n = c :: r ∧ c ≠ 48 := by
  intro n
  induction n using Nat.strongRecOn with
  | _ n ih =>
    intro h
    by_cases h9 : n < 10
    · rw [numL_lt h9]
      exact ⟨_, _, rfl, by omega⟩
    · rw [numL_step (by omega)]
      obtain ⟨c, r, e, hc⟩ := ih (n / 10) (by omega) (by omega)
      exact ⟨c, r ++ [48 + n % 10], by rw [e]; rfl, hc⟩
theorem digitsVal_snoc (ds : List Nat) (c : Nat) : NumText.digitsVal (ds ++ [c]) = NumText.digitsVal ds * 10 + (c - 48) := by
  unfold NumText.digitsVal
  rw [List.foldl_append]
  rfl
theorem numL_back : ∀ (n : Nat) (ds : List Nat), ds.length = n → NumText.AllDigits ds → ds ≠ [] → (∀ r, ds = 48 :: r → r = []) → numL (NumText.digitsVal ds) = ds := by
  intro n
  induction n with
  | zero => intro ds hl _ ne; exact absurd (List.eq_nil_of_length_eq_zero hl) ne
  | succ n ih =>
    intro ds hl ha ne hz
    obtain ⟨es, c, rfl⟩ : ∃ es c, ds = es ++ [c] := ⟨ds.dropLast, ds.getLast ne, (List.dropLast_concat_getLast ne).symm⟩
    have hc := ha c (by simp)
    rw [digitsVal_snoc]
    by_cases e : es = []
    · subst e
      have : NumText.digitsVal [] = 0 := rfl
      rw [this, Nat.zero_mul, Nat.zero_add, numL_lt (by omega), List.nil_append]
      congr 1
      omega
    · have ha2 : NumText.AllDigits es := fun x hx => ha x (List.mem_append_left _ hx)
      have hz2 : ∀ r, es = 48 :: r → r = [] := fun r er => by
        have := hz (r ++ [c]) (by rw [er]; rfl)
        simp at this
      have q := ih es (by simpa using hl) ha2 e hz2
      have pos : 0 < NumText.digitsVal es := by
        rcases Nat.eq_zero_or_pos (NumText.digitsVal es) with z | z
        · rw [z, numL_lt (by omega)] at q
          have := hz [c] (by rw [← q]; rfl)
          simp at this
        · exact z
      rw [numL_step (by omega)]
      have e1 : (NumText.digitsVal es * 10 + (c - 48)) / 10 = NumText.digitsVal es := by omega
      have e2 : (NumText.digitsVal es * 10 + (c - 48)) % 10 = c - 48 := by omega
      rw [e1, e2, q]
      congr 2
      omega
theorem val_lt60 {l : List Nat} (h : NumText.AllDigits l) (hl : l.length ≤ 60) : NumText.digitsVal l < 10 ^ 60 := by
  have := digitsVal_lt l 0 h
  exact Nat.lt_of_lt_of_le this (by rw [Nat.zero_add, Nat.one_mul]; exact Nat.pow_le_pow_right (by decide) hl)
theorem FIG_in {c : Nat} (h : 48 ≤ c ∧ c ≤ 57) : inS c FIGs = true := by
  have e : FIGs.cps.toList = [48, 49, 50, 51, 52, 53, 54, 55, 56, 57] := by decide +kernel
  refine decide_eq_true ?_
  rw [e]
  simp only [List.mem_cons, List.mem_nil_iff, or_false]
  omega
theorem starts_of {z : Str} {r : List Nat} (h : tl z = 45 :: r) : Txt.startswith z "-" = true := by
  unfold Txt.startswith
  have e : TL.tl "-" = [45] := by decide +kernel
  have l : z.length = r.length + 1 := by rw [len_tl, h]; rfl
  have q : PySem.StrLaws.At z "-" z.length 0 := (TL.at_iff (x := z) (y := "-") (by rw [e]; simp) 0).mpr (by rw [e, List.drop_zero, h]; rfl)
  rw [Bool.and_eq_true]
  exact ⟨decide_eq_true q.1, q.2⟩
theorem figs_neg {z : Str} {r : List Nat} (h : tl z = 45 :: r) : (figures z).cps.toList = r := by
  unfold figures
  rw [if_pos (starts_of h), cutS_tail]
  rw [tl_cps] at h
  rw [h]; rfl
theorem figs_pos {z : Str} (h : ∀ r, tl z ≠ 45 :: r) : figures z = z := by
  unfold figures
  rw [if_neg]
  intro c
  obtain ⟨r, hr⟩ := starts_minus c
  exact h r hr
theorem figs_strI (i : Int) : (figures (strI i)).cps.toList = numL i.natAbs := by
  have e := tl_strI i
  by_cases h : i < 0
  · rw [if_pos h] at e
    exact figs_neg e
  · rw [if_neg h, List.nil_append] at e
    rw [figs_pos fun r hr => by
      rw [e] at hr
      have := numL_digits i.natAbs 45 (by rw [hr]; simp)
      omega]
    exact e
theorem intText_strI {i : Int} (h : i.natAbs < 10 ^ 60) : intText? (strI i) = some i := by
  have l := strI_len h
  by_cases h0 : i < 0
  · have e := tl_strI i
    rw [if_pos h0] at e
    have q := intText_neg (x := strI i) (cs := numL i.natAbs) e (numL_digits _) (numL_ne _) (by omega)
    rw [q, numL_val]
    congr 1
    omega
  · have e : i = ((i.natAbs : Nat) : Int) := by omega
    unfold strI
    conv => lhs; rw [e]
    rw [int_num (Nat.le_trans (numL_len (by decide : 0 < 60) h) (by decide)), ← e]
theorem readNum_iff {z : Str} {n : Int} : readNum z = some n ↔ z = strI n ∧ n.natAbs < 10 ^ 60 := by
  constructor
  · intro h
    unfold readNum at h
    split at h
    · rename_i c
      split at h
      · rename_i m hm
        split at h
        · rename_i e
          cases h
          refine ⟨e.symm, ?_⟩
          have l := c.1.2
          rw [← e] at l
          change (figures (strI n)).length ≤ 60 at l
          rw [← len_cps, figs_strI] at l
          have := val_lt60 (numL_digits n.natAbs) l
          rw [numL_val] at this
          exact this
        · cases h
      · cases h
    · cases h
  · rintro ⟨rfl, h⟩
    unfold readNum
    have l := numL_len (by decide : 0 < 60) h
    have ne := numL_ne n.natAbs
    have l1 : 1 ≤ (numL n.natAbs).length := by
      cases e : numL n.natAbs with
      | nil => exact absurd e ne
      | cons => simp
    have lf : (figures (strI n)).length = (numL n.natAbs).length := by rw [← len_cps, figs_strI]
    rw [if_pos ⟨⟨by omega, by omega⟩, by
      rw [figs_strI]
      exact List.all_eq_true.mpr fun c hc => FIG_in (numL_digits _ c hc)⟩, intText_strI h]
    show (if strI n = strI n then _ else _) = _
    rw [if_pos rfl]
theorem strI_free (i : Int) : 47 ∉ tl (strI i) := by
  rw [tl_strI]
  intro h
  rcases List.mem_append.mp h with h | h
  · split at h <;> simp at h
  · exact numL_free (Or.inl (by decide)) h
theorem tl_slash : tl ("/" : Str) = [47] := by decide +kernel
theorem readZ_iff {z : Str} {p q : Int} : readZ z = some (p, q) ↔ isFrac (.tuple [.int p, .int q]) = true ∧ p.natAbs < 10 ^ 60 ∧ q.natAbs < 10 ^ 60 ∧ z = txtF p q := by
  constructor
  · intro h
    unfold readZ at h
    split at h
    · rename_i a b ha hb
      split at h
      · rename_i c
        cases h
        refine ⟨c.1, (readNum_iff.mp ha).2, ?_, c.2.symm⟩
        unfold readQ at hb
        split at hb
        · cases hb; decide
        · exact (readNum_iff.mp hb).2
      · cases h
    · cases h
  · rintro ⟨hf, hp, hq, rfl⟩
    by_cases c : q = 1
    · subst c
      have e : txtF p 1 = strI p := if_pos rfl
      have e2 : Txt.partition (strI p) "/" = (strI p, Str.empty, Str.empty) := partition_none tl_slash (strI_free p)
      unfold readZ
      rw [e, e2]
      have e3 : readQ (strI p, Str.empty, Str.empty) = some 1 := if_pos rfl
      have e4 : readNum (strI p) = some p := readNum_iff.mpr ⟨rfl, hp⟩
      rw [e3]
      dsimp only
      rw [e4]
      dsimp only
      rw [if_pos ⟨hf, e⟩]
    · have e : txtF p q = strI p ++ "/" ++ strI q := if_neg c
      have e2 : Txt.partition (strI p ++ "/" ++ strI q) "/" = (strI p, ("/" : Str), strI q) := partition_app tl_slash (strI_free p)
      unfold readZ
      rw [e, e2]
      have e3 : readQ (strI p, ("/" : Str), strI q) = some q := by
        show (if ("/" : Str).length = 0 then _ else readNum (strI q)) = _
        rw [if_neg (by decide +kernel)]
        exact readNum_iff.mpr ⟨rfl, hq⟩
      have e4 : readNum (strI p) = some p := readNum_iff.mpr ⟨rfl, hp⟩
      rw [e3]
      dsimp only
      rw [e4]
      dsimp only
      rw [if_pos ⟨hf, e⟩]
end LK

set_option Elab.async false
set_option linter.all false
set_option maxRecDepth 100000
namespace LK
open PySem PySem.Spec PyProof.Rows L2
local macro_rules | `(tactic| walk_at "rs") => `(tactic| simp only [cxK, cxNK, tCallZ, tAsg, tOp, rI0, rS0, rB0, rI, rU, tUn, rEq, rNe, rIxL, rIxT, rIxS, rSetL, rSlLU, rSlS, rSlU, rCatL, rCatU, rRepL, rIn, tVar, tC, gName, gSub, tIfS, tTest, tB, tAnd, tOr, tNot, tNotV, tAndV, tOrV, tIf, tCall, tCons, tNil, tCB, tDrop, tRet, tRetN, tNext, tLstU, tTupU, tM0, tM1, tPar, tPar3, tAug, ipI, tBM, tBM0, rAppend, rPop, tBreak, tCont, tChain, tSl, tPart, tNoPart, L2.start, List.map, List.length_cons, List.length_nil, List.replicate, List.cons_append, List.nil_append, List.append_nil, List.getElem?_cons_zero, List.getElem?_cons_succ, List.set_cons_zero, List.set_cons_succ, Option.some.injEq, V.int.injEq, V.ref.injEq, V.str.injEq, V.bl.injEq, exists_eq_left', exists_eq_left, exists_and_left, decide_eq_true_eq, List.cons.injEq, and_true, true_and, scal, Bool.not_eq_true', decide_eq_false_iff_not, Nat.zero_add, Nat.reduceAdd, Nat.reduceSub, reduceCtorEq, false_and, exists_false, false_or, or_false, CPow, CMul, CDiv, Int.reduceToNat, ↓reduceIte, wipe, sw, List.nil_append, List.singleton_append])
local macro_rules | `(tactic| walk_at "st") => `(tactic| (refine seq_op fun N hN => ?_; walk_at "rs"))
local macro_rules | `(tactic| walk_at "sd") => `(tactic| first | assumption | decide | omega)
local macro_rules | `(tactic| walk_at "rd") => `(tactic| repeat (first
  | refine ⟨_, SqL.of (by assumption), ?_⟩ | refine ⟨_, SqL.of upd_same, ?_⟩ | refine ⟨_, .inl (SqL.of (by assumption)), ?_⟩ | refine ⟨_, (by assumption : _ = some (HO.lst _)), ?_⟩ | refine ⟨_, upd_same, ?_⟩
  | refine ⟨_, rfl, ?_⟩ | refine And.intro (by walk_at "sd") ?_))

section
variable {P : Program} {w : World} {K : PySem.W.Frag} {mg : Str → Option Value} {base : Heap}
theorem ok_is_value (T : Txt w K mg) : FnOk P w K mg base CX0 3 T.a_is_value T.d_is_value ["value"] (spP1 K fun d => .bl (isVal d)) := by
  refine T.F_is_value.ok sc_is_value (fun vs H Q E h => ?_) (fun cdv A outer s H vs Q E hr h => ?_)
  · obtain ⟨v, d, rfl, _⟩ := h
    rfl
  · obtain ⟨v, d, rfl, hd, k⟩ := h
    replace k : ∀ H', Same H H' → Q (.bl (isVal d)) H' := k
    have hr_is_fraction : Room 2 _ := hr.mono (by decide)
    have G_is_fraction := ok_is_fraction (P := P) (base := base) T
    refine ⟨_, (pss_cons (ps_if (pt_not (pt_val (pe_call G_is_fraction hr_is_fraction (by rfl) T.m_is_fraction T.F_is_fraction.kp T.B_is_fraction .nil pass0 (pa_cons (pv 0) pa_nil)))) (pss_one (ps_ret pe_bl)) pss_nil)
      (pss_cons (ps_asg (pv 0) (pg_tup rfl (pgs_cons (pg_name (i := 1) sc_is_value.nd rfl (Or.inl rfl)) (pgs_cons (pg_name (i := 2) sc_is_value.nd rfl (Or.inl rfl)) pgs_nil))))
      (pss_one (ps_ret (pe_and (pe_cmpR op_le (pv 2) pe_int (nomark _)) (pe_one (pe_cmpR op_le (pe_callB call_abs (by rfl) T.n_abs (by decide +kernel) (pa_cons (pv 1) pa_nil)) (pe_op op_mulW pe_int (pv 2)) (nomark _)))))))), ?_⟩
    refine seq_op fun N hN => ?_
    walk_at "rs"
    refine ⟨v, d, rfl, hd, fun H1 s1 => ⟨_, rfl, ite2 (fun e => ?_) (fun e => hN _ _ ?_)⟩⟩
    · have q := k H1 s1
      have e2 : isVal d = false := by
        unfold isVal
        split
        · rw [e]; rfl
        · rfl
      rw [e2] at q; exact q
    · clear hN N
      replace k := fun H' (s' : Same H1 H') => k H' (Same.trans s1 s')
      obtain ⟨a, p, q, rfl, rfl, hs, q1, hg⟩ := frac_dp (dp_same s1 hd) (by simpa using e)
      have e' : isFrac (.tuple [.int p, .int q]) = true := by simpa using e
      have kk := k H1 (Same.refl _)
      have ev : isVal (.tuple [.int p, .int q]) = (decide (q ≤ 9999) && decide ((p.natAbs : Int) ≤ 99 * q)) := by
        show (isFrac _ && _) = _
        rw [e', Bool.true_and]
      rw [ev] at kk
      refine seq_op fun N hN => ?_
      walk_at "rs"
      refine ⟨_, _, rfl, hs, rfl, ?_⟩
      unfold gCons gNil
      walk_at "rs"
      refine ⟨_, _, ⟨rfl, rfl⟩, _, _, rfl, rfl, hN _ _ ?_⟩
      clear hN N
      walk_at "rs"
      refine ite2 (fun h1 => ?_) (fun h1 => ?_)
      · refine ⟨wide_mul (a := 8) (b := 8000) (by decide) (pow_le (a := 14) (by omega) (by decide)) (by decide) (by decide) (by decide), ?_⟩
        rw [abs_if]
        rw [decide_eq_true h1, Bool.true_and] at kk
        exact kk
      · rw [decide_eq_false h1, Bool.false_and] at kk
        exact kk
def sp_vt (K : PySem.W.Frag) (C : Addr) : Sp := fun vs H Q E => ∃ v d, vs = [v] ∧ Dp K H v d ∧ okD d = true ∧ (∀ z, shortZ d = some z → ∀ H', Same H H' → Q (.str z) H') ∧
  (shortZ d = none → ∀ x H', Same H H' → H x = none → H' x = some (.xd (badF v)) → E (.ref C) (some x) H')
theorem log60 {i : Int} (h : i.natAbs < 10 ^ 60) : i.natAbs.log2 < 1920 := log_small h
theorem shortZ_none {d : PyData} (e : isFrac d = false) : shortZ d = none := by
  unfold shortZ
  split
  · rw [if_neg]
    rintro ⟨h, _⟩
    rw [e] at h; cases h
  · rfl
theorem ok_value_text (T : Txt w K mg) : FnOk P w K mg base (L2.CX P w) 4 T.a_value_text T.d_value_text ["value"] (sp_vt K T.C_BadValue) := by
  refine T.F_value_text.okX sc_value_text (fun vs H Q E h => ?_) (fun cdv A outer s H vs Q E hr h => ?_)
  · obtain ⟨v, d, rfl, _⟩ := h
    rfl
  · obtain ⟨v, d, rfl, hd, hok, k, kE⟩ := h
    have hr_is_fraction : Room 2 _ := hr.mono (by decide)
    have G_is_fraction := ok_is_fraction (P := P) (base := base) T
    have hr_BadValue : Room 2 _ := hr.mono (by decide)
    have G_BadValue := ok_BadValue (P := P) (base := base) T
    refine ⟨_, (pss_cons (ps_if (pt_not (pt_val (pe_call G_is_fraction hr_is_fraction (by rfl) T.m_is_fraction T.F_is_fraction.kp T.B_is_fraction .nil pass0 (pa_cons (pv 0) pa_nil)))) (pss_one (ps_raise rfl (takes_of rfl rfl rfl rfl) (pmk_oex T.X_BadValue T.i_BadValue T.t_BadValue G_BadValue hr_BadValue T.B_BadValue__init .nil pass0 (by rfl) T.m_BadValue (pa_cons (pv 0) pa_nil)))) pss_nil)
      (pss_cons (ps_asg (pv 0) (pg_tup rfl (pgs_cons (pg_name (i := 1) sc_value_text.nd rfl (Or.inl rfl)) (pgs_cons (pg_name (i := 2) sc_value_text.nd rfl (Or.inl rfl)) pgs_nil))))
      (pss_cons (ps_if (PW.pt (pw_or (pt_cmpR op_ge (pe_callB call_abs (by rfl) T.n_abs (by decide +kernel) (pa_cons (pv 1) pa_nil)) (pe_op op_pow pe_int pe_int) (nomark _)) (pw_or1 (pt_cmpR op_ge (pv 2) (pe_op op_pow pe_int pe_int) (nomark _))))) (pss_one (ps_raise rfl (takes_of rfl rfl rfl rfl) (pmk_oex T.X_BadValue T.i_BadValue T.t_BadValue G_BadValue hr_BadValue T.B_BadValue__init .nil pass0 (by rfl) T.m_BadValue (pa_cons (pv 0) pa_nil)))) pss_nil)
      (pss_one (ps_ret (pe_ifExp (pt_cmpR op_eqI (pv 2) pe_int (nomark _)) (pe_callTy call_str_int (by rfl) T.n_str (by decide +kernel) (pa_cons (pv 1) pa_nil)) (pe_joined (.cons (pe_fmt (pv 1)) (.cons pe_str (.cons (pe_fmt (pv 2)) .nil)))))))))), ?_⟩
    refine seq_op fun N hN => ?_
    walk_at "rs"
    refine ⟨v, d, rfl, hd, fun H1 s1 => ⟨_, rfl, ite2 (fun e => ?_) (fun e => hN _ _ ?_)⟩⟩
    · exact mk_badT (fun K h => by walk_at "rs"; exact h) fun x H2 s2 hx h2 => kE (shortZ_none e) x H2 (Same.trans s1 s2) (Same.dom s1 x hx) h2
    · clear hN N
      replace k := fun z e H' (s' : Same H1 H') => k z e H' (Same.trans s1 s')
      replace kE := fun e x H' (s' : Same H1 H') (hx : H1 x = none) h => kE e x H' (Same.trans s1 s') (Same.dom s1 x hx) h
      have e' : isFrac d = true := by simpa using e
      obtain ⟨a, p, q, rfl, rfl, hs, q1, hg⟩ := frac_dp (dp_same s1 hd) e'
      refine seq_op fun N hN => ?_
      walk_at "rs"
      refine ⟨_, _, rfl, hs, rfl, ?_⟩
      unfold gCons gNil
      walk_at "rs"
      refine ⟨_, _, ⟨rfl, rfl⟩, _, _, rfl, rfl, hN _ _ ?_⟩
      clear hN N
      refine seq_op fun N hN => ?_
      walk_at "rs"
      rw [abs_if]
      refine ⟨by decide, ?_⟩
      have bad : ¬ (p.natAbs < 10 ^ 60 ∧ q.natAbs < 10 ^ 60) → shortZ (.tuple [.int p, .int q]) = none := fun h => by
        show (if _ then _ else _) = none
        rw [if_neg]
        rintro ⟨_, h2, h3⟩
        exact h ⟨h2, h3⟩
      refine ite2 (fun h1 => ?_) (fun h1 => ?_)
      · exact mk_badT (fun K h => by walk_at "rs"; exact h) fun x H2 s2 hx h2 => kE (bad (by omega)) x H2 s2 hx h2
      refine ⟨by decide, ite2 (fun h2 => ?_) (fun h2 => hN _ _ ?_)⟩
      · exact mk_badT (fun K h => by walk_at "rs"; exact h) fun x H2 s2 hx h2 => kE (bad (by omega)) x H2 s2 hx h2
      clear hN N bad kE
      have b1 : p.natAbs < 10 ^ 60 := by omega
      have b2 : q.natAbs < 10 ^ 60 := by omega
      have es : shortZ (.tuple [.int p, .int q]) = some (txtF p q) := by
        show (if _ then _ else _) = _
        rw [if_pos ⟨e', b1, b2⟩]
      have kk := k _ es H1 (Same.refl _)
      unfold txtF at kk
      simp only [tJs, tFmt]
      walk_at "rs"
      refine ite2 (fun c => ⟨log60 b1, ?_⟩) (fun c => ?_)
      · rw [if_pos c] at kk; exact kk
      · rw [if_neg c] at kk
        rw [empty_append]
        have l1 := strI_len b1
        have l2 := strI_len b2
        have l0 : (Str.ofString "/").length = 1 := by decide +kernel
        change (Str.ofString (toString p)).length ≤ 61 at l1
        change (Str.ofString (toString q)).length ≤ 61 at l2
        have big : 200 ≤ sizeLine := by decide
        refine ⟨log60 b1, by omega, ?_, log60 b2, ?_, kk⟩
        · rw [str_append_len]; omega
        · rw [str_append_len, str_append_len]; omega
end
end LK

set_option Elab.async false
set_option linter.all false
set_option maxRecDepth 100000
namespace LK
open PySem PySem.Spec PyProof.Rows L2
local macro_rules | `(tactic| walk_at "rs") => `(tactic| simp only [cxK, cxNK, tCallZ, tAsg, tOp, rI0, rS0, rB0, rI, rU, tUn, rEq, rNe, rIxL, rIxT, rIxS, rSetL, rSlLU, rSlS, rSlU, rCatL, rCatU, rRepL, rIn, tVar, tC, gName, gSub, tIfS, tTest, tB, tAnd, tOr, tNot, tNotV, tAndV, tOrV, tIf, tCall, tCons, tNil, tCB, tDrop, tRet, tRetN, tNext, tLstU, tTupU, tM0, tM1, tPar, tPar3, tAug, ipI, tBM, tBM0, rAppend, rPop, tBreak, tCont, tChain, tSl, tPart, tNoPart, L2.start, List.map, List.length_cons, List.length_nil, List.replicate, List.cons_append, List.nil_append, List.append_nil, List.getElem?_cons_zero, List.getElem?_cons_succ, List.set_cons_zero, List.set_cons_succ, Option.some.injEq, V.int.injEq, V.ref.injEq, V.str.injEq, V.bl.injEq, exists_eq_left', exists_eq_left, exists_and_left, decide_eq_true_eq, List.cons.injEq, and_true, true_and, scal, Bool.not_eq_true', decide_eq_false_iff_not, Nat.zero_add, Nat.reduceAdd, Nat.reduceSub, reduceCtorEq, false_and, exists_false, false_or, or_false, CPow, CMul, CDiv, Int.reduceToNat, ↓reduceIte, wipe, sw, List.nil_append, List.singleton_append])
local macro_rules | `(tactic| walk_at "st") => `(tactic| (refine seq_op fun N hN => ?_; walk_at "rs"))
local macro_rules | `(tactic| walk_at "sd") => `(tactic| first | assumption | decide | omega)
local macro_rules | `(tactic| walk_at "rd") => `(tactic| repeat (first
  | refine ⟨_, SqL.of (by assumption), ?_⟩ | refine ⟨_, SqL.of upd_same, ?_⟩ | refine ⟨_, .inl (SqL.of (by assumption)), ?_⟩ | refine ⟨_, (by assumption : _ = some (HO.lst _)), ?_⟩ | refine ⟨_, upd_same, ?_⟩
  | refine ⟨_, rfl, ?_⟩ | refine And.intro (by walk_at "sd") ?_))

def optD : Option Int → PyData
  | none => .none
  | some i => .int i
theorem dp_opt {K : PySem.W.Frag} {H : Hp} (o : Option Int) : Dp K H (optI o) (optD o) := by
  cases o with
  | none => exact .non
  | some i => exact .int i
theorem part_len {z : Str} : (Txt.partition z "/").1.length ≤ z.length ∧ (Txt.partition z "/").2.1.length ≤ 1 ∧ (Txt.partition z "/").2.2.length ≤ z.length := by
  have l0 : Str.empty.length = 0 := rfl
  have l1 : (Str.ofString "/").length = 1 := by decide +kernel
  have sub : ∀ i j, (Builtin.Str.strSub z i j).length ≤ z.length := fun i j => by
    rw [TL.len_tl, TL.tl_strSub, List.length_take, List.length_drop, TL.len_tl z]
    omega
  rcases PyProof.Rows.partition_whole z "/" with ⟨e, _⟩ | ⟨i, e, _, _⟩
  · rw [e]
    exact ⟨Nat.le_refl _, by rw [l0]; omega, by rw [l0]; omega⟩
  · rw [e]
    exact ⟨sub _ _, by show (Str.ofString "/").length ≤ 1; omega, sub _ _⟩
theorem readZ_none {z : Str} (h : isFrac (.tuple [optD (readNum (Txt.partition z "/").1), optD (readQ (Txt.partition z "/"))]) = false) : readZ z = none := by
  unfold readZ
  split
  · rename_i p q hp hq
    rw [hp, hq] at h
    rw [if_neg]
    rintro ⟨h2, _⟩
    have h3 : isFrac (.tuple [.int p, .int q]) = false := h
    rw [h3] at h2; cases h2
  · rfl
theorem readQ_lt {r : Str × Str × Str} {q : Int} (h : readQ r = some q) : q.natAbs < 10 ^ 60 := by
  unfold readQ at h
  split at h
  · cases h; decide
  · exact (readNum_iff.mp h).2
section
variable {P : Program} {w : World} {K : PySem.W.Frag} {mg : Str → Option Value} {base : Heap}
theorem ok_read_value (T : Txt w K mg) : FnOk P w K mg base CX0 5 T.a_read_value T.d_read_value ["text"] (sp_read K) := by
  refine T.F_read_value.ok sc_read_value (fun vs H Q E h => ?_) (fun cdv A outer s H vs Q E hr h => ?_)
  · obtain ⟨v, d, rfl, _⟩ := h
    rfl
  · obtain ⟨v, d, rfl, hd, hok, k0, k1⟩ := h
    have hr_is_fraction : Room 2 _ := hr.mono (by decide)
    have G_is_fraction := ok_is_fraction (P := P) (base := base) T
    have hr_read_number : Room 1 _ := hr.mono (by decide)
    have G_read_number := ok_read_number (P := P) (base := base) T
    have hr_value_text : Room 4 _ := hr.mono (by decide)
    have G_value_text := ok_value_text (P := P) (base := base) T
    refine ⟨_, (pss_cons (ps_if (pt_not (pt_val (pe_callB (call_isiDK (K := K) rfl) (by rfl) T.n_isinstance (by decide +kernel) (pa_cons (pv 0) (pa_cons (pe_bltn (v := .ty "str") (u := .type "str") (by rfl) T.n_str (by decide +kernel) rfl) pa_nil))))) (pss_one (ps_ret pe_non)) pss_nil)
      (pss_cons (ps_asg (pe_partition (pv 0) pe_str) (pg_tup rfl (pgs_cons (pg_name (i := 1) sc_read_value.nd rfl (Or.inl rfl)) (pgs_cons (pg_name (i := 2) sc_read_value.nd rfl (Or.inl rfl)) (pgs_cons (pg_name (i := 3) sc_read_value.nd rfl (Or.inl rfl)) pgs_nil)))))
      (pss_cons (ps_set (i := 4) sc_read_value.nd rfl (Or.inl rfl) (pe_tupU (pa_cons (pe_call G_read_number hr_read_number (by rfl) T.m_read_number T.F_read_number.kp T.B_read_number .nil pass0 (pa_cons (pv 1) pa_nil)) (pa_cons (pe_ifExp (pt_truth (pv 2) (by intro _; rfl)) (pe_call G_read_number hr_read_number (by rfl) T.m_read_number T.F_read_number.kp T.B_read_number .nil pass0 (pa_cons (pv 3) pa_nil)) pe_int) pa_nil))))
      (pss_cons (ps_if (PW.pt (pw_or (pt_not (pt_val (pe_call G_is_fraction hr_is_fraction (by rfl) T.m_is_fraction T.F_is_fraction.kp T.B_is_fraction .nil pass0 (pa_cons (pv 4) pa_nil)))) (pw_or1 (pt_cmpR op_neS (pe_call G_value_text hr_value_text (by rfl) T.m_value_text T.F_value_text.kp T.B_value_text .nil passL (pa_cons (pv 4) pa_nil)) (pv 0) (nomark _))))) (pss_one (ps_ret pe_non)) pss_nil)
      (pss_one (ps_ret (pv 4))))))), ?_⟩
    refine seq_op fun N hN => ?_
    walk_at "rs"
    refine ⟨v, "str", ⟨rfl, rfl⟩, d, hd, by simp, ite2 (fun e => ?_) (fun e => hN _ _ ?_)⟩
    · refine k0 ?_ H (Same.refl _)
      cases d <;> first | rfl | simp [isTy] at e
    clear hN N
    obtain ⟨z, rfl⟩ : ∃ z, d = .str z := by cases d <;> first | exact ⟨_, rfl⟩ | exact absurd rfl e
    cases hd
    clear e
    replace k0 : readZ z = none → ∀ H', Same H H' → Q .non H' := k0
    replace k1 : ∀ p q, readZ z = some (p, q) → ∀ t H', Same H H' → H t = none → H' t = some (.tup [.int p, .int q]) → Q (.ref t) H' := k1
    have hz : z.length ≤ 100000 := of_decide_eq_true hok
    obtain ⟨l1, l2, l3⟩ := part_len (z := z)
    refine seq_op fun N hN => ?_
    simp only [tM1]
    walk_at "rs"
    refine ⟨⟨_, rfl⟩, by decide +kernel, Nat.le_trans hz (by decide), fun t0 ht0 => ?_⟩
    have h1 : L2.upd H t0 (HO.tup [V.str (Txt.partition z (Str.ofString "/")).1, V.str (Txt.partition z (Str.ofString "/")).2.1, V.str (Txt.partition z (Str.ofString "/")).2.2]) t0 = some _ := upd_same
    have s1 := same_upd (o := (HO.tup [V.str (Txt.partition z (Str.ofString "/")).1, V.str (Txt.partition z (Str.ofString "/")).2.1, V.str (Txt.partition z (Str.ofString "/")).2.2])) ht0
    revert h1 s1
    generalize L2.upd H t0 (HO.tup [V.str (Txt.partition z (Str.ofString "/")).1, V.str (Txt.partition z (Str.ofString "/")).2.1, V.str (Txt.partition z (Str.ofString "/")).2.2]) = H1
    intro h1 s1
    refine ⟨_, _, rfl, .inl (.inl h1), rfl, ?_⟩
    unfold gCons gNil
    walk_at "rs"
    refine ⟨_, _, ⟨rfl, rfl⟩, _, _, rfl, ?_⟩
    refine ⟨_, _, rfl, rfl, hN _ _ ?_⟩
    clear hN N h1
    replace k0 := fun e H' (s' : Same H1 H') => k0 e H' (Same.trans s1 s')
    replace k1 := fun p q e t H' (s' : Same H1 H') (ht : H1 t = none) h => k1 p q e t H' (Same.trans s1 s') (Same.dom s1 t ht) h
    clear s1 ht0
    refine cut_seq (fun σ H2 => ∃ t x y u, σ = [some (.str z), x, y, u, some (.ref t)] ∧ Same H1 H2 ∧ H1 t = none ∧ H2 t = some (.tup [optI (readNum (Txt.partition z "/").1), optI (readQ (Txt.partition z "/"))])) (fun N hN => ?_) ?_
    · walk_at "rs"
      refine ⟨_, rfl, Nat.le_trans l1 hz, fun H2 s2 => ?_⟩
      have fin : ∀ v H3, v = optI (readQ (Txt.partition z "/")) → Same H2 H3 → 2 ≤ sizeLine ∧ ∀ (p : Addr) (H4 : Hp), Same H3 H4 → H3 p = none → H4 p = some (HO.tup [optI (readNum (Txt.partition z (Str.ofString "/")).fst), v]) → N [some (V.str z), some (V.str (Txt.partition z (Str.ofString "/")).fst), some (V.str (Txt.partition z (Str.ofString "/")).2.1), some (V.str (Txt.partition z (Str.ofString "/")).2.2), some (V.ref p)] H4 := by
        rintro v H3 rfl s3
        exact ⟨by decide, fun p H4 s4 h04 h4 => hN _ _ ⟨p, _, _, _, rfl, Same.trans s2 (Same.trans s3 s4), Same.dom s2 p (Same.dom s3 p h04), h4⟩⟩
      refine ⟨_, ⟨Nat.le_trans l2 (by decide), rfl⟩, ite2 (fun e => ?_) (fun e => ?_)⟩
      · refine ⟨_, rfl, Nat.le_trans l3 hz, fun H3 s3 => fin _ H3 ?_ s3⟩
        unfold readQ
        rw [if_neg (by simpa using e)]
      · refine fin _ H2 ?_ (Same.refl _)
        unfold readQ
        rw [if_pos (by simpa using e)]
        rfl
    · rintro σ H2 ⟨t, x, y, u, rfl, s2, n2, h2⟩
      have hd2 : Dp K H2 (.ref t) (.tuple [optD (readNum (Txt.partition z "/").1), optD (readQ (Txt.partition z "/"))]) := .tup (.inl (.inl h2)) (.cons (dp_opt _) (.cons (dp_opt _) .nil))
      refine seq_op fun N hN => ?_
      walk_at "rs"
      refine ⟨_, _, rfl, hd2, fun H3 s3 => ⟨_, rfl, ite2 (fun e => k0 (readZ_none e) H3 (Same.trans s2 s3)) (fun e => ?_)⟩⟩
      cases ep : readNum (Txt.partition z "/").1 with
      | none => rw [ep] at e; exact absurd rfl e
      | some p =>
        cases eq : readQ (Txt.partition z "/") with
        | none => rw [ep, eq] at e; exact absurd rfl e
        | some q =>
          rw [ep, eq] at e hd2 h2
          replace e : isFrac (.tuple [.int p, .int q]) = true := by simpa [optD] using e
          have b1 := (readNum_iff.mp ep).2
          have b2 := readQ_lt eq
          have es : shortZ (.tuple [.int p, .int q]) = some (txtF p q) := by
            show (if _ then _ else _) = _
            rw [if_pos ⟨e, b1, b2⟩]
          have ez : readZ z = if isFrac (.tuple [.int p, .int q]) = true ∧ txtF p q = z then some (p, q) else none := by
            unfold readZ
            rw [ep, eq]
          have t60 : 10 ^ 60 ≤ 2 ^ 4000 := Nat.le_trans (show 10 ^ 60 ≤ 2 ^ 200 by decide) (Nat.pow_le_pow_right (by decide) (by decide))
          refine ⟨_, _, rfl, dp_same s3 hd2, okD_of2 (Nat.lt_of_lt_of_le b1 t60) (Nat.lt_of_lt_of_le b2 t60), fun z' e' H4 s4 => ?_, fun en => ?_⟩
          · replace e' : shortZ (.tuple [.int p, .int q]) = some z' := e'
            rw [es] at e'
            cases e'
            refine ⟨_, rfl, ite2 (fun c => ?_) (fun c => hN _ _ ?_)⟩
            · exact k0 (by rw [ez, if_neg]; rintro ⟨_, h⟩; exact c h) H4 (Same.trans s2 (Same.trans s3 s4))
            · clear hN N
              walk_at "rs"
              have c' : txtF p q = z := by simpa using c
              exact k1 p q (by rw [ez, if_pos ⟨e, c'⟩]) t H4 (Same.trans s2 (Same.trans s3 s4)) n2 (s4 _ _ (s3 _ _ h2))
          · exfalso
            have en2 : shortZ (.tuple [.int p, .int q]) = none := en
            rw [es] at en2; cases en2
end
end LK

set_option Elab.async false
set_option linter.all false
set_option maxRecDepth 100000
namespace LK
open PySem PySem.Spec PyProof.Rows L2
local macro_rules | `(tactic| walk_at "rs") => `(tactic| simp only [cxK, cxNK, tCallZ, tAsg, tOp, rI0, rS0, rB0, rI, rU, tUn, rEq, rNe, rIxL, rIxT, rIxS, rSetL, rSlLU, rSlS, rSlU, rCatL, rCatU, rRepL, rIn, tVar, tC, gName, gSub, tIfS, tTest, tB, tAnd, tOr, tNot, tNotV, tAndV, tOrV, tIf, tCall, tCons, tNil, tCB, tDrop, tRet, tRetN, tNext, tLstU, tTupU, tM0, tM1, tPar, tPar3, tAug, ipI, tBM, tBM0, rAppend, rPop, tBreak, tCont, tChain, tSl, tPart, tNoPart, L2.start, List.map, List.length_cons, List.length_nil, List.replicate, List.cons_append, List.nil_append, List.append_nil, List.getElem?_cons_zero, List.getElem?_cons_succ, List.set_cons_zero, List.set_cons_succ, Option.some.injEq, V.int.injEq, V.ref.injEq, V.str.injEq, V.bl.injEq, exists_eq_left', exists_eq_left, exists_and_left, decide_eq_true_eq, List.cons.injEq, and_true, true_and, scal, Bool.not_eq_true', decide_eq_false_iff_not, Nat.zero_add, Nat.reduceAdd, Nat.reduceSub, reduceCtorEq, false_and, exists_false, false_or, or_false, CPow, CMul, CDiv, Int.reduceToNat, ↓reduceIte, wipe, sw, List.nil_append, List.singleton_append])
local macro_rules | `(tactic| walk_at "st") => `(tactic| (refine seq_op fun N hN => ?_; walk_at "rs"))
local macro_rules | `(tactic| walk_at "sd") => `(tactic| first | assumption | decide | omega)
local macro_rules | `(tactic| walk_at "rd") => `(tactic| repeat (first
  | refine ⟨_, SqL.of (by assumption), ?_⟩ | refine ⟨_, SqL.of upd_same, ?_⟩ | refine ⟨_, .inl (SqL.of (by assumption)), ?_⟩ | refine ⟨_, (by assumption : _ = some (HO.lst _)), ?_⟩ | refine ⟨_, upd_same, ?_⟩
  | refine ⟨_, rfl, ?_⟩ | refine And.intro (by walk_at "sd") ?_))

section
variable {P : Program} {w : World} {K : PySem.W.Frag} {mg : Str → Option Value} {base : Heap}
theorem ok__law_whole (T : Txt w K mg) : FnOk P w K mg base CX0 1 T.a__law_whole T.d__law_whole ["thing"] (spP1 K fun d => .bl (isNum d)) := by
  refine T.F__law_whole.ok sc__law_whole (fun vs H Q E h => ?_) (fun cdv A outer s H vs Q E hr h => ?_)
  · obtain ⟨v, d, rfl, _⟩ := h
    rfl
  · obtain ⟨v, d, rfl, hD, k⟩ := h
    refine ⟨_, (pss_one (ps_ret (pe_and (pe_callB (call_isiDK (K := K) rfl) (by rfl) T.n_isinstance (by decide +kernel) (pa_cons (pv 0) (pa_cons (pe_bltn (v := .ty "int") (u := .type "int") (by rfl) T.n_int (by decide +kernel) rfl) pa_nil))) (pe_one (pe_not (pe_callB (call_isiDK (K := K) rfl) (by rfl) T.n_isinstance (by decide +kernel) (pa_cons (pv 0) (pa_cons (pe_bltn (v := .ty "bool") (u := .type "bool") (by rfl) T.n_bool (by decide +kernel) rfl) pa_nil)))))))), ?_⟩
    walk_at "rs"
    refine ⟨v, "int", ⟨rfl, rfl⟩, d, hD, by decide, ite2 (fun h => ⟨v, "bool", ⟨rfl, rfl⟩, d, hD, by decide, ?_⟩) (fun h => ?_)⟩
    · have e : isNum d = !isTy "bool" d := by cases d <;> first | rfl | cases h
      rw [← e]; exact k H (Same.refl _)
    · have e : isNum d = false := by cases d <;> first | rfl | (exact absurd rfl h)
      have q : Q (.bl (isNum d)) H := k H (Same.refl _)
      rw [e] at q; exact q
theorem low_eq {p q : Int} (h : 1 ≤ q) : PyData.eqv (.tuple [.int (frP p q), .int (frQ p q)]) (.tuple [.int p, .int q]) = decide (Nat.gcd p.natAbs q.natAbs = 1) := by
  rw [eqv_pair]
  by_cases c : Nat.gcd p.natAbs q.natAbs = 1
  · obtain ⟨a, b⟩ := fr_low h c
    rw [a, b, decide_eq_true c, decide_eq_true rfl, decide_eq_true rfl]
    rfl
  · rw [decide_eq_false c]
    obtain ⟨_, _, _, g, _⟩ := fr_spec p (show q ≠ 0 by omega)
    by_cases a : frP p q = p
    · by_cases b : frQ p q = q
      · rw [a, b] at g
        exact absurd g c
      · rw [decide_eq_false b, Bool.and_false]
    · rw [decide_eq_false a, Bool.false_and]
theorem ok__law_broken (T : Txt w K mg) : FnOk P w K mg base CX0 2 T.a__law_broken T.d__law_broken ["thing"] (spP K fun d => .bl (isFrac d)) := by
  refine T.F__law_broken.ok sc__law_broken (fun vs H Q E h => ?_) (fun cdv A outer s H vs Q E hr h => ?_)
  · obtain ⟨v, d, rfl, _⟩ := h
    rfl
  · obtain ⟨v, d, rfl, hD, hok, k⟩ := h
    replace k : ∀ H', Same H H' → Q (.bl (isFrac d)) H' := k
    have hr__law_whole : Room 1 _ := hr.mono (by decide)
    have G__law_whole := ok__law_whole (P := P) (base := base) T
    have hr__law_low : Room 1 _ := hr.mono (by decide)
    have G__law_low := ok__law_low (P := P) (base := base) T
    have no : ∀ (H' : Hp), Same H H' → isFrac d = false → Q (.bl false) H' := fun H' s' e => by
      have q := k H' s'
      rw [e] at q; exact q
    refine ⟨_, (pss_cons (ps_if (PW.pt (pw_or (pt_not (pt_val (pe_callB (call_isiDK (K := K) rfl) (by rfl) T.n_isinstance (by decide +kernel) (pa_cons (pv 0) (pa_cons (pe_bltn (v := .ty "tuple") (u := .type "tuple") (by rfl) T.n_tuple (by decide +kernel) rfl) pa_nil))))) (pw_or (pt_cmpR op_neI (pe_callB call_len_seq (by rfl) T.n_len (by decide +kernel) (pa_cons (pv 0) pa_nil)) pe_int (nomark _)) (pw_or (pt_not (pt_val (pe_call G__law_whole hr__law_whole (by rfl) T.m__law_whole T.F__law_whole.kp T.B__law_whole .nil pass0 (pa_cons (pe_ix ix_tup (pv 0) pe_int (fun _ _ => rfl)) pa_nil)))) (pw_or1 (pt_not (pt_val (pe_call G__law_whole hr__law_whole (by rfl) T.m__law_whole T.F__law_whole.kp T.B__law_whole .nil pass0 (pa_cons (pe_ix ix_tup (pv 0) pe_int (fun _ _ => rfl)) pa_nil))))))))) (pss_one (ps_ret pe_bl)) pss_nil)
      (pss_one (ps_ret (pe_and (pe_cmpR op_ge (pe_ix ix_tup (pv 0) pe_int (fun _ _ => rfl)) pe_int (nomark _)) (pe_one (pe_cmpR (op_eqD hr.units) (pe_call G__law_low hr__law_low (by rfl) T.m__law_low T.F__law_low.kp T.B__law_low .nil pass0 (pa_cons (pe_ix ix_tup (pv 0) pe_int (fun _ _ => rfl)) (pa_cons (pe_ix ix_tup (pv 0) pe_int (fun _ _ => rfl)) pa_nil))) (pv 0) (nomark _))))))), ?_⟩
    refine seq_op fun N hN => ?_
    walk_at "rs"
    refine ⟨v, "tuple", ⟨rfl, rfl⟩, d, hD, by decide, ?_⟩
    refine ite2 (fun e => no H (Same.refl _) (by cases d <;> first | rfl | cases e)) (fun e => ?_)
    obtain ⟨ds, rfl⟩ : ∃ ds, d = .tuple ds := by cases d <;> first | exact ⟨_, rfl⟩ | (exact absurd rfl e)
    clear e
    cases hD with
    | @tup a xs _ hs ha =>
    have lx := dpa_len4 ha
    refine ⟨_, rfl, _, .inr hs, ite2 (fun h2 => no H (Same.refl _) ?_) (fun h2 => ?_)⟩
    · rcases ds with _ | ⟨x, _ | ⟨y, _ | ⟨z, r⟩⟩⟩
      · rfl
      · cases x <;> rfl
      · exact absurd (by rw [lx]; rfl) h2
      · cases x <;> cases y <;> rfl
    cases ha with
    | nil => exact absurd (by simp) h2
    | cons hx ha =>
    cases ha with
    | nil => exact absurd (by simp) h2
    | cons hy ha =>
    cases ha with
    | cons hz ha => exact absurd (by simp; omega) h2
    | nil =>
    rename_i x d1 y d2
    refine ⟨_, rfl, _, hs, _, rfl, x, d1, rfl, hx, fun H1 s1 => ⟨_, rfl, ite2 (fun e => no H1 s1 (by cases d1 <;> first | rfl | cases e)) (fun e1 => ?_)⟩⟩
    refine ⟨_, rfl, _, Same.seqT s1 hs, _, rfl, y, d2, rfl, dp_same s1 hy, fun H2 s2 => ⟨_, rfl, ite2 (fun e => no H2 (Same.trans s1 s2) (by cases d1 <;> cases d2 <;> first | rfl | cases e)) (fun e2 => hN _ _ ?_)⟩⟩
    clear hN N h2
    obtain ⟨p, rfl⟩ : ∃ p, d1 = .int p := by cases d1 <;> first | exact ⟨_, rfl⟩ | exact absurd rfl e1
    obtain ⟨q, rfl⟩ : ∃ q, d2 = .int q := by cases d2 <;> first | exact ⟨_, rfl⟩ | exact absurd rfl e2
    cases hx
    cases hy
    obtain ⟨b1, b2⟩ := okD_two hok
    have s12 := Same.trans s1 s2
    have hs2 := Same.seqT s12 hs
    walk_at "rs"
    refine ⟨_, hs2, _, rfl, q, rfl, ite2 (fun c => ?_) (fun c => ?_)⟩
    · refine ⟨_, hs2, _, rfl, _, hs2, _, rfl, p, q, ⟨rfl, rfl⟩, by omega, pow_le b1 (by decide), pow_le b2 (by decide), fun t H3 s3 h03 h3 => ?_⟩
      refine ⟨.tuple [.int (frP p q), .int (frQ p q)], .tuple [.int p, .int q], .tup (.inl (.inl h3)) (.cons (.int _) (.cons (.int _) .nil)), .tup (Same.seqT s3 hs2) (.cons (.int _) (.cons (.int _) .nil)), shaped2 _ _, shaped2 _ _, ?_⟩
      rw [low_eq c]
      have kk := k H3 (Same.trans s12 s3)
      have e : isFrac (.tuple [.int p, .int q]) = decide (Nat.gcd p.natAbs q.natAbs = 1) := by
        show (decide (1 ≤ q) && _) = _
        rw [decide_eq_true c, Bool.true_and]
      rw [e] at kk
      exact kk
    · exact no H2 s12 (by
        show (decide (1 ≤ q) && _) = false
        rw [decide_eq_false c]; rfl)
theorem ok__law_short (T : Txt w K mg) : FnOk P w K mg base CX0 3 T.a__law_short T.d__law_short ["thing"] (spP K fun d => optS (shortZ d)) := by
  refine T.F__law_short.ok sc__law_short (fun vs H Q E h => ?_) (fun cdv A outer s H vs Q E hr h => ?_)
  · obtain ⟨v, d, rfl, _⟩ := h
    rfl
  · obtain ⟨v, d, rfl, hD, hok, k⟩ := h
    replace k : ∀ H', Same H H' → Q (optS (shortZ d)) H' := k
    have hr__law_broken : Room 2 _ := hr.mono (by decide)
    have G__law_broken := ok__law_broken (P := P) (base := base) T
    refine ⟨_, (pss_cons (ps_if (PW.pt (pw_or (pt_not (pt_val (pe_call G__law_broken hr__law_broken (by rfl) T.m__law_broken T.F__law_broken.kp T.B__law_broken .nil pass0 (pa_cons (pv 0) pa_nil)))) (pw_or (pt_cmpR op_ge (pe_callB call_abs (by rfl) T.n_abs (by decide +kernel) (pa_cons (pe_ix ix_tup (pv 0) pe_int (fun _ _ => rfl)) pa_nil)) (pe_op op_pow pe_int pe_int) (nomark _)) (pw_or1 (pt_cmpR op_ge (pe_ix ix_tup (pv 0) pe_int (fun _ _ => rfl)) (pe_op op_pow pe_int pe_int) (nomark _)))))) (pss_one (ps_ret pe_non)) pss_nil)
      (pss_one (ps_ret (pe_ifExp (pt_cmpR op_eqI (pe_ix ix_tup (pv 0) pe_int (fun _ _ => rfl)) pe_int (nomark _)) (pe_callTy call_str_int (by rfl) T.n_str (by decide +kernel) (pa_cons (pe_ix ix_tup (pv 0) pe_int (fun _ _ => rfl)) pa_nil)) (pe_op op_add_str (pe_op op_add_str (pe_callTy call_str_int (by rfl) T.n_str (by decide +kernel) (pa_cons (pe_ix ix_tup (pv 0) pe_int (fun _ _ => rfl)) pa_nil)) pe_str) (pe_callTy call_str_int (by rfl) T.n_str (by decide +kernel) (pa_cons (pe_ix ix_tup (pv 0) pe_int (fun _ _ => rfl)) pa_nil))))))), ?_⟩
    refine seq_op fun N hN => ?_
    walk_at "rs"
    refine ⟨v, d, rfl, hD, hok, fun H1 s1 => ⟨_, rfl, ite2 (fun e => ?_) (fun e => ?_)⟩⟩
    · have kk := k H1 s1
      rw [shortZ_none e] at kk
      exact kk
    have e' : isFrac d = true := by simpa using e
    obtain ⟨a, p, q, rfl, rfl, hs, q1, hg⟩ := frac_dp (dp_same s1 hD) e'
    have ks := k H1 s1
    have es : shortZ (.tuple [.int p, .int q]) = if isFrac (.tuple [.int p, .int q]) = true ∧ p.natAbs < 10 ^ 60 ∧ q.natAbs < 10 ^ 60 then some (txtF p q) else none := rfl
    rw [es] at ks
    refine ⟨_, rfl, _, hs, _, rfl, p, rfl, ?_⟩
    rw [abs_if]
    refine ⟨by decide, ite2 (fun h1 => ?_) (fun h1 => ?_)⟩
    · rw [if_neg (by omega)] at ks; exact ks
    refine ⟨_, rfl, _, hs, _, rfl, by decide, q, rfl, ite2 (fun h2 => ?_) (fun h2 => hN _ _ ?_)⟩
    · rw [if_neg (by omega)] at ks; exact ks
    clear hN N
    have b1 : p.natAbs < 10 ^ 60 := by omega
    have b2 : q.natAbs < 10 ^ 60 := by omega
    rw [if_pos ⟨e', b1, b2⟩] at ks
    unfold txtF at ks
    walk_at "rs"
    refine ⟨_, hs, _, rfl, q, rfl, ite2 (fun c => ?_) (fun c => ?_)⟩
    · rw [if_pos c] at ks
      exact ⟨_, hs, _, rfl, p, rfl, log60 b1, ks⟩
    · rw [if_neg c] at ks
      have l1 := strI_len b1
      have l2 := strI_len b2
      have l0 : (Str.ofString "/").length = 1 := by decide +kernel
      change (Str.ofString (toString p)).length ≤ 61 at l1
      change (Str.ofString (toString q)).length ≤ 61 at l2
      have big : 200 ≤ sizeLine := by decide
      exact ⟨_, hs, _, rfl, p, rfl, log60 b1, by omega, _, hs, _, rfl, q, rfl, log60 b2, by rw [str_append_len]; omega, ks⟩
end
end LK

set_option Elab.async false
set_option linter.all false
set_option maxRecDepth 100000
namespace LK
open PySem PySem.Spec PyProof.Rows L2
local macro_rules | `(tactic| walk_at "rs") => `(tactic| simp only [cxK, cxNK, tCallZ, tAsg, tOp, rI0, rS0, rB0, rI, rU, tUn, rEq, rNe, rIxL, rIxT, rIxS, rSetL, rSlLU, rSlS, rSlU, rCatL, rCatU, rRepL, rIn, tVar, tC, gName, gSub, tIfS, tTest, tB, tAnd, tOr, tNot, tNotV, tAndV, tOrV, tIf, tCall, tCons, tNil, tCB, tDrop, tRet, tRetN, tNext, tLstU, tTupU, tM0, tM1, tPar, tPar3, tAug, ipI, tBM, tBM0, rAppend, rPop, tBreak, tCont, tChain, tSl, tPart, tNoPart, L2.start, List.map, List.length_cons, List.length_nil, List.replicate, List.cons_append, List.nil_append, List.append_nil, List.getElem?_cons_zero, List.getElem?_cons_succ, List.set_cons_zero, List.set_cons_succ, Option.some.injEq, V.int.injEq, V.ref.injEq, V.str.injEq, V.bl.injEq, exists_eq_left', exists_eq_left, exists_and_left, decide_eq_true_eq, List.cons.injEq, and_true, true_and, scal, Bool.not_eq_true', decide_eq_false_iff_not, Nat.zero_add, Nat.reduceAdd, Nat.reduceSub, reduceCtorEq, false_and, exists_false, false_or, or_false, CPow, CMul, CDiv, Int.reduceToNat, ↓reduceIte, wipe, sw, List.nil_append, List.singleton_append])
local macro_rules | `(tactic| walk_at "st") => `(tactic| (refine seq_op fun N hN => ?_; walk_at "rs"))
local macro_rules | `(tactic| walk_at "sd") => `(tactic| first | assumption | decide | omega)
local macro_rules | `(tactic| walk_at "rd") => `(tactic| repeat (first
  | refine ⟨_, SqL.of (by assumption), ?_⟩ | refine ⟨_, SqL.of upd_same, ?_⟩ | refine ⟨_, .inl (SqL.of (by assumption)), ?_⟩ | refine ⟨_, (by assumption : _ = some (HO.lst _)), ?_⟩ | refine ⟨_, upd_same, ?_⟩
  | refine ⟨_, rfl, ?_⟩ | refine And.intro (by walk_at "sd") ?_))

open TL
def stB (ps : List (List Nat)) (c : Nat) : List (List Nat) := if c = 47 then ps ++ [[]] else ps.dropLast ++ [ps.getLastD [] ++ [c]]
def spB (l : List Nat) : List (List Nat) := l.foldl stB [[]]
def bd : List Nat → List Nat
  | 45 :: r => r
  | l => l
def mF : List Nat → Bool
  | 45 :: _ => true
  | _ => false
theorem spB_snoc (l : List Nat) (c : Nat) : spB (l ++ [c]) = stB (spB l) c := by
  unfold spB
  rw [List.foldl_append]
  rfl
theorem bd_of {l : List Nat} (h : ∀ r, l ≠ 45 :: r) : bd l = l ∧ mF l = false := by
  unfold bd mF
  split
  · exact absurd rfl (h _)
  · exact ⟨rfl, rfl⟩
theorem bd_snoc {l : List Nat} {c : Nat} (h : l ≠ [] ∨ c ≠ 45) : bd (l ++ [c]) = bd l ++ [c] ∧ mF (l ++ [c]) = mF l := by
  cases l with
  | nil =>
    have hc : c ≠ 45 := h.resolve_left (fun z => z rfl)
    obtain ⟨a, b⟩ := bd_of (l := [c]) fun r e => hc (by cases e; rfl)
    exact ⟨a, b⟩
  | cons x r =>
    by_cases e : x = 45
    · subst e; exact ⟨rfl, rfl⟩
    · obtain ⟨a, b⟩ := bd_of (l := (x :: r) ++ [c]) fun r e' => e (by cases e'; rfl)
      obtain ⟨a', b'⟩ := bd_of (l := x :: r) fun r e' => e (by cases e'; rfl)
      rw [a, b, a', b']
      exact ⟨rfl, rfl⟩
theorem bd_back (l : List Nat) : l = (if mF l = true then [45] else []) ++ bd l := by
  by_cases h : ∃ r, l = 45 :: r
  · obtain ⟨r, rfl⟩ := h; rfl
  · obtain ⟨a, b⟩ := bd_of (l := l) fun r e => h ⟨r, e⟩
    rw [a, b]; rfl
theorem stB_ne (ps : List (List Nat)) (c : Nat) : stB ps c ≠ [] := by
  unfold stB
  split <;> simp
theorem joinL_snoc (S : List Nat) : ∀ (ps : List (List Nat)) (q : List Nat), ps ≠ [] → joinL S (ps ++ [q]) = joinL S ps ++ (S ++ q)
  | [], _, h => absurd rfl h
  | [p], q, _ => rfl
  | p :: p2 :: r, q, _ => by
    have ih := joinL_snoc S (p2 :: r) q (by simp)
    show p ++ (S ++ joinL S ((p2 :: r) ++ [q])) = p ++ (S ++ joinL S (p2 :: r)) ++ (S ++ q)
    rw [ih]
    simp [List.append_assoc]
theorem joinL_last (S : List Nat) : ∀ (ps : List (List Nat)) (x c : List Nat), joinL S (ps ++ [x ++ c]) = joinL S (ps ++ [x]) ++ c := by
  intro ps x c
  by_cases h : ps = []
  · subst h; rfl
  · rw [joinL_snoc S ps _ h, joinL_snoc S ps _ h]
    simp [List.append_assoc]
theorem join_st {ps : List (List Nat)} {c : Nat} (h : ps ≠ []) : joinL [47] (stB ps c) = joinL [47] ps ++ [c] := by
  unfold stB
  split
  · rename_i e
    rw [joinL_snoc _ _ _ h, e]; rfl
  · rw [joinL_last]
    congr 2
    have e := List.dropLast_concat_getLast h
    have e2 : ps.getLastD [] = ps.getLast h := by
      rw [List.getLastD_eq_getLast?, List.getLast?_eq_some_getLast h]; rfl
    rw [e2, e]
theorem spB_join (l : List Nat) : spB l ≠ [] ∧ joinL [47] (spB l) = l := by
  have h : ∀ (l : List Nat) (ps : List (List Nat)), ps ≠ [] → l.foldl stB ps ≠ [] ∧ joinL [47] (l.foldl stB ps) = joinL [47] ps ++ l := by
    intro l
    induction l with
    | nil => intro ps h; exact ⟨h, by simp⟩
    | cons c l ih =>
      intro ps h
      obtain ⟨a, b⟩ := ih (stB ps c) (stB_ne _ _)
      refine ⟨a, ?_⟩
      rw [List.foldl_cons, b, join_st h, List.append_assoc]; rfl
  exact h l [[]] (by simp)
theorem fold_free : ∀ (a : List Nat) (ps : List (List Nat)) (x : List Nat), 47 ∉ a → a.foldl stB (ps ++ [x]) = ps ++ [x ++ a]
  | [], ps, x, _ => by simp
  | c :: a, ps, x, h => by
    have hc : c ≠ 47 := fun e => h (by rw [e]; exact List.mem_cons_self)
    have e : stB (ps ++ [x]) c = ps ++ [x ++ [c]] := by
      unfold stB
      rw [if_neg hc]
      simp
    rw [List.foldl_cons, e, fold_free a ps (x ++ [c]) (fun z => h (List.mem_cons_of_mem _ z))]
    simp
theorem spB_one {a : List Nat} (h : 47 ∉ a) : spB a = [a] := by
  have := fold_free a [] [] h
  simpa [spB] using this
theorem spB_two {a b : List Nat} (ha : 47 ∉ a) (hb : 47 ∉ b) : spB (a ++ 47 :: b) = [a, b] := by
  unfold spB
  rw [List.foldl_append]
  have e := spB_one ha
  unfold spB at e
  rw [e, List.foldl_cons]
  have e2 : stB [a] 47 = [a] ++ [[]] := rfl
  rw [e2, fold_free b [a] [] hb]
  rfl
theorem numL_free47 (n : Nat) : 47 ∉ numL n := numL_free (Or.inl (by decide))
theorem numL_free45 (n : Nat) (r : List Nat) : numL n ≠ 45 :: r := fun e => by
  have := numL_digits n 45 (by rw [e]; exact List.mem_cons_self)
  omega
theorem tl_txt (p q : Int) : tl (txtF p q) = (if p < 0 then [45] else []) ++ (numL p.natAbs ++ (if q = 1 then [] else 47 :: tl (strI q))) := by
  unfold txtF
  split
  · rw [tl_strI, List.append_nil]
  · rw [tl_append, tl_append, tl_strI, tl_slash]
    simp [List.append_assoc]
/-- what is known of a text of a fraction -/
structure Facts (z : Str) (p q : Int) : Prop where
  len : z.length ≤ 200
  neg : mF (tl z) = decide (p < 0)
  parts : q = 1 ∧ bd (tl z) = numL p.natAbs ∧ spB (bd (tl z)) = [numL p.natAbs] ∨ q ≠ 1 ∧ bd (tl z) = numL p.natAbs ++ 47 :: numL q.natAbs ∧ spB (bd (tl z)) = [numL p.natAbs, numL q.natAbs]
  hp : p.natAbs < 10 ^ 60
  hq : q.natAbs < 10 ^ 60
  frac : 1 ≤ q ∧ Nat.gcd p.natAbs q.natAbs = 1
theorem facts_of {z : Str} {p q : Int} (h : readZ z = some (p, q)) : Facts z p q := by
  obtain ⟨hf, hp, hq, rfl⟩ := readZ_iff.mp h
  have hf2 := isFrac_iff.mp hf
  have e := tl_txt p q
  have eq : tl (strI q) = numL q.natAbs := by rw [tl_strI, if_neg (by omega), List.nil_append]
  rw [eq] at e
  have l1 := numL_len (by decide : 0 < 60) hp
  have l2 := numL_len (by decide : 0 < 60) hq
  have h2 : bd (tl (txtF p q)) = numL p.natAbs ++ (if q = 1 then [] else 47 :: numL q.natAbs) ∧ mF (tl (txtF p q)) = decide (p < 0) := by
    rw [e]
    by_cases c : p < 0
    · rw [if_pos c, decide_eq_true c]; exact ⟨rfl, rfl⟩
    · rw [if_neg c, decide_eq_false c, List.nil_append]
      refine bd_of fun r er => ?_
      cases en : numL p.natAbs with
      | nil => exact numL_ne _ en
      | cons x r2 =>
        rw [en] at er
        cases er
        exact numL_free45 _ _ en
  refine ⟨?_, h2.2, ?_, hp, hq, hf2⟩
  · rw [len_tl, e]
    simp only [List.length_append]
    split <;> split <;> simp <;> omega
  · by_cases c : q = 1
    · rw [h2.1, if_pos c, List.append_nil]
      exact .inl ⟨c, rfl, spB_one (numL_free47 _)⟩
    · rw [h2.1, if_neg c]
      exact .inr ⟨c, rfl, spB_two (numL_free47 _) (numL_free47 _)⟩
theorem numL_all {n : Nat} {c : Nat} (h : c ∈ numL n) : c = 47 ∨ inS c FIGs = true := .inr (FIG_in (numL_digits n c h))
theorem facts_chars {z : Str} {p q : Int} (F : Facts z p q) : ∀ c ∈ bd (tl z), c = 47 ∨ inS c FIGs = true := by
  intro c hc
  rcases F.parts with ⟨_, e, _⟩ | ⟨_, e, _⟩
  · rw [e] at hc; exact numL_all hc
  · rw [e] at hc
    rcases List.mem_append.mp hc with h | h
    · exact numL_all h
    · rcases List.mem_cons.mp h with h | h
      · exact .inl h
      · exact numL_all h
theorem numL_sizes {n : Nat} (h : n < 10 ^ 60) : 1 ≤ (numL n).length ∧ (numL n).length ≤ 60 := by
  have := numL_len (by decide : 0 < 60) h
  have ne := numL_ne n
  cases e : numL n with
  | nil => exact absurd e ne
  | cons x r => rw [e] at this; simp at this ⊢; omega
theorem numL_zero {n : Nat} {r : List Nat} (h : numL n = 48 :: r) : n = 0 ∧ r = [] := by
  rcases Nat.eq_zero_or_pos n with z | z
  · subst z
    rw [numL_lt (by decide)] at h
    cases h
    exact ⟨rfl, rfl⟩
  · obtain ⟨c, r2, e, hc⟩ := numL_lead n z
    rw [e] at h
    cases h
    exact absurd rfl hc
def goodL (ps : List (List Nat)) : Prop := ps.length ≤ 2 ∧ ∀ p ∈ ps, 1 ≤ p.length ∧ p.length ≤ 60
def goodZ (m : Bool) (ps : List (List Nat)) : Prop := (∀ p ∈ ps, p.head? = some 48 → p = [48]) ∧ ¬ (m = true ∧ ps.head? = some [48])
theorem facts_good {z : Str} {p q : Int} (F : Facts z p q) : goodL (spB (bd (tl z))) ∧ goodZ (mF (tl z)) (spB (bd (tl z))) := by
  have zero : ∀ n : Nat, (numL n).head? = some 48 → numL n = [48] := fun n h => by
    cases e : numL n with
    | nil => exact absurd e (numL_ne n)
    | cons x r =>
      rw [e] at h
      cases h
      rw [(numL_zero e).2]
  have hd : ∀ r, mF (tl z) = true ∧ (numL p.natAbs :: r).head? = some [48] → False := fun r ⟨h1, h2⟩ => by
    rw [F.neg] at h1
    have := of_decide_eq_true h1
    cases h2' : numL p.natAbs with
    | nil => exact numL_ne _ h2'
    | cons x s =>
      rw [h2'] at h2
      cases h2
      have := (numL_zero h2').1
      omega
  rcases F.parts with ⟨_, _, e⟩ | ⟨_, _, e⟩
  · rw [e]
    refine ⟨⟨by simp, fun x hx => ?_⟩, fun x hx => ?_, hd _⟩
    · obtain rfl := List.mem_singleton.mp hx
      exact numL_sizes F.hp
    · obtain rfl := List.mem_singleton.mp hx
      exact zero _
  · rw [e]
    refine ⟨⟨by simp, fun x hx => ?_⟩, fun x hx => ?_, hd _⟩
    · simp only [List.mem_cons, List.mem_nil_iff, or_false] at hx
      rcases hx with rfl | rfl
      · exact numL_sizes F.hp
      · exact numL_sizes F.hq
    · simp only [List.mem_cons, List.mem_nil_iff, or_false] at hx
      rcases hx with rfl | rfl <;> exact zero _
def sgn (m : Bool) (n : Nat) : Int := if m = true then -(n : Int) else (n : Int)
theorem none_of {z : Str} {X : Prop} (h : ∀ p q, Facts z p q → X) (n : ¬ X) : readZ z = none := by
  cases e : readZ z with
  | none => rfl
  | some r => exact absurd (h r.1 r.2 (facts_of e)) n
theorem sgn_abs (m : Bool) (n : Nat) : (sgn m n).natAbs = n := by
  unfold sgn; split <;> omega
/-- digits that are a number's text -/
theorem strI_of {m : Bool} {a : List Nat} (ha : NumText.AllDigits a) (ne : a ≠ []) (hz : a.head? = some 48 → a = [48]) (hm : ¬ (m = true ∧ a = [48])) : tl (strI (sgn m (NumText.digitsVal a))) = (if m = true then [45] else []) ++ a := by
  have back := numL_back a.length a rfl ha ne fun r e => by
    have := hz (by rw [e]; rfl)
    rw [e] at this
    cases this; rfl
  rw [tl_strI, sgn_abs, back]
  congr 1
  by_cases c : m = true
  · rw [if_pos c]
    refine if_pos ?_
    unfold sgn
    rw [if_pos c]
    have : NumText.digitsVal a ≠ 0 := fun z => by
      rw [z, numL_lt (by decide)] at back
      exact hm ⟨c, back.symm⟩
    omega
  · rw [if_neg c]
    refine if_neg ?_
    unfold sgn
    rw [if_neg c]
    omega
theorem spB_parts (l : List Nat) : ∀ p ∈ spB l, 47 ∉ p ∧ ∀ c ∈ p, c ∈ l := by
  have h : ∀ (l : List Nat) (ps : List (List Nat)) (M : List Nat), (∀ p ∈ ps, 47 ∉ p ∧ ∀ c ∈ p, c ∈ M) → ps ≠ [] → ∀ p ∈ l.foldl stB ps, 47 ∉ p ∧ ∀ c ∈ p, c ∈ M ++ l := by
    intro l
    induction l with
    | nil => intro ps M h _ p hp; rw [List.append_nil]; exact h p hp
    | cons c l ih =>
      intro ps M h ne p hp
      have := ih (stB ps c) (M ++ [c]) (fun x hx => ?_) (stB_ne _ _) p hp
      · rw [List.append_assoc] at this; exact this
      · unfold stB at hx
        split at hx
        · rcases List.mem_append.mp hx with hx | hx
          · exact ⟨(h x hx).1, fun d hd => List.mem_append_left _ ((h x hx).2 d hd)⟩
          · obtain rfl := List.mem_singleton.mp hx
            exact ⟨by simp, fun d hd => absurd hd (by simp)⟩
        · rename_i hc
          rcases List.mem_append.mp hx with hx | hx
          · have hx := List.dropLast_subset _ hx
            exact ⟨(h x hx).1, fun d hd => List.mem_append_left _ ((h x hx).2 d hd)⟩
          · obtain rfl := List.mem_singleton.mp hx
            have e2 : ps.getLastD [] = ps.getLast ne := by
              rw [List.getLastD_eq_getLast?, List.getLast?_eq_some_getLast ne]; rfl
            rw [e2]
            obtain ⟨a, b⟩ := h _ (List.getLast_mem ne)
            refine ⟨fun z => ?_, fun d hd => ?_⟩
            · rcases List.mem_append.mp z with z | z
              · exact a z
              · exact hc (List.mem_singleton.mp z).symm
            · rcases List.mem_append.mp hd with hd | hd
              · exact List.mem_append_left _ (b d hd)
              · exact List.mem_append_right _ hd
  intro p hp
  have := h l [[]] [] (fun x hx => by obtain rfl := List.mem_singleton.mp hx; exact ⟨by simp, fun d hd => absurd hd (by simp)⟩) (by simp) p hp
  exact this
theorem parts_digits {l : List Nat} (hc : ∀ c ∈ l, c = 47 ∨ inS c FIGs = true) : ∀ p ∈ spB l, NumText.AllDigits p := fun p hp c h => by
  obtain ⟨a, b⟩ := spB_parts l p hp
  rcases hc c (b c h) with e | e
  · subst e; exact absurd h a
  · exact FIG_digit e
theorem one_part {z : Str} {a : List Nat} (hc : ∀ c ∈ bd (tl z), c = 47 ∨ inS c FIGs = true) (e : spB (bd (tl z)) = [a]) (hl : goodL [a]) (hz : goodZ (mF (tl z)) [a]) : readZ z = some (sgn (mF (tl z)) (NumText.digitsVal a), 1) := by
  have ha : NumText.AllDigits a := parts_digits hc a (by rw [e]; exact List.mem_cons_self)
  obtain ⟨l1, l2⟩ := hl.2 a List.mem_cons_self
  have ne : a ≠ [] := fun z => by rw [z] at l1; simp at l1
  have j := (spB_join (bd (tl z))).2
  rw [e] at j
  have j2 : a = bd (tl z) := j
  have b := val_lt60 ha l2
  refine readZ_iff.mpr ⟨isFrac_iff.mpr ⟨by decide, by simp⟩, by rw [sgn_abs]; exact b, by decide, ext_tl ?_⟩
  have q := strI_of (m := mF (tl z)) ha ne (hz.1 a List.mem_cons_self) fun ⟨h1, h2⟩ => hz.2 ⟨h1, by rw [h2]; rfl⟩
  have e3 : txtF (sgn (mF (tl z)) (NumText.digitsVal a)) 1 = strI (sgn (mF (tl z)) (NumText.digitsVal a)) := if_pos rfl
  rw [e3, q]
  conv => lhs; rw [bd_back (tl z), ← j2]
theorem two_parts {z : Str} {a b : List Nat} (hc : ∀ c ∈ bd (tl z), c = 47 ∨ inS c FIGs = true) (e : spB (bd (tl z)) = [a, b]) (hl : goodL [a, b]) (hz : goodZ (mF (tl z)) [a, b]) :
    readZ z = if 2 ≤ NumText.digitsVal b ∧ Nat.gcd (NumText.digitsVal a) (NumText.digitsVal b) = 1 then some (sgn (mF (tl z)) (NumText.digitsVal a), (NumText.digitsVal b : Int)) else none := by
  have ha : NumText.AllDigits a := parts_digits hc a (by rw [e]; exact List.mem_cons_self)
  have hb : NumText.AllDigits b := parts_digits hc b (by rw [e]; simp)
  obtain ⟨l1, l2⟩ := hl.2 a List.mem_cons_self
  obtain ⟨l3, l4⟩ := hl.2 b (by simp)
  have na : a ≠ [] := fun z => by rw [z] at l1; simp at l1
  have nb : b ≠ [] := fun z => by rw [z] at l3; simp at l3
  have j := (spB_join (bd (tl z))).2
  rw [e] at j
  have j2 : a ++ ([47] ++ b) = bd (tl z) := j
  have v1 := val_lt60 ha l2
  have v2 := val_lt60 hb l4
  split
  · rename_i c
    refine readZ_iff.mpr ⟨isFrac_iff.mpr ⟨by omega, by rw [sgn_abs]; exact c.2⟩, by rw [sgn_abs]; exact v1, v2, ext_tl ?_⟩
    have q1 := strI_of (m := mF (tl z)) ha na (hz.1 a List.mem_cons_self) fun ⟨h1, h2⟩ => hz.2 ⟨h1, by rw [h2]; rfl⟩
    have q2 := strI_of (m := false) hb nb (hz.1 b (by simp)) fun ⟨h1, _⟩ => by cases h1
    have e3 : txtF (sgn (mF (tl z)) (NumText.digitsVal a)) (NumText.digitsVal b : Int) = strI (sgn (mF (tl z)) (NumText.digitsVal a)) ++ "/" ++ strI (NumText.digitsVal b : Int) := if_neg (by omega)
    have e4 : sgn false (NumText.digitsVal b) = (NumText.digitsVal b : Int) := rfl
    rw [e4] at q2
    rw [e3, tl_append, tl_append, q1, q2, tl_slash]
    conv => lhs; rw [bd_back (tl z), ← j2]
    simp [List.append_assoc]
  · rename_i c
    refine none_of (X := 2 ≤ NumText.digitsVal b ∧ Nat.gcd (NumText.digitsVal a) (NumText.digitsVal b) = 1) (fun p q F => ?_) c
    rcases F.parts with ⟨_, _, h⟩ | ⟨q1, _, h⟩
    · rw [e] at h; simp at h
    · rw [e] at h
      have h1 : a = numL p.natAbs := by injection h
      have h2 : b = numL q.natAbs := by injection h with _ h; injection h
      rw [h1, h2, numL_val, numL_val]
      have := F.frac.1
      exact ⟨by omega, F.frac.2⟩
end LK

set_option Elab.async false
set_option linter.all false
set_option maxRecDepth 100000
namespace LK
open PySem PySem.Spec PyProof.Rows L2
local macro_rules | `(tactic| walk_at "rs") => `(tactic| simp only [cxK, cxNK, tCallZ, tAsg, tOp, rI0, rS0, rB0, rI, rU, tUn, rEq, rNe, rIxL, rIxT, rIxS, rSetL, rSlLU, rSlS, rSlU, rCatL, rCatU, rRepL, rIn, tVar, tC, gName, gSub, tIfS, tTest, tB, tAnd, tOr, tNot, tNotV, tAndV, tOrV, tIf, tCall, tCons, tNil, tCB, tDrop, tRet, tRetN, tNext, tLstU, tTupU, tM0, tM1, tPar, tPar3, tAug, ipI, tBM, tBM0, rAppend, rPop, tBreak, tCont, tChain, tSl, tPart, tNoPart, L2.start, List.map, List.length_cons, List.length_nil, List.replicate, List.cons_append, List.nil_append, List.append_nil, List.getElem?_cons_zero, List.getElem?_cons_succ, List.set_cons_zero, List.set_cons_succ, Option.some.injEq, V.int.injEq, V.ref.injEq, V.str.injEq, V.bl.injEq, exists_eq_left', exists_eq_left, exists_and_left, decide_eq_true_eq, List.cons.injEq, and_true, true_and, scal, Bool.not_eq_true', decide_eq_false_iff_not, Nat.zero_add, Nat.reduceAdd, Nat.reduceSub, reduceCtorEq, false_and, exists_false, false_or, or_false, CPow, CMul, CDiv, Int.reduceToNat, ↓reduceIte, wipe, sw, List.nil_append, List.singleton_append])
local macro_rules | `(tactic| walk_at "st") => `(tactic| (refine seq_op fun N hN => ?_; walk_at "rs"))
local macro_rules | `(tactic| walk_at "sd") => `(tactic| first | assumption | decide | omega)
local macro_rules | `(tactic| walk_at "rd") => `(tactic| repeat (first
  | refine ⟨_, SqL.of (by assumption), ?_⟩ | refine ⟨_, SqL.of upd_same, ?_⟩ | refine ⟨_, .inl (SqL.of (by assumption)), ?_⟩ | refine ⟨_, (by assumption : _ = some (HO.lst _)), ?_⟩ | refine ⟨_, upd_same, ?_⟩
  | refine ⟨_, rfl, ?_⟩ | refine And.intro (by walk_at "sd") ?_))

open TL
section
variable {P : Program} {w : World} {K : PySem.W.Frag} {mg : Str → Option Value} {base : Heap}
def mkS (l : List Nat) : Str := ⟨l.toArray⟩
def psV (ps : List (List Nat)) : List V := ps.map fun l => V.str (mkS l)
theorem same_updN {H H2 : Hp} {t : Addr} {o : HO} (s : Same H H2) (n : H t = none) : Same H (L2.upd H2 t o) := fun a u e => by rw [upd_ne (ne_of_none e n)]; exact s _ _ e
theorem bd_sub (L : List Nat) (m : Nat) : ∀ c ∈ bd (L.take m), c ∈ bd L := by
  intro c h
  cases L with
  | nil => rw [List.take_nil] at h; exact h
  | cons x r =>
    cases m with
    | zero => rw [List.take_zero] at h; exact absurd h (by simp [bd])
    | succ m =>
      rw [List.take_succ_cons] at h
      by_cases e : x = 45
      · subst e
        have h2 : c ∈ r.take m := h
        exact List.mem_of_mem_take h2
      · rw [(bd_of (l := x :: r.take m) fun s z => e (by cases z; rfl)).1] at h
        rw [(bd_of (l := x :: r) fun s z => e (by cases z; rfl)).1]
        rcases List.mem_cons.mp h with h | h
        · rw [h]; exact List.mem_cons_self
        · exact List.mem_cons_of_mem _ (List.mem_of_mem_take h)
theorem one_eq {c k : Nat} {s : Str} (h : tl s = [k]) : ((⟨#[c]⟩ : Str) = s) ↔ c = k := by
  constructor
  · intro e
    rw [← e] at h
    have h2 : [c] = [k] := h
    cases h2; rfl
  · intro e
    refine ext_tl ?_
    rw [h, e] <;> rfl
theorem psV_snoc (ps : List (List Nat)) (l : List Nat) : psV (ps ++ [l]) = psV ps ++ [V.str (mkS l)] := by
  unfold psV
  rw [List.map_append]; rfl
theorem last_of {ps : List (List Nat)} (h : ps ≠ []) : ∃ init last, ps = init ++ [last] ∧ ∀ c, c ≠ 47 → stB ps c = init ++ [last ++ [c]] := by
  refine ⟨ps.dropLast, ps.getLast h, (List.dropLast_concat_getLast h).symm, fun c hc => ?_⟩
  unfold stB
  rw [if_neg hc]
  have e2 : ps.getLastD [] = ps.getLast h := by
    rw [List.getLastD_eq_getLast?, List.getLast?_eq_some_getLast h]; rfl
  rw [e2]
theorem mkS_snoc (l : List Nat) (c : Nat) : mkS l ++ (⟨#[c]⟩ : Str) = mkS (l ++ [c]) := by
  refine ext_tl ?_
  rw [tl_append]; rfl
theorem ixN_last (n : Nat) : ixN (n + 1) (-1) = some n := by
  unfold ixN
  rw [if_neg (by decide), if_pos (by omega)]
  congr 1
  omega
theorem len_parts (l : List Nat) : ∀ p ∈ spB l, p.length ≤ l.length := by
  intro p hp
  have j := (spB_join l).2
  have : ∀ (ps : List (List Nat)) (p : List Nat), p ∈ ps → p.length ≤ (joinL [47] ps).length := by
    intro ps
    induction ps with
    | nil => intro p h; simp at h
    | cons q r ih =>
      intro p h
      cases r with
      | nil =>
        obtain rfl := List.mem_singleton.mp h
        exact Nat.le_refl _
      | cons q2 r =>
        show p.length ≤ (q ++ ([47] ++ joinL [47] (q2 :: r))).length
        rw [List.length_append, List.length_append]
        rcases List.mem_cons.mp h with h | h
        · rw [h]; omega
        · have := ih p h; omega
  have := this _ p hp
  rw [j] at this
  exact this
theorem bd_len (l : List Nat) : (bd l).length ≤ l.length := by
  by_cases h : ∃ r, l = 45 :: r
  · obtain ⟨r, rfl⟩ := h
    show r.length ≤ _
    simp
  · rw [(bd_of (l := l) fun r e => h ⟨r, e⟩).1]
    exact Nat.le_refl _
theorem spB_len (l : List Nat) : (spB l).length ≤ l.length + 1 := by
  have h : ∀ (l : List Nat) (ps : List (List Nat)), ps ≠ [] → (l.foldl stB ps).length ≤ ps.length + l.length := by
    intro l
    induction l with
    | nil => intro ps _; simp
    | cons c l ih =>
      intro ps hp
      rw [List.foldl_cons, List.length_cons]
      have := ih (stB ps c) (stB_ne _ _)
      have : (stB ps c).length ≤ ps.length + 1 := by
        unfold stB
        split
        · simp
        · have : 0 < ps.length := List.length_pos_iff.mpr hp
          simp only [List.length_append, List.length_dropLast, List.length_cons, List.length_nil]
          omega
      omega
  have := h l [[]] (by simp)
  simpa [Nat.add_comm, spB] using this
theorem take_snoc {L : List Nat} {i c : Nat} (h : L[i]? = some c) : L.take (i + 1) = L.take i ++ [c] := by
  rw [List.take_succ, h]; rfl
theorem lc_filt {J : It} {n : Nat} {G : Hp → Prop} {Y : Nat → Hp → V → Hp → Prop} (w : Walk J n G Y) {g : TG} {tt : TT} {te : TE} {vs : List Nat} {σ : L2.St} {H1 : Hp} {D : Addr} {Qd : Hp → Prop} (p : Nat → Bool) (y : Nat → V) (hD : H1 D = none) (hn : n ≤ 1000000)
    (hG : ∀ H, Same H1 H → G H)
    (hs : ∀ i x H H', i < n → Same H1 H → Y i H x H' → g x (wipe σ vs) H' fun σ2 H2 => Same H H2 ∧ wipe σ2 vs = wipe σ vs ∧ (∀ Qt : Bool → Hp → Prop, (∀ H3, Same H2 H3 → Qt (p i) H3) → tt σ2 H2 Qt) ∧ ∀ H3, Same H2 H3 → ∀ Q2 : VK, (∀ H4, Same H3 H4 → Q2 (y i) H4) → te σ2 H3 Q2)
    (gm : ∀ x σ0 H0 Q0 Q1, (∀ σ2 H2, Q0 σ2 H2 → Q1 σ2 H2) → g x σ0 H0 Q0 → g x σ0 H0 Q1)
    (hq : ∀ H', Same H1 H' → H' D = some (.lst (((List.range n).filter p).map y)) → Qd H') :
    ∃ W : Nat → Nat → Hp → Prop, (∃ m, W 0 m (L2.upd H1 D (.lst []))) ∧ ∀ i m H, W i m H →
      (J.stop i H ∧ Qd H) ∨ (J.go i H ∧ ∃ Nx : Hp → Prop, (∀ H', Nx H' → ∃ m', m' < m ∧ W (i + 1) m' H') ∧ ∀ x H', J.yld i H x H' → g x (wipe σ vs) H' fun σ2 H2 => wipe σ2 vs = wipe σ vs ∧ tt σ2 H2 fun b H3 =>
        if b = true then te σ2 H3 fun y H4 => ∃ acc, H4 D = some (.lst acc) ∧ acc.length < sizeLine ∧ Nx (L2.upd H4 D (.lst (acc ++ [y]))) else Nx H3) := by
  have up : ∀ {H : Hp} {o : HO}, Same H1 H → Same H1 (L2.upd H D o) := fun s a u e => by
    rw [upd_ne (ne_of_none e hD)]; exact s _ _ e
  refine lc_it w (fun i H => Same H1 H ∧ H D = some (.lst (((List.range i).filter p).map y))) ⟨up (Same.refl _), upd_same⟩ (fun i H _ h => hG H h.1) (fun i x H H' hi ⟨s1, h1⟩ hY => ?_) (fun H h => hq H h.1 h.2)
  refine gm _ _ _ _ _ (fun σ2 H2 ⟨s2, e2, kt, ke⟩ => ⟨e2, kt _ fun H3 s3 => ?_⟩) (hs i x H H' hi s1 hY)
  have hD3 := s3 _ _ (s2 _ _ h1)
  have s13 := Same.trans s1 (Same.trans s2 s3)
  by_cases c : p i = true
  · rw [if_pos c]
    refine ke H3 s3 _ fun H4 s4 => ⟨_, s4 _ _ hD3, ?_, up (Same.trans s13 s4), ?_⟩
    · rw [List.length_map]
      exact Nat.lt_of_lt_of_le (Nat.lt_of_le_of_lt (List.length_filter_le _ _) (by rw [List.length_range]; exact Nat.lt_of_lt_of_le hi hn)) (by decide)
    · rw [upd_same, List.range_succ, List.filter_append, List.map_append]
      simp [c]
  · rw [if_neg c]
    refine ⟨s13, ?_⟩
    rw [hD3, List.range_succ, List.filter_append]
    simp [c]
theorem getD_range (ps : List (List Nat)) : (List.range ps.length).map (fun k => ps.getD k []) = ps := by
  refine List.ext_getElem? fun i => ?_
  rw [List.getElem?_map]
  by_cases h : i < ps.length
  · rw [List.getElem?_range h, List.getElem?_eq_getElem h]
    simp [List.getD_eq_getElem?_getD, List.getElem?_eq_getElem h]
  · rw [List.getElem?_eq_none (by simpa using h), List.getElem?_eq_none (by omega)]
    rfl
/-- [l for l in ps if p(l)] -/
theorem lc_parts {K : PySem.W.Frag} {a : Addr} {ps : List (List Nat)} (p : List Nat → Bool) {tt : TT} {i : Nat} {σ : L2.St} {H1 : Hp} {D : Addr} {Qd : Hp → Prop} (ha : H1 a = some (.lst (psV ps))) (hD : H1 D = none) (hn : ps.length ≤ 1000000) (hi : i < σ.length)
    (hs : ∀ l H, l ∈ ps → Same H1 H → ∀ Qt : Bool → Hp → Prop, (∀ H3, Same H H3 → Qt (p l) H3) → tt ((wipe σ [i]).set i (some (.str (mkS l)))) H Qt)
    (hq : ∀ H', Same H1 H' → H' D = some (.lst (psV (ps.filter p))) → Qd H') :
    ∃ W : Nat → Nat → Hp → Prop, (∃ m, W 0 m (L2.upd H1 D (.lst []))) ∧ ∀ i' m H, W i' m H →
      ((Itl K a).stop i' H ∧ Qd H) ∨ ((Itl K a).go i' H ∧ ∃ Nx : Hp → Prop, (∀ H', Nx H' → ∃ m', m' < m ∧ W (i' + 1) m' H') ∧ ∀ x H', (Itl K a).yld i' H x H' → gName i x (wipe σ [i]) H' fun σ2 H2 => wipe σ2 [i] = wipe σ [i] ∧ tt σ2 H2 fun b H3 =>
        if b = true then tVar i σ2 H3 fun y H4 => ∃ acc, H4 D = some (.lst acc) ∧ acc.length < sizeLine ∧ Nx (L2.upd H4 D (.lst (acc ++ [y]))) else Nx H3) := by
  have e : (((List.range ps.length).filter (fun k => p (ps.getD k []))).map fun k => V.str (mkS (ps.getD k []))) = psV (ps.filter p) := by
    conv => rhs; rw [← getD_range ps]
    unfold psV
    rw [List.filter_map, List.map_map]
    rfl
  have ll : (psV ps).length = ps.length := by unfold psV; rw [List.length_map]
  refine lc_filt (ll ▸ walk_list (K := K) (a := a) (xs := psV ps)) (fun k => p (ps.getD k [])) (fun k => V.str (mkS (ps.getD k []))) hD hn (fun H s => SqL.of (s _ _ ha)) (fun k x H H' hk s1 y => ?_) (fun x σ0 H0 Q0 Q1 h q => h _ _ q) (fun H' s h => hq H' s (by rw [← e]; exact h))
  obtain ⟨rfl, hx⟩ := y
  have hk2 : k < ps.length := hk
  have eg : ps.getD k [] = ps[k] := by rw [List.getD_eq_getElem?_getD, List.getElem?_eq_getElem hk2]; rfl
  have ex : x = V.str (mkS ps[k]) := by
    have h2 : (psV ps)[k]? = some x := hx
    unfold psV at h2
    rw [List.getElem?_map, List.getElem?_eq_getElem hk2] at h2
    exact (Option.some.inj h2).symm
  subst ex
  have hl : (wipe σ [i]).length = σ.length := by
    show (σ.set i none).length = _
    rw [List.length_set]
  refine ⟨Same.refl _, ?_, fun Qt ht => hs ps[k] H' (List.getElem_mem hk2) s1 Qt (by rw [eg] at ht; exact ht), fun H3 s3 Q2 h2 => ⟨_, ?_, by rw [eg] at h2; exact h2 H3 (Same.refl _)⟩⟩
  · show ((σ.set i none).set i (some _)).set i none = σ.set i none
    rw [List.set_set, List.set_set]
  · exact List.getElem?_set_self (by rw [hl]; exact hi)
theorem lay_digits {l : List Nat} (h : NumText.AllDigits l) : PyData.canLay0 (.str (mkS l)) = true := by
  show (mkS l).cps.all (· < 0x110000) = true
  rw [← Array.all_toList]
  refine List.all_eq_true.mpr fun c hc => decide_eq_true ?_
  have h2 : c ∈ l := hc
  have := h c h2
  omega
theorem strs_lay : ∀ {ps : List (List Nat)}, (∀ l ∈ ps, NumText.AllDigits l) → PyData.canLayAll0 (ps.map fun l => PyData.str (mkS l)) = true
  | [], _ => rfl
  | z :: zs, h => by
    show (PyData.canLay0 (.str (mkS z)) && PyData.canLayAll0 (zs.map fun l => PyData.str (mkS l))) = true
    rw [lay_digits (h z List.mem_cons_self), strs_lay fun y hy => h y (List.mem_cons_of_mem _ hy)]; rfl
theorem strs_depth : ∀ ps : List (List Nat), PyData.depthAll (ps.map fun l => PyData.str (mkS l)) = 0
  | [] => rfl
  | z :: zs => by
    show max (PyData.depth (.str (mkS z))) (PyData.depthAll (zs.map fun l => PyData.str (mkS l))) = 0
    rw [strs_depth zs]; rfl
theorem strs_shaped {ps : List (List Nat)} (h : ∀ l ∈ ps, NumText.AllDigits l) : SeqAt.shaped (.list (ps.map fun l => PyData.str (mkS l))) = true := by
  unfold SeqAt.shaped
  rw [Bool.and_eq_true]
  refine ⟨strs_lay h, decide_eq_true ?_⟩
  show PyData.depthAll (ps.map fun l => PyData.str (mkS l)) + 1 ≤ 64
  rw [strs_depth]; decide
theorem strs_dpa {K : PySem.W.Frag} {H : Hp} : ∀ (ps : List (List Nat)), DpAll K H (psV ps) (ps.map fun l => PyData.str (mkS l))
  | [] => .nil
  | z :: zs => .cons (.str (mkS z)) (strs_dpa zs)
theorem eqv_nil (ps : List (List Nat)) : PyData.eqv (.list (ps.map fun l => PyData.str (mkS l))) (.list []) = ps.isEmpty := by
  cases ps <;> simp [PyData.eqv, PyData.eqvAll]
/-- xs != [] of the parts -/
theorem ne_nil {K : PySem.W.Frag} {H : Hp} {D q : Addr} {ps : List (List Nat)} {Q : VK} (h : H D = some (.lst (psV ps))) (hq : H q = some (.lst [])) (hd : ∀ l ∈ ps, NumText.AllDigits l) (k : Q (.bl (!ps.isEmpty)) H) : rNeD K (.ref D) (.ref q) H Q := by
  refine ⟨_, _, .lst (SqL.of h) (strs_dpa ps), .lst (SqL.of hq) .nil, strs_shaped hd, by decide +kernel, ?_⟩
  rw [eqv_nil]
  exact k
theorem ne_low {K : PySem.W.Frag} {H : Hp} {t1 p5 : Addr} {k q : Int} {Q : VK} (h1 : H t1 = some (.tup [.int (frP k q), .int (frQ k q)])) (h2 : SqT K H p5 [.int k, .int q]) (q1 : 1 ≤ q) (hq : Q (.bl (!decide (Nat.gcd k.natAbs q.natAbs = 1))) H) : rNeD K (.ref t1) (.ref p5) H Q := by
  refine ⟨.tuple [.int (frP k q), .int (frQ k q)], .tuple [.int k, .int q], .tup (.inl (.inl h1)) (.cons (.int _) (.cons (.int _) .nil)), .tup h2 (.cons (.int _) (.cons (.int _) .nil)), shaped2 _ _, shaped2 _ _, ?_⟩
  rw [low_eq q1]
  exact hq
theorem ok__law_read (T : Txt w K mg) : FnOk P w K mg base CX0 2 T.a__law_read T.d__law_read ["word"] (sp_read K) := by
  refine T.F__law_read.ok sc__law_read (fun vs H Q E h => ?_) (fun cdv A outer s H vs Q E hr h => ?_)
  · obtain ⟨v, d, rfl, _⟩ := h
    rfl
  · obtain ⟨v, d, rfl, hd, hok, k0, k1⟩ := h
    have hr__law_low : Room 1 _ := hr.mono (by decide)
    have G__law_low := ok__law_low (P := P) (base := base) T
    refine ⟨_, (pss_cons (ps_if (pt_not (pt_val (pe_callB (call_isiDK (K := K) rfl) (by rfl) T.n_isinstance (by decide +kernel) (pa_cons (pv 0) (pa_cons (pe_bltn (v := .ty "str") (u := .type "str") (by rfl) T.n_str (by decide +kernel) rfl) pa_nil))))) (pss_one (ps_ret pe_non)) pss_nil)
      (pss_cons (ps_par (i := 1) (j := 2) (by rfl) sc__law_read.nd rfl rfl (by decide) rfl rfl (pa_cons pe_bl (pa_cons (pe_lstU (pa_cons pe_str pa_nil)) pa_nil)) (by rfl))
      (pss_cons (ps_for PassesOwn.never rfl (pi_range1 (by rfl) T.n_range (pa_cons (pe_callB (call_min2 rfl) (by rfl) T.n_min (by decide +kernel) (pa_cons (pe_callB call_len_str (by rfl) T.n_len (by decide +kernel) (pa_cons (pv 0) pa_nil)) (pa_cons pe_int pa_nil))) pa_nil)) (pg_name (i := 3) sc__law_read.nd rfl (Or.inl rfl)) (pss_one (ps_if (PW.pt (pw_and (pt_cmpR op_eqS (pe_ix ix_str (pv 0) (pv 3) (fun _ _ => rfl)) pe_str (nomark _)) (pw_and1 (pt_cmpR op_eqI (pv 3) pe_int (nomark _))))) (pss_one (ps_set (i := 1) sc__law_read.nd rfl (Or.inl rfl) pe_bl)) (pss_one (ps_if (pt_cmpR op_eqS (pe_ix ix_str (pv 0) (pv 3) (fun _ _ => rfl)) pe_str (nomark _)) (pss_one (ps_expr (pe_bm PySem.F.plainAttrs_list PySem.F.slot_list_append PySem.F.type_list_append mt_append (pv 2) (pa_cons pe_str pa_nil)))) (pss_one (ps_if (pt_cmpR op_in_sign (pe_ix ix_str (pv 0) (pv 3) (fun _ _ => rfl)) pe_str (by rfl)) (pss_one (ps_asg (pe_op op_add_str (pe_ix ix_list (pv 2) (pe_un un_neg pe_int) (fun _ _ => rfl)) (pe_ix ix_str (pv 0) (pv 3) (fun _ _ => rfl))) (pg_sub (pv 2) (pe_un un_neg pe_int) set_list))) (pss_one (ps_ret pe_non)))))))))
      (pss_cons (ps_if (PW.pt (pw_or (pt_cmpR op_gt (pe_callB call_len_str (by rfl) T.n_len (by decide +kernel) (pa_cons (pv 0) pa_nil)) pe_int (nomark _)) (pw_or (pt_cmpR op_gt (pe_callB call_len_seq (by rfl) T.n_len (by decide +kernel) (pa_cons (pv 2) pa_nil)) pe_int (nomark _)) (pw_or1 (pt_cmpR (op_neD hr.units) (pe_lc (own := [("part", 5)]) (g := gName 5) (tt := _) rfl sc__law_read.nd (pi_list (pv 2)) (blkOk_by (own := [("part", 5)]) (N := N__law_read) (sc := defScope s__law_read) (by decide +kernel)) (fun _ _ _ _ _ => pg_name (i := 5) sc__law_read.nd rfl (Or.inl rfl)) (fun _ _ _ _ _ => pts_one (pt_not (pt_chain op_le op_le pe_int (pe_callB call_len_str (by rfl) T.n_len (by decide +kernel) (pa_cons (pv 5) pa_nil)) pe_int))) (fun _ _ _ _ _ => (pv 5))) (pe_lstU pa_nil) (nomark _)))))) (pss_one (ps_ret pe_non)) pss_nil)
      (pss_cons (ps_if (PW.pt (pw_or (pt_cmpR (op_neD hr.units) (pe_lc (own := [("part", 5)]) (g := gName 5) (tt := _) rfl sc__law_read.nd (pi_list (pv 2)) (blkOk_by (own := [("part", 5)]) (N := N__law_read) (sc := defScope s__law_read) (by decide +kernel)) (fun _ _ _ _ _ => pg_name (i := 5) sc__law_read.nd rfl (Or.inl rfl)) (fun _ _ _ _ _ => pts_one (PW.pt (pw_and (pt_cmpR op_eqS (pe_ix ix_str (pv 5) pe_int (fun _ _ => rfl)) pe_str (nomark _)) (pw_and1 (pt_cmpR op_neS (pv 5) pe_str (nomark _)))))) (fun _ _ _ _ _ => (pv 5))) (pe_lstU pa_nil) (nomark _)) (pw_or1 (PW.pt (pw_and (pt_val (pv 1)) (pw_and1 (pt_cmpR op_eqS (pe_ix ix_list (pv 2) pe_int (fun _ _ => rfl)) pe_str (nomark _)))))))) (pss_one (ps_ret pe_non)) pss_nil)
      (pss_cons (ps_set (i := 4) sc__law_read.nd rfl (Or.inl rfl) (pe_tupU (pa_cons (pe_op op_mulW (pe_callTy call_int_str (by rfl) T.n_int (by decide +kernel) (pa_cons (pe_ix ix_list (pv 2) pe_int (fun _ _ => rfl)) pa_nil)) (pe_ifExp (pt_val (pv 1)) (pe_un un_neg pe_int) pe_int)) (pa_cons (pe_ifExp (pt_cmpR op_eqI (pe_callB call_len_seq (by rfl) T.n_len (by decide +kernel) (pa_cons (pv 2) pa_nil)) pe_int (nomark _)) (pe_callTy call_int_str (by rfl) T.n_int (by decide +kernel) (pa_cons (pe_ix ix_list (pv 2) pe_int (fun _ _ => rfl)) pa_nil)) pe_int) pa_nil))))
      (pss_cons (ps_if (PW.pt (pw_or (PW.pt (pw_and (pt_cmpR op_eqI (pe_callB call_len_seq (by rfl) T.n_len (by decide +kernel) (pa_cons (pv 2) pa_nil)) pe_int (nomark _)) (pw_and1 (pt_cmpR op_lt (pe_ix ix_tup (pv 4) pe_int (fun _ _ => rfl)) pe_int (nomark _))))) (pw_or1 (pt_cmpR (op_neD hr.units) (pe_call G__law_low hr__law_low (by rfl) T.m__law_low T.F__law_low.kp T.B__law_low .nil pass0 (pa_cons (pe_ix ix_tup (pv 4) pe_int (fun _ _ => rfl)) (pa_cons (pe_ix ix_tup (pv 4) pe_int (fun _ _ => rfl)) pa_nil))) (pv 4) (nomark _))))) (pss_one (ps_ret pe_non)) pss_nil)
      (pss_one (ps_ret (pv 4)))))))))), ?_⟩
    refine seq_op fun N hN => ?_
    walk_at "rs"
    refine ⟨v, "str", ⟨rfl, rfl⟩, d, hd, by simp, ite2 (fun e => ?_) (fun e => hN _ _ ?_)⟩
    · refine k0 ?_ H (Same.refl _)
      cases d <;> first | rfl | simp [isTy] at e
    clear hN N
    obtain ⟨z, rfl⟩ : ∃ z, d = .str z := by cases d <;> first | exact ⟨_, rfl⟩ | exact absurd rfl e
    cases hd
    clear e
    replace k0 : readZ z = none → ∀ H', Same H H' → Q .non H' := k0
    replace k1 : ∀ p q, readZ z = some (p, q) → ∀ t H', Same H H' → H t = none → H' t = some (.tup [.int p, .int q]) → Q (.ref t) H' := k1
    have hz : z.length ≤ 100000 := of_decide_eq_true hok
    -- minus_ahead, parts
    refine seq_op fun N hN => ?_
    walk_at "rs"
    refine ⟨by decide, fun t H1 s1 n1 h1 => ⟨_, _, ⟨rfl, rfl⟩, hN _ _ ?_⟩⟩
    clear hN N
    have lz : z.length = (tl z).length := len_tl z
    let n := min (tl z).length 200
    refine cut_seq (fun σ H2 => ∃ x, σ = [some (.str z), some (.bl (mF ((tl z).take n))), some (.ref t), x, none, none] ∧ Same H H2 ∧ H t = none ∧ H2 t = some (.lst (psV (spB (bd ((tl z).take n))))) ∧ ∀ c ∈ bd ((tl z).take n), c = 47 ∨ inS c FIGs = true) (fun N hN => ?_) ?_
    · have en : (if (200 : Int) < (z.length : Int) then (200 : Int) else (z.length : Int)) = ((n : Nat) : Int) := by
        show _ = ((min (tl z).length 200 : Nat) : Int)
        rw [lz]
        split <;> omega
      have nb : n ≤ 200 := Nat.min_le_right _ _
      have nl : n ≤ (tl z).length := Nat.min_le_left _ _
      refine ⟨_, rfl, z, rfl, Nat.le_trans hz (by decide), _, _, rfl, _, rfl, by rw [en]; omega, by rw [en]; omega, for_range (lo := 0) (n := (if (200 : Int) < (z.length : Int) then (200 : Int) else (z.length : Int)).toNat) (fun i σ H2 => i ≤ n ∧ ∃ x, σ = [some (.str z), some (.bl (mF ((tl z).take i))), some (.ref t), x, none, none] ∧ Same H H2 ∧ H2 t = some (.lst (psV (spB (bd ((tl z).take i))))) ∧ ∀ c ∈ bd ((tl z).take i), c = 47 ∨ inS c FIGs = true) ⟨Nat.zero_le _, _, rfl, s1, h1, fun c h => absurd h (by simp [bd])⟩ ?_ ?_⟩
      · rintro i σ H2 hi ⟨_, x, rfl, s2, h2, hc⟩
        rw [en, Int.toNat_natCast] at hi
        have hi2 : i < (tl z).length := by omega
        obtain ⟨c, ec⟩ : ∃ c, (tl z)[i]? = some c := ⟨_, List.getElem?_eq_getElem hi2⟩
        have et := take_snoc ec
        have l1 : 1 ≤ sizeLine := by decide
        have eat : atI z.cps.toList (0 + (i : Int)) = some c := at_ofN (j := i) (by omega) ec
        walk_at "rs"
        refine ⟨Nat.le_trans hz (by decide), c, eat, ?_⟩
        have big : 1000000 ≤ sizeLine := by decide
        have bl : (spB (bd ((tl z).take i))).length ≤ 201 := by
          have a := spB_len (bd ((tl z).take i))
          have b := bd_len ((tl z).take i)
          have : ((tl z).take i).length ≤ i := List.length_take_le _ _
          omega
        refine ite2 (fun e1 => ite2 (fun e2 => ?A) (fun e2 => ?B)) (fun e1 => ?C)
        case A =>
          have e45 : c = 45 := (one_eq (by decide +kernel)).mp e1
          have ei : i = 0 := by omega
          subst ei
          rw [et, e45, List.take_zero, List.nil_append]
          rw [List.take_zero] at h2
          exact ⟨by omega, _, ⟨rfl, rfl⟩, s2, h2, fun c h => absurd h (by simp [bd])⟩
        case' B =>
          have hne : (tl z).take i ≠ [] ∨ c ≠ 45 := .inl fun z0 => by
            rw [List.take_eq_nil_iff] at z0
            rcases z0 with z0 | z0
            · omega
            · rw [z0] at hi2; simp at hi2
        case' C =>
          have hne : (tl z).take i ≠ [] ∨ c ≠ 45 := .inr fun e => e1 ((one_eq (by decide +kernel)).mpr e)
        all_goals
          obtain ⟨b1, b2⟩ := bd_snoc hne
          rw [← et] at b1 b2
          have chars : c = 47 ∨ inS c FIGs = true → ∀ x ∈ bd ((tl z).take (i + 1)), x = 47 ∨ inS x FIGs = true := fun hx x h => by
            rw [b1] at h
            rcases List.mem_append.mp h with h | h
            · exact hc x h
            · obtain rfl := List.mem_singleton.mp h
              exact hx
          refine ⟨Nat.le_trans hz (by decide), c, eat, ite2 (fun e3 => ?_) (fun e3 => ⟨Nat.le_trans hz (by decide), c, eat, c, rfl, ite2 (fun e4 => ?_) (fun e4 => ?_)⟩)⟩
          · have ec : c = 47 := (one_eq (by decide +kernel)).mp e3
            refine ⟨.inl ⟨rfl, _, SqL.of h2⟩, _, h2, by unfold psV; rw [List.length_map]; omega, by omega, _, ⟨by rw [b2], rfl⟩, same_updN s2 n1, ?_, chars (.inl ec)⟩
            rw [upd_same, b1, spB_snoc, ec]
            show some (HO.lst (_ ++ _)) = some (HO.lst (psV (_ ++ [[]])))
            rw [psV_snoc]
            rfl
          · have ec : c ≠ 47 := fun e => e3 ((one_eq (by decide +kernel)).mpr e)
            obtain ⟨init, last, e5, e6⟩ := last_of (spB_join (bd ((tl z).take i))).1
            have ll : last.length ≤ i := by
              have a := len_parts (bd ((tl z).take i)) last (by rw [e5]; simp)
              have b := bd_len ((tl z).take i)
              have : ((tl z).take i).length ≤ i := List.length_take_le _ _
              omega
            have h2' := h2
            rw [e5, psV_snoc] at h2'
            refine ⟨_, SqL.of h2', _, atI_last _ _, Nat.le_trans hz (by decide), c, eat, _, rfl, ?_, _, h2', (psV init).length, ?_, by omega, _, ⟨by rw [b2], rfl⟩, same_updN s2 n1, ?_, chars (.inr (decide_eq_true e4))⟩
            · have e7 : (mkS last).length = last.length := len_tl _
              have e8 : (⟨#[c]⟩ : Str).length = 1 := rfl
              omega
            · rw [List.length_append]; exact ixN_last _
            · rw [upd_same, b1, spB_snoc, e6 c ec, psV_snoc, mkS_snoc]
              simp
          · refine k0 (none_of (fun p q F => facts_chars F) fun hall => ?_) H2 s2
            rcases hall c (bd_sub (tl z) (i + 1) c (by rw [b1]; simp)) with h | h
            · exact e3 ((one_eq (by decide +kernel)).mpr h)
            · exact e4 (of_decide_eq_true h)
      · rintro σ H2 ⟨_, x, rfl, s2, h2, hc⟩
        rw [en, Int.toNat_natCast] at h2 hc ⊢
        exact hN _ _ ⟨x, rfl, s2, n1, h2, hc⟩
    · rintro σ H2 ⟨x, rfl, s2, n2, h2, hc⟩
      by_cases hl : z.length ≤ 200
      · have en : (tl z).take n = tl z := List.take_of_length_le (by omega)
        rw [en] at h2 hc ⊢
        clear en
        have dg := parts_digits hc
        have jn := (spB_join (bd (tl z))).1
        have lb : (spB (bd (tl z))).length ≤ 201 := by
          have a := spB_len (bd (tl z))
          have b := bd_len (tl z)
          omega
        have allN : ∀ (p : List Nat → Bool), ∀ l ∈ (spB (bd (tl z))).filter p, NumText.AllDigits l := fun p l h => dg l (List.mem_filter.mp h).1
        refine seq_op fun N hN => ?_
        walk_at "rs"
        refine ⟨Nat.le_trans hz (by decide), iteFF (by omega) ⟨_, .inl (SqL.of h2), ite2 (fun e => ?_) (fun e => ?_)⟩⟩
        · refine k0 (none_of (fun p q F => (facts_good F).1.1) ?_) H2 s2
          unfold psV at e
          rw [List.length_map] at e
          omega
        have l2 : (spB (bd (tl z))).length ≤ 2 := by
          unfold psV at e
          rw [List.length_map] at e
          omega
        clear e
        refine ⟨_, rfl, t, rfl, ⟨_, SqL.of h2⟩, fun D hD => lc_parts (fun l => !(decide (1 ≤ l.length) && decide (l.length ≤ 60))) h2 hD (by omega) (show 5 < 6 by decide) ?_ ?_⟩
        · intro l H3 hl3 s3 Qt hq
          have ml : (mkS l).length = l.length := len_tl _
          have l3 := len_parts _ l hl3
          have l4 := bd_len (tl z)
          walk_at "rs"
          refine ⟨Nat.le_trans (show (mkS l).length ≤ 1000 by omega) (by decide), ite2 (fun e => ?_) (fun e => ?_)⟩
          · have q := hq H3 (Same.refl _)
            rw [decide_eq_true (by omega), Bool.true_and] at q
            rw [ml]
            have e2 : decide ((l.length : Int) ≤ 60) = decide (l.length ≤ 60) := decide_eq_decide.mpr (by omega)
            rw [e2]
            exact q
          · have q := hq H3 (Same.refl _)
            rw [decide_eq_false (by omega), Bool.false_and] at q
            exact q
        · intro H3 s3 h3
          refine ⟨by decide, fun p4 H4 s4 n4 h4 => ne_nil (s4 _ _ h3) h4 (allN _) ⟨_, rfl, ite2 (fun e => ?_) (fun e => hN _ _ ?_)⟩⟩
          · refine k0 (none_of (fun p q F => (facts_good F).1.2) fun hall => ?_) H4 (Same.trans s2 (Same.trans s3 s4))
            have en : (spB (bd (tl z))).filter (fun l => !(decide (1 ≤ l.length) && decide (l.length ≤ 60))) = [] := by
              refine List.filter_eq_nil_iff.mpr fun l hl => ?_
              obtain ⟨a, b⟩ := hall l hl
              simp [a, b]
            rw [en] at e
            cases e
          · have hall : ∀ l ∈ spB (bd (tl z)), 1 ≤ l.length ∧ l.length ≤ 60 := fun l hl => by
              have en : (spB (bd (tl z))).filter (fun l => !(decide (1 ≤ l.length) && decide (l.length ≤ 60))) = [] := by
                simpa using e
              have := List.filter_eq_nil_iff.mp en l hl
              simp at this
              exact ⟨List.length_pos_iff.mpr this.1, this.2⟩
            clear hN N e h3
            have gl : goodL (spB (bd (tl z))) := ⟨l2, hall⟩
            replace s2 := Same.trans s2 (Same.trans s3 s4)
            replace h2 := s4 _ _ (s3 _ _ h2)
            clear s3 s4 n4 h4 hD
            refine seq_op fun N hN => ?_
            walk_at "rs"
            refine ⟨_, rfl, t, rfl, ⟨_, SqL.of h2⟩, fun D hD => lc_parts (fun l => decide (l.head? = some 48) && !decide (l = [48])) h2 hD (by omega) (show 5 < 6 by decide) ?_ ?_⟩
            · intro l H5 hl5 s5 Qt hq
              have ml : (mkS l).length = l.length := len_tl _
              obtain ⟨l3, l4⟩ := hall l hl5
              have q := hq H5 (Same.refl _)
              cases l with
              | nil => simp at l3
              | cons c r =>
                have h48 : ((⟨#[c]⟩ : Str) = Str.ofString "0") ↔ c = 48 := one_eq (by decide +kernel)
                have e48 : (mkS (c :: r) = Str.ofString "0") ↔ c :: r = [48] := by
                  constructor
                  · intro e
                    have := congrArg tl e
                    have e2 : tl (Str.ofString "0") = [48] := by decide +kernel
                    rw [e2] at this
                    exact this
                  · intro e
                    rw [e]
                    exact ext_tl (by decide +kernel)
                walk_at "rs"
                refine ⟨Nat.le_trans (show (mkS (c :: r)).length ≤ 1000 by omega) (by decide), c, at_ofN (j := 0) rfl rfl, ite2 (fun e => ?_) (fun e => ?_)⟩
                · have hc48 := h48.mp e
                  subst hc48
                  have e3 : (!decide (mkS (48 :: r) = Str.ofString "0")) = (decide (((48 :: r).head?) = some 48) && !decide (48 :: r = [48])) := by
                    have hh : (48 :: r).head? = some 48 := rfl
                    rw [decide_eq_true hh, Bool.true_and]
                    congr 1
                    exact decide_eq_decide.mpr e48
                  rw [e3]
                  exact q
                · have e3 : (decide ((c :: r).head? = some 48) && !decide (c :: r = [48])) = false := by
                    rw [decide_eq_false, Bool.false_and]
                    intro h
                    exact e (h48.mpr (Option.some.inj h))
                  rw [e3] at q
                  exact q
            · intro H5 s5 h5
              refine ⟨by decide, fun p6 H6 s6 n6 h6 => ne_nil (s6 _ _ h5) h6 (allN _) ⟨_, rfl, ite2 (fun e => ?_) (fun e => ?_)⟩⟩
              · refine k0 (none_of (fun p q F => (facts_good F).2.1) fun hall2 => ?_) H6 (Same.trans s2 (Same.trans s5 s6))
                have en : (spB (bd (tl z))).filter (fun l => decide (l.head? = some 48) && !decide (l = [48])) = [] := by
                  refine List.filter_eq_nil_iff.mpr fun l hl => ?_
                  have := hall2 l hl
                  simpa using this
                rw [en] at e
                cases e
              · have hz1 : ∀ l ∈ spB (bd (tl z)), l.head? = some 48 → l = [48] := fun l hl => by
                  have en : (spB (bd (tl z))).filter (fun l => decide (l.head? = some 48) && !decide (l = [48])) = [] := by
                    simpa using e
                  have := List.filter_eq_nil_iff.mp en l hl
                  simpa using this
                replace s2 := Same.trans s2 (Same.trans s5 s6)
                replace h2 := s6 _ _ (s5 _ _ h2)
                clear h5 h6 n6 s5 s6 hD
                have hne : (spB (bd (tl z))).head? = some [48] → mF (tl z) = true → readZ z = none := fun a b => none_of (fun p q F => (facts_good F).2.2) fun h => h ⟨b, a⟩
                cases eL : spB (bd (tl z)) with
                | nil => exact absurd eL jn
                | cons a r =>
                  have e0 : ∀ (a : List Nat), (mkS a = Str.ofString "0") ↔ a = [48] := fun a => by
                    constructor
                    · intro e
                      have := congrArg tl e
                      have e2 : tl (Str.ofString "0") = [48] := by decide +kernel
                      rw [e2] at this
                      exact this
                    · intro e
                      rw [e]
                      exact ext_tl (by decide +kernel)
                  have mid : (¬ (mF (tl z) = true ∧ a = [48])) → N [some (V.str z), some (V.bl (mF (tl z))), some (V.ref t), x, none, none] H6 := by
                    intro hm
                    have gz : goodZ (mF (tl z)) (spB (bd (tl z))) := ⟨hz1, fun ⟨h1, h2⟩ => hm ⟨h1, by rw [eL] at h2; cases h2; rfl⟩⟩
                    refine hN _ _ ?_
                    clear hN N
                    have ha := dg a (by rw [eL]; exact List.mem_cons_self)
                    have la := hall a (by rw [eL]; exact List.mem_cons_self)
                    have na : a ≠ [] := fun z0 => by rw [z0] at la; simp at la
                    have va := val_lt60 ha la.2
                    have inum : ∀ l : List Nat, NumText.AllDigits l → l ≠ [] → l.length ≤ 60 → intText? (mkS l) = some ((NumText.digitsVal l : Nat) : Int) := fun l h1 h2 h3 => by
                      have e : (mkS l).length = l.length := len_tl _
                      exact intText_digits (x := mkS l) h1 h2 (by omega)
                    have lm : ∀ l : List Nat, l.length ≤ 60 → (mkS l).length ≤ 640 := fun l h => by
                      have e : (mkS l).length = l.length := len_tl _
                      omega
                    have sg : ∀ k : Nat, (k : Int) * (if mF (tl z) = true then -1 else 1) = sgn (mF (tl z)) k := fun k => by
                      unfold sgn; split <;> omega
                    have cmw : CMulW ((NumText.digitsVal a : Nat) : Int) (if mF (tl z) = true then -1 else 1) := wide_mul (a := 4000) (b := 4000) (by rw [Int.natAbs_natCast]; exact Nat.lt_of_lt_of_le va (Nat.le_trans (show 10 ^ 60 ≤ 2 ^ 200 by decide) (Nat.pow_le_pow_right (by decide) (by decide)))) (by split <;> exact Nat.one_lt_two_pow (by decide)) (by decide) (by decide) (by decide)
                    cases r with
                    | nil =>
                      have ez := one_part hc eL (eL ▸ gl) (eL ▸ gz)
                      rw [eL] at h2
                      refine seq_op fun N hN => ?_
                      walk_at "rs"
                      have fin : ∀ (k : Int), k = sgn (mF (tl z)) (NumText.digitsVal a) → 2 ≤ sizeLine ∧ ∀ (p5 : Addr) (H7 : Hp), Same H6 H7 → H6 p5 = none → H7 p5 = some (HO.tup [V.int k, V.int 1]) → N [some (V.str z), some (V.bl (mF (tl z))), some (V.ref t), x, some (V.ref p5), none] H7 := by
                        rintro k rfl
                        refine ⟨by decide, fun p5 H7 s7 n7 h7 => hN _ _ ?_⟩
                        clear hN N
                        have h27 := s7 _ _ h2
                        have hp5 : SqT K H7 p5 [V.int (sgn (mF (tl z)) (NumText.digitsVal a)), V.int 1] := .inl (.inl h7)
                        have bk : (sgn (mF (tl z)) (NumText.digitsVal a)).natAbs < 2 ^ 4000 := by
                          rw [sgn_abs]
                          exact Nat.lt_of_lt_of_le va (Nat.le_trans (show 10 ^ 60 ≤ 2 ^ 200 by decide) (Nat.pow_le_pow_right (by decide) (by decide)))
                        generalize sgn (mF (tl z)) (NumText.digitsVal a) = k at hp5 h7 ez bk
                        refine seq_op fun N hN => ?_
                        walk_at "rs"
                        refine ⟨_, .inl (SqL.of h27), iteFF (by simp [psV]) ⟨_, hp5, _, rfl, _, hp5, _, rfl, k, 1, ⟨rfl, rfl⟩, by decide, pow_le bk (by decide), Nat.one_lt_two_pow (by decide), fun t1 H8 s8 n8 h8 => ne_low h8 (Same.seqT s8 hp5) (by decide) ⟨_, rfl, iteFF (by simp) (hN _ _ ?_)⟩⟩⟩
                        walk_at "rs"
                        exact k1 k 1 ez p5 H8 (Same.trans s2 (Same.trans s7 s8)) (Same.dom s2 p5 n7) (s8 _ _ h7)
                      refine ⟨_, SqL.of h2, _, at_ofN (j := 0) rfl rfl, mkS a, rfl, _, inum a ha na la.2, lm a la.2, ite2 (fun em => ?_) (fun em => ?_)⟩
                      · rw [if_pos em] at cmw
                        refine ⟨cmw, _, .inl (SqL.of h2), iteFF (by simp [psV]) (fin _ ?_)⟩
                        rw [← sg, if_pos em]
                      · rw [if_neg em] at cmw
                        refine ⟨cmw, _, .inl (SqL.of h2), iteFF (by simp [psV]) (fin _ ?_)⟩
                        rw [← sg, if_neg em]
                    | cons b r =>
                      cases r with
                      | cons c r => exfalso; rw [eL] at l2; simp at l2
                      | nil =>
                        have hb := dg b (by rw [eL]; simp)
                        have lb2 := hall b (by rw [eL]; simp)
                        have nb : b ≠ [] := fun z0 => by rw [z0] at lb2; simp at lb2
                        have vb := val_lt60 hb lb2.2
                        have ez := two_parts hc eL (eL ▸ gl) (eL ▸ gz)
                        rw [eL] at h2
                        refine seq_op fun N hN => ?_
                        walk_at "rs"
                        have t60 : 10 ^ 60 ≤ 2 ^ 4000 := Nat.le_trans (show 10 ^ 60 ≤ 2 ^ 200 by decide) (Nat.pow_le_pow_right (by decide) (by decide))
                        have fin : ∀ (k : Int), k = sgn (mF (tl z)) (NumText.digitsVal a) → 2 ≤ sizeLine ∧ ∀ (p5 : Addr) (H7 : Hp), Same H6 H7 → H6 p5 = none → H7 p5 = some (HO.tup [V.int k, V.int ((NumText.digitsVal b : Nat) : Int)]) → N [some (V.str z), some (V.bl (mF (tl z))), some (V.ref t), x, some (V.ref p5), none] H7 := by
                          rintro k rfl
                          refine ⟨by decide, fun p5 H7 s7 n7 h7 => hN _ _ ?_⟩
                          clear hN N
                          have h27 := s7 _ _ h2
                          have hp5 : SqT K H7 p5 [V.int (sgn (mF (tl z)) (NumText.digitsVal a)), V.int ((NumText.digitsVal b : Nat) : Int)] := .inl (.inl h7)
                          have ab := sgn_abs (mF (tl z)) (NumText.digitsVal a)
                          generalize sgn (mF (tl z)) (NumText.digitsVal a) = k at hp5 h7 ez ab
                          have bk : k.natAbs < 2 ^ 4000 := by rw [ab]; exact Nat.lt_of_lt_of_le va t60
                          have bq : (((NumText.digitsVal b : Nat) : Int)).natAbs < 2 ^ 4000 := by rw [Int.natAbs_natCast]; exact Nat.lt_of_lt_of_le vb t60
                          rw [← ab] at ez
                          refine seq_op fun N hN => ?_
                          walk_at "rs"
                          refine ⟨_, .inl (SqL.of h27), iteTT (by simp [psV]) ⟨_, hp5, _, rfl, ((NumText.digitsVal b : Nat) : Int), rfl, ite2 (fun e5 => ?_) (fun e5 => ?_)⟩⟩
                          · rw [if_neg (by omega)] at ez
                            exact k0 ez H7 (Same.trans s2 s7)
                          · refine ⟨_, hp5, _, rfl, _, hp5, _, rfl, k, _, ⟨rfl, rfl⟩, by omega, pow_le bk (by decide), pow_le bq (by decide), fun t1 H8 s8 n8 h8 => ne_low h8 (Same.seqT s8 hp5) (by omega) ⟨_, rfl, ?_⟩⟩
                            rw [Int.natAbs_natCast]
                            refine ite2 (fun e6 => ?_) (fun e6 => hN _ _ ?_)
                            · have e7 : ¬ Nat.gcd k.natAbs (NumText.digitsVal b) = 1 := by simpa using e6
                              rw [if_neg (fun h => e7 h.2)] at ez
                              exact k0 ez H8 (Same.trans s2 (Same.trans s7 s8))
                            · have e7 : Nat.gcd k.natAbs (NumText.digitsVal b) = 1 := by simpa using e6
                              rw [if_pos ⟨by omega, e7⟩] at ez
                              walk_at "rs"
                              exact k1 k _ ez p5 H8 (Same.trans s2 (Same.trans s7 s8)) (Same.dom s2 p5 n7) (s8 _ _ h7)
                        refine ⟨_, SqL.of h2, _, at_ofN (j := 0) rfl rfl, mkS a, rfl, _, inum a ha na la.2, lm a la.2, ite2 (fun em => ?_) (fun em => ?_)⟩
                        · rw [if_pos em] at cmw
                          refine ⟨cmw, _, .inl (SqL.of h2), iteTT (by simp [psV]) ⟨_, SqL.of h2, _, at_ofN (j := 1) rfl rfl, mkS b, rfl, _, inum b hb nb lb2.2, lm b lb2.2, fin _ ?_⟩⟩
                          rw [← sg, if_pos em]
                        · rw [if_neg em] at cmw
                          refine ⟨cmw, _, .inl (SqL.of h2), iteTT (by simp [psV]) ⟨_, SqL.of h2, _, at_ofN (j := 1) rfl rfl, mkS b, rfl, _, inum b hb nb lb2.2, lm b lb2.2, fin _ ?_⟩⟩
                          rw [← sg, if_neg em]
                  rw [eL] at h2
                  refine ite2 (fun em => ⟨_, SqL.of h2, _, at_ofN (j := 0) rfl rfl, mkS a, rfl, ite2 (fun e9 => ?_) (fun e9 => ?_)⟩) (fun em => mid fun ⟨h, _⟩ => em h)
                  · exact k0 (hne (by rw [eL, (e0 a).mp e9]; rfl) em) H6 s2
                  · exact mid fun ⟨_, h⟩ => e9 ((e0 a).mpr h)
      · refine seq_op fun N hN => ?_
        walk_at "rs"
        exact ⟨Nat.le_trans hz (by decide), iteTT (by omega) (k0 (none_of (fun p q F => F.len) (by omega)) H2 s2)⟩
end
end LK

set_option Elab.async false
set_option linter.all false
set_option maxRecDepth 100000
namespace LK
open PySem PySem.Spec PyProof.Rows L2
local macro_rules | `(tactic| walk_at "rs") => `(tactic| simp only [cxK, cxNK, tCallZ, tAsg, tOp, rI0, rS0, rB0, rI, rU, tUn, rEq, rNe, rIxL, rIxT, rIxS, rSetL, rSlLU, rSlS, rSlU, rCatL, rCatU, rRepL, rIn, tVar, tC, gName, gSub, tIfS, tTest, tB, tAnd, tOr, tNot, tNotV, tAndV, tOrV, tIf, tCall, tCons, tNil, tCB, tDrop, tRet, tRetN, tNext, tLstU, tTupU, tM0, tM1, tPar, tPar3, tAug, ipI, tBM, tBM0, rAppend, rPop, tBreak, tCont, tChain, tSl, tPart, tNoPart, L2.start, List.map, List.length_cons, List.length_nil, List.replicate, List.cons_append, List.nil_append, List.append_nil, List.getElem?_cons_zero, List.getElem?_cons_succ, List.set_cons_zero, List.set_cons_succ, Option.some.injEq, V.int.injEq, V.ref.injEq, V.str.injEq, V.bl.injEq, exists_eq_left', exists_eq_left, exists_and_left, decide_eq_true_eq, List.cons.injEq, and_true, true_and, scal, Bool.not_eq_true', decide_eq_false_iff_not, Nat.zero_add, Nat.reduceAdd, Nat.reduceSub, reduceCtorEq, false_and, exists_false, false_or, or_false, CPow, CMul, CDiv, Int.reduceToNat, ↓reduceIte, wipe, sw, List.nil_append, List.singleton_append])
local macro_rules | `(tactic| walk_at "st") => `(tactic| (refine seq_op fun N hN => ?_; walk_at "rs"))
local macro_rules | `(tactic| walk_at "sd") => `(tactic| first | assumption | decide | omega)
local macro_rules | `(tactic| walk_at "rd") => `(tactic| repeat (first
  | refine ⟨_, SqL.of (by assumption), ?_⟩ | refine ⟨_, SqL.of upd_same, ?_⟩ | refine ⟨_, .inl (SqL.of (by assumption)), ?_⟩ | refine ⟨_, (by assumption : _ = some (HO.lst _)), ?_⟩ | refine ⟨_, upd_same, ?_⟩
  | refine ⟨_, rfl, ?_⟩ | refine And.intro (by walk_at "sd") ?_))

open TL
def repS (z : Str) (n : Nat) : Str := mkS (List.replicate n (tl z)).flatten
theorem tl_repS (z : Str) (n : Nat) : tl (repS z n) = (List.replicate n (tl z)).flatten := rfl
theorem repS_len (z : Str) (n : Nat) : (repS z n).length = n * z.length := by
  rw [len_tl, tl_repS, List.length_flatten, List.map_replicate, List.sum_replicate_nat, len_tl z]
theorem fold_cps (a : Array Nat) : ∀ (n : Nat) (acc : Array Nat), ((List.replicate n a).foldl (· ++ ·) acc).toList = acc.toList ++ (List.replicate n a.toList).flatten
  | 0, acc => by simp
  | n + 1, acc => by
    rw [List.replicate_succ, List.foldl_cons, fold_cps a n, Array.toList_append, List.replicate_succ, List.flatten_cons, List.append_assoc]
def rRepS : R2 := fun x y H Q => ∃ z k, x = .str z ∧ y = .int k ∧ 0 ≤ k ∧ k ≤ 10000 ∧ z.length ≤ 100 ∧ Q (.str (repS z k.toNat)) H
theorem op_repS {X : Cx} : OpR X (binaryOp .Mult) rRepS := by
  intro pins s σ H x y v u Q I rx ry h
  obtain ⟨z, k, rfl, rfl, k0, k1, hz, q⟩ := h
  obtain ⟨t1, rfl⟩ := rx
  obtain ⟨t2, rfl⟩ := ry
  have b : z.length * k.toNat ≤ 100 * 10000 := Nat.mul_le_mul hz (by omega)
  have big : 1000000 ≤ sizeLine := by decide
  refine PySem.P.mul_str ?_ ?_ ?_ ?_
  · rw [decide_eq_false (by omega), decide_eq_false (by omega)]; rfl
  · intro h1 _ h2
    have h3 : (100 : Int) ≤ (2 ^ 63 - 1) / k := (Int.le_ediv_iff_mul_le (by omega)).mpr (by omega)
    omega
  · intro _ _
    exact decide_eq_false (show ¬ z.length * k.toNat > sizeLine by omega)
  · have e : ∀ w : Str, tl w = (List.replicate k.toNat (tl z)).flatten → repS z k.toNat = w := fun w h => ext_tl (by rw [h]; rfl)
    split
    · have ek : k.toNat = 0 := by omega
      have e1 := e Str.empty (by rw [ek]; rfl)
      rw [e1] at q
      exact ⟨by decide, .str Str.empty, H, I.tok _, ⟨_, rfl⟩, q⟩
    · split
      · rename_i h1 h2
        have e1 := e z (by
          rw [Bool.or_eq_true] at h2
          rcases h2 with h2 | h2
          · have ek : k = 1 := eq_of_beq h2
            rw [ek]
            show tl z = (List.replicate 1 (tl z)).flatten
            simp
          · have el : z.length = 0 := eq_of_beq h2
            rw [len_tl] at el
            rw [List.eq_nil_of_length_eq_zero el]
            simp)
        rw [e1] at q
        exact ⟨.str z, H, I, ⟨_, rfl⟩, q⟩
      · have e1 := e ⟨(List.replicate k.toNat z.cps).foldl (· ++ ·) #[]⟩ (by
          show ((List.replicate k.toNat z.cps).foldl (· ++ ·) #[]).toList = _
          rw [fold_cps]
          rfl)
        rw [e1] at q
        refine ⟨?_, .str _, H, I.tok _, ⟨_, rfl⟩, q⟩
        rw [← e1, repS_len, Nat.mul_comm]
        omega
end LK

set_option Elab.async false
set_option linter.all false
set_option maxRecDepth 100000
namespace LK
open PySem PySem.Spec PyProof.Rows L2
local macro_rules | `(tactic| walk_at "rs") => `(tactic| simp only [cxK, cxNK, tCallZ, tAsg, tOp, rI0, rS0, rB0, rI, rU, tUn, rEq, rNe, rIxL, rIxT, rIxS, rSetL, rSlLU, rSlS, rSlU, rCatL, rCatU, rRepL, rRepS, rIn, tVar, tC, gName, gSub, tIfS, tTest, tB, tAnd, tOr, tNot, tNotV, tAndV, tOrV, tIf, tCall, tCons, tNil, tCB, tDrop, tRet, tRetN, tNext, tLstU, tTupU, tM0, tM1, tPar, tPar3, tAug, ipI, tBM, tBM0, rAppend, rPop, tBreak, tCont, tChain, tSl, tPart, tNoPart, L2.start, List.map, List.length_cons, List.length_nil, List.replicate, List.cons_append, List.nil_append, List.append_nil, List.getElem?_cons_zero, List.getElem?_cons_succ, List.set_cons_zero, List.set_cons_succ, Option.some.injEq, V.int.injEq, V.ref.injEq, V.str.injEq, V.bl.injEq, exists_eq_left', exists_eq_left, exists_and_left, decide_eq_true_eq, List.cons.injEq, and_true, true_and, scal, Bool.not_eq_true', decide_eq_false_iff_not, Nat.zero_add, Nat.reduceAdd, Nat.reduceSub, reduceCtorEq, false_and, exists_false, false_or, or_false, CPow, CMul, CDiv, Int.reduceToNat, ↓reduceIte, wipe, sw, List.nil_append, List.singleton_append])
local macro_rules | `(tactic| walk_at "st") => `(tactic| (refine seq_op fun N hN => ?_; walk_at "rs"))
local macro_rules | `(tactic| walk_at "sd") => `(tactic| first | assumption | decide | omega)
local macro_rules | `(tactic| walk_at "rd") => `(tactic| repeat (first
  | refine ⟨_, SqL.of (by assumption), ?_⟩ | refine ⟨_, SqL.of upd_same, ?_⟩ | refine ⟨_, .inl (SqL.of (by assumption)), ?_⟩ | refine ⟨_, (by assumption : _ = some (HO.lst _)), ?_⟩ | refine ⟨_, upd_same, ?_⟩
  | refine ⟨_, rfl, ?_⟩ | refine And.intro (by walk_at "sd") ?_))

open TL
def isShort (m : Nat) : V → Bool
  | .str z => decide (z.length ≤ m)
  | _ => false
theorem of_short {K : PySem.W.Frag} {H H1 : Hp} {b c p : Addr} (B : Bag H b c) (m : Nat) {L : List V} (s1 : Same H H1) (h0 : H p = none) (h1 : H1 p = some (.lst L)) (ne : L ≠ []) (hl : L.length ≤ 1000000) (hm : L.all (isShort m) = true) {Q : VK} {E : XK} (k : ∀ z H2, z.length ≤ m → Bag H2 b c → Kp b H H2 → Q (.str z) H2) : sp__law_of K [.ref b, .ref p] H1 Q E :=
  of_new B s1 h0 h1 ne hl fun y H2 hy B2 K2 => by
    have q := List.all_eq_true.mp hm y hy
    cases y <;> first | exact k _ H2 (of_decide_eq_true q) B2 K2 | cases q
theorem strI_short {i : Int} (h : i.natAbs < 10 ^ 60) : (Str.ofString (toString i)).length ≤ 61 := strI_len h
section
variable {P : Program} {w : World} {K : PySem.W.Frag} {mg : Str → Option Value} {base : Heap}
theorem ok__law_digits (T : Txt w K mg) : FnOk P w K mg base CX0 3 T.a__law_digits T.d__law_digits ["bag"] (sp_str 4900) := by
  refine T.F__law_digits.ok sc__law_digits (fun vs H Q E h => ?_) (fun cdv A outer s H vs Q E hr h => ?_)
  · obtain ⟨b, c, rfl, _⟩ := h
    rfl
  · obtain ⟨b, c, rfl, B, k⟩ := h
    have hr__law_draw : Room 1 _ := hr.mono (by decide)
    have G__law_draw := ok__law_draw (P := P) (base := base) T
    have hr__law_of : Room 2 _ := hr.mono (by decide)
    have G__law_of := ok__law_of (P := P) (base := base) T
    refine ⟨_, (pss_cons (ps_set (i := 1) sc__law_digits.nd rfl (Or.inl rfl) (pe_call G__law_of hr__law_of (by rfl) T.m__law_of T.F__law_of.kp T.B__law_of .nil pass0 (pa_cons (pv 0) (pa_cons (pe_lstU (pa_cons pe_int (pa_cons pe_int (pa_cons pe_int (pa_cons pe_int (pa_cons pe_int (pa_cons (pe_op op_add pe_int (pe_call G__law_draw hr__law_draw (by rfl) T.m__law_draw T.F__law_draw.kp T.B__law_draw .nil pass0 (pa_cons (pv 0) (pa_cons pe_int pa_nil)))) (pa_cons pe_int (pa_cons pe_int (pa_cons pe_int (pa_cons pe_int (pa_cons pe_int (pa_cons (pe_ifExp (pt_cmpR op_eqI (pe_call G__law_draw hr__law_draw (by rfl) T.m__law_draw T.F__law_draw.kp T.B__law_draw .nil pass0 (pa_cons (pv 0) (pa_cons pe_int pa_nil))) pe_int (nomark _)) pe_int pe_int) pa_nil))))))))))))) pa_nil))))
      (pss_cons (ps_set (i := 2) sc__law_digits.nd rfl (Or.inl rfl) (pe_join pe_str (pe_lc (own := [("k", 3)]) (g := gName 3) (tt := tYes) rfl sc__law_digits.nd (pi_range1 (by rfl) T.n_range (pa_cons (pe_op op_add pe_int (pe_call G__law_draw hr__law_draw (by rfl) T.m__law_draw T.F__law_draw.kp T.B__law_draw .nil pass0 (pa_cons (pv 0) (pa_cons pe_int pa_nil)))) pa_nil)) (blkOk_by (own := [("k", 3)]) (N := N__law_digits) (sc := defScope s__law_digits) (by decide +kernel)) (fun _ _ _ _ _ => pg_name (i := 3) sc__law_digits.nd rfl (Or.inl rfl)) (fun _ _ _ _ _ => pts_nil) (fun _ _ _ _ _ => (pe_call G__law_of hr__law_of (by rfl) T.m__law_of T.F__law_of.kp T.B__law_of .nil pass0 (pa_cons (pv 0) (pa_cons pe_str pa_nil)))))))
      (pss_one (ps_ret (pe_slice sl_str (pe_op op_add_str (pe_callTy call_str_int (by rfl) T.n_str (by decide +kernel) (pa_cons (pe_call G__law_draw hr__law_draw (by rfl) T.m__law_draw T.F__law_draw.kp T.B__law_draw .nil pass0 (pa_cons (pv 0) (pa_cons pe_int pa_nil))) pa_nil)) (pe_op op_repS (pv 2) pe_int)) po_none (po_some (pv 1))))))), ?_⟩
    refine cut_seq (fun σ H2 => ∃ n : Int, σ = [some (.ref b), some (.int n), none, none] ∧ 0 ≤ n ∧ Bag H2 b c ∧ Kp b H H2) (fun N hN => ?_) ?_
    · walk_at "rs"
      refine ⟨b, c, 62, rfl, B, by decide, by decide, fun r1 H1 r10 r11 B1 K1 => ⟨_, rfl, b, c, 6, rfl, B1, by decide, by decide, fun r2 H2 r20 r21 B2 K2 => ⟨r2, rfl, ?_⟩⟩⟩
      have K12 := Same.trans K1 K2
      have fin : ∀ n : Int, 0 ≤ n → ∀ (L : List V), L = [.int 1, .int 1, .int 2, .int 3, .int 4, .int (1 + r1), .int 18, .int 59, .int 60, .int 61, .int 62, .int n] → L.length ≤ sizeLine ∧ ∀ (p : Addr) (H3 : Hp), Same H2 H3 → H2 p = none → H3 p = some (HO.lst L) → sp__law_of K [V.ref b, V.ref p] H3 (fun x H1 => N [some (.ref b), some x, none, none] H1) E0 := by
        rintro n hn L rfl
        refine ⟨(show 12 ≤ sizeLine by decide), fun p H3 s3 n3 h3 => of_new B2 s3 n3 h3 (by simp) (show 12 ≤ 1000000 by decide) fun y H4 hy B4 K4 => ?_⟩
        have : ∃ i : Int, y = .int i ∧ 0 ≤ i := by
          simp only [List.mem_cons, List.mem_nil_iff, or_false] at hy
          rcases hy with h | h | h | h | h | h | h | h | h | h | h | h <;> exact ⟨_, h, by omega⟩
        obtain ⟨i, rfl, hi⟩ := this
        exact hN _ _ ⟨i, rfl, hi, B4, Same.trans K12 K4⟩
      exact ite2 (fun _ => fin 4400 (by decide) _ rfl) (fun _ => fin 2 (by decide) _ rfl)
    · rintro σ H2 ⟨n, rfl, n0, B2, K2⟩
      refine seq_op fun N hN => ?_
      walk_at "rs"
      refine ⟨⟨_, rfl⟩, _, rfl, b, c, 8, rfl, B2, by decide, by decide, fun r H3 r0 r1 B3 K3 => ⟨1, r, rfl, rfl, _, rfl, by omega, by omega, fun D hD => lc_draw walk_range (fun _ v => ∃ z, v = V.str z ∧ z.length ≤ 1) (fun _ _ _ _ h => h) hD B3 (by omega) (fun _ _ _ _ y => y.1) (fun _ _ => trivial) ?_ ?_⟩⟩
      · intro x H4 K4 B4 Q2 hq
        walk_at "rs"
        exact of_str B4 (by decide +kernel) (by decide +kernel) fun c0 H5 B5 K5 => hq _ H5 B5 K5 ⟨_, rfl, Nat.le_refl 1⟩
      · intro H4 ys B4 K4 h4 hl hp
        obtain ⟨zs, rfl, hz⟩ := strs_of hp
        have hs := sum_le hz
        have hj := join_len "" zs
        rw [List.length_map] at hl
        have e0 : zs.length * (Str.ofString "").length = 0 := Nat.mul_zero _
        refine ⟨D, rfl, zs, .inl (SqL.of h4), by omega, hN _ _ ?_⟩
        clear hN N
        have K24 := Same.trans K2 (Same.trans K3 K4)
        have jl : (Txt.join (Str.ofString "") zs).length ≤ 8 := by omega
        generalize Txt.join (Str.ofString "") zs = ch at jl
        walk_at "rs"
        refine ⟨b, c, 10, rfl, B4, by decide, by decide, fun r2 H5 r20 r21 B5 K5 => ⟨_, rfl, ?_⟩⟩
        have l1 := strI_short (i := r2) (Nat.lt_of_lt_of_le (show r2.natAbs < 10 by omega) (by decide))
        have l2 := repS_len ch 600
        have l3 := cutS_length (Str.ofString (toString r2) ++ repS ch 600) none (some n)
        have l4 := str_append_len (Str.ofString (toString r2)) (repS ch 600)
        have big : 100000 ≤ sizeLine := by decide
        exact ⟨Nat.lt_of_le_of_lt (Nat.log2_le_self _) (by omega), by decide, by decide, by omega, by omega, by omega, k _ H5 (by omega) B5 (Same.trans K24 K5)⟩
theorem ok__law_word (T : Txt w K mg) : FnOk P w K mg base CX0 4 T.a__law_word T.d__law_word ["bag"] (sp_str 9900) := by
  refine T.F__law_word.ok sc__law_word (fun vs H Q E h => ?_) (fun cdv A outer s H vs Q E hr h => ?_)
  · obtain ⟨b, c, rfl, _⟩ := h
    rfl
  · obtain ⟨b, c, rfl, B, k⟩ := h
    have hr__law_draw : Room 1 _ := hr.mono (by decide)
    have G__law_draw := ok__law_draw (P := P) (base := base) T
    have hr__law_of : Room 2 _ := hr.mono (by decide)
    have G__law_of := ok__law_of (P := P) (base := base) T
    have hr__law_digits : Room 3 _ := hr.mono (by decide)
    have G__law_digits := ok__law_digits (P := P) (base := base) T
    have hr__law_low : Room 1 _ := hr.mono (by decide)
    have G__law_low := ok__law_low (P := P) (base := base) T
    have big : 100000 ≤ sizeLine := by decide
    refine ⟨_, (pss_cons (ps_set (i := 1) sc__law_word.nd rfl (Or.inl rfl) (pe_call G__law_draw hr__law_draw (by rfl) T.m__law_draw T.F__law_draw.kp T.B__law_draw .nil pass0 (pa_cons (pv 0) (pa_cons pe_int pa_nil))))
      (pss_cons (ps_set (i := 2) sc__law_word.nd rfl (Or.inl rfl) (pe_call G__law_of hr__law_of (by rfl) T.m__law_of T.F__law_of.kp T.B__law_of .nil pass0 (pa_cons (pv 0) (pa_cons (pe_lstU (pa_cons pe_str (pa_cons pe_str (pa_cons pe_str (pa_cons pe_str (pa_cons pe_str (pa_cons pe_str pa_nil))))))) pa_nil))))
      (pss_cons (ps_if (pt_cmpR op_lt (pv 1) pe_int (nomark _)) (pss_one (ps_ret (pe_op op_add_str (pv 2) (pe_call G__law_digits hr__law_digits (by rfl) T.m__law_digits T.F__law_digits.kp T.B__law_digits .nil pass0 (pa_cons (pv 0) pa_nil))))) pss_nil)
      (pss_cons (ps_if (pt_cmpR op_lt (pv 1) pe_int (nomark _)) (pss_one (ps_ret (pe_op op_add_str (pe_op op_add_str (pe_op op_add_str (pv 2) (pe_call G__law_digits hr__law_digits (by rfl) T.m__law_digits T.F__law_digits.kp T.B__law_digits .nil pass0 (pa_cons (pv 0) pa_nil))) pe_str) (pe_call G__law_digits hr__law_digits (by rfl) T.m__law_digits T.F__law_digits.kp T.B__law_digits .nil pass0 (pa_cons (pv 0) pa_nil))))) pss_nil)
      (pss_cons (ps_if (pt_cmpR op_lt (pv 1) pe_int (nomark _)) (pss_cons (ps_set (i := 3) sc__law_word.nd rfl (Or.inl rfl) (pe_call G__law_low hr__law_low (by rfl) T.m__law_low T.F__law_low.kp T.B__law_low .nil pass0 (pa_cons (pe_op op_sub (pe_call G__law_draw hr__law_draw (by rfl) T.m__law_draw T.F__law_draw.kp T.B__law_draw .nil pass0 (pa_cons (pv 0) (pa_cons pe_int pa_nil))) pe_int) (pa_cons (pe_op op_add pe_int (pe_call G__law_draw hr__law_draw (by rfl) T.m__law_draw T.F__law_draw.kp T.B__law_draw .nil pass0 (pa_cons (pv 0) (pa_cons pe_int pa_nil)))) pa_nil))))
      (pss_one (ps_ret (pe_ifExp (PW.pt (pw_or (pt_cmpR op_gt (pe_ix ix_tup (pv 3) pe_int (fun _ _ => rfl)) pe_int (nomark _)) (pw_or1 (pt_cmpR op_eqI (pe_call G__law_draw hr__law_draw (by rfl) T.m__law_draw T.F__law_draw.kp T.B__law_draw .nil pass0 (pa_cons (pv 0) (pa_cons pe_int pa_nil))) pe_int (nomark _))))) (pe_op op_add_str (pe_op op_add_str (pe_callTy call_str_int (by rfl) T.n_str (by decide +kernel) (pa_cons (pe_ix ix_tup (pv 3) pe_int (fun _ _ => rfl)) pa_nil)) pe_str) (pe_callTy call_str_int (by rfl) T.n_str (by decide +kernel) (pa_cons (pe_ix ix_tup (pv 3) pe_int (fun _ _ => rfl)) pa_nil))) (pe_callTy call_str_int (by rfl) T.n_str (by decide +kernel) (pa_cons (pe_ix ix_tup (pv 3) pe_int (fun _ _ => rfl)) pa_nil)))))) pss_nil)
      (pss_one (ps_ret (pe_call G__law_of hr__law_of (by rfl) T.m__law_of T.F__law_of.kp T.B__law_of .nil pass0 (pa_cons (pv 0) (pa_cons (pe_lstU (pa_cons pe_str (pa_cons pe_str (pa_cons pe_str (pa_cons pe_str (pa_cons pe_str (pa_cons pe_str (pa_cons pe_str (pa_cons pe_str (pa_cons pe_str (pa_cons pe_str (pa_cons pe_str (pa_cons pe_str (pa_cons pe_str (pa_cons pe_str (pa_cons pe_str (pa_cons pe_str (pa_cons pe_str (pa_cons pe_str pa_nil))))))))))))))))))) pa_nil)))))))))), ?_⟩
    refine seq_op fun N hN => ?_
    walk_at "rs"
    refine ⟨b, c, 8, rfl, B, by decide, by decide, fun way H1 w0 w1 B1 K1 => hN _ _ ?_⟩
    clear hN N
    refine seq_op fun N hN => ?_
    walk_at "rs"
    refine ⟨by decide, fun p H2 s2 n2 h2 => of_short B1 2 s2 n2 h2 (by simp) (by decide) (by decide +kernel) fun ah H3 la B3 K3 => hN _ _ ?_⟩
    clear hN N
    have K13 := Same.trans K1 K3
    refine seq_op fun N hN => ?_
    walk_at "rs"
    refine ite2 (fun e => ?_) (fun e1 => hN _ _ ?_)
    · refine ⟨b, c, rfl, B3, fun d1 H4 l1 B4 K4 => ⟨d1, rfl, by omega, k _ H4 ?_ B4 (Same.trans K13 K4)⟩⟩
      rw [str_append_len]; omega
    clear hN N
    refine seq_op fun N hN => ?_
    walk_at "rs"
    refine ite2 (fun e => ?_) (fun e2 => hN _ _ ?_)
    · refine ⟨b, c, rfl, B3, fun d1 H4 l1 B4 K4 => ⟨d1, rfl, by omega, ?_⟩⟩
      have a1 := str_append_len ah d1
      have a2 := str_append_len (ah ++ d1) (Str.ofString "/")
      have a3 : (Str.ofString "/").length = 1 := by decide +kernel
      refine ⟨by omega, b, c, rfl, B4, fun d2 H5 l2 B5 K5 => ⟨d2, rfl, by omega, k _ H5 ?_ B5 (Same.trans K13 (Same.trans K4 K5))⟩⟩
      rw [str_append_len]; omega
    clear hN N
    refine seq_op fun N hN => ?_
    walk_at "rs"
    refine ite2 (fun e => ?_) (fun e3 => hN _ _ ?_)
    · refine seq_op fun N2 hN2 => ?_
      walk_at "rs"
      refine ⟨b, c, 200, rfl, B3, by decide, by decide, fun r1 H4 r10 r11 B4 K4 => ⟨r1, rfl, b, c, 10000, rfl, B4, by decide, by decide, fun r2 H5 r20 r21 B5 K5 => ⟨r2, rfl, r1 - 99, 1 + r2, ⟨rfl, rfl⟩, by omega, ?_, ?_, fun t H6 s6 n6 h6 => hN2 _ _ ?_⟩⟩⟩
      · exact pow_le (a := 20) (by omega) (by decide)
      · exact pow_le (a := 20) (by omega) (by decide)
      clear hN2 N2
      obtain ⟨_, _, f3, _, f5, f6, _⟩ := fr_spec (r1 - 99) (show 1 + r2 ≠ 0 by omega)
      have K16 := Same.trans K13 (Same.trans K4 (Same.trans K5 (Kp.of s6)))
      have B6 := B5.same s6
      have t6 : SqT K H6 t [V.int (frP (r1 - 99) (1 + r2)), V.int (frQ (r1 - 99) (1 + r2))] := .inl (.inl h6)
      have b1 : (frP (r1 - 99) (1 + r2)).natAbs < 10 ^ 60 := Nat.lt_of_lt_of_le (show _ < 20000 by omega) (by decide)
      have b2 : (frQ (r1 - 99) (1 + r2)).natAbs < 10 ^ 60 := Nat.lt_of_lt_of_le (show _ < 20000 by omega) (by decide)
      generalize frP (r1 - 99) (1 + r2) = fp at t6 b1 h6
      generalize frQ (r1 - 99) (1 + r2) = fq at t6 b2 h6
      have x1 := strI_short b1
      have x2 := strI_short b2
      have a3 : (Str.ofString "/").length = 1 := by decide +kernel
      have two : ∀ H7, Bag H7 b c → Kp b H6 H7 → SqT K H7 t [V.int fp, V.int fq] := fun H7 B7 K7 => seqT_kp B6 K7 t6
      walk_at "rs"
      have a2 := str_append_len (Str.ofString (toString fp)) (Str.ofString "/")
      have a4 := str_append_len (Str.ofString (toString fp) ++ Str.ofString "/") (Str.ofString (toString fq))
      refine ⟨_, t6, _, rfl, fq, rfl, ite2 (fun e => ?_) (fun e => ?_)⟩
      · exact ⟨_, t6, _, rfl, fp, rfl, log60 b1, by omega, _, t6, _, rfl, fq, rfl, log60 b2, by omega, k _ H6 (by omega) B6 K16⟩
      · refine ⟨b, c, 2, rfl, B6, by decide, by decide, fun r3 H7 _ _ B7 K7 => ⟨r3, rfl, ite2 (fun e => ?_) (fun e => ?_)⟩⟩
        · have t7 := two H7 B7 K7
          exact ⟨_, t7, _, rfl, fp, rfl, log60 b1, by omega, _, t7, _, rfl, fq, rfl, log60 b2, by omega, k _ H7 (by omega) B7 (Same.trans K16 K7)⟩
        · have t7 := two H7 B7 K7
          exact ⟨_, t7, _, rfl, fp, rfl, log60 b1, k _ H7 (by omega) B7 (Same.trans K16 K7)⟩
    clear hN N
    walk_at "rs"
    exact ⟨(show 18 ≤ sizeLine by decide), fun p H4 s4 n4 h4 => of_short B3 5 s4 n4 h4 (by simp) (show 18 ≤ 1000000 by decide) (by decide +kernel) fun z H5 lz B5 K5 => k z H5 (by omega) B5 (Same.trans K13 K5)⟩
/-- a thing that is no object -/
def Lf (v : V) : Prop := ∃ d, (∀ (K : PySem.W.Frag) (G : Hp), Dp K G v d) ∧ okD d = true ∧ dep d = 0 ∧ ∀ i, v = .int i → i.natAbs < 2 ^ 64
theorem Lf.int {i : Int} (h : i.natAbs < 2 ^ 64) : Lf (.int i) := ⟨.int i, fun _ _ => .int i, ok_int h, rfl, fun j e => by cases e; exact h⟩
theorem Lf.non : Lf .non := ⟨.none, fun _ _ => .non, rfl, rfl, fun j e => by cases e⟩
theorem Lf.bl (b : Bool) : Lf (.bl b) := ⟨.bool b, fun _ _ => .bl b, rfl, rfl, fun j e => by cases e⟩
theorem Lf.one : Lf (.str (Str.ofString "1")) := ⟨.str _, fun _ _ => .str _, by decide +kernel, rfl, fun j e => by cases e⟩
/-- a thing, its objects new since H -/
def Th (K : PySem.W.Frag) (H H' : Hp) (m : Nat) (v : V) : Prop := ∃ d, Dp K (nw H H') v d ∧ okD d = true ∧ dep d ≤ m ∧ ∀ i, v = .int i → i.natAbs < 2 ^ 64
theorem Lf.th {K : PySem.W.Frag} {H H' : Hp} {m : Nat} {v : V} (h : Lf v) : Th K H H' m v := by
  obtain ⟨d, h1, h2, h3, h4⟩ := h
  exact ⟨d, h1 K _, h2, by omega, h4⟩
theorem nw_kp {H H1 H2 : Hp} {b : Addr} {o : HO} (hb0 : H b = some o) (k : Kp b H1 H2) : Same (nw H H1) (nw H H2) := fun a u e => by
  obtain ⟨h1, h2⟩ := nw_some e
  exact nw_of h1 (k.hd h2 fun z => by rw [z, hb0] at h1; cases h1)
theorem Th.kp {K : PySem.W.Frag} {H H1 H2 : Hp} {b : Addr} {o : HO} {m : Nat} {v : V} (h : Th K H H1 m v) (hb0 : H b = some o) (k : Kp b H1 H2) : Th K H H2 m v := by
  obtain ⟨d, h1, h2⟩ := h
  exact ⟨d, dp_same (nw_kp hb0 k) h1, h2⟩
theorem Th.le {K : PySem.W.Frag} {H H1 : Hp} {m n : Nat} {v : V} (h : Th K H H1 m v) (l : m ≤ n) : Th K H H1 n v := by
  obtain ⟨d, h1, h2, h3, h4⟩ := h
  exact ⟨d, h1, h2, by omega, h4⟩
theorem ths_all {K : PySem.W.Frag} {H H1 : Hp} {m : Nat} {ys : List V} (h : ∀ v ∈ ys, Th K H H1 m v) : ∃ ds, DpAll K (nw H H1) ys ds ∧ okAll ds = true ∧ depAll ds ≤ m ∧ ds.length = ys.length :=
  okAll_mem fun v hv => by
    obtain ⟨d, h1, h2, h3, _⟩ := h v hv
    exact ⟨d, h1, h2, h3⟩
theorem Th.tup {K : PySem.W.Frag} {H H1 : Hp} {m : Nat} {p : Addr} {ys : List V} (h0 : H p = none) (h1 : H1 p = some (.tup ys)) (h : ∀ v ∈ ys, Th K H H1 m v) (l : ys.length ≤ 10) : Th K H H1 (m + 1) (.ref p) := by
  obtain ⟨ds, a, b, c, e⟩ := ths_all h
  refine ⟨.tuple ds, .tup (.inl (.inl (nw_of h0 h1))) a, okD_tup.mpr ⟨by omega, b⟩, ?_, fun i z => by cases z⟩
  show depAll ds + 1 ≤ m + 1
  omega
theorem Th.lst {K : PySem.W.Frag} {H H1 : Hp} {m : Nat} {p : Addr} {ys : List V} (h0 : H p = none) (h1 : H1 p = some (.lst ys)) (h : ∀ v ∈ ys, Th K H H1 m v) (l : ys.length ≤ 10) : Th K H H1 (m + 1) (.ref p) := by
  obtain ⟨ds, a, b, c, e⟩ := ths_all h
  refine ⟨.list ds, .lst (SqL.of (nw_of h0 h1)) a, okD_lst.mpr ⟨by omega, b⟩, ?_, fun i z => by cases z⟩
  show depAll ds + 1 ≤ m + 1
  omega
theorem ok__law_pair (T : Txt w K mg) : FnOk P w K mg base CX0 3 T.a__law_pair T.d__law_pair ["bag"] (sp_pair K) := by
  refine T.F__law_pair.ok sc__law_pair (fun vs H Q E h => ?_) (fun cdv A outer s H vs Q E hr h => ?_)
  · obtain ⟨b, c, rfl, _⟩ := h
    rfl
  · obtain ⟨b, c, rfl, B, k⟩ := h
    have hr__law_draw : Room 1 _ := hr.mono (by decide)
    have G__law_draw := ok__law_draw (P := P) (base := base) T
    have hr__law_of : Room 2 _ := hr.mono (by decide)
    have G__law_of := ok__law_of (P := P) (base := base) T
    have hr__law_whole : Room 1 _ := hr.mono (by decide)
    have G__law_whole := ok__law_whole (P := P) (base := base) T
    have hr__law_low : Room 1 _ := hr.mono (by decide)
    have G__law_low := ok__law_low (P := P) (base := base) T
    refine ⟨_, (pss_cons (ps_set (i := 1) sc__law_pair.nd rfl (Or.inl rfl) (pe_call G__law_of hr__law_of (by rfl) T.m__law_of T.F__law_of.kp T.B__law_of .nil pass0 (pa_cons (pv 0) (pa_cons (pe_lstU (pa_cons pe_int (pa_cons pe_int (pa_cons pe_int (pa_cons (pe_un un_neg pe_int) (pa_cons pe_int (pa_cons (pe_un un_neg pe_int) (pa_cons pe_int (pa_cons pe_bl (pa_cons pe_str (pa_cons pe_non (pa_cons pe_int (pa_cons (pe_call G__law_draw hr__law_draw (by rfl) T.m__law_draw T.F__law_draw.kp T.B__law_draw .nil pass0 (pa_cons (pv 0) (pa_cons (pe_op op_pow pe_int pe_int) pa_nil))) (pa_cons (pe_call G__law_draw hr__law_draw (by rfl) T.m__law_draw T.F__law_draw.kp T.B__law_draw .nil pass0 (pa_cons (pv 0) (pa_cons (pe_op op_pow pe_int pe_int) pa_nil))) (pa_cons (pe_un un_neg pe_int) pa_nil))))))))))))))) pa_nil))))
      (pss_cons (ps_set (i := 2) sc__law_pair.nd rfl (Or.inl rfl) (pe_call G__law_of hr__law_of (by rfl) T.m__law_of T.F__law_of.kp T.B__law_of .nil pass0 (pa_cons (pv 0) (pa_cons (pe_lstU (pa_cons pe_int (pa_cons pe_int (pa_cons pe_int (pa_cons pe_int (pa_cons pe_int (pa_cons pe_int (pa_cons pe_int (pa_cons pe_int (pa_cons pe_int (pa_cons (pe_un un_neg pe_int) (pa_cons pe_bl (pa_cons pe_str (pa_cons pe_non (pa_cons (pe_call G__law_draw hr__law_draw (by rfl) T.m__law_draw T.F__law_draw.kp T.B__law_draw .nil pass0 (pa_cons (pv 0) (pa_cons pe_int pa_nil))) (pa_cons (pe_tupU (pa_cons pe_int pa_nil)) pa_nil)))))))))))))))) pa_nil))))
      (pss_cons (ps_if (PW.pt (pw_and (pt_cmpR op_eqI (pe_call G__law_draw hr__law_draw (by rfl) T.m__law_draw T.F__law_draw.kp T.B__law_draw .nil pass0 (pa_cons (pv 0) (pa_cons pe_int pa_nil))) pe_int (nomark _)) (pw_and (pt_val (pe_call G__law_whole hr__law_whole (by rfl) T.m__law_whole T.F__law_whole.kp T.B__law_whole .nil pass0 (pa_cons (pv 2) pa_nil))) (pw_and1 (pt_cmpR op_gt (pv 2) pe_int (nomark _)))))) (pss_cons (ps_set (i := 1) sc__law_pair.nd rfl (Or.inl rfl) (pe_call G__law_of hr__law_of (by rfl) T.m__law_of T.F__law_of.kp T.B__law_of .nil pass0 (pa_cons (pv 0) (pa_cons (pe_lstU (pa_cons (pe_op op_mulW pe_int (pv 2)) (pa_cons (pe_op op_sub (pe_op op_mulW pe_int (pv 2)) pe_int) (pa_cons (pe_op op_add (pe_op op_mulW pe_int (pv 2)) pe_int) (pa_cons (pe_op op_sub pe_int (pe_op op_mulW pe_int (pv 2))) (pa_cons (pe_op op_sub (pe_op op_sub pe_int (pe_op op_mulW pe_int (pv 2))) pe_int) pa_nil)))))) pa_nil))))
      (pss_one (ps_if (pt_cmpR op_eqI (pe_call G__law_draw hr__law_draw (by rfl) T.m__law_draw T.F__law_draw.kp T.B__law_draw .nil pass0 (pa_cons (pv 0) (pa_cons pe_int pa_nil))) pe_int (nomark _)) (pss_one (ps_ret (pe_call G__law_low hr__law_low (by rfl) T.m__law_low T.F__law_low.kp T.B__law_low .nil pass0 (pa_cons (pv 1) (pa_cons (pv 2) pa_nil))))) pss_nil))) pss_nil)
      (pss_one (ps_ret (pe_call G__law_of hr__law_of (by rfl) T.m__law_of T.F__law_of.kp T.B__law_of .nil pass0 (pa_cons (pv 0) (pa_cons (pe_lstU (pa_cons (pe_tupU (pa_cons (pv 1) (pa_cons (pv 2) pa_nil))) (pa_cons (pe_tupU (pa_cons (pv 1) (pa_cons (pv 2) pa_nil))) (pa_cons (pe_lstU (pa_cons (pv 1) (pa_cons (pv 2) pa_nil))) (pa_cons (pe_tupU (pa_cons (pv 1) (pa_cons (pv 2) (pa_cons pe_int pa_nil)))) (pa_cons (pe_tupU (pa_cons (pv 1) pa_nil)) (pa_cons (pe_tupU (pa_cons (pe_tupU (pa_cons (pv 1) (pa_cons (pv 2) pa_nil))) pa_nil)) pa_nil))))))) pa_nil)))))))), ?_⟩
    refine seq_op fun N hN => ?_
    walk_at "rs"
    obtain ⟨xb, eb⟩ := B.at
    refine ⟨by decide, b, c, 10 ^ 6, rfl, B, by decide, by decide, fun r1 H1 r10 r11 B1 K1 => ⟨by decide, b, c, 10 ^ 6, rfl, B1, by decide, by decide, fun r2 H2 r20 r21 B2 K2 => ⟨(show 14 ≤ sizeLine by decide), fun p H3 s3 n3 h3 => of_new B2 s3 n3 h3 (by simp) (show 14 ≤ 1000000 by decide) fun y H4 hy B4 K4 => hN _ _ ?_⟩⟩⟩
    clear hN N
    have tp : Lf y := by
      simp only [List.mem_cons, List.mem_nil_iff, or_false] at hy
      rcases hy with rfl | rfl | rfl | rfl | rfl | rfl | rfl | rfl | rfl | rfl | rfl | rfl | rfl | rfl <;> first | exact Lf.non | exact Lf.bl _ | exact Lf.one | exact Lf.int (by omega)
    have K14 := Same.trans K1 (Same.trans K2 K4)
    clear hy h3
    refine seq_op fun N hN => ?_
    walk_at "rs"
    refine ⟨b, c, 10002, rfl, B4, by decide, by decide, fun r3 H5 r30 r31 B5 K5 => ⟨by decide, fun q H6 s6 n6 h6 => ⟨(show 15 ≤ sizeLine by decide), fun p H7 s7 n7 h7 => ?_⟩⟩⟩
    obtain ⟨xb5, eb5⟩ := B5.at
    have K15 := Same.trans K14 K5
    have nq : H q = none := Kp.bn K15 eb5 n6
    refine of_new (B5.same s6) s7 n7 h7 (by simp) (show 15 ≤ 1000000 by decide) fun z H8 hz B8 K8 => hN _ _ ?_
    clear hN N
    have K68 : Kp b H6 H8 := K8
    have h8 : H8 q = some (.tup [.int 1]) := K68.hd h6 (fun e => by rw [e, eb5] at n6; cases n6)
    have K18 : Kp b H H8 := Same.trans K15 (Same.trans (Kp.of s6) K8)
    have tl8 : Th K H H8 1 z := by
      simp only [List.mem_cons, List.mem_nil_iff, or_false] at hz
      rcases hz with rfl | rfl | rfl | rfl | rfl | rfl | rfl | rfl | rfl | rfl | rfl | rfl | rfl | rfl | rfl <;> first | exact Lf.non.th | exact (Lf.bl _).th | exact Lf.one.th | exact (Lf.int (by omega)).th | exact Th.tup nq h8 (fun v hv => by obtain rfl := List.mem_singleton.mp hv; exact (Lf.int (by decide)).th (m := 0)) (by decide)
    have zi : ∀ i, z = .int i → i.natAbs ≤ 20000 := by
      intro i e
      subst e
      simp only [List.mem_cons, List.mem_nil_iff, or_false, V.int.injEq, reduceCtorEq, false_or] at hz
      omega
    clear hz h7 h8 K68
    refine cut_seq (fun σ H9 => ∃ y, σ = [some (.ref b), some y, some z] ∧ Lf y ∧ Th K H H9 1 z ∧ Bag H9 b c ∧ Kp b H H9) (fun N hN => ?_) ?_
    · walk_at "rs"
      refine ⟨b, c, 3, rfl, B8, by decide, by decide, fun r4 H9 _ _ B9 K9 => ?_⟩
      have tl9 := tl8.kp eb K9
      have K19 := Same.trans K18 K9
      refine ⟨r4, rfl, ite2 (fun _ => ?_) (fun _ => hN _ _ ⟨y, rfl, tp, tl9, B9, K19⟩)⟩
      obtain ⟨d, hd, hok, hdep, hi⟩ := id tl9
      refine ⟨z, d, rfl, dp_same (nw_le _ _) hd, fun H10 s10 => ⟨_, rfl, ite2 (fun e => ?_) (fun _ => hN _ _ ⟨y, rfl, tp, tl9.kp eb (Kp.of s10), B9.same s10, Same.trans K19 (Kp.of s10)⟩)⟩⟩
      obtain ⟨i, rfl⟩ : ∃ i, z = .int i := by
        cases hd with
        | int i => exact ⟨i, rfl⟩
        | _ => cases e
      replace hi := hi i rfl
      have B10 := B9.same s10
      have K110 := Same.trans K19 (Kp.of s10)
      clear hd hok hdep e
      refine ⟨i, rfl, ite2 (fun i0 => ?_) (fun _ => hN _ _ ⟨y, rfl, tp, Lf.th (Lf.int hi), B10, K110⟩)⟩
      have m99 : CMulW 99 i := wide_mul (a := 8) (b := 8000) (by decide) (pow_le hi (by decide)) (by decide) (by decide) (by decide)
      refine seq_op fun N2 hN2 => ?_
      walk_at "rs"
      refine ⟨m99, m99, m99, m99, m99, (show 5 ≤ sizeLine by decide), fun p H11 s11 n11 h11 => of_new B10 s11 n11 h11 (by simp) (show 5 ≤ 1000000 by decide) fun y2 H12 hy2 B12 K12 => hN2 _ _ ?_⟩
      clear hN2 N2
      have K112 := Same.trans K110 K12
      have zi' := zi i rfl
      obtain ⟨j, rfl, hj⟩ : ∃ j : Int, y2 = .int j ∧ j.natAbs ≤ 3000000 := by
        simp only [List.mem_cons, List.mem_nil_iff, or_false] at hy2
        rcases hy2 with h | h | h | h | h <;> exact ⟨_, h, by omega⟩
      clear hy2 h11
      walk_at "rs"
      refine ⟨b, c, 2, rfl, B12, by decide, by decide, fun r5 H13 _ _ B13 K13 => ⟨r5, rfl, ite2 (fun _ => ?_) (fun _ => hN _ _ ⟨_, rfl, Lf.int (by omega), Lf.th (Lf.int hi), B13, Same.trans K112 K13⟩)⟩⟩
      obtain ⟨_, _, f3, _, f5, f6, _⟩ := fr_spec j (show i ≠ 0 by omega)
      refine ⟨j, i, ⟨rfl, rfl⟩, by omega, pow_le (a := 64) (by omega) (by decide), pow_le hi (by decide), fun t H14 s14 n14 h14 => ?_⟩
      have K113 := Same.trans K112 K13
      obtain ⟨xb13, eb13⟩ := B13.at
      obtain ⟨d, h1, h2, h3, _⟩ := Th.tup (K := K) (H := H) (m := 0) (Kp.bn K113 eb13 n14) h14 (fun v hv => by
        simp only [List.mem_cons, List.mem_nil_iff, or_false] at hv
        rcases hv with rfl | rfl <;> exact Lf.th (Lf.int (by omega))) (show 2 ≤ 10 by decide)
      exact k _ d H14 (B13.same s14) (Same.trans K113 (Kp.of s14)) h1 h2 (by omega)
    · rintro σ H9 ⟨y, rfl, tp, tl9, B9, K19⟩
      obtain ⟨xb9, eb9⟩ := B9.at
      walk_at "rs"
      refine ⟨(show 2 ≤ sizeLine by decide), fun p1 G1 t1 n1 h1 => ⟨(show 2 ≤ sizeLine by decide), fun p2 G2 t2 n2 h2 => ⟨(show 2 ≤ sizeLine by decide), fun p3 G3 t3 n3 h3 => ⟨(show 3 ≤ sizeLine by decide), fun p4 G4 t4 n4 h4 => ⟨(show 1 ≤ sizeLine by decide), fun p5 G5 t5 n5 h5 => ⟨(show 2 ≤ sizeLine by decide), fun p6 G6 t6 n6 h6 => ⟨(show 1 ≤ sizeLine by decide), fun p7 G7 t7 n7 h7 => ⟨(show 6 ≤ sizeLine by decide), fun p8 G8 t8 n8 h8 => ?_⟩⟩⟩⟩⟩⟩⟩⟩
      have u2 := Same.trans t1 t2
      have u3 := Same.trans u2 t3
      have u4 := Same.trans u3 t4
      have u5 := Same.trans u4 t5
      have u6 := Same.trans u5 t6
      have u7 := Same.trans u6 t7
      refine of_new (B9.same u7) t8 n8 h8 (by simp) (show 6 ≤ 1000000 by decide) fun v H10 hv B10 K10 => ?_
      have K910 : Kp b H9 H10 := Same.trans (Kp.of u7) K10
      have K110 := Same.trans K19 K910
      have hn : ∀ {p : Addr} {G : Hp}, Same H9 G → G p = none → H p = none ∧ p ≠ b := fun {p G} s n => by
        have n9 := Same.dom s p n
        exact ⟨Kp.bn K19 eb9 n9, fun z => by rw [z, eb9] at n9; cases n9⟩
      have up : ∀ {p : Addr} {G : Hp} {o : HO}, p ≠ b → Same G G7 → G p = some o → H10 p = some o := fun {p G o} n s h => K10.hd (s _ _ h) n
      obtain ⟨m1, b1⟩ := hn (Same.refl _) n1
      obtain ⟨m2, b2⟩ := hn t1 n2
      obtain ⟨m3, b3⟩ := hn u2 n3
      obtain ⟨m4, b4⟩ := hn u3 n4
      obtain ⟨m5, b5⟩ := hn u4 n5
      obtain ⟨m6, b6⟩ := hn u5 n6
      obtain ⟨m7, b7⟩ := hn u6 n7
      have v7 := t7
      have v6 := Same.trans t6 v7
      have v5 := Same.trans t5 v6
      have v4 := Same.trans t4 v5
      have v3 := Same.trans t3 v4
      have v2 := Same.trans t2 v3
      have ty : Th K H H10 1 y := tp.th
      have tz : Th K H H10 1 z := tl9.kp eb K910
      have t1' : Th K H H10 1 (.int 1) := Lf.th (Lf.int (by decide))
      have two : ∀ w ∈ [y, z], Th K H H10 1 w := fun w hw => by
        simp only [List.mem_cons, List.mem_nil_iff, or_false] at hw
        rcases hw with rfl | rfl <;> assumption
      have res : Th K H H10 3 v := by
        simp only [List.mem_cons, List.mem_nil_iff, or_false] at hv
        rcases hv with rfl | rfl | rfl | rfl | rfl | rfl
        · exact (Th.tup m1 (up b1 v2 h1) two (show 2 ≤ 10 by decide)).le (by decide)
        · exact (Th.tup m2 (up b2 v3 h2) two (show 2 ≤ 10 by decide)).le (by decide)
        · exact (Th.lst m3 (up b3 v4 h3) two (show 2 ≤ 10 by decide)).le (by decide)
        · refine (Th.tup m4 (up b4 v5 h4) (m := 1) (fun w hw => ?_) (show 3 ≤ 10 by decide)).le (by decide)
          simp only [List.mem_cons, List.mem_nil_iff, or_false] at hw
          rcases hw with rfl | rfl | rfl <;> assumption
        · refine (Th.tup m5 (up b5 v6 h5) (m := 1) (fun w hw => ?_) (show 1 ≤ 10 by decide)).le (by decide)
          obtain rfl := List.mem_singleton.mp hw
          exact ty
        · refine (Th.tup m7 (up b7 (Same.refl _) h7) (m := 2) (fun w hw => ?_) (show 1 ≤ 10 by decide)).le (by decide)
          obtain rfl := List.mem_singleton.mp hw
          exact Th.tup m6 (up b6 v7 h6) two (show 2 ≤ 10 by decide)
      obtain ⟨d, h1, h2, h3, _⟩ := res
      exact k v d H10 B10 K110 h1 h2 h3
end
end LK

set_option Elab.async false
set_option linter.all false
set_option maxRecDepth 100000
namespace LK
open PySem PySem.Spec PyProof.Rows L2
local macro_rules | `(tactic| walk_at "rs") => `(tactic| simp only [cxK, cxNK, tCallZ, tAsg, tOp, rI0, rS0, rB0, rI, rU, tUn, rEq, rNe, rIxL, rIxT, rIxS, rSetL, rSlLU, rSlS, rSlU, rCatL, rCatU, rRepL, rRepS, rIn, tVar, tC, gName, gSub, tIfS, tTest, tB, tAnd, tOr, tNot, tNotV, tAndV, tOrV, tIf, tCall, tCons, tNil, tCB, tDrop, tRet, tRetN, tNext, tLstU, tTupU, tM0, tM1, tPar, tPar3, tAug, ipI, tBM, tBM0, rAppend, rPop, tBreak, tCont, tChain, tSl, tPart, tNoPart, L2.start, List.map, List.length_cons, List.length_nil, List.replicate, List.cons_append, List.nil_append, List.append_nil, List.getElem?_cons_zero, List.getElem?_cons_succ, List.set_cons_zero, List.set_cons_succ, Option.some.injEq, V.int.injEq, V.ref.injEq, V.str.injEq, V.bl.injEq, exists_eq_left', exists_eq_left, exists_and_left, decide_eq_true_eq, List.cons.injEq, and_true, true_and, scal, Bool.not_eq_true', decide_eq_false_iff_not, Nat.zero_add, Nat.reduceAdd, Nat.reduceSub, reduceCtorEq, false_and, exists_false, false_or, or_false, CPow, CMul, CDiv, Int.reduceToNat, ↓reduceIte, wipe, sw, List.nil_append, List.singleton_append])
local macro_rules | `(tactic| walk_at "st") => `(tactic| (refine seq_op fun N hN => ?_; walk_at "rs"))
local macro_rules | `(tactic| walk_at "sd") => `(tactic| first | assumption | decide | omega)
local macro_rules | `(tactic| walk_at "rd") => `(tactic| repeat (first
  | refine ⟨_, SqL.of (by assumption), ?_⟩ | refine ⟨_, SqL.of upd_same, ?_⟩ | refine ⟨_, .inl (SqL.of (by assumption)), ?_⟩ | refine ⟨_, (by assumption : _ = some (HO.lst _)), ?_⟩ | refine ⟨_, upd_same, ?_⟩
  | refine ⟨_, rfl, ?_⟩ | refine And.intro (by walk_at "sd") ?_))

open TL
section
variable {P : Program} {w : World} {K : PySem.W.Frag} {mg : Str → Option Value} {base : Heap}
/-- the body of _law_of, its answer as it is -/
theorem of_run (T : Txt w K mg) {A : Around} {outer : List Env} {s : Shared} {H : Hp} {b c p : Addr} {o : Obj} {zs : List V} {its : List Value} {n : Nat} {R : Value → Hp → Prop} (hr : Room 2 A) (e0 : Env0 P w K mg base A outer s H) (B : Bag H b c)
    (hp : H p = some (.frz o (.lst zs))) (hc : o.cls = .type "list") (hd : o.data = .seq its.toArray n) (nb : p ≠ b) (ne : 0 < zs.length) (hl : zs.length ≤ 1000000) (hv : Vals zs its)
    (k : ∀ (j : Nat) (u : Value) H', its[j]? = some u → Bag H' b c → Kp b H H' → R u H') :
    codeAny (model P w) A (.call (.ref T.a__law_of) ⟨[.ref b, .ref p], []⟩) (fun r s' => match r with
      | .ok (.ret u) => CE outer P w H s (fun _ H' => R u H') u s'
      | .ok _ => False
      | .error _ => False) s := by
  have S := sc__law_of
  obtain ⟨oc, od, kV, doc, pm, an, cdv, ct, osl, efd, lk, hcd⟩ := T.F__law_of.ex
  have KX : K.In s.heap := e0.mod.kin.keeps fun b o e => (e0.bs b o e).1
  have lim : s.heap.NoLimit := e0.mod.nolimit.keeps fun b o e => (e0.bs b o e).1
  have r : Vals [V.ref b, V.ref p] [Value.ref b, .ref p] := .cons rfl (.cons rfl .nil)
  have kinds : ∀ y ∈ (["bag", "things"] : List Str).zip [Value.ref b, .ref p], (defScope s__law_of).names.lookup y.1 = some .local ∨ ((defScope s__law_of).names.lookup y.1 = some .cell ∧ ((cellsFrom (s.heap.objs.size + 1) (defScope s__law_of).names []).lookup y.1).isSome = true) := fun y hy =>
    (S.par y.1 (List.of_mem_zip (a := y.1) (b := y.2) hy).1).imp id fun q => ⟨q, PySem.W.cellsFrom_some _ _ _ (.inl q)⟩
  have hb := T.B__law_of
  rw [efd] at hb lk
  refine codeAny_call_function hr.depth (KX _ _ lk) rfl S.co S.gen rfl (PySem.W.codeRec_of KX hcd) ((hb s [Value.ref b, .ref p] KX rfl) _ _ _ _ ?_)
  refine wpAny_newFunctionEnv_cells S.kind kinds fun ev he s1 fresh => ?_
  cases he
  refine ⟨lim.keeps fresh.toInCall.keep, codeAny_func ?_⟩
  have I : Inv (cxOf CX0 P w K mg base N__law_of "_law_of" (defScope s__law_of) T.a__law_of cdv A outer s H E0) [] (start N__law_of [V.ref b, V.ref p]) H s1 := inv_start S hr.hd e0 rfl r fresh
  have hr2 : Room 1 (A.deeper (envOfC "_law_of" (defScope s__law_of) s.heap.objs.size T.a__law_of cdv)) := hr.deeper _
  have hr__law_draw : Room 1 _ := hr2
  have G__law_draw := ok__law_draw (P := P) (base := base) T
  refine wpAny_execs_cons (wpAny_Return_some (Subscript_ (binT (X := cxOf CX0 P w K mg base N__law_of "_law_of" (defScope s__law_of) T.a__law_of cdv A outer s H E0) (pv 1) (pe_call G__law_draw hr__law_draw (by rfl) T.m__law_draw T.F__law_draw.kp T.B__law_draw .nil pass0 (pa_cons (pv 0) (pa_cons (pe_callB call_len (by rfl) T.n_len (by decide +kernel) (pa_cons (pv 1) pa_nil)) pa_nil))) I (R := fun x y H2 => x = .ref p ∧ ∃ i : Int, y = .int i ∧ 0 ≤ i ∧ i < zs.length ∧ Bag H2 b c ∧ Kp b H H2) ?_ fun v u s2 x y H2 I2 rx ry q => ?_)))
  · have hq : SqL K H p zs := .inl (.inr ⟨o, hp⟩)
    walk_at "rs"
    exact ⟨zs.length, .inl ⟨_, hq, rfl⟩, b, c, _, rfl, B, by omega, by omega, fun r H' r0 r1 B' K' => ⟨r, rfl, r0, r1, B', K'⟩⟩
  · obtain ⟨rfl, i, rfl, i0, i1, B2, K2⟩ := q
    have ev : v = Value.ref p := rx
    subst ev
    obtain ⟨t, rfl⟩ := ry
    have h2 : H2 p = some (.frz o (.lst zs)) := K2.hd hp nb
    have ob : s2.heap.get? p = some o := (I2.hok p _ h2).1
    have isl : s2.heap.IsList p its.toArray := ⟨o, ob, hc, n, hd⟩
    have ll := hv.length
    obtain ⟨u, eu⟩ : ∃ u, its[i.toNat]? = some u := ⟨_, List.getElem?_eq_getElem (by omega)⟩
    obtain ⟨w', ew, rw'⟩ := hv.get (i := i.toNat) (x := zs[i.toNat]'(by omega)) (List.getElem?_eq_getElem _)
    rw [eu] at ew
    cases ew
    refine item_listR isl i0 (by omega) (by simpa using eu) ?_ rfl
    exact ⟨_, H2, I2.os, I2.bare, I2.base, I2.hok, rw', k i.toNat u H2 eu B2 K2⟩
end
end LK

set_option Elab.async false
set_option linter.all false
set_option maxRecDepth 100000
namespace LK
open PySem PySem.Spec PyProof.Rows L2
local macro_rules | `(tactic| walk_at "rs") => `(tactic| simp only [cxK, cxNK, tCallZ, tAsg, tOp, rI0, rS0, rB0, rI, rU, tUn, rEq, rNe, rIxL, rIxT, rIxS, rSetL, rSlLU, rSlS, rSlU, rCatL, rCatU, rRepL, rRepS, rIn, tVar, tC, gName, gSub, tIfS, tTest, tB, tAnd, tOr, tNot, tNotV, tAndV, tOrV, tIf, tCall, tCons, tNil, tCB, tDrop, tRet, tRetN, tNext, tLstU, tTupU, tM0, tM1, tPar, tPar3, tAug, ipI, tBM, tBM0, rAppend, rPop, tBreak, tCont, tChain, tSl, tPart, tNoPart, L2.start, List.map, List.length_cons, List.length_nil, List.replicate, List.cons_append, List.nil_append, List.append_nil, List.getElem?_cons_zero, List.getElem?_cons_succ, List.set_cons_zero, List.set_cons_succ, Option.some.injEq, V.int.injEq, V.ref.injEq, V.str.injEq, V.bl.injEq, exists_eq_left', exists_eq_left, exists_and_left, decide_eq_true_eq, List.cons.injEq, and_true, true_and, scal, Bool.not_eq_true', decide_eq_false_iff_not, Nat.zero_add, Nat.reduceAdd, Nat.reduceSub, reduceCtorEq, false_and, exists_false, false_or, or_false, CPow, CMul, CDiv, Int.reduceToNat, ↓reduceIte, wipe, sw, List.nil_append, List.singleton_append])
local macro_rules | `(tactic| walk_at "st") => `(tactic| (refine seq_op fun N hN => ?_; walk_at "rs"))
local macro_rules | `(tactic| walk_at "sd") => `(tactic| first | assumption | decide | omega)
local macro_rules | `(tactic| walk_at "rd") => `(tactic| repeat (first
  | refine ⟨_, SqL.of (by assumption), ?_⟩ | refine ⟨_, SqL.of upd_same, ?_⟩ | refine ⟨_, .inl (SqL.of (by assumption)), ?_⟩ | refine ⟨_, (by assumption : _ = some (HO.lst _)), ?_⟩ | refine ⟨_, upd_same, ?_⟩
  | refine ⟨_, rfl, ?_⟩ | refine And.intro (by walk_at "sd") ?_))

open TL
section
variable {X : Cx}
/-- written texts, one behind the other: their tokens are told -/
theorem consts_run {Q : List Value → Shared → Prop} {pos : Pos} : ∀ (es : List (Str × Nat × Pos)) (s : Shared), Q (strsFrom s.toks (es.map (·.1))) { s with toks := s.toks + es.length } →
    wpAny (model X.prog X.w) X.A (spliced (backTo pos (starEach (es.map fun e => Expr.Constant (.str e.1) e.2.1 e.2.2) X.env))) Q X.xe s
  | [], s, h => Calls.spliced_nil h
  | e :: es, s, h => by
    have ih0 := consts_run (Q := fun us s' => Q (.str e.1 s.toks :: us) s') (pos := pos) es { s with toks := s.toks + 1 }
    have hs : starEach ((e :: es).map fun e => Expr.Constant (.str e.1) e.2.1 e.2.2) X.env = (false, eval (Expr.Constant (.str e.1) e.2.1 e.2.2) X.env) :: starEach (es.map fun e => Expr.Constant (.str e.1) e.2.1 e.2.2) X.env := rfl
    rw [hs]
    generalize starEach (es.map fun e => Expr.Constant (.str e.1) e.2.1 e.2.2) X.env = rest at ih0
    show wpAny _ _ (spliced ((false, eval (Expr.Constant (.str e.1) e.2.1 e.2.2) X.env) :: backTo pos rest)) _ _ s
    apply Calls.spliced_cons
    apply Calls.Constant_str
    have e1 : ({ s with toks := s.toks + 1 + es.length } : Shared) = { s with toks := s.toks + (e :: es).length } := by
      rw [List.length_cons, show s.toks + 1 + es.length = s.toks + (es.length + 1) by omega]
    refine ih0 ?_
    show Q (strsFrom s.toks ((e :: es).map (·.1))) ({ s with toks := s.toks + 1 + es.length } : Shared)
    rw [e1]
    exact h
theorem strs_vals : ∀ (zs : List Str) (k : Nat), Vals (zs.map V.str) (strsFrom k zs)
  | [], _ => .nil
  | z :: zs, k => .cons ⟨_, rfl⟩ (strs_vals zs (k + 1))
theorem strsFrom_len : ∀ (zs : List Str) (k : Nat), (strsFrom k zs).length = zs.length
  | [], _ => rfl
  | z :: zs, k => by
    show (strsFrom (k + 1) zs).length + 1 = zs.length + 1
    rw [strsFrom_len zs]
theorem strsFrom_get : ∀ (zs : List Str) (k j : Nat) (u : Value), (strsFrom k zs)[j]? = some u → ∃ z, zs[j]? = some z ∧ u = .str z (k + j)
  | [], _, _, _, h => by simp [strsFrom] at h
  | z :: zs, k, 0, u, h => by
    have h2 : some (Value.str z k) = some u := h
    cases h2
    exact ⟨z, rfl, rfl⟩
  | z :: zs, k, j + 1, u, h => by
    have h2 : (strsFrom (k + 1) zs)[j]? = some u := h
    obtain ⟨y, h3, h4⟩ := strsFrom_get zs (k + 1) j u h2
    refine ⟨y, h3, ?_⟩
    rw [h4, show k + 1 + j = k + (j + 1) by omega]
end
end LK

set_option Elab.async false
set_option linter.all false
set_option maxRecDepth 100000
namespace LK
open PySem PySem.Spec PyProof.Rows L2
local macro_rules | `(tactic| walk_at "rs") => `(tactic| simp only [cxK, cxNK, tCallZ, tAsg, tOp, rI0, rS0, rB0, rI, rU, tUn, rEq, rNe, rIxL, rIxT, rIxS, rSetL, rSlLU, rSlS, rSlU, rCatL, rCatU, rRepL, rRepS, rIn, tVar, tC, gName, gSub, tIfS, tTest, tB, tAnd, tOr, tNot, tNotV, tAndV, tOrV, tIf, tCall, tCons, tNil, tCB, tDrop, tRet, tRetN, tNext, tLstU, tTupU, tM0, tM1, tPar, tPar3, tAug, ipI, tBM, tBM0, rAppend, rPop, tBreak, tCont, tChain, tSl, tPart, tNoPart, L2.start, List.map, List.length_cons, List.length_nil, List.replicate, List.cons_append, List.nil_append, List.append_nil, List.getElem?_cons_zero, List.getElem?_cons_succ, List.set_cons_zero, List.set_cons_succ, Option.some.injEq, V.int.injEq, V.ref.injEq, V.str.injEq, V.bl.injEq, exists_eq_left', exists_eq_left, exists_and_left, decide_eq_true_eq, List.cons.injEq, and_true, true_and, scal, Bool.not_eq_true', decide_eq_false_iff_not, Nat.zero_add, Nat.reduceAdd, Nat.reduceSub, reduceCtorEq, false_and, exists_false, false_or, or_false, CPow, CMul, CDiv, Int.reduceToNat, ↓reduceIte, wipe, sw, List.nil_append, List.singleton_append])
local macro_rules | `(tactic| walk_at "st") => `(tactic| (refine seq_op fun N hN => ?_; walk_at "rs"))
local macro_rules | `(tactic| walk_at "sd") => `(tactic| first | assumption | decide | omega)
local macro_rules | `(tactic| walk_at "rd") => `(tactic| repeat (first
  | refine ⟨_, SqL.of (by assumption), ?_⟩ | refine ⟨_, SqL.of upd_same, ?_⟩ | refine ⟨_, .inl (SqL.of (by assumption)), ?_⟩ | refine ⟨_, (by assumption : _ = some (HO.lst _)), ?_⟩ | refine ⟨_, upd_same, ?_⟩
  | refine ⟨_, rfl, ?_⟩ | refine And.intro (by walk_at "sd") ?_))

open TL
section
variable {X : Cx}
/-- text.replace("/", _law_of(bag, [..])): what is asked -/
def tBent (L : List Str) : TE := fun σ H Q => ∃ x b c, σ[1]? = some (some (.str x)) ∧ σ[0]? = some (some (.ref b)) ∧ Bag H b c ∧ x.length ≤ 100000 ∧ ∀ z H', z ∈ L → Bag H' b c → Kp b H H' → Q (.str (Txt.replace x "/" z)) H'
theorem pet_bent (T : Txt X.w X.K X.mg) {kx bx : Str} {es : List (Str × Nat × Pos)} {j0 : Nat} {p1 pf pb pl pc c0 apos pos : Pos} (hr : Room 2 X.A) (hg : Gl X "_law_of")
    (hNk : X.N[1]? = some kx) (hvk : Vis X.env.scope kx) (hNb : X.N[0]? = some bx) (hvb : Vis X.env.scope bx)
    (hL : ∀ z ∈ es.map (·.1), z.length ≤ 3 ∧ ((Str.ofString "/") == z) = false) (hl0 : 0 < es.length) (hl1 : es.length ≤ 100)
    (hst : starEach [.Constant (.str "/") j0 c0, .Call (.Name "_law_of" pf) [.Name bx pb, .List (es.map fun e => Expr.Constant (.str e.1) e.2.1 e.2.2) pl] [] pc] X.env =
      [(false, eval (.Constant (.str "/") j0 c0) X.env), (false, eval (.Call (.Name "_law_of" pf) [.Name bx pb, .List (es.map fun e => Expr.Constant (.str e.1) e.2.1 e.2.2) pl] [] pc) X.env)])
    (hst2 : starEach [.Name bx pb, .List (es.map fun e => Expr.Constant (.str e.1) e.2.1 e.2.2) pl] X.env = [(false, eval (.Name bx pb) X.env), (false, eval (.List (es.map fun e => Expr.Constant (.str e.1) e.2.1 e.2.2) pl) X.env)])
    (hst3 : starEach [.List (es.map fun e => Expr.Constant (.str e.1) e.2.1 e.2.2) pl] X.env = [(false, eval (.List (es.map fun e => Expr.Constant (.str e.1) e.2.1 e.2.2) pl) X.env)])
    (hbase : attributeBase (.Name kx p1) "replace" X.env (eval (.Name kx p1) X.env) = eval (.Name kx p1) X.env) (hline : (apos.endLine == pos.line) = true)
    (hdk : (kx == ("__debug__" : Str)) = false) (hck : (kx == ("__classdict__" : Str)) = false) (hdb : (bx == ("__debug__" : Str)) = false) (hcb : (bx == ("__classdict__" : Str)) = false) :
    PET X (.Call (.Attribute (.Name kx p1) "replace" apos) [.Constant (.str "/") j0 c0, .Call (.Name "_law_of" pf) [.Name bx pb, .List (es.map fun e => Expr.Constant (.str e.1) e.2.1 e.2.2) pl] [] pc] [] pos) (tBent (es.map (·.1))) := by
  intro pins s σ H Q h0 I h
  obtain ⟨x, b, c, hx, hb, B, lx, q⟩ := h
  refine PySem.Call_method2 hbase hst hline (raw_name hNk hvk I hx (fun recv rr => ?_) hdk hck)
  obtain ⟨tx, rfl⟩ := rr
  refine ⟨"str", _, PySem.F.plainAttrs_str, PySem.F.slot_str_replace, PySem.F.type_str_replace, typeIs_str _ _ _, (fun _ e => nomatch e), Calls.callWith_builtin rfl (Calls.evalArgs_plain (Calls.spliced_cons (Calls.Constant_str (Calls.spliced_cons ?_))))⟩
  have I1 := I.tok (s.toks + 1)
  refine wpAny_Call_Name_kw (ld_glob I1 hg T.m__law_of ?_ (by decide))
  have listRun : ∀ (s' : Shared) (Q' : Value → Shared → Prop), (es.length ≤ sizeLine → Q' (.ref s'.heap.objs.size) { s' with toks := s'.toks + es.length, heap := s'.heap.push { cls := .type "list", data := .seq (strsFrom s'.toks (es.map (·.1))).toArray } }) → wpAny (model X.prog X.w) X.A (eval (.List (es.map fun e => Expr.Constant (.str e.1) e.2.1 e.2.2) pl) X.env) Q' X.xe s' := fun s' Q' hq' => by
    refine wpAny_List_spliced (consts_run es _ ?_)
    have e1 : (strsFrom s'.toks (es.map (·.1))).length = es.length := by rw [strsFrom_len, List.length_map]
    have hz : es.length ≤ sizeLine := Nat.le_trans hl1 (by decide)
    exact ⟨by rw [e1]; exact hz, hq' hz⟩
  generalize eval (.List (es.map fun e => Expr.Constant (.str e.1) e.2.1 e.2.2) pl) X.env = EL at hst2 hst3 listRun
  refine PySem.W.callWith_K (h₀ := X.base) I1.ok.mod.kin T.F__law_of.kp ?_ (by rw [hst2, hst3]) (by rw [hst3]; rfl)
  rw [hst2]
  show wpAny _ _ (spliced ((false, eval (.Name bx pb) X.env) :: [(false, EL)])) _ _ _
  refine Calls.spliced_cons (raw_name hNb hvb I1 hb (fun v r => ?_) hdb hcb)
  obtain rfl : v = Value.ref b := r
  refine Calls.spliced_cons (listRun _ _ fun hz => Calls.spliced_nil ?_)
  have hf : H s.heap.objs.size = none := I1.hok.fresh (Nat.le_refl _)
  have vv := strs_vals (es.map (·.1)) (s.toks + 1)
  have ll : ((es.map (·.1)).map V.str).length = es.length := by rw [List.length_map, List.length_map]
  have I2 : Inv X pins σ (L2.upd H s.heap.objs.size (.frz { cls := .type "list", data := .seq (strsFrom (s.toks + 1) (es.map (·.1))).toArray } (.lst ((es.map (·.1)).map V.str)))) { s with heap := s.heap.push { cls := .type "list", data := .seq (strsFrom (s.toks + 1) (es.map (·.1))).toArray }, toks := s.toks + 1 + es.length } :=
    I1.laid (t' := s.toks + 1 + es.length) (fun b o q => Heap.get?_push_of_some _ q) (Nat.le_refl _) ⟨Heap.get?_push_size _ rfl, by rw [ll]; exact hz, strsFrom (s.toks + 1) (es.map (·.1)), 0, vv, Heap.get?_push_size _ rfl⟩
  have h2 : L2.upd H s.heap.objs.size (.frz { cls := .type "list", data := .seq (strsFrom (s.toks + 1) (es.map (·.1))).toArray } (.lst ((es.map (·.1)).map V.str))) s.heap.objs.size = some _ := upd_same
  have s2 : Same H (L2.upd H s.heap.objs.size (.frz { cls := .type "list", data := .seq (strsFrom (s.toks + 1) (es.map (·.1))).toArray } (.lst ((es.map (·.1)).map V.str)))) := same_upd hf
  have nb : s.heap.objs.size ≠ b := fun e => by
    obtain ⟨xb, eb⟩ := B.at
    rw [e, eb] at hf; cases hf
  revert I2 h2 s2
  generalize L2.upd H s.heap.objs.size (.frz { cls := .type "list", data := .seq (strsFrom (s.toks + 1) (es.map (·.1))).toArray } (.lst ((es.map (·.1)).map V.str))) = H2
  intro I2 h2 s2
  have B2 := B.same s2
  refine ⟨I2.kIn, ?_⟩
  have run := of_run T (R := fun u H' => ∃ z t', u = .str z t' ∧ z ∈ es.map (·.1) ∧ s.toks < t' ∧ Bag H' b c ∧ Kp b H2 H') hr I2.env0 B2 h2 rfl rfl nb (by rw [ll]; exact hl0) (by rw [ll]; omega) vv (fun j u H' hj B' K' => by
    obtain ⟨z, e1, e2⟩ := strsFrom_get _ _ _ _ hj
    exact ⟨z, _, e2, List.mem_of_getElem? e1, by omega, B', K'⟩)
  refine wpAny_call (codeAny_mono run fun r s' hq => ?_)
  cases r with
  | error e => exact hq.elim
  | ok fl =>
    cases fl with
    | next => exact hq.elim
    | brk => exact hq.elim
    | cont => exact hq.elim
    | ret u =>
      obtain ⟨v, H', I3, rv, z, t', rfl, hz1, ht, B', K'⟩ := I2.after hq
      refine Calls.spliced_nil ?_
      obtain ⟨l3, ne⟩ := hL z hz1
      have lb : x.length + (x.length + 1) * z.length ≤ 16777216 := by
        have : (x.length + 1) * z.length ≤ 100001 * 3 := Nat.mul_le_mul (by omega) l3
        omega
      exact PySem.SC.replace (Nat.ne_of_gt h0) (Nat.ne_of_gt (Nat.lt_of_le_of_lt (Nat.zero_le _) ht)) (Nat.ne_of_lt ht) ne lb fun t2 k2 => ⟨.str (Txt.replace x "/" z), H', I3.tok k2, ⟨t2, rfl⟩, q z H' hz1 B' (Same.trans (Kp.of s2) K')⟩
end
end LK

set_option Elab.async false
set_option linter.all false
set_option maxRecDepth 100000
namespace LK
open PySem PySem.Spec PyProof.Rows L2
local macro_rules | `(tactic| walk_at "rs") => `(tactic| simp only [cxK, cxNK, tCallZ, tAsg, tOp, rI0, rS0, rB0, rI, rU, tUn, rEq, rNe, rIxL, rIxT, rIxS, rSetL, rSlLU, rSlS, rSlU, rCatL, rCatU, rRepL, rRepS, rIn, tVar, tC, gName, gSub, tIfS, tTest, tB, tAnd, tOr, tNot, tNotV, tAndV, tOrV, tIf, tCall, tCons, tNil, tCB, tDrop, tRet, tRetN, tNext, tLstU, tTupU, tM0, tM1, tPar, tPar3, tAug, ipI, tBM, tBM0, rAppend, rPop, tBreak, tCont, tChain, tSl, tPart, tNoPart, L2.start, List.map, List.length_cons, List.length_nil, List.replicate, List.cons_append, List.nil_append, List.append_nil, List.getElem?_cons_zero, List.getElem?_cons_succ, List.set_cons_zero, List.set_cons_succ, Option.some.injEq, V.int.injEq, V.ref.injEq, V.str.injEq, V.bl.injEq, exists_eq_left', exists_eq_left, exists_and_left, decide_eq_true_eq, List.cons.injEq, and_true, true_and, scal, Bool.not_eq_true', decide_eq_false_iff_not, Nat.zero_add, Nat.reduceAdd, Nat.reduceSub, reduceCtorEq, false_and, exists_false, false_or, or_false, CPow, CMul, CDiv, Int.reduceToNat, ↓reduceIte, wipe, sw, List.nil_append, List.singleton_append])
local macro_rules | `(tactic| walk_at "st") => `(tactic| (refine seq_op fun N hN => ?_; walk_at "rs"))
local macro_rules | `(tactic| walk_at "sd") => `(tactic| first | assumption | decide | omega)
local macro_rules | `(tactic| walk_at "rd") => `(tactic| repeat (first
  | refine ⟨_, SqL.of (by assumption), ?_⟩ | refine ⟨_, SqL.of upd_same, ?_⟩ | refine ⟨_, .inl (SqL.of (by assumption)), ?_⟩ | refine ⟨_, (by assumption : _ = some (HO.lst _)), ?_⟩ | refine ⟨_, upd_same, ?_⟩
  | refine ⟨_, rfl, ?_⟩ | refine And.intro (by walk_at "sd") ?_))

open TL
def bentEs : List (Str × Nat × Pos) := [("//", 0, ⟨182, 43, 182, 47⟩), (" / ", 0, ⟨182, 49, 182, 54⟩), (":", 0, ⟨182, 56, 182, 59⟩), ("/-", 0, ⟨182, 61, 182, 65⟩), ("/0", 0, ⟨182, 67, 182, 71⟩), ("", 0, ⟨182, 73, 182, 75⟩)]
theorem cutS_len3 (z : Str) (lo hi : Option Int) : (cutS z lo hi).length ≤ z.length := cutS_length z lo hi
theorem spl_sum : ∀ (l acc : List Nat), ((spl [47] 0 acc l).map List.length).sum ≤ acc.length + l.length ∧ (spl [47] 0 acc l).length ≤ l.length + 1
  | [], acc => by
    rw [spl_nil]
    simp
  | c :: r, acc => by
    cases e : pre [47] (c :: r) with
    | true =>
      obtain ⟨a, b⟩ := spl_sum r []
      rw [spl_hit e]
      have e2 : spl [47] ([47].length - 1) [] r = spl [47] 0 [] r := rfl
      rw [e2, List.map_cons, List.sum_cons, List.length_cons, List.length_cons]
      simp only [List.length_nil] at a
      omega
    | false =>
      obtain ⟨a, b⟩ := spl_sum r (acc ++ [c])
      rw [spl_miss e]
      simp only [List.length_append, List.length_cons, List.length_nil] at a ⊢
      omega
theorem split_sum (z : Str) : ((Txt.split z "/").map (·.length)).sum ≤ z.length ∧ (Txt.split z "/").length ≤ z.length + 1 := by
  have e := split_spl z "/" (by rw [tl_slash]; simp) (kind_ok (by decide +kernel))
  obtain ⟨a, b⟩ := spl_sum (tl z) []
  rw [tl_slash] at e
  rw [← e, List.map_map] at a
  rw [← e, List.length_map] at b
  have e2 : (Txt.split z "/").map (List.length ∘ tl) = (Txt.split z "/").map (·.length) := List.map_congr_left fun y _ => (len_tl y).symm
  rw [e2] at a
  rw [len_tl z]
  simp only [List.length_nil] at a
  exact ⟨by omega, b⟩
section
variable {P : Program} {w : World} {K : PySem.W.Frag} {mg : Str → Option Value} {base : Heap}
theorem Fun.okT {x qual : Str} {st : Stmt} {f : Addr} {fd : FuncData} {N ps : List Str} {k : Nat} {sp : Sp} (F : Fun K x qual st f fd) (S : FnScope N ps (defScope st)) (hnc : ∀ y ∈ (defScope st).names, y.2 ≠ .cell) (hps : 1 ≤ ps.length) (len : ∀ vs H Q E, sp vs H Q E → vs.length = ps.length)
    (hbody : ∀ (cdv : Value) (A : Around) (outer : List Env) (s : Shared) (H : Hp) (vs : List V) (Q : VK) (E : XK), Room k (A.deeper (envOfC qual (defScope st) s.heap.objs.size f cdv)) → sp vs H Q E →
      ∃ t, PSsT (cxOf CX0 P w K mg base N qual (defScope st) f cdv A outer s H E) (defBody st) t ∧ t { nx := fun _ H' => Q .non H', rt := Q } (start N vs) H) : FnOk P w K mg base CX0 (k + 1) f fd ps sp := by
  obtain ⟨oc, od, kV, doc, pm, an, cdv, ct, osl, rfl, lk, hcd⟩ := F.ex
  exact fn_ofT lk hcd S hnc hps len fun A outer s H vs Q E hr hsp => hbody cdv A outer s H vs Q E hr hsp
theorem ok__law_bent (T : Txt w K mg) : FnOk P w K mg base CX0 3 T.a__law_bent T.d__law_bent ["bag", "word"] sp__law_bent := by
  refine Fun.okT T.F__law_bent sc__law_bent (by decide +kernel) (by decide) (fun vs H Q E h => ?_) (fun cdv A outer s H vs Q E hr h => ?_)
  · obtain ⟨b, c, z, rfl, _⟩ := h
    rfl
  · obtain ⟨b, c, z, rfl, B, lz, k⟩ := h
    have hr__law_draw : Room 1 _ := hr.mono (by decide)
    have G__law_draw := ok__law_draw (P := P) (base := base) T
    have hr__law_of : Room 2 _ := hr.mono (by decide)
    have G__law_of := ok__law_of (P := P) (base := base) T
    refine ⟨_, (psst_cons (PST.of (ps_par (i := 2) (j := 3) (by rfl) sc__law_bent.nd rfl rfl (by decide) rfl rfl (pa_cons (pe_call G__law_draw hr__law_draw (by rfl) T.m__law_draw T.F__law_draw.kp T.B__law_draw .nil pass0 (pa_cons (pv 0) (pa_cons pe_int pa_nil))) (pa_cons (pe_call G__law_draw hr__law_draw (by rfl) T.m__law_draw T.F__law_draw.kp T.B__law_draw .nil pass0 (pa_cons (pv 0) (pa_cons (pe_op op_add (pe_callB call_len_str (by rfl) T.n_len (by decide +kernel) (pa_cons (pv 1) pa_nil)) pe_int) pa_nil))) pa_nil)) (by rfl)))
      (psst_cons (PST.of (ps_set (i := 4) sc__law_bent.nd rfl (Or.inl rfl) (pe_call G__law_of hr__law_of (by rfl) T.m__law_of T.F__law_of.kp T.B__law_of .nil pass0 (pa_cons (pv 0) (pa_cons (pe_lstU (pa_cons pe_str (pa_cons pe_str (pa_cons pe_str (pa_cons pe_str (pa_cons pe_str (pa_cons pe_str (pa_cons pe_str (pa_cons pe_str (pa_cons pe_str (pa_cons pe_str (pa_cons pe_str (pa_cons pe_str (pa_cons pe_str (pa_cons pe_str pa_nil))))))))))))))) pa_nil)))))
      (psst_cons (PST.of (ps_if (pt_cmpR op_lt (pv 2) pe_int (nomark _)) (pss_one (ps_ret (pe_op op_add_str (pe_op op_add_str (pe_slice sl_str (pv 1) po_none (po_some (pv 3))) (pv 4)) (pe_slice sl_str (pv 1) (po_some (pv 3)) po_none)))) pss_nil))
      (psst_cons (PST.of (ps_if (pt_cmpR op_eqI (pv 2) pe_int (nomark _)) (pss_one (ps_ret (pe_op op_add_str (pe_slice sl_str (pv 1) po_none (po_some (pv 3))) (pe_slice sl_str (pv 1) (po_some (pe_op op_add (pv 3) pe_int)) po_none)))) pss_nil))
      (psst_cons (PST.of (ps_if (pt_cmpR op_eqI (pv 2) pe_int (nomark _)) (pss_one (ps_ret (pe_op op_add_str (pe_op op_add_str (pe_slice sl_str (pv 1) po_none (po_some (pv 3))) (pv 4)) (pe_slice sl_str (pv 1) (po_some (pe_op op_add (pv 3) pe_int)) po_none)))) pss_nil))
      (psst_cons (PST.of (ps_if (pt_cmpR op_eqI (pv 2) pe_int (nomark _)) (pss_one (ps_ret (pe_op op_add_str (pe_op op_add_str (pe_slice sl_str (pv 1) po_none (po_some (pv 3))) (pe_slice sl_str (pv 1) (po_some (pv 3)) (po_some (pe_op op_add (pv 3) pe_int)))) (pe_slice sl_str (pv 1) (po_some (pv 3)) po_none)))) pss_nil))
      (psst_cons (PST.of (ps_if (pt_cmpR op_eqI (pv 2) pe_int (nomark _)) (pss_one (ps_ret (pe_call G__law_of hr__law_of (by rfl) T.m__law_of T.F__law_of.kp T.B__law_of .nil pass0 (pa_cons (pv 0) (pa_cons (pe_lstU (pa_cons (pe_op op_add_str pe_str (pv 1)) (pa_cons (pe_op op_add_str (pv 1) pe_str) (pa_cons (pe_op op_add_str (pv 1) pe_str) (pa_cons (pe_op op_add_str pe_str (pv 1)) (pa_cons (pe_op op_add_str pe_str (pv 1)) (pa_cons (pe_op op_add_str (pv 1) pe_str) (pa_cons (pe_op op_add_str (pe_op op_add_str (pv 1) pe_str) (pv 1)) (pa_cons (pe_op op_add_str (pv 1) (pv 1)) pa_nil))))))))) pa_nil))))) pss_nil))
      (psst_cons (PST.of (ps_if (pt_cmpR op_eqI (pv 2) pe_int (nomark _)) (pss_one (ps_ret (pe_join pe_str (pe_revL (pe_split (pv 1) pe_str))))) pss_nil))
      (CwR.psst_one (CwR.pst_ret (pet_bent (es := bentEs) T hr__law_of (by rfl) rfl (by first | exact .inl rfl | exact .inr rfl) rfl (by first | exact .inl rfl | exact .inr rfl) (by decide +kernel) (by decide) (by decide) rfl rfl rfl rfl rfl rfl rfl rfl rfl))))))))))), ?_⟩
    refine seq_op fun N hN => ?_
    walk_at "rs"
    have big : 1000000 ≤ sizeLine := by decide
    refine ⟨b, c, 8, rfl, B, by decide, by decide, fun way H1 w0 w1 B1 K1 => ⟨by omega, b, c, _, rfl, B1, by omega, by omega, fun at_ H2 a0 a1 B2 K2 => ⟨_, _, ⟨rfl, rfl⟩, hN _ _ ?_⟩⟩⟩
    clear hN N
    have K12 := Same.trans K1 K2
    refine seq_op fun N hN => ?_
    walk_at "rs"
    refine ⟨(show 14 ≤ sizeLine by decide), fun p H3 s3 n3 h3 => of_short B2 1 s3 n3 h3 (by simp) (show 14 ≤ 1000000 by decide) (by decide +kernel) fun mk H4 lm B4 K4 => hN _ _ ?_⟩
    clear hN N
    have K14 := Same.trans K12 K4
    have c1 : ∀ lo hi, (cutS z lo hi).length ≤ z.length := fun lo hi => cutS_len3 z lo hi
    have k' : ∀ z', z'.length ≤ 100000 → Q (.str z') H4 := fun z' h => k z' H4 h B4 K14
    refine seq_op fun N hN => ?_
    walk_at "rs"
    refine ite2 (fun e => ?_) (fun e1 => hN _ _ ?_)
    · exact ⟨by omega, by have := c1 none (some at_); omega, by omega, by have := c1 none (some at_); have := c1 (some at_) none; rw [str_append_len]; omega, k' _ (by have := c1 none (some at_); have := c1 (some at_) none; rw [str_append_len, str_append_len]; omega)⟩
    clear hN N
    refine seq_op fun N hN => ?_
    walk_at "rs"
    refine ite2 (fun e => ?_) (fun e2 => hN _ _ ?_)
    · exact ⟨by omega, by omega, by have := c1 none (some at_); have := c1 (some (at_ + 1)) none; omega, k' _ (by have := c1 none (some at_); have := c1 (some (at_ + 1)) none; rw [str_append_len]; omega)⟩
    clear hN N
    refine seq_op fun N hN => ?_
    walk_at "rs"
    refine ite2 (fun e => ?_) (fun e3 => hN _ _ ?_)
    · exact ⟨by omega, by have := c1 none (some at_); omega, by omega, by have := c1 none (some at_); have := c1 (some (at_ + 1)) none; rw [str_append_len]; omega, k' _ (by have := c1 none (some at_); have := c1 (some (at_ + 1)) none; rw [str_append_len, str_append_len]; omega)⟩
    clear hN N
    refine seq_op fun N hN => ?_
    walk_at "rs"
    refine ite2 (fun e => ?_) (fun e4 => hN _ _ ?_)
    · have d1 := c1 none (some at_)
      have d2 := c1 (some at_) (some (at_ + 1))
      have d3 := c1 (some at_) none
      exact ⟨by omega, by omega, by omega, by omega, by rw [str_append_len]; omega, k' _ (by rw [str_append_len, str_append_len]; omega)⟩
    clear hN N
    refine seq_op fun N hN => ?_
    walk_at "rs"
    refine ite2 (fun e => ?_) (fun e5 => hN _ _ ?_)
    · have d1 : (Str.ofString " ").length = 1 := by decide +kernel
      have d2 : (Str.ofString "\n").length = 1 := by decide +kernel
      have d3 : (Str.ofString "-").length = 1 := by decide +kernel
      have d4 : (Str.ofString "0").length = 1 := by decide +kernel
      have d5 : (Str.ofString "/1").length = 2 := by decide +kernel
      have d6 : (Str.ofString "/").length = 1 := by decide +kernel
      refine ⟨by omega, by omega, by omega, by omega, by omega, by omega, by omega, by rw [str_append_len]; omega, by omega, (show 8 ≤ sizeLine by decide), fun p H5 s5 n5 h5 => of_new B4 s5 n5 h5 (by simp) (show 8 ≤ 1000000 by decide) fun y H6 hy B6 K6 => ?_⟩
      have : ∃ z', y = .str z' ∧ z'.length ≤ 100000 := by
        simp only [List.mem_cons, List.mem_nil_iff, or_false] at hy
        rcases hy with h | h | h | h | h | h | h | h <;> refine ⟨_, h, ?_⟩ <;> simp only [str_append_len] <;> omega
      obtain ⟨z', rfl, l'⟩ := this
      exact k _ H6 l' B6 (Same.trans K14 K6)
    clear hN N
    refine seq_op fun N hN => ?_
    walk_at "rs"
    refine ite2 (fun e => ?_) (fun e6 => hN _ _ ?_)
    · refine ⟨⟨_, rfl⟩, ?_⟩
      unfold tRevL
      simp only [tM1]
      walk_at "rs"
      refine ⟨⟨_, rfl⟩, by decide +kernel, by omega, fun p0 n0 => ?_⟩
      refine ⟨p0, rfl, _, SqL.of upd_same, fun p1 n1 => ⟨(Txt.split z "/").reverse, .inl (SqL.of (by rw [upd_same, List.map_reverse])), ?_, ?_⟩⟩
      · obtain ⟨a, b'⟩ := split_sum z
        have d6 : (Str.ofString "/").length = 1 := by decide +kernel
        rw [List.map_reverse, List.sum_reverse, List.length_reverse, d6]
        omega
      · have s1 : Same H4 (L2.upd (L2.upd H4 p0 (.lst ((Txt.split z "/").map V.str))) p1 (.lst ((Txt.split z "/").map V.str).reverse)) := Same.trans (same_upd n0) (same_upd n1)
        obtain ⟨a, b'⟩ := split_sum z
        have d6 : (Str.ofString "/").length = 1 := by decide +kernel
        have j := join_len "/" (Txt.split z "/").reverse
        rw [List.map_reverse, List.sum_reverse, List.length_reverse] at j
        have j2 : (Txt.join (Str.ofString "/") (Txt.split z "/").reverse).length ≤ 100000 := by
          have : (Txt.split z "/").length * (Str.ofString "/").length ≤ 10001 := by rw [d6]; omega
          omega
        exact k _ _ j2 (B4.same s1) (Same.trans K14 (Kp.of s1))
    clear hN N
    unfold tBent
    walk_at "rs"
    refine ⟨c, B4, by omega, fun z1 H5 hz1 B5 K5 => k _ H5 ?_ B5 (Same.trans K14 K5)⟩
    have l1 : z1.length ≤ 3 := by
      have : ∀ z ∈ bentEs.map (·.1), z.length ≤ 3 := by decide +kernel
      exact this z1 hz1
    have l2 := TK.replace_len z (Str.ofString "/") z1
    have l3 : (z.length + 1) * z1.length ≤ 10001 * 3 := Nat.mul_le_mul (by omega) l1
    omega
end
end LK

set_option Elab.async false
set_option linter.all false
set_option maxRecDepth 100000
namespace LK
open PySem PySem.Spec PyProof.Rows L2
local macro_rules | `(tactic| walk_at "rs") => `(tactic| simp only [cxK, cxNK, tCallZ, tAsg, tOp, rI0, rS0, rB0, rI, rU, tUn, rEq, rNe, rIxL, rIxT, rIxS, rSetL, rSlLU, rSlS, rSlU, rCatL, rCatU, rRepL, rRepS, rIn, tVar, tC, gName, gSub, tIfS, tTest, tB, tAnd, tOr, tNot, tNotV, tAndV, tOrV, tIf, tCall, tCons, tNil, tCB, tDrop, tRet, tRetN, tNext, tLstU, tTupU, tM0, tM1, tPar, tPar3, tAug, ipI, tBM, tBM0, rAppend, rPop, tBreak, tCont, tChain, tSl, tPart, tNoPart, L2.start, List.map, List.length_cons, List.length_nil, List.replicate, List.cons_append, List.nil_append, List.append_nil, List.getElem?_cons_zero, List.getElem?_cons_succ, List.set_cons_zero, List.set_cons_succ, Option.some.injEq, V.int.injEq, V.ref.injEq, V.str.injEq, V.bl.injEq, exists_eq_left', exists_eq_left, exists_and_left, decide_eq_true_eq, List.cons.injEq, and_true, true_and, scal, Bool.not_eq_true', decide_eq_false_iff_not, Nat.zero_add, Nat.reduceAdd, Nat.reduceSub, reduceCtorEq, false_and, exists_false, false_or, or_false, CPow, CMul, CDiv, Int.reduceToNat, ↓reduceIte, wipe, sw, List.nil_append, List.singleton_append])
local macro_rules | `(tactic| walk_at "st") => `(tactic| (refine seq_op fun N hN => ?_; walk_at "rs"))
local macro_rules | `(tactic| walk_at "sd") => `(tactic| first | assumption | decide | omega)
local macro_rules | `(tactic| walk_at "rd") => `(tactic| repeat (first
  | refine ⟨_, SqL.of (by assumption), ?_⟩ | refine ⟨_, SqL.of upd_same, ?_⟩ | refine ⟨_, .inl (SqL.of (by assumption)), ?_⟩ | refine ⟨_, (by assumption : _ = some (HO.lst _)), ?_⟩ | refine ⟨_, upd_same, ?_⟩
  | refine ⟨_, rfl, ?_⟩ | refine And.intro (by walk_at "sd") ?_))

open LamX (Tabs TabS ExtN GivesTo pe_lamcall TabB lamS_by tLam CodeO LamS lamCx lamEnv)
section
variable {P : Program} {w : World} {K : PySem.W.Frag} {mg : Str → Option Value} {base : Heap}
/-- a thing judged -/
def sp_jud (K : PySem.W.Frag) (TL : List (Addr × Str)) : Sp := fun vs H Q _ => ∃ v d n, vs = [v, .int n] ∧ Dp K H v d ∧ okD d = true ∧ dep d ≤ 5 ∧ Tabs TL H ∧ ∀ H', ExtN H H' → Tabs TL H' → Q (.bl true) H'
theorem ExtN.trans' {H H1 H2 : Hp} (a : ExtN H H1) (b : ExtN H1 H2) : ExtN H H2 := fun x o h n => b x o (a x o h n) n
theorem dp_pairL {K : PySem.W.Frag} {H : Hp} {a : Addr} {u v : V} {d e : PyData} (h : H a = some (.lst [u, v])) (h1 : Dp K H u d) (h2 : Dp K H v e) : Dp K H (.ref a) (.list [d, e]) := .lst (SqL.of h) (.cons h1 (.cons h2 .nil))
def dueL (d : PyData) (v : V) : List V := match shortZ d with
  | none => [.str "BadValue", v]
  | some z => [.str "told", .str z]
def dueD (d : PyData) : PyData := match shortZ d with
  | none => .list [.str "BadValue", d]
  | some z => .list [.str "told", .str z]
theorem dp_due {K : PySem.W.Frag} {H : Hp} {p : Addr} {v : V} {d : PyData} (hd : Dp K H v d) (h : H p = some (.lst (dueL d v))) : Dp K H (.ref p) (dueD d) := by
  unfold dueL at h
  unfold dueD
  cases e : shortZ d with
  | none => rw [e] at h; exact dp_pairL h (.str _) hd
  | some z => rw [e] at h; exact dp_pairL h (.str _) (.str z)
theorem txtF_len {p q : Int} (hp : p.natAbs < 10 ^ 60) (hq : q.natAbs < 10 ^ 60) : (txtF p q).length ≤ 200 := by
  have a := strI_len hp
  have b := strI_len hq
  have c : (Str.ofString "/").length = 1 := by decide +kernel
  unfold txtF
  split
  · omega
  · rw [str_append_len, str_append_len]; omega
theorem short_len {d : PyData} {z : Str} (h : shortZ d = some z) : z.length ≤ 200 := by
  unfold shortZ at h
  split at h
  · split at h
    · rename_i c
      cases h
      exact txtF_len c.2.1 c.2.2
    · cases h
  · cases h
theorem ok_due {d : PyData} (hok : okD d = true) (hdep : dep d ≤ 5) : okD (dueD d) = true ∧ dep (dueD d) ≤ 6 := by
  unfold dueD
  cases e : shortZ d with
  | none =>
    refine ⟨okD_lst.mpr ⟨(show 2 ≤ 100000 by decide), ?_⟩, ?_⟩
    · show (okD (.str _) && (okD d && true)) = true
      rw [hok]; decide +kernel
    · show max 0 (max (dep d) 0) + 1 ≤ 6
      omega
  | some z =>
    have l := short_len e
    refine ⟨okD_lst.mpr ⟨(show 2 ≤ 100000 by decide), ?_⟩, ?_⟩
    · show (okD (.str _) && (okD (.str z) && true)) = true
      have : okD (.str z) = true := decide_eq_true (show z.length ≤ 100000 by omega)
      rw [this]; decide +kernel
    · show max 0 (max 0 0) + 1 ≤ 6
      decide
theorem ok__law_judged (T : Txt w K mg) (hB : ∀ p ∈ T.cs, TabB base mg p.1 p.2) : FnOk P w K mg base CX0 8 T.a__law_judged T.d__law_judged ["thing", "way"] (sp_jud K T.TL) := by
  refine Fun.okC T.F__law_judged T.k__law_judged sc__law_judged (fun vs H Q E h => ?_) (fun A outer s H vs Q E hr h => ?_)
  · obtain ⟨v, d, n, rfl, _⟩ := h
    rfl
  · obtain ⟨v, d, n, rfl, hd, hok, hdep, tb, k⟩ := h
    have hr__law_short : Room 3 _ := hr.mono (by decide)
    have G__law_short := ok__law_short (P := P) (base := base) T
    have hr__law_broken : Room 2 _ := hr.mono (by decide)
    have G__law_broken := ok__law_broken (P := P) (base := base) T
    have hr_value_text : Room 4 _ := hr.mono (by decide)
    have G_value_text := ok_value_text (P := P) (base := base) T
    have hr_is_fraction : Room 2 _ := hr.mono (by decide)
    have G_is_fraction := ok_is_fraction (P := P) (base := base) T
    have hr_is_value : Room 3 _ := hr.mono (by decide)
    have G_is_value := ok_is_value (P := P) (base := base) T
    have hr__law_like : Room 7 _ := hr
    have G__law_like := ok__law_like (P := P) (base := base) T 6
    have hr_ask : Room 6 _ := hr.mono (by decide)
    refine ⟨_, (pss_cons (ps_set (i := 2) sc__law_judged.nd rfl (Or.inl rfl) (pe_call G__law_short hr__law_short (by rfl) T.m__law_short T.F__law_short.kp T.B__law_short .nil pass0 (pa_cons (pv 0) pa_nil)))
      (pss_cons (ps_set (i := 3) sc__law_judged.nd rfl (Or.inl rfl) (pe_ifExp (pt_cmpR op_isN (pv 2) pe_non (nomark _)) (pe_lstU (pa_cons pe_str (pa_cons (pv 0) pa_nil))) (pe_lstU (pa_cons pe_str (pa_cons (pv 2) pa_nil)))))
      (pss_cons (ps_set (i := 4) sc__law_judged.nd rfl (Or.inl rfl) (pe_ask (k := 4) T (by rfl) (hB _ T.cs1) rfl T.tl1 hr_ask (lamS_by (sc := defScope s__law_judged) (by decide +kernel)) rfl (fun _ _ _ _ _ => rfl) (fun A9 outer9 s9 H9 E9 f9 c9 hr9 => (pe_ifExp (pt_cmpR op_eqI (pv 1) pe_int (nomark _)) (pe_call G_value_text hr9 (by rfl) T.m_value_text T.F_value_text.kp T.B_value_text .nil (passes_call (takes_of rfl rfl rfl rfl) (fun _ _ _ _ h => h)) (pa_cons (pv 0) pa_nil)) (pe_callZ (g := fun ws => ws) (gV := fun zs => zs) G_value_text hr9 (by rfl) T.m_value_text T.F_value_text.kp T.Z_value_text (passes_call (takes_of rfl rfl rfl rfl) (fun _ _ _ _ h => h)) (pk_cons (pv 0) pk_nil))))))
      (pss_cons (ps_set (i := 5) sc__law_judged.nd rfl (Or.inl rfl) (pe_call G__law_broken hr__law_broken (by rfl) T.m__law_broken T.F__law_broken.kp T.B__law_broken .nil pass0 (pa_cons (pv 0) pa_nil)))
      (pss_cons (ps_set (i := 6) sc__law_judged.nd rfl (Or.inl rfl) (pe_and (pv 5) (pe_and (pe_cmpR op_le (pe_callB call_abs (by rfl) T.n_abs (by decide +kernel) (pa_cons (pe_ix ix_tup (pv 0) pe_int (fun _ _ => rfl)) pa_nil)) (pe_op op_mulW pe_int (pe_ix ix_tup (pv 0) pe_int (fun _ _ => rfl))) (nomark _)) (pe_one (pe_cmpR op_le (pe_ix ix_tup (pv 0) pe_int (fun _ _ => rfl)) pe_int (nomark _))))))
      (pss_cons (ps_if (pt_not (pt_val (pe_call G__law_like hr__law_like (by rfl) T.m__law_like T.F__law_like.kp T.B__law_like .nil pass0 (pa_cons (pe_ifExp (pt_cmpR op_eqI (pv 1) pe_int (nomark _)) (pe_call G_is_fraction hr_is_fraction (by rfl) T.m_is_fraction T.F_is_fraction.kp T.B_is_fraction .nil pass0 (pa_cons (pv 0) pa_nil)) (pe_callZ (g := fun ws => ws) (gV := fun zs => zs) G_is_fraction hr_is_fraction (by rfl) T.m_is_fraction T.F_is_fraction.kp T.Z_is_fraction pass0 (pk_cons (pv 0) pk_nil))) (pa_cons (pv 5) pa_nil))))) (pss_one (ps_ret pe_bl)) pss_nil)
      (pss_one (ps_ret (pe_and (pe_call G__law_like hr__law_like (by rfl) T.m__law_like T.F__law_like.kp T.B__law_like .nil pass0 (pa_cons (pv 4) (pa_cons (pv 3) pa_nil))) (pe_one (pe_call G__law_like hr__law_like (by rfl) T.m__law_like T.F__law_like.kp T.B__law_like .nil pass0 (pa_cons (pe_ifExp (pt_cmpR op_eqI (pv 1) pe_int (nomark _)) (pe_call G_is_value hr_is_value (by rfl) T.m_is_value T.F_is_value.kp T.B_is_value .nil pass0 (pa_cons (pv 0) pa_nil)) (pe_callZ (g := fun ws => ws) (gV := fun zs => zs) G_is_value hr_is_value (by rfl) T.m_is_value T.F_is_value.kp T.Z_is_value pass0 (pk_cons (pv 0) pk_nil))) (pa_cons (pv 6) pa_nil))))))))))))), ?_⟩
    refine seq_op fun N hN => ?_
    walk_at "rs"
    refine ⟨v, d, rfl, hd, hok, fun H1 s1 => hN _ _ ?_⟩
    clear hN N
    refine cut_seq (fun σ H2 => ∃ p : Addr, σ = [some v, some (.int n), some (optS (shortZ d)), some (.ref p), none, none, none] ∧ Same H1 H2 ∧ H2 p = some (.lst (dueL d v))) (fun N hN => ?_) ?_
    · walk_at "rs"
      unfold dueL at hN
      cases e : shortZ d with
      | none => exact iteTT rfl ⟨by decide, fun p H2 s2 _ h2 => hN _ _ ⟨p, by rw [e], s2, by rw [e]; exact h2⟩⟩
      | some z => exact iteFF (by simp [optS]) ⟨by decide, fun p H2 s2 _ h2 => hN _ _ ⟨p, by rw [e], s2, by rw [e]; exact h2⟩⟩
    · rintro σ H2 ⟨p, rfl, s2, h2⟩
      have s12 := Same.trans s1 s2
      have tb2 : Tabs T.TL H2 := Tabs.same tb s12
      have hd2 := dp_same s12 hd
      refine cut_seq (fun σ H5 => ∃ g : Addr, σ = [some v, some (.int n), some (optS (shortZ d)), some (.ref p), some (.ref g), none, none] ∧ ExtN H H5 ∧ Tabs T.TL H5 ∧ H5 p = some (.lst (dueL d v)) ∧ H5 g = some (.lst (dueL d v))) (fun N hN => ?_) ?_
      · refine ⟨tb2, fun H5 e5 tb5 => ?_⟩
        unfold TTask
        have hd5 := dp_ext e5 hd2
        have h5 := e5 _ _ h2 (fun _ z => by cases z)
        have e05 : ExtN H H5 := ExtN.trans' (Same.extN s12) e5
        walk_at "rs"
        have fin : sp_vt K T.C_BadValue [v] H5 (fun v1 H1 => 2 ≤ sizeLine ∧ ∀ (p1 : Addr) (H2 : Hp), Same H1 H2 → H1 p1 = none → H2 p1 = some (.lst [.str "told", v1]) → N [some v, some (.int n), some (optS (shortZ d)), some (.ref p), some (.ref p1), none, none] H2)
            (fun cls d1 H' => cls = .ref T.C_BadValue ∧ ∃ dd, d1 = some dd ∧ ∃ x, H' dd = some (.xd (badF x)) ∧ ∀ p1 H2, Same H' H2 → H' p1 = none → H2 p1 = some (.lst [.str "BadValue", x]) → N [some v, some (.int n), some (optS (shortZ d)), some (.ref p), some (.ref p1), none, none] H2) := by
          refine ⟨v, d, rfl, hd5, hok, fun z ez H6 s6 => ⟨by decide, fun p1 H7 s7 _ h7 => hN _ _ ?_⟩, fun ez x H6 s6 _ h6 => ⟨rfl, x, rfl, v, h6, fun p1 H7 s7 _ h7 => hN _ _ ?_⟩⟩
          · have ss := Same.trans s6 s7
            exact ⟨p1, rfl, ExtN.trans' e05 (Same.extN ss), Tabs.same tb5 ss, ss _ _ h5, by unfold dueL; rw [ez]; exact h7⟩
          · have ss := Same.trans s6 s7
            exact ⟨p1, rfl, ExtN.trans' e05 (Same.extN ss), Tabs.same tb5 ss, ss _ _ h5, by unfold dueL; rw [ez]; exact h7⟩
        exact ite2 (fun _ => fin) (fun _ => fin)
      · rintro σ H5 ⟨g, rfl, e5, tb5, hp5, hg5⟩
        have hd5 := dp_ext e5 hd
        replace k : ∀ H', Same H5 H' → Q (.bl true) H' := fun H' s' => k H' (ExtN.trans' e5 (Same.extN s')) (Tabs.same tb5 s')
        obtain ⟨od, dd⟩ := ok_due hok hdep
        refine seq_op fun N hN => ?_
        walk_at "rs"
        refine ⟨v, d, rfl, hd5, hok, fun H6 s6 => hN _ _ ?_⟩
        clear hN N
        refine cut_seq (fun σ H7 => σ = [some v, some (.int n), some (optS (shortZ d)), some (.ref p), some (.ref g), some (.bl (isFrac d)), some (.bl (isVal d))] ∧ Same H5 H7) (fun N hN => ?_) ?_
        · walk_at "rs"
          refine ite2 (fun e => ?_) (fun e => ?_)
          · obtain ⟨a, p1, q1, rfl, rfl, hs, q10, hg⟩ := frac_dp (dp_same s6 hd5) e
            obtain ⟨b1, b2⟩ := okD_two hok
            have ev : isVal (.tuple [.int p1, .int q1]) = (decide (q1 ≤ 9999) && decide ((p1.natAbs : Int) ≤ 99 * q1)) := by
              show (isFrac _ && _) = _
              rw [e, Bool.true_and]
            rw [ev] at hN
            refine ⟨_, rfl, _, hs, _, rfl, p1, rfl, _, rfl, _, hs, _, rfl, q1, rfl, wide_mul (a := 8) (b := 8000) (by decide) (pow_le b2 (by decide)) (by decide) (by decide) (by decide), ?_⟩
            rw [abs_if]
            refine ite2 (fun h1 => ⟨_, rfl, _, hs, _, rfl, q1, rfl, hN _ _ ⟨?_, s6⟩⟩) (fun h1 => hN _ _ ⟨?_, s6⟩)
            · rw [decide_eq_true h1, Bool.and_true]
            · rw [decide_eq_false h1, Bool.and_false]
          · refine hN _ _ ⟨?_, s6⟩
            have ev : isVal d = false := by
              unfold isVal
              split
              · simp only [Bool.not_eq_true] at e
                rw [e]; rfl
              · rfl
            rw [ev]
        · rintro σ H7 ⟨rfl, s7⟩
          have likeB : ∀ {H8 : Hp} {bb : Bool} {Q1 : VK} {E1 : XK}, (∀ H9, Same H8 H9 → Q1 (.bl true) H9) → sp__law_like K 6 [V.bl bb, V.bl bb] H8 Q1 E1 := fun {H8 bb Q1 E1} kq => ⟨_, _, .bool bb, rfl, .bl _, .bl _, rfl, Nat.zero_le _, kq⟩
          refine cut_seq (fun σ H8 => σ = [some v, some (.int n), some (optS (shortZ d)), some (.ref p), some (.ref g), some (.bl (isFrac d)), some (.bl (isVal d))] ∧ Same H5 H8) (fun N hN => ?_) ?_
          · walk_at "rs"
            have core : spP1 K (fun d => V.bl (isFrac d)) [v] H7 (fun x H1 => sp__law_like K 6 [x, V.bl (isFrac d)] H1 (fun x H1 => ∃ c, x = V.bl c ∧ if c = false then Q (V.bl false) H1 else N [some v, some (V.int n), some (optS (shortZ d)), some (V.ref p), some (V.ref g), some (V.bl (isFrac d)), some (V.bl (isVal d))] H1) E0) E0 :=
              ⟨v, d, rfl, dp_same s7 hd5, fun H8 s8 => likeB fun H9 s9 => ⟨true, rfl, iteFF (by decide) (hN _ _ ⟨rfl, Same.trans s7 (Same.trans s8 s9)⟩)⟩⟩
            exact ite2 (fun _ => core) (fun _ => core)
          · rintro σ H8 ⟨rfl, s8⟩
            walk_at "rs"
            refine ⟨_, _, dueD d, rfl, dp_due (dp_same s8 hd5) (s8 _ _ hg5), dp_due (dp_same s8 hd5) (s8 _ _ hp5), od, dd, fun H9 s9 => ?_⟩
            refine ⟨true, rfl, iteTT rfl ?_⟩
            have s89 := Same.trans s8 s9
            have core : spP1 K (fun d => V.bl (isVal d)) [v] H9 (fun x H1 => sp__law_like K 6 [x, V.bl (isVal d)] H1 Q E0) E0 :=
              ⟨v, d, rfl, dp_same s89 hd5, fun H10 s10 => likeB fun H11 s11 => k H11 (Same.trans s89 (Same.trans s10 s11))⟩
            trace_state
            exact ite2 (fun _ => core) (fun _ => core)
end
end LK

set_option Elab.async false
set_option linter.all false
set_option maxRecDepth 100000
namespace LK
open PySem PySem.Spec PyProof.Rows L2
local macro_rules | `(tactic| walk_at "rs") => `(tactic| simp only [cxK, cxNK, tCallZ, tAsg, tOp, rI0, rS0, rB0, rI, rU, tUn, rEq, rNe, rIxL, rIxT, rIxS, rSetL, rSlLU, rSlS, rSlU, rCatL, rCatU, rRepL, rRepS, rIn, tVar, tC, gName, gSub, tIfS, tTest, tB, tAnd, tOr, tNot, tNotV, tAndV, tOrV, tIf, tCall, tCons, tNil, tCB, tDrop, tRet, tRetN, tNext, tLstU, tTupU, tM0, tM1, tPar, tPar3, tAug, ipI, tBM, tBM0, rAppend, rPop, tBreak, tCont, tChain, tSl, tPart, tNoPart, L2.start, List.map, List.length_cons, List.length_nil, List.replicate, List.cons_append, List.nil_append, List.append_nil, List.getElem?_cons_zero, List.getElem?_cons_succ, List.set_cons_zero, List.set_cons_succ, Option.some.injEq, V.int.injEq, V.ref.injEq, V.str.injEq, V.bl.injEq, exists_eq_left', exists_eq_left, exists_and_left, decide_eq_true_eq, List.cons.injEq, and_true, true_and, scal, Bool.not_eq_true', decide_eq_false_iff_not, Nat.zero_add, Nat.reduceAdd, Nat.reduceSub, reduceCtorEq, false_and, exists_false, false_or, or_false, CPow, CMul, CDiv, Int.reduceToNat, ↓reduceIte, wipe, sw, List.nil_append, List.singleton_append])
local macro_rules | `(tactic| walk_at "st") => `(tactic| (refine seq_op fun N hN => ?_; walk_at "rs"))
local macro_rules | `(tactic| walk_at "sd") => `(tactic| first | assumption | decide | omega)
local macro_rules | `(tactic| walk_at "rd") => `(tactic| repeat (first
  | refine ⟨_, SqL.of (by assumption), ?_⟩ | refine ⟨_, SqL.of upd_same, ?_⟩ | refine ⟨_, .inl (SqL.of (by assumption)), ?_⟩ | refine ⟨_, (by assumption : _ = some (HO.lst _)), ?_⟩ | refine ⟨_, upd_same, ?_⟩
  | refine ⟨_, rfl, ?_⟩ | refine And.intro (by walk_at "sd") ?_))

open LamX (Tabs TabS ExtN GivesTo pe_lamcall TabB lamS_by tLam CodeO LamS lamCx lamEnv)
section
variable {P : Program} {w : World} {K : PySem.W.Frag} {mg : Str → Option Value} {base : Heap}
theorem likeN {K : PySem.W.Frag} {H8 : Hp} {Q1 : VK} {E1 : XK} (kq : ∀ H9, Same H8 H9 → Q1 (.bl true) H9) : sp__law_like K 6 [V.non, V.non] H8 Q1 E1 := ⟨_, _, .none, rfl, .non, .non, rfl, Nat.zero_le _, kq⟩
theorem likeS {K : PySem.W.Frag} {H8 : Hp} {z : Str} {Q1 : VK} {E1 : XK} (l : z.length ≤ 100000) (kq : ∀ H9, Same H8 H9 → Q1 (.bl true) H9) : sp__law_like K 6 [V.str z, V.str z] H8 Q1 E1 := ⟨_, _, .str z, rfl, .str _, .str _, decide_eq_true l, Nat.zero_le _, kq⟩
theorem ok__law_told (T : Txt w K mg) (hB : ∀ p ∈ T.cs, TabB base mg p.1 p.2) : FnOk P w K mg base CX0 9 T.a__law_told T.d__law_told ["word", "way"] (sp_jud K T.TL) := by
  refine T.F__law_told.ok sc__law_told (fun vs H Q E h => ?_) (fun cdv A outer s H vs Q E hr h => ?_)
  · obtain ⟨v, d, n, rfl, _⟩ := h
    rfl
  · obtain ⟨v, d, n, rfl, hd, hok, hdep, tb, k⟩ := h
    have hr__law_read : Room 2 _ := hr.mono (by decide)
    have G__law_read := ok__law_read (P := P) (base := base) T
    have hr_read_value : Room 5 _ := hr.mono (by decide)
    have G_read_value := ok_read_value (P := P) (base := base) T
    have hr_value_text : Room 4 _ := hr.mono (by decide)
    have G_value_text := ok_value_text (P := P) (base := base) T
    have hr__law_like : Room 7 _ := hr.mono (by decide)
    have G__law_like := ok__law_like (P := P) (base := base) T 6
    have hr__law_judged : Room 8 _ := hr
    have G__law_judged := ok__law_judged (P := P) (base := base) T hB
    refine ⟨_, (pss_cons (ps_set (i := 2) sc__law_told.nd rfl (Or.inl rfl) (pe_call G__law_read hr__law_read (by rfl) T.m__law_read T.F__law_read.kp T.B__law_read .nil pass0 (pa_cons (pv 0) pa_nil)))
      (pss_cons (ps_set (i := 3) sc__law_told.nd rfl (Or.inl rfl) (pe_ifExp (pt_cmpR op_eqI (pv 1) pe_int (nomark _)) (pe_call G_read_value hr_read_value (by rfl) T.m_read_value T.F_read_value.kp T.B_read_value .nil pass0 (pa_cons (pv 0) pa_nil)) (pe_callZ (g := fun ws => ws) (gV := fun zs => zs) G_read_value hr_read_value (by rfl) T.m_read_value T.F_read_value.kp T.Z_read_value pass0 (pk_cons (pv 0) pk_nil))))
      (pss_cons (ps_if (pt_not (pt_val (pe_call G__law_like hr__law_like (by rfl) T.m__law_like T.F__law_like.kp T.B__law_like .nil pass0 (pa_cons (pv 3) (pa_cons (pv 2) pa_nil))))) (pss_one (ps_ret pe_bl)) pss_nil)
      (pss_one (ps_ret (pe_or (pe_cmpR op_isN (pv 2) pe_non (nomark _)) (pe_one (pe_and (pe_call G__law_judged hr__law_judged (by rfl) T.m__law_judged T.F__law_judged.kp T.B__law_judged .nil pass0 (pa_cons (pv 3) (pa_cons (pv 1) pa_nil))) (pe_one (pe_call G__law_like hr__law_like (by rfl) T.m__law_like T.F__law_like.kp T.B__law_like .nil pass0 (pa_cons (pe_call G_value_text hr_value_text (by rfl) T.m_value_text T.F_value_text.kp T.B_value_text .nil passL (pa_cons (pv 3) pa_nil)) (pa_cons (pv 0) pa_nil)))))))))))), ?_⟩
    have cas : readVal d = none ∨ ∃ z p q, d = .str z ∧ readVal d = some (p, q) ∧ readZ z = some (p, q) := by
      cases d <;> first | exact .inl rfl | skip
      rename_i z
      cases e : readZ z with
      | none => exact .inl e
      | some r => exact .inr ⟨z, r.1, r.2, rfl, e, e⟩
    rcases cas with e0 | ⟨z, p, q, rfl, e1, ez⟩
    · refine seq_op fun N hN => ?_
      walk_at "rs"
      refine ⟨v, d, rfl, hd, hok, fun _ H1 s1 => hN _ _ ?_, fun p q e => by rw [e0] at e; cases e⟩
      clear hN N
      refine cut_seq (fun σ H2 => σ = [some v, some (.int n), some .non, some .non] ∧ Same H H2) (fun N hN => ?_) ?_
      · walk_at "rs"
        have core : sp_read K [v] H1 (fun x H1 => N [some v, some (.int n), some .non, some x] H1) E0 := ⟨v, d, rfl, dp_same s1 hd, hok, fun _ H2 s2 => hN _ _ ⟨rfl, Same.trans s1 s2⟩, fun p q e => by rw [e0] at e; cases e⟩
        exact ite2 (fun _ => core) (fun _ => core)
      · rintro σ H2 ⟨rfl, s2⟩
        refine seq_op fun N hN => ?_
        walk_at "rs"
        refine likeN fun H3 s3 => ⟨true, rfl, iteFF (by decide) (hN _ _ ?_)⟩
        clear hN N
        walk_at "rs"
        have s03 := Same.trans s2 s3
        exact k H3 (Same.extN s03) (Tabs.same tb s03)
    · cases hd
      obtain ⟨hf, b1, b2, ezt⟩ := readZ_iff.mp ez
      have t60 : 10 ^ 60 ≤ 2 ^ 4000 := Nat.le_trans (show 10 ^ 60 ≤ 2 ^ 200 by decide) (Nat.pow_le_pow_right (by decide) (by decide))
      have okpq : okD (.tuple [.int p, .int q]) = true := okD_of2 (Nat.lt_of_lt_of_le b1 t60) (Nat.lt_of_lt_of_le b2 t60)
      have es : shortZ (.tuple [.int p, .int q]) = some z := by
        show (if _ then _ else _) = _
        rw [if_pos ⟨hf, b1, b2⟩, ezt]
      have no : ∀ {X : Prop}, readVal (.str z) = none → X := fun e => by rw [e1] at e; cases e
      have same2 : ∀ {p' q'}, readVal (.str z) = some (p', q') → p' = p ∧ q' = q := fun e => by rw [e1] at e; cases e; exact ⟨rfl, rfl⟩
      have dpq : ∀ {H9 : Hp} {t : Addr}, H9 t = some (.tup [.int p, .int q]) → Dp K H9 (.ref t) (.tuple [.int p, .int q]) := fun h => dp_pair (.inl (.inl h))
      refine seq_op fun N hN => ?_
      walk_at "rs"
      refine ⟨_, _, rfl, .str z, hok, fun e => no e, fun p' q' e t H1 s1 n1 h1 => hN _ _ ?_⟩
      obtain ⟨rfl, rfl⟩ := same2 e
      clear hN N e
      refine cut_seq (fun σ H2 => ∃ t2, σ = [some (.str z), some (.int n), some (.ref t), some (.ref t2)] ∧ Same H H2 ∧ H2 t = some (.tup [.int p', .int q']) ∧ H2 t2 = some (.tup [.int p', .int q'])) (fun N hN => ?_) ?_
      · walk_at "rs"
        have core : sp_read K [V.str z] H1 (fun x H1 => N [some (.str z), some (.int n), some (.ref t), some x] H1) E0 := ⟨_, _, rfl, .str z, hok, fun e => no e, fun p2 q2 e t2 H2 s2 n2 h2 => hN _ _ (by
          obtain ⟨rfl, rfl⟩ := same2 e
          exact ⟨t2, rfl, Same.trans s1 s2, s2 _ _ h1, h2⟩)⟩
        exact ite2 (fun _ => core) (fun _ => core)
      · rintro σ H2 ⟨t2, rfl, s2, h2, h3⟩
        refine seq_op fun N hN => ?_
        walk_at "rs"
        refine ⟨_, _, _, rfl, dpq h3, dpq h2, okpq, (show max 0 (max 0 0) + 1 ≤ 6 by decide), fun H3 s3 => ⟨true, rfl, iteFF (by decide) (hN _ _ ?_)⟩⟩
        clear hN N
        have s03 := Same.trans s2 s3
        walk_at "rs"
        refine ⟨_, _, n, rfl, dpq (s3 _ _ h3), okpq, (show max 0 (max 0 0) + 1 ≤ 5 by decide), Tabs.same tb s03, fun H4 e4 tb4 => ⟨true, rfl, iteTT rfl ?_⟩⟩
        have h34 := e4 _ _ (s3 _ _ h3) (fun _ z => by cases z)
        refine ⟨_, _, rfl, dpq h34, okpq, fun z' ez' H5 s5 => ?_, fun en => ?_⟩
        · have : z' = z := by
            have e2 : shortZ (.tuple [.int p', .int q']) = some z' := ez'
            rw [es] at e2
            cases e2; rfl
          subst this
          exact likeS (of_decide_eq_true hok) fun H6 s6 => k H6 (ExtN.trans' (Same.extN s03) (ExtN.trans' e4 (Same.extN (Same.trans s5 s6)))) (Tabs.same tb4 (Same.trans s5 s6))
        · exfalso
          have e2 : shortZ (.tuple [.int p', .int q']) = none := en
          rw [es] at e2; cases e2
theorem nines : readZ (repS (Str.ofString "9") 60) = some (10 ^ 60 - 1, 1) ∧ readZ (repS (Str.ofString "9") 59) = some (10 ^ 59 - 1, 1) := by
  constructor
  · refine readZ_iff.mpr ⟨isFrac_iff.mpr ⟨by decide, by decide +kernel⟩, by decide, by decide, by decide +kernel⟩
  · refine readZ_iff.mpr ⟨isFrac_iff.mpr ⟨by decide, by decide +kernel⟩, by decide, by decide, by decide +kernel⟩
/-- a fraction at a, of at most m bits -/
def Gd (H : Hp) (a : Addr) (m : Nat) : Prop := ∃ p q : Int, H a = some (.tup [.int p, .int q]) ∧ 1 ≤ q ∧ Nat.gcd p.natAbs q.natAbs = 1 ∧ p.natAbs < 2 ^ m ∧ q.natAbs < 2 ^ m
theorem Gd.of {H : Hp} {a : Addr} {m : Nat} {X Y : Int} (h : H a = some (.tup [.int (frP X Y), .int (frQ X Y)])) (y0 : Y ≠ 0) (hx : X.natAbs < 2 ^ m) (hy : Y.natAbs < 2 ^ m) : Gd H a m := by
  obtain ⟨_, _, e3, e4, e5, e6, _⟩ := fr_spec X y0
  exact ⟨_, _, h, e3, e4, Nat.lt_of_le_of_lt e5 hx, Nat.lt_of_le_of_lt e6 hy⟩
theorem Gd.same {H H' : Hp} {a : Addr} {m : Nat} (g : Gd H a m) (s : Same H H') : Gd H' a m := by
  obtain ⟨p, q, h, r⟩ := g
  exact ⟨p, q, s _ _ h, r⟩
theorem Gd.ext {H H' : Hp} {a : Addr} {m : Nat} (g : Gd H a m) (s : ExtN H H') : Gd H' a m := by
  obtain ⟨p, q, h, r⟩ := g
  exact ⟨p, q, s _ _ h (fun _ z => by cases z), r⟩
theorem Gd.kp {H H' : Hp} {a b : Addr} {m : Nat} (g : Gd H a m) (k : Kp b H H') (n : a ≠ b) : Gd H' a m := by
  obtain ⟨p, q, h, r⟩ := g
  exact ⟨p, q, k.hd h n, r⟩
theorem Gd.jud {K : PySem.W.Frag} {TL : List (Addr × Str)} {H : Hp} {a : Addr} {m : Nat} {n : Int} {Q : VK} {E : XK} (g : Gd H a m) (hm : m ≤ 4000) (tb : Tabs TL H) (k : ∀ H', ExtN H H' → Tabs TL H' → Q (.bl true) H') : sp_jud K TL [V.ref a, V.int n] H Q E := by
  obtain ⟨p, q, h, q1, hg, b1, b2⟩ := g
  exact ⟨_, _, n, rfl, dp_pair (.inl (.inl h)), okD_of2 (pow_le b1 hm) (pow_le b2 hm), (show max 0 (max 0 0) + 1 ≤ 5 by decide), tb, k⟩
theorem two_at {K : PySem.W.Frag} {f g : Int → Int → Int → Int → Int} {H : Hp} {a b : Addr} {p q r s : Int} {Q : VK} {E : XK} (m n l : Nat) (ha : Pr K H a p q) (hb : Pr K H b r s) (hn : n ≤ 4000) (hl : l ≤ 4000) (lp : p.natAbs < 2 ^ n) (lq : q.natAbs < 2 ^ n) (lr : r.natAbs < 2 ^ l) (ls : s.natAbs < 2 ^ l) (n0 : g p q r s ≠ 0)
    (bf : (f p q r s).natAbs < 2 ^ m) (bg : (g p q r s).natAbs < 2 ^ m) (k : ∀ t H', Same H H' → H t = none → Gd H' t m → Q (.ref t) H') : sp_two K f g [.ref a, .ref b] H Q E :=
  ⟨a, b, p, q, r, s, rfl, ha, hb, pow_le lp hn, pow_le lq hn, pow_le lr hl, pow_le ls hl, n0, fun t H' s' n' h' => k t H' s' n' (Gd.of h' n0 bf bg)⟩
/-- fractions at the bound -/
theorem ok__law_great (T : Txt w K mg) (hB : ∀ p ∈ T.cs, TabB base mg p.1 p.2) : FnOk P w K mg base CX0 9 T.a__law_great T.d__law_great ["bag"] (fun vs H Q _ => ∃ (b c : Addr), vs = [.ref b] ∧ Bag H b c ∧ Tabs T.TL H ∧ ∀ H', Bag H' b c → KN b H H' → Tabs T.TL H' → Q (.bl true) H') := by
  refine T.F__law_great.ok sc__law_great (fun vs H Q E h => ?_) (fun cdv A outer s H vs Q E hr h => ?_)
  · obtain ⟨b, c, rfl, _⟩ := h
    rfl
  · obtain ⟨b, c, rfl, B, tb, k⟩ := h
    have hr__law_draw : Room 1 _ := hr.mono (by decide)
    have G__law_draw := ok__law_draw (P := P) (base := base) T
    have hr__law_of : Room 2 _ := hr.mono (by decide)
    have G__law_of := ok__law_of (P := P) (base := base) T
    have hr_read_value : Room 5 _ := hr.mono (by decide)
    have G_read_value := ok_read_value (P := P) (base := base) T
    have hr_plus : Room 4 _ := hr.mono (by decide)
    have G_plus := ok_plus (P := P) (base := base) T
    have hr_minus : Room 4 _ := hr.mono (by decide)
    have G_minus := ok_minus (P := P) (base := base) T
    have hr_times : Room 4 _ := hr.mono (by decide)
    have G_times := ok_times (P := P) (base := base) T
    have hr_quotient : Room 4 _ := hr.mono (by decide)
    have G_quotient := ok_quotient (P := P) (base := base) T
    have hr__law_judged : Room 8 _ := hr
    have G__law_judged := ok__law_judged (P := P) (base := base) T hB
    refine ⟨_, (pss_cons (ps_set (i := 1) sc__law_great.nd rfl (Or.inl rfl) (pe_call G_read_value hr_read_value (by rfl) T.m_read_value T.F_read_value.kp T.B_read_value .nil pass0 (pa_cons (pe_op op_repS pe_str (pe_ifExp (pt_cmpR op_eqI (pe_call G__law_draw hr__law_draw (by rfl) T.m__law_draw T.F__law_draw.kp T.B__law_draw .nil pass0 (pa_cons (pv 0) (pa_cons pe_int pa_nil))) pe_int (nomark _)) pe_int pe_int)) pa_nil)))
      (pss_cons (ps_set (i := 2) sc__law_great.nd rfl (Or.inl rfl) (pe_tupU (pa_cons (pe_op op_sub (pe_call G__law_draw hr__law_draw (by rfl) T.m__law_draw T.F__law_draw.kp T.B__law_draw .nil pass0 (pa_cons (pv 0) (pa_cons pe_int pa_nil))) pe_int) (pa_cons pe_int pa_nil))))
      (pss_cons (ps_set (i := 3) sc__law_great.nd rfl (Or.inl rfl) (pe_call G__law_of hr__law_of (by rfl) T.m__law_of T.F__law_of.kp T.B__law_of .nil pass0 (pa_cons (pv 0) (pa_cons (pe_lstU (pa_cons (pe_call G_plus hr_plus (by rfl) T.m_plus T.F_plus.kp T.B_plus .nil pass0 (pa_cons (pv 1) (pa_cons (pv 2) pa_nil))) (pa_cons (pe_call G_minus hr_minus (by rfl) T.m_minus T.F_minus.kp T.B_minus .nil pass0 (pa_cons (pv 1) (pa_cons (pv 2) pa_nil))) (pa_cons (pe_call G_times hr_times (by rfl) T.m_times T.F_times.kp T.B_times .nil pass0 (pa_cons (pv 1) (pa_cons (pe_tupU (pa_cons pe_int (pa_cons pe_int pa_nil))) pa_nil))) (pa_cons (pe_call G_times hr_times (by rfl) T.m_times T.F_times.kp T.B_times .nil pass0 (pa_cons (pv 1) (pa_cons (pv 2) pa_nil))) pa_nil))))) pa_nil))))
      (pss_cons (ps_set (i := 4) sc__law_great.nd rfl (Or.inl rfl) (pe_call G_minus hr_minus (by rfl) T.m_minus T.F_minus.kp T.B_minus .nil pass0 (pa_cons (pe_tupU (pa_cons pe_int (pa_cons pe_int pa_nil))) (pa_cons (pv 3) pa_nil))))
      (pss_cons (ps_if (PW.pt (pw_or (pt_not (pt_val (pe_call G__law_judged hr__law_judged (by rfl) T.m__law_judged T.F__law_judged.kp T.B__law_judged .nil pass0 (pa_cons (pv 3) (pa_cons pe_int pa_nil))))) (pw_or1 (pt_not (pt_val (pe_call G__law_judged hr__law_judged (by rfl) T.m__law_judged T.F__law_judged.kp T.B__law_judged .nil pass0 (pa_cons (pv 4) (pa_cons pe_int pa_nil)))))))) (pss_one (ps_ret pe_bl)) pss_nil)
      (pss_cons (ps_if (pt_cmpR op_eqI (pe_ix ix_tup (pv 3) pe_int (fun _ _ => rfl)) pe_int (nomark _)) (pss_one (ps_ret pe_bl)) pss_nil)
      (pss_one (ps_ret (pe_and (pe_call G__law_judged hr__law_judged (by rfl) T.m__law_judged T.F__law_judged.kp T.B__law_judged .nil pass0 (pa_cons (pe_call G_quotient hr_quotient (by rfl) T.m_quotient T.F_quotient.kp T.B_quotient .nil passL (pa_cons (pe_tupU (pa_cons pe_int (pa_cons pe_int pa_nil))) (pa_cons (pv 3) pa_nil))) (pa_cons pe_int pa_nil))) (pe_one (pe_call G__law_judged hr__law_judged (by rfl) T.m__law_judged T.F__law_judged.kp T.B__law_judged .nil pass0 (pa_cons (pe_call G_quotient hr_quotient (by rfl) T.m_quotient T.F_quotient.kp T.B_quotient .nil passL (pa_cons (pv 4) (pa_cons (pe_tupU (pa_cons (pe_op op_sub (pe_op op_pow pe_int pe_int) pe_int) (pa_cons (pe_op op_pow pe_int pe_int) pa_nil))) pa_nil))) (pa_cons pe_int pa_nil))))))))))))), ?_⟩
    refine seq_op fun N hN => ?_
    walk_at "rs"
    refine ⟨b, c, 2, rfl, B, by decide, by decide, fun r H1 r0 r1 B1 K1 => ⟨r, rfl, ?_⟩⟩
    have len9 : (Str.ofString "9").length ≤ 100 := by decide +kernel
    have tb1 : Tabs T.TL H1 := Tabs.kp B tb K1
    have rd : ∀ (m : Nat), m ≤ 60 → (∃ G : Int, readZ (repS (Str.ofString "9") m) = some (G, 1) ∧ G.natAbs < 2 ^ 200) → sp_read K [V.str (repS (Str.ofString "9") m)] H1 (fun x H1 => N [some (V.ref b), some x, none, none, none] H1) E0 := by
      rintro m hm ⟨G, eG, bG⟩
      refine ⟨_, _, rfl, .str _, decide_eq_true ?_, fun e => ?_, fun p q e t H2 s2 n2 h2 => hN _ _ ?_⟩
      · show (repS (Str.ofString "9") m).length ≤ 100000
        rw [repS_len]
        have : m * (Str.ofString "9").length ≤ 60 * 100 := Nat.mul_le_mul hm len9
        omega
      · have e2 : readZ (repS (Str.ofString "9") m) = none := e
        rw [eG] at e2; cases e2
      · have e2 : readZ (repS (Str.ofString "9") m) = some (p, q) := e
        rw [eG] at e2
        cases e2
        clear hN N e
        have B2 := B1.same s2
        have K2 := Same.trans K1 (Kp.of s2)
        have tb2 := Tabs.same tb1 s2
        obtain ⟨xb1, eb1⟩ := B1.at
        have nt : t ≠ b := fun z => by rw [z, eb1] at n2; cases n2
        refine seq_op fun N hN => ?_
        walk_at "rs"
        refine ⟨b, c, 4, rfl, B2, by decide, by decide, fun r2 H3 r20 r21 B3 K3 => ⟨_, rfl, by decide, fun t3 H4 s4 n4 h4 => hN _ _ ?_⟩⟩
        clear hN N
        have h34 : H4 t = some (.tup [.int G, .int 1]) := s4 _ _ (K3.hd h2 nt)
        have B4 := B3.same s4
        have K4 := Same.trans K2 (Same.trans K3 (Kp.of s4))
        have tb4 := Tabs.same (Tabs.kp B2 tb2 K3) s4
        have pt : ∀ {G' : Hp}, Same H4 G' → Pr K G' t G 1 := fun s => .inl (.inl (s _ _ h34))
        have pn : ∀ {G' : Hp}, Same H4 G' → Pr K G' t3 (r2 - 1) 1 := fun s => .inl (.inl (s _ _ h4))
        refine cut_seq (fun σ H9 => ∃ u, σ = [some (.ref b), some (.ref t), some (.ref t3), some (.ref u), none] ∧ Gd H9 u 500 ∧ Bag H9 b c ∧ Kp b H H9 ∧ Tabs T.TL H9) (fun N hN => ?_) ?_
        · walk_at "rs"
          have b1 : ((1 : Int)).natAbs < 2 ^ 200 := pow_le (a := 1) (by decide) (by decide)
          have b2 : (r2 - 1).natAbs < 2 ^ 10 := Nat.lt_of_lt_of_le (show (r2 - 1).natAbs < 4 by omega) (by decide)
          have b3 : ((1 : Int)).natAbs < 2 ^ 10 := by decide
          have g1 : ((1 : Int) * 1) ≠ 0 := by decide
          have w1 : ((1 : Int) * 1).natAbs < 2 ^ 500 := pow_le (a := 1) (by decide) (by decide)
          have x1 : (G * 1).natAbs < 2 ^ 400 := pow_le (wide_lt bG b3) (by decide)
          have x2 : ((r2 - 1) * 1).natAbs < 2 ^ 400 := pow_le (wide_lt b2 b3) (by decide)
          have x3 : (G * 10).natAbs < 2 ^ 500 := pow_le (wide_lt bG (show ((10 : Int)).natAbs < 2 ^ 10 by decide)) (by decide)
          have x4 : (G * (r2 - 1)).natAbs < 2 ^ 500 := pow_le (wide_lt bG b2) (by decide)
          refine two_at 500 200 10 (pt (Same.refl _)) (pn (Same.refl _)) (by decide) (by decide) bG b1 b2 b3 g1 (pow_le (two_add x1 x2) (by decide)) w1 fun u1 H5 s5 n5 gd1 => ?_
          refine two_at 500 200 10 (pt s5) (pn s5) (by decide) (by decide) bG b1 b2 b3 g1 (pow_le (two_sub x1 x2) (by decide)) w1 fun u2 H6 s6 n6 gd2 => ⟨by decide, fun t10 H7 s7 n7 h7 => ?_⟩
          have s47 := Same.trans s5 (Same.trans s6 s7)
          refine two_at 500 200 10 (pt s47) (.inl (.inl h7)) (by decide) (by decide) bG b1 (by decide) b3 g1 x3 w1 fun u3 H8 s8 n8 gd3 => ?_
          have s48 := Same.trans s47 s8
          refine two_at 500 200 10 (pt s48) (pn s48) (by decide) (by decide) bG b1 b2 b3 g1 x4 w1 fun u4 H9 s9 n9 gd4 => ⟨by decide, fun pl H10 s10 n10 h10 => ?_⟩
          have s49 := Same.trans s48 s9
          obtain ⟨xb4, eb4⟩ := B4.at
          have nb : ∀ {G' : Hp} {u : Addr}, Same H4 G' → G' u = none → u ≠ b := fun s n z => by
            have := Same.dom s _ n
            rw [z, eb4] at this; cases this
          have B9 := B4.same s49
          refine of_new B9 s10 n10 h10 (by simp) (show 4 ≤ 1000000 by decide) fun y H11 hy B11 K11 => ?_
          have K411 : Kp b H4 H11 := Same.trans (Kp.of s49) K11
          have fin : ∀ u, u ≠ b → Gd H9 u 500 → N [some (.ref b), some (.ref t), some (.ref t3), some (.ref u), none] H11 := fun u n g => hN _ _ ⟨u, rfl, g.kp K11 n, B11, Same.trans K4 K411, Tabs.kp B4 tb4 K411⟩
          simp only [List.mem_cons, List.mem_nil_iff, or_false] at hy
          rcases hy with rfl | rfl | rfl | rfl
          · exact fin _ (nb (Same.refl _) n5) (gd1.same (Same.trans s6 (Same.trans s7 (Same.trans s8 s9))))
          · exact fin _ (nb s5 n6) (gd2.same (Same.trans s7 (Same.trans s8 s9)))
          · exact fin _ (nb s47 n8) (gd3.same s9)
          · exact fin _ (nb s48 n9) gd4
        · rintro σ H9 ⟨u, rfl, gu, B9, K9, tb9⟩
          refine cut_seq (fun σ H10 => ∃ v, σ = [some (.ref b), some (.ref t), some (.ref t3), some (.ref u), some (.ref v)] ∧ Gd H10 u 500 ∧ Gd H10 v 600 ∧ Bag H10 b c ∧ Kp b H H10 ∧ Tabs T.TL H10) (fun N hN => ?_) ?_
          · obtain ⟨p, q, hu, q1, hg, bp, bq⟩ := id gu
            walk_at "rs"
            refine ⟨by decide, fun tz H10 s10 n10 h10 => ?_⟩
            have gu10 := s10 _ _ hu
            have c0 : ((0 : Int)).natAbs < 2 ^ 10 := by decide
            have c1 : ((1 : Int)).natAbs < 2 ^ 10 := by decide
            refine two_at 600 10 500 (.inl (.inl h10)) (.inl (.inl gu10)) (by decide) (by decide) c0 c1 bp bq (show (1 : Int) * q ≠ 0 by omega) (pow_le (two_sub (wide_lt c0 bq) (pow_le (wide_lt bp c1) (by decide))) (by decide)) (pow_le (wide_lt c1 bq) (by decide)) fun v H11 s11 n11 gv => ?_
            have ss := Same.trans s10 s11
            exact hN _ _ ⟨v, rfl, gu.same ss, gv, B9.same ss, Same.trans K9 (Kp.of ss), Tabs.same tb9 ss⟩
          · rintro σ H10 ⟨v, rfl, gu, gv, B10, K10, tb10⟩
            have kk : ∀ H', ExtN H10 H' → Tabs T.TL H' → Q (.bl true) H' := fun H' e' t' => k H' (B10.ext e') (KN.trans (KN.kp K10) (KN.ext e')) t'
            refine seq_op fun N hN => ?_
            walk_at "rs"
            refine gu.jud (by decide) tb10 fun H11 e11 tb11 => ⟨true, rfl, iteFF (by decide) ((gv.ext e11).jud (by decide) tb11 fun H12 e12 tb12 => ⟨true, rfl, iteFF (by decide) (hN _ _ ?_)⟩)⟩
            clear hN N
            have e02 := ExtN.trans' e11 e12
            have gu2 := gu.ext e02
            have gv2 := gv.ext e02
            obtain ⟨p, q, hu, q1, hg, bp, bq⟩ := id gu2
            have up : SqT K H12 u [.int p, .int q] := .inl (.inl hu)
            refine seq_op fun N hN => ?_
            walk_at "rs"
            refine ⟨_, up, _, rfl, p, rfl, ite2 (fun e => kk H12 e02 tb12) (fun e => hN _ _ ?_)⟩
            clear hN N
            walk_at "rs"
            have c7 : ((7 : Int)).natAbs < 2 ^ 10 := by decide
            have c1 : ((1 : Int)).natAbs < 2 ^ 10 := by decide
            refine ⟨by decide, fun t7 H13 s13 n13 h13 => ?_⟩
            have up13 := s13 _ _ hu
            refine ⟨t7, u, 7, 1, p, q, rfl, .inl (.inl h13), .inl (.inl up13), pow_le c7 (by decide), pow_le c1 (by decide), pow_le bp (by decide), pow_le bq (by decide), by decide, q1, hg, fun r0 t8 H14 s14 n14 h14 => ?_, fun r0 => absurd r0 e⟩
            have gq : Gd H14 t8 600 := Gd.of h14 (show (1 : Int) * p ≠ 0 by omega) (pow_le (wide_lt c7 bq) (by decide)) (pow_le (wide_lt c1 bp) (by decide))
            have s24 := Same.trans s13 s14
            refine gq.jud (by decide) (Tabs.same tb12 s24) fun H15 e15 tb15 => ⟨true, rfl, iteTT rfl ?_⟩
            have gv15 := (gv2.same s24).ext e15
            obtain ⟨p2, q2, hv, q21, hg2, bp2, bq2⟩ := gv15
            refine ⟨by decide, by decide, by decide, fun t9 H16 s16 n16 h16 => ?_⟩
            refine ⟨v, t9, p2, q2, 10 ^ 18 - 1, 10 ^ 17, rfl, .inl (.inl (s16 _ _ hv)), .inl (.inl h16), pow_le bp2 (by decide), pow_le bq2 (by decide), pow_le (a := 64) (by decide) (by decide), pow_le (a := 64) (by decide) (by decide), by omega, by decide, by decide +kernel, fun r0 t10 H17 s17 n17 h17 => ?_, fun r0 => absurd r0 (by decide)⟩
            have b18 : ((10 : Int) ^ 18 - 1).natAbs < 2 ^ 64 := by decide
            have b17 : ((10 : Int) ^ 17).natAbs < 2 ^ 64 := by decide
            have gq2 : Gd H17 t10 700 := Gd.of h17 (Int.mul_ne_zero (by omega) (by decide)) (pow_le (wide_lt bp2 b17) (by decide)) (pow_le (wide_lt bq2 b18) (by decide))
            have s57 := Same.trans s16 s17
            exact gq2.jud (by decide) (Tabs.same tb15 s57) fun H18 e18 tb18 => kk H18 (ExtN.trans' e02 (ExtN.trans' (Same.extN s24) (ExtN.trans' e15 (ExtN.trans' (Same.extN s57) e18)))) tb18
    exact ite2 (fun _ => ⟨by decide, by decide, len9, rd 60 (by decide) ⟨_, nines.1, by decide⟩⟩) (fun _ => ⟨by decide, by decide, len9, rd 59 (by decide) ⟨_, nines.2, by decide⟩⟩)
end
end LK

set_option Elab.async false
set_option linter.all false
set_option maxRecDepth 100000
namespace LK
open PySem PySem.Spec PyProof.Rows L2
local macro_rules | `(tactic| walk_at "rs") => `(tactic| simp only [cxK, cxNK, tCallZ, tAsg, tOp, rI0, rS0, rB0, rI, rU, tUn, rEq, rNe, rIxL, rIxT, rIxS, rSetL, rSlLU, rSlS, rSlU, rCatL, rCatU, rRepL, rRepS, rIn, tVar, tC, gName, gSub, tIfS, tTest, tB, tAnd, tOr, tNot, tNotV, tAndV, tOrV, tIf, tCall, tCons, tNil, tCB, tDrop, tRet, tRetN, tNext, tLstU, tTupU, tM0, tM1, tPar, tPar3, tAug, ipI, tBM, tBM0, rAppend, rPop, tBreak, tCont, tChain, tSl, tPart, tNoPart, L2.start, List.map, List.length_cons, List.length_nil, List.replicate, List.cons_append, List.nil_append, List.append_nil, List.getElem?_cons_zero, List.getElem?_cons_succ, List.set_cons_zero, List.set_cons_succ, Option.some.injEq, V.int.injEq, V.ref.injEq, V.str.injEq, V.bl.injEq, exists_eq_left', exists_eq_left, exists_and_left, decide_eq_true_eq, List.cons.injEq, and_true, true_and, scal, Bool.not_eq_true', decide_eq_false_iff_not, Nat.zero_add, Nat.reduceAdd, Nat.reduceSub, reduceCtorEq, false_and, exists_false, false_or, or_false, CPow, CMul, CDiv, Int.reduceToNat, ↓reduceIte, wipe, sw, List.nil_append, List.singleton_append])
local macro_rules | `(tactic| walk_at "st") => `(tactic| (refine seq_op fun N hN => ?_; walk_at "rs"))
local macro_rules | `(tactic| walk_at "sd") => `(tactic| first | assumption | decide | omega)
local macro_rules | `(tactic| walk_at "rd") => `(tactic| repeat (first
  | refine ⟨_, SqL.of (by assumption), ?_⟩ | refine ⟨_, SqL.of upd_same, ?_⟩ | refine ⟨_, .inl (SqL.of (by assumption)), ?_⟩ | refine ⟨_, (by assumption : _ = some (HO.lst _)), ?_⟩ | refine ⟨_, upd_same, ?_⟩
  | refine ⟨_, rfl, ?_⟩ | refine And.intro (by walk_at "sd") ?_))

open LamX (Tabs TabS ExtN GivesTo pe_lamcall TabB lamS_by tLam CodeO LamS lamCx lamEnv)
section
variable {P : Program} {w : World} {K : PySem.W.Frag} {mg : Str → Option Value} {base : Heap}
def sp_law (K : PySem.W.Frag) (TL : List (Addr × Str)) : Sp := fun vs H Q _ => ∃ (a : Addr) (ns : List Int), vs = [.ref a] ∧ SqL K H a (ns.map V.int) ∧ ns.length ≤ 63 ∧ Tabs TL H ∧ ∀ H', Q (.bl true) H'
theorem jud_str {K : PySem.W.Frag} {TL : List (Addr × Str)} {H : Hp} {z : Str} {n : Int} {Q : VK} {E : XK} (l : z.length ≤ 100000) (tb : Tabs TL H) (k : ∀ H', ExtN H H' → Tabs TL H' → Q (.bl true) H') : sp_jud K TL [V.str z, V.int n] H Q E :=
  ⟨_, .str z, n, rfl, .str _, decide_eq_true l, Nat.zero_le _, tb, k⟩
theorem cutS_take (z : Str) (k : Nat) : (cutS z none (some (k : Int))).length ≤ k := by
  rw [← len_cps]
  unfold cutS
  show (List.take _ (List.drop _ _)).length ≤ k
  rw [List.length_take]
  have := HT.sIx_nat z.length z.length k
  omega
theorem ok_law (T : Txt w K mg) (hB : ∀ p ∈ T.cs, TabB base mg p.1 p.2) : FnOk P w K mg base CX0 10 T.a_law T.d_law ["script"] (sp_law K T.TL) := by
  refine T.F_law.ok sc_law (fun vs H Q E h => ?_) (fun cdv A outer s H vs Q E hr h => ?_)
  · obtain ⟨a, ns, rfl, _⟩ := h
    rfl
  · obtain ⟨a, ns, rfl, hS, hn, tb, k⟩ := h
    have hr__law_bag : Room 1 _ := hr.mono (by decide)
    have G__law_bag := ok__law_bag (P := P) (base := base) T
    have hr__law_draw : Room 1 _ := hr.mono (by decide)
    have G__law_draw := ok__law_draw (P := P) (base := base) T
    have hr__law_word : Room 4 _ := hr.mono (by decide)
    have G__law_word := ok__law_word (P := P) (base := base) T
    have hr__law_bent : Room 3 _ := hr.mono (by decide)
    have G__law_bent := ok__law_bent (P := P) (base := base) T
    have hr__law_pair : Room 3 _ := hr.mono (by decide)
    have G__law_pair := ok__law_pair (P := P) (base := base) T
    have hr__law_any : Room 7 _ := hr.mono (by decide)
    have G__law_any := ok__law_any (P := P) (base := base) T 4
    have hr__law_told : Room 9 _ := hr
    have G__law_told := ok__law_told (P := P) (base := base) T hB
    have hr__law_judged : Room 8 _ := hr.mono (by decide)
    have G__law_judged := ok__law_judged (P := P) (base := base) T hB
    have hr__law_great : Room 9 _ := hr
    have G__law_great := ok__law_great (P := P) (base := base) T hB
    refine ⟨_, (pss_cons (ps_set (i := 1) sc_law.nd rfl (Or.inl rfl) (pe_call G__law_bag hr__law_bag (by rfl) T.m__law_bag T.F__law_bag.kp T.B__law_bag .nil pass0 (pa_cons (pv 0) pa_nil)))
      (pss_cons (ps_for PassesOwn.never rfl (pi_range1 (by rfl) T.n_range (pa_cons pe_int pa_nil)) (pg_name (i := 2) sc_law.nd rfl (Or.inl rfl)) (pss_cons (ps_set (i := 3) sc_law.nd rfl (Or.inl rfl) (pe_call G__law_word hr__law_word (by rfl) T.m__law_word T.F__law_word.kp T.B__law_word .nil pass0 (pa_cons (pv 1) pa_nil)))
      (pss_cons (ps_if (pt_not (pt_val (pe_call G__law_told hr__law_told (by rfl) T.m__law_told T.F__law_told.kp T.B__law_told .nil pass0 (pa_cons (pv 3) (pa_cons (pe_op op_mod (pe_callTy call_intI (by rfl) T.n_int (by decide +kernel) (pa_cons (pv 2) pa_nil)) pe_int) pa_nil))))) (pss_one (ps_ret pe_bl)) pss_nil)
      (pss_cons (ps_for PassesOwn.never rfl (pi_range1 (by rfl) T.n_range (pa_cons pe_int pa_nil)) (pg_name (i := 4) sc_law.nd rfl (Or.inl rfl)) (pss_cons (ps_for PassesOwn.never rfl (pi_range1 (by rfl) T.n_range (pa_cons (pe_op op_add pe_int (pe_call G__law_draw hr__law_draw (by rfl) T.m__law_draw T.F__law_draw.kp T.B__law_draw .nil pass0 (pa_cons (pv 1) (pa_cons pe_int pa_nil)))) pa_nil)) (pg_name (i := 5) sc_law.nd rfl (Or.inl rfl)) (pss_one (ps_set (i := 3) sc_law.nd rfl (Or.inl rfl) (pe_slice sl_str (pe_call G__law_bent hr__law_bent (by rfl) T.m__law_bent T.F__law_bent.kp T.B__law_bent .nil pass0 (pa_cons (pv 1) (pa_cons (pv 3) pa_nil))) po_none (po_some pe_int)))))
      (pss_one (ps_if (pt_not (pt_val (pe_call G__law_told hr__law_told (by rfl) T.m__law_told T.F__law_told.kp T.B__law_told .nil pass0 (pa_cons (pv 3) (pa_cons (pe_op op_mod (pe_callTy call_intI (by rfl) T.n_int (by decide +kernel) (pa_cons (pv 4) pa_nil)) pe_int) pa_nil))))) (pss_one (ps_ret pe_bl)) pss_nil))))
      (pss_cons (ps_par (i := 6) (j := 7) (by rfl) sc_law.nd rfl rfl (by decide) rfl rfl (pa_cons (pe_call G__law_pair hr__law_pair (by rfl) T.m__law_pair T.F__law_pair.kp T.B__law_pair .nil pass0 (pa_cons (pv 1) pa_nil)) (pa_cons (pe_call G__law_any hr__law_any (by rfl) T.m__law_any T.F__law_any.kp T.B__law_any .nil pass0 (pa_cons (pv 1) (pa_cons pe_int pa_nil))) pa_nil)) (by rfl))
      (pss_one (ps_if (PW.pt (pw_or (pt_not (pt_val (pe_call G__law_judged hr__law_judged (by rfl) T.m__law_judged T.F__law_judged.kp T.B__law_judged .nil pass0 (pa_cons (pv 6) (pa_cons pe_int pa_nil))))) (pw_or (pt_not (pt_val (pe_call G__law_judged hr__law_judged (by rfl) T.m__law_judged T.F__law_judged.kp T.B__law_judged .nil pass0 (pa_cons (pv 7) (pa_cons pe_int pa_nil))))) (pw_or (pt_not (pt_val (pe_call G__law_told hr__law_told (by rfl) T.m__law_told T.F__law_told.kp T.B__law_told .nil pass0 (pa_cons (pv 7) (pa_cons pe_int pa_nil))))) (pw_or1 (pt_not (pt_val (pe_call G__law_great hr__law_great (by rfl) T.m__law_great T.F__law_great.kp T.B__law_great .nil pass0 (pa_cons (pv 1) pa_nil))))))))) (pss_one (ps_ret pe_bl)) pss_nil)))))))
      (pss_one (ps_ret pe_bl)))), ?_⟩
    refine seq_op fun N hN => ?_
    walk_at "rs"
    refine ⟨a, ns, rfl, hS, hn, fun b c H1 s1 B _ => hN _ _ ?_⟩
    clear hN N
    have tb1 := Tabs.same tb s1
    refine cut_seq (fun σ H2 => True) (fun N hN => ?_) (fun σ H2 _ => by walk_at "rs"; exact k H2)
    refine ⟨8, rfl, by decide, by decide, for_range (lo := 0) (n := (8 : Int).toNat) (fun i σ H2 => ∃ (x2 x3 x4 x5 x6 x7 : Option V), σ = [some (.ref a), some (.ref b), x2, x3, x4, x5, x6, x7] ∧ Bag H2 b c ∧ Tabs T.TL H2) ⟨_, _, _, _, _, _, rfl, B, tb1⟩ ?_ ?_⟩
    · rintro i σ H2 hi ⟨x2, x3, x4, x5, x6, x7, rfl, B2, tb2⟩
      walk_at "rs"
      refine seq_op fun N2 hN2 => ?_
      walk_at "rs"
      refine ⟨b, c, rfl, B2, fun z H3 lz B3 K3 => hN2 _ _ ?_⟩
      clear hN2 N2
      have tb3 := Tabs.kp B2 tb2 K3
      refine seq_op fun N2 hN2 => ?_
      walk_at "rs"
      refine ⟨by decide, jud_str (by omega) tb3 fun H4 e4 tb4 => ⟨true, rfl, iteFF (by decide) (hN2 _ _ ?_)⟩⟩
      clear hN2 N2
      have B4 := B3.ext e4
      refine cut_seq (fun σ H5 => ∃ (x3 x4 x5 : Option V), σ = [some (.ref a), some (.ref b), some (.int (0 + (i : Int))), x3, x4, x5, x6, x7] ∧ Bag H5 b c ∧ Tabs T.TL H5) (fun N2 hN2 => ?_) ?_
      · refine ⟨3, rfl, by decide, by decide, for_range (lo := 0) (n := (3 : Int).toNat) (fun i2 σ H6 => ∃ (z : Str) (x4 x5 : Option V), σ = [some (.ref a), some (.ref b), some (.int (0 + (i : Int))), some (.str z), x4, x5, x6, x7] ∧ z.length ≤ 10000 ∧ Bag H6 b c ∧ Tabs T.TL H6) ⟨z, _, _, rfl, by omega, B4, tb4⟩ ?_ ?_⟩
        · rintro i2 σ H6 hi2 ⟨z, x4, x5, rfl, lz, B6, tb6⟩
          walk_at "rs"
          refine cut_seq (fun σ H7 => ∃ (z : Str) (x5 : Option V), σ = [some (.ref a), some (.ref b), some (.int (0 + (i : Int))), some (.str z), some (.int (0 + (i2 : Int))), x5, x6, x7] ∧ z.length ≤ 10000 ∧ Bag H7 b c ∧ Tabs T.TL H7) (fun N3 hN3 => ?_) ?_
          · refine ⟨_, rfl, b, c, 2, rfl, B6, by decide, by decide, fun r H7 r0 r1 B7 K7 => ⟨1, r, rfl, rfl, _, rfl, by omega, by omega, for_range (lo := 0) (n := (1 + r).toNat) (fun i3 σ H8 => ∃ (z : Str) (x5 : Option V), σ = [some (.ref a), some (.ref b), some (.int (0 + (i : Int))), some (.str z), some (.int (0 + (i2 : Int))), x5, x6, x7] ∧ z.length ≤ 10000 ∧ Bag H8 b c ∧ Tabs T.TL H8) ⟨z, _, rfl, lz, B7, Tabs.kp B6 tb6 K7⟩ ?_ ?_⟩⟩
            · rintro i3 σ H8 hi3 ⟨z, x5, rfl, lz, B8, tb8⟩
              walk_at "rs"
              refine ⟨b, c, z, rfl, B8, lz, fun z' H9 l' B9 K9 => ⟨z', rfl, Nat.le_trans l' (by decide), _, _, ⟨rfl, rfl⟩, ?_, B9, Tabs.kp B8 tb8 K9⟩⟩
              have := cutS_take z' 9000
              exact Nat.le_trans this (by decide)
            · rintro σ H8 ⟨z, x5, rfl, lz, B8, tb8⟩
              exact hN3 _ _ ⟨z, x5, rfl, lz, B8, tb8⟩
          · rintro σ H7 ⟨z, x5, rfl, lz, B7, tb7⟩
            walk_at "rs"
            exact ⟨by decide, jud_str (by omega) tb7 fun H8 e8 tb8 => ⟨true, rfl, iteFF (by decide) ⟨_, _, _, ⟨rfl, rfl, rfl⟩, lz, B7.ext e8, tb8⟩⟩⟩
        · rintro σ H6 ⟨z, x4, x5, rfl, _, B6, tb6⟩
          exact hN2 _ _ ⟨_, _, _, rfl, B6, tb6⟩
      · rintro σ H5 ⟨x3, x4, x5, rfl, B5, tb5⟩
        refine seq_op fun N2 hN2 => ?_
        walk_at "rs"
        obtain ⟨xb5, eb5⟩ := B5.at
        refine ⟨b, c, rfl, B5, fun v d H6 B6 K6 hd hok hdep => ⟨b, c, 4, rfl, B6, by decide, fun v2 d2 H7 B7 K7 hd2 hok2 hdep2 => ⟨v, v2, ⟨rfl, rfl⟩, hN2 _ _ ?_⟩⟩⟩
        clear hN2 N2
        have D1 : Dp K H7 v d := dp_same (nw_le _ _) (dp_same (nw_kp eb5 K7) hd)
        have D2 : Dp K H7 v2 d2 := dp_same (nw_le _ _) hd2
        have tb7 := Tabs.kp B6 (Tabs.kp B5 tb5 K6) K7
        walk_at "rs"
        refine ⟨v, d, 0, rfl, D1, hok, by omega, tb7, fun H8 e8 tb8 => ⟨true, rfl, iteFF (by decide) ⟨v2, d2, 1, rfl, dp_ext e8 D2, hok2, by omega, tb8, fun H9 e9 tb9 => ⟨true, rfl, iteFF (by decide) ⟨v2, d2, 0, rfl, dp_ext e9 (dp_ext e8 D2), hok2, by omega, tb9, fun H10 e10 tb10 => ⟨true, rfl, iteFF (by decide) ⟨c, ((B7.ext e8).ext e9).ext e10, tb10, fun H11 B11 K11 tb11 => ⟨_, _, _, _, _, _, ⟨rfl, rfl, rfl, rfl, rfl, rfl⟩, B11, tb11⟩⟩⟩⟩⟩⟩⟩⟩
    · rintro σ H2 ⟨x2, x3, x4, x5, x6, x7, rfl, B2, tb2⟩
      exact hN _ _ trivial
end
end LK

set_option Elab.async false
set_option linter.all false
set_option maxRecDepth 100000
namespace LK
open PySem PySem.Spec PyProof.Rows L2
local macro_rules | `(tactic| walk_at "rs") => `(tactic| simp only [cxK, cxNK, tCallZ, tAsg, tOp, rI0, rS0, rB0, rI, rU, tUn, rEq, rNe, rIxL, rIxT, rIxS, rSetL, rSlLU, rSlS, rSlU, rCatL, rCatU, rRepL, rIn, tVar, tC, gName, gSub, tIfS, tTest, tB, tAnd, tOr, tNot, tNotV, tAndV, tOrV, tIf, tCall, tCons, tNil, tCB, tDrop, tRet, tRetN, tNext, tLstU, tTupU, tM0, tM1, tPar, tPar3, tAug, ipI, tBM, tBM0, rAppend, rPop, tBreak, tCont, tChain, tSl, tPart, tNoPart, L2.start, List.map, List.length_cons, List.length_nil, List.replicate, List.cons_append, List.nil_append, List.append_nil, List.getElem?_cons_zero, List.getElem?_cons_succ, List.set_cons_zero, List.set_cons_succ, Option.some.injEq, V.int.injEq, V.ref.injEq, V.str.injEq, V.bl.injEq, exists_eq_left', exists_eq_left, exists_and_left, decide_eq_true_eq, List.cons.injEq, and_true, true_and, scal, Bool.not_eq_true', decide_eq_false_iff_not, Nat.zero_add, Nat.reduceAdd, Nat.reduceSub, reduceCtorEq, false_and, exists_false, false_or, or_false, CPow, CMul, CDiv, Int.reduceToNat, ↓reduceIte, wipe, sw, List.nil_append, List.singleton_append])
local macro_rules | `(tactic| walk_at "st") => `(tactic| (refine seq_op fun N hN => ?_; walk_at "rs"))
local macro_rules | `(tactic| walk_at "sd") => `(tactic| first | assumption | decide | omega)
local macro_rules | `(tactic| walk_at "rd") => `(tactic| repeat (first
  | refine ⟨_, SqL.of (by assumption), ?_⟩ | refine ⟨_, SqL.of upd_same, ?_⟩ | refine ⟨_, .inl (SqL.of (by assumption)), ?_⟩ | refine ⟨_, (by assumption : _ = some (HO.lst _)), ?_⟩ | refine ⟨_, upd_same, ?_⟩
  | refine ⟨_, rfl, ?_⟩ | refine And.intro (by walk_at "sd") ?_))
open LamX (Tabs TabS ExtN GivesTo pe_lamcall TabB lamS_by tLam CodeO LamS lamCx lamEnv)
/-! ### what the head tells, as Bools -/
def oexB (K : PySem.W.Frag) (C : Addr) : Bool := (match K.lookup C with
  | some ⟨.type c, _, .cls cd, sl⟩ => (match cd.mro, sl.toList with
    | .ref C' :: bm, [_, _, _, _, some (.builtin n), _] => decide (c = "type") && (decide (C' = C) && (decide (n = "ValueError.__new__") && (!cd.hasDel && (cd.hasDict && PySem.HandSPX.refsVE bm))))
    | _, _ => false)
  | _ => false) && (He.eqO (PySem.W.findIn K (.ref C) "__setattr__") (some (some (.builtin "object.__setattr__"))) && (decide (PySem.W.subIn K (.ref C) (.type "BaseException") = some true) && (decide (PySem.W.typeIn K (.ref C) = some (.type "type")) && PySem.W.keepIn K (.ref C))))
theorem oexB_ok {K : PySem.W.Frag} {C : Addr} (h : oexB K C = true) : OexC K C := by
  obtain ⟨h1, h2⟩ := He.ba h
  obtain ⟨h3, h4⟩ := He.ba h2
  obtain ⟨h5, h6⟩ := He.ba h4
  obtain ⟨h7, h8⟩ := He.ba h6
  refine ⟨?_, He.eqO_ok h3, of_decide_eq_true h5, of_decide_eq_true h7, h8⟩
  cases e : K.lookup C with
  | none => rw [e] at h1; cases h1
  | some ob =>
    obtain ⟨oc, od, dt, osl⟩ := ob
    rw [e] at h1
    cases oc with
    | type c =>
      cases dt with
      | cls cd =>
        obtain ⟨nm, bs, mro, ns, qn, hd, sn, sb, ab, col, del⟩ := cd
        dsimp only at h1
        split at h1
        · rename_i xl C' bm k0 k1 k2 k3 n k5 es
          obtain ⟨a1, b1⟩ := He.ba h1
          obtain ⟨a2, b2⟩ := He.ba b1
          obtain ⟨a3, b3⟩ := He.ba b2
          obtain ⟨a4, b4⟩ := He.ba b3
          obtain ⟨a5, a6⟩ := He.ba b4
          have ec : c = "type" := of_decide_eq_true a1
          have eC : C' = C := of_decide_eq_true a2
          have en : n = "ValueError.__new__" := of_decide_eq_true a3
          have ed : del = false := by cases del with
            | false => rfl
            | true => cases a4
          have eh : hd = true := a5
          have eo : osl = #[k0, k1, k2, k3, some (.builtin n), k5] := by
            have := congrArg List.toArray es
            simpa using this
          subst ec eC en ed eh eo
          exact ⟨nm, qn, ns, bs, bm, sn, sb, ab, col, od, k0, k1, k2, k3, k5, rfl, a6⟩
        · cases h1
      | _ => cases h1
    | _ => cases dt <;> cases h1
def isxB (K : PySem.W.Frag) (C : Addr) : Bool := (PySem.W.clsIn K C).isSome && (He.eqO (PySem.W.findIn K (.ref C) "__getattribute__") (some (some (.builtin "BaseException.__getattribute__"))) && (He.eqO (PySem.W.findIn K (.ref C) "__getattr__") (some none) && (decide (PySem.W.subIn K (.ref C) (.type "BaseException") = some true) && (He.eqO (PySem.W.findIn K (.ref C) "__class__") (some (some (.builtin "object.__class__"))) && (He.eqO (PySem.W.specialIn K (.builtin "object.__class__") "__get__") (some (some (.builtin "getset_descriptor.__get__"))) && (decide (PySem.W.takesIn K (.builtin "object.__class__") = some true) && decide (PySem.W.mroIn K C (.type "object") = some true)))))))
theorem isxB_ok {K : PySem.W.Frag} {C : Addr} (h : isxB K C = true) : IsxC K C := by
  obtain ⟨h1, h⟩ := He.ba h
  obtain ⟨h2, h⟩ := He.ba h
  obtain ⟨h3, h⟩ := He.ba h
  obtain ⟨h4, h⟩ := He.ba h
  obtain ⟨h5, h⟩ := He.ba h
  obtain ⟨h6, h⟩ := He.ba h
  obtain ⟨h7, h8⟩ := He.ba h
  exact ⟨h1, He.eqO_ok h2, He.eqO_ok h3, of_decide_eq_true h4, He.eqO_ok h5, He.eqO_ok h6, of_decide_eq_true h7, of_decide_eq_true h8⟩
def bvC (K : PySem.W.Frag) : Addr := He.ga K "BadValue"
def bvI (K : PySem.W.Frag) : Addr := He.fAd K ("BadValue", some "__init__")
def tabP (K : PySem.W.Frag) (x : Str) : Addr := (He.cT K (x, none)).2
def exB (K : PySem.W.Frag) : Bool := oexB K (bvC K) && (xfB K (bvC K) && (isxB K (bvC K) && (decide (PySem.W.kitOne K (.ref (bvC K)) (.ref (bvC K)) = some true) && (He.eqO (PySem.W.nsIn K mainGlobals "gcd") (some (some (.builtin "math.gcd"))) && (He.tupB K "ZERO" [.int 0, .int 1] && (decide (PySem.W.typeIn K (.ref (bvI K)) = some (.type "function")) && (He.eqO (PySem.W.findIn K (.ref (bvC K)) "__init__") (some (some (.ref (bvI K)))) && decide (mainGlobals ≠ tabP K "_law_judged"))))))))
def dInit : He.DefD := ⟨("BadValue", some "__init__"), "__init__", "BadValue.__init__", defArgs s_BadValue, defBody s_BadValue, defScope s_BadValue, [], []⟩
def D_is_number : He.DefD := ⟨("is_number", none), "is_number", "is_number", defArgs s_is_number, defBody s_is_number, defScope s_is_number, [], []⟩
def D_is_fraction : He.DefD := ⟨("is_fraction", none), "is_fraction", "is_fraction", defArgs s_is_fraction, defBody s_is_fraction, defScope s_is_fraction, [], []⟩
def D_is_value : He.DefD := ⟨("is_value", none), "is_value", "is_value", defArgs s_is_value, defBody s_is_value, defScope s_is_value, [], []⟩
def D_fraction : He.DefD := ⟨("fraction", none), "fraction", "fraction", defArgs s_fraction, defBody s_fraction, defScope s_fraction, [.int 1], []⟩
def D_plus : He.DefD := ⟨("plus", none), "plus", "plus", defArgs s_plus, defBody s_plus, defScope s_plus, [], []⟩
def D_minus : He.DefD := ⟨("minus", none), "minus", "minus", defArgs s_minus, defBody s_minus, defScope s_minus, [], []⟩
def D_times : He.DefD := ⟨("times", none), "times", "times", defArgs s_times, defBody s_times, defScope s_times, [], []⟩
def D_quotient : He.DefD := ⟨("quotient", none), "quotient", "quotient", defArgs s_quotient, defBody s_quotient, defScope s_quotient, [], []⟩
def D_value_text : He.DefD := ⟨("value_text", none), "value_text", "value_text", defArgs s_value_text, defBody s_value_text, defScope s_value_text, [], []⟩
def D_read_number : He.DefD := ⟨("read_number", none), "read_number", "read_number", defArgs s_read_number, defBody s_read_number, defScope s_read_number, [], []⟩
def D_read_value : He.DefD := ⟨("read_value", none), "read_value", "read_value", defArgs s_read_value, defBody s_read_value, defScope s_read_value, [], []⟩
def D__law_bag : He.DefD := ⟨("_law_bag", none), "_law_bag", "_law_bag", defArgs s__law_bag, defBody s__law_bag, defScope s__law_bag, [], []⟩
def D__law_draw : He.DefD := ⟨("_law_draw", none), "_law_draw", "_law_draw", defArgs s__law_draw, defBody s__law_draw, defScope s__law_draw, [], []⟩
def D__law_of : He.DefD := ⟨("_law_of", none), "_law_of", "_law_of", defArgs s__law_of, defBody s__law_of, defScope s__law_of, [], []⟩
def D__law_like : He.DefD := ⟨("_law_like", none), "_law_like", "_law_like", defArgs s__law_like, defBody s__law_like, defScope s__law_like, [], []⟩
def D__law_any : He.DefD := ⟨("_law_any", none), "_law_any", "_law_any", defArgs s__law_any, defBody s__law_any, defScope s__law_any, [], []⟩
def D__law_low : He.DefD := ⟨("_law_low", none), "_law_low", "_law_low", defArgs s__law_low, defBody s__law_low, defScope s__law_low, [], []⟩
def D__law_order : He.DefD := ⟨("_law_order", none), "_law_order", "_law_order", defArgs s__law_order, defBody s__law_order, defScope s__law_order, [], []⟩
def D__law_whole : He.DefD := ⟨("_law_whole", none), "_law_whole", "_law_whole", defArgs s__law_whole, defBody s__law_whole, defScope s__law_whole, [], []⟩
def D__law_broken : He.DefD := ⟨("_law_broken", none), "_law_broken", "_law_broken", defArgs s__law_broken, defBody s__law_broken, defScope s__law_broken, [], []⟩
def D__law_short : He.DefD := ⟨("_law_short", none), "_law_short", "_law_short", defArgs s__law_short, defBody s__law_short, defScope s__law_short, [], []⟩
def D__law_read : He.DefD := ⟨("_law_read", none), "_law_read", "_law_read", defArgs s__law_read, defBody s__law_read, defScope s__law_read, [], []⟩
def D__law_digits : He.DefD := ⟨("_law_digits", none), "_law_digits", "_law_digits", defArgs s__law_digits, defBody s__law_digits, defScope s__law_digits, [], []⟩
def D__law_word : He.DefD := ⟨("_law_word", none), "_law_word", "_law_word", defArgs s__law_word, defBody s__law_word, defScope s__law_word, [], []⟩
def D__law_bent : He.DefD := ⟨("_law_bent", none), "_law_bent", "_law_bent", defArgs s__law_bent, defBody s__law_bent, defScope s__law_bent, [], []⟩
def D__law_ask : He.DefD := ⟨("_law_ask", none), "_law_ask", "_law_ask", defArgs s__law_ask, defBody s__law_ask, defScope s__law_ask, [], []⟩
def D__law_judged : He.DefD := ⟨("_law_judged", none), "_law_judged", "_law_judged", defArgs s__law_judged, defBody s__law_judged, defScope s__law_judged, [], []⟩
def D__law_told : He.DefD := ⟨("_law_told", none), "_law_told", "_law_told", defArgs s__law_told, defBody s__law_told, defScope s__law_told, [], []⟩
def D__law_great : He.DefD := ⟨("_law_great", none), "_law_great", "_law_great", defArgs s__law_great, defBody s__law_great, defScope s__law_great, [], []⟩
def D__law_pair : He.DefD := ⟨("_law_pair", none), "_law_pair", "_law_pair", defArgs s__law_pair, defBody s__law_pair, defScope s__law_pair, [], []⟩
def D_law : He.DefD := ⟨("law", none), "law", "law", defArgs s_law, defBody s_law, defScope s_law, [], []⟩
def fnL : List He.DefD := [dInit, D_is_number, D_is_fraction, D_is_value, D_fraction, D_plus, D_minus, D_times, D_quotient, D_value_text, D_read_number, D_read_value, D__law_bag, D__law_draw, D__law_of, D__law_like, D__law_any, D__law_low, D__law_order, D__law_whole, D__law_broken, D__law_short, D__law_read, D__law_digits, D__law_word, D__law_bent, D__law_ask, D__law_judged, D__law_told, D__law_great, D__law_pair, D_law]
def faL : List He.Fa := [.free "len", .free "int", .free "str", .free "list", .free "tuple", .free "bool", .free "isinstance", .free "all", .free "range", .free "zip", .free "abs", .free "min", .glo "ZERO", .glo "BadValue", .glo "NetError", .glo "is_number", .glo "is_fraction", .glo "is_value", .glo "fraction", .glo "plus", .glo "minus", .glo "times", .glo "quotient", .glo "value_text", .glo "read_number", .glo "read_value", .glo "_law_bag", .glo "_law_draw", .glo "_law_of", .glo "_law_like", .glo "_law_any", .glo "_law_low", .glo "_law_order", .glo "_law_whole", .glo "_law_broken", .glo "_law_short", .glo "_law_read", .glo "_law_digits", .glo "_law_word", .glo "_law_bent", .glo "_law_ask", .glo "_law_judged", .glo "_law_told", .glo "_law_great", .glo "_law_pair", .glo "law", .str "FIGURES" FIGs, .noat "BadValue" "value", .noat "BadValue" "code", .exm "BadValue" "NetError" true]
def tfL : List He.Defn := [("_law_judged", none)]
theorem fun_ofD {K : PySem.W.Frag} {x q : Str} {st : Stmt} {f : Addr} {fd : FuncData} {kws : List (Str × V)} (F : FunD K x q (defArgs st) (defBody st) (defScope st) [] kws f fd) : Fun K x q st f fd := by
  obtain ⟨oc, od, dV, kV, doc, pm, an, cdv, ct, osl, rfl, lk, hcd, hD, _⟩ := F.ex
  rcases hD with ⟨_, rfl⟩ | ⟨e, _⟩
  · exact ⟨⟨oc, od, kV, doc, pm, an, cdv, ct, osl, rfl, lk, hcd⟩, F.kp⟩
  · exact absurd rfl e
theorem code_ofD {K : PySem.W.Frag} {x q : Str} {ps : Arguments} {b : List Stmt} {sc : Scope} {dv : List V} {kw : List (Str × V)} {p : He.Defn} {fd : FuncData} (F : FunD K x q ps b sc dv kw (He.fAd K p) fd) : fd.code = .ref (He.codeOf K p) := by
  obtain ⟨oc, od, dV, kV, doc, pm, an, cdv, ct, osl, rfl, lk, hcd, _, _⟩ := F.ex
  obtain ⟨c, rfl⟩ := He.codeIn_ref hcd
  rw [He.codeOf_eq lk rfl]
/-- a def with defaults called by keywords alone -/
theorem kb_ofD {K : PySem.W.Frag} {x qual : Str} {params : Arguments} {body : List Stmt} {scope : Scope} {dvs : List V} {kws : List (Str × V)} {f : Addr} {fd : FuncData} {ps : List Str} (F : FunD K x qual params body scope dvs kws f fd) (ks : List Str) (g : {α : Type} → List α → List α → List α) (hd : dvs ≠ [])
    (hrel : ∀ {ds zs : List V} {its ws : List Value}, Vals ds its → Vals zs ws → Vals (g ds zs) (g its ws))
    (h : ∀ (T : Addr) (kV doc pm : Value) (an : Option Addr) (cdv ct : Value) (its ws : List Value), its.length = dvs.length → ws.length = ks.length →
      ∃ k, bindArgs (PySem.W.fnOf x qual params body scope (.ref T) kV doc pm an cdv ct) ⟨[], ks.zip ws⟩ = seqItems? (.ref T) >>= k ∧ k (some its.toArray) = pure (ps.zip (g its ws))) :
    ∃ its : List Value, its.length = dvs.length ∧ KBn K fd ps 0 ks (fun _ ws => g its ws) (fun _ zs => g dvs zs) := by
  obtain ⟨oc, od, dV, kV, doc, pm, an, cdv, ct, osl, rfl, lk, hcd, hD, hK⟩ := F.ex
  rcases hD with ⟨e, _⟩ | ⟨_, T, ob, its, m, rfl, lT, oT, rT⟩
  · exact absurd e hd
  · have l1 : its.length = dvs.length := rT.length.symm
    refine ⟨its, l1, ⟨fun s us ws X hu hw => ?_, fun _ rz => hrel rT rz⟩⟩
    obtain rfl : us = [] := List.eq_nil_of_length_eq_zero hu
    obtain ⟨k, e1, e2⟩ := h T kV doc pm an cdv ct its ws l1 hw
    refine BindsTo.of_looks fun M => ?_
    rw [e1]
    exact looks_items X lT oT (.of_pure e2)
set_option maxHeartbeats 0 in
theorem facts {P : Program} {w : World} {K : PySem.W.Frag} {h : Heap} {mg : Str → Option Value} {f : Addr} (X : K.In h) (G : h.Ns mainGlobals mg) (hfa : mg ("law" : Str) = some (.ref f)) (c : He.SaysX faL fnL [] tfL exB w h K) :
    ∃ (fd : FuncData) (cs : List (Addr × Addr)) (sp : Sp), (∀ p ∈ cs, h.get? p.2 = some { cls := .none, data := .fields #[] }) ∧ (∀ p ∈ cs, K.lookup p.2 = none) ∧ (∀ p ∈ cs, PySem.W.CodeHd h p.1 p.2) ∧ (∀ (s : Shared) (u : Value), BindsTo s fd ⟨[u], []⟩ [("script", u)]) ∧
      (∀ (H : Hp) (a : Addr) (ns : List Int), ns.length ≤ 63 → (∀ z ∈ ns, Builtin.Int.intBits z ≤ 1048576) → (∀ p ∈ cs, H p.2 = some (.tbl #[])) → SqL K H a (ns.map V.int) → sp [.ref a] H (fun v _ => v = .bl true) fun _ _ _ => False) ∧
      ∀ base : Heap, K.In base → base.Ns mainGlobals mg → (∀ p ∈ cs, LamX.TabB base mg p.1 p.2) → FnOk P w K mg base CX0 10 f fd ["script"] sp := by
  have d := c.t.d
  obtain ⟨e1, ex⟩ := He.ba c.more
  obtain ⟨e2, ex⟩ := He.ba ex
  obtain ⟨e3, ex⟩ := He.ba ex
  obtain ⟨e4, ex⟩ := He.ba ex
  obtain ⟨e5, ex⟩ := He.ba ex
  obtain ⟨e6, ex⟩ := He.ba ex
  obtain ⟨e7, ex⟩ := He.ba ex
  obtain ⟨e8, e9⟩ := He.ba ex
  obtain ⟨d_init, FD_init⟩ := d.def_ 0 (d := dInit) rfl
  obtain ⟨d_is_number, FD_is_number⟩ := d.def_ 1 (d := D_is_number) rfl
  obtain ⟨d_is_fraction, FD_is_fraction⟩ := d.def_ 2 (d := D_is_fraction) rfl
  obtain ⟨d_is_value, FD_is_value⟩ := d.def_ 3 (d := D_is_value) rfl
  obtain ⟨d_fraction, FD_fraction⟩ := d.def_ 4 (d := D_fraction) rfl
  obtain ⟨d_plus, FD_plus⟩ := d.def_ 5 (d := D_plus) rfl
  obtain ⟨d_minus, FD_minus⟩ := d.def_ 6 (d := D_minus) rfl
  obtain ⟨d_times, FD_times⟩ := d.def_ 7 (d := D_times) rfl
  obtain ⟨d_quotient, FD_quotient⟩ := d.def_ 8 (d := D_quotient) rfl
  obtain ⟨d_value_text, FD_value_text⟩ := d.def_ 9 (d := D_value_text) rfl
  obtain ⟨d_read_number, FD_read_number⟩ := d.def_ 10 (d := D_read_number) rfl
  obtain ⟨d_read_value, FD_read_value⟩ := d.def_ 11 (d := D_read_value) rfl
  obtain ⟨d__law_bag, FD__law_bag⟩ := d.def_ 12 (d := D__law_bag) rfl
  obtain ⟨d__law_draw, FD__law_draw⟩ := d.def_ 13 (d := D__law_draw) rfl
  obtain ⟨d__law_of, FD__law_of⟩ := d.def_ 14 (d := D__law_of) rfl
  obtain ⟨d__law_like, FD__law_like⟩ := d.def_ 15 (d := D__law_like) rfl
  obtain ⟨d__law_any, FD__law_any⟩ := d.def_ 16 (d := D__law_any) rfl
  obtain ⟨d__law_low, FD__law_low⟩ := d.def_ 17 (d := D__law_low) rfl
  obtain ⟨d__law_order, FD__law_order⟩ := d.def_ 18 (d := D__law_order) rfl
  obtain ⟨d__law_whole, FD__law_whole⟩ := d.def_ 19 (d := D__law_whole) rfl
  obtain ⟨d__law_broken, FD__law_broken⟩ := d.def_ 20 (d := D__law_broken) rfl
  obtain ⟨d__law_short, FD__law_short⟩ := d.def_ 21 (d := D__law_short) rfl
  obtain ⟨d__law_read, FD__law_read⟩ := d.def_ 22 (d := D__law_read) rfl
  obtain ⟨d__law_digits, FD__law_digits⟩ := d.def_ 23 (d := D__law_digits) rfl
  obtain ⟨d__law_word, FD__law_word⟩ := d.def_ 24 (d := D__law_word) rfl
  obtain ⟨d__law_bent, FD__law_bent⟩ := d.def_ 25 (d := D__law_bent) rfl
  obtain ⟨d__law_ask, FD__law_ask⟩ := d.def_ 26 (d := D__law_ask) rfl
  obtain ⟨d__law_judged, FD__law_judged⟩ := d.def_ 27 (d := D__law_judged) rfl
  obtain ⟨d__law_told, FD__law_told⟩ := d.def_ 28 (d := D__law_told) rfl
  obtain ⟨d__law_great, FD__law_great⟩ := d.def_ 29 (d := D__law_great) rfl
  obtain ⟨d__law_pair, FD__law_pair⟩ := d.def_ 30 (d := D__law_pair) rfl
  obtain ⟨d_law, FD_law⟩ := d.def_ 31 (d := D_law) rfl
  have F_init : Fun K "__init__" "BadValue.__init__" s_BadValue (bvI K) d_init := fun_ofD FD_init
  have F_is_number : Fun K "is_number" "is_number" s_is_number (He.ga K "is_number") d_is_number := fun_ofD FD_is_number
  have F_is_fraction : Fun K "is_fraction" "is_fraction" s_is_fraction (He.ga K "is_fraction") d_is_fraction := fun_ofD FD_is_fraction
  have F_is_value : Fun K "is_value" "is_value" s_is_value (He.ga K "is_value") d_is_value := fun_ofD FD_is_value
  have F_plus : Fun K "plus" "plus" s_plus (He.ga K "plus") d_plus := fun_ofD FD_plus
  have F_minus : Fun K "minus" "minus" s_minus (He.ga K "minus") d_minus := fun_ofD FD_minus
  have F_times : Fun K "times" "times" s_times (He.ga K "times") d_times := fun_ofD FD_times
  have F_quotient : Fun K "quotient" "quotient" s_quotient (He.ga K "quotient") d_quotient := fun_ofD FD_quotient
  have F_value_text : Fun K "value_text" "value_text" s_value_text (He.ga K "value_text") d_value_text := fun_ofD FD_value_text
  have F_read_number : Fun K "read_number" "read_number" s_read_number (He.ga K "read_number") d_read_number := fun_ofD FD_read_number
  have F_read_value : Fun K "read_value" "read_value" s_read_value (He.ga K "read_value") d_read_value := fun_ofD FD_read_value
  have F__law_bag : Fun K "_law_bag" "_law_bag" s__law_bag (He.ga K "_law_bag") d__law_bag := fun_ofD FD__law_bag
  have F__law_draw : Fun K "_law_draw" "_law_draw" s__law_draw (He.ga K "_law_draw") d__law_draw := fun_ofD FD__law_draw
  have F__law_of : Fun K "_law_of" "_law_of" s__law_of (He.ga K "_law_of") d__law_of := fun_ofD FD__law_of
  have F__law_like : Fun K "_law_like" "_law_like" s__law_like (He.ga K "_law_like") d__law_like := fun_ofD FD__law_like
  have F__law_any : Fun K "_law_any" "_law_any" s__law_any (He.ga K "_law_any") d__law_any := fun_ofD FD__law_any
  have F__law_low : Fun K "_law_low" "_law_low" s__law_low (He.ga K "_law_low") d__law_low := fun_ofD FD__law_low
  have F__law_order : Fun K "_law_order" "_law_order" s__law_order (He.ga K "_law_order") d__law_order := fun_ofD FD__law_order
  have F__law_whole : Fun K "_law_whole" "_law_whole" s__law_whole (He.ga K "_law_whole") d__law_whole := fun_ofD FD__law_whole
  have F__law_broken : Fun K "_law_broken" "_law_broken" s__law_broken (He.ga K "_law_broken") d__law_broken := fun_ofD FD__law_broken
  have F__law_short : Fun K "_law_short" "_law_short" s__law_short (He.ga K "_law_short") d__law_short := fun_ofD FD__law_short
  have F__law_read : Fun K "_law_read" "_law_read" s__law_read (He.ga K "_law_read") d__law_read := fun_ofD FD__law_read
  have F__law_digits : Fun K "_law_digits" "_law_digits" s__law_digits (He.ga K "_law_digits") d__law_digits := fun_ofD FD__law_digits
  have F__law_word : Fun K "_law_word" "_law_word" s__law_word (He.ga K "_law_word") d__law_word := fun_ofD FD__law_word
  have F__law_bent : Fun K "_law_bent" "_law_bent" s__law_bent (He.ga K "_law_bent") d__law_bent := fun_ofD FD__law_bent
  have F__law_ask : Fun K "_law_ask" "_law_ask" s__law_ask (He.ga K "_law_ask") d__law_ask := fun_ofD FD__law_ask
  have F__law_judged : Fun K "_law_judged" "_law_judged" s__law_judged (He.ga K "_law_judged") d__law_judged := fun_ofD FD__law_judged
  have F__law_told : Fun K "_law_told" "_law_told" s__law_told (He.ga K "_law_told") d__law_told := fun_ofD FD__law_told
  have F__law_great : Fun K "_law_great" "_law_great" s__law_great (He.ga K "_law_great") d__law_great := fun_ofD FD__law_great
  have F__law_pair : Fun K "_law_pair" "_law_pair" s__law_pair (He.ga K "_law_pair") d__law_pair := fun_ofD FD__law_pair
  have F_law : Fun K "law" "law" s_law (He.ga K "law") d_law := fun_ofD FD_law
  have b_init := F_init.binds (ps := ["self", "value"]) fun _ _ _ _ _ _ us hl => match us, hl with | [_, _], _ => rfl
  have b_is_number := F_is_number.binds (ps := ["value"]) fun _ _ _ _ _ _ us hl => match us, hl with | [_], _ => rfl
  have b_is_fraction := F_is_fraction.binds (ps := ["value"]) fun _ _ _ _ _ _ us hl => match us, hl with | [_], _ => rfl
  have b_is_value := F_is_value.binds (ps := ["value"]) fun _ _ _ _ _ _ us hl => match us, hl with | [_], _ => rfl
  have b_plus := F_plus.binds (ps := ["a", "b"]) fun _ _ _ _ _ _ us hl => match us, hl with | [_, _], _ => rfl
  have b_minus := F_minus.binds (ps := ["a", "b"]) fun _ _ _ _ _ _ us hl => match us, hl with | [_, _], _ => rfl
  have b_times := F_times.binds (ps := ["a", "b"]) fun _ _ _ _ _ _ us hl => match us, hl with | [_, _], _ => rfl
  have b_quotient := F_quotient.binds (ps := ["a", "b"]) fun _ _ _ _ _ _ us hl => match us, hl with | [_, _], _ => rfl
  have b_value_text := F_value_text.binds (ps := ["value"]) fun _ _ _ _ _ _ us hl => match us, hl with | [_], _ => rfl
  have b_read_number := F_read_number.binds (ps := ["word"]) fun _ _ _ _ _ _ us hl => match us, hl with | [_], _ => rfl
  have b_read_value := F_read_value.binds (ps := ["text"]) fun _ _ _ _ _ _ us hl => match us, hl with | [_], _ => rfl
  have b__law_bag := F__law_bag.binds (ps := ["script"]) fun _ _ _ _ _ _ us hl => match us, hl with | [_], _ => rfl
  have b__law_draw := F__law_draw.binds (ps := ["bag", "size"]) fun _ _ _ _ _ _ us hl => match us, hl with | [_, _], _ => rfl
  have b__law_of := F__law_of.binds (ps := ["bag", "things"]) fun _ _ _ _ _ _ us hl => match us, hl with | [_, _], _ => rfl
  have b__law_like := F__law_like.binds (ps := ["got", "due"]) fun _ _ _ _ _ _ us hl => match us, hl with | [_, _], _ => rfl
  have b__law_any := F__law_any.binds (ps := ["bag", "deep"]) fun _ _ _ _ _ _ us hl => match us, hl with | [_, _], _ => rfl
  have b__law_low := F__law_low.binds (ps := ["top", "low"]) fun _ _ _ _ _ _ us hl => match us, hl with | [_, _], _ => rfl
  have b__law_order := F__law_order.binds (ps := ["one", "two"]) fun _ _ _ _ _ _ us hl => match us, hl with | [_, _], _ => rfl
  have b__law_whole := F__law_whole.binds (ps := ["thing"]) fun _ _ _ _ _ _ us hl => match us, hl with | [_], _ => rfl
  have b__law_broken := F__law_broken.binds (ps := ["thing"]) fun _ _ _ _ _ _ us hl => match us, hl with | [_], _ => rfl
  have b__law_short := F__law_short.binds (ps := ["thing"]) fun _ _ _ _ _ _ us hl => match us, hl with | [_], _ => rfl
  have b__law_read := F__law_read.binds (ps := ["word"]) fun _ _ _ _ _ _ us hl => match us, hl with | [_], _ => rfl
  have b__law_digits := F__law_digits.binds (ps := ["bag"]) fun _ _ _ _ _ _ us hl => match us, hl with | [_], _ => rfl
  have b__law_word := F__law_word.binds (ps := ["bag"]) fun _ _ _ _ _ _ us hl => match us, hl with | [_], _ => rfl
  have b__law_bent := F__law_bent.binds (ps := ["bag", "word"]) fun _ _ _ _ _ _ us hl => match us, hl with | [_, _], _ => rfl
  have b__law_ask := F__law_ask.binds (ps := ["deed"]) fun _ _ _ _ _ _ us hl => match us, hl with | [_], _ => rfl
  have b__law_judged := F__law_judged.binds (ps := ["thing", "way"]) fun _ _ _ _ _ _ us hl => match us, hl with | [_, _], _ => rfl
  have b__law_told := F__law_told.binds (ps := ["word", "way"]) fun _ _ _ _ _ _ us hl => match us, hl with | [_, _], _ => rfl
  have b__law_great := F__law_great.binds (ps := ["bag"]) fun _ _ _ _ _ _ us hl => match us, hl with | [_], _ => rfl
  have b__law_pair := F__law_pair.binds (ps := ["bag"]) fun _ _ _ _ _ _ us hl => match us, hl with | [_], _ => rfl
  have b_law := F_law.binds (ps := ["script"]) fun _ _ _ _ _ _ us hl => match us, hl with | [_], _ => rfl
  have b_fraction : Binds K d_fraction ["p", "q"] [] := by
    obtain ⟨ds, hv, hb⟩ := FunD.binds1 (ps := ["p", "q"]) FD_fraction 2 1 (List.cons_ne_nil _ _) rfl fun _ _ _ _ _ _ _ us its h1 h2 => match us, its, h1, h2 with | [_, _], [_], _, _ => ⟨_, rfl, rfl⟩
    cases hv
    exact hb
  have dfl_fraction : ∃ ds, Vals [.int 1] ds ∧ Binds K d_fraction ["p", "q"] ds := FunD.binds1 (ps := ["p", "q"]) FD_fraction 1 0 (List.cons_ne_nil _ _) rfl fun _ _ _ _ _ _ _ us its h1 h2 => match us, its, h1, h2 with | [_], [_], _, _ => ⟨_, rfl, rfl⟩
  have z_is_fraction : KBn K d_is_fraction ["value"] 0 ["value"] (fun _ ws => ws) (fun _ zs => zs) := kb_of F_is_fraction (n := 0) (ks := ["value"]) (ps := ["value"]) (fun _ ws => ws) (fun _ h => h) fun _ _ _ _ _ _ us ws h1 h2 => match us, ws, h1, h2 with | [], [_], _, _ => rfl
  have z_is_value : KBn K d_is_value ["value"] 0 ["value"] (fun _ ws => ws) (fun _ zs => zs) := kb_of F_is_value (n := 0) (ks := ["value"]) (ps := ["value"]) (fun _ ws => ws) (fun _ h => h) fun _ _ _ _ _ _ us ws h1 h2 => match us, ws, h1, h2 with | [], [_], _, _ => rfl
  have z_value_text : KBn K d_value_text ["value"] 0 ["value"] (fun _ ws => ws) (fun _ zs => zs) := kb_of F_value_text (n := 0) (ks := ["value"]) (ps := ["value"]) (fun _ ws => ws) (fun _ h => h) fun _ _ _ _ _ _ us ws h1 h2 => match us, ws, h1, h2 with | [], [_], _, _ => rfl
  have z_read_value : KBn K d_read_value ["text"] 0 ["text"] (fun _ ws => ws) (fun _ zs => zs) := kb_of F_read_value (n := 0) (ks := ["text"]) (ps := ["text"]) (fun _ ws => ws) (fun _ h => h) fun _ _ _ _ _ _ us ws h1 h2 => match us, ws, h1, h2 with | [], [_], _, _ => rfl
  obtain ⟨tFIG, hFIG⟩ := He.str_ok X G (d.fact 46 (f := .str "FIGURES" FIGs) rfl)
  let T : Txt w K mg := {
    n_len := He.free_ok X G (d.fact 0 (f := .free "len") rfl)
    n_int := He.free_ok X G (d.fact 1 (f := .free "int") rfl)
    n_str := He.free_ok X G (d.fact 2 (f := .free "str") rfl)
    n_list := He.free_ok X G (d.fact 3 (f := .free "list") rfl)
    n_tuple := He.free_ok X G (d.fact 4 (f := .free "tuple") rfl)
    n_bool := He.free_ok X G (d.fact 5 (f := .free "bool") rfl)
    n_isinstance := He.free_ok X G (d.fact 6 (f := .free "isinstance") rfl)
    n_all := He.free_ok X G (d.fact 7 (f := .free "all") rfl)
    n_range := He.free_ok X G (d.fact 8 (f := .free "range") rfl)
    n_zip := He.free_ok X G (d.fact 9 (f := .free "zip") rfl)
    n_abs := He.free_ok X G (d.fact 10 (f := .free "abs") rfl)
    n_min := He.free_ok X G (d.fact 11 (f := .free "min") rfl)
    m_gcd := PySem.W.mg_of X G (He.eqO_ok e5)
    a_ZERO := He.ga K "ZERO"
    m_ZERO := He.glo_ok X G (d.fact 12 (f := .glo "ZERO") rfl)
    s_ZERO := fun H => He.tupB_ok e6 H
    t_FIGURES := tFIG
    m_FIGURES := hFIG
    C_BadValue := bvC K
    f_BadValue := bvI K
    d_BadValue := d_init
    m_BadValue := He.glo_ok X G (d.fact 13 (f := .glo "BadValue") rfl)
    X_BadValue := oexB_ok e1
    i_BadValue := He.eqO_ok e8
    t_BadValue := of_decide_eq_true e7
    F_BadValue := F_init
    B_BadValue__init := b_init
    v_BadValue := He.noat_ok (d.fact 47 (f := .noat "BadValue" "value") rfl)
    c_BadValue := He.noat_ok (d.fact 48 (f := .noat "BadValue" "code") rfl)
    C_NetError := He.ga K "NetError"
    m_NetError := He.glo_ok X G (d.fact 14 (f := .glo "NetError") rfl)
    e_BadValue := He.exm_ok (d.fact 49 (f := .exm "BadValue" "NetError" true) rfl)
    x_BadValue := xfB_ok e2
    y_BadValue := isxB_ok e3
    k_BadValue := of_decide_eq_true e4
    a_is_number := He.ga K "is_number"
    d_is_number := d_is_number
    F_is_number := F_is_number
    m_is_number := He.glo_ok X G (d.fact 15 (f := .glo "is_number") rfl)
    B_is_number := b_is_number
    a_is_fraction := He.ga K "is_fraction"
    d_is_fraction := d_is_fraction
    F_is_fraction := F_is_fraction
    m_is_fraction := He.glo_ok X G (d.fact 16 (f := .glo "is_fraction") rfl)
    B_is_fraction := b_is_fraction
    a_is_value := He.ga K "is_value"
    d_is_value := d_is_value
    F_is_value := F_is_value
    m_is_value := He.glo_ok X G (d.fact 17 (f := .glo "is_value") rfl)
    B_is_value := b_is_value
    a_fraction := He.ga K "fraction"
    d_fraction := d_fraction
    F_fraction := FD_fraction
    m_fraction := He.glo_ok X G (d.fact 18 (f := .glo "fraction") rfl)
    B_fraction := b_fraction
    a_plus := He.ga K "plus"
    d_plus := d_plus
    F_plus := F_plus
    m_plus := He.glo_ok X G (d.fact 19 (f := .glo "plus") rfl)
    B_plus := b_plus
    a_minus := He.ga K "minus"
    d_minus := d_minus
    F_minus := F_minus
    m_minus := He.glo_ok X G (d.fact 20 (f := .glo "minus") rfl)
    B_minus := b_minus
    a_times := He.ga K "times"
    d_times := d_times
    F_times := F_times
    m_times := He.glo_ok X G (d.fact 21 (f := .glo "times") rfl)
    B_times := b_times
    a_quotient := He.ga K "quotient"
    d_quotient := d_quotient
    F_quotient := F_quotient
    m_quotient := He.glo_ok X G (d.fact 22 (f := .glo "quotient") rfl)
    B_quotient := b_quotient
    a_value_text := He.ga K "value_text"
    d_value_text := d_value_text
    F_value_text := F_value_text
    m_value_text := He.glo_ok X G (d.fact 23 (f := .glo "value_text") rfl)
    B_value_text := b_value_text
    a_read_number := He.ga K "read_number"
    d_read_number := d_read_number
    F_read_number := F_read_number
    m_read_number := He.glo_ok X G (d.fact 24 (f := .glo "read_number") rfl)
    B_read_number := b_read_number
    a_read_value := He.ga K "read_value"
    d_read_value := d_read_value
    F_read_value := F_read_value
    m_read_value := He.glo_ok X G (d.fact 25 (f := .glo "read_value") rfl)
    B_read_value := b_read_value
    a__law_bag := He.ga K "_law_bag"
    d__law_bag := d__law_bag
    F__law_bag := F__law_bag
    m__law_bag := He.glo_ok X G (d.fact 26 (f := .glo "_law_bag") rfl)
    B__law_bag := b__law_bag
    a__law_draw := He.ga K "_law_draw"
    d__law_draw := d__law_draw
    F__law_draw := F__law_draw
    m__law_draw := He.glo_ok X G (d.fact 27 (f := .glo "_law_draw") rfl)
    B__law_draw := b__law_draw
    a__law_of := He.ga K "_law_of"
    d__law_of := d__law_of
    F__law_of := F__law_of
    m__law_of := He.glo_ok X G (d.fact 28 (f := .glo "_law_of") rfl)
    B__law_of := b__law_of
    a__law_like := He.ga K "_law_like"
    d__law_like := d__law_like
    F__law_like := F__law_like
    m__law_like := He.glo_ok X G (d.fact 29 (f := .glo "_law_like") rfl)
    B__law_like := b__law_like
    a__law_any := He.ga K "_law_any"
    d__law_any := d__law_any
    F__law_any := F__law_any
    m__law_any := He.glo_ok X G (d.fact 30 (f := .glo "_law_any") rfl)
    B__law_any := b__law_any
    a__law_low := He.ga K "_law_low"
    d__law_low := d__law_low
    F__law_low := F__law_low
    m__law_low := He.glo_ok X G (d.fact 31 (f := .glo "_law_low") rfl)
    B__law_low := b__law_low
    a__law_order := He.ga K "_law_order"
    d__law_order := d__law_order
    F__law_order := F__law_order
    m__law_order := He.glo_ok X G (d.fact 32 (f := .glo "_law_order") rfl)
    B__law_order := b__law_order
    a__law_whole := He.ga K "_law_whole"
    d__law_whole := d__law_whole
    F__law_whole := F__law_whole
    m__law_whole := He.glo_ok X G (d.fact 33 (f := .glo "_law_whole") rfl)
    B__law_whole := b__law_whole
    a__law_broken := He.ga K "_law_broken"
    d__law_broken := d__law_broken
    F__law_broken := F__law_broken
    m__law_broken := He.glo_ok X G (d.fact 34 (f := .glo "_law_broken") rfl)
    B__law_broken := b__law_broken
    a__law_short := He.ga K "_law_short"
    d__law_short := d__law_short
    F__law_short := F__law_short
    m__law_short := He.glo_ok X G (d.fact 35 (f := .glo "_law_short") rfl)
    B__law_short := b__law_short
    a__law_read := He.ga K "_law_read"
    d__law_read := d__law_read
    F__law_read := F__law_read
    m__law_read := He.glo_ok X G (d.fact 36 (f := .glo "_law_read") rfl)
    B__law_read := b__law_read
    a__law_digits := He.ga K "_law_digits"
    d__law_digits := d__law_digits
    F__law_digits := F__law_digits
    m__law_digits := He.glo_ok X G (d.fact 37 (f := .glo "_law_digits") rfl)
    B__law_digits := b__law_digits
    a__law_word := He.ga K "_law_word"
    d__law_word := d__law_word
    F__law_word := F__law_word
    m__law_word := He.glo_ok X G (d.fact 38 (f := .glo "_law_word") rfl)
    B__law_word := b__law_word
    a__law_bent := He.ga K "_law_bent"
    d__law_bent := d__law_bent
    F__law_bent := F__law_bent
    m__law_bent := He.glo_ok X G (d.fact 39 (f := .glo "_law_bent") rfl)
    B__law_bent := b__law_bent
    a__law_ask := He.ga K "_law_ask"
    d__law_ask := d__law_ask
    F__law_ask := F__law_ask
    m__law_ask := He.glo_ok X G (d.fact 40 (f := .glo "_law_ask") rfl)
    B__law_ask := b__law_ask
    a__law_judged := He.ga K "_law_judged"
    d__law_judged := d__law_judged
    F__law_judged := F__law_judged
    m__law_judged := He.glo_ok X G (d.fact 41 (f := .glo "_law_judged") rfl)
    B__law_judged := b__law_judged
    a__law_told := He.ga K "_law_told"
    d__law_told := d__law_told
    F__law_told := F__law_told
    m__law_told := He.glo_ok X G (d.fact 42 (f := .glo "_law_told") rfl)
    B__law_told := b__law_told
    a__law_great := He.ga K "_law_great"
    d__law_great := d__law_great
    F__law_great := F__law_great
    m__law_great := He.glo_ok X G (d.fact 43 (f := .glo "_law_great") rfl)
    B__law_great := b__law_great
    a__law_pair := He.ga K "_law_pair"
    d__law_pair := d__law_pair
    F__law_pair := F__law_pair
    m__law_pair := He.glo_ok X G (d.fact 44 (f := .glo "_law_pair") rfl)
    B__law_pair := b__law_pair
    a_law := He.ga K "law"
    d_law := d_law
    F_law := F_law
    m_law := He.glo_ok X G (d.fact 45 (f := .glo "law") rfl)
    B_law := b_law
    D_fraction := dfl_fraction
    c__law_judged := He.codeOf K ("_law_judged", none)
    P__law_judged := tabP K "_law_judged"
    k__law_judged := code_ofD FD__law_judged
    Z_is_fraction := z_is_fraction
    Z_is_value := z_is_value
    Z_value_text := z_value_text
    Z_read_value := z_read_value
  }
  have ef : f = He.ga K "law" := by
    have e := hfa.symm.trans T.m_law
    cases e
    rfl
  have at_ : ∀ p ∈ T.cs, ∃ x ∈ tfL, p = He.cT K x := fun p hp => by
    have hp : p ∈ [He.cT K ("_law_judged", none)] := hp
    simp only [List.mem_cons, List.mem_nil_iff, or_false] at hp
    subst hp
    exact ⟨_, by simp [tfL], rfl⟩
  refine ⟨d_law, T.cs, sp_law K T.TL, fun p hp => ?_, fun p hp => ?_, fun p hp => ?_, fun s u => FunD.bindsA (ps := ["script"]) FD_law (fun _ _ _ _ _ _ us hl => match us, hl with | [_], _ => rfl) s [u] rfl, fun H a ns hl _ hT hS => ⟨a, ns, rfl, hS, hl, fun p hp => ?_, fun _ => rfl⟩, fun base _ _ hB => ?_⟩
  · obtain ⟨x, hx, rfl⟩ := at_ p hp
    exact c.empty x hx
  · obtain ⟨x, hx, rfl⟩ := at_ p hp
    exact c.out x hx
  · obtain ⟨x, hx, rfl⟩ := at_ p hp
    exact PySem.W.codeHd_of_K X (c.hd x hx)
  · have hp : p ∈ [(T.P__law_judged, lamQ "_law_judged")] := hp
    simp only [List.mem_cons, List.mem_nil_iff, or_false] at hp
    subst hp
    exact LamX.TabS.nil (hT _ (T.cs1))
  · rw [ef]
    exact ok_law (P := P) (base := base) T hB
/-! ### the head's run -/
abbrev R : PySem.W.OpenRow := PySem.W.OpenLaw.row PySem.Challenge.rw_lookingnets_k02_texts_of_fractions
abbrev hk : PySem.W.Hook := He.hookX 6 faL fnL [] tfL exB
def ob (s : PySem.W.SharedT) : He.AlX := He.obsX 6 faL fnL [] tfL exB (HandSHeadRun.getT s)
theorem ob_eq (s : PySem.W.SharedT) : ob s = hk.obs s.abs := He.obsX_eq (HandSHeadRun.getT_eq s)
def loose : List Str := (["NetError", "BadValue", "ZERO", "FIGURES", "is_number", "is_fraction", "is_value", "fraction", "plus", "minus", "times", "quotient", "value_text", "read_number", "read_value", "_law_bag"] : List Str) ++ (["_law_draw", "_law_of", "_law_like", "_law_any", "_law_low", "_law_order", "_law_whole", "_law_broken", "_law_short", "_law_read", "_law_digits", "_law_word", "_law_bent", "_law_ask", "_law_judged", "_law_told"] : List Str) ++ (["_law_great", "_law_pair"] : List Str)
set_option maxHeartbeats 0 in
theorem run (w : World) : HandSHeadRun.RunEqI R (PySem.W.view R.prog [0, 38]) hk ob 20000 loose w := by
  unfold HandSHeadRun.RunEqI
  kernel_rfl
end LK

open PySem PySem.W PySem.Calls PyProof.Rows
set_option maxRecDepth 100000 in
set_option maxHeartbeats 0 in
theorem PySem.Challenge.cw_lookingnets_k02_texts_of_fractions_holds : PySem.Challenge.rw_lookingnets_k02_texts_of_fractions.Holds := by
  w_on; o_law
  refine HandSHeadRun.head_imp (r := OpenLaw.row PySem.Challenge.rw_lookingnets_k02_texts_of_fractions) (q := view (OpenLaw.row PySem.Challenge.rw_lookingnets_k02_texts_of_fractions).prog [0, 38]) (H := LK.hk) (ob := LK.ob) (M := 20000) (loose := LK.loose) (d := HandSHeadRun.topDef (OpenLaw.row PySem.Challenge.rw_lookingnets_k02_texts_of_fractions).prog 38) (kwd := []) LK.ob_eq
    LK.run (by kernel_rfl) (by kernel_rfl) (by kernel_rfl) (by rfl) (by first | assumption | decide +kernel) (by decide +kernel) ⟨rfl, rfl, rfl, rfl, rfl, by decide +kernel⟩ ?hw ?hc
  case hw => w_witness2
  case hc =>
    refine LamX.walk_ofTsE (l := PySem.Challenge.rw_lookingnets_k02_texts_of_fractions) (n := 63) (k := 10) (x := "script") (CX := fun _ => L2.CX0) rfl (by decide) (by kernel_rfl) ⟨rfl, by decide, by decide⟩ ?F (fun _ _ _ _ _ z => z)
    intro w mg fa h Y G hmg0
    obtain ⟨K, KX, c⟩ := Y
    have hmg : mg ("law" : PySem.Str) = some (.ref fa) := by
      have e : (HandSHeadRun.topDef (OpenLaw.row PySem.Challenge.rw_lookingnets_k02_texts_of_fractions).prog 38).name = ("law" : PySem.Str) := by kernel_rfl
      rw [← e]
      exact hmg0
    exact ⟨K, KX, LK.facts KX G hmg c⟩
