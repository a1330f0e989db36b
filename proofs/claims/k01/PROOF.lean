import PyProof.Rows.All
import Wide.All
import OpenK.AllK
import Wide.FinOn
import HandS.ForMost
import HandS.IsInst
import HandS.Zip
import HandS.TupAny
import HandS.Style
import HandS.More
import HandS.Defaults
import HandS.Walk
import HandS.ExcInit
import HandS.Gcd
import HandS.Wide
import HandS.WordsExc
import HandS.Lambda
import HandS.Deep
import HandS.ExcField
import KE.KExcIs
import HandS.HeadHook4
import HandS.HeadWalk
import HandS.Head2
import HandS.Head3
import PySem.Challenge.RW_lookingnets_k01_fractions_worked
set_option Elab.async false
set_option linter.all false
set_option maxRecDepth 100000
namespace LK
open PySem PySem.Spec PyProof.Rows L2
/-! ### heaps but for one object -/
def hb (H : Hp) (b : Addr) : Hp := fun a => if a = b then none else H a
theorem hb_ne {H : Hp} {a b : Addr} (h : a ≠ b) : hb H b a = H a := if_neg h
theorem hb_same {H : Hp} {b : Addr} : hb H b b = none := if_pos rfl
theorem hb_some {H : Hp} {a b : Addr} {o : HO} (h : hb H b a = some o) : a ≠ b ∧ H a = some o := by
  unfold hb at h
  split at h
  · cases h
  · exact ⟨by assumption, h⟩
theorem hb_le (H : Hp) (b : Addr) : Same (hb H b) H := fun _ _ h => (hb_some h).2
/-- all but b stays -/
abbrev Kp (b : Addr) (H H' : Hp) : Prop := Same (hb H b) (hb H' b)
theorem Kp.of {b : Addr} {H H' : Hp} (s : Same H H') : Kp b H H' := fun a o h => by
  obtain ⟨h1, h2⟩ := hb_some h
  rw [hb_ne h1]
  exact s _ _ h2
theorem Kp.refl (b : Addr) (H : Hp) : Kp b H H := Same.refl _
theorem Kp.upd {b : Addr} {H : Hp} {o : HO} : Kp b H (upd H b o) := fun a u h => by
  obtain ⟨h1, h2⟩ := hb_some h
  rw [hb_ne h1, upd_ne h1]
  exact h2
theorem Kp.hd {b a : Addr} {H H' : Hp} {o : HO} (k : Kp b H H') (h : H a = some o) (n : a ≠ b) : H' a = some o := (hb_some (k a o (by rw [hb_ne n]; exact h))).2
/-- a new object -/
theorem al {H : Hp} {R : Addr → Hp → Prop} {o : HO} (h : ∀ p H1, Same H H1 → H1 p = some o → H p = none → R p H1) : ∀ p, H p = none → R p (upd H p o) := fun p hp =>
  h p _ (fun a u e => by rw [upd_ne (ne_of_none e hp)]; exact e) upd_same hp
theorem same_upd {H : Hp} {p : Addr} {o : HO} (hp : H p = none) : Same H (upd H p o) := fun a u e => by rw [upd_ne (ne_of_none e hp)]; exact e
theorem at_ofN {α : Type} {xs : List α} {z : Int} {j : Nat} {v : α} (e : z = (j : Int)) (h : xs[j]? = some v) : atI xs z = some v := by
  subst e
  exact atI_nat h
/-! ### the bag of a law -/
def Bag (H : Hp) (b c : Addr) : Prop := ∃ (cells : List Int) (i g m n : Int), H b = some (.lst [.ref c, .int i, .int g, .int m, .int n]) ∧ H c = some (.lst (cells.map V.int)) ∧ c ≠ b ∧ 0 ≤ i ∧ 0 ≤ m ∧ m < 2147483579
theorem Bag.same {H H' : Hp} {b c : Addr} (B : Bag H b c) (s : Same H H') : Bag H' b c := by
  obtain ⟨cells, i, g, m, n, h1, h2, h3⟩ := B
  exact ⟨cells, i, g, m, n, s _ _ h1, s _ _ h2, h3⟩
theorem Bag.at {H : Hp} {b c : Addr} (B : Bag H b c) : ∃ xs, H b = some (.lst xs) := by
  obtain ⟨cells, i, g, m, n, h1, _⟩ := B
  exact ⟨_, h1⟩
theorem Bag.at2 {H : Hp} {b c : Addr} (B : Bag H b c) : ∃ xs, H c = some (.lst xs) := by
  obtain ⟨cells, i, g, m, n, h1, h2, _⟩ := B
  exact ⟨_, h2⟩
/-- another object is stored -/
theorem Bag.upd {H : Hp} {b c p : Addr} {o : HO} (B : Bag H b c) (n1 : b ≠ p) (n2 : c ≠ p) : Bag (upd H p o) b c := by
  obtain ⟨cells, i, g, m, n, h1, h2, h3⟩ := B
  exact ⟨cells, i, g, m, n, by rw [upd_ne n1]; exact h1, by rw [upd_ne n2]; exact h2, h3⟩
/-- a new object beside a bag -/
theorem alB {H : Hp} {R : Addr → Hp → Prop} {o : HO} {b c : Addr} (B : Bag H b c) (h : ∀ p H1, Kp b H H1 → Bag H1 b c → hb H1 b p = some o → Same H H1 → H p = none → R p H1) : ∀ p, H p = none → R p (upd H p o) :=
  al fun p H1 s h1 h0 => h p H1 (Kp.of s) (B.same s) (by
    have n : p ≠ b := fun e => by
      obtain ⟨xs, q⟩ := B.at
      rw [e, q] at h0; cases h0
    rw [hb_ne n]; exact h1) s h0
/-! ### data -/
theorem Same.seqT {K : PySem.W.Frag} {H H' : Hp} {a : Addr} {xs : List V} (e : Same H H') (h : SqT K H a xs) : SqT K H' a xs := by
  rcases h with (h | ⟨o, h⟩) | h
  · exact .inl (.inl (e _ _ h))
  · exact .inl (.inr ⟨o, e _ _ h⟩)
  · exact .inr h
mutual
theorem dp_same {K : PySem.W.Frag} {H H' : Hp} (e : Same H H') : ∀ {d : PyData} {v : V}, Dp K H v d → Dp K H' v d
  | .none, _, h => by cases h; exact .non
  | .bool _, _, h => by cases h; exact .bl _
  | .int _, _, h => by cases h; exact .int _
  | .str _, _, h => by cases h; exact .str _
  | .list ds, _, h => by cases h with | lst a b => exact .lst (L2.Same.seq e a) (dpa_same e b)
  | .tuple ds, _, h => by cases h with | tup a b => exact .tup (Same.seqT e a) (dpa_same e b)
  | .dict _, _, h => by cases h
theorem dpa_same {K : PySem.W.Frag} {H H' : Hp} (e : Same H H') : ∀ {ds : List PyData} {vs : List V}, DpAll K H vs ds → DpAll K H' vs ds
  | [], _, h => by cases h; exact .nil
  | _ :: _, _, h => by cases h with | cons a b => exact .cons (dp_same e a) (dpa_same e b)
end
end LK
namespace LK
open PySem PySem.Spec PyProof.Rows L2
section
variable {CX : CXT} {P : Program} {w : World} {K : PySem.W.Frag} {mg : Str → Option Value} {base : Heap} {N : List Str} {q : Str} {sc : Scope} {f : Addr} {cd : Value} {A : Around} {outer : List Env} {s : Shared} {H : Hp} {E : XK}
theorem cxK : (cxOf CX P w K mg base N q sc f cd A outer s H E).K = K := rfl
theorem cxNK : (cxOf CX P w K mg base N q sc f cd A outer s H E).nox.K = K := rfl
theorem cxW : (cxOf CX P w K mg base N q sc f cd A outer s H E).w = w := rfl
end
theorem cut_seq {t u : TS} {D : Ends} {σ : L2.St} {H : Hp} (Mid : L2.St → Hp → Prop) (h1 : ∀ N : L2.St → Hp → Prop, (∀ σ' H', Mid σ' H' → N σ' H') → t { D with nx := N } σ H) (h2 : ∀ σ' H', Mid σ' H' → u D σ' H') : tSeq t u D σ H := h1 _ h2
end LK
namespace LK
open PySem PySem.Spec PyProof.Rows L2
theorem seq_op {t u : TS} {D : Ends} {σ : L2.St} {H : Hp} (h : ∀ N : L2.St → Hp → Prop, (∀ σ' H', u D σ' H' → N σ' H') → t { D with nx := N } σ H) : tSeq t u D σ H := h _ fun _ _ z => z
end LK
namespace LK
open PySem PySem.Spec PyProof.Rows L2
section
variable {X : Cx}
theorem opr_imp {f : Value → Value → Sem Value} {r r' : R2} (h : OpR X f r) (i : ∀ x y H Q, r' x y H Q → r x y H Q) : OpR X f r' := fun pins s σ H x y v u Q I rx ry q => h pins s σ H x y v u Q I rx ry (i _ _ _ _ q)
theorem cr_imp {f : Value} {r r' : List V → Hp → VK → Prop} (h : CallR X f r) (i : ∀ x H Q, r' x H Q → r x H Q) : CallR X f r' := fun pins s σ H xs us Q I rx q => h pins s σ H xs us Q I rx (i _ _ _ q)
theorem op_eqI : OpR X (compareOp .Eq) (rI0 fun i j => .bl (decide (i = j))) := opr_imp op_eq fun x y H Q h => by
  obtain ⟨i, j, rfl, rfl, q⟩ := h
  refine ⟨rfl, ?_⟩
  rw [L2.dec_int, Bool.beq_eq_decide_eq]; exact q
theorem op_neI : OpR X (compareOp .NotEq) (rI0 fun i j => .bl (!decide (i = j))) := opr_imp op_ne fun x y H Q h => by
  obtain ⟨i, j, rfl, rfl, q⟩ := h
  refine ⟨rfl, ?_⟩
  rw [L2.dec_int, Bool.beq_eq_decide_eq]; exact q
def rS0 (g : Str → Str → V) : R2 := fun x y H Q => ∃ i j, x = .str i ∧ y = .str j ∧ Q (g i j) H
theorem op_eqS : OpR X (compareOp .Eq) (rS0 fun i j => .bl (decide (i = j))) := opr_imp op_eq fun x y H Q h => by
  obtain ⟨i, j, rfl, rfl, q⟩ := h
  refine ⟨rfl, ?_⟩
  have e : decide (V.str i = V.str j) = decide (i = j) := by
    by_cases c : i = j
    · subst c; simp
    · rw [decide_eq_false c, decide_eq_false (fun z => c (V.str.inj z))]
  rw [e]; exact q
theorem op_neS : OpR X (compareOp .NotEq) (rS0 fun i j => .bl (!decide (i = j))) := opr_imp op_ne fun x y H Q h => by
  obtain ⟨i, j, rfl, rfl, q⟩ := h
  refine ⟨rfl, ?_⟩
  have e : decide (V.str i = V.str j) = decide (i = j) := by
    by_cases c : i = j
    · subst c; simp
    · rw [decide_eq_false c, decide_eq_false (fun z => c (V.str.inj z))]
  rw [e]; exact q
def rB0 (g : Bool → Bool → V) : R2 := fun x y H Q => ∃ i j, x = .bl i ∧ y = .bl j ∧ Q (g i j) H
theorem op_eqB : OpR X (compareOp .Eq) (rB0 fun i j => .bl (i == j)) := opr_imp op_eq fun x y H Q h => by
  obtain ⟨i, j, rfl, rfl, q⟩ := h
  refine ⟨rfl, ?_⟩
  rw [L2.dec_bl]; exact q
theorem op_neB : OpR X (compareOp .NotEq) (rB0 fun i j => .bl (!(i == j))) := opr_imp op_ne fun x y H Q h => by
  obtain ⟨i, j, rfl, rfl, q⟩ := h
  refine ⟨rfl, ?_⟩
  rw [L2.dec_bl]; exact q
/-- int(n) of an int -/
theorem call_intI : CallR X (.type "int") (fun xs H Q => ∃ i, xs = [.int i] ∧ Q (.int i) H) := cr_imp call_int1 fun xs H Q h => .inl h
end
end LK
namespace LK
open PySem PySem.Spec PyProof.Rows L2
/-! ### isinstance of data -/
def tyN : PyData → String
  | .none => "NoneType" | .bool _ => "bool" | .int _ => "int" | .str _ => "str" | .list _ => "list" | .tuple _ => "tuple" | .dict _ => "dict"
def isTy (T : String) : PyData → Bool
  | .none => false | .bool _ => T == "bool" || T == "int" | .int _ => T == "int" | .str _ => T == "str" | .list _ => T == "list" | .tuple _ => T == "tuple" | .dict _ => false
theorem dp_ty {K : PySem.W.Frag} {H : Hp} {v : V} {d : PyData} (h : Dp K H v d) : TyX K H v (.type (tyN d)) := by
  cases h with
  | non => exact .base .non
  | bl b => exact .base (.bl b)
  | int i => exact .base (.int i)
  | str x => exact .base (.str x)
  | lst hs _ =>
    rcases hs with (h | ⟨o, h⟩) | ⟨o, its, n, h1, h2, _⟩
    · exact .base (.lst h)
    · exact .base (.frz h)
    · exact .kList h1 h2
  | tup hs _ =>
    rcases hs with (h | ⟨o, h⟩) | ⟨o, its, n, h1, h2, _⟩
    · exact .base (.tup h)
    · exact .fTuple h
    · exact .kTuple h1 h2
theorem dp_kit {K : PySem.W.Frag} {H : Hp} {v : V} {d : PyData} (h : Dp K H v d) {T : String} (hT : T ∈ ["str", "int", "bool", "list", "tuple"]) : PySem.W.kitOne K (.type (tyN d)) (.type T) = some (isTy T d) := by
  refine kit_ty ?_
  simp only [List.mem_cons, List.mem_nil_iff, or_false] at hT
  cases h <;> rcases hT with rfl | rfl | rfl | rfl | rfl <;> (simp only [tyN, isTy]; decide +kernel)
section
variable {X : Cx}
theorem call_isiD : CallR X (.builtin "isinstance") (fun xs H Q => ∃ x T d, xs = [x, .ty T] ∧ Dp X.K H x d ∧ T ∈ ["str", "int", "bool", "list", "tuple"] ∧ Q (.bl (isTy T d)) H) := cr_imp call_isi fun xs H Q h => by
  obtain ⟨x, T, d, rfl, hd, hT, q⟩ := h
  exact ⟨x, .ty T, _, _, _, rfl, .ty T, dp_ty hd, dp_kit hd hT, q⟩
theorem call_isiDT : CallR X (.builtin "isinstance") (fun xs H Q => ∃ x tp d, xs = [x, .ref tp] ∧ H tp = some (.tup [.ty "list", .ty "tuple"]) ∧ Dp X.K H x d ∧ Q (.bl (isTy "list" d || isTy "tuple" d)) H) := cr_imp call_isiT fun xs H Q h => by
  obtain ⟨x, tp, d, rfl, ht, hd, q⟩ := h
  refine ⟨x, tp, _, .type (tyN d), [.type "list", .type "tuple"], _, rfl, ht, .cons (.ty _) (.cons (.ty _) .nil), dp_ty hd, ?_, q⟩
  have h1 := dp_kit hd (T := "list") (by simp)
  have h2 := dp_kit hd (T := "tuple") (by simp)
  unfold PySem.W.kitAny PySem.W.kitAny PySem.W.kitAny
  rw [h1, h2]
  cases isTy "list" d <;> cases isTy "tuple" d <;> rfl
/-- len of data -/
theorem call_lenD : CallR X (.builtin "len") (fun xs H Q => ∃ x d, xs = [x] ∧ Dp X.K H x d ∧ ((∃ ds, (d = .list ds ∨ d = .tuple ds) ∧ Q (.int ds.length) H) ∨ ∃ z, d = .str z ∧ z.length ≤ sizeLine ∧ Q (.int z.length) H)) := cr_imp call_len fun xs H Q h => by
  obtain ⟨x, d, rfl, hd, ⟨ds, e, q⟩ | ⟨z, rfl, hz, q⟩⟩ := h
  · have ln : ∀ {vs : List V} {es : List PyData}, DpAll X.K H vs es → vs.length = es.length := by
      intro vs es h
      induction es generalizing vs with
      | nil => cases h; rfl
      | cons a r ih => cases h with | cons _ h2 => simp [ih h2]
    rcases e with rfl | rfl
    · cases hd with
      | lst hs ha => exact ⟨_, ds.length, rfl, .inl ⟨_, hs, (ln ha).symm⟩, q⟩
    · cases hd with
      | tup hs ha => exact ⟨_, ds.length, rfl, .inr ⟨_, hs, (ln ha).symm⟩, q⟩
  · cases hd
    exact ⟨_, z.length, rfl, ⟨hz, rfl⟩, q⟩
/-- t[lo:hi] of a tuple: some tuple of that content -/
def rSlU (K : PySem.W.Frag) : V → Option Int → Option Int → Hp → VK → Prop := fun x lo hi H Q => ∃ a xs, x = .ref a ∧ SqT K H a xs ∧ ∀ q H', Same H H' → SqT K H' q (cutV xs lo hi) → Q (.ref q) H'
theorem sl_tupU : SlR X (rSlU X.K) := by
  intro pins s σ H x v vl vu lo hi sl Q I rx hs pl pu h
  obtain ⟨a, xs, rfl, hx, q⟩ := h
  refine sl_tupA pins s σ H _ v vl vu lo hi sl Q I rx hs pl pu ⟨a, xs, rfl, hx, fun hw => q a H (Same.refl H) ?_, fun hw p hp => q p _ (fun b o e => ?_) (.inl (.inl upd_same))⟩
  · have e : cutV xs lo hi = xs := by
      unfold cutV
      rw [hw.1, hw.2]
      simp
    rw [e]; exact hx
  · rw [upd_ne (ne_of_none e hp)]; exact e
def rCatU (K : PySem.W.Frag) : R2 := fun x y H Q => ∃ a b xs ys, x = .ref a ∧ y = .ref b ∧ SqT K H a xs ∧ SqT K H b ys ∧ xs.length + ys.length ≤ sizeLine ∧ ∀ q H', Same H H' → SqT K H' q (xs ++ ys) → Q (.ref q) H'
theorem op_catU : OpR X (binaryOp .Add) (rCatU X.K) := opr_imp op_catA fun x y H Q h => by
  obtain ⟨a, b, xs, ys, rfl, rfl, ha, hb, hz, q⟩ := h
  refine ⟨a, b, xs, ys, rfl, rfl, ha, hb, hz, fun e => q b H (Same.refl H) ?_, fun _ e => q a H (Same.refl H) ?_, fun _ _ p hp => q p _ (fun c o e => ?_) (.inl (.inl upd_same))⟩
  · subst e; exact hb
  · subst e; rw [List.append_nil]; exact ha
  · rw [upd_ne (ne_of_none e hp)]; exact e
/-- tuple(x) of a list or tuple -/
theorem call_tupleU : CallR X (.type "tuple") (fun xs H Q => ∃ p ys, xs = [.ref p] ∧ (SqL X.K H p ys ∨ SqT X.K H p ys) ∧ ∀ q H', Same H H' → SqT X.K H' q ys → Q (.ref q) H') := cr_imp call_tuple_of fun xs H Q h => by
  obtain ⟨p, ys, rfl, h, q⟩ := h
  refine ⟨p, ys, rfl, ?_⟩
  rcases h with h | h
  · exact .inl ⟨h, fun l hl => q l _ (fun c o e => by rw [upd_ne (ne_of_none e hl)]; exact e) (.inl (.inl upd_same))⟩
  · exact .inr ⟨h, q p H (Same.refl H) h⟩
end
/-! ### calls by keywords alone -/
def tCallZ (m : Nat) (sp : Sp) (gV : List V → List V) (E : XK) (tk : TA) : TE := fun σ H Q => tk σ H fun zs H2 => zs.length = m ∧ sp (gV zs) H2 Q E
section
variable {X : Cx} {CX : CXT} {k : Nat} {f : Addr} {fd : FuncData} {ps ks : List Str} {sp : Sp} {E : XK} {x : Str} {p pos : Pos} {kws : List Keyword} {tk : TA} {g : List Value → List Value} {gV : List V → List V}
/-- f(k = v, ..) -/
theorem pe_callZ (F : FnOk X.prog X.w X.K X.mg X.base CX k f fd ps sp) (hr : Room k X.A) (hg : Gl X x) (hm : X.mg x = some (.ref f)) (hk : PySem.W.keepIn X.K (.ref f) = true) (hb : KBn X.K fd ps 0 ks (fun _ ws => g ws) (fun _ zs => gV zs)) (hx : Passes CX X E)
    (hkw : PK X kws tk) (hall : (backToKw pos (keywordEach kws X.env)).all (·.1.isSome) = true := by rfl) (hks : (backToKw pos (keywordEach kws X.env)).filterMap (·.1) = ks := by rfl)
    (hdb : (x == ("__debug__" : Str)) = false := by decide)
    (hpl : ((backTo pos (starEach [] X.env)).any (·.1) || (backToKw pos (keywordEach kws X.env)).any (·.1.isNone)) = false := by rfl) :
    PE X (.Call (.Name x p) [] kws pos) (tCallZ ks.length sp gV E tk) := by
  refine ⟨fun pins s σ H Q I h => ?_⟩
  refine wpAny_Call_Name_kw (ld_glob I hg hm ?_ hdb)
  refine PySem.W.callWith_KW0 (h₀ := X.base) I.ok.mod.kin hk hall (thn (hkw.run pos pins s σ H _ I h) fun ws s2 ⟨zs, H2, I2, rz, l2, q2⟩ => ⟨I2.kIn, ?_⟩) hpl
  rw [hks]
  exact run_fnN F hr hb hx I2 .nil rz rfl l2 q2
end
theorem kb_of {K : PySem.W.Frag} {x qual : Str} {st : Stmt} {f : Addr} {fd : FuncData} {ps : List Str} (F : Fun K x qual st f fd) {n : Nat} {ks : List Str} (g : {α : Type} → List α → List α → List α)
    (hrel : ∀ {vs zs : List V} {us ws : List Value}, Vals vs us → Vals zs ws → Vals (g vs zs) (g us ws))
    (h : ∀ (kV doc pm : Value) (an : Option Addr) (cdv ct : Value) (us ws : List Value), us.length = n → ws.length = ks.length → bindArgs (PySem.W.fnOf x qual (defArgs st) (defBody st) (defScope st) .none kV doc pm an cdv ct) ⟨us, ks.zip ws⟩ = pure (ps.zip (g us ws))) : KBn K fd ps n ks (fun us ws => g us ws) (fun vs zs => g vs zs) := by
  obtain ⟨oc, od, kV, doc, pm, an, cdv, ct, osl, rfl, lk, hcd⟩ := F.ex
  exact ⟨fun s us ws _ l1 l2 => .of_eq (h kV doc pm an cdv ct us ws l1 l2), hrel⟩
end LK

namespace LK
open PySem PySem.Spec PyProof.Rows L2
/-! ### t[::-1] of a tuple -/
theorem fm_map {α β : Type} {f : α → Option β} {g : α → β} : ∀ {l : List α}, (∀ m ∈ l, f m = some (g m)) → l.filterMap f = l.map g
  | [], _ => rfl
  | a :: l, h => by
    rw [List.filterMap_cons, h a List.mem_cons_self]
    exact congrArg (g a :: ·) (fm_map fun m hm => h m (List.mem_cons_of_mem _ hm))
theorem rev_pick (xs : Array Value) : ((List.range xs.size).filterMap fun (m : Nat) => xs[(((xs.size : Int) - 1) + (m : Int) * (-1)).toNat]?).toArray = xs.toList.reverse.toArray := by
  have e : ((List.range xs.size).filterMap fun (m : Nat) => xs[(((xs.size : Int) - 1) + (m : Int) * (-1)).toNat]?) = xs.toList.reverse := by
    have h : ∀ m ∈ List.range xs.size, (xs[(((xs.size : Int) - 1) + (m : Int) * (-1)).toNat]?) = some (xs.toList.reverse.getD m .none) := by
      intro m hm
      have hm := List.mem_range.mp hm
      have e1 : (((xs.size : Int) - 1) + (m : Int) * (-1)).toNat = xs.size - 1 - m := by omega
      rw [e1, List.getD_eq_getElem?_getD, List.getElem?_reverse (by simpa using hm)]
      rw [Array.getElem?_eq_getElem (by omega), Array.length_toList, List.getElem?_eq_getElem (by rw [Array.length_toList]; omega)]
      rfl
    rw [fm_map h]
    refine List.ext_getElem? fun i => ?_
    rw [List.getElem?_map]
    by_cases hi : i < xs.size
    · rw [List.getElem?_range hi, List.getElem?_eq_getElem (by simpa using hi)]
      simp [List.getElem?_eq_getElem, hi]
    · rw [List.getElem?_eq_none (by simpa using hi), List.getElem?_eq_none (by simpa using hi)]
      rfl
  rw [e]
section
variable {prog : Program} {w : World} {A : Around} {E : Value → Shared → Prop} {s : Shared}
theorem sliceApplied_rev {sl : Addr} {vl vu vs : Value} {n : Nat} {Q : Int × Int × Nat → Shared → Prop} (hs : s.heap.IsSliceOf sl vl vu vs) (pl : IsPart vl none) (pu : IsPart vu none) (ps : IsPart vs (some (-1)))
    (h : Q ((n : Int) - 1, -1, n) s) : wpAny (model prog w) A (Builtin.Slice.sliceApplied (.ref sl) (pure (n : Int))) Q E s := by
  obtain ⟨os, hos, hcs, hds⟩ := id hs
  unfold Builtin.Slice.sliceApplied Builtin.Slice.sliceFields
  refine wpAny_bind (wpAny_bind (wpAny_field hos hds (x := vl) rfl (wpAny_bind (wpAny_field hos hds (x := vu) rfl (wpAny_bind (wpAny_field hos hds (x := vs) rfl (wpAny_pure ?_)))))))
  refine wpAny_bind (HT.slicePart_ ps ?_)
  show wpAny _ _ (if ((-1 : Int) == 0) = true then _ else _) _ _ s
  rw [if_neg (by decide)]
  refine wpAny_bind (HT.slicePart_ pl (wpAny_bind (HT.slicePart_ pu (wpAny_bind (wpAny_pure ?_)))))
  show wpAny _ _ (match Builtin.Slice.sliceAdjust none none (-1) (n : Int) with | (lo, hi) => pure (lo, (-1 : Int), Builtin.Slice.slicePlaces lo hi (-1))) _ _ s
  have e1 : Builtin.Slice.sliceAdjust none none (-1) (n : Int) = ((n : Int) - 1, -1) := rfl
  rw [e1]
  show wpAny _ _ (pure ((n : Int) - 1, (-1 : Int), Builtin.Slice.slicePlaces ((n : Int) - 1) (-1) (-1))) _ _ s
  have e2 : Builtin.Slice.slicePlaces ((n : Int) - 1) (-1) (-1) = n := by
    unfold Builtin.Slice.slicePlaces
    rw [if_neg (by decide)]
    by_cases c : n = 0
    · subst c; rfl
    · rw [if_pos (by omega)]
      show (((n : Int) - 1 - -1 - 1) / 1 + 1).toNat = n
      rw [Int.ediv_one]; omega
  rw [e2]
  exact wpAny_pure h
theorem getItem_tuple_rev {t sl : Addr} {items : Array Value} {vl vu vs : Value} {Q : Value → Shared → Prop} (ht : IsTup s.heap t items) (hs : s.heap.IsSliceOf sl vl vu vs) (pl : IsPart vl none) (pu : IsPart vu none) (ps : IsPart vs (some (-1)))
    (h : Q (.ref s.heap.objs.size) { s with heap := s.heap.push { cls := .type "tuple", data := .seq items.toList.reverse.toArray } })
    (hsz : items.size ≤ sizeLine) : wpAny (model prog w) A (getItem (.ref t) (.ref sl)) Q E s := by
  have htake : sizeOk (.seq items.toList.reverse.toArray) := by
    show items.toList.reverse.toArray.size ≤ sizeLine
    simpa using hsz
  obtain ⟨os, hos, hcs, hds⟩ := id hs
  have hTs : s.TypeIs (.ref sl) "slice" := ⟨os, hos, hcs⟩
  unfold getItem
  try with_reducible refine wpAny_holding ?_
  first | refine wpAny_bind (wpAny_pure ?_) | skip
  refine wpAny_bind (wpAny_sequenceKey ht.typeIs (by decide) ?_)
  refine wpAny_bind (wpAny_callSpecial?_slot (name := Str.ofString "__getitem__") ht.typeIs PyProof.Rows.slot_tuple_getitem
    (wpAny_call_entry PyProof.Rows.slot_tuple_getitem ht.typeIs PyProof.Rows.entry_tuple_getitem ?_ (PyProof.Rows.args_tuple_getitem _ _)))
  show wpAny _ _ (Builtin.Tuple.tupleItemsOf (.ref t) >>= _) _ _ s
  refine wpAny_bind (PyProof.Rows.tupleItemsOf_ ht ?_)
  refine wpAny_bind (wpAny_typeOf hTs ?_)
  rw [if_pos (by decide)]
  refine wpAny_bind (sliceApplied_rev hs pl pu ps ?_)
  have hno : ¬ ((((items.size : Int) - 1) == 0 && (-1 : Int) == 1 && items.size == items.size) = true) := by
    intro q
    rw [Bool.and_eq_true, Bool.and_eq_true] at q
    exact absurd (eq_of_beq q.1.2) (by decide)
  show wpAny _ _ (if (((items.size : Int) - 1) == 0 && (-1 : Int) == 1 && items.size == items.size) = true then _ else _) _ _ s
  rw [if_neg hno, rev_pick]
  first
    | exact wpAny_bind (m := Builtin.Tuple.tupleExact _) (wpAny_newObj_type (wpAny_pure ⟨_, rfl, wpAny_pure h⟩) htake)
    | exact wpAny_bind (m := Builtin.Tuple.tupleExact _) (wpAny_newObj_type (wpAny_bind (wpAny_pure (wpAny_pure ⟨_, rfl, wpAny_pure h⟩))) htake)
    | exact wpAny_bind (wpAny_bind (m := Builtin.Tuple.tupleExact _) (wpAny_newObj_type (wpAny_pure (wpAny_pure ⟨_, rfl, wpAny_pure h⟩)) htake))
    | exact wpAny_bind (wpAny_bind (m := Builtin.Tuple.tupleExact _) (wpAny_newObj_type (wpAny_pure ⟨_, rfl, wpAny_pure h⟩) htake))
end
section
variable {X : Cx}
def tRevT (K : PySem.W.Frag) (te : TE) : TE := fun σ H Q => te σ H fun x H1 => ∃ a xs, x = .ref a ∧ SqT K H1 a xs ∧ ∀ p H2, Same H1 H2 → H1 p = none → H2 p = some (.tup xs.reverse) → Q (.ref p) H2
theorem pe_revT {e : Expr} {te : TE} {k : Nat} {p1 p2 p3 pos : Pos} (he : PE X e te) : PE X (.Subscript e (.Slice none none (some (.UnaryOp .USub (.Constant (.int 1) k p1) p2)) p3) pos) (tRevT X.K te) := by
  refine ⟨fun pins s σ H Q I h => ?_⟩
  refine Subscript_ (thn (he.run pins s σ H _ I h) fun v s1 ⟨x, H1, I1, r1, q1⟩ => ?_)
  obtain ⟨a, xs, ex, hx, q⟩ := q1
  subst ex
  cases r1
  have hst : PO X (some (.UnaryOp .USub (.Constant (.int 1) k p1) p2)) (tPart (tUn (rU fun i => .int (-i)) (tC (.int 1)))) := po_some (pe_un un_neg pe_int)
  refine wpAny_Slice (thn (po_none.run pins s1 σ H1 (fun o H2 => o = none ∧ H2 = H1) I1 ⟨rfl, rfl⟩) fun vl s2 ⟨l, H2, I2, pl, el, e2⟩ => ?_)
  subst el e2
  refine thn (po_none.run pins s2 σ H2 (fun o H3 => o = none ∧ H3 = H2) I2 ⟨rfl, rfl⟩) fun vu s3 ⟨u, H3, I3, pu, eu, e3⟩ => ?_
  subst eu e3
  refine thn (hst.run pins s3 σ H3 (fun o H4 => o = some (-1) ∧ H4 = H3) I3 ⟨1, rfl, -1, rfl, rfl, rfl⟩) fun vs s4 ⟨o, H4, I4, ps, eo, e4⟩ => ?_
  subst eo e4
  have I5 : Inv X pins σ H4 { s4 with heap := s4.heap.push { cls := .type "slice", data := .fields #[vl, vu, vs] } } := I4.kept (t' := s4.toks) fun b ob q => Heap.get?_push_of_some _ q
  obtain ⟨its, r, ht, hz⟩ := I5.tuple hx
  have hlen := r.length
  show wpAny (model X.prog X.w) X.A (subscriptTail e (.Slice none none (some (.UnaryOp .USub (.Constant (.int 1) k p1) p2)) p3) (.ref a) (.ref s4.heap.objs.size)) (EP X pins σ Q) X.xe { s4 with heap := s4.heap.push { cls := .type "slice", data := .fields #[vl, vu, vs] } }
  refine tail_any (ops := [.ref a, .ref s4.heap.objs.size]) ht.typeIs (PyProof.Rows.slot_tuple_getitem.lookup) ?_ (by with_unfolding_all rfl)
  refine getItem_tuple_rev ht (Heap.IsSliceOf.new _ vl vu vs) pl pu ps ?_ (by rw [List.size_toArray]; omega)
  refine ⟨.ref _, _, I5.laid (t' := s4.toks) (o := .tup xs.reverse) (fun b ob q => Heap.get?_push_of_some _ q) (Nat.le_refl _) ?_, rfl, q _ _ (same_upd (I5.hok.fresh (Nat.le_refl _))) (I5.hok.fresh (Nat.le_refl _)) upd_same⟩
  exact ⟨by rw [List.length_reverse]; exact hz, _, r.reverse, IsTup.new _ _⟩
end
end LK
namespace LK
open PySem PySem.Spec PyProof.Rows L2
/-! ### d.get(k) of a written dict with text keys -/
section
variable {X : Cx} {d : Addr} {es : Array DictEntry} {n : Nat} {o e : Expr} {apos cpos : Pos} {td ty : TE}
def tWget (K : PySem.W.Frag) (d : Addr) (td ty : TE) : TE := fun σ H Q => td σ H fun x H1 => x = .ref d ∧ ty σ H1 fun y H2 => ∃ (z : Str) (r : Option Value) (v : V), y = .str z ∧ PySem.W.nsIn K d z = some r ∧ RelV v (r.getD .none) ∧ Q v H2
theorem pe_wget (D : KDict X.K X.w d es n) (ho : PE X o td) (he : PE X e ty) (hbase : attributeBase o "get" X.env (eval o X.env) = eval o X.env := by rfl)
    (hfew : ((backTo cpos (starEach [e] X.env)).all (fun x => !x.1) && (backToKw cpos (keywordEach [] X.env)).all (fun x => x.1.isSome)
    && decide (([e] : List Expr).length + ([] : List Keyword).length + (if ([] : List Keyword).isEmpty then 0 else 1) < 30)) = true := by rfl)
    (hline : (apos.endLine == cpos.line) = true := by rfl) (htr : backTo cpos (starEach [e] X.env) = [(false, eval e X.env)] := by rfl) : PE X (.Call (.Attribute o "get" apos) [e] [] cpos) (tWget X.K d td ty) := by
  refine ⟨fun pins s σ H Q I h => ?_⟩
  refine wpAny_Call_method hbase hfew hline PySem.F.plainAttrs_dict PySem.F.slot_dict_get PySem.F.type_dict_get (thn (ho.run pins s σ H _ I h) fun u s1 ⟨x, H1, I1, rx, ex, q1⟩ => ?_)
  subst ex
  obtain rfl : u = Value.ref d := rx
  have ob := I1.kIn _ _ D.at_
  refine ⟨kd_type D I1, fun b q => ?_, ?_⟩
  · cases q
    exact ⟨_, ob, rfl⟩
  rw [htr]
  refine Calls.callWith_builtin rfl (Calls.evalArgs_plain (Calls.spliced_cons (thn (he.run pins s1 σ H1 _ I1 q1) fun iv s2 ⟨y, H2, I2, ry, z, r, v, ey, hn, rv, q2⟩ => Calls.spliced_nil ?_)))
  subst ey
  obtain ⟨t, rfl⟩ := ry
  refine call_meetsIn PySem.F.slot_dict_get (kd_type D I2) PySem.F.entry_dict_get (PySem.F.args_dict_get_2 _ _) (meets_dict_get (strKind X.prog X.w) d (PySem.strKind_is X.prog X.w z t) D.low)
    ⟨_, PySem.W.mapOf_K (prog := X.prog) I2.kIn D.at_ D.lit, v, H2, I2.tok _, ?_, q2⟩
  rw [PySem.W.find_K D.at_ hn]
  exact rv
end
end LK
namespace LK
open PySem PySem.Spec PyProof.Rows L2
/-! ### comprehensions without tests -/
/-- what is new since H -/
def nw (H H' : Hp) : Hp := fun a => if H a = none then H' a else none
theorem nw_some {H H' : Hp} {a : Addr} {o : HO} (h : nw H H' a = some o) : H a = none ∧ H' a = some o := by
  unfold nw at h
  split at h
  · exact ⟨by assumption, h⟩
  · cases h
theorem nw_of {H H' : Hp} {a : Addr} {o : HO} (h0 : H a = none) (h : H' a = some o) : nw H H' a = some o := by
  unfold nw
  rw [if_pos h0]; exact h
theorem nw_le (H H' : Hp) : Same (nw H H') H' := fun _ _ h => (nw_some h).2
theorem nw_hb {H H' : Hp} {b : Addr} {o : HO} (h : H b = some o) : Same (nw H H') (hb H' b) := fun a u e => by
  obtain ⟨h1, h2⟩ := nw_some e
  have n : a ≠ b := fun q => by rw [q, h] at h1; cases h1
  rw [hb_ne n]; exact h2
/-- new since a later heap is new since an earlier one -/
theorem nw_anti {H0 H H' : Hp} (d : ∀ a, H a = none → H0 a = none) : Same (nw H H') (nw H0 H') := fun a u e => by
  obtain ⟨h1, h2⟩ := nw_some e
  exact nw_of (d a h1) h2
theorem nw_same {H H' H'' : Hp} (s : ∀ a o, H a = none → H' a = some o → H'' a = some o) : Same (nw H H') (nw H H'') := fun a u e => by
  obtain ⟨h1, h2⟩ := nw_some e
  exact nw_of h1 (s _ _ h1 h2)
theorem Kp.dom {b : Addr} {H H' : Hp} {o : HO} (k : Kp b H H') (hb' : H' b = some o) : ∀ a, H' a = none → H a = none := fun a h => by
  cases q : H a with
  | none => rfl
  | some u =>
    by_cases e : a = b
    · subst e; rw [hb'] at h; cases h
    · rw [k.hd q e] at h; cases h
theorem Same.dom {H H' : Hp} (k : Same H H') : ∀ a, H' a = none → H a = none := fun a h => k.free h

/-- a pure one -/
theorem lc_pure {J : It} {n : Nat} {G : Hp → Prop} {Y : Nat → Hp → V → Hp → Prop} (w : Walk J n G Y) {g : TG} {te : TE} {vs : List Nat} {σ : L2.St} {H1 : Hp} {D : Addr} {Qd : Hp → Prop} (hD : H1 D = none) (hn : n ≤ 1000000) (y : Nat → V)
    (hG : ∀ H, Same H1 H → G H)
    (hs : ∀ i x H H', i < n → Same H1 H → Y i H x H' → g x (wipe σ vs) H' fun σ2 H2 => Same H H2 ∧ wipe σ2 vs = wipe σ vs ∧ ∀ Q2 : V → Hp → Prop, (∀ H3, Same H2 H3 → Q2 (y i) H3) → te σ2 H2 Q2)
    (gm : ∀ x σ0 H0 Q0 Q1, (∀ σ2 H2, Q0 σ2 H2 → Q1 σ2 H2) → g x σ0 H0 Q0 → g x σ0 H0 Q1)
    (hq : ∀ H', Same H1 H' → H' D = some (.lst ((List.range n).map y)) → Qd H') :
    ∃ W : Nat → Nat → Hp → Prop, (∃ m, W 0 m (upd H1 D (.lst []))) ∧ ∀ i m H, W i m H →
      (J.stop i H ∧ Qd H) ∨ (J.go i H ∧ ∃ Nx : Hp → Prop, (∀ H', Nx H' → ∃ m', m' < m ∧ W (i + 1) m' H') ∧ ∀ x H', J.yld i H x H' → g x (wipe σ vs) H' fun σ2 H2 => wipe σ2 vs = wipe σ vs ∧ tYes σ2 H2 fun b H3 =>
        if b = true then te σ2 H3 fun y H4 => ∃ acc, H4 D = some (.lst acc) ∧ acc.length < sizeLine ∧ Nx (upd H4 D (.lst (acc ++ [y]))) else Nx H3) := by
  have up : ∀ {H : Hp} {o : HO}, Same H1 H → Same H1 (upd H D o) := fun s a u e => by
    rw [upd_ne (ne_of_none e hD)]; exact s _ _ e
  refine lc_it w (fun i H => Same H1 H ∧ H D = some (.lst ((List.range i).map y))) ⟨up (Same.refl _), upd_same⟩ (fun i H _ h => hG H h.1) (fun i x H H' hi ⟨s1, h1⟩ hY => ?_) (fun H h => hq H h.1 h.2)
  refine gm _ _ _ _ _ (fun σ2 H2 ⟨s2, e2, k⟩ => ⟨e2, ?_⟩) (hs i x H H' hi s1 hY)
  simp only [tYes, eq_self, ite_true]
  refine k _ fun H3 s3 => ⟨_, s3 _ _ (s2 _ _ h1), ?_, up (Same.trans (Same.trans s1 s2) s3), ?_⟩
  · rw [List.length_map, List.length_range]
    exact Nat.lt_of_lt_of_le (Nat.lt_of_lt_of_le hi hn) (by decide)
  · rw [upd_same, List.range_succ, List.map_append]
    rfl
/-- one that draws from a bag -/
theorem lc_bag {J : It} {n : Nat} {G : Hp → Prop} {Y : Nat → Hp → V → Hp → Prop} (w : Walk J n G Y) {g : TG} {te : TE} {vs : List Nat} {σ : L2.St} {H1 : Hp} {D b c : Addr} {Qd : Hp → Prop} (hD : H1 D = none) (hB : Bag H1 b c) (hn : n ≤ 1000000) (Φ : Hp → V → Prop) (mono : ∀ G G' v, Same G G' → Φ G v → Φ G' v)
    (hG : ∀ H, Kp b H1 H → G H)
    (hs : ∀ i x H H', i < n → Kp b H1 H → Bag H b c → Y i H x H' → g x (wipe σ vs) H' fun σ2 H2 => Same H H2 ∧ wipe σ2 vs = wipe σ vs ∧ ∀ Q2 : V → Hp → Prop, (∀ v H3, Bag H3 b c → Kp b H2 H3 → Φ (nw H2 H3) v → Q2 v H3) → te σ2 H2 Q2)
    (gm : ∀ x σ0 H0 Q0 Q1, (∀ σ2 H2, Q0 σ2 H2 → Q1 σ2 H2) → g x σ0 H0 Q0 → g x σ0 H0 Q1)
    (hq : ∀ H' ys, Bag H' b c → Kp b H1 H' → H' D = some (.lst ys) → ys.length = n → (∀ v ∈ ys, Φ (nw (upd H1 D (.lst [])) H') v) → Qd H') :
    ∃ W : Nat → Nat → Hp → Prop, (∃ m, W 0 m (upd H1 D (.lst []))) ∧ ∀ i m H, W i m H →
      (J.stop i H ∧ Qd H) ∨ (J.go i H ∧ ∃ Nx : Hp → Prop, (∀ H', Nx H' → ∃ m', m' < m ∧ W (i + 1) m' H') ∧ ∀ x H', J.yld i H x H' → g x (wipe σ vs) H' fun σ2 H2 => wipe σ2 vs = wipe σ vs ∧ tYes σ2 H2 fun b H3 =>
        if b = true then te σ2 H3 fun y H4 => ∃ acc, H4 D = some (.lst acc) ∧ acc.length < sizeLine ∧ Nx (upd H4 D (.lst (acc ++ [y]))) else Nx H3) := by
  obtain ⟨xb, eb⟩ := hB.at
  obtain ⟨xc, ec⟩ := hB.at2
  have nbD : b ≠ D := fun e => by rw [← e, eb] at hD; cases hD
  have ncD : c ≠ D := fun e => by rw [← e, ec] at hD; cases hD
  have up : ∀ {H : Hp} {o : HO}, Kp b H1 H → Kp b H1 (upd H D o) := fun s a u e => by
    obtain ⟨h1, h2⟩ := hb_some e
    rw [hb_ne h1, upd_ne (ne_of_none h2 hD)]
    exact s.hd h2 h1
  refine lc_it w (fun i H => Kp b H1 H ∧ Bag H b c ∧ ∃ ys, H D = some (.lst ys) ∧ ys.length = i ∧ ∀ v ∈ ys, Φ (nw (upd H1 D (.lst [])) H) v) ⟨up (Kp.refl _ _), hB.upd nbD ncD, [], upd_same, rfl, fun v hv => absurd hv (by simp)⟩ (fun i H _ h => hG H h.1) (fun i x H H' hi ⟨s1, B1, ys, h1, hl, hp⟩ hY => ?_) (fun H ⟨s1, B1, ys, h1, hl, hp⟩ => hq H ys B1 s1 h1 hl hp)
  refine gm _ _ _ _ _ (fun σ2 H2 ⟨s2, e2, k⟩ => ⟨e2, ?_⟩) (hs i x H H' hi s1 B1 hY)
  simp only [tYes, eq_self, ite_true]
  have B2 := B1.same s2
  refine k _ fun v H3 B3 k3 hv => ⟨ys, k3.hd (s2 _ _ h1) nbD.symm, ?_, up (Same.trans (Same.trans s1 (Kp.of s2)) k3), B3.upd nbD ncD, ys ++ [v], upd_same, by rw [List.length_append, hl]; rfl, fun u hu => ?_⟩
  · rw [hl]
    exact Nat.lt_of_lt_of_le (Nat.lt_of_lt_of_le hi hn) (by decide)
  · have kk : ∀ a o, upd H1 D (.lst []) a = none → H3 a = some o → upd H3 D (.lst (ys ++ [v])) a = some o := fun a o q e => by
      have n : a ≠ D := fun z => by rw [z, upd_same] at q; cases q
      rw [upd_ne n]; exact e
    rcases List.mem_append.mp hu with hu | hu
    · refine mono _ _ _ (fun a o e => ?_) (hp u hu)
      obtain ⟨q1, q2⟩ := nw_some e
      have n : a ≠ b := fun z => by rw [z, upd_ne nbD, eb] at q1; cases q1
      exact nw_of q1 (kk _ _ q1 (k3.hd (s2 _ _ q2) n))
    · obtain rfl : u = v := by simpa using hu
      refine mono _ _ _ (fun a o e => ?_) hv
      obtain ⟨q1, q2⟩ := nw_some e
      have d1 : upd H1 D (.lst []) a = none := by
        by_cases n : a = D
        · rw [n, s2 _ _ h1] at q1; cases q1
        · rw [upd_ne n]
          exact Kp.dom (Same.trans s1 (Kp.of s2)) (B2.at.choose_spec) a q1
      exact nw_of d1 (kk _ _ d1 q2)
end LK
namespace LK
open PySem PySem.Spec PyProof.Rows L2
theorem cutV_take (xs : List V) (k : Nat) : cutV xs none (some (k : Int)) = xs.take k := by
  unfold cutV HT.sIx
  simp only [List.drop_zero, Nat.sub_zero]
  by_cases h : (k : Int) < 0
  · omega
  · rw [if_neg h]
    have e : ((k : Int)).toNat = k := Int.toNat_natCast k
    by_cases c : k ≤ xs.length
    · congr 1
      omega
    · rw [List.take_of_length_le (by omega), List.take_of_length_le (by omega)]
theorem cutV_drop (xs : List V) (k : Nat) : cutV xs (some (k : Int)) none = xs.drop k := by
  unfold cutV
  rw [HT.sIx_nat, HT.sIx_none]
  by_cases c : k ≤ xs.length
  · rw [Nat.min_eq_left c, List.take_of_length_le (by simp)]
  · rw [Nat.min_eq_right (by omega), List.drop_eq_nil_of_le (by omega), List.drop_eq_nil_of_le (by omega)]
    simp
end LK
namespace LK
open PySem PySem.Spec PyProof.Rows L2
/-! ### new objects, the heap behind them by a name -/
section
variable {X : Cx} {es : List Expr} {t : TA} {pos : Pos}
def tTupU (t : TA) : TE := fun σ H Q => t σ H fun xs H1 => xs.length ≤ sizeLine ∧ ∀ p H2, Same H1 H2 → H1 p = none → H2 p = some (.tup xs) → Q (.ref p) H2
def tLstU (t : TA) : TE := fun σ H Q => t σ H fun xs H1 => xs.length ≤ sizeLine ∧ ∀ p H2, Same H1 H2 → H1 p = none → H2 p = some (.lst xs) → Q (.ref p) H2
theorem pe_tupU {x1} (h : PA X es t) : PE X (.Tuple es x1 pos) (tTupU t) := by
  refine ⟨fun pins s σ H Q I hq => ?_⟩
  refine wpAny_Tuple_spliced (thn (h.run pos pins s σ H _ I hq) fun us s1 ⟨xs, H1, I1, r, z, q⟩ => ⟨by rw [← r.length]; exact z, ?_⟩)
  have hf : H1 s1.heap.objs.size = none := I1.hok.fresh (Nat.le_refl _)
  refine ⟨.ref s1.heap.objs.size, L2.upd H1 s1.heap.objs.size (.tup xs), I1.laid (t' := s1.toks) (fun b u e => Heap.get?_push_of_some _ e) (Nat.le_refl _) ?_, rfl, q _ _ (same_upd hf) hf upd_same⟩
  exact ⟨z, us, r, ⟨_, Heap.get?_push_size _ rfl, rfl, _, rfl⟩⟩
theorem pe_lstU (h : PA X es t) : PE X (.List es pos) (tLstU t) := by
  refine ⟨fun pins s σ H Q I hq => ?_⟩
  refine wpAny_List_spliced (thn (h.run pos pins s σ H _ I hq) fun us s1 ⟨xs, H1, I1, r, z, q⟩ => ⟨by rw [← r.length]; exact z, ?_⟩)
  have hf : H1 s1.heap.objs.size = none := I1.hok.fresh (Nat.le_refl _)
  refine ⟨.ref s1.heap.objs.size, L2.upd H1 s1.heap.objs.size (.lst xs), I1.laid (t' := s1.toks) (fun b u e => Heap.get?_push_of_some _ e) (Nat.le_refl _) ?_, rfl, q _ _ (same_upd hf) hf upd_same⟩
  exact ⟨z, us, 0, r, Heap.get?_push_size _ rfl⟩
def rSlLU (K : PySem.W.Frag) : V → Option Int → Option Int → Hp → VK → Prop := fun x lo hi H Q => ∃ a xs, x = .ref a ∧ SqL K H a xs ∧ ∀ p H2, Same H H2 → H p = none → H2 p = some (.lst (cutV xs lo hi)) → Q (.ref p) H2
theorem sl_listU : SlR X (rSlLU X.K) := by
  intro pins s σ H x v vl vu lo hi sl Q I rx hs pl pu h
  obtain ⟨a, xs, rfl, hx, q⟩ := h
  exact sl_list pins s σ H _ v vl vu lo hi sl Q I rx hs pl pu ⟨a, xs, rfl, hx, fun p hp => q p _ (same_upd hp) hp upd_same⟩
theorem call_listU : CallR X (.type "list") (fun xs H Q => ∃ p ys, xs = [.ref p] ∧ (SqL X.K H p ys ∨ SqT X.K H p ys) ∧ ∀ l H2, Same H H2 → H l = none → H2 l = some (.lst ys) → Q (.ref l) H2) := cr_imp call_list_of fun xs H Q h => by
  obtain ⟨p, ys, rfl, h, q⟩ := h
  exact ⟨p, ys, rfl, h, fun l hl => q l _ (same_upd hl) hl upd_same⟩
def rCatL : R2 := fun x y H Q => ∃ l b xs zs, x = .ref l ∧ y = .ref b ∧ H l = some (.lst xs) ∧ H b = some (.lst zs) ∧ xs.length + zs.length ≤ sizeLine ∧ ∀ p H2, Same H H2 → H p = none → H2 p = some (.lst (xs ++ zs)) → Q (.ref p) H2
theorem op_catL : OpR X (binaryOp .Add) rCatL := opr_imp op_cat fun x y H Q h => by
  obtain ⟨l, b, xs, zs, rfl, rfl, h1, h2, hz, q⟩ := h
  exact ⟨l, b, xs, zs, rfl, rfl, h1, h2, hz, fun p hp => q p _ (same_upd hp) hp upd_same⟩
def rRepL : R2 := fun x y H Q => ∃ l k xs, x = .ref l ∧ y = .int k ∧ H l = some (.lst xs) ∧ -(2 ^ 63) ≤ k ∧ k < 2 ^ 63 ∧ xs.length * k.toNat ≤ sizeLine ∧ ∀ p H2, Same H H2 → H p = none → H2 p = some (.lst (List.replicate k.toNat xs).flatten) → Q (.ref p) H2
theorem op_repL : OpR X (binaryOp .Mult) rRepL := opr_imp op_rep fun x y H Q h => by
  obtain ⟨l, k, xs, rfl, rfl, h1, h2, h3, hz, q⟩ := h
  exact ⟨l, k, xs, rfl, rfl, h1, h2, h3, hz, fun p hp => q p _ (same_upd hp) hp upd_same⟩
end
end LK
namespace LK
open PySem PySem.Spec PyProof.Rows L2
/-- [f(x) for x in ..], the items known -/
theorem lc_map {J : It} {n : Nat} {G : Hp → Prop} {Y : Nat → Hp → V → Hp → Prop} (w : Walk J n G Y) {te : TE} {i : Nat} {σ : L2.St} {H1 : Hp} {D : Addr} {Qd : Hp → Prop} (xs : List V) (f : V → V) (hD : H1 D = none) (hn : n ≤ 1000000) (hx : xs.length = n)
    (hY : ∀ k H x H', k < n → Y k H x H' → H' = H ∧ xs[k]? = some x) (hG : ∀ H, Same H1 H → G H)
    (hs : ∀ x H, x ∈ xs → Same H1 H → ∀ Q2 : V → Hp → Prop, (∀ H3, Same H H3 → Q2 (f x) H3) → te ((wipe σ [i]).set i (some x)) H Q2)
    (hq : ∀ H', Same H1 H' → H' D = some (.lst (xs.map f)) → Qd H') :
    ∃ W : Nat → Nat → Hp → Prop, (∃ m, W 0 m (L2.upd H1 D (.lst []))) ∧ ∀ i' m H, W i' m H →
      (J.stop i' H ∧ Qd H) ∨ (J.go i' H ∧ ∃ Nx : Hp → Prop, (∀ H', Nx H' → ∃ m', m' < m ∧ W (i' + 1) m' H') ∧ ∀ x H', J.yld i' H x H' → gName i x (wipe σ [i]) H' fun σ2 H2 => wipe σ2 [i] = wipe σ [i] ∧ tYes σ2 H2 fun b H3 =>
        if b = true then te σ2 H3 fun y H4 => ∃ acc, H4 D = some (.lst acc) ∧ acc.length < sizeLine ∧ Nx (L2.upd H4 D (.lst (acc ++ [y]))) else Nx H3) := by
  have e : (List.range n).map (fun k => f (xs.getD k .non)) = xs.map f := by
    refine List.ext_getElem? fun k => ?_
    rw [List.getElem?_map, List.getElem?_map]
    by_cases hk : k < n
    · rw [List.getElem?_range hk, List.getElem?_eq_getElem (by omega)]
      simp [List.getD_eq_getElem?_getD, List.getElem?_eq_getElem (show k < xs.length by omega)]
    · rw [List.getElem?_eq_none (by simpa using hk), List.getElem?_eq_none (by omega)]
      rfl
  refine lc_pure w hD hn (fun k => f (xs.getD k .non)) hG (fun k x H H' hk s1 y => ?_) (fun x σ0 H0 Q0 Q1 h q => h _ _ q) (fun H' s h => hq H' s (by rw [← e]; exact h))
  obtain ⟨rfl, hx2⟩ := hY _ _ _ _ hk y
  refine ⟨Same.refl _, ?_, fun Q2 h2 => hs x H' (List.mem_of_getElem? hx2) s1 Q2 fun H3 s3 => ?_⟩
  · show ((σ.set i none).set i (some x)).set i none = σ.set i none
    rw [List.set_set, List.set_set]
  · have e2 : xs.getD k .non = x := by rw [List.getD_eq_getElem?_getD, hx2]; rfl
    have := h2 H3 s3
    rw [e2] at this
    exact this
/-- the same, drawing from a bag -/
theorem lc_draw {J : It} {n : Nat} {G : Hp → Prop} {Y : Nat → Hp → V → Hp → Prop} (w : Walk J n G Y) {te : TE} {i : Nat} {σ : L2.St} {H1 : Hp} {D b c : Addr} {Qd : Hp → Prop} (Φ : Hp → V → Prop) (mono : ∀ G G' v, Same G G' → Φ G v → Φ G' v) (hD : H1 D = none) (hB : Bag H1 b c) (hn : n ≤ 1000000)
    (hY : ∀ k H x H', Y k H x H' → H' = H) (hG : ∀ H, Kp b H1 H → G H)
    (hs : ∀ x H, Kp b H1 H → Bag H b c → ∀ Q2 : V → Hp → Prop, (∀ v H3, Bag H3 b c → Kp b H H3 → Φ (nw H H3) v → Q2 v H3) → te ((wipe σ [i]).set i (some x)) H Q2)
    (hq : ∀ H' ys, Bag H' b c → Kp b H1 H' → H' D = some (.lst ys) → ys.length = n → (∀ v ∈ ys, Φ (nw (L2.upd H1 D (.lst [])) H') v) → Qd H') :
    ∃ W : Nat → Nat → Hp → Prop, (∃ m, W 0 m (L2.upd H1 D (.lst []))) ∧ ∀ i' m H, W i' m H →
      (J.stop i' H ∧ Qd H) ∨ (J.go i' H ∧ ∃ Nx : Hp → Prop, (∀ H', Nx H' → ∃ m', m' < m ∧ W (i' + 1) m' H') ∧ ∀ x H', J.yld i' H x H' → gName i x (wipe σ [i]) H' fun σ2 H2 => wipe σ2 [i] = wipe σ [i] ∧ tYes σ2 H2 fun b H3 =>
        if b = true then te σ2 H3 fun y H4 => ∃ acc, H4 D = some (.lst acc) ∧ acc.length < sizeLine ∧ Nx (L2.upd H4 D (.lst (acc ++ [y]))) else Nx H3) := by
  refine lc_bag w hD hB hn Φ mono hG (fun k x H H' hk s1 B1 y => ?_) (fun x σ0 H0 Q0 Q1 h q => h _ _ q) hq
  have e := hY _ _ _ _ y
  subst e
  refine ⟨Same.refl _, ?_, fun Q2 h2 => hs x H' s1 B1 Q2 h2⟩
  show ((σ.set i none).set i (some x)).set i none = σ.set i none
  rw [List.set_set, List.set_set]
def signsV (z : Str) : List V := z.cps.toList.map fun c => V.str ⟨#[c]⟩
theorem signsV_at {z : Str} : ∀ (k : Nat) (H : Hp) (x : V) (H' : Hp), (H' = H ∧ ∃ c, z.cps[k]? = some c ∧ x = V.str ⟨#[c]⟩) → H' = H ∧ (signsV z)[k]? = some x := by
  rintro k H x H' ⟨rfl, c, h, rfl⟩
  refine ⟨rfl, ?_⟩
  unfold signsV
  rw [List.getElem?_map, Array.getElem?_toList, h]
  rfl
theorem signsV_length (z : Str) : (signsV z).length = z.cps.size := by simp [signsV]
theorem all_map_id {α : Type} (p : α → Bool) (l : List α) : (l.map p).all id = l.all p := by
  rw [List.all_map]; rfl
end LK
namespace LK
open PySem PySem.Spec PyProof.Rows L2
/-- [p(c) for c in z], z a text -/
theorem lc_signs {z : Str} {te : TE} {i : Nat} {σ : L2.St} {H1 : Hp} {D : Addr} {Qd : Hp → Prop} (p : Nat → Bool) (hD : H1 D = none) (hz : z.length ≤ 1000000)
    (hs : ∀ c H, c ∈ z.cps.toList → Same H1 H → ∀ Q2 : V → Hp → Prop, (∀ H3, Same H H3 → Q2 (.bl (p c)) H3) → te ((wipe σ [i]).set i (some (.str ⟨#[c]⟩))) H Q2)
    (hq : ∀ H', Same H1 H' → H' D = some (.lst ((z.cps.toList.map p).map V.bl)) → Qd H') :
    ∃ W : Nat → Nat → Hp → Prop, (∃ m, W 0 m (L2.upd H1 D (.lst []))) ∧ ∀ i' m H, W i' m H →
      ((Its z).stop i' H ∧ Qd H) ∨ ((Its z).go i' H ∧ ∃ Nx : Hp → Prop, (∀ H', Nx H' → ∃ m', m' < m ∧ W (i' + 1) m' H') ∧ ∀ x H', (Its z).yld i' H x H' → gName i x (wipe σ [i]) H' fun σ2 H2 => wipe σ2 [i] = wipe σ [i] ∧ tYes σ2 H2 fun b H3 =>
        if b = true then te σ2 H3 fun y H4 => ∃ acc, H4 D = some (.lst acc) ∧ acc.length < sizeLine ∧ Nx (L2.upd H4 D (.lst (acc ++ [y]))) else Nx H3) := by
  refine lc_map walk_str (signsV z) (fun v => match v with | .str y => .bl (p (y.cps.toList.headD 0)) | _ => .non) hD hz (signsV_length z) (fun k H x H' _ y => signsV_at k H x H' y) (fun _ _ => trivial) (fun x H hx s1 Q2 h2 => ?_) (fun H' s h => hq H' s ?_)
  · obtain ⟨c, hc, rfl⟩ := List.mem_map.mp hx
    exact hs c H hc s1 Q2 h2
  · rw [h]
    unfold signsV
    rw [List.map_map, List.map_map]
    rfl
theorem starts_minus {z : Str} (h : Txt.startswith z "-" = true) : ∃ r, z.cps.toList = 45 :: r := by
  have h2 : PySem.StrLaws.At z "-" z.length 0 := by
    unfold Txt.startswith at h
    rw [Bool.and_eq_true] at h
    exact ⟨of_decide_eq_true h.1, h.2⟩
  have e : TL.tl "-" = [45] := by decide +kernel
  have q := (TL.at_iff (by rw [e]; simp) 0).mp h2
  rw [e, List.drop_zero] at q
  unfold TL.pre at q
  have q2 : z.cps.toList.take 1 = [45] := eq_of_beq q
  cases hz : z.cps.toList with
  | nil => rw [hz] at q2; simp at q2
  | cons c r => rw [hz] at q2; simp at q2; rw [q2]; exact ⟨r, rfl⟩
theorem cutS_tail (z : Str) : (cutS z (some 1) none).cps.toList = z.cps.toList.drop 1 := by
  unfold cutS
  have e1 := HT.sIx_nat z.length 0 1
  have l : z.length = z.cps.toList.length := by rw [Array.length_toList]; rfl
  show ((z.cps.toList.drop (HT.sIx z.length 0 (some ((1 : Nat) : Int)))).take (HT.sIx z.length z.length none - HT.sIx z.length 0 (some ((1 : Nat) : Int)))) = _
  rw [e1, HT.sIx_none]
  by_cases c : 1 ≤ z.length
  · rw [Nat.min_eq_left c, List.take_of_length_le (by rw [List.length_drop]; omega)]
  · rw [List.drop_eq_nil_of_le (by omega), List.drop_eq_nil_of_le (by omega)]
    simp
theorem len_cps (z : Str) : z.cps.toList.length = z.length := by rw [Array.length_toList]; rfl
end LK
namespace LK
theorem iteTT {c A B : Prop} [Decidable c] (hc : c) (h : A) : if c then A else B := by rw [if_pos hc]; exact h
theorem iteFF {c A B : Prop} [Decidable c] (hc : ¬ c) (h : B) : if c then A else B := by rw [if_neg hc]; exact h
end LK
namespace LK
open PySem PySem.Spec PyProof.Rows L2
theorem str_append (a b : Str) : (a ++ b).cps.toList = a.cps.toList ++ b.cps.toList := by
  show (a.cps ++ b.cps).toList = _
  exact Array.toList_append
theorem str_append_len (a b : Str) : (a ++ b).length = a.length + b.length := by
  rw [← len_cps, str_append, List.length_append, len_cps, len_cps]
theorem cutS_tail_len (z : Str) : (cutS z (some 1) none).length = z.length - 1 := by
  rw [← len_cps, cutS_tail, List.length_drop, len_cps]
theorem cutS_len (z : Str) (lo hi : Option Int) : (cutS z lo hi).length ≤ z.length := by
  rw [← len_cps, ← len_cps z]
  unfold cutS
  show (List.take _ (List.drop _ _)).length ≤ _
  rw [List.length_take, List.length_drop]
  omega
end LK
namespace LK
open PySem PySem.Spec PyProof.Rows L2
/-- [f(k) for k in range(n)] -/
theorem lc_rng {lo : Int} {n : Nat} {te : TE} {i : Nat} {σ : L2.St} {H1 : Hp} {D : Addr} {Qd : Hp → Prop} (f : Int → V) (hD : H1 D = none) (hn : n ≤ 1000000)
    (hs : ∀ (k : Nat) H, k < n → Same H1 H → ∀ Q2 : V → Hp → Prop, (∀ H3, Same H H3 → Q2 (f (lo + (k : Int))) H3) → te ((wipe σ [i]).set i (some (.int (lo + (k : Int))))) H Q2)
    (hq : ∀ H', Same H1 H' → H' D = some (.lst ((List.range n).map fun (k : Nat) => f (lo + (k : Int)))) → Qd H') :
    ∃ W : Nat → Nat → Hp → Prop, (∃ m, W 0 m (L2.upd H1 D (.lst []))) ∧ ∀ i' m H, W i' m H →
      ((Itr lo n).stop i' H ∧ Qd H) ∨ ((Itr lo n).go i' H ∧ ∃ Nx : Hp → Prop, (∀ H', Nx H' → ∃ m', m' < m ∧ W (i' + 1) m' H') ∧ ∀ x H', (Itr lo n).yld i' H x H' → gName i x (wipe σ [i]) H' fun σ2 H2 => wipe σ2 [i] = wipe σ [i] ∧ tYes σ2 H2 fun b H3 =>
        if b = true then te σ2 H3 fun y H4 => ∃ acc, H4 D = some (.lst acc) ∧ acc.length < sizeLine ∧ Nx (L2.upd H4 D (.lst (acc ++ [y]))) else Nx H3) := by
  refine lc_map walk_range ((List.range n).map fun (k : Nat) => V.int (lo + (k : Int))) (fun v => match v with | .int j => f j | _ => .non) hD hn (by rw [List.length_map, List.length_range]) (fun k H x H' hk y => ?_) (fun _ _ => trivial) (fun x H hx s1 Q2 h2 => ?_) (fun H' s h => hq H' s ?_)
  · refine ⟨y.1, ?_⟩
    rw [List.getElem?_map, List.getElem?_range hk, y.2]
    rfl
  · obtain ⟨k, hk, rfl⟩ := List.mem_map.mp hx
    exact hs k H (List.mem_range.mp hk) s1 Q2 h2
  · rw [h, List.map_map]
    rfl
end LK
namespace LK
open PySem PySem.Spec PyProof.Rows L2
section
variable {X : Cx} {K : PySem.W.Frag}
theorem call_isiDK (hK : X.K = K) : CallR X (.builtin "isinstance") (fun xs H Q => ∃ x T d, xs = [x, .ty T] ∧ Dp K H x d ∧ T ∈ ["str", "int", "bool", "list", "tuple"] ∧ Q (.bl (isTy T d)) H) := by
  subst hK
  exact call_isiD
end
end LK
namespace LK
open PySem PySem.Spec PyProof.Rows L2
section
variable {X : Cx}
/-- tuple(x) of a list: a new tuple -/
theorem call_tupleN : CallR X (.type "tuple") (fun xs H Q => ∃ p ys, xs = [.ref p] ∧ SqL X.K H p ys ∧ ∀ q H', Same H H' → H q = none → H' q = some (.tup ys) → Q (.ref q) H') := cr_imp call_tuple_of fun xs H Q h => by
  obtain ⟨p, ys, rfl, h, q⟩ := h
  exact ⟨p, ys, rfl, .inl ⟨h, fun l hl => q l _ (same_upd hl) hl upd_same⟩⟩
end
theorem strs_of {m : Nat} : ∀ {l : List V}, (∀ v ∈ l, ∃ z, v = V.str z ∧ z.length ≤ m) → ∃ zs : List Str, l = zs.map V.str ∧ ∀ z ∈ zs, z.length ≤ m
  | [], _ => ⟨[], rfl, fun z h => absurd h (by simp)⟩
  | v :: l, h => by
    obtain ⟨z, rfl, hz⟩ := h v List.mem_cons_self
    obtain ⟨zs, rfl, hzs⟩ := strs_of (l := l) fun v hv => h v (List.mem_cons_of_mem _ hv)
    refine ⟨z :: zs, rfl, fun y hy => ?_⟩
    rcases List.mem_cons.mp hy with rfl | hy
    · exact hz
    · exact hzs y hy
theorem sum_le {m : Nat} : ∀ {zs : List Str}, (∀ z ∈ zs, z.length ≤ m) → (zs.map (·.length)).sum ≤ zs.length * m
  | [], _ => by simp
  | z :: zs, h => by
    rw [List.map_cons, List.sum_cons, List.length_cons, Nat.succ_mul]
    have h1 := h z List.mem_cons_self
    have h2 := sum_le (zs := zs) fun y hy => h y (List.mem_cons_of_mem _ hy)
    omega
end LK
namespace LK
open PySem PySem.Spec PyProof.Rows L2
theorem joinL_len (S : List Nat) : ∀ ps : List (List Nat), (TL.joinL S ps).length ≤ (ps.map List.length).sum + ps.length * S.length
  | [] => by simp [TL.joinL]
  | [p] => by simp [TL.joinL]
  | p :: q :: r => by
    have ih := joinL_len S (q :: r)
    show (p ++ (S ++ TL.joinL S (q :: r))).length ≤ _
    rw [List.length_append, List.length_append, List.map_cons, List.sum_cons, List.length_cons, Nat.succ_mul]
    omega
theorem join_len (y : Str) (zs : List Str) : (Txt.join y zs).length ≤ (zs.map (·.length)).sum + zs.length * y.length := by
  rw [TL.join_eq, ← len_cps]
  have e := TL.tl_join y zs
  show (TL.tl (Str.join y zs)).length ≤ _
  rw [e]
  refine Nat.le_trans (joinL_len _ _) ?_
  rw [List.map_map, List.length_map]
  have e1 : ((zs.map (List.length ∘ TL.tl))) = zs.map (·.length) := List.map_congr_left fun z _ => len_cps z
  rw [e1]
  show _ + zs.length * (y.cps.toList).length ≤ _
  rw [len_cps]
  exact Nat.le_refl _
/-- the list that lc_draw has made, as texts -/
theorem kp_new {b c : Addr} {H H1 : Hp} (B : Bag H b c) (s : Same H H1) : Kp b H H1 ∧ Bag H1 b c := ⟨Kp.of s, B.same s⟩
theorem hb_new {b c p : Addr} {H H1 : Hp} {o : HO} (B : Bag H b c) (h0 : H p = none) (h1 : H1 p = some o) : hb H1 b p = some o := by
  have n : p ≠ b := fun e => by
    obtain ⟨xs, q⟩ := B.at
    rw [e, q] at h0; cases h0
  rw [hb_ne n]; exact h1
end LK
namespace LK
open PySem PySem.Spec PyProof.Rows L2
def isIntV : V → Bool
  | .int _ => true
  | _ => false
theorem ints_of {l : List V} (h : l.all isIntV = true) : ∀ y ∈ l, ∃ i, y = V.int i := fun y hy => by
  have q := List.all_eq_true.mp h y hy
  cases y <;> first | exact ⟨_, rfl⟩ | simp [isIntV] at q
end LK
namespace LK
open PySem PySem.Spec PyProof.Rows L2
theorem nx_op {t : TS} {D : Ends} {σ : L2.St} {H : Hp} (h : ∀ N : L2.St → Hp → Prop, (∀ σ' H', D.nx σ' H' → N σ' H') → t { D with nx := N } σ H) : t D σ H := h D.nx fun _ _ z => z
/-- a test that changes nothing and whose answer does not matter -/
theorem if_any {c : TT} {t u : TS} {D : Ends} {σ : L2.St} {H : Hp} (hc : ∀ K : Bool → Hp → Prop, (∀ b, K b H) → c σ H K) (hA : t D σ H) (hB : u D σ H) : tIfS c t u D σ H := hc _ fun b => by
  cases b
  · exact iteFF (by decide) hB
  · exact iteTT rfl hA
end LK
namespace LK
open PySem PySem.Spec PyProof.Rows L2
theorem if_anyS {c : TT} {t u : TS} {D : Ends} {σ : L2.St} {H : Hp} (hc : ∀ K : Bool → Hp → Prop, (∀ b H1, Same H H1 → K b H1) → c σ H K) (hA : ∀ H1, Same H H1 → t D σ H1) (hB : ∀ H1, Same H H1 → u D σ H1) : tIfS c t u D σ H := hc _ fun b H1 s => by
  cases b
  · exact iteFF (by decide) (hB H1 s)
  · exact iteTT rfl (hA H1 s)
end LK
namespace LK
open PySem PySem.Spec PyProof.Rows L2
theorem if_of {c : TT} {t u : TS} {D : Ends} {σ : L2.St} {H : Hp} (R : Bool → Prop) (hc : ∀ K : Bool → Hp → Prop, (∀ b H1, R b → Same H H1 → K b H1) → c σ H K) (hA : ∀ H1, R true → Same H H1 → t D σ H1) (hB : ∀ H1, R false → Same H H1 → u D σ H1) : tIfS c t u D σ H := hc _ fun b H1 r s => by
  cases b
  · exact iteFF (by decide) (hB H1 r s)
  · exact iteTT rfl (hA H1 r s)
end LK

set_option Elab.async false
set_option linter.all false
set_option maxRecDepth 100000
namespace LK
open PySem PySem.Spec PyProof.Rows L2
def top (i : Nat) : Stmt := PySem.Challenge.pw_lookingnets_k01_fractions_worked.main.body.getD i (.Pass ⟨0, 0, 0, 0⟩)
local macro_rules | `(tactic| walk_at "rs") => `(tactic| simp only [cxK, cxNK, tCallZ, tAsg, tOp, rI0, rS0, rB0, rI, rU, tUn, rEq, rNe, rIxL, rIxT, rIxS, rSetL, rSlLU, rSlS, rSlU, rCatL, rCatU, rRepL, rIn, tVar, tC, gName, gSub, tIfS, tTest, tB, tAnd, tOr, tNot, tNotV, tAndV, tOrV, tIf, tCall, tCons, tNil, tCB, tDrop, tRet, tRetN, tNext, tLstU, tTupU, tM0, tM1, tPar, tPar3, tAug, ipI, tBM, tBM0, rAppend, rPop, tBreak, tCont, tChain, tSl, tPart, tNoPart, L2.start, List.map, List.length_cons, List.length_nil, List.replicate, List.cons_append, List.nil_append, List.append_nil, List.getElem?_cons_zero, List.getElem?_cons_succ, List.set_cons_zero, List.set_cons_succ, Option.some.injEq, V.int.injEq, V.ref.injEq, V.str.injEq, V.bl.injEq, exists_eq_left', exists_eq_left, exists_and_left, decide_eq_true_eq, List.cons.injEq, and_true, true_and, scal, Bool.not_eq_true', decide_eq_false_iff_not, Nat.zero_add, Nat.reduceAdd, Nat.reduceSub, reduceCtorEq, false_and, exists_false, false_or, or_false, CPow, CMul, CDiv, Int.reduceToNat, ↓reduceIte, wipe, sw, List.nil_append, List.singleton_append])
local macro_rules | `(tactic| walk_at "st") => `(tactic| (refine seq_op fun N hN => ?_; walk_at "rs"))
local macro_rules | `(tactic| walk_at "sd") => `(tactic| first | assumption | decide | omega)
local macro_rules | `(tactic| walk_at "rd") => `(tactic| repeat (first
  | refine ⟨_, SqL.of (by assumption), ?_⟩ | refine ⟨_, SqL.of upd_same, ?_⟩ | refine ⟨_, .inl (SqL.of (by assumption)), ?_⟩ | refine ⟨_, (by assumption : _ = some (HO.lst _)), ?_⟩ | refine ⟨_, upd_same, ?_⟩
  | refine ⟨_, rfl, ?_⟩ | refine And.intro (by walk_at "sd") ?_))

abbrev s_BadValue : Stmt := inClass (top 3) 0
abbrev N_BadValue : List Str := ["self", "value"]
theorem sc_BadValue : FnScope N_BadValue ["self", "value"] (defScope s_BadValue) := ⟨rfl, rfl, rfl, by decide +kernel, rfl, by decide +kernel, by decide +kernel⟩
abbrev s_is_number : Stmt := top 6
abbrev N_is_number : List Str := ["value"]
theorem sc_is_number : FnScope N_is_number ["value"] (defScope s_is_number) := ⟨rfl, rfl, rfl, by decide +kernel, rfl, by decide +kernel, by decide +kernel⟩

abbrev s_is_fraction : Stmt := top 7
abbrev N_is_fraction : List Str := ["value", "p", "q"]
theorem sc_is_fraction : FnScope N_is_fraction ["value"] (defScope s_is_fraction) := ⟨rfl, rfl, rfl, by decide +kernel, rfl, by decide +kernel, by decide +kernel⟩

abbrev s_fraction : Stmt := top 8
abbrev N_fraction : List Str := ["p", "q", "divisor"]
theorem sc_fraction : FnScope N_fraction ["p", "q"] (defScope s_fraction) := ⟨rfl, rfl, rfl, by decide +kernel, rfl, by decide +kernel, by decide +kernel⟩

abbrev s_plus : Stmt := top 9
abbrev N_plus : List Str := ["a", "b"]
theorem sc_plus : FnScope N_plus ["a", "b"] (defScope s_plus) := ⟨rfl, rfl, rfl, by decide +kernel, rfl, by decide +kernel, by decide +kernel⟩

abbrev s_minus : Stmt := top 10
abbrev N_minus : List Str := ["a", "b"]
theorem sc_minus : FnScope N_minus ["a", "b"] (defScope s_minus) := ⟨rfl, rfl, rfl, by decide +kernel, rfl, by decide +kernel, by decide +kernel⟩

abbrev s_times : Stmt := top 11
abbrev N_times : List Str := ["a", "b"]
theorem sc_times : FnScope N_times ["a", "b"] (defScope s_times) := ⟨rfl, rfl, rfl, by decide +kernel, rfl, by decide +kernel, by decide +kernel⟩

abbrev s_quotient : Stmt := top 12
abbrev N_quotient : List Str := ["a", "b"]
theorem sc_quotient : FnScope N_quotient ["a", "b"] (defScope s_quotient) := ⟨rfl, rfl, rfl, by decide +kernel, rfl, by decide +kernel, by decide +kernel⟩

abbrev s_below : Stmt := top 13
abbrev N_below : List Str := ["a", "b"]
theorem sc_below : FnScope N_below ["a", "b"] (defScope s_below) := ⟨rfl, rfl, rfl, by decide +kernel, rfl, by decide +kernel, by decide +kernel⟩

abbrev s_floor_of : Stmt := top 14
abbrev N_floor_of : List Str := ["a"]
theorem sc_floor_of : FnScope N_floor_of ["a"] (defScope s_floor_of) := ⟨rfl, rfl, rfl, by decide +kernel, rfl, by decide +kernel, by decide +kernel⟩

abbrev s_merged : Stmt := top 15
abbrev N_merged : List Str := ["low", "high", "out", "i", "j"]
theorem sc_merged : FnScope N_merged ["low", "high"] (defScope s_merged) := ⟨rfl, rfl, rfl, by decide +kernel, rfl, by decide +kernel, by decide +kernel⟩

abbrev s_ascending : Stmt := top 16
abbrev N_ascending : List Str := ["values", "half"]
theorem sc_ascending : FnScope N_ascending ["values"] (defScope s_ascending) := ⟨rfl, rfl, rfl, by decide +kernel, rfl, by decide +kernel, by decide +kernel⟩

abbrev s_mean_of : Stmt := top 17
abbrev N_mean_of : List Str := ["values", "total", "value"]
theorem sc_mean_of : FnScope N_mean_of ["values"] (defScope s_mean_of) := ⟨rfl, rfl, rfl, by decide +kernel, rfl, by decide +kernel, by decide +kernel⟩

abbrev s__law_bag : Stmt := top 19
abbrev N__law_bag : List Str := ["script", "mixed", "cell"]
theorem sc__law_bag : FnScope N__law_bag ["script"] (defScope s__law_bag) := ⟨rfl, rfl, rfl, by decide +kernel, rfl, by decide +kernel, by decide +kernel⟩

abbrev s__law_draw : Stmt := top 20
abbrev N__law_draw : List Str := ["bag", "size", "cell", "digit"]
theorem sc__law_draw : FnScope N__law_draw ["bag", "size"] (defScope s__law_draw) := ⟨rfl, rfl, rfl, by decide +kernel, rfl, by decide +kernel, by decide +kernel⟩

abbrev s__law_of : Stmt := top 21
abbrev N__law_of : List Str := ["bag", "things"]
theorem sc__law_of : FnScope N__law_of ["bag", "things"] (defScope s__law_of) := ⟨rfl, rfl, rfl, by decide +kernel, rfl, by decide +kernel, by decide +kernel⟩

abbrev s__law_like : Stmt := top 22
abbrev N__law_like : List Str := ["got", "due", "one", "two"]
theorem sc__law_like : FnScope N__law_like ["got", "due"] (defScope s__law_like) := ⟨rfl, rfl, rfl, by decide +kernel, rfl, by decide +kernel, by decide +kernel⟩

abbrev s__law_low : Stmt := top 23
abbrev N__law_low : List Str := ["top", "low", "one", "two"]
theorem sc__law_low : FnScope N__law_low ["top", "low"] (defScope s__law_low) := ⟨rfl, rfl, rfl, by decide +kernel, rfl, by decide +kernel, by decide +kernel⟩

abbrev s__law_order : Stmt := top 24
abbrev N__law_order : List Str := ["one", "two", "gap"]
theorem sc__law_order : FnScope N__law_order ["one", "two"] (defScope s__law_order) := ⟨rfl, rfl, rfl, by decide +kernel, rfl, by decide +kernel, by decide +kernel⟩

abbrev s__law_number : Stmt := top 25
abbrev N__law_number : List Str := ["bag", "far", "near"]
theorem sc__law_number : FnScope N__law_number ["bag"] (defScope s__law_number) := ⟨rfl, rfl, rfl, by decide +kernel, rfl, by decide +kernel, by decide +kernel⟩

abbrev s__law_some : Stmt := top 26
abbrev N__law_some : List Str := ["bag"]
theorem sc__law_some : FnScope N__law_some ["bag"] (defScope s__law_some) := ⟨rfl, rfl, rfl, by decide +kernel, rfl, by decide +kernel, by decide +kernel⟩

abbrev s__law_pair : Stmt := top 27
abbrev N__law_pair : List Str := ["bag", "one", "two", "way"]
theorem sc__law_pair : FnScope N__law_pair ["bag"] (defScope s__law_pair) := ⟨rfl, rfl, rfl, by decide +kernel, rfl, by decide +kernel, by decide +kernel⟩

abbrev s__law_exact : Stmt := top 28
abbrev N__law_exact : List Str := ["got", "top", "low", "part"]
theorem sc__law_exact : FnScope N__law_exact ["got", "top", "low"] (defScope s__law_exact) := ⟨rfl, rfl, rfl, by decide +kernel, rfl, by decide +kernel, by decide +kernel⟩

abbrev s__law_ask : Stmt := top 29
abbrev N__law_ask : List Str := ["deed", "error"]
theorem sc__law_ask : FnScope N__law_ask ["deed"] (defScope s__law_ask) := ⟨rfl, rfl, rfl, by decide +kernel, rfl, by decide +kernel, by decide +kernel⟩

abbrev s__law_made : Stmt := top 30
abbrev N__law_made : List Str := ["bag", "top", "low", "way", "got"]
theorem sc__law_made : FnScope N__law_made ["bag"] (defScope s__law_made) := ⟨rfl, rfl, rfl, by decide +kernel, rfl, by decide +kernel, by decide +kernel⟩

abbrev s__law_joined : Stmt := top 31
abbrev N__law_joined : List Str := ["one", "two", "way", "low", "sums", "got"]
theorem sc__law_joined : FnScope N__law_joined ["one", "two", "way"] (defScope s__law_joined) := ⟨rfl, rfl, rfl, by decide +kernel, rfl, by decide +kernel, by decide +kernel⟩

abbrev s__law_compared : Stmt := top 32
abbrev N__law_compared : List Str := ["one", "two", "way", "less", "got"]
theorem sc__law_compared : FnScope N__law_compared ["one", "two", "way"] (defScope s__law_compared) := ⟨rfl, rfl, rfl, by decide +kernel, rfl, by decide +kernel, by decide +kernel⟩

abbrev s__law_listed : Stmt := top 33
abbrev N__law_listed : List Str := ["bag", "pool", "some", "passed", "turn", "got", "mean", "low", "one", "k", "two"]
theorem sc__law_listed : FnScope N__law_listed ["bag"] (defScope s__law_listed) := ⟨rfl, rfl, rfl, by decide +kernel, rfl, by decide +kernel, by decide +kernel⟩

abbrev s_law : Stmt := top 34
abbrev N_law : List Str := ["script", "bag", "turn", "pair", "way"]
theorem sc_law : FnScope N_law ["script"] (defScope s_law) := ⟨rfl, rfl, rfl, by decide +kernel, rfl, by decide +kernel, by decide +kernel⟩

mutual
def okD : PyData → Bool
  | .none => true | .bool _ => true | .int _ => true
  | .str z => decide (z.length ≤ 100000)
  | .list ds => decide (ds.length ≤ 100000) && okAll ds
  | .tuple ds => decide (ds.length ≤ 100000) && okAll ds
  | .dict _ => false
def okAll : List PyData → Bool
  | [] => true
  | d :: ds => okD d && okAll ds
end
theorem okD_tup {ds : List PyData} : okD (.tuple ds) = true ↔ ds.length ≤ 100000 ∧ okAll ds = true := by
  show (decide (ds.length ≤ 100000) && okAll ds) = true ↔ _
  rw [Bool.and_eq_true, decide_eq_true_iff]
theorem okD_lst {ds : List PyData} : okD (.list ds) = true ↔ ds.length ≤ 100000 ∧ okAll ds = true := by
  show (decide (ds.length ≤ 100000) && okAll ds) = true ↔ _
  rw [Bool.and_eq_true, decide_eq_true_iff]
mutual
def dep : PyData → Nat
  | .none => 0 | .bool _ => 0 | .int _ => 0 | .str _ => 0
  | .list ds => depAll ds + 1
  | .tuple ds => depAll ds + 1
  | .dict _ => 0
def depAll : List PyData → Nat
  | [] => 0
  | d :: ds => max (dep d) (depAll ds)
end
def spP (K : PySem.W.Frag) (F : PyData → V) : Sp := fun vs H Q _ => ∃ v d, vs = [v] ∧ Dp K H v d ∧ okD d = true ∧ ∀ H', Same H H' → Q (F d) H'
def SeqV (K : PySem.W.Frag) (G : Hp) (x : V) (ys : List V) : Prop := (∃ p, x = .ref p ∧ SqL K G p ys) ∨ (∃ p, x = .ref p ∧ SqT K G p ys) ∨ ∃ z, x = .str z ∧ z.length ≤ 100000 ∧ ys = z.cps.toList.map fun c => V.str ⟨#[c]⟩
def sp__law_bag (K : PySem.W.Frag) : Sp := fun vs H Q _ => ∃ (a : Addr) (ns : List Int), vs = [.ref a] ∧ SqL K H a (ns.map V.int) ∧ ns.length ≤ 63 ∧ ∀ b c H', Same H H' → Bag H' b c → H b = none → Q (.ref b) H'
def sp__law_draw : Sp := fun vs H Q _ => ∃ (b c : Addr) (n : Int), vs = [.ref b, .int n] ∧ Bag H b c ∧ 0 < n ∧ n < 1073741824 ∧ ∀ (r : Int) H', 0 ≤ r → r < n → Bag H' b c → Kp b H H' → Q (.int r) H'
def sp__law_of (K : PySem.W.Frag) : Sp := fun vs H Q _ => ∃ (b c : Addr) (x : V) (ys : List V), vs = [.ref b, x] ∧ Bag H b c ∧ SeqV K H x ys ∧ SeqV K (hb H b) x ys ∧ ys ≠ [] ∧ ys.length ≤ 1000000 ∧ ∀ y H', y ∈ ys → Bag H' b c → Kp b H H' → Q y H'
def sp__law_like (K : PySem.W.Frag) (n : Nat) : Sp := fun vs H Q _ => ∃ v u d, vs = [v, u] ∧ Dp K H v d ∧ Dp K H u d ∧ okD d = true ∧ dep d ≤ n ∧ ∀ H', Same H H' → Q (.bl true) H'
def sp__law_any (K : PySem.W.Frag) (n : Nat) : Sp := fun vs H Q _ => ∃ (b c : Addr) (k : Int), vs = [.ref b, .int k] ∧ Bag H b c ∧ k ≤ n ∧ ∀ v d H', Bag H' b c → Kp b H H' → Dp K (nw H H') v d → okD d = true → dep d ≤ n → Q v H'
/-! ### an exception's class, as isinstance asks for it -/
structure IsxC (K : PySem.W.Frag) (C : Addr) : Prop where
  cl : (PySem.W.clsIn K C).isSome = true
  ga : PySem.W.findIn K (.ref C) "__getattribute__" = some (some (.builtin "BaseException.__getattribute__"))
  gt : PySem.W.findIn K (.ref C) "__getattr__" = some none
  sub : PySem.W.subIn K (.ref C) (.type "BaseException") = some true
  ha : PySem.W.findIn K (.ref C) "__class__" = some (some (.builtin "object.__class__"))
  hn : PySem.W.specialIn K (.builtin "object.__class__") "__get__" = some (some (.builtin "getset_descriptor.__get__"))
  tk : PySem.W.takesIn K (.builtin "object.__class__") = some true
  hm : PySem.W.mroIn K C (.type "object") = some true
/-- two keywords in the other order -/
def sw {α : Type} : List α → List α
  | [x, y] => [y, x]
  | l => l
theorem sw_rel : ∀ {zs : List V} {ws : List Value}, Vals zs ws → Vals (sw zs) (sw ws)
  | _, _, .nil => .nil
  | _, _, .cons a .nil => .cons a .nil
  | _, _, .cons a (.cons b .nil) => .cons b (.cons a .nil)
  | _, _, .cons a (.cons b (.cons c r)) => .cons a (.cons b (.cons c r))
/-! ### wide whole numbers -/
def CDivF (_ j : Int) : Prop := j ≠ 0 ∧ j.natAbs.log2 < 9000
theorem op_fdivF {X : Cx} : OpR X (binaryOp .FloorDiv) (rI CDivF fun i j => .int (i.fdiv j)) := opI fun _ _ _ _ _ _ _ hc q => floordiv_int hc.1 q (.inl (PyProof.noPylong_of_log2 hc.2))
structure Txt (w : World) (K : PySem.W.Frag) (mg : Str → Option Value) where
  n_len : mg "len" = none
  n_int : mg "int" = none
  n_str : mg "str" = none
  n_list : mg "list" = none
  n_tuple : mg "tuple" = none
  n_bool : mg "bool" = none
  n_isinstance : mg "isinstance" = none
  n_all : mg "all" = none
  n_range : mg "range" = none
  n_zip : mg "zip" = none
  n_abs : mg "abs" = none
  n_max : mg "max" = none
  n_sum : mg "sum" = none
  m_gcd : mg "gcd" = some (.builtin "math.gcd")
  a_ZERO : Addr
  m_ZERO : mg "ZERO" = some (.ref a_ZERO)
  s_ZERO : ∀ H, SqT K H a_ZERO [.int 0, .int 1]
  C_BadValue : Addr
  f_BadValue : Addr
  d_BadValue : FuncData
  m_BadValue : mg "BadValue" = some (.ref C_BadValue)
  X_BadValue : OexC K C_BadValue
  i_BadValue : PySem.W.findIn K (.ref C_BadValue) "__init__" = some (some (.ref f_BadValue))
  t_BadValue : PySem.W.typeIn K (.ref f_BadValue) = some (.type "function")
  F_BadValue : Fun K "__init__" "BadValue.__init__" s_BadValue f_BadValue d_BadValue
  B_BadValue__init : Binds K d_BadValue ["self", "value"] []
  v_BadValue : PySem.W.findIn K (.ref C_BadValue) "value" = some none
  c_BadValue : PySem.W.findIn K (.ref C_BadValue) "code" = some none
  C_NetError : Addr
  m_NetError : mg "NetError" = some (.ref C_NetError)
  e_BadValue : PySem.W.exmOne K (.ref C_BadValue) (.ref C_NetError) = some true
  x_BadValue : XfC K C_BadValue
  y_BadValue : IsxC K C_BadValue
  k_BadValue : PySem.W.kitOne K (.ref C_BadValue) (.ref C_BadValue) = some true
  a_is_number : Addr
  d_is_number : FuncData
  F_is_number : Fun K "is_number" "is_number" s_is_number a_is_number d_is_number
  m_is_number : mg "is_number" = some (.ref a_is_number)
  B_is_number : Binds K d_is_number ["value"] []
  a_is_fraction : Addr
  d_is_fraction : FuncData
  F_is_fraction : Fun K "is_fraction" "is_fraction" s_is_fraction a_is_fraction d_is_fraction
  m_is_fraction : mg "is_fraction" = some (.ref a_is_fraction)
  B_is_fraction : Binds K d_is_fraction ["value"] []
  a_fraction : Addr
  d_fraction : FuncData
  F_fraction : FunD K "fraction" "fraction" (defArgs s_fraction) (defBody s_fraction) (defScope s_fraction) [.int 1] [] a_fraction d_fraction
  D_fraction : ∃ ds, Vals [.int 1] ds ∧ Binds K d_fraction ["p", "q"] ds
  m_fraction : mg "fraction" = some (.ref a_fraction)
  B_fraction : Binds K d_fraction ["p", "q"] []
  a_plus : Addr
  d_plus : FuncData
  F_plus : Fun K "plus" "plus" s_plus a_plus d_plus
  m_plus : mg "plus" = some (.ref a_plus)
  B_plus : Binds K d_plus ["a", "b"] []
  a_minus : Addr
  d_minus : FuncData
  F_minus : Fun K "minus" "minus" s_minus a_minus d_minus
  m_minus : mg "minus" = some (.ref a_minus)
  B_minus : Binds K d_minus ["a", "b"] []
  a_times : Addr
  d_times : FuncData
  F_times : Fun K "times" "times" s_times a_times d_times
  m_times : mg "times" = some (.ref a_times)
  B_times : Binds K d_times ["a", "b"] []
  a_quotient : Addr
  d_quotient : FuncData
  F_quotient : Fun K "quotient" "quotient" s_quotient a_quotient d_quotient
  m_quotient : mg "quotient" = some (.ref a_quotient)
  B_quotient : Binds K d_quotient ["a", "b"] []
  a_below : Addr
  d_below : FuncData
  F_below : Fun K "below" "below" s_below a_below d_below
  m_below : mg "below" = some (.ref a_below)
  B_below : Binds K d_below ["a", "b"] []
  a_floor_of : Addr
  d_floor_of : FuncData
  F_floor_of : Fun K "floor_of" "floor_of" s_floor_of a_floor_of d_floor_of
  m_floor_of : mg "floor_of" = some (.ref a_floor_of)
  B_floor_of : Binds K d_floor_of ["a"] []
  a_merged : Addr
  d_merged : FuncData
  F_merged : Fun K "merged" "merged" s_merged a_merged d_merged
  m_merged : mg "merged" = some (.ref a_merged)
  B_merged : Binds K d_merged ["low", "high"] []
  a_ascending : Addr
  d_ascending : FuncData
  F_ascending : Fun K "ascending" "ascending" s_ascending a_ascending d_ascending
  m_ascending : mg "ascending" = some (.ref a_ascending)
  B_ascending : Binds K d_ascending ["values"] []
  a_mean_of : Addr
  d_mean_of : FuncData
  F_mean_of : Fun K "mean_of" "mean_of" s_mean_of a_mean_of d_mean_of
  m_mean_of : mg "mean_of" = some (.ref a_mean_of)
  B_mean_of : Binds K d_mean_of ["values"] []
  a__law_bag : Addr
  d__law_bag : FuncData
  F__law_bag : Fun K "_law_bag" "_law_bag" s__law_bag a__law_bag d__law_bag
  m__law_bag : mg "_law_bag" = some (.ref a__law_bag)
  B__law_bag : Binds K d__law_bag ["script"] []
  a__law_draw : Addr
  d__law_draw : FuncData
  F__law_draw : Fun K "_law_draw" "_law_draw" s__law_draw a__law_draw d__law_draw
  m__law_draw : mg "_law_draw" = some (.ref a__law_draw)
  B__law_draw : Binds K d__law_draw ["bag", "size"] []
  a__law_of : Addr
  d__law_of : FuncData
  F__law_of : Fun K "_law_of" "_law_of" s__law_of a__law_of d__law_of
  m__law_of : mg "_law_of" = some (.ref a__law_of)
  B__law_of : Binds K d__law_of ["bag", "things"] []
  a__law_like : Addr
  d__law_like : FuncData
  F__law_like : Fun K "_law_like" "_law_like" s__law_like a__law_like d__law_like
  m__law_like : mg "_law_like" = some (.ref a__law_like)
  B__law_like : Binds K d__law_like ["got", "due"] []
  a__law_low : Addr
  d__law_low : FuncData
  F__law_low : Fun K "_law_low" "_law_low" s__law_low a__law_low d__law_low
  m__law_low : mg "_law_low" = some (.ref a__law_low)
  B__law_low : Binds K d__law_low ["top", "low"] []
  a__law_order : Addr
  d__law_order : FuncData
  F__law_order : Fun K "_law_order" "_law_order" s__law_order a__law_order d__law_order
  m__law_order : mg "_law_order" = some (.ref a__law_order)
  B__law_order : Binds K d__law_order ["one", "two"] []
  a__law_number : Addr
  d__law_number : FuncData
  F__law_number : Fun K "_law_number" "_law_number" s__law_number a__law_number d__law_number
  m__law_number : mg "_law_number" = some (.ref a__law_number)
  B__law_number : Binds K d__law_number ["bag"] []
  a__law_some : Addr
  d__law_some : FuncData
  F__law_some : Fun K "_law_some" "_law_some" s__law_some a__law_some d__law_some
  m__law_some : mg "_law_some" = some (.ref a__law_some)
  B__law_some : Binds K d__law_some ["bag"] []
  a__law_pair : Addr
  d__law_pair : FuncData
  F__law_pair : Fun K "_law_pair" "_law_pair" s__law_pair a__law_pair d__law_pair
  m__law_pair : mg "_law_pair" = some (.ref a__law_pair)
  B__law_pair : Binds K d__law_pair ["bag"] []
  a__law_exact : Addr
  d__law_exact : FuncData
  F__law_exact : Fun K "_law_exact" "_law_exact" s__law_exact a__law_exact d__law_exact
  m__law_exact : mg "_law_exact" = some (.ref a__law_exact)
  B__law_exact : Binds K d__law_exact ["got", "top", "low"] []
  a__law_ask : Addr
  d__law_ask : FuncData
  F__law_ask : Fun K "_law_ask" "_law_ask" s__law_ask a__law_ask d__law_ask
  m__law_ask : mg "_law_ask" = some (.ref a__law_ask)
  B__law_ask : Binds K d__law_ask ["deed"] []
  a__law_made : Addr
  d__law_made : FuncData
  F__law_made : Fun K "_law_made" "_law_made" s__law_made a__law_made d__law_made
  m__law_made : mg "_law_made" = some (.ref a__law_made)
  B__law_made : Binds K d__law_made ["bag"] []
  a__law_joined : Addr
  d__law_joined : FuncData
  F__law_joined : Fun K "_law_joined" "_law_joined" s__law_joined a__law_joined d__law_joined
  m__law_joined : mg "_law_joined" = some (.ref a__law_joined)
  B__law_joined : Binds K d__law_joined ["one", "two", "way"] []
  a__law_compared : Addr
  d__law_compared : FuncData
  F__law_compared : Fun K "_law_compared" "_law_compared" s__law_compared a__law_compared d__law_compared
  m__law_compared : mg "_law_compared" = some (.ref a__law_compared)
  B__law_compared : Binds K d__law_compared ["one", "two", "way"] []
  a__law_listed : Addr
  d__law_listed : FuncData
  F__law_listed : Fun K "_law_listed" "_law_listed" s__law_listed a__law_listed d__law_listed
  m__law_listed : mg "_law_listed" = some (.ref a__law_listed)
  B__law_listed : Binds K d__law_listed ["bag"] []
  a_law : Addr
  d_law : FuncData
  F_law : Fun K "law" "law" s_law a_law d_law
  m_law : mg "law" = some (.ref a_law)
  B_law : Binds K d_law ["script"] []
  c__law_made : Addr
  P__law_made : Addr
  c__law_joined : Addr
  P__law_joined : Addr
  c__law_listed : Addr
  P__law_listed : Addr
  k__law_made : d__law_made.code = .ref c__law_made
  k__law_joined : d__law_joined.code = .ref c__law_joined
  k__law_listed : d__law_listed.code = .ref c__law_listed
  ne__law_made_law_joined : P__law_made ≠ P__law_joined
  ne__law_made_law_listed : P__law_made ≠ P__law_listed
  ne__law_joined_law_listed : P__law_joined ≠ P__law_listed
  Z_plus : KBn K d_plus ["a", "b"] 0 ["b", "a"] (fun _ ws => sw ws) (fun _ zs => sw zs)
  Z_minus : KBn K d_minus ["a", "b"] 0 ["b", "a"] (fun _ ws => sw ws) (fun _ zs => sw zs)
  Z_times : KBn K d_times ["a", "b"] 0 ["a", "b"] (fun _ ws => ws) (fun _ zs => zs)
  Z_quotient : KBn K d_quotient ["a", "b"] 0 ["b", "a"] (fun _ ws => sw ws) (fun _ zs => sw zs)
  Z_below : KBn K d_below ["a", "b"] 0 ["b", "a"] (fun _ ws => sw ws) (fun _ zs => sw zs)
  Z_floor_of : KBn K d_floor_of ["a"] 0 ["a"] (fun _ ws => ws) (fun _ zs => zs)
  Z_ascending : KBn K d_ascending ["values"] 0 ["values"] (fun _ ws => ws) (fun _ zs => zs)
  Z_mean_of : KBn K d_mean_of ["values"] 0 ["values"] (fun _ ws => ws) (fun _ zs => zs)
  Z1_fraction : ∃ it : Value, KBn K d_fraction ["p", "q"] 0 ["p"] (fun _ ws => ws ++ [it]) (fun _ zs => zs ++ [V.int 1])
  Z2_fraction : KBn K d_fraction ["p", "q"] 0 ["q", "p"] (fun _ ws => sw ws) (fun _ zs => sw zs)

end LK

set_option Elab.async false
set_option linter.all false
set_option maxRecDepth 100000
namespace LK
open PySem PySem.Spec PyProof.Rows L2
local macro_rules | `(tactic| walk_at "rs") => `(tactic| simp only [cxK, cxNK, tCallZ, tAsg, tOp, rI0, rS0, rB0, rI, rU, tUn, rEq, rNe, rIxL, rIxT, rIxS, rSetL, rSlLU, rSlS, rSlU, rCatL, rCatU, rRepL, rIn, tVar, tC, gName, gSub, tIfS, tTest, tB, tAnd, tOr, tNot, tNotV, tAndV, tOrV, tIf, tCall, tCons, tNil, tCB, tDrop, tRet, tRetN, tNext, tLstU, tTupU, tM0, tM1, tPar, tPar3, tAug, ipI, tBM, tBM0, rAppend, rPop, tBreak, tCont, tChain, tSl, tPart, tNoPart, L2.start, List.map, List.length_cons, List.length_nil, List.replicate, List.cons_append, List.nil_append, List.append_nil, List.getElem?_cons_zero, List.getElem?_cons_succ, List.set_cons_zero, List.set_cons_succ, Option.some.injEq, V.int.injEq, V.ref.injEq, V.str.injEq, V.bl.injEq, exists_eq_left', exists_eq_left, exists_and_left, decide_eq_true_eq, List.cons.injEq, and_true, true_and, scal, Bool.not_eq_true', decide_eq_false_iff_not, Nat.zero_add, Nat.reduceAdd, Nat.reduceSub, reduceCtorEq, false_and, exists_false, false_or, or_false, CPow, CMul, CDiv, Int.reduceToNat, ↓reduceIte, wipe, sw, List.nil_append, List.singleton_append])
local macro_rules | `(tactic| walk_at "st") => `(tactic| (refine seq_op fun N hN => ?_; walk_at "rs"))
local macro_rules | `(tactic| walk_at "sd") => `(tactic| first | assumption | decide | omega)
local macro_rules | `(tactic| walk_at "rd") => `(tactic| repeat (first
  | refine ⟨_, SqL.of (by assumption), ?_⟩ | refine ⟨_, SqL.of upd_same, ?_⟩ | refine ⟨_, .inl (SqL.of (by assumption)), ?_⟩ | refine ⟨_, (by assumption : _ = some (HO.lst _)), ?_⟩ | refine ⟨_, upd_same, ?_⟩
  | refine ⟨_, rfl, ?_⟩ | refine And.intro (by walk_at "sd") ?_))

section
variable {P : Program} {w : World} {K : PySem.W.Frag} {mg : Str → Option Value} {base : Heap}
theorem ok__law_draw (T : Txt w K mg) : FnOk P w K mg base CX0 1 T.a__law_draw T.d__law_draw ["bag", "size"] sp__law_draw := by
  refine T.F__law_draw.ok sc__law_draw (fun vs H Q E h => ?_) (fun cdv A outer s H vs Q E hr h => ?_)
  · obtain ⟨b, c, n, rfl, _⟩ := h
    rfl
  · obtain ⟨b, c, n, rfl, ⟨cells, i, g, m, d, hB, hC, ncb, hi, hm, hm2⟩, n0, n1, k⟩ := h
    refine ⟨_, (pss_cons (ps_asg (pe_op op_add (pe_ix ix_list (pv 0) pe_int (fun _ _ => rfl)) pe_int) (pg_sub (pv 0) pe_int set_list))
      (pss_cons (ps_if (PW.pt (pw_and (pt_cmpR op_eqI (pe_ix ix_list (pv 0) pe_int (fun _ _ => rfl)) pe_int (nomark _)) (pw_and1 (pt_cmpR op_lt (pe_ix ix_list (pv 0) pe_int (fun _ _ => rfl)) (pe_callB call_len_seq (by rfl) T.n_len (by decide +kernel) (pa_cons (pe_ix ix_list (pv 0) pe_int (fun _ _ => rfl)) pa_nil)) (nomark _))))) (pss_cons (ps_set (i := 2) sc__law_draw.nd rfl (Or.inl rfl) (pe_ix ix_list (pe_ix ix_list (pv 0) pe_int (fun _ _ => rfl)) (pe_ix ix_list (pv 0) pe_int (fun _ _ => rfl)) (fun _ _ => rfl)))
      (pss_cons (ps_asg (pe_op op_add (pe_ix ix_list (pv 0) pe_int (fun _ _ => rfl)) pe_int) (pg_sub (pv 0) pe_int set_list))
      (pss_one (ps_if (pt_cmpR op_ge (pv 2) (pe_op op_pow pe_int pe_int) (nomark _)) (pss_one (ps_asg (pv 2) (pg_sub (pv 0) pe_int set_list))) (pss_one (ps_asg (pe_op op_mod (pe_callTy call_intI (by rfl) T.n_int (by decide +kernel) (pa_cons (pe_op op_add (pe_op op_add (pe_op op_mul (pe_ix ix_list (pv 0) pe_int (fun _ _ => rfl)) pe_int) (pe_op op_mul (pe_op op_mod (pe_callTy call_intI (by rfl) T.n_int (by decide +kernel) (pa_cons (pv 2) pa_nil)) pe_int) pe_int)) pe_int) pa_nil)) pe_int) (pg_sub (pv 0) pe_int set_list))))))) pss_nil)
      (pss_cons (ps_if (pt_cmpR op_gt (pe_ix ix_list (pv 0) pe_int (fun _ _ => rfl)) pe_int (nomark _)) (pss_cons (ps_set (i := 3) sc__law_draw.nd rfl (Or.inl rfl) (pe_op op_mod (pe_callTy call_intI (by rfl) T.n_int (by decide +kernel) (pa_cons (pe_ix ix_list (pv 0) pe_int (fun _ _ => rfl)) pa_nil)) (pv 1)))
      (pss_cons (ps_asg (pe_op op_fdiv (pe_ix ix_list (pv 0) pe_int (fun _ _ => rfl)) (pv 1)) (pg_sub (pv 0) pe_int set_list))
      (pss_one (ps_ret (pv 3))))) pss_nil)
      (pss_cons (ps_asg (pe_op op_mod (pe_callTy call_intI (by rfl) T.n_int (by decide +kernel) (pa_cons (pe_op op_add (pe_op op_add (pe_op op_pow (pe_ix ix_list (pv 0) pe_int (fun _ _ => rfl)) pe_int) (pe_op op_mul (pe_ix ix_list (pv 0) pe_int (fun _ _ => rfl)) pe_int)) pe_int) pa_nil)) pe_int) (pg_sub (pv 0) pe_int set_list))
      (pss_one (ps_ret (pe_op op_mod (pe_callTy call_intI (by rfl) T.n_int (by decide +kernel) (pa_cons (pe_op op_add (pe_op op_fdiv (pe_ix ix_list (pv 0) pe_int (fun _ _ => rfl)) pe_int) (pe_op op_mul (pe_op op_mod (pe_callTy call_intI (by rfl) T.n_int (by decide +kernel) (pa_cons (pe_ix ix_list (pv 0) pe_int (fun _ _ => rfl)) pa_nil)) pe_int) pe_int)) pa_nil)) (pv 1)))))))), ?_⟩
    -- bag[4] = bag[4] + 1
    refine seq_op fun N hN => ?_
    walk_at "rs"
    refine ⟨_, SqL.of hB, _, rfl, _, rfl, _, hB, _, rfl, ?_⟩
    refine hN _ _ ?_
    clear hN N
    -- if bag[2] == 0 and bag[1] < len(bag[0]): ..
    have B1 : Bag (upd H b (.lst [.ref c, .int i, .int g, .int m, .int (d + 1)])) b c := ⟨cells, i, g, m, d + 1, upd_same, by rw [upd_ne ncb]; exact hC, ncb, hi, hm, hm2⟩
    have K1 : Kp b H (upd H b (.lst [.ref c, .int i, .int g, .int m, .int (d + 1)])) := Kp.upd
    show tSeq _ _ _ _ (upd H b (.lst [.ref c, .int i, .int g, .int m, .int (d + 1)]))
    generalize upd H b (.lst [.ref c, .int i, .int g, .int m, .int (d + 1)]) = H1 at B1 K1 ⊢
    clear hB hC ncb hi hm hm2 i g m d cells
    refine cut_seq (fun σ H2 => ∃ x, σ = [some (.ref b), some (.int n), x, none] ∧ Bag H2 b c ∧ Kp b H H2) (fun N hN => ?_) ?_
    · obtain ⟨cells, i, g, m, d, hB, hC, ncb, hi, hm, hm2⟩ := id B1
      walk_at "rs"
      refine ⟨_, SqL.of hB, _, rfl, _, rfl, ite2 (fun z => ?_) (fun _ => hN _ _ ⟨_, rfl, B1, K1⟩)⟩
      refine ⟨_, SqL.of hB, _, rfl, _, SqL.of hB, _, rfl, _, rfl, _, .inl (SqL.of hC), _, rfl, ite2 (fun zl => ?_) (fun _ => hN _ _ ⟨_, rfl, B1, K1⟩)⟩
      -- cell = bag[0][bag[1]]
      rw [List.length_map] at zl
      obtain ⟨cl, hcl⟩ : ∃ cl, cells[i.toNat]? = some cl := ⟨cells[i.toNat]'(by omega), List.getElem?_eq_getElem _⟩
      refine seq_op fun N2 hN2 => ?_
      walk_at "rs"
      walk_at "rd"
      refine ⟨_, _, rfl, SqL.of hC, _, at_of (j := i.toNat) (v := .int cl) (by omega) (by rw [List.getElem?_map, hcl] <;> rfl), hN2 _ _ ?_⟩
      clear hN2 N2
      -- bag[1] = bag[1] + 1
      refine seq_op fun N2 hN2 => ?_
      walk_at "rs"
      walk_at "rd"
      refine hN2 _ _ ?_
      clear hN2 N2
      -- if cell >= 10 ** 18: bag[2] = cell else: ..
      walk_at "rs"
      refine ⟨by decide, ite2 (fun _ => ?_) (fun _ => ?_)⟩
      · refine ⟨_, upd_same, _, rfl, hN _ _ ⟨_, rfl, ?_, ?_⟩⟩
        · exact ⟨cells, i + 1, cl, m, d, upd_same, by rw [upd_ne ncb, upd_ne ncb]; exact hC, ncb, by omega, hm, hm2⟩
        · exact K1.trans (Kp.upd.trans Kp.upd)
      · walk_at "rd"
        refine hN _ _ ⟨_, rfl, ?_, ?_⟩
        · exact ⟨cells, i + 1, g, _, d, upd_same, by rw [upd_ne ncb, upd_ne ncb]; exact hC, ncb, by omega, Int.emod_nonneg _ (by decide), Int.emod_lt_of_pos _ (by decide)⟩
        · exact K1.trans (Kp.upd.trans Kp.upd)
    · rintro σ H2 ⟨x, rfl, B2, K2⟩
      obtain ⟨cells, i, g, m, d, hB, hC, ncb, hi, hm, hm2⟩ := id B2
      -- if bag[2] > 0: ..
      refine seq_op fun N hN => ?_
      walk_at "rs"
      refine ⟨_, SqL.of hB, _, rfl, _, rfl, ite2 (fun _ => ?_) (fun _ => hN _ _ ?_)⟩
      · refine seq_op fun N2 hN2 => ?_
        walk_at "rs"
        walk_at "rd"
        refine hN2 _ _ ?_
        clear hN2 N2
        refine seq_op fun N2 hN2 => ?_
        walk_at "rs"
        refine ⟨_, SqL.of hB, _, rfl, _, rfl, ⟨n0, n1⟩, ?_⟩
        walk_at "rd"
        refine hN2 _ _ ?_
        walk_at "rs"
        exact k _ _ (Int.emod_nonneg _ (by omega)) (Int.emod_lt_of_pos _ n0) ⟨cells, i, _, m, d, upd_same, by rw [upd_ne ncb]; exact hC, ncb, hi, hm, hm2⟩ (K2.trans Kp.upd)
      · clear hN N
        refine seq_op fun N hN => ?_
        walk_at "rs"
        refine ⟨_, SqL.of hB, _, rfl, _, rfl, ⟨by decide, by decide, by omega⟩, _, SqL.of hB, _, rfl, _, rfl, .inr (by decide), by decide, ?_⟩
        walk_at "rd"
        refine hN _ _ ?_
        clear hN N
        walk_at "rs"
        walk_at "rd"
        exact k _ _ (Int.emod_nonneg _ (by omega)) (Int.emod_lt_of_pos _ n0) ⟨cells, i, g, _, d, upd_same, by rw [upd_ne ncb]; exact hC, ncb, hi, Int.emod_nonneg _ (by decide), Int.emod_lt_of_pos _ (by decide)⟩ (K2.trans Kp.upd)

theorem ok__law_of (T : Txt w K mg) : FnOk P w K mg base CX0 2 T.a__law_of T.d__law_of ["bag", "things"] (sp__law_of K) := by
  refine T.F__law_of.ok sc__law_of (fun vs H Q E h => ?_) (fun cdv A outer s H vs Q E hr h => ?_)
  · obtain ⟨b, c, x, ys, rfl, _⟩ := h
    rfl
  · obtain ⟨b, c, x, ys, rfl, B, sq, sqb, ne, hl, k⟩ := h
    have hr__law_draw : Room 1 _ := hr.mono (by decide)
    have G__law_draw := ok__law_draw (P := P) (base := base) T
    refine ⟨_, (pss_one (ps_ret (pe_ix ix_seq (pv 1) (pe_call G__law_draw hr__law_draw (by rfl) T.m__law_draw T.F__law_draw.kp T.B__law_draw .nil pass0 (pa_cons (pv 0) (pa_cons (pe_callB call_len (by rfl) T.n_len (by decide +kernel) (pa_cons (pv 1) pa_nil)) pa_nil))) (fun _ _ => rfl)))), ?_⟩
    walk_at "rs"
    have ln : 0 < ys.length := by cases ys with | nil => exact absurd rfl ne | cons => exact Nat.succ_pos _
    have pick : ∀ (r : Int), 0 ≤ r → r < (ys.length : Int) → ∃ y, atI ys r = some y ∧ y ∈ ys := fun r r0 r1 => by
      have h1 : r.toNat < ys.length := by omega
      exact ⟨ys[r.toNat], at_of (j := r.toNat) (by omega) (List.getElem?_eq_getElem h1), List.getElem_mem h1⟩
    refine ⟨ys.length, ?_, b, c, _, rfl, B, by omega, by omega, fun r H' r0 r1 B' K' => ?_⟩
    · rcases sq with ⟨p, rfl, h⟩ | ⟨p, rfl, h⟩ | ⟨z, rfl, hz, rfl⟩
      · exact .inl ⟨_, h, rfl⟩
      · exact .inr ⟨_, h, rfl⟩
      · refine ⟨Nat.le_trans hz (by decide), ?_⟩
        rw [List.length_map, Array.length_toList] <;> rfl
    · obtain ⟨y, e, hy⟩ := pick r r0 r1
      rcases sqb with ⟨p, rfl, h⟩ | ⟨p, rfl, h⟩ | ⟨z, rfl, hz, rfl⟩
      · exact .inl ⟨p, ys, r, y, rfl, rfl, Same.seq (hb_le _ _) (Same.seq K' h), e, k y H' hy B' K'⟩
      · exact .inr (.inl ⟨p, ys, r, y, rfl, rfl, Same.seqT (hb_le _ _) (Same.seqT K' h), e, k y H' hy B' K'⟩)
      · refine .inr (.inr ?_)
        have h1 : r.toNat < z.cps.toList.length := by rw [List.length_map] at r1; omega
        have e2 : atI z.cps.toList r = some z.cps.toList[r.toNat] := at_ofN (j := r.toNat) (by omega) (List.getElem?_eq_getElem h1)
        refine ⟨z, r, _, rfl, rfl, Nat.le_trans hz (by decide), e2, k _ H' ?_ B' K'⟩
        exact List.mem_map.mpr ⟨_, List.getElem_mem h1, rfl⟩
theorem ok__law_bag (T : Txt w K mg) : FnOk P w K mg base CX0 1 T.a__law_bag T.d__law_bag ["script"] (sp__law_bag K) := by
  refine T.F__law_bag.ok sc__law_bag (fun vs H Q E h => ?_) (fun cdv A outer s H vs Q E hr h => ?_)
  · obtain ⟨a, ns, rfl, _⟩ := h
    rfl
  · obtain ⟨a, ns, rfl, hS, hl, k⟩ := h
    refine ⟨_, (pss_cons (ps_set (i := 1) sc__law_bag.nd rfl (Or.inl rfl) pe_int)
      (pss_cons (ps_for PassesOwn.never rfl (pi_list (pe_slice sl_listU (pv 0) po_none (po_some pe_int))) (pg_name (i := 2) sc__law_bag.nd rfl (Or.inl rfl)) (pss_one (ps_set (i := 1) sc__law_bag.nd rfl (Or.inl rfl) (pe_op op_mod (pe_callTy call_intI (by rfl) T.n_int (by decide +kernel) (pa_cons (pe_op op_add (pe_op op_add (pe_op op_mul (pv 1) pe_int) (pe_op op_mod (pe_callTy call_intI (by rfl) T.n_int (by decide +kernel) (pa_cons (pv 2) pa_nil)) pe_int)) pe_int) pa_nil)) pe_int))))
      (pss_one (ps_ret (pe_lstU (pa_cons (pe_callTy call_listU (by rfl) T.n_list (by decide +kernel) (pa_cons (pe_slice sl_listU (pv 0) po_none (po_some pe_int)) pa_nil)) (pa_cons pe_int (pa_cons pe_int (pa_cons (pv 1) (pa_cons pe_int pa_nil)))))))))), ?_⟩
    refine seq_op fun N hN => ?_
    walk_at "rs"
    refine hN _ _ ?_
    clear hN N
    refine cut_seq (fun σ H2 => ∃ m x, σ = [some (.ref a), some (.int m), x] ∧ 0 ≤ m ∧ m < 2147483579 ∧ Same H H2) (fun N hN => ?_) ?_
    · refine ⟨_, rfl, _, rfl, a, _, rfl, hS, fun p H1 s1 h0 h1 => ?_⟩
      refine ⟨p, rfl, ⟨_, SqL.of h1⟩, for_list (K := K) (a := p) (xs := cutV (ns.map V.int) none (some 63)) (fun i σ H2 => ∃ m x, σ = [some (.ref a), some (.int m), x] ∧ 0 ≤ m ∧ m < 2147483579 ∧ Same H1 H2) ⟨_, _, rfl, by decide, by decide, Same.refl _⟩ (fun i σ H2 _ ⟨_, _, _, _, _, s2⟩ => SqL.of (s2 _ _ h1)) ?_ ?_⟩
      · rintro i y σ H2 hi ⟨m, x, rfl, m0, m1, s2⟩
        obtain ⟨u, rfl⟩ : ∃ u, y = V.int u := by
          have q := List.mem_of_getElem? hi
          have q2 : y ∈ (ns.map V.int).take 63 := (cutV_take (ns.map V.int) 63) ▸ q
          obtain ⟨u, _, rfl⟩ := List.mem_map.mp (List.mem_of_mem_take q2)
          exact ⟨u, rfl⟩
        walk_at "rs"
        refine ⟨.inr (by decide), by decide, by decide, _, _, ⟨rfl, rfl⟩, ?_⟩
        exact ⟨Int.emod_nonneg _ (by decide), Int.emod_lt_of_pos _ (by decide), s2⟩
      · rintro σ H2 ⟨m, x, rfl, m0, m1, s2⟩
        exact hN _ _ ⟨m, x, rfl, m0, m1, Same.trans s1 s2⟩
    · rintro σ H2 ⟨m, x, rfl, m0, m1, s2⟩
      walk_at "rs"
      refine ⟨_, Same.seq s2 hS, fun p H3 s3 h30 h3 => ⟨_, .inl (SqL.of h3), fun l H4 s4 h40 h4 => ⟨by decide, fun q H5 s5 h50 h5 => ?_⟩⟩⟩
      have e : cutV (ns.map V.int) none (some 63) = ns.map V.int := by
        refine (cutV_take (ns.map V.int) 63).trans ?_
        rw [List.take_of_length_le (by simpa using hl)]
      rw [e] at h4
      have s25 : Same H2 H5 := Same.trans s3 (Same.trans s4 s5)
      refine k q l H5 (Same.trans s2 s25) ⟨ns, 0, 0, m, 0, h5, s5 _ _ h4, fun z => ?_, Int.le_refl _, m0, m1⟩ ?_
      · rw [z, h50] at h4; cases h4
      · exact Same.dom s2 q (Same.dom s3 q (Same.dom s4 q h50))
end
end LK

set_option Elab.async false
set_option linter.all false
set_option maxRecDepth 100000
namespace LK
open PySem PySem.Spec PyProof.Rows L2
local macro_rules | `(tactic| walk_at "rs") => `(tactic| simp only [cxK, cxNK, tCallZ, tAsg, tOp, rI0, rS0, rB0, rI, rU, tUn, rEq, rNe, rIxL, rIxT, rIxS, rSetL, rSlLU, rSlS, rSlU, rCatL, rCatU, rRepL, rIn, tVar, tC, gName, gSub, tIfS, tTest, tB, tAnd, tOr, tNot, tNotV, tAndV, tOrV, tIf, tCall, tCons, tNil, tCB, tDrop, tRet, tRetN, tNext, tLstU, tTupU, tM0, tM1, tPar, tPar3, tAug, ipI, tBM, tBM0, rAppend, rPop, tBreak, tCont, tChain, tSl, tPart, tNoPart, L2.start, List.map, List.length_cons, List.length_nil, List.replicate, List.cons_append, List.nil_append, List.append_nil, List.getElem?_cons_zero, List.getElem?_cons_succ, List.set_cons_zero, List.set_cons_succ, Option.some.injEq, V.int.injEq, V.ref.injEq, V.str.injEq, V.bl.injEq, exists_eq_left', exists_eq_left, exists_and_left, decide_eq_true_eq, List.cons.injEq, and_true, true_and, scal, Bool.not_eq_true', decide_eq_false_iff_not, Nat.zero_add, Nat.reduceAdd, Nat.reduceSub, reduceCtorEq, false_and, exists_false, false_or, or_false, CPow, CMul, CDiv, Int.reduceToNat, ↓reduceIte, wipe, sw, List.nil_append, List.singleton_append])
local macro_rules | `(tactic| walk_at "st") => `(tactic| (refine seq_op fun N hN => ?_; walk_at "rs"))
local macro_rules | `(tactic| walk_at "sd") => `(tactic| first | assumption | decide | omega)
local macro_rules | `(tactic| walk_at "rd") => `(tactic| repeat (first
  | refine ⟨_, SqL.of (by assumption), ?_⟩ | refine ⟨_, SqL.of upd_same, ?_⟩ | refine ⟨_, .inl (SqL.of (by assumption)), ?_⟩ | refine ⟨_, (by assumption : _ = some (HO.lst _)), ?_⟩ | refine ⟨_, upd_same, ?_⟩
  | refine ⟨_, rfl, ?_⟩ | refine And.intro (by walk_at "sd") ?_))

def spV (sp : List V → Hp → VK → Prop) : Sp := fun vs H Q _ => sp vs H Q
/-- the two fields of a BadValue -/
def badF (v : V) : List (Str × V) := [("code", .str "BadValue"), ("value", v)]
def sp_BadValue (C : Addr) : Sp := fun vs H Q _ => ∃ (a : Addr) (v : V), vs = [.ref a, v] ∧ H a = some (exo a C none) ∧
  ∀ dx, H dx = none → dx ≠ a → Q .non (L2.upd (L2.upd (L2.upd H dx (exd dx [("value", v)])) a (exo a C (some dx))) dx (exd dx (badF v)))
def isNum : PyData → Bool
  | .int _ => true
  | _ => false
def isFrac : PyData → Bool
  | .tuple [.int p, .int q] => decide (1 ≤ q) && decide ((Nat.gcd p.natAbs q.natAbs : Nat) = 1)
  | _ => false
def spP1 (K : PySem.W.Frag) (F : PyData → V) : Sp := fun vs H Q _ => ∃ v d, vs = [v] ∧ Dp K H v d ∧ ∀ H', Same H H' → Q (F d) H'
section
variable {P : Program} {w : World} {K : PySem.W.Frag} {mg : Str → Option Value} {base : Heap}
theorem ok_BadValue (T : Txt w K mg) : FnOk P w K mg base CX0 1 T.f_BadValue T.d_BadValue ["self", "value"] (sp_BadValue T.C_BadValue) := by
  refine T.F_BadValue.ok sc_BadValue (fun vs H Q E h => ?_) (fun cdv A outer s H vs Q E hr h => ?_)
  · obtain ⟨a, v, rfl, _⟩ := h
    rfl
  · obtain ⟨a, v, rfl, ha, k⟩ := h
    refine ⟨_, pss_cons (ps_ost (pv 0) (pv 1)) (pss_one (ps_ost (pv 0) pe_str)), ?_⟩
    refine seq_op fun N hN => ?_
    unfold tOst
    walk_at "rs"
    refine ⟨T.C_BadValue, T.X_BadValue, T.v_BadValue, .inl ⟨ha, fun dx hdx ne => hN _ _ ?_⟩⟩
    clear hN N
    unfold tOst
    walk_at "rs"
    refine ⟨T.C_BadValue, T.X_BadValue, T.c_BadValue, .inr ⟨dx, upd_same, [("value", v)], by rw [upd_ne ne]; exact upd_same, by simp, k dx hdx ne⟩⟩
theorem ok_is_number (T : Txt w K mg) : FnOk P w K mg base CX0 1 T.a_is_number T.d_is_number ["value"] (spP1 K fun d => .bl (isNum d)) := by
  refine T.F_is_number.ok sc_is_number (fun vs H Q E h => ?_) (fun cdv A outer s H vs Q E hr h => ?_)
  · obtain ⟨v, d, rfl, _⟩ := h
    rfl
  · obtain ⟨v, d, rfl, hD, k⟩ := h
    refine ⟨_, (pss_one (ps_ret (pe_and (pe_callB (call_isiDK (K := K) rfl) (by rfl) T.n_isinstance (by decide +kernel) (pa_cons (pv 0) (pa_cons (pe_bltn (v := .ty "int") (u := .type "int") (by rfl) T.n_int (by decide +kernel) rfl) pa_nil))) (pe_one (pe_not (pe_callB (call_isiDK (K := K) rfl) (by rfl) T.n_isinstance (by decide +kernel) (pa_cons (pv 0) (pa_cons (pe_bltn (v := .ty "bool") (u := .type "bool") (by rfl) T.n_bool (by decide +kernel) rfl) pa_nil)))))))), ?_⟩
    walk_at "rs"
    refine ⟨v, "int", ⟨rfl, rfl⟩, d, hD, by decide, ite2 (fun h => ⟨v, "bool", ⟨rfl, rfl⟩, d, hD, by decide, ?_⟩) (fun h => ?_)⟩
    · have e : isNum d = !isTy "bool" d := by cases d <;> first | rfl | cases h
      rw [← e]; exact k H (Same.refl _)
    · have e : isNum d = false := by cases d <;> first | rfl | (exact absurd rfl h)
      have q : Q (.bl (isNum d)) H := k H (Same.refl _)
      rw [e] at q; exact q
theorem ok_is_fraction (T : Txt w K mg) : FnOk P w K mg base CX0 2 T.a_is_fraction T.d_is_fraction ["value"] (spP1 K fun d => .bl (isFrac d)) := by
  refine T.F_is_fraction.ok sc_is_fraction (fun vs H Q E h => ?_) (fun cdv A outer s H vs Q E hr h => ?_)
  · obtain ⟨v, d, rfl, _⟩ := h
    rfl
  · obtain ⟨v, d, rfl, hD, k⟩ := h
    have hr_is_number : Room 1 _ := hr.mono (by decide)
    have G_is_number := ok_is_number (P := P) (base := base) T
    refine ⟨_, (pss_cons (ps_if (PW.pt (pw_or (pt_not (pt_val (pe_callB (call_isiDK (K := K) rfl) (by rfl) T.n_isinstance (by decide +kernel) (pa_cons (pv 0) (pa_cons (pe_bltn (v := .ty "tuple") (u := .type "tuple") (by rfl) T.n_tuple (by decide +kernel) rfl) pa_nil))))) (pw_or1 (pt_cmpR op_neI (pe_callB call_lenD (by rfl) T.n_len (by decide +kernel) (pa_cons (pv 0) pa_nil)) pe_int (nomark _))))) (pss_one (ps_ret pe_bl)) pss_nil)
      (pss_cons (ps_asg (pv 0) (pg_tup rfl (pgs_cons (pg_name (i := 1) sc_is_fraction.nd rfl (Or.inl rfl)) (pgs_cons (pg_name (i := 2) sc_is_fraction.nd rfl (Or.inl rfl)) pgs_nil))))
      (pss_one (ps_ret (pe_and (pe_call G_is_number hr_is_number (by rfl) T.m_is_number T.F_is_number.kp T.B_is_number .nil pass0 (pa_cons (pv 1) pa_nil)) (pe_and (pe_call G_is_number hr_is_number (by rfl) T.m_is_number T.F_is_number.kp T.B_is_number .nil pass0 (pa_cons (pv 2) pa_nil)) (pe_and (pe_cmpR op_ge (pv 2) pe_int (nomark _)) (pe_one (pe_cmpR op_eqI (pe_callBfun cr_gcd (by rfl) T.m_gcd (pa_cons (pv 1) (pa_cons (pv 2) pa_nil))) pe_int (nomark _)))))))))), ?_⟩
    refine seq_op fun N hN => ?_
    walk_at "rs"
    refine ⟨v, "tuple", ⟨rfl, rfl⟩, d, hD, by decide, ite2 (fun h => ?_) (fun h => ⟨d, hD, ?_⟩)⟩
    · have e : isFrac d = false := by cases d <;> first | rfl | cases h
      have q : Q (.bl (isFrac d)) H := k H (Same.refl _)
      rw [e] at q; exact q
    obtain ⟨ds, rfl⟩ : ∃ ds, d = .tuple ds := by cases d <;> first | exact ⟨_, rfl⟩ | (exact absurd rfl h)
    clear h
    refine .inl ⟨ds, .inr rfl, ite2 (fun h2 => ?_) (fun h2 => hN _ _ ?_)⟩
    · have e : isFrac (.tuple ds) = false := by
        rcases ds with _ | ⟨x, _ | ⟨y, _ | ⟨z, r⟩⟩⟩
        · rfl
        · cases x <;> rfl
        · exact absurd rfl h2
        · cases x <;> cases y <;> rfl
      have q : Q (.bl (isFrac (.tuple ds))) H := k H (Same.refl _)
      rw [e] at q; exact q
    clear hN N
    obtain ⟨x, y, rfl⟩ : ∃ x y, ds = [x, y] := by
      rcases ds with _ | ⟨x, _ | ⟨y, _ | ⟨z, r⟩⟩⟩
      · exact absurd (by simp) h2
      · exact absurd (by simp) h2
      · exact ⟨x, y, rfl⟩
      · exact absurd (by simp; omega) h2
    cases hD with
    | tup hs ha =>
    cases ha with
    | cons hx ha =>
    cases ha with
    | cons hy ha =>
    cases ha
    refine seq_op fun N hN => ?_
    walk_at "rs"
    refine ⟨_, _, rfl, hs, rfl, ?_⟩
    unfold gCons gNil
    walk_at "rs"
    refine ⟨_, _, ⟨rfl, rfl⟩, _, _, rfl, rfl, hN _ _ ?_⟩
    clear hN N
    walk_at "rs"
    have no : ∀ (H' : Hp), Same H H' → isFrac (.tuple [x, y]) = false → Q (.bl false) H' := fun H' s' e => by
      have q : Q (.bl (isFrac (.tuple [x, y]))) H' := k H' s'
      rw [e] at q; exact q
    refine ⟨_, x, rfl, hx, fun H1 s1 => ⟨isNum x, rfl, ite2 (fun hp => ?_) (fun hp => no H1 s1 (by cases x <;> first | rfl | exact absurd rfl hp))⟩⟩
    refine ⟨_, y, rfl, dp_same s1 hy, fun H2 s2 => ⟨isNum y, rfl, ite2 (fun hq => ?_) (fun hq => no H2 (Same.trans s1 s2) (by cases x <;> cases y <;> first | rfl | exact absurd rfl hq))⟩⟩
    obtain ⟨p, rfl⟩ : ∃ p, x = .int p := by cases x <;> first | exact ⟨_, rfl⟩ | cases hp
    obtain ⟨q, rfl⟩ : ∃ q, y = .int q := by cases y <;> first | exact ⟨_, rfl⟩ | cases hq
    cases hx
    cases hy
    refine ⟨q, rfl, ite2 (fun h1 => ⟨p, q, rfl, _, rfl, ?_⟩) (fun h1 => no H2 (Same.trans s1 s2) (by
      show (decide (1 ≤ q) && _) = false
      rw [decide_eq_false h1]; rfl))⟩
    have e : isFrac (.tuple [.int p, .int q]) = decide ((((Nat.gcd p.natAbs q.natAbs : Nat) : Int)) = 1) := by
      show (decide (1 ≤ q) && _) = _
      rw [decide_eq_true h1, Bool.true_and]
      exact decide_eq_decide.mpr (by omega)
    rw [← e]; exact k H2 (Same.trans s1 s2)
/-! ### lowest terms -/
def frG (p q : Int) : Int := if q < 0 then -((Nat.gcd p.natAbs q.natAbs : Nat) : Int) else ((Nat.gcd p.natAbs q.natAbs : Nat) : Int)
def frP (p q : Int) : Int := p.fdiv (frG p q)
def frQ (p q : Int) : Int := q.fdiv (frG p q)
def sp_fraction (C : Addr) : Sp := fun vs H Q E => ∃ p q : Int, vs = [.int p, .int q] ∧ p.natAbs.log2 < 9000 ∧ q.natAbs.log2 < 9000 ∧
  (q ≠ 0 → ∀ t H', Same H H' → H t = none → H' t = some (.tup [.int (frP p q), .int (frQ p q)]) → Q (.ref t) H') ∧
  (q = 0 → ∀ d H', Same H H' → H d = none → H' d = some (.xd (badF (.int q))) → E (.ref C) (some d) H')
theorem gcd_log {p q : Int} (h : q ≠ 0) : (Nat.gcd p.natAbs q.natAbs).log2 ≤ q.natAbs.log2 := by
  have h0 : q.natAbs ≠ 0 := by omega
  have le : Nat.gcd p.natAbs q.natAbs ≤ q.natAbs := Nat.le_of_dvd (by omega) (Nat.gcd_dvd_right _ _)
  have g0 : Nat.gcd p.natAbs q.natAbs ≠ 0 := fun e => h0 (Nat.eq_zero_of_gcd_eq_zero_right e)
  exact (Nat.le_log2 h0).mpr (Nat.le_trans (Nat.log2_self_le g0) le)
theorem mk_bad {C : Addr} {H1 : Hp} {v : V} {Qx : XK} (k : ∀ d H', Same H1 H' → H1 d = none → H' d = some (.xd (badF v)) → Qx (.ref C) (some d) H') : ∀ a, H1 a = none → sp_BadValue C (.ref a :: ([v] ++ [])) (L2.upd H1 a (exo a C none)) (fun v2 H2 => v2 = .non ∧ ∃ (d : Addr) (fs : List (Str × V)), H2 a = some (exo a C (some d)) ∧ H2 d = some (exd d fs) ∧ H1 d = none ∧ Qx (.ref C) (some d) (L2.upd (del H2 a) d (.xd fs))) E0 := by
  intro a ha
  refine ⟨a, v, rfl, upd_same, fun dx hdx ne => ⟨rfl, dx, badF v, ?_, upd_same, ?_, k dx _ ?_ ?_ upd_same⟩⟩
  · rw [upd_ne (Ne.symm ne), upd_same]
  · rw [upd_ne ne] at hdx; exact hdx
  · intro b o e
    rw [upd_ne ne] at hdx
    have n1 : b ≠ a := fun z => by rw [z, ha] at e; cases e
    have n2 : b ≠ dx := fun z => by rw [z, hdx] at e; cases e
    rw [upd_ne n2, del_ne n1, upd_ne n2, upd_ne n1, upd_ne n2, upd_ne n1]
    exact e
  · rw [upd_ne ne] at hdx; exact hdx
theorem mk_badT {C : Addr} {ta : TA} {σ : L2.St} {H0 H1 : Hp} {v : V} {Qx : XK} (ht : ∀ K : List V → Hp → Prop, K [v] H1 → ta σ H0 K) (k : ∀ d H', Same H1 H' → H1 d = none → H' d = some (.xd (badF v)) → Qx (.ref C) (some d) H') : tMkO C (sp_BadValue C) [] ta σ H0 Qx :=
  ht _ ⟨by simp, mk_bad k⟩
theorem ok_fraction (T : Txt w K mg) : FnOk P w K mg base (L2.CX P w) 3 T.a_fraction T.d_fraction ["p", "q"] (sp_fraction T.C_BadValue) := by
  refine T.F_fraction.ok sc_fraction (fun vs H Q E h => ?_) (fun cdv A outer s H vs Q E hr h => ?_)
  · obtain ⟨p, q, rfl, _⟩ := h
    rfl
  · obtain ⟨p, q, rfl, lp, lq, k, kE⟩ := h
    have hr_is_number : Room 1 _ := hr.mono (by decide)
    have G_is_number := ok_is_number (P := P) (base := base) T
    have hr_BadValue : Room 2 _ := hr.mono (by decide)
    have G_BadValue := ok_BadValue (P := P) (base := base) T
    refine ⟨_, (pss_cons (ps_if (PW.pt (pw_or (pt_not (pt_val (pe_call G_is_number hr_is_number (by rfl) T.m_is_number T.F_is_number.kp T.B_is_number .nil pass0 (pa_cons (pv 1) pa_nil)))) (pw_or1 (pt_cmpR op_eqI (pv 1) pe_int (nomark _))))) (pss_one (ps_raise rfl (takes_of rfl rfl rfl rfl) (pmk_oex T.X_BadValue T.i_BadValue T.t_BadValue G_BadValue hr_BadValue T.B_BadValue__init .nil pass0 (by rfl) T.m_BadValue (pa_cons (pv 1) pa_nil)))) pss_nil)
      (pss_cons (ps_set (i := 2) sc_fraction.nd rfl (Or.inl rfl) (pe_callBfun cr_gcd (by rfl) T.m_gcd (pa_cons (pv 0) (pa_cons (pv 1) pa_nil))))
      (pss_cons (ps_if (pt_cmpR op_lt (pv 1) pe_int (nomark _)) (pss_one (ps_set (i := 2) sc_fraction.nd rfl (Or.inl rfl) (pe_un un_neg (pv 2)))) pss_nil)
      (pss_one (ps_ret (pe_tupU (pa_cons (pe_op op_fdivF (pv 0) (pv 2)) (pa_cons (pe_op op_fdivF (pv 1) (pv 2)) pa_nil)))))))), ?_⟩
    refine seq_op fun N hN => ?_
    walk_at "rs"
    refine ⟨_, .int q, rfl, .int q, fun H1 s1 => ⟨true, rfl, iteFF (by decide) (ite2 (fun e => ?_) (fun e => hN _ _ ?_))⟩⟩
    · subst e
      exact mk_badT (fun K h => by walk_at "rs"; exact h) fun d H2 s2 hd h2 => kE rfl d H2 (Same.trans s1 s2) (Same.dom s1 d hd) h2
    clear hN N
    replace k := k e
    clear kE
    have g0 : (Nat.gcd p.natAbs q.natAbs : Nat) ≠ 0 := fun z => e (by have := Nat.eq_zero_of_gcd_eq_zero_right z; omega)
    have gl := gcd_log (p := p) e
    refine seq_op fun N hN => ?_
    walk_at "rs"
    refine ⟨p, q, rfl, hN _ _ ?_⟩
    clear hN N
    refine cut_seq (fun σ H2 => σ = [some (.int p), some (.int q), some (.int (frG p q))] ∧ H2 = H1) (fun N hN => ?_) ?_
    · walk_at "rs"
      unfold frG at hN
      refine ite2 (fun c => ?_) (fun c => ?_)
      · rw [if_pos c] at hN; exact hN _ _ ⟨rfl, rfl⟩
      · rw [if_neg c] at hN; exact hN _ _ ⟨rfl, rfl⟩
    · rintro σ H2 ⟨rfl, rfl⟩
      have n0 : frG p q ≠ 0 := by unfold frG; split <;> omega
      have nl : (frG p q).natAbs.log2 < 9000 := by
        have : (frG p q).natAbs = Nat.gcd p.natAbs q.natAbs := by unfold frG; split <;> omega
        rw [this]; omega
      walk_at "rs"
      exact ⟨⟨n0, nl⟩, ⟨n0, nl⟩, by decide, fun t H3 s3 h03 h3 => k t H3 (Same.trans s1 s3) (Same.dom s1 t h03) h3⟩
/-! ### the reckoning -/
def FrT (p q : Int) : V × V := (.int (frP p q), .int (frQ p q))
/-- a pair of whole numbers at a -/
def Pr (K : PySem.W.Frag) (H : Hp) (a : Addr) (p q : Int) : Prop := SqT K H a [.int p, .int q]
def sp_two (K : PySem.W.Frag) (f g : Int → Int → Int → Int → Int) : Sp := fun vs H Q _ => ∃ (a b : Addr) (p q r s : Int), vs = [.ref a, .ref b] ∧ Pr K H a p q ∧ Pr K H b r s ∧ p.natAbs < 2 ^ 4000 ∧ q.natAbs < 2 ^ 4000 ∧ r.natAbs < 2 ^ 4000 ∧ s.natAbs < 2 ^ 4000 ∧ g p q r s ≠ 0 ∧
  ∀ t H', Same H H' → H t = none → H' t = some (.tup [.int (frP (f p q r s) (g p q r s)), .int (frQ (f p q r s) (g p q r s))]) → Q (.ref t) H'
theorem two_add {i j : Int} {a : Nat} (hi : i.natAbs < 2 ^ a) (hj : j.natAbs < 2 ^ a) : (i + j).natAbs < 2 ^ (a + 1) := by
  have e : 2 ^ (a + 1) = 2 * 2 ^ a := Nat.pow_succ'
  omega
theorem two_sub {i j : Int} {a : Nat} (hi : i.natAbs < 2 ^ a) (hj : j.natAbs < 2 ^ a) : (i - j).natAbs < 2 ^ (a + 1) := by
  have e : 2 ^ (a + 1) = 2 * 2 ^ a := Nat.pow_succ'
  omega
theorem mulW {i j : Int} (hi : i.natAbs < 2 ^ 4000) (hj : j.natAbs < 2 ^ 4000) : CMulW i j := wide_mul hi hj (by decide) (by decide) (by decide)
theorem mulL {i j : Int} (hi : i.natAbs < 2 ^ 4000) (hj : j.natAbs < 2 ^ 4000) : (i * j).natAbs < 2 ^ 8000 := wide_lt (a := 4000) (b := 4000) hi hj
theorem logL {i : Int} {a : Nat} (h : i.natAbs < 2 ^ a) (h0 : 0 < a) (h9 : a ≤ 9000) : i.natAbs.log2 < 9000 := Nat.lt_of_lt_of_le (PySem.Flt.log2_lt_of h0 h) h9
theorem ok_plus (T : Txt w K mg) : FnOk P w K mg base CX0 4 T.a_plus T.d_plus ["a", "b"] (sp_two K (fun p q r s => p * s + r * q) fun _ q _ s => q * s) := by
  refine T.F_plus.ok sc_plus (fun vs H Q E h => ?_) (fun cdv A outer s H vs Q E hr h => ?_)
  · obtain ⟨a, b, p, q, r, s', rfl, _⟩ := h
    rfl
  · obtain ⟨a, b, p, q, r, s', rfl, ha, hb, lp, lq, lr, ls, n0, k⟩ := h
    have hr_fraction : Room 3 _ := hr.mono (by decide)
    have G_fraction := ok_fraction (P := P) (base := base) T
    refine ⟨_, (pss_one (ps_ret (pe_call G_fraction hr_fraction (by rfl) T.m_fraction T.F_fraction.kp T.B_fraction .nil passL (pa_cons (pe_op op_add (pe_op op_mulW (pe_ix ix_tup (pv 0) pe_int (fun _ _ => rfl)) (pe_ix ix_tup (pv 1) pe_int (fun _ _ => rfl))) (pe_op op_mulW (pe_ix ix_tup (pv 1) pe_int (fun _ _ => rfl)) (pe_ix ix_tup (pv 0) pe_int (fun _ _ => rfl)))) (pa_cons (pe_op op_mulW (pe_ix ix_tup (pv 0) pe_int (fun _ _ => rfl)) (pe_ix ix_tup (pv 1) pe_int (fun _ _ => rfl))) pa_nil))))), ?_⟩
    walk_at "rs"
    refine ⟨_, ha, _, rfl, _, hb, _, rfl, _, rfl, _, rfl, mulW lp ls, _, hb, _, rfl, _, ha, _, rfl, _, rfl, _, rfl, mulW lr lq, _, ha, _, rfl, _, hb, _, rfl, _, rfl, _, rfl, mulW lq ls, ?_⟩
    exact ⟨_, _, rfl, logL (two_add (mulL lp ls) (mulL lr lq)) (by decide) (by decide), logL (mulL lq ls) (by decide) (by decide), fun _ => k, fun e => absurd e n0⟩
theorem ok_minus (T : Txt w K mg) : FnOk P w K mg base CX0 4 T.a_minus T.d_minus ["a", "b"] (sp_two K (fun p q r s => p * s - r * q) (fun _ q _ s => q * s)) := by
  refine T.F_minus.ok sc_minus (fun vs H Q E h => ?_) (fun cdv A outer s H vs Q E hr h => ?_)
  · obtain ⟨a, b, p, q, r, s', rfl, _⟩ := h
    rfl
  · obtain ⟨a, b, p, q, r, s', rfl, ha, hb, lp, lq, lr, ls, n0, k⟩ := h
    have hr_fraction : Room 3 _ := hr.mono (by decide)
    have G_fraction := ok_fraction (P := P) (base := base) T
    refine ⟨_, (pss_one (ps_ret (pe_call G_fraction hr_fraction (by rfl) T.m_fraction T.F_fraction.kp T.B_fraction .nil passL (pa_cons (pe_op op_sub (pe_op op_mulW (pe_ix ix_tup (pv 0) pe_int (fun _ _ => rfl)) (pe_ix ix_tup (pv 1) pe_int (fun _ _ => rfl))) (pe_op op_mulW (pe_ix ix_tup (pv 1) pe_int (fun _ _ => rfl)) (pe_ix ix_tup (pv 0) pe_int (fun _ _ => rfl)))) (pa_cons (pe_op op_mulW (pe_ix ix_tup (pv 0) pe_int (fun _ _ => rfl)) (pe_ix ix_tup (pv 1) pe_int (fun _ _ => rfl))) pa_nil))))), ?_⟩
    walk_at "rs"
    refine ⟨_, ha, _, rfl, _, hb, _, rfl, _, rfl, _, rfl, mulW lp ls, _, hb, _, rfl, _, ha, _, rfl, _, rfl, _, rfl, mulW lr lq, _, ha, _, rfl, _, hb, _, rfl, _, rfl, _, rfl, mulW lq ls, ?_⟩
    exact ⟨_, _, rfl, logL (two_sub (mulL lp ls) (mulL lr lq)) (by decide) (by decide), logL (mulL lq ls) (by decide) (by decide), fun _ => k, fun e => absurd e n0⟩
theorem ok_times (T : Txt w K mg) : FnOk P w K mg base CX0 4 T.a_times T.d_times ["a", "b"] (sp_two K (fun p _ r _ => p * r) (fun _ q _ s => q * s)) := by
  refine T.F_times.ok sc_times (fun vs H Q E h => ?_) (fun cdv A outer s H vs Q E hr h => ?_)
  · obtain ⟨a, b, p, q, r, s', rfl, _⟩ := h
    rfl
  · obtain ⟨a, b, p, q, r, s', rfl, ha, hb, lp, lq, lr, ls, n0, k⟩ := h
    have hr_fraction : Room 3 _ := hr.mono (by decide)
    have G_fraction := ok_fraction (P := P) (base := base) T
    refine ⟨_, (pss_one (ps_ret (pe_call G_fraction hr_fraction (by rfl) T.m_fraction T.F_fraction.kp T.B_fraction .nil passL (pa_cons (pe_op op_mulW (pe_ix ix_tup (pv 0) pe_int (fun _ _ => rfl)) (pe_ix ix_tup (pv 1) pe_int (fun _ _ => rfl))) (pa_cons (pe_op op_mulW (pe_ix ix_tup (pv 0) pe_int (fun _ _ => rfl)) (pe_ix ix_tup (pv 1) pe_int (fun _ _ => rfl))) pa_nil))))), ?_⟩
    walk_at "rs"
    refine ⟨_, ha, _, rfl, _, hb, _, rfl, _, rfl, _, rfl, mulW lp lr, _, ha, _, rfl, _, hb, _, rfl, _, rfl, _, rfl, mulW lq ls, ?_⟩
    exact ⟨_, _, rfl, logL (mulL lp lr) (by decide) (by decide), logL (mulL lq ls) (by decide) (by decide), fun _ => k, fun e => absurd e n0⟩
theorem ok_below (T : Txt w K mg) : FnOk P w K mg base CX0 1 T.a_below T.d_below ["a", "b"] (fun vs H Q _ => ∃ (a b : Addr) (p q r s : Int), vs = [.ref a, .ref b] ∧ Pr K H a p q ∧ Pr K H b r s ∧ p.natAbs < 2 ^ 4000 ∧ q.natAbs < 2 ^ 4000 ∧ r.natAbs < 2 ^ 4000 ∧ s.natAbs < 2 ^ 4000 ∧ Q (.bl (decide (p * s < r * q))) H) := by
  refine T.F_below.ok sc_below (fun vs H Q E h => ?_) (fun cdv A outer s H vs Q E hr h => ?_)
  · obtain ⟨a, b, p, q, r, s', rfl, _⟩ := h
    rfl
  · obtain ⟨a, b, p, q, r, s', rfl, ha, hb, lp, lq, lr, ls, k⟩ := h
    refine ⟨_, (pss_one (ps_ret (pe_cmpR op_lt (pe_op op_mulW (pe_ix ix_tup (pv 0) pe_int (fun _ _ => rfl)) (pe_ix ix_tup (pv 1) pe_int (fun _ _ => rfl))) (pe_op op_mulW (pe_ix ix_tup (pv 1) pe_int (fun _ _ => rfl)) (pe_ix ix_tup (pv 0) pe_int (fun _ _ => rfl))) (nomark _)))), ?_⟩
    walk_at "rs"
    exact ⟨_, ha, _, rfl, _, hb, _, rfl, _, rfl, _, rfl, mulW lp ls, _, hb, _, rfl, _, ha, _, rfl, _, rfl, _, rfl, mulW lr lq, k⟩
theorem ok_floor_of (T : Txt w K mg) : FnOk P w K mg base CX0 1 T.a_floor_of T.d_floor_of ["a"] (fun vs H Q _ => ∃ (a : Addr) (p q : Int), vs = [.ref a] ∧ Pr K H a p q ∧ q ≠ 0 ∧ q.natAbs < 2 ^ 4000 ∧ Q (.int (p.fdiv q)) H) := by
  refine T.F_floor_of.ok sc_floor_of (fun vs H Q E h => ?_) (fun cdv A outer s H vs Q E hr h => ?_)
  · obtain ⟨a, p, q, rfl, _⟩ := h
    rfl
  · obtain ⟨a, p, q, rfl, ha, n0, lq, k⟩ := h
    refine ⟨_, (pss_one (ps_ret (pe_op op_fdivF (pe_ix ix_tup (pv 0) pe_int (fun _ _ => rfl)) (pe_ix ix_tup (pv 0) pe_int (fun _ _ => rfl))))), ?_⟩
    walk_at "rs"
    exact ⟨_, ha, _, rfl, _, ha, _, rfl, _, rfl, _, rfl, ⟨n0, logL lq (by decide) (by decide)⟩, k⟩
end
end LK

set_option Elab.async false
set_option linter.all false
set_option maxRecDepth 100000
namespace LK
open PySem PySem.Spec PyProof.Rows L2
local macro_rules | `(tactic| walk_at "rs") => `(tactic| simp only [cxK, cxNK, tCallZ, tAsg, tOp, rI0, rS0, rB0, rI, rU, tUn, rEq, rNe, rIxL, rIxT, rIxS, rSetL, rSlLU, rSlS, rSlU, rCatL, rCatU, rRepL, rIn, tVar, tC, gName, gSub, tIfS, tTest, tB, tAnd, tOr, tNot, tNotV, tAndV, tOrV, tIf, tCall, tCons, tNil, tCB, tDrop, tRet, tRetN, tNext, tLstU, tTupU, tM0, tM1, tPar, tPar3, tAug, ipI, tBM, tBM0, rAppend, rPop, tBreak, tCont, tChain, tSl, tPart, tNoPart, L2.start, List.map, List.length_cons, List.length_nil, List.replicate, List.cons_append, List.nil_append, List.append_nil, List.getElem?_cons_zero, List.getElem?_cons_succ, List.set_cons_zero, List.set_cons_succ, Option.some.injEq, V.int.injEq, V.ref.injEq, V.str.injEq, V.bl.injEq, exists_eq_left', exists_eq_left, exists_and_left, decide_eq_true_eq, List.cons.injEq, and_true, true_and, scal, Bool.not_eq_true', decide_eq_false_iff_not, Nat.zero_add, Nat.reduceAdd, Nat.reduceSub, reduceCtorEq, false_and, exists_false, false_or, or_false, CPow, CMul, CDiv, Int.reduceToNat, ↓reduceIte, wipe, sw, List.nil_append, List.singleton_append])
local macro_rules | `(tactic| walk_at "st") => `(tactic| (refine seq_op fun N hN => ?_; walk_at "rs"))
local macro_rules | `(tactic| walk_at "sd") => `(tactic| first | assumption | decide | omega)
local macro_rules | `(tactic| walk_at "rd") => `(tactic| repeat (first
  | refine ⟨_, SqL.of (by assumption), ?_⟩ | refine ⟨_, SqL.of upd_same, ?_⟩ | refine ⟨_, .inl (SqL.of (by assumption)), ?_⟩ | refine ⟨_, (by assumption : _ = some (HO.lst _)), ?_⟩ | refine ⟨_, upd_same, ?_⟩
  | refine ⟨_, rfl, ?_⟩ | refine And.intro (by walk_at "sd") ?_))

section
variable {P : Program} {w : World} {K : PySem.W.Frag} {mg : Str → Option Value} {base : Heap}
def sp_quotient (K : PySem.W.Frag) (C : Addr) : Sp := fun vs H Q E => ∃ (a b : Addr) (p q r s : Int), vs = [.ref a, .ref b] ∧ Pr K H a p q ∧ Pr K H b r s ∧ p.natAbs < 2 ^ 4000 ∧ q.natAbs < 2 ^ 4000 ∧ r.natAbs < 2 ^ 4000 ∧ s.natAbs < 2 ^ 4000 ∧ q ≠ 0 ∧ 1 ≤ s ∧ Nat.gcd r.natAbs s.natAbs = 1 ∧
  (r ≠ 0 → ∀ t H', Same H H' → H t = none → H' t = some (.tup [.int (frP (p * s) (q * r)), .int (frQ (p * s) (q * r))]) → Q (.ref t) H') ∧
  (r = 0 → ∀ d H', Same H H' → H d = none → H' d = some (.xd (badF (.ref b))) → E (.ref C) (some d) H')
theorem eqv_zero (r s : Int) : PyData.eqv (.tuple [.int r, .int s]) (.tuple [.int 0, .int 1]) = (decide (r = 0) && decide (s = 1)) := by
  simp [PyData.eqv, PyData.eqvAll]
  rfl
theorem shaped2 (r s : Int) : SeqAt.shaped (.tuple [.int r, .int s]) = true := by rfl
theorem dp_pair {H : Hp} {a : Addr} {p q : Int} (h : Pr K H a p q) : Dp K H (.ref a) (.tuple [.int p, .int q]) := .tup h (.cons (.int p) (.cons (.int q) .nil))
theorem ok_quotient (T : Txt w K mg) : FnOk P w K mg base (L2.CX P w) 4 T.a_quotient T.d_quotient ["a", "b"] (sp_quotient K T.C_BadValue) := by
  refine T.F_quotient.okX sc_quotient (fun vs H Q E h => ?_) (fun cdv A outer s H vs Q E hr h => ?_)
  · obtain ⟨a, b, p, q, r, s', rfl, _⟩ := h
    rfl
  · obtain ⟨a, b, p, q, r, s', rfl, ha, hb, lp, lq, lr, ls, q0, s1, hg, k, kE⟩ := h
    have hr_is_fraction : Room 2 _ := hr.mono (by decide)
    have G_is_fraction := ok_is_fraction (P := P) (base := base) T
    have hr_fraction : Room 3 _ := hr.mono (by decide)
    have G_fraction := ok_fraction (P := P) (base := base) T
    have hr_BadValue : Room 2 _ := hr.mono (by decide)
    have G_BadValue := ok_BadValue (P := P) (base := base) T
    refine ⟨_, (pss_cons (ps_if (PW.pt (pw_or (pt_not (pt_val (pe_call G_is_fraction hr_is_fraction (by rfl) T.m_is_fraction T.F_is_fraction.kp T.B_is_fraction .nil pass0 (pa_cons (pv 1) pa_nil)))) (pw_or1 (pt_cmpR (op_eqD hr.units) (pv 1) (pe_glob (v := .ref T.a_ZERO) (by rfl) T.m_ZERO rfl) (nomark _))))) (pss_one (ps_raise rfl (takes_of rfl rfl rfl rfl) (pmk_oex T.X_BadValue T.i_BadValue T.t_BadValue G_BadValue hr_BadValue T.B_BadValue__init .nil pass0 (by rfl) T.m_BadValue (pa_cons (pv 1) pa_nil)))) pss_nil)
      (pss_one (ps_ret (pe_call G_fraction hr_fraction (by rfl) T.m_fraction T.F_fraction.kp T.B_fraction .nil passL (pa_cons (pe_op op_mulW (pe_ix ix_tup (pv 0) pe_int (fun _ _ => rfl)) (pe_ix ix_tup (pv 1) pe_int (fun _ _ => rfl))) (pa_cons (pe_op op_mulW (pe_ix ix_tup (pv 0) pe_int (fun _ _ => rfl)) (pe_ix ix_tup (pv 1) pe_int (fun _ _ => rfl))) pa_nil)))))), ?_⟩
    refine seq_op fun N hN => ?_
    walk_at "rs"
    have hf : isFrac (.tuple [.int r, .int s']) = true := by
      show (decide (1 ≤ s') && decide (Nat.gcd r.natAbs s'.natAbs = 1)) = true
      rw [decide_eq_true s1, decide_eq_true hg]; rfl
    refine ⟨_, _, rfl, dp_pair hb, fun H1 e1 => ⟨true, (by show V.bl (isFrac _) = V.bl true; rw [hf]), iteFF (by decide) ⟨_, .tuple [.int 0, .int 1], dp_same e1 (dp_pair hb), dp_pair (T.s_ZERO H1), shaped2 _ _, by decide +kernel, _, rfl, ?_⟩⟩⟩
    rw [eqv_zero]
    refine ite2 (fun e => ?_) (fun e => hN _ _ ?_)
    · rw [Bool.and_eq_true] at e
      have r0 : r = 0 := of_decide_eq_true e.1
      exact mk_badT (fun K h => by walk_at "rs"; exact h) fun d H2 s2 hd h2 => kE r0 d H2 (Same.trans e1 s2) (Same.dom e1 d hd) h2
    clear hN N
    have r0 : r ≠ 0 := fun z => e (by
      subst z
      have : s' = 1 := by
        rw [Int.natAbs_zero, Nat.gcd_zero_left] at hg; omega
      subst this; rfl)
    replace ha := Same.seqT e1 ha
    replace hb := Same.seqT e1 hb
    walk_at "rs"
    refine ⟨_, ha, _, rfl, _, hb, _, rfl, _, rfl, _, rfl, mulW lp ls, _, ha, _, rfl, _, hb, _, rfl, _, rfl, _, rfl, mulW lq lr, ?_⟩
    refine ⟨_, _, rfl, logL (mulL lp ls) (by decide) (by decide), logL (mulL lq lr) (by decide) (by decide), fun _ t H' s2 h0 h2 => k r0 t H' (Same.trans e1 s2) (Same.dom e1 t h0) h2, fun e => absurd e (Int.mul_ne_zero q0 r0)⟩
theorem abs_if (p : Int) : (if p < 0 then -p else p) = ((p.natAbs : Nat) : Int) := by split <;> omega
theorem ok__law_low (T : Txt w K mg) : FnOk P w K mg base CX0 1 T.a__law_low T.d__law_low ["top", "low"] (fun vs H Q _ => ∃ p q : Int, vs = [.int p, .int q] ∧ q ≠ 0 ∧ p.natAbs < 2 ^ 8001 ∧ q.natAbs < 2 ^ 8001 ∧
    ∀ t H', Same H H' → H t = none → H' t = some (.tup [.int (frP p q), .int (frQ p q)]) → Q (.ref t) H') := by
  refine T.F__law_low.ok sc__law_low (fun vs H Q E h => ?_) (fun cdv A outer s H vs Q E hr h => ?_)
  · obtain ⟨p, q, rfl, _⟩ := h
    rfl
  · obtain ⟨p, q, rfl, q0, lp, lq, k⟩ := h
    refine ⟨_, (pss_cons (ps_par (i := 2) (j := 3) (by rfl) sc__law_low.nd rfl rfl (by decide) rfl rfl (pa_cons (pe_callB call_abs (by rfl) T.n_abs (by decide +kernel) (pa_cons (pv 0) pa_nil)) (pa_cons (pe_callB call_abs (by rfl) T.n_abs (by decide +kernel) (pa_cons (pv 1) pa_nil)) pa_nil)) (by rfl))
      (pss_cons (ps_while PassesOwn.never (pt_cmpR op_neI (pv 3) pe_int (nomark _)) (pss_one (ps_par (i := 2) (j := 3) (by rfl) sc__law_low.nd rfl rfl (by decide) rfl rfl (pa_cons (pv 3) (pa_cons (pe_op op_mod (pe_callTy call_intI (by rfl) T.n_int (by decide +kernel) (pa_cons (pv 2) pa_nil)) (pv 3)) pa_nil)) (by rfl))))
      (pss_cons (ps_if (pt_cmpR op_lt (pv 1) pe_int (nomark _)) (pss_one (ps_set (i := 2) sc__law_low.nd rfl (Or.inl rfl) (pe_op op_sub pe_int (pv 2)))) pss_nil)
      (pss_one (ps_ret (pe_tupU (pa_cons (pe_op op_fdivF (pv 0) (pv 2)) (pa_cons (pe_op op_fdivF (pv 1) (pv 2)) pa_nil)))))))), ?_⟩
    refine seq_op fun N hN => ?_
    walk_at "rs"
    refine ⟨_, _, ⟨rfl, rfl⟩, hN _ _ ?_⟩
    clear hN N
    refine cut_seq (fun σ H2 => σ = [some (.int p), some (.int q), some (.int ((Nat.gcd p.natAbs q.natAbs : Nat) : Int)), some (.int 0)] ∧ H2 = H) (fun N hN => ?_) ?_
    · refine while_by (fun σ H2 => ∃ a b : Nat, σ = [some (.int p), some (.int q), some (.int (a : Int)), some (.int (b : Int))] ∧ H2 = H ∧ Nat.gcd a b = Nat.gcd p.natAbs q.natAbs) (fun (σ : L2.St) (_ : Hp) => match σ[3]? with
          | some (some (V.int b)) => b.toNat
          | _ => 0) ⟨p.natAbs, q.natAbs, by rw [abs_if, abs_if], rfl, rfl⟩ ?_ ?_
      · rintro σ H2 ⟨a, b, rfl, rfl, hg⟩
        walk_at "rs"
        refine ite2 (fun hb => ?_) (fun hb => ?_)
        · refine ⟨by omega, _, _, ⟨rfl, rfl⟩, ⟨b, a % b, ⟨rfl, rfl⟩, ?_⟩, ?_⟩
          · rw [← hg, Nat.gcd_comm a b, Nat.gcd_rec b a, Nat.gcd_comm]
          · show ((a : Int) % (b : Int)).toNat < (b : Int).toNat
            have := Int.emod_lt_of_pos (a : Int) (show (0 : Int) < (b : Int) by omega)
            have := Int.emod_nonneg (a : Int) hb
            omega
        · have b0 : b = 0 := by omega
          subst b0
          rw [Nat.gcd_zero_right] at hg
          rw [hg]
          exact hN _ _ ⟨rfl, rfl⟩
      · intro σ H2 Q1 Q2 h hq
        revert hq
        walk_at "rs"
        rintro ⟨v, e, i, rfl, hq⟩
        exact ⟨_, e, i, rfl, h _ _ hq⟩
    · rintro σ H2 ⟨rfl, rfl⟩
      have g0 : (Nat.gcd p.natAbs q.natAbs : Nat) ≠ 0 := fun z => q0 (by have := Nat.eq_zero_of_gcd_eq_zero_right z; omega)
      have gl := gcd_log (p := p) q0
      have ql := logL lq (by decide) (by decide)
      have n0 : frG p q ≠ 0 := by unfold frG; split <;> omega
      have nl : (frG p q).natAbs.log2 < 9000 := by
        have : (frG p q).natAbs = Nat.gcd p.natAbs q.natAbs := by unfold frG; split <;> omega
        rw [this]; omega
      refine cut_seq (fun σ H3 => σ = [some (.int p), some (.int q), some (.int (frG p q)), some (.int 0)] ∧ H3 = H2) (fun N hN => ?_) ?_
      · walk_at "rs"
        unfold frG at hN
        refine ite2 (fun c => ?_) (fun c => ?_)
        · rw [if_pos c] at hN
          rw [Int.zero_sub]
          exact hN _ _ ⟨rfl, rfl⟩
        · rw [if_neg c] at hN; exact hN _ _ ⟨rfl, rfl⟩
      · rintro σ H3 ⟨rfl, rfl⟩
        walk_at "rs"
        exact ⟨⟨n0, nl⟩, ⟨n0, nl⟩, by decide, k⟩
end
end LK

set_option Elab.async false
set_option linter.all false
set_option maxRecDepth 100000
namespace LK
open PySem PySem.Spec PyProof.Rows L2
local macro_rules | `(tactic| walk_at "rs") => `(tactic| simp only [cxK, cxNK, tCallZ, tAsg, tOp, rI0, rS0, rB0, rI, rU, tUn, rEq, rNe, rIxL, rIxT, rIxS, rSetL, rSlLU, rSlS, rSlU, rCatL, rCatU, rRepL, rIn, tVar, tC, gName, gSub, tIfS, tTest, tB, tAnd, tOr, tNot, tNotV, tAndV, tOrV, tIf, tCall, tCons, tNil, tCB, tDrop, tRet, tRetN, tNext, tLstU, tTupU, tM0, tM1, tPar, tPar3, tAug, ipI, tBM, tBM0, rAppend, rPop, tBreak, tCont, tChain, tSl, tPart, tNoPart, L2.start, List.map, List.length_cons, List.length_nil, List.replicate, List.cons_append, List.nil_append, List.append_nil, List.getElem?_cons_zero, List.getElem?_cons_succ, List.set_cons_zero, List.set_cons_succ, Option.some.injEq, V.int.injEq, V.ref.injEq, V.str.injEq, V.bl.injEq, exists_eq_left', exists_eq_left, exists_and_left, decide_eq_true_eq, List.cons.injEq, and_true, true_and, scal, Bool.not_eq_true', decide_eq_false_iff_not, Nat.zero_add, Nat.reduceAdd, Nat.reduceSub, reduceCtorEq, false_and, exists_false, false_or, or_false, CPow, CMul, CDiv, Int.reduceToNat, ↓reduceIte, wipe, sw, List.nil_append, List.singleton_append])
local macro_rules | `(tactic| walk_at "st") => `(tactic| (refine seq_op fun N hN => ?_; walk_at "rs"))
local macro_rules | `(tactic| walk_at "sd") => `(tactic| first | assumption | decide | omega)
local macro_rules | `(tactic| walk_at "rd") => `(tactic| repeat (first
  | refine ⟨_, SqL.of (by assumption), ?_⟩ | refine ⟨_, SqL.of upd_same, ?_⟩ | refine ⟨_, .inl (SqL.of (by assumption)), ?_⟩ | refine ⟨_, (by assumption : _ = some (HO.lst _)), ?_⟩ | refine ⟨_, upd_same, ?_⟩
  | refine ⟨_, rfl, ?_⟩ | refine And.intro (by walk_at "sd") ?_))

theorem dep_tup (ds : List PyData) : dep (.tuple ds) = depAll ds + 1 := rfl
theorem dep_lst (ds : List PyData) : dep (.list ds) = depAll ds + 1 := rfl
theorem depAll_get : ∀ {ds : List PyData} {i : Nat} {d : PyData}, ds[i]? = some d → dep d ≤ depAll ds
  | [], _, _, e => by simp at e
  | a :: r, 0, _, e => by simp at e; subst e; exact Nat.le_max_left _ _
  | a :: r, i + 1, _, e => Nat.le_trans (depAll_get (ds := r) (i := i) (by simpa using e)) (Nat.le_max_right _ _)
theorem dpa_get4 {K : PySem.W.Frag} {H : Hp} : ∀ {vs : List V} {ds : List PyData} {i : Nat} {v : V}, DpAll K H vs ds → vs[i]? = some v → ∃ d, ds[i]? = some d ∧ Dp K H v d
  | _, _, _, _, .nil, e => by simp at e
  | _, _, 0, _, .cons r _, e => by simp at e; subst e; exact ⟨_, rfl, r⟩
  | _, _, i + 1, _, .cons _ t, e => by
    obtain ⟨d, h1, h2⟩ := dpa_get4 (i := i) t (by simpa using e)
    exact ⟨d, by simpa using h1, h2⟩
theorem dpa_len4 {K : PySem.W.Frag} {H : Hp} : ∀ {vs : List V} {ds : List PyData}, DpAll K H vs ds → vs.length = ds.length
  | _, _, .nil => rfl
  | _, _, .cons _ t => by simp [dpa_len4 t]
theorem ok_get4 : ∀ {ds : List PyData} {i : Nat} {d : PyData}, okAll ds = true → ds[i]? = some d → okD d = true
  | [], _, _, _, e => by simp at e
  | a :: r, 0, _, h, e => by
    simp at e; subst e
    unfold okAll at h; rw [Bool.and_eq_true] at h; exact h.1
  | a :: r, i + 1, _, h, e => by
    unfold okAll at h; rw [Bool.and_eq_true] at h
    exact ok_get4 (i := i) h.2 (by simpa using e)
theorem isTy_leaf {d : PyData} (h1 : ∀ ds, d ≠ .list ds) (h2 : ∀ ds, d ≠ .tuple ds) : isTy "list" d = false ∧ isTy "tuple" d = false := by
  cases d <;> simp [isTy] <;> first | exact absurd rfl (h1 _) | exact absurd rfl (h2 _)
theorem walk_zipT {K : PySem.W.Frag} {a b : Addr} {xs ys : List V} {n : Nat} (hx : xs.length = n) (hy : ys.length = n) : Walk (RZ.ItzT K a b) n (fun H => SqT K H a xs ∧ SqT K H b ys) (YPair (fun i => xs[i]?) (fun i => ys[i]?)) := by
  refine ⟨fun i _ hi q => ?_, fun _ q => ⟨xs, ys, q.1, q.2, by omega⟩, fun i H v H' _ q y => ?_⟩
  · have h1 : i < xs.length := by omega
    have h2 : i < ys.length := by omega
    exact ⟨xs, ys, xs[i], ys[i], q.1, q.2, by simp [h1], by simp [h2]⟩
  · obtain ⟨T, x, z, h1, h2, h3, h4, h5⟩ := y
    exact ⟨T, x, z, h1, h2, h3, h4 xs q.1, h5 ys q.2⟩
section
variable {P : Program} {w : World} {K : PySem.W.Frag} {mg : Str → Option Value} {base : Heap}
theorem like_step (T : Txt w K mg) (n : Nat) (ih : ∀ m, m + 1 = n → FnOk P w K mg base CX0 (m + 1) T.a__law_like T.d__law_like ["got", "due"] (sp__law_like K m)) : FnOk P w K mg base CX0 (n + 1) T.a__law_like T.d__law_like ["got", "due"] (sp__law_like K n) := by
  refine T.F__law_like.ok sc__law_like (fun vs H Q E h => ?_) (fun cdv A outer s H vs Q E hr h => ?_)
  · obtain ⟨v, u, d, rfl, _⟩ := h
    rfl
  · obtain ⟨v, u, d, rfl, hv, hu, hok, hdep, k⟩ := h
    have leaf : isTy "list" d = false ∧ isTy "tuple" d = false ∨ (∃ ds, (d = .list ds ∨ d = .tuple ds)) := by
      cases d <;> first | exact .inr ⟨_, .inl rfl⟩ | exact .inr ⟨_, .inr rfl⟩ | exact .inl ⟨rfl, rfl⟩
    rcases leaf with ⟨el, et⟩ | ⟨ds, hds⟩
    · refine ⟨_, (pss_cons (ps_if (pt_val (pe_callB call_isiDT (by rfl) T.n_isinstance (by decide +kernel) (pa_cons (pv 1) (pa_cons (pe_tupU (pa_cons (pe_bltn (v := .ty "list") (u := .type "list") (by rfl) T.n_list (by decide +kernel) rfl) (pa_cons (pe_bltn (v := .ty "tuple") (u := .type "tuple") (by rfl) T.n_tuple (by decide +kernel) rfl) pa_nil))) pa_nil)))) pss_never pss_nil) (pss_cons (ps_if (PW.pt (pw_or (pt_cmpR op_isN (pv 1) pe_non (nomark _)) (pw_or1 (pt_cmpR op_isN (pv 0) pe_non (nomark _))))) (pss_one (ps_ret (pe_and (pe_cmpR op_isN (pv 1) pe_non (nomark _)) (pe_one (pe_cmpR op_isN (pv 0) pe_non (nomark _)))))) pss_nil)
      (pss_cons (ps_if (PW.pt (pw_or (pt_val (pe_callB call_isiDT (by rfl) T.n_isinstance (by decide +kernel) (pa_cons (pv 0) (pa_cons (pe_tupU (pa_cons (pe_bltn (v := .ty "list") (u := .type "list") (by rfl) T.n_list (by decide +kernel) rfl) (pa_cons (pe_bltn (v := .ty "tuple") (u := .type "tuple") (by rfl) T.n_tuple (by decide +kernel) rfl) pa_nil))) pa_nil)))) (pw_or1 (pt_cmpR op_neB (pe_callB (call_isiDK (K := K) rfl) (by rfl) T.n_isinstance (by decide +kernel) (pa_cons (pv 0) (pa_cons (pe_bltn (v := .ty "bool") (u := .type "bool") (by rfl) T.n_bool (by decide +kernel) rfl) pa_nil))) (pe_callB (call_isiDK (K := K) rfl) (by rfl) T.n_isinstance (by decide +kernel) (pa_cons (pv 1) (pa_cons (pe_bltn (v := .ty "bool") (u := .type "bool") (by rfl) T.n_bool (by decide +kernel) rfl) pa_nil))) (nomark _))))) (pss_one (ps_ret pe_bl)) pss_nil)
      (pss_cons (ps_if (PW.pt (pw_or (pt_cmpR op_neB (pe_callB (call_isiDK (K := K) rfl) (by rfl) T.n_isinstance (by decide +kernel) (pa_cons (pv 0) (pa_cons (pe_bltn (v := .ty "str") (u := .type "str") (by rfl) T.n_str (by decide +kernel) rfl) pa_nil))) (pe_callB (call_isiDK (K := K) rfl) (by rfl) T.n_isinstance (by decide +kernel) (pa_cons (pv 1) (pa_cons (pe_bltn (v := .ty "str") (u := .type "str") (by rfl) T.n_str (by decide +kernel) rfl) pa_nil))) (nomark _)) (pw_or1 (pt_cmpR op_neB (pe_callB (call_isiDK (K := K) rfl) (by rfl) T.n_isinstance (by decide +kernel) (pa_cons (pv 0) (pa_cons (pe_bltn (v := .ty "int") (u := .type "int") (by rfl) T.n_int (by decide +kernel) rfl) pa_nil))) (pe_callB (call_isiDK (K := K) rfl) (by rfl) T.n_isinstance (by decide +kernel) (pa_cons (pv 1) (pa_cons (pe_bltn (v := .ty "int") (u := .type "int") (by rfl) T.n_int (by decide +kernel) rfl) pa_nil))) (nomark _))))) (pss_one (ps_ret pe_bl)) pss_nil)
      (pss_one (ps_ret (pe_cmpR op_eq (pv 0) (pv 1) (nomark _)))))))), ?_⟩
      refine seq_op fun N hN => ?_
      walk_at "rs"
      refine ⟨by decide, fun p H1 s1 h0 h1 => ⟨_, p, ⟨rfl, rfl⟩, h1, _, dp_same s1 hu, iteFF (by rw [el, et]; decide) (hN _ _ ?_)⟩⟩
      clear hN N h1
      have hv1 := dp_same s1 hv
      have hu1 := dp_same s1 hu
      have k1 := fun H' (s : Same H1 H') => k H' (Same.trans s1 s)
      refine seq_op fun N hN => ?_
      walk_at "rs"
      by_cases cn : d = .none
      · subst cn
        cases hu
        cases hv
        exact iteTT rfl (iteTT rfl (k1 H1 (Same.refl _)))
      · have vn : v ≠ .non := fun e => by subst e; cases hv; exact cn rfl
        have un : u ≠ .non := fun e => by subst e; cases hu; exact cn rfl
        refine iteFF un (iteFF vn (hN _ _ ?_))
        clear hN N
        refine seq_op fun N hN => ?_
        walk_at "rs"
        refine ⟨by decide, fun p2 H2 s2 h02 h12 => ⟨_, p2, ⟨rfl, rfl⟩, h12, _, dp_same s2 hv1, iteFF (by rw [el, et]; decide) ?_⟩⟩
        refine ⟨_, "bool", ⟨rfl, rfl⟩, _, dp_same s2 hv1, by simp, _, "bool", ⟨rfl, rfl⟩, _, dp_same s2 hu1, by simp, iteFF (by simp) (hN _ _ ?_)⟩
        clear hN N
        refine seq_op fun N hN => ?_
        walk_at "rs"
        refine ⟨_, "str", ⟨rfl, rfl⟩, _, dp_same s2 hv1, by simp, _, "str", ⟨rfl, rfl⟩, _, dp_same s2 hu1, by simp, iteFF (by simp) ?_⟩
        refine ⟨_, "int", ⟨rfl, rfl⟩, _, dp_same s2 hv1, by simp, _, "int", ⟨rfl, rfl⟩, _, dp_same s2 hu1, by simp, iteFF (by simp) (hN _ _ ?_)⟩
        clear hN N
        walk_at "rs"
        have kk := k1 H2 s2
        have fin : scal v u = true ∧ Q (.bl (decide (v = u))) H2 := by
          cases hv with
          | non => exact absurd rfl cn
          | bl b => cases hu; exact ⟨rfl, by rw [decide_eq_true rfl]; exact kk⟩
          | int b => cases hu; exact ⟨rfl, by rw [decide_eq_true rfl]; exact kk⟩
          | str b => cases hu; exact ⟨rfl, by rw [decide_eq_true rfl]; exact kk⟩
          | lst _ _ => simp [isTy] at el
          | tup _ _ => simp [isTy] at et
        exact fin
    · obtain ⟨m, rfl⟩ : ∃ m, n = m + 1 := by
        rcases hds with rfl | rfl
        · rw [dep_lst] at hdep; exact ⟨n - 1, by omega⟩
        · rw [dep_tup] at hdep; exact ⟨n - 1, by omega⟩
      have hr__law_like : Room (m + 1) _ := hr
      have G__law_like := ih m rfl
      have hdm : depAll ds ≤ m := by
        rcases hds with rfl | rfl
        · rw [dep_lst] at hdep; omega
        · rw [dep_tup] at hdep; omega
      refine ⟨_, (pss_cons (ps_if (pt_val (pe_callB call_isiDT (by rfl) T.n_isinstance (by decide +kernel) (pa_cons (pv 1) (pa_cons (pe_tupU (pa_cons (pe_bltn (v := .ty "list") (u := .type "list") (by rfl) T.n_list (by decide +kernel) rfl) (pa_cons (pe_bltn (v := .ty "tuple") (u := .type "tuple") (by rfl) T.n_tuple (by decide +kernel) rfl) pa_nil))) pa_nil)))) (pss_cons (ps_if (PW.pt (pw_or (pt_cmpR op_neB (pe_callB (call_isiDK (K := K) rfl) (by rfl) T.n_isinstance (by decide +kernel) (pa_cons (pv 0) (pa_cons (pe_bltn (v := .ty "list") (u := .type "list") (by rfl) T.n_list (by decide +kernel) rfl) pa_nil))) (pe_callB (call_isiDK (K := K) rfl) (by rfl) T.n_isinstance (by decide +kernel) (pa_cons (pv 1) (pa_cons (pe_bltn (v := .ty "list") (u := .type "list") (by rfl) T.n_list (by decide +kernel) rfl) pa_nil))) (nomark _)) (pw_or1 (pt_cmpR op_neB (pe_callB (call_isiDK (K := K) rfl) (by rfl) T.n_isinstance (by decide +kernel) (pa_cons (pv 0) (pa_cons (pe_bltn (v := .ty "tuple") (u := .type "tuple") (by rfl) T.n_tuple (by decide +kernel) rfl) pa_nil))) (pe_callB (call_isiDK (K := K) rfl) (by rfl) T.n_isinstance (by decide +kernel) (pa_cons (pv 1) (pa_cons (pe_bltn (v := .ty "tuple") (u := .type "tuple") (by rfl) T.n_tuple (by decide +kernel) rfl) pa_nil))) (nomark _))))) (pss_one (ps_ret pe_bl)) pss_nil)
      (pss_one (ps_ret (pe_and (pe_cmpR op_eqI (pe_callB call_lenD (by rfl) T.n_len (by decide +kernel) (pa_cons (pv 0) pa_nil)) (pe_callB call_lenD (by rfl) T.n_len (by decide +kernel) (pa_cons (pv 1) pa_nil)) (nomark _)) (pe_one (pe_callB (cr_all rfl) (by rfl) T.n_all (by decide +kernel) (pa_cons (pe_lc (own := [("one", 2), ("two", 3)]) (g := gTup K 2 (gCons (gName 2) (gCons (gName 3) (gNil)))) (tt := tYes) rfl sc__law_like.nd (RZ.pi_zipA (by rfl) T.n_zip (pa_cons (pv 0) (pa_cons (pv 1) pa_nil))) (blkOk_by (own := [("one", 2), ("two", 3)]) (N := N__law_like) (sc := defScope s__law_like) (by decide +kernel)) (fun _ _ _ _ _ => by exact (pg_tup rfl (pgs_cons (pg_name (i := 2) sc__law_like.nd rfl (Or.inl rfl)) (pgs_cons (pg_name (i := 3) sc__law_like.nd rfl (Or.inl rfl)) pgs_nil)))) (fun _ _ _ _ _ => pts_nil) (fun _ _ _ _ _ => (pe_call G__law_like hr__law_like (by rfl) T.m__law_like T.F__law_like.kp T.B__law_like .nil pass0 (pa_cons (pv 2) (pa_cons (pv 3) pa_nil))))) pa_nil))))))) pss_nil) pss_never), ?_⟩
      refine seq_op fun N hN => ?_
      clear hN
      walk_at "rs"
      refine ⟨by decide, fun p H1 s1 h0 h1 => ⟨_, p, ⟨rfl, rfl⟩, h1, _, dp_same s1 hu, iteTT (by rcases hds with rfl | rfl <;> simp [isTy]) ?_⟩⟩
      clear h1
      have hv1 := dp_same s1 hv
      have hu1 := dp_same s1 hu
      have k1 := fun H' (s : Same H1 H') => k H' (Same.trans s1 s)
      refine seq_op fun N2 hN2 => ?_
      walk_at "rs"
      refine ⟨_, "list", ⟨rfl, rfl⟩, _, hv1, by simp, _, "list", ⟨rfl, rfl⟩, _, hu1, by simp, iteFF (by simp) ?_⟩
      refine ⟨_, "tuple", ⟨rfl, rfl⟩, _, hv1, by simp, _, "tuple", ⟨rfl, rfl⟩, _, hu1, by simp, iteFF (by simp) (hN2 _ _ ?_)⟩
      clear hN2 N2
      walk_at "rs"
      have gm : ∀ (x : V) (σ0 : L2.St) (H0 : Hp) (Q0 Q1 : L2.St → Hp → Prop), (∀ σ2 H2, Q0 σ2 H2 → Q1 σ2 H2) → gTup K 2 (gCons (gName 2) (gCons (gName 3) gNil)) x σ0 H0 Q0 → gTup K 2 (gCons (gName 2) (gCons (gName 3) gNil)) x σ0 H0 Q1 :=
        fun x σ0 H0 Q0 Q1 h ⟨a, xs, e1, e2, e3, v, r, e4, v2, r2, e5, e6, q⟩ => ⟨a, xs, e1, e2, e3, v, r, e4, v2, r2, e5, e6, h _ _ q⟩
      have turn : ∀ {xs ys : List V} (hx : DpAll K H1 xs ds) (hy : DpAll K H1 ys ds) (i : Nat) (x : V) (H2 H' : Hp), Same H1 H2 → YPair (fun i => xs[i]?) (fun i => ys[i]?) i H2 x H' →
          gTup K 2 (gCons (gName 2) (gCons (gName 3) gNil)) x (wipe [some v, some u, none, none] [2, 3]) H' fun σ2 H3 => Same H2 H3 ∧ wipe σ2 [2, 3] = wipe [some v, some u, none, none] [2, 3] ∧ ∀ Q2 : V → Hp → Prop, (∀ H4, Same H3 H4 → Q2 (.bl true) H4) → tCall (sp__law_like K m) [] E0 (tCons (tVar 2) (tCons (tVar 3) tNil)) σ2 H3 Q2 := by
        rintro xs ys hx hy i x H2 H' s2 ⟨T0, y1, y2, rfl, hT, rfl, h1, h2⟩
        obtain ⟨d1, e1, hd1⟩ := dpa_get4 hx h1
        obtain ⟨d2, e2, hd2⟩ := dpa_get4 hy h2
        rw [e1] at e2
        cases e2
        have s3 := Same.trans s2 (same_upd (o := .tup [y1, y2]) hT)
        refine ⟨T0, [y1, y2], rfl, .inl (.inl upd_same), rfl, y1, [y2], rfl, y2, [], rfl, rfl, same_upd hT, rfl, fun Q2 hq => ?_⟩
        refine ⟨_, rfl, _, rfl, y1, y2, d1, rfl, dp_same s3 hd1, dp_same s3 hd2, ?_, Nat.le_trans (depAll_get e1) hdm, hq⟩
        refine ok_get4 ?_ e1
        rcases hds with rfl | rfl
        · exact (okD_lst.mp hok).2
        · exact (okD_tup.mp hok).2
      have fin : ∀ {D : Addr} {H' : Hp} {n : Nat}, Same H1 H' → H' D = some (.lst ((List.range n).map fun _ => V.bl true)) → rAll K [V.ref D] H' Q := by
        intro D H' n s h
        refine ⟨D, (List.range n).map fun _ => true, rfl, SqL.of (by rw [h, List.map_map]; rfl), ?_⟩
        rw [all_map_id]
        have e : ((List.range n).all fun _ => true) = true := by simp
        rw [e]
        exact k1 H' s
      refine ⟨_, hv1, .inl ⟨ds, hds, _, hu1, .inl ⟨ds, hds, iteTT rfl ?_⟩⟩⟩
      rcases hds with rfl | rfl
      · cases hv1 with
        | @lst a xs _ ha hda =>
          cases hu1 with
          | @lst b ys _ hb hdb =>
            have lx := dpa_len4 hda
            have ly := dpa_len4 hdb
            have small : ds.length ≤ 1000000 := Nat.le_trans (okD_lst.mp hok).1 (by decide)
            exact ⟨_, rfl, _, rfl, a, b, xs, ys, rfl, .inl ⟨ha, hb, fun D hD => lc_pure (walk_zip (n := ds.length) (by omega)) hD small (fun _ => .bl true) (fun H s => ⟨Same.seq s ha, Same.seq s hb⟩) (fun i x H2 H' _ s2 y => turn hda hdb i x H2 H' s2 y) gm fun H' s h => fin s h⟩⟩
      · cases hv1 with
        | @tup a xs _ ha hda =>
          cases hu1 with
          | @tup b ys _ hb hdb =>
            have lx := dpa_len4 hda
            have ly := dpa_len4 hdb
            have small : ds.length ≤ 1000000 := Nat.le_trans (okD_tup.mp hok).1 (by decide)
            exact ⟨_, rfl, _, rfl, a, b, xs, ys, rfl, .inr ⟨ha, hb, fun D hD => lc_pure (walk_zipT (n := ds.length) lx ly) hD small (fun _ => .bl true) (fun H s => ⟨Same.seqT s ha, Same.seqT s hb⟩) (fun i x H2 H' _ s2 y => turn hda hdb i x H2 H' s2 y) gm fun H' s h => fin s h⟩⟩
theorem ok__law_like (T : Txt w K mg) : ∀ n : Nat, FnOk P w K mg base CX0 (n + 1) T.a__law_like T.d__law_like ["got", "due"] (sp__law_like K n) := by
  intro n
  induction n with
  | zero => exact like_step T 0 fun m e => by omega
  | succ n ih =>
    refine like_step T (n + 1) fun m e => ?_
    obtain rfl : m = n := by omega
    exact ih
end
end LK

set_option Elab.async false
set_option linter.all false
set_option maxRecDepth 100000
namespace LK
open PySem PySem.Spec PyProof.Rows L2
local macro_rules | `(tactic| walk_at "rs") => `(tactic| simp only [cxK, cxNK, tCallZ, tAsg, tOp, rI0, rS0, rB0, rI, rU, tUn, rEq, rNe, rIxL, rIxT, rIxS, rSetL, rSlLU, rSlS, rSlU, rCatL, rCatU, rRepL, rIn, tVar, tC, gName, gSub, tIfS, tTest, tB, tAnd, tOr, tNot, tNotV, tAndV, tOrV, tIf, tCall, tCons, tNil, tCB, tDrop, tRet, tRetN, tNext, tLstU, tTupU, tM0, tM1, tPar, tPar3, tAug, ipI, tBM, tBM0, rAppend, rPop, tBreak, tCont, tChain, tSl, tPart, tNoPart, L2.start, List.map, List.length_cons, List.length_nil, List.replicate, List.cons_append, List.nil_append, List.append_nil, List.getElem?_cons_zero, List.getElem?_cons_succ, List.set_cons_zero, List.set_cons_succ, Option.some.injEq, V.int.injEq, V.ref.injEq, V.str.injEq, V.bl.injEq, exists_eq_left', exists_eq_left, exists_and_left, decide_eq_true_eq, List.cons.injEq, and_true, true_and, scal, Bool.not_eq_true', decide_eq_false_iff_not, Nat.zero_add, Nat.reduceAdd, Nat.reduceSub, reduceCtorEq, false_and, exists_false, false_or, or_false, CPow, CMul, CDiv, Int.reduceToNat, ↓reduceIte, wipe, sw, List.nil_append, List.singleton_append])
local macro_rules | `(tactic| walk_at "st") => `(tactic| (refine seq_op fun N hN => ?_; walk_at "rs"))
local macro_rules | `(tactic| walk_at "sd") => `(tactic| first | assumption | decide | omega)
local macro_rules | `(tactic| walk_at "rd") => `(tactic| repeat (first
  | refine ⟨_, SqL.of (by assumption), ?_⟩ | refine ⟨_, SqL.of upd_same, ?_⟩ | refine ⟨_, .inl (SqL.of (by assumption)), ?_⟩ | refine ⟨_, (by assumption : _ = some (HO.lst _)), ?_⟩ | refine ⟨_, upd_same, ?_⟩
  | refine ⟨_, rfl, ?_⟩ | refine And.intro (by walk_at "sd") ?_))

theorem okAll_mem {K : PySem.W.Frag} {G : Hp} {m : Nat} : ∀ {ys : List V}, (∀ v ∈ ys, ∃ d, Dp K G v d ∧ okD d = true ∧ dep d ≤ m) → ∃ ds, DpAll K G ys ds ∧ okAll ds = true ∧ depAll ds ≤ m ∧ ds.length = ys.length
  | [], _ => ⟨[], .nil, rfl, Nat.zero_le _, rfl⟩
  | v :: ys, h => by
    obtain ⟨d, h1, h2, h3⟩ := h v List.mem_cons_self
    obtain ⟨ds, q1, q2, q3, q4⟩ := okAll_mem (ys := ys) fun v hv => h v (List.mem_cons_of_mem _ hv)
    refine ⟨d :: ds, .cons h1 q1, ?_, Nat.max_le.mpr ⟨h3, q3⟩, by simp [q4]⟩
    unfold okAll
    rw [h2, q2]; rfl
theorem Kp.bn {b : Addr} {H H' : Hp} (k : Kp b H H') {o : HO} (h : H' b = some o) {p : Addr} (h0 : H' p = none) : H p = none := k.dom h p h0
theorem of_str {K : PySem.W.Frag} {H : Hp} {b c : Addr} (B : Bag H b c) {z : Str} (h0 : 0 < z.length) (h1 : z.length ≤ 100000) {Q : VK} {E : XK} (k : ∀ c0 H', Bag H' b c → Kp b H H' → Q (.str ⟨#[c0]⟩) H') : sp__law_of K [.ref b, .str z] H Q E := by
  have l := len_cps z
  refine ⟨b, c, .str z, _, rfl, B, .inr (.inr ⟨z, rfl, h1, rfl⟩), .inr (.inr ⟨z, rfl, h1, rfl⟩), ?_, ?_, fun y H' hy B' K' => ?_⟩
  · intro e
    have q := congrArg List.length e
    rw [List.length_map, l, List.length_nil] at q
    omega
  · rw [List.length_map]; omega
  · obtain ⟨c0, _, rfl⟩ := List.mem_map.mp hy
    exact k c0 H' B' K'
theorem of_lst {K : PySem.W.Frag} {H : Hp} {b c p : Addr} (B : Bag H b c) {ys : List V} (h : H p = some (.lst ys)) (n : p ≠ b) (ne : ys ≠ []) (hl : ys.length ≤ 1000000) {Q : VK} {E : XK} (k : ∀ y H', y ∈ ys → Bag H' b c → Kp b H H' → Q y H') : sp__law_of K [.ref b, .ref p] H Q E :=
  ⟨b, c, .ref p, ys, rfl, B, .inl ⟨p, rfl, SqL.of h⟩, .inl ⟨p, rfl, SqL.of (by rw [hb_ne n]; exact h)⟩, ne, hl, k⟩
theorem sqT_hb {K : PySem.W.Frag} {H : Hp} {b c q : Addr} {xs : List V} (B : Bag H b c) (h : SqT K H q xs) : SqT K (hb H b) q xs := by
  obtain ⟨yb, eb⟩ := B.at
  rcases h with (h | ⟨o, h⟩) | h
  · refine .inl (.inl ?_)
    rw [hb_ne]; exact h
    intro e; rw [e, eb] at h; cases h
  · refine .inl (.inr ⟨o, ?_⟩)
    rw [hb_ne]; exact h
    intro e; rw [e, eb] at h; cases h
  · exact .inr h
theorem of_new {K : PySem.W.Frag} {H H1 : Hp} {b c p : Addr} (B : Bag H b c) {L : List V} (s1 : Same H H1) (h0 : H p = none) (h1 : H1 p = some (.lst L)) (ne : L ≠ []) (hl : L.length ≤ 1000000) {Q : VK} {E : XK} (k : ∀ y H2, y ∈ L → Bag H2 b c → Kp b H H2 → Q y H2) : sp__law_of K [.ref b, .ref p] H1 Q E :=
  of_lst (B.same s1) h1 (fun e => by
    obtain ⟨xb, eb⟩ := B.at
    rw [e, eb] at h0; cases h0) ne hl fun y H2 hy B2 K2 => k y H2 hy B2 (Same.trans (Kp.of s1) K2)
/-- as before, of words -/
theorem of_newS {K : PySem.W.Frag} {H H1 : Hp} {b c p : Addr} (B : Bag H b c) (L : List Str) (s1 : Same H H1) (h0 : H p = none) (h1 : H1 p = some (.lst (L.map V.str))) (ne : L ≠ []) (hl : L.length ≤ 1000000) {m : Nat} (hm : ∀ z ∈ L, z.length ≤ m) {Q : VK} {E : XK} (k : ∀ z H2, z.length ≤ m → Bag H2 b c → Kp b H H2 → Q (.str z) H2) : sp__law_of K [.ref b, .ref p] H1 Q E :=
  of_new B s1 h0 h1 (by simpa using ne) (by rw [List.length_map]; exact hl) fun y H2 hy B2 K2 => by
    obtain ⟨z, hz, rfl⟩ := List.mem_map.mp hy
    exact k z H2 (hm z hz) B2 K2
theorem of_newR {K : PySem.W.Frag} {H H1 : Hp} {b c p : Addr} (B : Bag H b c) (L : List Str) (s1 : Same H H1) (h0 : H p = none) (h1 : H1 p = some (.lst (L.map V.str))) (ne : L ≠ []) (hl : L.length ≤ 1000000) {R : Str → Prop} (hm : ∀ z ∈ L, R z) {Q : VK} {E : XK} (k : ∀ z H2, R z → Bag H2 b c → Kp b H H2 → Q (.str z) H2) : sp__law_of K [.ref b, .ref p] H1 Q E :=
  of_new B s1 h0 h1 (by simpa using ne) (by rw [List.length_map]; exact hl) fun y H2 hy B2 K2 => by
    obtain ⟨z, hz, rfl⟩ := List.mem_map.mp hy
    exact k z H2 (hm z hz) B2 K2
theorem of_lstS {K : PySem.W.Frag} {H : Hp} {b c p : Addr} (B : Bag H b c) (L : List Str) (h : H p = some (.lst (L.map V.str))) (n : p ≠ b) (ne : L ≠ []) (hl : L.length ≤ 1000000) {m : Nat} (hm : ∀ z ∈ L, z.length ≤ m) {Q : VK} {E : XK} (k : ∀ z H', z.length ≤ m → Bag H' b c → Kp b H H' → Q (.str z) H') : sp__law_of K [.ref b, .ref p] H Q E :=
  of_lst B h n (by simpa using ne) (by rw [List.length_map]; exact hl) fun y H2 hy B2 K2 => by
    obtain ⟨z, hz, rfl⟩ := List.mem_map.mp hy
    exact k z H2 (hm z hz) B2 K2
/-- each thing in xs is a thing that can be told of -/
def Ev (K : PySem.W.Frag) (G : Hp) (xs : List V) : Prop := ∀ v ∈ xs, ∃ d, Dp K G v d ∧ okD d = true
theorem Ev.same {K : PySem.W.Frag} {G G' : Hp} {xs : List V} (s : Same G G') (h : Ev K G xs) : Ev K G' xs := fun v hv => by
  obtain ⟨d, h1, h2⟩ := h v hv
  exact ⟨d, dp_same s h1, h2⟩
theorem Ev.app {K : PySem.W.Frag} {G : Hp} {xs ys : List V} (h : Ev K G xs) (h' : Ev K G ys) : Ev K G (xs ++ ys) := fun v hv => (List.mem_append.mp hv).elim (h v) (h' v)
theorem Ev.cut {K : PySem.W.Frag} {G : Hp} {xs : List V} (h : Ev K G xs) (lo hi : Option Int) : Ev K G (cutV xs lo hi) := fun v hv => h v (List.mem_of_mem_drop (List.mem_of_mem_take hv))
theorem Ev.one {K : PySem.W.Frag} {G : Hp} {v : V} {d : PyData} (h : Dp K G v d) (ok : okD d = true) : Ev K G [v] := fun u hu => by
  obtain rfl := List.mem_singleton.mp hu
  exact ⟨d, h, ok⟩
theorem Ev.strs {K : PySem.W.Frag} {G : Hp} {ws : List Str} (h : ∀ z ∈ ws, z.length ≤ 20) : Ev K G (ws.map V.str) := fun v hv => by
  obtain ⟨z, hz, rfl⟩ := List.mem_map.mp hv
  exact ⟨.str z, .str z, decide_eq_true (Nat.le_trans (h z hz) (by decide))⟩
theorem Ev.all {K : PySem.W.Frag} {G : Hp} : ∀ {xs : List V}, Ev K G xs → ∃ ds, DpAll K G xs ds ∧ okAll ds = true ∧ ds.length = xs.length
  | [], _ => ⟨[], .nil, rfl, rfl⟩
  | v :: xs, h => by
    obtain ⟨d, h1, h2⟩ := h v List.mem_cons_self
    obtain ⟨ds, q1, q2, q3⟩ := Ev.all (xs := xs) fun v hv => h v (List.mem_cons_of_mem _ hv)
    exact ⟨d :: ds, .cons h1 q1, by unfold okAll; rw [h2, q2]; rfl, by simp [q3]⟩
theorem Ev.of {K : PySem.W.Frag} {G : Hp} : ∀ {xs : List V} {ds : List PyData}, DpAll K G xs ds → okAll ds = true → Ev K G xs ∧ xs.length = ds.length
  | _, _, .nil, _ => ⟨fun v hv => absurd hv (by simp), rfl⟩
  | _, _, .cons h q, ok => by
    unfold okAll at ok
    rw [Bool.and_eq_true] at ok
    obtain ⟨e, l⟩ := Ev.of q ok.2
    exact ⟨fun v hv => (List.mem_cons.mp hv).elim (fun z => by rw [z]; exact ⟨_, h, ok.1⟩) (e v), by simp [l]⟩
theorem seqT_kp {K : PySem.W.Frag} {H H' : Hp} {b c q : Addr} {xs : List V} (B : Bag H b c) (k : Kp b H H') (h : SqT K H q xs) : SqT K H' q xs := Same.seqT (hb_le H' b) (Same.seqT k (sqT_hb B h))
theorem cut1_le (xs : List V) {i : Int} (h : 0 ≤ i) : (cutV xs (some i) (some (i + 1))).length ≤ 1 := by
  obtain ⟨j, rfl⟩ := Int.eq_ofNat_of_zero_le h
  unfold cutV
  rw [List.length_take, HT.sIx_nat, show ((j : Int) + 1) = ((j + 1 : Nat) : Int) from rfl, HT.sIx_nat]
  omega
theorem Kp.keep {b p : Addr} {H1 H2 : Hp} {o : HO} (k : Kp b H1 H2) (n : p ≠ b) (h : H1 p = some o) : H2 p = some o := k.hd h n
theorem new_ne {b c p : Addr} {H : Hp} (B : Bag H b c) (h0 : H p = none) : p ≠ b := fun e => by
  obtain ⟨xb, eb⟩ := B.at
  rw [e, eb] at h0; cases h0
theorem rep_strs (n : Nat) (z : Str) : (List.replicate n [V.str z]).flatten = (List.replicate n z).map V.str := by
  induction n with
  | zero => rfl
  | succ n ih => rw [List.replicate_succ, List.flatten_cons, ih, List.replicate_succ]; rfl
theorem rep_short {n m : Nat} {z : Str} (h : z.length ≤ m) : ∀ y ∈ List.replicate n z, y.length ≤ m := fun y hy => by
  rw [(List.mem_replicate.mp hy).2]; exact h
end LK

set_option Elab.async false
set_option linter.all false
set_option maxRecDepth 100000
namespace LK
open PySem PySem.Spec PyProof.Rows L2
local macro_rules | `(tactic| walk_at "rs") => `(tactic| simp only [cxK, cxNK, tCallZ, tAsg, tOp, rI0, rS0, rB0, rI, rU, tUn, rEq, rNe, rIxL, rIxT, rIxS, rSetL, rSlLU, rSlS, rSlU, rCatL, rCatU, rRepL, rIn, tVar, tC, gName, gSub, tIfS, tTest, tB, tAnd, tOr, tNot, tNotV, tAndV, tOrV, tIf, tCall, tCons, tNil, tCB, tDrop, tRet, tRetN, tNext, tLstU, tTupU, tM0, tM1, tPar, tPar3, tAug, ipI, tBM, tBM0, rAppend, rPop, tBreak, tCont, tChain, tSl, tPart, tNoPart, L2.start, List.map, List.length_cons, List.length_nil, List.replicate, List.cons_append, List.nil_append, List.append_nil, List.getElem?_cons_zero, List.getElem?_cons_succ, List.set_cons_zero, List.set_cons_succ, Option.some.injEq, V.int.injEq, V.ref.injEq, V.str.injEq, V.bl.injEq, exists_eq_left', exists_eq_left, exists_and_left, decide_eq_true_eq, List.cons.injEq, and_true, true_and, scal, Bool.not_eq_true', decide_eq_false_iff_not, Nat.zero_add, Nat.reduceAdd, Nat.reduceSub, reduceCtorEq, false_and, exists_false, false_or, or_false, CPow, CMul, CDiv, Int.reduceToNat, ↓reduceIte, wipe, sw, List.nil_append, List.singleton_append])
local macro_rules | `(tactic| walk_at "st") => `(tactic| (refine seq_op fun N hN => ?_; walk_at "rs"))
local macro_rules | `(tactic| walk_at "sd") => `(tactic| first | assumption | decide | omega)
local macro_rules | `(tactic| walk_at "rd") => `(tactic| repeat (first
  | refine ⟨_, SqL.of (by assumption), ?_⟩ | refine ⟨_, SqL.of upd_same, ?_⟩ | refine ⟨_, .inl (SqL.of (by assumption)), ?_⟩ | refine ⟨_, (by assumption : _ = some (HO.lst _)), ?_⟩ | refine ⟨_, upd_same, ?_⟩
  | refine ⟨_, rfl, ?_⟩ | refine And.intro (by walk_at "sd") ?_))

def ord3 (p q r s : Int) : Int := (if 0 < p * s - r * q then 1 else 0) - (if p * s - r * q < 0 then 1 else 0)
section
variable {P : Program} {w : World} {K : PySem.W.Frag} {mg : Str → Option Value} {base : Heap}
theorem ok__law_order (T : Txt w K mg) : FnOk P w K mg base CX0 1 T.a__law_order T.d__law_order ["one", "two"] (fun vs H Q _ => ∃ (a b : Addr) (p q r s : Int), vs = [.ref a, .ref b] ∧ Pr K H a p q ∧ Pr K H b r s ∧ p.natAbs < 2 ^ 4000 ∧ q.natAbs < 2 ^ 4000 ∧ r.natAbs < 2 ^ 4000 ∧ s.natAbs < 2 ^ 4000 ∧ Q (.int (ord3 p q r s)) H) := by
  refine T.F__law_order.ok sc__law_order (fun vs H Q E h => ?_) (fun cdv A outer s H vs Q E hr h => ?_)
  · obtain ⟨a, b, p, q, r, s', rfl, _⟩ := h
    rfl
  · obtain ⟨a, b, p, q, r, s', rfl, ha, hb, lp, lq, lr, ls, k⟩ := h
    refine ⟨_, (pss_cons (ps_set (i := 2) sc__law_order.nd rfl (Or.inl rfl) (pe_op op_sub (pe_op op_mulW (pe_ix ix_tup (pv 0) pe_int (fun _ _ => rfl)) (pe_ix ix_tup (pv 1) pe_int (fun _ _ => rfl))) (pe_op op_mulW (pe_ix ix_tup (pv 1) pe_int (fun _ _ => rfl)) (pe_ix ix_tup (pv 0) pe_int (fun _ _ => rfl)))))
      (pss_one (ps_ret (pe_op op_sub (pe_callTy call_int1 (by rfl) T.n_int (by decide +kernel) (pa_cons (pe_cmpR op_gt (pv 2) pe_int (nomark _)) pa_nil)) (pe_callTy call_int1 (by rfl) T.n_int (by decide +kernel) (pa_cons (pe_cmpR op_lt (pv 2) pe_int (nomark _)) pa_nil)))))), ?_⟩
    refine seq_op fun N hN => ?_
    walk_at "rs"
    refine ⟨_, ha, _, rfl, _, hb, _, rfl, _, rfl, _, rfl, mulW lp ls, _, hb, _, rfl, _, ha, _, rfl, _, rfl, _, rfl, mulW lr lq, hN _ _ ?_⟩
    clear hN N
    walk_at "rs"
    exact k
def numOk (n : Int) : Prop := n.natAbs < 2 ^ 64
theorem ok__law_number (T : Txt w K mg) : FnOk P w K mg base CX0 3 T.a__law_number T.d__law_number ["bag"] (fun vs H Q _ => ∃ (b c : Addr), vs = [.ref b] ∧ Bag H b c ∧ ∀ (n : Int) H', numOk n → Bag H' b c → Kp b H H' → Q (.int n) H') := by
  refine T.F__law_number.ok sc__law_number (fun vs H Q E h => ?_) (fun cdv A outer s H vs Q E hr h => ?_)
  · obtain ⟨b, c, rfl, _⟩ := h
    rfl
  · obtain ⟨b, c, rfl, B, k⟩ := h
    have hr__law_draw : Room 1 _ := hr.mono (by decide)
    have G__law_draw := ok__law_draw (P := P) (base := base) T
    have hr__law_of : Room 2 _ := hr.mono (by decide)
    have G__law_of := ok__law_of (P := P) (base := base) T
    refine ⟨_, (pss_cons (ps_set (i := 1) sc__law_number.nd rfl (Or.inl rfl) (pe_op op_add (pe_op op_add (pe_op op_mulW (pe_call G__law_draw hr__law_draw (by rfl) T.m__law_draw T.F__law_draw.kp T.B__law_draw .nil pass0 (pa_cons (pv 0) (pa_cons (pe_op op_pow pe_int pe_int) pa_nil))) (pe_op op_pow pe_int pe_int)) (pe_op op_mulW (pe_call G__law_draw hr__law_draw (by rfl) T.m__law_draw T.F__law_draw.kp T.B__law_draw .nil pass0 (pa_cons (pv 0) (pa_cons (pe_op op_pow pe_int pe_int) pa_nil))) (pe_op op_pow pe_int pe_int))) (pe_call G__law_draw hr__law_draw (by rfl) T.m__law_draw T.F__law_draw.kp T.B__law_draw .nil pass0 (pa_cons (pv 0) (pa_cons (pe_op op_pow pe_int pe_int) pa_nil)))))
      (pss_cons (ps_set (i := 2) sc__law_number.nd rfl (Or.inl rfl) (pe_call G__law_draw hr__law_draw (by rfl) T.m__law_draw T.F__law_draw.kp T.B__law_draw .nil pass0 (pa_cons (pv 0) (pa_cons pe_int pa_nil))))
      (pss_one (ps_ret (pe_call G__law_of hr__law_of (by rfl) T.m__law_of T.F__law_of.kp T.B__law_of .nil pass0 (pa_cons (pv 0) (pa_cons (pe_lstU (pa_cons pe_int (pa_cons pe_int (pa_cons (pv 2) (pa_cons (pe_op op_sub pe_int (pv 2)) (pa_cons (pv 1) (pa_cons (pe_op op_sub pe_int (pv 1)) (pa_cons (pe_op op_sub (pe_op op_pow pe_int pe_int) pe_int) (pa_cons (pe_op op_sub pe_int (pe_op op_pow pe_int pe_int)) (pa_cons pe_int (pa_cons pe_int (pa_cons (pe_op op_mulW (pv 2) pe_int) (pa_cons pe_int (pa_cons (pe_un un_neg pe_int) (pa_cons (pv 2) pa_nil))))))))))))))) pa_nil))))))), ?_⟩
    refine seq_op fun N hN => ?_
    walk_at "rs"
    have p6 : (0 : Int) ≤ 6 ∧ (6 : Int) ≤ 1000000 ∧ Int.natAbs 10 < 2 ^ 64 := by decide
    have p12 : (0 : Int) ≤ 12 ∧ (12 : Int) ≤ 1000000 ∧ Int.natAbs 10 < 2 ^ 64 := by decide
    have cm : ∀ {i j : Int}, 0 ≤ i → i < 10 ^ 6 → j.natAbs < 2 ^ 40 → CMulW i j := fun h0 h1 hj => wide_mul (a := 20) (b := 40) (by omega) hj (by decide) (by decide) (by decide)
    refine ⟨p6, b, c, 10 ^ 6, rfl, B, by decide, by decide, fun r1 H1 r10 r11 B1 K1 => ⟨p12, r1, rfl, cm r10 r11 (by decide), p6, b, c, 10 ^ 6, rfl, B1, by decide, by decide, fun r2 H2 r20 r21 B2 K2 => ⟨p6, r2, rfl, cm r20 r21 (by decide), p6, b, c, 10 ^ 6, rfl, B2, by decide, by decide, fun r3 H3 r30 r31 B3 K3 => ?_⟩⟩⟩
    refine ⟨r3, rfl, hN _ _ ?_⟩
    clear hN N
    obtain ⟨far, hfar, f0, f1⟩ : ∃ far : Int, r1 * 10 ^ 12 + r2 * 10 ^ 6 + r3 = far ∧ 0 ≤ far ∧ far < 10 ^ 18 := ⟨_, rfl, by omega, by omega⟩
    have K03 : Kp b H H3 := Same.trans K1 (Same.trans K2 K3)
    refine seq_op fun N hN => ?_
    walk_at "rs"
    refine ⟨b, c, 200, rfl, B3, by decide, by decide, fun near H4 n0 n1 B4 K4 => hN _ _ ?_⟩
    clear hN N
    walk_at "rs"
    rw [hfar]
    refine ⟨⟨by decide, by decide, by decide⟩, ⟨by decide, by decide, by decide⟩, wide_mul (a := 8) (b := 4) (by omega) (by decide) (by decide) (by decide) (by decide), by decide, fun p H5 s5 h05 h5 => of_new B4 s5 h05 h5 (by simp) (by simp) fun y H6 hy B6 K6 => ?_⟩
    obtain ⟨n, rfl, hn⟩ : ∃ n, y = .int n ∧ numOk n := by
      unfold numOk
      simp only [List.mem_cons, List.mem_nil_iff, or_false] at hy
      rcases hy with rfl | rfl | rfl | rfl | rfl | rfl | rfl | rfl | rfl | rfl | rfl | rfl | rfl | rfl <;> exact ⟨_, rfl, by omega⟩
    exact k n H6 hn B6 (Same.trans K03 (Same.trans K4 K6))
theorem fr_spec (p : Int) {q : Int} (h : q ≠ 0) : frP p q * frG p q = p ∧ frQ p q * frG p q = q ∧ 1 ≤ frQ p q ∧ Nat.gcd (frP p q).natAbs (frQ p q).natAbs = 1 ∧ (frP p q).natAbs ≤ p.natAbs ∧ (frQ p q).natAbs ≤ q.natAbs ∧ frG p q ≠ 0 := by
  have g0 : Nat.gcd p.natAbs q.natAbs ≠ 0 := fun z => h (by have := Nat.eq_zero_of_gcd_eq_zero_right z; omega)
  have ga : (frG p q).natAbs = Nat.gcd p.natAbs q.natAbs := by unfold frG; split <;> omega
  have gs : (0 < q ∧ 0 < frG p q) ∨ (q < 0 ∧ frG p q < 0) := by unfold frG; split <;> omega
  have gn : frG p q ≠ 0 := by omega
  have d1 : frG p q ∣ p := Int.natAbs_dvd_natAbs.mp (by rw [ga]; exact Nat.gcd_dvd_left _ _)
  have d2 : frG p q ∣ q := Int.natAbs_dvd_natAbs.mp (by rw [ga]; exact Nat.gcd_dvd_right _ _)
  obtain ⟨a, ea⟩ := d1
  obtain ⟨b, eb⟩ := d2
  have pa : frP p q = a := by
    unfold frP
    generalize frG p q = G at ea gn
    rw [ea, Int.mul_comm]
    exact Int.mul_fdiv_cancel _ gn
  have qb : frQ p q = b := by
    unfold frQ
    generalize frG p q = G at eb gn
    rw [eb, Int.mul_comm]
    exact Int.mul_fdiv_cancel _ gn
  rw [pa, qb]
  have na : p.natAbs = a.natAbs * Nat.gcd p.natAbs q.natAbs := by
    rw [← ga, ← Int.natAbs_mul, Int.mul_comm]; exact congrArg Int.natAbs ea
  have nb : q.natAbs = b.natAbs * Nat.gcd p.natAbs q.natAbs := by
    rw [← ga, ← Int.natAbs_mul, Int.mul_comm]; exact congrArg Int.natAbs eb
  have hg : Nat.gcd a.natAbs b.natAbs = 1 := by
    have e : Nat.gcd (a.natAbs * Nat.gcd p.natAbs q.natAbs) (b.natAbs * Nat.gcd p.natAbs q.natAbs) = Nat.gcd p.natAbs q.natAbs := by rw [← na, ← nb]
    rw [Nat.gcd_mul_right] at e
    exact Nat.eq_of_mul_eq_mul_right (Nat.pos_of_ne_zero g0) (by rw [e, Nat.one_mul])
  refine ⟨by rw [Int.mul_comm]; exact ea.symm, by rw [Int.mul_comm]; exact eb.symm, ?_, hg, ?_, ?_, gn⟩
  · generalize frG p q = G at eb gs
    rcases Int.lt_trichotomy b 0 with c | c | c
    · rcases gs with ⟨h1, h2⟩ | ⟨h1, h2⟩
      · have := Int.mul_neg_of_pos_of_neg h2 c; omega
      · have := Int.mul_pos_of_neg_of_neg h2 c; omega
    · rw [c, Int.mul_zero] at eb; omega
    · omega
  · rw [na]; exact Nat.le_mul_of_pos_right _ (Nat.pos_of_ne_zero g0)
  · rw [nb]; exact Nat.le_mul_of_pos_right _ (Nat.pos_of_ne_zero g0)
theorem pow_le {n a b : Nat} (h : n < 2 ^ a) (hab : a ≤ b) : n < 2 ^ b := Nat.lt_of_lt_of_le h (Nat.pow_le_pow_right (by decide) hab)
def sp_fr (K : PySem.W.Frag) : Sp := fun vs H Q _ => ∃ (b c : Addr), vs = [.ref b] ∧ Bag H b c ∧ ∀ (t : Addr) (p q : Int) H', 1 ≤ q → Nat.gcd p.natAbs q.natAbs = 1 → p.natAbs < 2 ^ 64 → q.natAbs < 2 ^ 64 → H t = none → H' t = some (.tup [.int p, .int q]) → Bag H' b c → Kp b H H' → Q (.ref t) H'
theorem ok__law_some (T : Txt w K mg) : FnOk P w K mg base CX0 4 T.a__law_some T.d__law_some ["bag"] (sp_fr K) := by
  refine T.F__law_some.ok sc__law_some (fun vs H Q E h => ?_) (fun cdv A outer s H vs Q E hr h => ?_)
  · obtain ⟨b, c, rfl, _⟩ := h
    rfl
  · obtain ⟨b, c, rfl, B, k⟩ := h
    have hr__law_low : Room 1 _ := hr.mono (by decide)
    have G__law_low := ok__law_low (P := P) (base := base) T
    have hr__law_number : Room 3 _ := hr.mono (by decide)
    have G__law_number := ok__law_number (P := P) (base := base) T
    refine ⟨_, (pss_one (ps_ret (pe_call G__law_low hr__law_low (by rfl) T.m__law_low T.F__law_low.kp T.B__law_low .nil pass0 (pa_cons (pe_call G__law_number hr__law_number (by rfl) T.m__law_number T.F__law_number.kp T.B__law_number .nil pass0 (pa_cons (pv 0) pa_nil)) (pa_cons (pe_callB (call_max2 rfl) (by rfl) T.n_max (by decide +kernel) (pa_cons pe_int (pa_cons (pe_callB call_abs (by rfl) T.n_abs (by decide +kernel) (pa_cons (pe_call G__law_number hr__law_number (by rfl) T.m__law_number T.F__law_number.kp T.B__law_number .nil pass0 (pa_cons (pv 0) pa_nil)) pa_nil)) pa_nil))) pa_nil))))), ?_⟩
    walk_at "rs"
    refine ⟨c, B, fun n H1 hn B1 K1 => ⟨c, B1, fun m H2 hm B2 K2 => ⟨_, _, ⟨rfl, rfl⟩, _, _, ⟨rfl, rfl⟩, ?_⟩⟩⟩
    obtain ⟨q, eq, q1, hq⟩ : ∃ q : Int, (if (if m < 0 then -m else m) > 1 then (if m < 0 then -m else m) else 1) = q ∧ 1 ≤ q ∧ numOk q := by
      refine ⟨_, rfl, ?_, ?_⟩
      · split <;> omega
      · unfold numOk at hm ⊢
        split <;> split <;> omega
    rw [eq]
    obtain ⟨e1, e2, e3, e4, e5, e6, _⟩ := fr_spec n (q := q) (by omega)
    refine ⟨by omega, pow_le (a := 64) hn (by decide), pow_le (a := 64) hq (by decide), fun t H3 s3 h03 h3 => ?_⟩
    obtain ⟨xb, eb⟩ := B.at
    exact k t _ _ H3 e3 e4 (Nat.lt_of_le_of_lt e5 hn) (Nat.lt_of_le_of_lt e6 hq) (Kp.dom K1 B1.at.choose_spec t (Kp.dom K2 B2.at.choose_spec t h03)) h3 (B2.same s3) (Same.trans K1 (Same.trans K2 (Kp.of s3)))
/-- two fractions, in the second and the third slot -/
def Pa (K : PySem.W.Frag) (b c : Addr) (H0 : Hp) (way : V) (σ : L2.St) (H : Hp) : Prop := ∃ (u v : Addr) (p q r s : Int), σ = [some (.ref b), some (.ref u), some (.ref v), some way] ∧ Pr K H u p q ∧ Pr K H v r s ∧ (1 ≤ q ∧ Nat.gcd p.natAbs q.natAbs = 1 ∧ p.natAbs < 2 ^ 64 ∧ q.natAbs < 2 ^ 64) ∧ (1 ≤ s ∧ Nat.gcd r.natAbs s.natAbs = 1 ∧ r.natAbs < 2 ^ 64 ∧ s.natAbs < 2 ^ 64) ∧ Bag H b c ∧ Kp b H0 H
theorem abs_div (p : Int) {q : Int} (h : 1 ≤ q) : (p.fdiv q).natAbs ≤ p.natAbs := by
  rw [Int.fdiv_eq_ediv_of_nonneg p (by omega)]
  exact Int.natAbs_ediv_le_natAbs p q
/-- two of them -/
theorem ok__law_pair (T : Txt w K mg) : FnOk P w K mg base CX0 5 T.a__law_pair T.d__law_pair ["bag"] (fun vs H Q _ => ∃ (b c : Addr), vs = [.ref b] ∧ Bag H b c ∧ ∀ (t u v : Addr) (p q r s : Int) H', 1 ≤ q → Nat.gcd p.natAbs q.natAbs = 1 → p.natAbs < 2 ^ 64 → q.natAbs < 2 ^ 64 → 1 ≤ s → Nat.gcd r.natAbs s.natAbs = 1 → r.natAbs < 2 ^ 64 → s.natAbs < 2 ^ 64 →
    H' t = some (.lst [.ref u, .ref v]) → t ≠ b → Pr K H' u p q → Pr K H' v r s → Bag H' b c → Kp b H H' → Q (.ref t) H') := by
  refine T.F__law_pair.ok sc__law_pair (fun vs H Q E h => ?_) (fun cdv A outer s H vs Q E hr h => ?_)
  · obtain ⟨b, c, rfl, _⟩ := h
    rfl
  · obtain ⟨b, c, rfl, B, k⟩ := h
    have hr__law_low : Room 1 _ := hr.mono (by decide)
    have G__law_low := ok__law_low (P := P) (base := base) T
    have hr__law_number : Room 3 _ := hr.mono (by decide)
    have G__law_number := ok__law_number (P := P) (base := base) T
    have hr__law_some : Room 4 _ := hr.mono (by decide)
    have G__law_some := ok__law_some (P := P) (base := base) T
    have hr__law_draw : Room 1 _ := hr.mono (by decide)
    have G__law_draw := ok__law_draw (P := P) (base := base) T
    refine ⟨_, (pss_cons (ps_par3 (i := 1) (j := 2) (l := 3) (by rfl) sc__law_pair.nd rfl rfl rfl (by decide) (by decide) (by decide) rfl rfl rfl (pa_cons (pe_call G__law_some hr__law_some (by rfl) T.m__law_some T.F__law_some.kp T.B__law_some .nil pass0 (pa_cons (pv 0) pa_nil)) (pa_cons (pe_call G__law_some hr__law_some (by rfl) T.m__law_some T.F__law_some.kp T.B__law_some .nil pass0 (pa_cons (pv 0) pa_nil)) (pa_cons (pe_call G__law_draw hr__law_draw (by rfl) T.m__law_draw T.F__law_draw.kp T.B__law_draw .nil pass0 (pa_cons (pv 0) (pa_cons pe_int pa_nil))) pa_nil))) (by rfl))
      (pss_cons (ps_if (pt_cmpR op_eqI (pv 3) pe_int (nomark _)) (pss_one (ps_set (i := 2) sc__law_pair.nd rfl (Or.inl rfl) (pv 1))) pss_nil)
      (pss_cons (ps_if (pt_cmpR op_eqI (pv 3) pe_int (nomark _)) (pss_one (ps_set (i := 2) sc__law_pair.nd rfl (Or.inl rfl) (pe_tupU (pa_cons (pe_op op_sub pe_int (pe_ix ix_tup (pv 1) pe_int (fun _ _ => rfl))) (pa_cons (pe_ix ix_tup (pv 1) pe_int (fun _ _ => rfl)) pa_nil))))) pss_nil)
      (pss_cons (ps_if (pt_cmpR op_eqI (pv 3) pe_int (nomark _)) (pss_one (ps_set (i := 2) sc__law_pair.nd rfl (Or.inl rfl) (pe_call G__law_low hr__law_low (by rfl) T.m__law_low T.F__law_low.kp T.B__law_low .nil pass0 (pa_cons (pe_call G__law_number hr__law_number (by rfl) T.m__law_number T.F__law_number.kp T.B__law_number .nil pass0 (pa_cons (pv 0) pa_nil)) (pa_cons (pe_ix ix_tup (pv 1) pe_int (fun _ _ => rfl)) pa_nil))))) pss_nil)
      (pss_cons (ps_if (pt_cmpR op_eqI (pv 3) pe_int (nomark _)) (pss_one (ps_set (i := 2) sc__law_pair.nd rfl (Or.inl rfl) (pe_tupU (pa_cons (pe_op op_fdivF (pe_ix ix_tup (pv 1) pe_int (fun _ _ => rfl)) (pe_ix ix_tup (pv 1) pe_int (fun _ _ => rfl))) (pa_cons pe_int pa_nil))))) pss_nil)
      (pss_cons (ps_if (pt_cmpR op_eqI (pv 3) pe_int (nomark _)) (pss_one (ps_set (i := 2) sc__law_pair.nd rfl (Or.inl rfl) (pe_tupU (pa_cons pe_int (pa_cons pe_int pa_nil))))) pss_nil)
      (pss_one (ps_ret (pe_lstU (pa_cons (pv 1) (pa_cons (pv 2) pa_nil))))))))))), ?_⟩
    refine seq_op fun N hN => ?_
    walk_at "rs"
    refine ⟨b, c, rfl, B, fun u p q H1 q1 hg lp lq h0 h1 B1 K1 => ⟨b, c, rfl, B1, fun v r s' H2 s1 hg2 lr ls g0 g1 B2 K2 => ⟨b, c, 7, rfl, B2, by decide, by decide, fun way H3 w0 w1 B3 K3 => ⟨_, _, _, ⟨rfl, rfl, rfl⟩, hN _ _ ?_⟩⟩⟩⟩
    clear hN N
    have P0 : Pa K b c H (.int way) [some (.ref b), some (.ref u), some (.ref v), some (.int way)] H3 := ⟨u, v, p, q, r, s', rfl, seqT_kp B1 (Same.trans K2 K3) (.inl (.inl h1)), seqT_kp B2 K3 (.inl (.inl g1)), ⟨q1, hg, lp, lq⟩, ⟨s1, hg2, lr, ls⟩, B3, Same.trans K1 (Same.trans K2 K3)⟩
    revert P0
    generalize ([some (.ref b), some (.ref u), some (.ref v), some (.int way)] : L2.St) = σ0
    intro P0
    refine cut_seq (Pa K b c H (.int way)) (fun N hN => ?_) fun σ H4 P4 => ?_
    · obtain ⟨u, v, p, q, r, s', rfl, hu, hv, cu, cv, B4, K4⟩ := P0
      refine if_any (fun Kc hK => by walk_at "rs"; exact hK _) ?_ ?_
      · walk_at "rs"
        exact hN _ _ ⟨u, u, p, q, p, q, rfl, hu, hu, cu, cu, B4, K4⟩
      · walk_at "rs"
        exact hN _ _ ⟨u, v, p, q, r, s', rfl, hu, hv, cu, cv, B4, K4⟩
    clear P0
    refine cut_seq (Pa K b c H (.int way)) (fun N hN => ?_) fun σ2 H5 P5 => ?_
    · obtain ⟨u, v, p, q, r, s', rfl, hu, hv, cu, cv, B4, K4⟩ := P4
      refine if_any (fun Kc hK => by walk_at "rs"; exact hK _) ?_ ?_
      · walk_at "rs"
        refine ⟨_, hu, _, rfl, p, rfl, _, hu, _, rfl, by decide, fun t H5 s5 h05 h5 => hN _ _ ⟨u, t, p, q, 0 - p, q, rfl, Same.seqT s5 hu, .inl (.inl h5), cu, ⟨cu.1, ?_, ?_, cu.2.2.2⟩, B4.same s5, Same.trans K4 (Kp.of s5)⟩⟩
        · rw [Int.zero_sub, Int.natAbs_neg]; exact cu.2.1
        · rw [Int.zero_sub, Int.natAbs_neg]; exact cu.2.2.1
      · walk_at "rs"
        exact hN _ _ ⟨u, v, p, q, r, s', rfl, hu, hv, cu, cv, B4, K4⟩
    clear P4
    refine cut_seq (Pa K b c H (.int way)) (fun N hN => ?_) fun σ3 H6 P6 => ?_
    · obtain ⟨u, v, p, q, r, s', rfl, hu, hv, cu, cv, B4, K4⟩ := P5
      refine if_any (fun Kc hK => by walk_at "rs"; exact hK _) ?_ ?_
      · walk_at "rs"
        refine ⟨c, B4, fun n H6 hn B6 K6 => ?_⟩
        have hu6 := seqT_kp B4 K6 hu
        obtain ⟨e1, e2, e3, e4, e5, e6, _⟩ := fr_spec n (q := q) (by omega)
        refine ⟨_, hu6, _, rfl, n, q, ⟨rfl, rfl⟩, by omega, pow_le (a := 64) hn (by decide), pow_le (a := 64) cu.2.2.2 (by decide), fun t H7 s7 h07 h7 => hN _ _ ⟨u, t, p, q, frP n q, frQ n q, rfl, Same.seqT s7 hu6, .inl (.inl h7), cu, ⟨e3, e4, Nat.lt_of_le_of_lt e5 hn, Nat.lt_of_le_of_lt e6 cu.2.2.2⟩, B6.same s7, Same.trans K4 (Same.trans K6 (Kp.of s7))⟩⟩
      · walk_at "rs"
        exact hN _ _ ⟨u, v, p, q, r, s', rfl, hu, hv, cu, cv, B4, K4⟩
    clear P5
    refine cut_seq (Pa K b c H (.int way)) (fun N hN => ?_) fun σ4 H7 P7 => ?_
    · obtain ⟨u, v, p, q, r, s', rfl, hu, hv, cu, cv, B4, K4⟩ := P6
      refine if_any (fun Kc hK => by walk_at "rs"; exact hK _) ?_ ?_
      · walk_at "rs"
        refine ⟨_, hu, _, rfl, _, hu, _, rfl, p, rfl, q, rfl, ⟨by omega, logL cu.2.2.2 (by decide) (by decide)⟩, by decide, fun t H5 s5 h05 h5 => hN _ _ ⟨u, t, p, q, p.fdiv q, 1, rfl, Same.seqT s5 hu, .inl (.inl h5), cu, ⟨by decide, Nat.gcd_one_right _, Nat.lt_of_le_of_lt (abs_div p cu.1) cu.2.2.1, by decide⟩, B4.same s5, Same.trans K4 (Kp.of s5)⟩⟩
      · walk_at "rs"
        exact hN _ _ ⟨u, v, p, q, r, s', rfl, hu, hv, cu, cv, B4, K4⟩
    clear P6
    refine cut_seq (Pa K b c H (.int way)) (fun N hN => ?_) fun σ5 H8 P8 => ?_
    · obtain ⟨u, v, p, q, r, s', rfl, hu, hv, cu, cv, B4, K4⟩ := P7
      refine if_any (fun Kc hK => by walk_at "rs"; exact hK _) ?_ ?_
      · walk_at "rs"
        refine ⟨by decide, fun t H5 s5 h05 h5 => hN _ _ ⟨u, t, p, q, 0, 1, rfl, Same.seqT s5 hu, .inl (.inl h5), cu, ⟨by decide, by decide, by decide, by decide⟩, B4.same s5, Same.trans K4 (Kp.of s5)⟩⟩
      · walk_at "rs"
        exact hN _ _ ⟨u, v, p, q, r, s', rfl, hu, hv, cu, cv, B4, K4⟩
    obtain ⟨u, v, p, q, r, s', rfl, hu, hv, ⟨c1, c2, c3, c4⟩, ⟨d1, d2, d3, d4⟩, B4, K4⟩ := P8
    walk_at "rs"
    refine ⟨by decide, fun t H9 s9 h09 h9 => k t u v p q r s' H9 c1 c2 c3 c4 d1 d2 d3 d4 h9 (new_ne B4 h09) (Same.seqT s9 hu) (Same.seqT s9 hv) (B4.same s9) (Same.trans K4 (Kp.of s9))⟩
theorem eqv_pair (p q r s : Int) : PyData.eqv (.tuple [.int p, .int q]) (.tuple [.int r, .int s]) = (decide (p = r) && decide (q = s)) := by
  simp [PyData.eqv, PyData.eqvAll]
  rfl
theorem fr_low {p q : Int} (h : 1 ≤ q) (hg : Nat.gcd p.natAbs q.natAbs = 1) : frP p q = p ∧ frQ p q = q := by
  have e : frG p q = 1 := by unfold frG; rw [hg, if_neg (by omega)]; rfl
  obtain ⟨h1, h2, _⟩ := fr_spec p (q := q) (by omega)
  rw [e, Int.mul_one] at h1 h2
  exact ⟨h1, h2⟩
/-- what the exact test tells -/
def isExact (d : PyData) (top low : Int) : Bool := match d with
  | .tuple [.int p, .int q] => decide (1 ≤ q) && (decide (Nat.gcd p.natAbs q.natAbs = 1) && decide (p * low = top * q))
  | _ => false
theorem ok__law_exact (T : Txt w K mg) : FnOk P w K mg base CX0 2 T.a__law_exact T.d__law_exact ["got", "top", "low"] (fun vs H Q _ => ∃ (a : Addr) (p q t l : Int), vs = [.ref a, .int t, .int l] ∧ Pr K H a p q ∧ 1 ≤ q ∧ Nat.gcd p.natAbs q.natAbs = 1 ∧ p * l = t * q ∧ p.natAbs < 2 ^ 4000 ∧ q.natAbs < 2 ^ 4000 ∧ t.natAbs < 2 ^ 4000 ∧ l.natAbs < 2 ^ 4000 ∧ ∀ H', Same H H' → Q (.bl true) H') := by
  refine T.F__law_exact.ok sc__law_exact (fun vs H Q E h => ?_) (fun cdv A outer s H vs Q E hr h => ?_)
  · obtain ⟨a, p, q, t, l, rfl, _⟩ := h
    rfl
  · obtain ⟨a, p, q, t, l, rfl, ha, q1, hg, he, lp, lq, lt, ll, k⟩ := h
    have hr__law_low : Room 1 _ := hr.mono (by decide)
    have G__law_low := ok__law_low (P := P) (base := base) T
    refine ⟨_, (pss_cons (ps_if (PW.pt (pw_or (pt_not (pt_val (pe_callB (call_isiDK (K := K) rfl) (by rfl) T.n_isinstance (by decide +kernel) (pa_cons (pv 0) (pa_cons (pe_bltn (v := .ty "tuple") (u := .type "tuple") (by rfl) T.n_tuple (by decide +kernel) rfl) pa_nil))))) (pw_or1 (pt_cmpR op_neI (pe_callB call_len_seq (by rfl) T.n_len (by decide +kernel) (pa_cons (pv 0) pa_nil)) pe_int (nomark _))))) (pss_one (ps_ret pe_bl)) pss_nil)
      (pss_cons (ps_for PassesOwn.never rfl (pi_tup (pv 0)) (pg_name (i := 3) sc__law_exact.nd rfl (Or.inl rfl)) (pss_one (ps_if (PW.pt (pw_or (pt_not (pt_val (pe_callB (call_isiDK (K := K) rfl) (by rfl) T.n_isinstance (by decide +kernel) (pa_cons (pv 3) (pa_cons (pe_bltn (v := .ty "int") (u := .type "int") (by rfl) T.n_int (by decide +kernel) rfl) pa_nil))))) (pw_or1 (pt_val (pe_callB (call_isiDK (K := K) rfl) (by rfl) T.n_isinstance (by decide +kernel) (pa_cons (pv 3) (pa_cons (pe_bltn (v := .ty "bool") (u := .type "bool") (by rfl) T.n_bool (by decide +kernel) rfl) pa_nil))))))) (pss_one (ps_ret pe_bl)) pss_nil)))
      (pss_one (ps_ret (pe_and (pe_cmpR op_ge (pe_ix ix_tup (pv 0) pe_int (fun _ _ => rfl)) pe_int (nomark _)) (pe_and (pe_cmpR (op_eqD hr.units) (pe_call G__law_low hr__law_low (by rfl) T.m__law_low T.F__law_low.kp T.B__law_low .nil pass0 (pa_cons (pe_ix ix_tup (pv 0) pe_int (fun _ _ => rfl)) (pa_cons (pe_ix ix_tup (pv 0) pe_int (fun _ _ => rfl)) pa_nil))) (pv 0) (nomark _)) (pe_one (pe_cmpR op_eqI (pe_op op_mulW (pe_ix ix_tup (pv 0) pe_int (fun _ _ => rfl)) (pv 2)) (pe_op op_mulW (pv 1) (pe_ix ix_tup (pv 0) pe_int (fun _ _ => rfl))) (nomark _))))))))), ?_⟩
    refine seq_op fun N hN => ?_
    walk_at "rs"
    refine ⟨_, "tuple", ⟨rfl, rfl⟩, _, dp_pair ha, by decide, iteFF (show ¬ true = false by decide) ⟨_, .inr ha, iteFF (show ¬ ¬ ((2 : Nat) : Int) = 2 by decide) (hN _ _ ?_)⟩⟩
    clear hN N
    refine cut_seq (fun σ H2 => (∃ x, σ = [some (.ref a), some (.int t), some (.int l), x]) ∧ Same H H2) (fun N hN => ?_) ?_
    · refine ⟨_, rfl, a, rfl, ⟨_, ha⟩, for_tup (K := K) (a := a) (xs := [.int p, .int q]) (fun i σ H2 => (∃ x, σ = [some (.ref a), some (.int t), some (.int l), x]) ∧ Same H H2) ⟨⟨_, rfl⟩, Same.refl _⟩ (fun i σ H2 _ h => Same.seqT h.2 ha) ?_ ?_⟩
      · rintro i y σ H2 hi ⟨⟨x, rfl⟩, s2⟩
        obtain ⟨n, rfl⟩ : ∃ n, y = V.int n := by
          have := List.mem_of_getElem? hi
          simp only [List.mem_cons, List.mem_nil_iff, or_false] at this
          rcases this with rfl | rfl <;> exact ⟨_, rfl⟩
        walk_at "rs"
        exact ⟨_, "int", ⟨rfl, rfl⟩, _, .int n, by decide, iteFF (show ¬ true = false by decide) ⟨_, "bool", ⟨rfl, rfl⟩, _, .int n, by decide, iteFF (show ¬ false = true by decide) ⟨⟨_, rfl⟩, s2⟩⟩⟩
      · rintro σ H2 ⟨⟨x, rfl⟩, s2⟩
        exact hN _ _ ⟨⟨_, rfl⟩, s2⟩
    · rintro σ H2 ⟨⟨x, rfl⟩, s2⟩
      replace ha := Same.seqT s2 ha
      obtain ⟨e1, e2, e3, e4, e5, e6, _⟩ := fr_spec p (q := q) (by omega)
      walk_at "rs"
      refine ⟨_, ha, _, rfl, q, rfl, iteTT q1 ⟨_, ha, _, rfl, _, ha, _, rfl, p, q, ⟨rfl, rfl⟩, by omega, pow_le lp (by decide), pow_le lq (by decide), fun t1 H3 s3 h03 h3 => ?_⟩⟩
      have ha3 := Same.seqT s3 ha
      refine ⟨_, _, dp_pair (.inl (.inl h3)), dp_pair ha3, shaped2 _ _, shaped2 _ _, _, rfl, ?_⟩
      obtain ⟨f1, f2⟩ := fr_low q1 hg
      rw [eqv_pair, f1, f2, decide_eq_true rfl, decide_eq_true rfl]
      refine iteTT rfl ⟨_, ha3, _, rfl, p, rfl, mulW lp ll, _, ha3, _, rfl, q, rfl, mulW lt lq, ?_⟩
      rw [decide_eq_true he]
      exact k H3 (Same.trans s2 s3)
end
end LK

set_option Elab.async false
set_option linter.all false
set_option maxRecDepth 100000
namespace LK
open PySem PySem.Spec PyProof.Rows L2
local macro_rules | `(tactic| walk_at "rs") => `(tactic| simp only [cxK, cxNK, tCallZ, tAsg, tOp, rI0, rS0, rB0, rI, rU, tUn, rEq, rNe, rIxL, rIxT, rIxS, rSetL, rSlLU, rSlS, rSlU, rCatL, rCatU, rRepL, rIn, tVar, tC, gName, gSub, tIfS, tTest, tB, tAnd, tOr, tNot, tNotV, tAndV, tOrV, tIf, tCall, tCons, tNil, tCB, tDrop, tRet, tRetN, tNext, tLstU, tTupU, tM0, tM1, tPar, tPar3, tAug, ipI, tBM, tBM0, rAppend, rPop, tBreak, tCont, tChain, tSl, tPart, tNoPart, L2.start, List.map, List.length_cons, List.length_nil, List.replicate, List.cons_append, List.nil_append, List.append_nil, List.getElem?_cons_zero, List.getElem?_cons_succ, List.set_cons_zero, List.set_cons_succ, Option.some.injEq, V.int.injEq, V.ref.injEq, V.str.injEq, V.bl.injEq, exists_eq_left', exists_eq_left, exists_and_left, decide_eq_true_eq, List.cons.injEq, and_true, true_and, scal, Bool.not_eq_true', decide_eq_false_iff_not, Nat.zero_add, Nat.reduceAdd, Nat.reduceSub, reduceCtorEq, false_and, exists_false, false_or, or_false, CPow, CMul, CDiv, Int.reduceToNat, ↓reduceIte, wipe, sw, List.nil_append, List.singleton_append])
local macro_rules | `(tactic| walk_at "st") => `(tactic| (refine seq_op fun N hN => ?_; walk_at "rs"))
local macro_rules | `(tactic| walk_at "sd") => `(tactic| first | assumption | decide | omega)
local macro_rules | `(tactic| walk_at "rd") => `(tactic| repeat (first
  | refine ⟨_, SqL.of (by assumption), ?_⟩ | refine ⟨_, SqL.of upd_same, ?_⟩ | refine ⟨_, .inl (SqL.of (by assumption)), ?_⟩ | refine ⟨_, (by assumption : _ = some (HO.lst _)), ?_⟩ | refine ⟨_, upd_same, ?_⟩
  | refine ⟨_, rfl, ?_⟩ | refine And.intro (by walk_at "sd") ?_))

abbrev Fr := Int × Int
def okF (f : Fr) : Prop := 1 ≤ f.2 ∧ Nat.gcd f.1.natAbs f.2.natAbs = 1 ∧ f.1.natAbs < 2 ^ 64 ∧ f.2.natAbs < 2 ^ 64
def ltF (f g : Fr) : Bool := decide (f.1 * g.2 < g.1 * f.2)
/-- at xs the fractions fs -/
inductive Frs (K : PySem.W.Frag) (H : Hp) : List V → List Fr → Prop
  | nil : Frs K H [] []
  | cons {a : Addr} {f : Fr} {xs : List V} {fs : List Fr} : Pr K H a f.1 f.2 → Frs K H xs fs → Frs K H (.ref a :: xs) (f :: fs)
section
variable {K : PySem.W.Frag} {H H' : Hp}
theorem Frs.same (s : Same H H') : ∀ {xs : List V} {fs : List Fr}, Frs K H xs fs → Frs K H' xs fs
  | _, _, .nil => .nil
  | _, _, .cons h q => .cons (Same.seqT s h) (q.same s)
theorem Frs.len : ∀ {xs : List V} {fs : List Fr}, Frs K H xs fs → xs.length = fs.length
  | _, _, .nil => rfl
  | _, _, .cons _ q => congrArg Nat.succ q.len
theorem Frs.app : ∀ {xs ys : List V} {fs gs : List Fr}, Frs K H xs fs → Frs K H ys gs → Frs K H (xs ++ ys) (fs ++ gs)
  | _, _, _, _, .nil, r => r
  | _, _, _, _, .cons h q, r => .cons h (q.app r)
theorem Frs.drop : ∀ {xs : List V} {fs : List Fr} (n : Nat), Frs K H xs fs → Frs K H (xs.drop n) (fs.drop n)
  | _, _, 0, h => h
  | _, _, _ + 1, .nil => .nil
  | _, _, n + 1, .cons _ q => q.drop n
theorem Frs.take : ∀ {xs : List V} {fs : List Fr} (n : Nat), Frs K H xs fs → Frs K H (xs.take n) (fs.take n)
  | _, _, 0, _ => .nil
  | _, _, _ + 1, .nil => .nil
  | _, _, n + 1, .cons h q => .cons h (q.take n)
theorem Frs.get : ∀ {xs : List V} {fs : List Fr} {n : Nat}, Frs K H xs fs → n < fs.length → ∃ a f, xs[n]? = some (.ref a) ∧ fs[n]? = some f ∧ Pr K H a f.1 f.2
  | _, _, _, .nil, h => absurd h (Nat.not_lt_zero _)
  | _, _, 0, .cons h _, _ => ⟨_, _, rfl, rfl, h⟩
  | _, _, n + 1, .cons _ q, h => by
    obtain ⟨a, f, h1, h2, h3⟩ := q.get (n := n) (Nat.lt_of_succ_lt_succ h)
    exact ⟨a, f, h1, h2, h3⟩
theorem Frs.one {a : Addr} {f : Fr} (h : Pr K H a f.1 f.2) : Frs K H [.ref a] [f] := .cons h .nil
end
theorem seqT_upd {K : PySem.W.Frag} {H : Hp} {a p : Addr} {xs ys : List V} {o : HO} (hp : H p = some (.lst ys)) (h : SqT K H a xs) : SqT K (L2.upd H p o) a xs := by
  rcases h with (h | ⟨u, h⟩) | h
  · refine .inl (.inl ?_)
    rw [upd_ne]; exact h
    intro e; rw [e, hp] at h; cases h
  · refine .inl (.inr ⟨u, ?_⟩)
    rw [upd_ne]; exact h
    intro e; rw [e, hp] at h; cases h
  · exact .inr h
theorem Frs.upd {K : PySem.W.Frag} {H : Hp} {p : Addr} {ys : List V} {o : HO} (hp : H p = some (.lst ys)) : ∀ {xs : List V} {fs : List Fr}, Frs K H xs fs → Frs K (L2.upd H p o) xs fs
  | _, _, .nil => .nil
  | _, _, .cons h q => .cons (seqT_upd hp h) (q.upd hp)
/-- the merging -/
def mg2 : List Fr → List Fr → List Fr
  | [], m => m
  | f :: l, [] => f :: l
  | f :: l, g :: m => if f = g then mg2 l (g :: m) else if ltF f g = true then f :: mg2 l (g :: m) else g :: mg2 (f :: l) m
termination_by l m => l.length + m.length
theorem mg2_nil (l : List Fr) : mg2 l [] = l := by cases l <;> simp [mg2]
theorem mg2_cons (f g : Fr) (l m : List Fr) : mg2 (f :: l) (g :: m) = if f = g then mg2 l (g :: m) else if ltF f g = true then f :: mg2 l (g :: m) else g :: mg2 (f :: l) m := by rw [mg2]
theorem drop_at {l : List Fr} {i : Nat} {f : Fr} (h : l[i]? = some f) : l.drop i = f :: l.drop (i + 1) := by
  obtain ⟨hi, rfl⟩ := List.getElem?_eq_some_iff.mp h
  exact List.drop_eq_getElem_cons hi
def sp_merged (K : PySem.W.Frag) : Sp := fun vs H Q _ => ∃ (a b : Addr) (xs ys : List V) (fs gs : List Fr), vs = [.ref a, .ref b] ∧ SqT K H a xs ∧ SqT K H b ys ∧ Frs K H xs fs ∧ Frs K H ys gs ∧ (∀ f ∈ fs, okF f) ∧ (∀ f ∈ gs, okF f) ∧ fs.length + gs.length ≤ 10000 ∧
  ∀ (t : Addr) (zs : List V) H', Same H H' → SqT K H' t zs → Frs K H' zs (mg2 fs gs) → Q (.ref t) H'
section
variable {P : Program} {w : World} {K : PySem.W.Frag} {mg : Str → Option Value} {base : Heap}
theorem ok_merged (T : Txt w K mg) : FnOk P w K mg base CX0 2 T.a_merged T.d_merged ["low", "high"] (sp_merged K) := by
  refine T.F_merged.ok sc_merged (fun vs H Q E h => ?_) (fun cdv A outer s H vs Q E hr h => ?_)
  · obtain ⟨a, b, xs, ys, fs, gs, rfl, _⟩ := h
    rfl
  · obtain ⟨a, b, xs, ys, fs, gs, rfl, ha, hb, hf, hg, of, og, hl, k⟩ := h
    have hr_below : Room 1 _ := hr.mono (by decide)
    have G_below := ok_below (P := P) (base := base) T
    refine ⟨_, (pss_cons (ps_set (i := 2) sc_merged.nd rfl (Or.inl rfl) (pe_lstU pa_nil))
      (pss_cons (ps_set (i := 3) sc_merged.nd rfl (Or.inl rfl) pe_int)
      (pss_cons (ps_set (i := 4) sc_merged.nd rfl (Or.inl rfl) pe_int)
      (pss_cons (ps_while PassesOwn.never (PW.pt (pw_and (pt_cmpR op_lt (pv 3) (pe_callB call_len_seq (by rfl) T.n_len (by decide +kernel) (pa_cons (pv 0) pa_nil)) (nomark _)) (pw_and1 (pt_cmpR op_lt (pv 4) (pe_callB call_len_seq (by rfl) T.n_len (by decide +kernel) (pa_cons (pv 1) pa_nil)) (nomark _))))) (pss_one (ps_if (pt_cmpR (op_eqD hr.units) (pe_ix ix_tup (pv 0) (pv 3) (fun _ _ => rfl)) (pe_ix ix_tup (pv 1) (pv 4) (fun _ _ => rfl)) (nomark _)) (pss_one (ps_aug (i := 3) sc_merged.nd rfl (Or.inl rfl) pe_int ip_add)) (pss_one (ps_if (pt_val (pe_call G_below hr_below (by rfl) T.m_below T.F_below.kp T.B_below .nil pass0 (pa_cons (pe_ix ix_tup (pv 0) (pv 3) (fun _ _ => rfl)) (pa_cons (pe_ix ix_tup (pv 1) (pv 4) (fun _ _ => rfl)) pa_nil)))) (pss_cons (ps_expr (pe_bm PySem.F.plainAttrs_list PySem.F.slot_list_append PySem.F.type_list_append mt_append (pv 2) (pa_cons (pe_ix ix_tup (pv 0) (pv 3) (fun _ _ => rfl)) pa_nil)))
      (pss_one (ps_aug (i := 3) sc_merged.nd rfl (Or.inl rfl) pe_int ip_add))) (pss_cons (ps_expr (pe_bm PySem.F.plainAttrs_list PySem.F.slot_list_append PySem.F.type_list_append mt_append (pv 2) (pa_cons (pe_ix ix_tup (pv 1) (pv 4) (fun _ _ => rfl)) pa_nil)))
      (pss_one (ps_aug (i := 4) sc_merged.nd rfl (Or.inl rfl) pe_int ip_add))))))))
      (pss_one (ps_ret (pe_op op_catU (pe_op op_catU (pe_callTy call_tupleN (by rfl) T.n_tuple (by decide +kernel) (pa_cons (pv 2) pa_nil)) (pe_slice sl_tupU (pv 0) (po_some (pv 3)) po_none)) (pe_slice sl_tupU (pv 1) (po_some (pv 4)) po_none)))))))), ?_⟩
    refine seq_op fun N hN => ?_
    walk_at "rs"
    refine ⟨by decide, fun p H1 s1 h01 h1 => hN _ _ ?_⟩
    clear hN N
    refine seq_op fun N hN => ?_
    walk_at "rs"
    refine hN _ _ ?_
    clear hN N
    refine seq_op fun N hN => ?_
    walk_at "rs"
    refine hN _ _ ?_
    clear hN N
    have np : ∀ {H2 : Hp}, True := trivial
    refine cut_seq (fun σ H2 => ∃ (i j : Nat) (zs : List V) (os : List Fr), σ = [some (.ref a), some (.ref b), some (.ref p), some (.int (i : Int)), some (.int (j : Int))] ∧ Same H H2 ∧ H2 p = some (.lst zs) ∧ Frs K H2 zs os ∧ os ++ mg2 (fs.drop i) (gs.drop j) = mg2 fs gs ∧ i ≤ fs.length ∧ j ≤ gs.length ∧ zs.length ≤ i + j ∧ (i = fs.length ∨ j = gs.length)) (fun N hN => ?_) ?_
    · refine while_by (fun σ H2 => ∃ (i j : Nat) (zs : List V) (os : List Fr), σ = [some (.ref a), some (.ref b), some (.ref p), some (.int (i : Int)), some (.int (j : Int))] ∧ Same H H2 ∧ H2 p = some (.lst zs) ∧ Frs K H2 zs os ∧ os ++ mg2 (fs.drop i) (gs.drop j) = mg2 fs gs ∧ i ≤ fs.length ∧ j ≤ gs.length ∧ zs.length ≤ i + j) (fun (σ : L2.St) (_ : Hp) => match σ with
          | [_, _, _, some (V.int i), some (V.int j)] => fs.length + gs.length - (i.toNat + j.toNat)
          | _ => 0) ⟨0, 0, [], [], rfl, s1, h1, .nil, rfl, Nat.zero_le _, Nat.zero_le _, Nat.zero_le _⟩ ?_ ?_
      · rintro σ H2 ⟨i, j, zs, os, rfl, s2, h2, hz, he, hi, hj, hzl⟩
        have ha2 := Same.seqT s2 ha
        have hb2 := Same.seqT s2 hb
        walk_at "rs"
        refine ⟨xs, .inr ha2, ite2 (fun c1 => ⟨ys, .inr hb2, ite2 (fun c2 => ?_) (fun c2 => hN _ _ ⟨i, j, zs, os, rfl, s2, h2, hz, he, hi, hj, hzl, .inr (by have := hg.len; omega)⟩)⟩) (fun c1 => hN _ _ ⟨i, j, zs, os, rfl, s2, h2, hz, he, hi, hj, hzl, .inl (by have := hf.len; omega)⟩)⟩
        have lf := hf.len
        have lg := hg.len
        have ci : i < fs.length := by omega
        have cj : j < gs.length := by omega
        obtain ⟨u, f, xu, fu, hu⟩ := hf.get ci
        obtain ⟨v, g, yv, gv, hv⟩ := hg.get cj
        have hu2 : Pr K H2 u f.1 f.2 := Same.seqT s2 hu
        have hv2 : Pr K H2 v g.1 g.2 := Same.seqT s2 hv
        rw [drop_at fu, drop_at gv] at he
        refine ⟨xs, ha2, _, at_ofN rfl xu, ys, hb2, _, at_ofN rfl yv, _, _, dp_pair hu2, dp_pair hv2, shaped2 _ _, shaped2 _ _, _, rfl, ?_⟩
        rw [eqv_pair]
        refine ite2 (fun e => ?_) (fun e => ?_)
        · have efg : f = g := by
            rw [Bool.and_eq_true, decide_eq_true_iff, decide_eq_true_iff] at e
            exact Prod.ext e.1 e.2
          refine ⟨⟨i + 1, j, ⟨rfl, rfl⟩, s2, zs, h2, os, hz, ?_, by omega, hj, by omega⟩, by omega⟩
          rw [drop_at gv, ← he, mg2_cons, if_pos efg]
        · have efg : f ≠ g := fun z => e (by rw [z, decide_eq_true rfl, decide_eq_true rfl]; rfl)
          have lim : ∀ {f : Fr}, okF f → f.1.natAbs < 2 ^ 4000 ∧ f.2.natAbs < 2 ^ 4000 := fun h => ⟨pow_le h.2.2.1 (by decide), pow_le h.2.2.2 (by decide)⟩
          obtain ⟨l1, l2⟩ := lim (of f (List.mem_of_getElem? fu))
          obtain ⟨l3, l4⟩ := lim (og g (List.mem_of_getElem? gv))
          refine ⟨xs, ha2, _, at_ofN rfl xu, ys, hb2, _, at_ofN rfl yv, u, v, ⟨rfl, rfl⟩, _, _, hu2, _, _, hv2, l1, l2, l3, l4, ite2 (fun c => ?_) (fun c => ?_)⟩
          · refine seq_op fun N2 hN2 => ?_
            walk_at "rs"
            refine ⟨.inl ⟨rfl, _, SqL.of h2⟩, xs, ha2, _, at_ofN rfl xu, zs, h2, Nat.lt_of_le_of_lt (show zs.length ≤ 20000 by omega) (by decide), hN2 _ _ ?_⟩
            clear hN2 N2
            walk_at "rs"
            refine ⟨⟨i + 1, j, ⟨rfl, rfl⟩, fun b' o e' => by rw [upd_ne (ne_of_none e' h01)]; exact s2 b' o e', _, upd_same, os ++ [f], (hz.upd h2).app (Frs.one (seqT_upd h2 hu2)), ?_, by omega, hj, by rw [List.length_append]; simp only [List.length_cons, List.length_nil]; omega⟩, by omega⟩
            rw [drop_at gv, ← he, mg2_cons, if_neg efg, if_pos (show ltF f g = true from decide_eq_true c), List.append_assoc]; rfl
          · refine seq_op fun N2 hN2 => ?_
            walk_at "rs"
            refine ⟨.inl ⟨rfl, _, SqL.of h2⟩, ys, hb2, _, at_ofN rfl yv, zs, h2, Nat.lt_of_le_of_lt (show zs.length ≤ 20000 by omega) (by decide), hN2 _ _ ?_⟩
            clear hN2 N2
            walk_at "rs"
            refine ⟨⟨i, j + 1, ⟨rfl, rfl⟩, fun b' o e' => by rw [upd_ne (ne_of_none e' h01)]; exact s2 b' o e', _, upd_same, os ++ [g], (hz.upd h2).app (Frs.one (seqT_upd h2 hv2)), ?_, hi, by omega, by rw [List.length_append]; simp only [List.length_cons, List.length_nil]; omega⟩, by omega⟩
            rw [drop_at fu, ← he, mg2_cons, if_neg efg, if_neg (show ¬ ltF f g = true from fun z => c (of_decide_eq_true z)), List.append_assoc]; rfl
      · intro σ H2 Q1 Q2 h hq
        revert hq
        walk_at "rs"
        rintro ⟨v, e3, v1, e0, p1, rfl, x, hx, i, rfl, hq⟩
        refine ⟨_, e3, _, e0, p1, rfl, x, hx, i, rfl, ite2 (fun c => ?_) (fun c => ?_)⟩
        · rw [if_pos c] at hq
          obtain ⟨v, e4, v2, e1, p2, rfl, y, hy, j, rfl, hq⟩ := hq
          exact ⟨_, e4, _, e1, p2, rfl, y, hy, j, rfl, h _ _ hq⟩
        · rw [if_neg c] at hq
          exact h _ _ hq
    · rintro σ H2 ⟨i, j, zs, os, rfl, s2, h2, hz, he, hi, hj, hzl, hend⟩
      walk_at "rs"
      have ha2 := Same.seqT s2 ha
      have hb2 := Same.seqT s2 hb
      have lf := hf.len
      have lg := hg.len
      have big : ∀ {n : Nat}, n ≤ 100000 → n ≤ sizeLine := fun h => Nat.le_trans h (by decide)
      refine ⟨zs, SqL.of h2, fun q H3 s3 h03 h3 => ⟨xs, Same.seqT s3 ha2, fun q4 H4 s4 h4 => ⟨zs, Same.seqT s4 (.inl (.inl h3)), _, h4, ?_, fun q5 H5 s5 h5 => ⟨ys, Same.seqT s5 (Same.seqT s4 (Same.seqT s3 hb2)), fun q6 H6 s6 h6 => ⟨_, Same.seqT s6 h5, _, h6, ?_, fun q7 H7 s7 h7 => ?_⟩⟩⟩⟩⟩
      · have := cutV_length xs (some (i : Int)) none
        exact big (by omega)
      · have l1 := cutV_length xs (some (i : Int)) none
        have l2 := cutV_length ys (some (j : Int)) none
        rw [List.length_append]
        exact big (by omega)
      · rw [cutV_drop, cutV_drop] at h7
        have ss : Same H2 H7 := Same.trans s3 (Same.trans s4 (Same.trans s5 (Same.trans s6 s7)))
        have sH : Same H H7 := Same.trans s2 ss
        refine k q7 _ H7 sH h7 ?_
        have e : mg2 fs gs = os ++ fs.drop i ++ gs.drop j := by
          rw [← he]
          rcases hend with rfl | rfl
          · rw [List.drop_length, List.append_nil]; simp [mg2]
          · rw [List.drop_length, List.append_nil, mg2_nil]
        rw [e]
        exact ((hz.same ss).app ((hf.drop i).same sH)).app ((hg.drop j).same sH)
end
end LK

set_option Elab.async false
set_option linter.all false
set_option maxRecDepth 100000
namespace LK
open PySem PySem.Spec PyProof.Rows L2
local macro_rules | `(tactic| walk_at "rs") => `(tactic| simp only [cxK, cxNK, tCallZ, tAsg, tOp, rI0, rS0, rB0, rI, rU, tUn, rEq, rNe, rIxL, rIxT, rIxS, rSetL, rSlLU, rSlS, rSlU, rCatL, rCatU, rRepL, rIn, tVar, tC, gName, gSub, tIfS, tTest, tB, tAnd, tOr, tNot, tNotV, tAndV, tOrV, tIf, tCall, tCons, tNil, tCB, tDrop, tRet, tRetN, tNext, tLstU, tTupU, tM0, tM1, tPar, tPar3, tAug, ipI, tBM, tBM0, rAppend, rPop, tBreak, tCont, tChain, tSl, tPart, tNoPart, L2.start, List.map, List.length_cons, List.length_nil, List.replicate, List.cons_append, List.nil_append, List.append_nil, List.getElem?_cons_zero, List.getElem?_cons_succ, List.set_cons_zero, List.set_cons_succ, Option.some.injEq, V.int.injEq, V.ref.injEq, V.str.injEq, V.bl.injEq, exists_eq_left', exists_eq_left, exists_and_left, decide_eq_true_eq, List.cons.injEq, and_true, true_and, scal, Bool.not_eq_true', decide_eq_false_iff_not, Nat.zero_add, Nat.reduceAdd, Nat.reduceSub, reduceCtorEq, false_and, exists_false, false_or, or_false, CPow, CMul, CDiv, Int.reduceToNat, ↓reduceIte, wipe, sw, List.nil_append, List.singleton_append])
local macro_rules | `(tactic| walk_at "st") => `(tactic| (refine seq_op fun N hN => ?_; walk_at "rs"))
local macro_rules | `(tactic| walk_at "sd") => `(tactic| first | assumption | decide | omega)
local macro_rules | `(tactic| walk_at "rd") => `(tactic| repeat (first
  | refine ⟨_, SqL.of (by assumption), ?_⟩ | refine ⟨_, SqL.of upd_same, ?_⟩ | refine ⟨_, .inl (SqL.of (by assumption)), ?_⟩ | refine ⟨_, (by assumption : _ = some (HO.lst _)), ?_⟩ | refine ⟨_, upd_same, ?_⟩
  | refine ⟨_, rfl, ?_⟩ | refine And.intro (by walk_at "sd") ?_))

theorem ltF_trans {f g h : Fr} (hf : okF f) (hg : okF g) (hh : okF h) (h1 : ltF f g = true) (h2 : ltF g h = true) : ltF f h = true := by
  obtain ⟨p, q⟩ := f; obtain ⟨r, s⟩ := g; obtain ⟨t, u⟩ := h
  have a1 : p * s < r * q := of_decide_eq_true h1
  have a2 : r * u < t * s := of_decide_eq_true h2
  refine decide_eq_true ?_
  show p * u < t * q
  have q0 : 0 < q := by have := hf.1; omega
  have s0 : 0 < s := by have := hg.1; omega
  have u0 : 0 < u := by have := hh.1; omega
  have b1 : p * s * u < r * q * u := Int.mul_lt_mul_of_pos_right a1 u0
  have b2 : r * u * q < t * s * q := Int.mul_lt_mul_of_pos_right a2 q0
  have e1 : r * q * u = r * u * q := by rw [Int.mul_assoc, Int.mul_assoc, Int.mul_comm q u]
  have e2 : p * s * u = p * u * s := by rw [Int.mul_assoc, Int.mul_assoc, Int.mul_comm s u]
  have e3 : t * s * q = t * q * s := by rw [Int.mul_assoc, Int.mul_assoc, Int.mul_comm s q]
  rw [e1, e2] at b1
  rw [e3] at b2
  exact Int.lt_of_mul_lt_mul_right (Int.lt_trans b1 b2) (by omega)
theorem low_same {p q r s : Int} (h1 : 1 ≤ q) (g1 : Nat.gcd p.natAbs q.natAbs = 1) (h2 : 1 ≤ s) (g2 : Nat.gcd r.natAbs s.natAbs = 1) (e : p * s = r * q) : p = r ∧ q = s := by
  have en : p.natAbs * s.natAbs = r.natAbs * q.natAbs := by rw [← Int.natAbs_mul, ← Int.natAbs_mul, e]
  have d1 : q.natAbs ∣ s.natAbs := (Nat.Coprime.dvd_of_dvd_mul_left (k := q.natAbs) (m := p.natAbs) (n := s.natAbs) (by rw [Nat.Coprime, Nat.gcd_comm]; exact g1) ⟨r.natAbs, by rw [en, Nat.mul_comm]⟩)
  have d2 : s.natAbs ∣ q.natAbs := (Nat.Coprime.dvd_of_dvd_mul_left (k := s.natAbs) (m := r.natAbs) (n := q.natAbs) (by rw [Nat.Coprime, Nat.gcd_comm]; exact g2) ⟨p.natAbs, by rw [← en, Nat.mul_comm]⟩)
  have qs : q.natAbs = s.natAbs := Nat.dvd_antisymm d1 d2
  have qs2 : q = s := by omega
  subst qs2
  exact ⟨Int.eq_of_mul_eq_mul_right (by omega) e, rfl⟩
theorem ltF_tri {f g : Fr} (hf : okF f) (hg : okF g) (ne : f ≠ g) (h : ¬ ltF f g = true) : ltF g f = true := by
  obtain ⟨p, q⟩ := f; obtain ⟨r, s⟩ := g
  refine decide_eq_true ?_
  show r * q < p * s
  have n : ¬ p * s < r * q := fun z => h (decide_eq_true z)
  have n2 : p * s ≠ r * q := fun z => by
    obtain ⟨e1, e2⟩ := low_same hf.1 hf.2.1 hg.1 hg.2.1 z
    exact ne (Prod.ext e1 e2)
  omega
theorem mg2_mem : ∀ (n : Nat) (l m : List Fr), l.length + m.length ≤ n → ∀ x, x ∈ mg2 l m ↔ x ∈ l ∨ x ∈ m := by
  intro n
  induction n with
  | zero =>
    intro l m h x
    obtain rfl : l = [] := List.eq_nil_of_length_eq_zero (by omega)
    obtain rfl : m = [] := List.eq_nil_of_length_eq_zero (by omega)
    simp [mg2]
  | succ n ih =>
    intro l m h x
    rcases l with _ | ⟨f, l⟩
    · simp [mg2]
    rcases m with _ | ⟨g, m⟩
    · simp [mg2]
    simp only [List.length_cons] at h
    rw [mg2_cons]
    split
    · rename_i e
      rw [ih _ _ (by simp only [List.length_cons]; omega)]
      subst e
      simp only [List.mem_cons]
      constructor
      · rintro (h | h | h)
        · exact .inl (.inr h)
        · exact .inr (.inl h)
        · exact .inr (.inr h)
      · rintro ((h | h) | h | h)
        · exact .inr (.inl h)
        · exact .inl h
        · exact .inr (.inl h)
        · exact .inr (.inr h)
    · split
      · rw [List.mem_cons, ih _ _ (by simp only [List.length_cons]; omega), List.mem_cons, List.mem_cons]
        exact or_assoc.symm
      · rw [List.mem_cons, ih _ _ (by simp only [List.length_cons]; omega), List.mem_cons, List.mem_cons]
        constructor
        · rintro (h | h | h)
          · exact .inr (.inl h)
          · exact .inl h
          · exact .inr (.inr h)
        · rintro (h | h | h)
          · exact .inr (.inl h)
          · exact .inl h
          · exact .inr (.inr h)
theorem mg2_srt : ∀ (n : Nat) (l m : List Fr), l.length + m.length ≤ n → (∀ f ∈ l, okF f) → (∀ f ∈ m, okF f) → l.Pairwise (fun f g => ltF f g = true) → m.Pairwise (fun f g => ltF f g = true) → (mg2 l m).Pairwise (fun f g => ltF f g = true) := by
  intro n
  induction n with
  | zero =>
    intro l m h _ _ _ hm
    obtain rfl : l = [] := List.eq_nil_of_length_eq_zero (by omega)
    simpa [mg2] using hm
  | succ n ih =>
    intro l m h ol om hl hm
    rcases l with _ | ⟨f, l⟩
    · simpa [mg2] using hm
    rcases m with _ | ⟨g, m⟩
    · rw [mg2_nil]; exact hl
    simp only [List.length_cons] at h
    rw [List.pairwise_cons] at hl hm
    have of := ol f List.mem_cons_self
    have og := om g List.mem_cons_self
    have ol' : ∀ x ∈ l, okF x := fun x hx => ol x (List.mem_cons_of_mem _ hx)
    have om' : ∀ x ∈ m, okF x := fun x hx => om x (List.mem_cons_of_mem _ hx)
    rw [mg2_cons]
    split
    · exact ih _ _ (by simp only [List.length_cons]; omega) ol' om hl.2 (List.pairwise_cons.mpr hm)
    · rename_i ne
      split
      · rename_i lt
        refine List.pairwise_cons.mpr ⟨fun x hx => ?_, ih _ _ (by simp only [List.length_cons]; omega) ol' om hl.2 (List.pairwise_cons.mpr hm)⟩
        rcases (mg2_mem _ _ _ (Nat.le_refl _) x).mp hx with hx | hx
        · exact hl.1 x hx
        · rcases List.mem_cons.mp hx with rfl | hx
          · exact lt
          · exact ltF_trans of og (om' x hx) lt (hm.1 x hx)
      · rename_i nl
        have lt := ltF_tri of og ne nl
        refine List.pairwise_cons.mpr ⟨fun x hx => ?_, ih _ _ (by simp only [List.length_cons]; omega) ol om' (List.pairwise_cons.mpr hl) hm.2⟩
        rcases (mg2_mem _ _ _ (Nat.le_refl _) x).mp hx with hx | hx
        · rcases List.mem_cons.mp hx with rfl | hx
          · exact lt
          · exact ltF_trans og of (ol' x hx) lt (hl.1 x hx)
        · exact hm.1 x hx
/-- gs is fs in order, each once -/
def Srt (fs gs : List Fr) : Prop := gs.Pairwise (fun f g => ltF f g = true) ∧ ∀ x, x ∈ gs ↔ x ∈ fs
end LK

set_option Elab.async false
set_option linter.all false
set_option maxRecDepth 100000
namespace LK
open PySem PySem.Spec PyProof.Rows L2
local macro_rules | `(tactic| walk_at "rs") => `(tactic| simp only [cxK, cxNK, tCallZ, tAsg, tOp, rI0, rS0, rB0, rI, rU, tUn, rEq, rNe, rIxL, rIxT, rIxS, rSetL, rSlLU, rSlS, rSlU, rCatL, rCatU, rRepL, rIn, tVar, tC, gName, gSub, tIfS, tTest, tB, tAnd, tOr, tNot, tNotV, tAndV, tOrV, tIf, tCall, tCons, tNil, tCB, tDrop, tRet, tRetN, tNext, tLstU, tTupU, tM0, tM1, tPar, tPar3, tAug, ipI, tBM, tBM0, rAppend, rPop, tBreak, tCont, tChain, tSl, tPart, tNoPart, L2.start, List.map, List.length_cons, List.length_nil, List.replicate, List.cons_append, List.nil_append, List.append_nil, List.getElem?_cons_zero, List.getElem?_cons_succ, List.set_cons_zero, List.set_cons_succ, Option.some.injEq, V.int.injEq, V.ref.injEq, V.str.injEq, V.bl.injEq, exists_eq_left', exists_eq_left, exists_and_left, decide_eq_true_eq, List.cons.injEq, and_true, true_and, scal, Bool.not_eq_true', decide_eq_false_iff_not, Nat.zero_add, Nat.reduceAdd, Nat.reduceSub, reduceCtorEq, false_and, exists_false, false_or, or_false, CPow, CMul, CDiv, Int.reduceToNat, ↓reduceIte, wipe, sw, List.nil_append, List.singleton_append])
local macro_rules | `(tactic| walk_at "st") => `(tactic| (refine seq_op fun N hN => ?_; walk_at "rs"))
local macro_rules | `(tactic| walk_at "sd") => `(tactic| first | assumption | decide | omega)
local macro_rules | `(tactic| walk_at "rd") => `(tactic| repeat (first
  | refine ⟨_, SqL.of (by assumption), ?_⟩ | refine ⟨_, SqL.of upd_same, ?_⟩ | refine ⟨_, .inl (SqL.of (by assumption)), ?_⟩ | refine ⟨_, (by assumption : _ = some (HO.lst _)), ?_⟩ | refine ⟨_, upd_same, ?_⟩
  | refine ⟨_, rfl, ?_⟩ | refine And.intro (by walk_at "sd") ?_))

def sp_asc (K : PySem.W.Frag) (n : Nat) : Sp := fun vs H Q _ => ∃ (a : Addr) (xs : List V) (fs : List Fr), vs = [.ref a] ∧ (SqL K H a xs ∨ SqT K H a xs) ∧ Frs K H xs fs ∧ (∀ f ∈ fs, okF f) ∧ fs.length ≤ 2 ^ n ∧ fs.length ≤ 1000 ∧
  ∀ (t : Addr) (zs : List V) (gs : List Fr) H', Same H H' → SqT K H' t zs → Frs K H' zs gs → Srt fs gs → gs.length ≤ fs.length → Q (.ref t) H'
theorem mg2_len : ∀ (n : Nat) (l m : List Fr), l.length + m.length ≤ n → (mg2 l m).length ≤ l.length + m.length := by
  intro n
  induction n with
  | zero =>
    intro l m h
    obtain rfl : l = [] := List.eq_nil_of_length_eq_zero (by omega)
    simp [mg2]
  | succ n ih =>
    intro l m h
    rcases l with _ | ⟨f, l⟩
    · simp [mg2]
    rcases m with _ | ⟨g, m⟩
    · rw [mg2_nil]; exact Nat.le_add_right _ _
    simp only [List.length_cons] at h
    rw [mg2_cons]
    split
    · have := ih l (g :: m) (by simp only [List.length_cons]; omega)
      simp only [List.length_cons] at this ⊢; omega
    · split
      · have := ih l (g :: m) (by simp only [List.length_cons]; omega)
        simp only [List.length_cons] at this ⊢; omega
      · have := ih (f :: l) m (by simp only [List.length_cons]; omega)
        simp only [List.length_cons] at this ⊢; omega
section
variable {P : Program} {w : World} {K : PySem.W.Frag} {mg : Str → Option Value} {base : Heap}
theorem asc_step (T : Txt w K mg) (n : Nat) (ih : ∀ m, m + 1 = n → FnOk P w K mg base CX0 (m + 3) T.a_ascending T.d_ascending ["values"] (sp_asc K m)) : FnOk P w K mg base CX0 (n + 3) T.a_ascending T.d_ascending ["values"] (sp_asc K n) := by
  refine T.F_ascending.ok sc_ascending (fun vs H Q E h => ?_) (fun cdv A outer s H vs Q E hr h => ?_)
  · obtain ⟨a, xs, fs, rfl, _⟩ := h
    rfl
  · obtain ⟨a, xs, fs, rfl, ha, hf, of, hl, hk, k⟩ := h
    have hr_merged : Room 2 _ := hr.mono (by omega)
    have G_merged := ok_merged (P := P) (base := base) T
    have lf := hf.len
    by_cases hn : fs.length < 2
    · refine ⟨_, (pss_cons (ps_if (pt_cmpR op_lt (pe_callB call_len_seq (by rfl) T.n_len (by decide +kernel) (pa_cons (pv 0) pa_nil)) pe_int (nomark _)) (pss_one (ps_ret (pe_callTy call_tupleU (by rfl) T.n_tuple (by decide +kernel) (pa_cons (pv 0) pa_nil)))) pss_nil) pss_never), ?_⟩
      refine seq_op fun N hN => ?_
      walk_at "rs"
      refine ⟨xs, ha, iteTT (by omega) ⟨xs, ha, fun q H1 s1 h1 => k q xs fs H1 s1 h1 (hf.same s1) ⟨?_, fun _ => Iff.rfl⟩ (Nat.le_refl _)⟩⟩
      rcases fs with _ | ⟨f, _ | ⟨g, r⟩⟩
      · exact List.Pairwise.nil
      · exact List.pairwise_singleton _ _
      · exact absurd hn (by simp only [List.length_cons]; omega)
    obtain ⟨m, rfl⟩ : ∃ m, n = m + 1 := by
      rcases n with _ | m
      · exact absurd hl (by simp only [Nat.pow_zero]; omega)
      · exact ⟨m, rfl⟩
    have hr_ascending : Room (m + 3) _ := hr.mono (by omega)
    have G_ascending := ih m rfl
    refine ⟨_, (pss_cons (ps_if (pt_cmpR op_lt (pe_callB call_len_seq (by rfl) T.n_len (by decide +kernel) (pa_cons (pv 0) pa_nil)) pe_int (nomark _)) (pss_one (ps_ret (pe_callTy call_tupleU (by rfl) T.n_tuple (by decide +kernel) (pa_cons (pv 0) pa_nil)))) pss_nil)
      (pss_cons (ps_set (i := 1) sc_ascending.nd rfl (Or.inl rfl) (pe_op op_fdiv (pe_callB call_len_seq (by rfl) T.n_len (by decide +kernel) (pa_cons (pv 0) pa_nil)) pe_int))
      (pss_one (ps_ret (pe_call G_merged hr_merged (by rfl) T.m_merged T.F_merged.kp T.B_merged .nil pass0 (pa_cons (pe_call G_ascending hr_ascending (by rfl) T.m_ascending T.F_ascending.kp T.B_ascending .nil pass0 (pa_cons (pe_slice (SlR.or sl_listU sl_tupU) (pv 0) po_none (po_some (pv 1))) pa_nil)) (pa_cons (pe_call G_ascending hr_ascending (by rfl) T.m_ascending T.F_ascending.kp T.B_ascending .nil pass0 (pa_cons (pe_slice (SlR.or sl_listU sl_tupU) (pv 0) (po_some (pv 1)) po_none) pa_nil)) pa_nil))))))), ?_⟩
    refine seq_op fun N hN => ?_
    walk_at "rs"
    refine ⟨xs, ha, iteFF (by omega) (hN _ _ ?_)⟩
    clear hN N
    refine seq_op fun N hN => ?_
    walk_at "rs"
    refine ⟨xs, ha, ⟨by decide, by decide⟩, hN _ _ ?_⟩
    clear hN N
    have eh : ((xs.length : Nat) : Int) / 2 = ((xs.length / 2 : Nat) : Int) := by omega
    rw [eh]
    walk_at "rs"
    have h1 : (fs.take (xs.length / 2)).length = xs.length / 2 := by rw [List.length_take]; omega
    have h2 : (fs.drop (xs.length / 2)).length = fs.length - xs.length / 2 := List.length_drop
    have pw : 2 ^ (m + 1) = 2 * 2 ^ m := Nat.pow_succ'
    have cat : fs.take (xs.length / 2) ++ fs.drop (xs.length / 2) = fs := List.take_append_drop _ _
    have mem : ∀ x, x ∈ fs ↔ x ∈ fs.take (xs.length / 2) ∨ x ∈ fs.drop (xs.length / 2) := fun x => by rw [← List.mem_append, cat]
    have core2 : ∀ (x q : Addr) (zs : List V) (gs : List Fr) (H1 H2 : Hp), Same H H1 → Same H1 H2 → SqT K H1 x zs → Frs K H1 zs gs → Srt (fs.take (xs.length / 2)) gs → gs.length ≤ xs.length / 2 → (SqL K H2 q (xs.drop (xs.length / 2)) ∨ SqT K H2 q (xs.drop (xs.length / 2))) → sp_asc K m [V.ref q] H2 (fun x_2 H1 => sp_merged K [V.ref x, x_2] H1 Q E0) E0 := by
      intro x q zs gs H1 H2 s1 s2 hx hz hs hlz hq
      refine ⟨q, _, fs.drop (xs.length / 2), rfl, hq, (hf.drop _).same (Same.trans s1 s2), fun f h => of f ((mem f).mpr (.inr h)), by omega, by omega, fun t zs2 gs2 H3 s3 h3 f3 srt3 l3 => ⟨x, t, zs, zs2, gs, gs2, rfl, Same.seqT (Same.trans s2 s3) hx, h3, hz.same (Same.trans s2 s3), f3, fun f h => of f ((mem f).mpr (.inl ((hs.2 f).mp h))), fun f h => of f ((mem f).mpr (.inr ((srt3.2 f).mp h))), by omega, fun t' zs' H4 s4 h4 f4 => k t' zs' _ H4 (Same.trans s1 (Same.trans s2 (Same.trans s3 s4))) h4 f4 ⟨mg2_srt _ _ _ (Nat.le_refl _) (fun f h => of f ((mem f).mpr (.inl ((hs.2 f).mp h)))) (fun f h => of f ((mem f).mpr (.inr ((srt3.2 f).mp h)))) hs.1 srt3.1, fun y => ?_⟩ (Nat.le_trans (mg2_len _ _ _ (Nat.le_refl _)) (by omega))⟩⟩
      rw [mg2_mem _ _ _ (Nat.le_refl _), hs.2, srt3.2, mem]
    have core1 : ∀ (q : Addr) (H1 : Hp) (Q1 : VK), Same H H1 → (SqL K H1 q (xs.take (xs.length / 2)) ∨ SqT K H1 q (xs.take (xs.length / 2))) → (∀ (t : Addr) (zs : List V) (gs : List Fr) H', Same H1 H' → SqT K H' t zs → Frs K H' zs gs → Srt (fs.take (xs.length / 2)) gs → gs.length ≤ xs.length / 2 → Q1 (.ref t) H') → sp_asc K m [V.ref q] H1 Q1 E0 := by
      intro q H1 Q1 s1 hq k1
      exact ⟨q, _, fs.take (xs.length / 2), rfl, hq, (hf.take _).same s1, fun f h => of f ((mem f).mpr (.inl h)), by omega, by omega, fun t zs gs H' s' h' f' srt l => k1 t zs gs H' s' h' f' srt (by omega)⟩
    rcases ha with ha | ha
    · refine .inl ⟨xs, ha, fun p H1 s1 h01 e1 => core1 p H1 _ s1 (.inl (by rw [cutV_take] at e1; exact SqL.of e1)) fun t zs gs H2 s2 h2' f2 srt l2 => .inl ⟨xs, Same.seq (Same.trans s1 s2) ha, fun p3 H3 s3 h03 e3 => core2 t p3 zs gs H2 H3 (Same.trans s1 s2) s3 h2' f2 srt l2 (.inl (by rw [cutV_drop] at e3; exact SqL.of e3))⟩⟩
    · refine .inr ⟨xs, ha, fun p H1 s1 e1 => core1 p H1 _ s1 (.inr (by rw [cutV_take] at e1; exact e1)) fun t zs gs H2 s2 h2' f2 srt l2 => .inr ⟨xs, Same.seqT (Same.trans s1 s2) ha, fun p3 H3 s3 e3 => core2 t p3 zs gs H2 H3 (Same.trans s1 s2) s3 h2' f2 srt l2 (.inr (by rw [cutV_drop] at e3; exact e3))⟩⟩
theorem ok_ascending (T : Txt w K mg) : ∀ n : Nat, FnOk P w K mg base CX0 (n + 3) T.a_ascending T.d_ascending ["values"] (sp_asc K n)
  | 0 => asc_step T 0 fun m h => absurd h (Nat.succ_ne_zero m)
  | n + 1 => asc_step T (n + 1) fun m h => by
    obtain rfl : m = n := Nat.succ.inj h
    exact ok_ascending T m
end
end LK

set_option Elab.async false
set_option linter.all false
set_option maxRecDepth 100000
namespace LK
open PySem PySem.Spec PyProof.Rows L2
local macro_rules | `(tactic| walk_at "rs") => `(tactic| simp only [cxK, cxNK, tCallZ, tAsg, tOp, rI0, rS0, rB0, rI, rU, tUn, rEq, rNe, rIxL, rIxT, rIxS, rSetL, rSlLU, rSlS, rSlU, rCatL, rCatU, rRepL, rIn, tVar, tC, gName, gSub, tIfS, tTest, tB, tAnd, tOr, tNot, tNotV, tAndV, tOrV, tIf, tCall, tCons, tNil, tCB, tDrop, tRet, tRetN, tNext, tLstU, tTupU, tM0, tM1, tPar, tPar3, tAug, ipI, tBM, tBM0, rAppend, rPop, tBreak, tCont, tChain, tSl, tPart, tNoPart, L2.start, List.map, List.length_cons, List.length_nil, List.replicate, List.cons_append, List.nil_append, List.append_nil, List.getElem?_cons_zero, List.getElem?_cons_succ, List.set_cons_zero, List.set_cons_succ, Option.some.injEq, V.int.injEq, V.ref.injEq, V.str.injEq, V.bl.injEq, exists_eq_left', exists_eq_left, exists_and_left, decide_eq_true_eq, List.cons.injEq, and_true, true_and, scal, Bool.not_eq_true', decide_eq_false_iff_not, Nat.zero_add, Nat.reduceAdd, Nat.reduceSub, reduceCtorEq, false_and, exists_false, false_or, or_false, CPow, CMul, CDiv, Int.reduceToNat, ↓reduceIte, wipe, sw, List.nil_append, List.singleton_append])
local macro_rules | `(tactic| walk_at "st") => `(tactic| (refine seq_op fun N hN => ?_; walk_at "rs"))
local macro_rules | `(tactic| walk_at "sd") => `(tactic| first | assumption | decide | omega)
local macro_rules | `(tactic| walk_at "rd") => `(tactic| repeat (first
  | refine ⟨_, SqL.of (by assumption), ?_⟩ | refine ⟨_, SqL.of upd_same, ?_⟩ | refine ⟨_, .inl (SqL.of (by assumption)), ?_⟩ | refine ⟨_, (by assumption : _ = some (HO.lst _)), ?_⟩ | refine ⟨_, upd_same, ?_⟩
  | refine ⟨_, rfl, ?_⟩ | refine And.intro (by walk_at "sd") ?_))

def iLT (K : PySem.W.Frag) (tl : TE) : TI := fun σ H R => iList K tl σ H R ∨ iTup K tl σ H R
theorem pi_lt {X : Cx} {tg l : Expr} {tl : TE} (hl : PE X l tl) : PI X tg l (iLT X.K tl) :=
  ⟨fun pins s σ H R I h => h.elim ((pi_list hl).run pins s σ H R I) ((pi_tup hl).run pins s σ H R I)⟩
/-- one added -/
def addF (t f : Fr) : Fr := (frP (t.1 * f.2 + f.1 * t.2) (t.2 * f.2), frQ (t.1 * f.2 + f.1 * t.2) (t.2 * f.2))
def sumF (fs : List Fr) : Fr := fs.foldl addF (0, 1)
def meanF (fs : List Fr) : Fr := (frP ((sumF fs).1 * 1) ((sumF fs).2 * (fs.length : Int)), frQ ((sumF fs).1 * 1) ((sumF fs).2 * (fs.length : Int)))
def midF (k : Nat) (t : Fr) : Prop := 1 ≤ t.2 ∧ Nat.gcd t.1.natAbs t.2.natAbs = 1 ∧ t.1.natAbs < 2 ^ (66 * (k + 1)) ∧ t.2.natAbs < 2 ^ (66 * (k + 1))
theorem midF_add {k : Nat} {t f : Fr} (h : midF k t) (hf : okF f) : midF (k + 1) (addF t f) ∧ t.2 * f.2 ≠ 0 := by
  obtain ⟨h1, h2, h3, h4⟩ := h
  obtain ⟨f1, f2, f3, f4⟩ := hf
  have n0 : t.2 * f.2 ≠ 0 := Int.mul_ne_zero (by omega) (by omega)
  obtain ⟨_, _, e3, e4, e5, e6, _⟩ := fr_spec (t.1 * f.2 + f.1 * t.2) n0
  have b1 : (t.1 * f.2).natAbs < 2 ^ (66 * (k + 1) + 64) := wide_lt h3 f4
  have b2 : (f.1 * t.2).natAbs < 2 ^ (66 * (k + 1) + 64) := by
    rw [Int.mul_comm]; exact wide_lt h4 f3
  have b3 : (t.2 * f.2).natAbs < 2 ^ (66 * (k + 1) + 64) := wide_lt h4 f4
  exact ⟨⟨e3, e4, pow_le (Nat.lt_of_le_of_lt e5 (two_add b1 b2)) (by omega), pow_le (Nat.lt_of_le_of_lt e6 b3) (by omega)⟩, n0⟩
theorem midF_sum {fs : List Fr} (of : ∀ f ∈ fs, okF f) : ∀ k, midF k (sumF (fs.take k)) := by
  intro k
  induction k with
  | zero =>
    show midF 0 (0, 1)
    exact ⟨by decide, by decide, by decide, by decide⟩
  | succ k ih =>
    by_cases hk : k < fs.length
    · have e : fs.take (k + 1) = fs.take k ++ [fs[k]] := (List.take_append_getElem hk).symm
      unfold sumF
      rw [e, List.foldl_append]
      exact (midF_add ih (of _ (List.getElem_mem hk))).1
    · rw [List.take_of_length_le (by omega)] at ih ⊢
      exact ⟨ih.1, ih.2.1, pow_le ih.2.2.1 (by omega), pow_le ih.2.2.2 (by omega)⟩
theorem sumF_next {fs : List Fr} {k : Nat} {f : Fr} (h : fs[k]? = some f) : sumF (fs.take (k + 1)) = addF (sumF (fs.take k)) f := by
  obtain ⟨hk, rfl⟩ := List.getElem?_eq_some_iff.mp h
  unfold sumF
  rw [← List.take_append_getElem hk, List.foldl_append]; rfl
def sp_mean (K : PySem.W.Frag) (C : Addr) : Sp := fun vs H Q E => ∃ (a : Addr) (xs : List V) (fs : List Fr), vs = [.ref a] ∧ (SqL K H a xs ∨ SqT K H a xs) ∧ Frs K H xs fs ∧ (∀ f ∈ fs, okF f) ∧ fs.length ≤ 40 ∧
  (fs ≠ [] → ∀ t H', Same H H' → H t = none → H' t = some (.tup [.int (meanF fs).1, .int (meanF fs).2]) → Q (.ref t) H') ∧
  (fs = [] → ∀ d e H', Same H H' → H d = none → H' d = some (.xd (badF (.ref e))) → H' e = some (.tup []) → E (.ref C) (some d) H')
section
variable {P : Program} {w : World} {K : PySem.W.Frag} {mg : Str → Option Value} {base : Heap}
theorem ok_mean_of (T : Txt w K mg) : FnOk P w K mg base (L2.CX P w) 5 T.a_mean_of T.d_mean_of ["values"] (sp_mean K T.C_BadValue) := by
  refine T.F_mean_of.okX sc_mean_of (fun vs H Q E h => ?_) (fun cdv A outer s H vs Q E hr h => ?_)
  · obtain ⟨a, xs, fs, rfl, _⟩ := h
    rfl
  · obtain ⟨a, xs, fs, rfl, ha, hf, of, hl, k, kE⟩ := h
    have hr_plus : Room 4 _ := hr.mono (by decide)
    have G_plus := ok_plus (P := P) (base := base) T
    have hr_quotient : Room 4 _ := hr.mono (by decide)
    have G_quotient := ok_quotient (P := P) (base := base) T
    have hr_BadValue : Room 2 _ := hr.mono (by decide)
    have G_BadValue := ok_BadValue (P := P) (base := base) T
    have lf := hf.len
    refine ⟨_, (pss_cons (ps_if (pt_cmpR op_eqI (pe_callB call_len_seq (by rfl) T.n_len (by decide +kernel) (pa_cons (pv 0) pa_nil)) pe_int (nomark _)) (pss_one (ps_raise rfl (takes_of rfl rfl rfl rfl) (pmk_oex T.X_BadValue T.i_BadValue T.t_BadValue G_BadValue hr_BadValue T.B_BadValue__init .nil pass0 (by rfl) T.m_BadValue (pa_cons (pe_tupU pa_nil) pa_nil)))) pss_nil)
      (pss_cons (ps_set (i := 1) sc_mean_of.nd rfl (Or.inl rfl) (pe_glob (v := .ref T.a_ZERO) (by rfl) T.m_ZERO rfl))
      (pss_cons (ps_for (passes_of rfl) rfl (pi_lt (pv 0)) (pg_name (i := 2) sc_mean_of.nd rfl (Or.inl rfl)) (pss_one (ps_set (i := 1) sc_mean_of.nd rfl (Or.inl rfl) (pe_call G_plus hr_plus (by rfl) T.m_plus T.F_plus.kp T.B_plus .nil pass0 (pa_cons (pv 1) (pa_cons (pv 2) pa_nil))))))
      (pss_one (ps_ret (pe_call G_quotient hr_quotient (by rfl) T.m_quotient T.F_quotient.kp T.B_quotient .nil passL (pa_cons (pv 1) (pa_cons (pe_tupU (pa_cons (pe_callB call_len_seq (by rfl) T.n_len (by decide +kernel) (pa_cons (pv 0) pa_nil)) (pa_cons pe_int pa_nil))) pa_nil)))))))), ?_⟩
    refine seq_op fun N hN => ?_
    walk_at "rs"
    refine ⟨xs, ha, ite2 (fun e => ?_) (fun e => hN _ _ ?_)⟩
    · have fn : fs = [] := List.eq_nil_of_length_eq_zero (by omega)
      have ht : ∀ K1 : List V → Hp → Prop, (∀ q H1, Same H H1 → H q = none → H1 q = some (.tup []) → K1 [.ref q] H1) → tCons (tTupU tNil) tNil [some (V.ref a), none, none] H K1 := fun K1 h => by
        walk_at "rs"
        exact ⟨by decide, fun p H2 s2 h0 h2 => h p H2 s2 h0 h2⟩
      exact ht _ fun q H1 s1 h0 h1 => ⟨by simp, mk_bad fun d H' s' hd h' => kE fn d q H' (Same.trans s1 s') (Same.dom s1 d hd) h' (s' _ _ h1)⟩
    clear hN N
    have ne : fs ≠ [] := fun z => e (by rw [lf, z]; rfl)
    replace k := k ne
    clear kE
    refine seq_op fun N hN => ?_
    walk_at "rs"
    refine hN _ _ ?_
    clear hN N
    refine cut_seq (fun σ H2 => ∃ (t : Addr) (x : Option V), σ = [some (.ref a), some (.ref t), x] ∧ Same H H2 ∧ Pr K H2 t (sumF fs).1 (sumF fs).2) (fun N hN => ?_) ?_
    · have h0 : ∃ (t : Addr) (x : Option V), ([some (V.ref a), some (V.ref T.a_ZERO), none] : L2.St) = [some (.ref a), some (.ref t), x] ∧ Same H H ∧ Pr K H t (sumF (fs.take 0)).1 (sumF (fs.take 0)).2 := ⟨_, _, rfl, Same.refl _, T.s_ZERO H⟩
      have turn : ∀ (D : Ends) (i : Nat) (y : V) (σ : L2.St) (H2 : Hp), xs[i]? = some y → (∃ (t : Addr) (x : Option V), σ = [some (.ref a), some (.ref t), x] ∧ Same H H2 ∧ Pr K H2 t (sumF (fs.take i)).1 (sumF (fs.take i)).2) → (∀ σ' H', (∃ (t : Addr) (x : Option V), σ' = [some (.ref a), some (.ref t), x] ∧ Same H H' ∧ Pr K H' t (sumF (fs.take (i + 1))).1 (sumF (fs.take (i + 1))).2) → D.nx σ' H') → gName 2 y σ H2 fun σ2 H3 => tAsg (tCall (sp_two K (fun p q r s => p * s + r * q) fun _ q _ s => q * s) [] E0 (tCons (tVar 1) (tCons (tVar 2) tNil))) (gName 1) D σ2 H3 := by
        rintro D i y σ H2 hi ⟨t, x, rfl, s2, ht⟩ hN2
        have ci : i < fs.length := by
          have := (List.getElem?_eq_some_iff.mp hi).1
          omega
        obtain ⟨u, f, xu, fu, hu⟩ := hf.get ci
        obtain rfl : y = .ref u := by rw [hi] at xu; exact Option.some.inj xu
        have mf := midF_sum of i
        obtain ⟨_, n0⟩ := midF_add mf (of f (List.mem_of_getElem? fu))
        have lim := of f (List.mem_of_getElem? fu)
        have en := sumF_next fu
        walk_at "rs"
        refine ⟨t, u, _, _, _, _, rfl, ht, Same.seqT s2 hu, pow_le mf.2.2.1 (by omega), pow_le mf.2.2.2 (by omega), pow_le lim.2.2.1 (by decide), pow_le lim.2.2.2 (by decide), n0, fun t2 H4 s4 h04 h4 => hN2 _ _ ⟨t2, _, rfl, Same.trans s2 s4, ?_⟩⟩
        rw [en]
        exact .inl (.inl h4)
      have done : ∀ σ H2, (∃ (t : Addr) (x : Option V), σ = [some (.ref a), some (.ref t), x] ∧ Same H H2 ∧ Pr K H2 t (sumF (fs.take xs.length)).1 (sumF (fs.take xs.length)).2) → N σ H2 := fun σ H2 h => by
        rw [lf, List.take_length] at h
        exact hN _ _ h
      rcases ha with ha | ha
      · exact .inl ⟨_, rfl, a, rfl, ⟨xs, ha⟩, for_list (K := K) (a := a) (xs := xs) (fun i σ H2 => ∃ (t : Addr) (x : Option V), σ = [some (.ref a), some (.ref t), x] ∧ Same H H2 ∧ Pr K H2 t (sumF (fs.take i)).1 (sumF (fs.take i)).2) h0 (fun i σ H2 _ ⟨_, _, _, s2, _⟩ => Same.seq s2 ha) (fun i y σ H2 hi hp => turn _ i y σ H2 hi hp fun _ _ z => z) done⟩
      · exact .inr ⟨_, rfl, a, rfl, ⟨xs, ha⟩, for_tup (K := K) (a := a) (xs := xs) (fun i σ H2 => ∃ (t : Addr) (x : Option V), σ = [some (.ref a), some (.ref t), x] ∧ Same H H2 ∧ Pr K H2 t (sumF (fs.take i)).1 (sumF (fs.take i)).2) h0 (fun i σ H2 _ ⟨_, _, _, s2, _⟩ => Same.seqT s2 ha) (fun i y σ H2 hi hp => turn _ i y σ H2 hi hp fun _ _ z => z) done⟩
    · rintro σ H2 ⟨t, x, rfl, s2, ht⟩
      have mf := midF_sum of fs.length
      rw [List.take_length] at mf
      have hn : fs.length ≠ 0 := fun z => ne (List.eq_nil_of_length_eq_zero z)
      have ha2 : SqL K H2 a xs ∨ SqT K H2 a xs := ha.elim (fun h => .inl (Same.seq s2 h)) fun h => .inr (Same.seqT s2 h)
      walk_at "rs"
      refine ⟨xs, ha2, by decide, fun p H3 s3 h03 h3 => ?_⟩
      rw [lf] at h3
      refine ⟨t, p, _, _, (fs.length : Int), 1, rfl, Same.seqT s3 ht, .inl (.inl h3), pow_le mf.2.2.1 (by omega), pow_le mf.2.2.2 (by omega), pow_le (a := 6) (show fs.length < 2 ^ 6 by omega) (by decide), pow_le (a := 1) (by decide) (by decide), by have := mf.1; omega, by decide, Nat.gcd_one_right _, fun _ t' H' s' h0 h' => k t' H' (Same.trans s2 (Same.trans s3 s')) (Same.dom s2 t' (Same.dom s3 t' h0)) h', fun z => absurd z (by omega)⟩
end
end LK

set_option Elab.async false
set_option linter.all false
set_option maxRecDepth 100000
namespace LK
open PySem PySem.Spec PyProof.Rows L2
local macro_rules | `(tactic| walk_at "rs") => `(tactic| simp only [cxK, cxNK, tCallZ, tAsg, tOp, rI0, rS0, rB0, rI, rU, tUn, rEq, rNe, rIxL, rIxT, rIxS, rSetL, rSlLU, rSlS, rSlU, rCatL, rCatU, rRepL, rIn, tVar, tC, gName, gSub, tIfS, tTest, tB, tAnd, tOr, tNot, tNotV, tAndV, tOrV, tIf, tCall, tCons, tNil, tCB, tDrop, tRet, tRetN, tNext, tLstU, tTupU, tM0, tM1, tPar, tPar3, tAug, ipI, tBM, tBM0, rAppend, rPop, tBreak, tCont, tChain, tSl, tPart, tNoPart, L2.start, List.map, List.length_cons, List.length_nil, List.replicate, List.cons_append, List.nil_append, List.append_nil, List.getElem?_cons_zero, List.getElem?_cons_succ, List.set_cons_zero, List.set_cons_succ, Option.some.injEq, V.int.injEq, V.ref.injEq, V.str.injEq, V.bl.injEq, exists_eq_left', exists_eq_left, exists_and_left, decide_eq_true_eq, List.cons.injEq, and_true, true_and, scal, Bool.not_eq_true', decide_eq_false_iff_not, Nat.zero_add, Nat.reduceAdd, Nat.reduceSub, reduceCtorEq, false_and, exists_false, false_or, or_false, CPow, CMul, CDiv, Int.reduceToNat, ↓reduceIte, wipe, sw, List.nil_append, List.singleton_append])
local macro_rules | `(tactic| walk_at "st") => `(tactic| (refine seq_op fun N hN => ?_; walk_at "rs"))
local macro_rules | `(tactic| walk_at "sd") => `(tactic| first | assumption | decide | omega)
local macro_rules | `(tactic| walk_at "rd") => `(tactic| repeat (first
  | refine ⟨_, SqL.of (by assumption), ?_⟩ | refine ⟨_, SqL.of upd_same, ?_⟩ | refine ⟨_, .inl (SqL.of (by assumption)), ?_⟩ | refine ⟨_, (by assumption : _ = some (HO.lst _)), ?_⟩ | refine ⟨_, upd_same, ?_⟩
  | refine ⟨_, rfl, ?_⟩ | refine And.intro (by walk_at "sd") ?_))

open LamX (Tabs TabS ExtN GivesTo pe_lamcall TabB lamS_by tLam CodeO LamS lamCx lamEnv)
/-! ### heaps, but for the bag and the tables of code objects -/
def KN (b : Addr) (H H' : Hp) : Prop := ∀ a o, a ≠ b → H a = some o → (∀ ps, o ≠ HO.tbl ps) → H' a = some o
theorem KN.refl {b : Addr} {H : Hp} : KN b H H := fun _ _ _ h _ => h
theorem KN.kp {b : Addr} {H H' : Hp} (k : Kp b H H') : KN b H H' := fun a o n h _ => (hb_some (k a o (by rw [hb_ne n]; exact h))).2
theorem KN.same {b : Addr} {H H' : Hp} (s : Same H H') : KN b H H' := fun _ _ _ h _ => s _ _ h
theorem KN.ext {b : Addr} {H H' : Hp} (s : ExtN H H') : KN b H H' := fun a o _ h n => s a o h n
theorem KN.trans {b : Addr} {H H1 H2 : Hp} (k : KN b H H1) (l : KN b H1 H2) : KN b H H2 := fun a o n h t => l a o n (k a o n h t) t
theorem KN.list {b a : Addr} {H H' : Hp} {xs : List V} (k : KN b H H') (n : a ≠ b) (h : H a = some (.lst xs)) : H' a = some (.lst xs) := k a _ n h fun _ z => by cases z
theorem KN.tup {b a : Addr} {H H' : Hp} {xs : List V} (k : KN b H H') (n : a ≠ b) (h : H a = some (.tup xs)) : H' a = some (.tup xs) := k a _ n h fun _ z => by cases z
theorem KN.seqT {K : PySem.W.Frag} {b c q : Addr} {H H' : Hp} {xs : List V} (B : Bag H b c) (k : KN b H H') (h : SqT K H q xs) : SqT K H' q xs := by
  obtain ⟨yb, eb⟩ := B.at
  rcases h with (h | ⟨o, h⟩) | h
  · refine .inl (.inl (k q _ (fun e => ?_) h fun _ z => by cases z))
    rw [e, eb] at h; cases h
  · refine .inl (.inr ⟨o, k q _ (fun e => ?_) h fun _ z => by cases z⟩)
    rw [e, eb] at h; cases h
  · exact .inr h
theorem ExtN.seqT {K : PySem.W.Frag} {q : Addr} {H H' : Hp} {xs : List V} (k : ExtN H H') (h : SqT K H q xs) : SqT K H' q xs := by
  rcases h with (h | ⟨o, h⟩) | h
  · exact .inl (.inl (k q _ h fun _ z => by cases z))
  · exact .inl (.inr ⟨o, k q _ h fun _ z => by cases z⟩)
  · exact .inr h
theorem ExtN.seqL {K : PySem.W.Frag} {q : Addr} {H H' : Hp} {xs : List V} (k : ExtN H H') (h : SqL K H q xs) : SqL K H' q xs := by
  rcases h with (h | ⟨o, h⟩) | h
  · exact .inl (.inl (k q _ h fun _ z => by cases z))
  · exact .inl (.inr ⟨o, k q _ h fun _ z => by cases z⟩)
  · exact .inr h
theorem ExtN.frs {K : PySem.W.Frag} {H H' : Hp} (k : ExtN H H') : ∀ {xs : List V} {fs : List Fr}, Frs K H xs fs → Frs K H' xs fs
  | _, _, .nil => .nil
  | _, _, .cons h q => .cons (ExtN.seqT k h) (ExtN.frs k q)
theorem Bag.ext {H H' : Hp} {b c : Addr} (B : Bag H b c) (k : ExtN H H') : Bag H' b c := by
  obtain ⟨cells, i, g, m, n, h1, h2, h3⟩ := B
  exact ⟨cells, i, g, m, n, k _ _ h1 (fun _ z => by cases z), k _ _ h2 (fun _ z => by cases z), h3⟩
theorem Same.extN {H H' : Hp} (s : Same H H') : ExtN H H' := fun _ _ h _ => s _ _ h
theorem Tabs.same {T : List (Addr × Str)} {H H' : Hp} (t : Tabs T H) (s : Same H H') : Tabs T H' := LamX.Tabs.ext t fun b o h => s b o h
theorem codeO_lst {c : Addr} {q : Str} {xs : List V} : CodeO c q ≠ .lst xs := fun z => by
  unfold LamX.CodeO at z
  cases z
theorem Tabs.kp {T : List (Addr × Str)} {H H' : Hp} {b c : Addr} (B : Bag H b c) (t : Tabs T H) (k : Kp b H H') : Tabs T H' := fun p hp => by
  obtain ⟨yb, eb⟩ := B.at
  obtain ⟨ps, h1, h2, h3⟩ := t p hp
  have n1 : p.1 ≠ b := fun e => by rw [e, eb] at h1; cases h1
  refine ⟨ps, k.hd h1 n1, h2, fun pos cv hc => ?_⟩
  obtain ⟨c0, e1, e2⟩ := h3 pos cv hc
  refine ⟨c0, e1, k.hd e2 fun e => ?_⟩
  rw [e, eb] at e2
  exact codeO_lst (Option.some.inj e2).symm
/-! ### a def whose code object is told -/
section
variable {P : Program} {w : World} {K : PySem.W.Frag} {mg : Str → Option Value} {base : Heap}
theorem Fun.okC {x qual : Str} {st : Stmt} {f c : Addr} {fd : FuncData} {N ps : List Str} {k : Nat} {sp : Sp} (F : Fun K x qual st f fd) (hc : fd.code = .ref c) (S : FnScope N ps (defScope st)) (len : ∀ vs H Q E, sp vs H Q E → vs.length = ps.length)
    (hbody : ∀ (A : Around) (outer : List Env) (s : Shared) (H : Hp) (vs : List V) (Q : VK) (E : XK), Room k (A.deeper (envOfC qual (defScope st) s.heap.objs.size f (.ref c))) → sp vs H Q E →
      ∃ t, PSs (cxOf CX0 P w K mg base N qual (defScope st) f (.ref c) A outer s H E).nox (defBody st) t ∧ t { nx := fun _ H' => Q .non H', rt := Q } (start N vs) H) : FnOk P w K mg base CX0 (k + 1) f fd ps sp := by
  obtain ⟨oc, od, kV, doc, pm, an, cdv, ct, osl, rfl, lk, hcd⟩ := F.ex
  have e : cdv = .ref c := hc
  subst e
  refine fn_of lk hcd S len fun A outer s H vs Q E hr hsp => ?_
  obtain ⟨t, h, q⟩ := hbody A outer s H vs Q E hr hsp
  exact ⟨t, h.nox, q⟩
end
/-! ### the defs with a lambda: their tables -/
def lamQ (q : Str) : Str := (envOfC q (defScope s__law_made) 0 0 .none).qual ++ "<lambda>"
section
variable {w : World} {K : PySem.W.Frag} {mg : Str → Option Value}
def Txt.TL (T : Txt w K mg) : List (Addr × Str) := [(T.P__law_made, lamQ "_law_made"), (T.P__law_joined, lamQ "_law_joined"), (T.P__law_listed, lamQ "_law_listed")]
def Txt.cs (T : Txt w K mg) : List (Addr × Addr) := [(T.c__law_made, T.P__law_made), (T.c__law_joined, T.P__law_joined), (T.c__law_listed, T.P__law_listed)]
theorem Txt.uniq (T : Txt w K mg) {p q : Addr × Str} (hp : p ∈ T.TL) (hq : q ∈ T.TL) (e : p.1 = q.1) : p.2 = q.2 := by
  have n1 := T.ne__law_made_law_joined
  have n2 := T.ne__law_made_law_listed
  have n3 := T.ne__law_joined_law_listed
  unfold Txt.TL at hp hq
  simp only [List.mem_cons, List.mem_nil_iff, or_false] at hp hq
  rcases hp with rfl | rfl | rfl <;> rcases hq with rfl | rfl | rfl <;> first | exact absurd e n1 | exact absurd e n2 | exact absurd e n3 | exact absurd e.symm n1 | exact absurd e.symm n2 | exact absurd e.symm n3 | rfl
end
/-! ### isinstance of the exception that a suite holds -/
def rIsX (C a : Addr) (cls : Value) (d : Option Addr) : List V → Hp → VK → Prop := fun xs H Q => xs = [.ref a, .ref C] ∧ cls = .ref C ∧ (∃ (dd : Addr) (fs : List (Str × V)), d = some dd ∧ H dd = some (.xd fs)) ∧ Q (.bl true) H
theorem call_isX {X : Cx} {a C : Addr} {cls : Value} {d : Option Addr} {oe : Obj} {pn : List (Addr × Obj)} (T : IsxC X.K C) (hk : PySem.W.kitOne X.K (.ref C) (.ref C) = some true) (hz : Zc cls d oe) (hf : ∃ vs, oe.data = .fields vs) : CallR (X.suite a ((a, oe) :: pn)) (.builtin "isinstance") (rIsX C a cls d) := by
  intro pins s σ H xs us Q I r h
  obtain ⟨rfl, rfl, ⟨dd, fs, rfl, hd⟩, q⟩ := h
  cases r with
  | cons rx rr =>
    cases rr with
    | cons rt rr =>
      cases rr
      cases rx
      cases rt
      obtain ⟨hget, _⟩ := I.pin (a, oe) (List.mem_append.mpr (.inl List.mem_cons_self))
      obtain ⟨vs, hv⟩ := hf
      have hx : ObjOk X.prog X.w H s.heap dd (.xd fs) := I.hok dd _ hd
      obtain ⟨mA, hns, hr⟩ := hx
      obtain ⟨od, ho, hl⟩ := lookIn_ns hns
      have J : PySem.W.InstAt s.heap a oe C (some od) := ⟨hget, hz.1, by unfold PySem.W.notCls; rw [hv] <;> rfl, by rw [hz.2]; exact ho⟩
      exact PySem.W.kia_one (PySem.W.kitx_exc T.cl T.ga T.gt T.sub T.ha T.hn T.tk T.hm) I.kIn J hk (fun z => nomatch z) fun tk => ⟨.bl true, H, I.kept (t' := tk) fun _ _ z => z, rfl, q⟩
/-- _law_ask(lambda: ..): what was told, or the error's code and value -/
def TTask (C : Addr) : (XK → Hp → VK → Prop) → Hp → VK → Prop := fun tl H Q =>
  tl (fun cls d H' => cls = .ref C ∧ ∃ (dd : Addr) (v : V), d = some dd ∧ H' dd = some (.xd (badF v)) ∧ ∀ p H2, Same H' H2 → H' p = none → H2 p = some (.lst [.str "BadValue", v]) → Q (.ref p) H2) H
    fun v H1 => 2 ≤ sizeLine ∧ ∀ p H2, Same H1 H2 → H1 p = none → H2 p = some (.lst [.str "told", v]) → Q (.ref p) H2
theorem takes_len {X : Cx} {W : WX} {n : Nat} (t : Takes X W) (hn : X.N.length = n) : Takes X (fun c d σ H => σ.length = n → W c d σ H) := fun u s' ⟨a, B, sI, pins, σ, H, cls, d, e, I, nb, up, sky, na, os, ag, w⟩ =>
  t u s' ⟨a, B, sI, pins, σ, H, cls, d, e, I, nb, up, sky, na, os, ag, w (I.len.trans hn)⟩
theorem len2 {σ : L2.St} (h : σ.length = 2) (v : V) : (σ.set 1 (some v))[1]? = some (some v) := by
  rw [List.getElem?_set_self (by omega)]
theorem ask_gives {X : Cx} (T : Txt X.w X.K X.mg) {q : Str} {g : Addr} {cdg : Value} : GivesTo X N__law_ask "_law_ask" (defScope s__law_ask) g cdg (defBody s__law_ask) "deed" q (TTask T.C_BadValue) := by
  intro f c' s H Q tl act hc h
  refine ⟨_, pss_one (ps_try_as (X := (cxOf C8.CX0 X.prog X.w X.K X.mg X.base N__law_ask "_law_ask" (defScope s__law_ask) g cdg X.A X.stack s H C8.E0).nox) (c := .ref T.C_NetError) (i := 1)
      (tb := fun W D σ H => ∃ Ech : XK, (∀ cls d σ' H', Ech cls d H' → σ'.length = 2 → W cls d σ' H') ∧ tRet (tLstU (tCons (fun _ H Q => Q (.str "told") H) (tCons (fun σZ HZ Q => σZ[0]? = some (some (.ref f)) ∧ HZ c' = some (CodeO c' q) ∧ tl Ech HZ Q) tNil))) D σ H)
      rfl rfl sc__law_ask.nd rfl rfl ⟨by rfl, by decide, .inl T.m_NetError⟩ LamX.takes0 (fun W pn xe tk _ => ?_)
      (fun a oe cls d pn hz hf => pss_one (ps_ret (pe_lstU (pa_cons (pe_xf T.x_BadValue T.c_BadValue hz hf (pv 1)) (pa_cons (pe_ifExp (pt_val (pe_callB (call_isX T.y_BadValue T.k_BadValue hz hf) (by rfl) T.n_isinstance (by decide +kernel) (pa_cons (pv 1) (pa_cons (pe_glob (v := .ref T.C_BadValue) (by rfl) T.m_BadValue rfl) pa_nil)))) (pe_xf T.x_BadValue T.v_BadValue hz hf (pv 1)) pe_non) pa_nil)))))), ?_⟩
  · refine ⟨fun pins s' σ H' D I h' => ?_⟩
    obtain ⟨Ech, hW, h3⟩ := h'
    exact (pss_one (ps_ret (pe_lstU (pa_cons pe_str (pa_cons (act (fun c d σ H => σ.length = 2 → W c d σ H) pn xe Ech _ _ (takes_len tk rfl) hW) pa_nil))))).run pins s' σ H' D I h3
  · refine ⟨fun cls d H' => cls = .ref T.C_BadValue ∧ ∃ (dd : Addr) (v : V), d = some dd ∧ H' dd = some (.xd (badF v)) ∧ ∀ p H2, Same H' H2 → H' p = none → H2 p = some (.lst [.str "BadValue", v]) → Q (.ref p) H2, ?_, ?_⟩
    · rintro cls d σ' H' ⟨rfl, dd, v, rfl, hd, k⟩ hl
      refine ⟨true, T.e_BadValue, fun _ a ha => ?_, fun z => Bool.noConfusion z⟩
      unfold tXf rIsX
      walk_at "rs"
      have h2 := len2 hl (.ref a)
      refine ⟨_, h2, rfl, _, hd, .str "BadValue", rfl, _, h2, rfl, ⟨_, hd⟩, _, h2, rfl, _, hd, v, rfl, by decide, k⟩
    · show tRet _ _ _ _
      revert h
      unfold TTask
      walk_at "rs"
      exact fun h => ⟨hc, h⟩
/-- _law_ask(lambda: ..) -/
theorem pe_ask {X : Cx} (T : Txt X.w X.K X.mg) {c P : Addr} {k : Nat} {params : Arguments} {body : Expr} {scope : Scope} {t : XK → TE} {p lpos pos : Pos} (hg : Gl X "_law_ask") (TB : TabB X.base X.mg c P) (hcode : X.env.code = .ref c) (hmT : (P, X.env.qual ++ "<lambda>") ∈ T.TL)
    (hr : Room (k + 2) X.A) (L : LamS X.env.scope scope) (hdef : defaultsOf params X.env = ([], []))
    (hbind : ∀ (q : Str) (cl : List (Str × Addr)) (pm cv ctv : Value), bindArgs (PySem.W.kla_fn "<lambda>" q params body scope cl pm cv ctv) ⟨[], []⟩ = pure [])
    (hbody : ∀ (A : Around) (outer : List Env) (s : Shared) (H : Hp) (E : XK) (f c' : Addr), Room k (A.deeper (lamEnv X scope s.heap.objs.size f c')) → PE (lamCx X A outer s H E scope f c') body (t E)) :
    PE X (.Call (.Name "_law_ask" p) [.Lambda params body scope lpos] [] pos) (tLam T.TL (TTask T.C_BadValue) t) := by
  obtain ⟨oc, od, kV, doc, pm, an, cdv, ct, osl, efd, lk, hcd⟩ := T.F__law_ask.ex
  have hb := T.B__law_ask
  rw [efd] at lk hb
  exact pe_lamcall (a := "deed") hg T.m__law_ask T.F__law_ask.kp lk hcd hb sc__law_ask rfl (.inl rfl) (ask_gives T) TB hcode hmT (fun p hp e => T.uniq hp hmT e) hr L hdef hbind hbody
end LK

set_option Elab.async false
set_option linter.all false
set_option maxRecDepth 100000
namespace LK
open PySem PySem.Spec PyProof.Rows L2
local macro_rules | `(tactic| walk_at "rs") => `(tactic| simp only [cxK, cxNK, tCallZ, tAsg, tOp, rI0, rS0, rB0, rI, rU, tUn, rEq, rNe, rIxL, rIxT, rIxS, rSetL, rSlLU, rSlS, rSlU, rCatL, rCatU, rRepL, rIn, tVar, tC, gName, gSub, tIfS, tTest, tB, tAnd, tOr, tNot, tNotV, tAndV, tOrV, tIf, tCall, tCons, tNil, tCB, tDrop, tRet, tRetN, tNext, tLstU, tTupU, tM0, tM1, tPar, tPar3, tAug, ipI, tBM, tBM0, rAppend, rPop, tBreak, tCont, tChain, tSl, tPart, tNoPart, L2.start, List.map, List.length_cons, List.length_nil, List.replicate, List.cons_append, List.nil_append, List.append_nil, List.getElem?_cons_zero, List.getElem?_cons_succ, List.set_cons_zero, List.set_cons_succ, Option.some.injEq, V.int.injEq, V.ref.injEq, V.str.injEq, V.bl.injEq, exists_eq_left', exists_eq_left, exists_and_left, decide_eq_true_eq, List.cons.injEq, and_true, true_and, scal, Bool.not_eq_true', decide_eq_false_iff_not, Nat.zero_add, Nat.reduceAdd, Nat.reduceSub, reduceCtorEq, false_and, exists_false, false_or, or_false, CPow, CMul, CDiv, Int.reduceToNat, ↓reduceIte, wipe, sw, List.nil_append, List.singleton_append])
local macro_rules | `(tactic| walk_at "st") => `(tactic| (refine seq_op fun N hN => ?_; walk_at "rs"))
local macro_rules | `(tactic| walk_at "sd") => `(tactic| first | assumption | decide | omega)
local macro_rules | `(tactic| walk_at "rd") => `(tactic| repeat (first
  | refine ⟨_, SqL.of (by assumption), ?_⟩ | refine ⟨_, SqL.of upd_same, ?_⟩ | refine ⟨_, .inl (SqL.of (by assumption)), ?_⟩ | refine ⟨_, (by assumption : _ = some (HO.lst _)), ?_⟩ | refine ⟨_, upd_same, ?_⟩
  | refine ⟨_, rfl, ?_⟩ | refine And.intro (by walk_at "sd") ?_))

open LamX (Tabs TabS ExtN GivesTo pe_lamcall TabB lamS_by tLam CodeO LamS lamCx lamEnv)
/-! ### equal worth, lowest terms -/
theorem fr_unique {P Q p q : Int} (hQ : Q ≠ 0) (h : P * q = p * Q) (hq : 1 ≤ q) (hg : Nat.gcd p.natAbs q.natAbs = 1) : frP P Q = p ∧ frQ P Q = q := by
  obtain ⟨e1, e2, e3, e4, _, _, g0⟩ := fr_spec P hQ
  have h2 : frP P Q * q = p * frQ P Q := by
    have e : (frP P Q * q) * frG P Q = (p * frQ P Q) * frG P Q := by
      have a : (frP P Q * q) * frG P Q = (frP P Q * frG P Q) * q := by
        rw [Int.mul_assoc, Int.mul_comm q, ← Int.mul_assoc]
      have b : (p * frQ P Q) * frG P Q = p * (frQ P Q * frG P Q) := Int.mul_assoc _ _ _
      rw [a, b, e1, e2, h]
    exact Int.eq_of_mul_eq_mul_right g0 e
  have hn : (frP P Q).natAbs * q.natAbs = p.natAbs * (frQ P Q).natAbs := by rw [← Int.natAbs_mul, ← Int.natAbs_mul, h2]
  have d1 : q.natAbs ∣ (frQ P Q).natAbs := by
    have d : q.natAbs ∣ p.natAbs * (frQ P Q).natAbs := ⟨(frP P Q).natAbs, by rw [← hn, Nat.mul_comm]⟩
    exact Nat.Coprime.dvd_of_dvd_mul_left (Nat.Coprime.symm hg) d
  have d2 : (frQ P Q).natAbs ∣ q.natAbs := by
    have d : (frQ P Q).natAbs ∣ (frP P Q).natAbs * q.natAbs := ⟨p.natAbs, by rw [hn, Nat.mul_comm]⟩
    exact Nat.Coprime.dvd_of_dvd_mul_left (Nat.Coprime.symm e4) d
  have en := Nat.dvd_antisymm d1 d2
  have eq : frQ P Q = q := by omega
  refine ⟨?_, eq⟩
  rw [eq] at h2
  exact Int.eq_of_mul_eq_mul_right (by omega) h2
/-- what a fraction of P and Q is worth -/
theorem fr_worth (P : Int) {Q : Int} (hQ : Q ≠ 0) : frP P Q * Q = P * frQ P Q := by
  obtain ⟨e1, e2, _⟩ := fr_spec P hQ
  have : frP P Q * Q = frP P Q * (frQ P Q * frG P Q) := by rw [e2]
  rw [this, Int.mul_comm (frQ P Q), ← Int.mul_assoc, e1]
/-- p/q + r/s - r/s and the like -/
theorem fr_back {p q r s a b : Int} (hb : b ≠ 0) (hs : s ≠ 0) (hq : 1 ≤ q) (hg : Nat.gcd p.natAbs q.natAbs = 1) (h : a * (q * s) = (p * s + r * q) * b) : frP (a * s - r * b) (b * s) = p ∧ frQ (a * s - r * b) (b * s) = q := by
  refine fr_unique (Int.mul_ne_zero hb hs) ?_ hq hg
  have e : a * (q * s) = p * s * b + r * q * b := by rw [h, Int.add_mul]
  have e1 : (a * s - r * b) * q = a * (q * s) - r * q * b := by
    rw [Int.sub_mul]
    congr 1
    · rw [Int.mul_assoc, Int.mul_comm s q]
    · rw [Int.mul_assoc, Int.mul_comm b q, ← Int.mul_assoc]
  rw [e1, e]
  have e2 : p * s * b = p * (b * s) := by rw [Int.mul_assoc, Int.mul_comm s b]
  rw [e2]; omega
theorem fr_back2 {p q r s a b : Int} (hb : b ≠ 0) (hs : s ≠ 0) (hq : 1 ≤ q) (hg : Nat.gcd p.natAbs q.natAbs = 1) (h : a * (q * s) = (p * s - r * q) * b) : frP (r * b + a * s) (s * b) = p ∧ frQ (r * b + a * s) (s * b) = q := by
  refine fr_unique (Int.mul_ne_zero hs hb) ?_ hq hg
  have e : a * (q * s) = p * s * b - r * q * b := by rw [h, Int.sub_mul]
  have e1 : (r * b + a * s) * q = a * (q * s) + r * q * b := by
    rw [Int.add_mul, Int.add_comm]
    congr 1
    · rw [Int.mul_assoc, Int.mul_comm s q]
    · rw [Int.mul_assoc, Int.mul_comm b q, ← Int.mul_assoc]
  rw [e1, e, Int.mul_assoc p s b]; omega
theorem fr_back3 {p q r s a b : Int} (hb : b ≠ 0) (hs : s ≠ 0) (hr : r ≠ 0) (hq : 1 ≤ q) (hg : Nat.gcd p.natAbs q.natAbs = 1) (h : a * (q * r) = (p * s) * b) : frP (a * r) (b * s) = p ∧ frQ (a * r) (b * s) = q := by
  refine fr_unique (Int.mul_ne_zero hb hs) ?_ hq hg
  have e1 : a * r * q = a * (q * r) := by rw [Int.mul_assoc, Int.mul_comm r q]
  rw [e1, h, Int.mul_assoc, Int.mul_comm s b]
theorem floor_ok (p : Int) {q : Int} (h : 1 ≤ q) : p.fdiv q * q ≤ p ∧ p < (p.fdiv q + 1) * q := by
  rw [Int.fdiv_eq_ediv_of_nonneg p (by omega)]
  have e := Int.mul_ediv_add_emod p q
  have e1 := Int.emod_nonneg p (show q ≠ 0 by omega)
  have e2 := Int.emod_lt_of_pos p (show 0 < q by omega)
  rw [Int.add_mul, Int.mul_comm (p / q) q, Int.one_mul]
  omega
section
variable {w : World} {K : PySem.W.Frag} {mg : Str → Option Value} (T : Txt w K mg)
theorem Txt.cs1 : (T.c__law_made, T.P__law_made) ∈ T.cs := List.mem_cons_self
theorem Txt.cs2 : (T.c__law_joined, T.P__law_joined) ∈ T.cs := List.mem_cons_of_mem _ List.mem_cons_self
theorem Txt.cs3 : (T.c__law_listed, T.P__law_listed) ∈ T.cs := List.mem_cons_of_mem _ (List.mem_cons_of_mem _ List.mem_cons_self)
theorem Txt.tl1 : (T.P__law_made, lamQ "_law_made") ∈ T.TL := List.mem_cons_self
theorem Txt.tl2 : (T.P__law_joined, lamQ "_law_joined") ∈ T.TL := List.mem_cons_of_mem _ List.mem_cons_self
theorem Txt.tl3 : (T.P__law_listed, lamQ "_law_listed") ∈ T.TL := List.mem_cons_of_mem _ (List.mem_cons_of_mem _ List.mem_cons_self)
end
theorem dp_pairL {K : PySem.W.Frag} {H : Hp} {a : Addr} {u v : V} {d e : PyData} (h : H a = some (.lst [u, v])) (h1 : Dp K H u d) (h2 : Dp K H v e) : Dp K H (.ref a) (.list [d, e]) := .lst (SqL.of h) (.cons h1 (.cons h2 .nil))
section
variable {P : Program} {w : World} {K : PySem.W.Frag} {mg : Str → Option Value} {base : Heap}
/-- a fraction within the bounds -/
def sp_cmp (K : PySem.W.Frag) : Sp := fun vs H Q _ => ∃ (a b : Addr) (f g : Fr) (n : Int), vs = [.ref a, .ref b, .int n] ∧ Pr K H a f.1 f.2 ∧ Pr K H b g.1 g.2 ∧ okF f ∧ okF g ∧ ∀ H', Same H H' → Q (.bl true) H'
theorem lim4 {f : Fr} (h : okF f) : f.1.natAbs < 2 ^ 4000 ∧ f.2.natAbs < 2 ^ 4000 := ⟨pow_le h.2.2.1 (by decide), pow_le h.2.2.2 (by decide)⟩
theorem ok__law_compared (T : Txt w K mg) : FnOk P w K mg base CX0 3 T.a__law_compared T.d__law_compared ["one", "two", "way"] (sp_cmp K) := by
  refine T.F__law_compared.ok sc__law_compared (fun vs H Q E h => ?_) (fun cdv A outer s H vs Q E hr h => ?_)
  · obtain ⟨a, b, f, g, n, rfl, _⟩ := h
    rfl
  · obtain ⟨a, b, ⟨p, q⟩, ⟨r, s'⟩, n, rfl, ha, hb, of, og, k⟩ := h
    dsimp only at ha hb
    obtain ⟨lp, lq⟩ := lim4 of
    obtain ⟨lr, ls⟩ := lim4 og
    dsimp only at lp lq lr ls
    have q1 : 1 ≤ q := of.1
    have hr__law_like : Room 1 _ := hr.mono (by decide)
    have G__law_like := ok__law_like (P := P) (base := base) T 0
    have hr_below : Room 1 _ := hr.mono (by decide)
    have G_below := ok_below (P := P) (base := base) T
    have hr_floor_of : Room 1 _ := hr.mono (by decide)
    have G_floor_of := ok_floor_of (P := P) (base := base) T
    refine ⟨_, (pss_cons (ps_set (i := 3) sc__law_compared.nd rfl (Or.inl rfl) (pe_cmpR op_lt (pe_op op_mulW (pe_ix ix_tup (pv 0) pe_int (fun _ _ => rfl)) (pe_ix ix_tup (pv 1) pe_int (fun _ _ => rfl))) (pe_op op_mulW (pe_ix ix_tup (pv 1) pe_int (fun _ _ => rfl)) (pe_ix ix_tup (pv 0) pe_int (fun _ _ => rfl))) (nomark _)))
      (pss_cons (ps_if (pt_not (pt_val (pe_call G__law_like hr__law_like (by rfl) T.m__law_like T.F__law_like.kp T.B__law_like .nil pass0 (pa_cons (pe_ifExp (pt_cmpR op_eqI (pv 2) pe_int (nomark _)) (pe_call G_below hr_below (by rfl) T.m_below T.F_below.kp T.B_below .nil pass0 (pa_cons (pv 0) (pa_cons (pv 1) pa_nil))) (pe_callZ (g := fun ws => sw ws) (gV := fun zs => sw zs) G_below hr_below (by rfl) T.m_below T.F_below.kp T.Z_below pass0 (pk_cons (pv 1) (pk_cons (pv 0) pk_nil)))) (pa_cons (pv 3) pa_nil))))) (pss_one (ps_ret pe_bl)) pss_nil)
      (pss_cons (ps_set (i := 4) sc__law_compared.nd rfl (Or.inl rfl) (pe_ifExp (pt_cmpR op_eqI (pv 2) pe_int (nomark _)) (pe_call G_floor_of hr_floor_of (by rfl) T.m_floor_of T.F_floor_of.kp T.B_floor_of .nil pass0 (pa_cons (pv 0) pa_nil)) (pe_callZ (g := fun ws => ws) (gV := fun zs => zs) G_floor_of hr_floor_of (by rfl) T.m_floor_of T.F_floor_of.kp T.Z_floor_of pass0 (pk_cons (pv 0) pk_nil))))
      (pss_one (ps_ret (pe_and (pe_call G__law_like hr__law_like (by rfl) T.m__law_like T.F__law_like.kp T.B__law_like .nil pass0 (pa_cons (pv 4) (pa_cons (pe_op op_fdivF (pe_ix ix_tup (pv 0) pe_int (fun _ _ => rfl)) (pe_ix ix_tup (pv 0) pe_int (fun _ _ => rfl))) pa_nil))) (pe_one (pe_chain op_le op_lt (pe_op op_mulW (pv 4) (pe_ix ix_tup (pv 0) pe_int (fun _ _ => rfl))) (pe_ix ix_tup (pv 0) pe_int (fun _ _ => rfl)) (pe_op op_mulW (pe_op op_add (pv 4) pe_int) (pe_ix ix_tup (pv 0) pe_int (fun _ _ => rfl))))))))))), ?_⟩
    refine seq_op fun N hN => ?_
    walk_at "rs"
    refine ⟨_, ha, _, rfl, _, hb, _, rfl, _, rfl, _, rfl, mulW lp ls, _, hb, _, rfl, _, ha, _, rfl, _, rfl, _, rfl, mulW lr lq, hN _ _ ?_⟩
    clear hN N
    refine seq_op fun N hN => ?_
    walk_at "rs"
    have core : sp__law_like K 0 [V.bl (decide (p * s' < r * q)), V.bl (decide (p * s' < r * q))] H (fun x H1 => ∃ c, x = V.bl c ∧ if c = false then Q (V.bl false) H1 else N [some (V.ref a), some (V.ref b), some (V.int n), some (V.bl (decide (p * s' < r * q))), none] H1) E0 :=
      ⟨_, _, .bool _, rfl, .bl _, .bl _, rfl, Nat.le_refl _, fun H1 s1 => ⟨true, rfl, iteFF (by decide) (hN _ _ (by
        clear hN N
        replace ha := Same.seqT s1 ha
        obtain ⟨f1, f2⟩ := floor_ok p q1
        have q0 : q ≠ 0 := by omega
        have lf : (p.fdiv q).natAbs < 2 ^ 4000 := Nat.lt_of_le_of_lt (abs_div p q1) lp
        have lf1 : (p.fdiv q + 1).natAbs < 2 ^ 4000 := pow_le (a := 65) (two_add (Nat.lt_of_le_of_lt (abs_div p q1) of.2.2.1) (by decide)) (by decide)
        refine seq_op fun N hN => ?_
        walk_at "rs"
        refine ite2 (fun _ => ?_) (fun _ => ?_)
        all_goals
          refine ⟨_, _, ha, q0, lq, hN _ _ ?_⟩
          clear hN N
          walk_at "rs"
          refine ⟨_, ha, _, rfl, _, ha, _, rfl, p, rfl, q, rfl, ⟨q0, logL lq (by decide) (by decide)⟩, ?_⟩
          refine ⟨_, _, .int (p.fdiv q), rfl, .int _, .int _, rfl, Nat.le_refl _, fun H2 s2 => ⟨true, rfl, iteTT rfl ?_⟩⟩
          have ha2 := Same.seqT s2 ha
          refine ⟨_, ha2, _, rfl, q, rfl, mulW lf lq, _, ha2, _, rfl, p, rfl, iteTT f1 ⟨_, ha2, _, rfl, q, rfl, mulW lf1 lq, p, rfl, ?_⟩⟩
          rw [decide_eq_true f2]
          exact k H2 (Same.trans s1 s2)))⟩⟩
    exact ite2 (fun _ => ⟨a, b, ⟨rfl, rfl⟩, _, _, ha, _, _, hb, lp, lq, lr, ls, core⟩) (fun _ => ⟨a, b, ⟨rfl, rfl⟩, _, _, ha, _, _, hb, lp, lq, lr, ls, core⟩)
theorem frac_at {C : Addr} {H : Hp} {p q : Int} {Q : VK} {E : XK} (hp : p.natAbs < 2 ^ 4000) (hq : q.natAbs < 2 ^ 4000) (q0 : q ≠ 0) (k : ∀ t H', Same H H' → H t = none → H' t = some (.tup [.int (frP p q), .int (frQ p q)]) → Q (.ref t) H') : sp_fraction C [.int p, .int q] H Q E :=
  ⟨p, q, rfl, logL hp (by decide) (by decide), logL hq (by decide) (by decide), fun _ => k, fun e => absurd e q0⟩
theorem exact_args {p q : Int} (hp : p.natAbs < 2 ^ 4000) (hq : q.natAbs < 2 ^ 4000) (q0 : q ≠ 0) : 1 ≤ frQ p q ∧ Nat.gcd (frP p q).natAbs (frQ p q).natAbs = 1 ∧ frP p q * q = p * frQ p q ∧ (frP p q).natAbs < 2 ^ 4000 ∧ (frQ p q).natAbs < 2 ^ 4000 := by
  obtain ⟨_, _, e3, e4, e5, e6, _⟩ := fr_spec p q0
  exact ⟨e3, e4, fr_worth p q0, Nat.lt_of_le_of_lt e5 hp, Nat.lt_of_le_of_lt e6 hq⟩
/-- with a lambda: the tables of the code objects -/
def sp_bagT (TL : List (Addr × Str)) : Sp := fun vs H Q _ => ∃ (b c : Addr), vs = [.ref b] ∧ Bag H b c ∧ Tabs TL H ∧ ∀ H', Bag H' b c → KN b H H' → Tabs TL H' → Q (.bl true) H'
theorem ok__law_made (T : Txt w K mg) (hB : ∀ p ∈ T.cs, TabB base mg p.1 p.2) : FnOk P w K mg base CX0 6 T.a__law_made T.d__law_made ["bag"] (sp_bagT T.TL) := by
  refine Fun.okC T.F__law_made T.k__law_made sc__law_made (fun vs H Q E h => ?_) (fun A outer s H vs Q E hr h => ?_)
  · obtain ⟨b, c, rfl, _⟩ := h
    rfl
  · obtain ⟨b, c, rfl, B, tb, k⟩ := h
    have hr__law_draw : Room 1 _ := hr.mono (by decide)
    have G__law_draw := ok__law_draw (P := P) (base := base) T
    have hr__law_number : Room 3 _ := hr.mono (by decide)
    have G__law_number := ok__law_number (P := P) (base := base) T
    have hr__law_exact : Room 2 _ := hr.mono (by decide)
    have G__law_exact := ok__law_exact (P := P) (base := base) T
    have hr_fraction : Room 3 _ := hr.mono (by decide)
    have G_fraction := ok_fraction (P := P) (base := base) T
    have hr__law_like : Room 2 _ := hr.mono (by decide)
    have G__law_like := ok__law_like (P := P) (base := base) T 1
    have hr_ask : Room 5 _ := hr
    obtain ⟨it, Z1⟩ := T.Z1_fraction
    obtain ⟨ds, dv, Db⟩ := T.D_fraction
    refine ⟨_, (pss_cons (ps_asg (pe_tupU (pa_cons (pe_call G__law_number hr__law_number (by rfl) T.m__law_number T.F__law_number.kp T.B__law_number .nil pass0 (pa_cons (pv 0) pa_nil)) (pa_cons (pe_call G__law_number hr__law_number (by rfl) T.m__law_number T.F__law_number.kp T.B__law_number .nil pass0 (pa_cons (pv 0) pa_nil)) pa_nil))) (pg_tup rfl (pgs_cons (pg_name (i := 1) sc__law_made.nd rfl (Or.inr rfl)) (pgs_cons (pg_name (i := 2) sc__law_made.nd rfl (Or.inr rfl)) pgs_nil))))
      (pss_cons (ps_set (i := 3) sc__law_made.nd rfl (Or.inr rfl) (pe_call G__law_draw hr__law_draw (by rfl) T.m__law_draw T.F__law_draw.kp T.B__law_draw .nil pass0 (pa_cons (pv 0) (pa_cons pe_int pa_nil))))
      (pss_cons (ps_if (pt_cmpR op_eqI (pv 3) pe_int (nomark _)) (pss_one (ps_ret (pe_and (pe_call G__law_exact hr__law_exact (by rfl) T.m__law_exact T.F__law_exact.kp T.B__law_exact .nil pass0 (pa_cons (pe_call G_fraction hr_fraction (by rfl) T.m_fraction T.F_fraction.kp Db dv passL (pa_cons (pv 1) pa_nil)) (pa_cons (pv 1) (pa_cons pe_int pa_nil)))) (pe_one (pe_call G__law_exact hr__law_exact (by rfl) T.m__law_exact T.F__law_exact.kp T.B__law_exact .nil pass0 (pa_cons (pe_callZ (g := fun ws => ws ++ [it]) (gV := fun zs => zs ++ [V.int 1]) G_fraction hr_fraction (by rfl) T.m_fraction T.F_fraction.kp Z1 passL (pk_cons (pv 2) pk_nil)) (pa_cons (pv 2) (pa_cons pe_int pa_nil)))))))) pss_nil)
      (pss_cons (ps_set (i := 4) sc__law_made.nd rfl (Or.inl rfl) (pe_ask (k := 3) T (by rfl) (hB _ T.cs1) rfl T.tl1 hr_ask (lamS_by (sc := defScope s__law_made) (by decide +kernel)) rfl (fun _ _ _ _ _ => rfl) (fun A9 outer9 s9 H9 E9 f9 c9 hr9 => (pe_ifExp (pt_cmpR op_eqI (pv 3) pe_int (nomark _)) (pe_call G_fraction hr9 (by rfl) T.m_fraction T.F_fraction.kp T.B_fraction .nil (passes_call (takes_of rfl rfl rfl rfl) (fun _ _ _ _ h => h)) (pa_cons (pv 1) (pa_cons (pv 2) pa_nil))) (pe_callZ (g := fun ws => sw ws) (gV := fun zs => sw zs) G_fraction hr9 (by rfl) T.m_fraction T.F_fraction.kp T.Z2_fraction (passes_call (takes_of rfl rfl rfl rfl) (fun _ _ _ _ h => h)) (pk_cons (pv 2) (pk_cons (pv 1) pk_nil)))))))
      (pss_cons (ps_if (pt_cmpR op_eqI (pv 2) pe_int (nomark _)) (pss_one (ps_ret (pe_call G__law_like hr__law_like (by rfl) T.m__law_like T.F__law_like.kp T.B__law_like .nil pass0 (pa_cons (pv 4) (pa_cons (pe_lstU (pa_cons pe_str (pa_cons pe_int pa_nil))) pa_nil))))) pss_nil)
      (pss_one (ps_ret (pe_and (pe_cmpR op_eqS (pe_ix ix_list (pv 4) pe_int (fun _ _ => rfl)) pe_str (nomark _)) (pe_one (pe_call G__law_exact hr__law_exact (by rfl) T.m__law_exact T.F__law_exact.kp T.B__law_exact .nil pass0 (pa_cons (pe_ix ix_list (pv 4) pe_int (fun _ _ => rfl)) (pa_cons (pv 1) (pa_cons (pv 2) pa_nil))))))))))))), ?_⟩
    refine seq_op fun N hN => ?_
    walk_at "rs"
    refine ⟨c, B, fun top H1 htop B1 K1 => ⟨c, B1, fun low H2 hlow B2 K2 => ⟨by decide, fun t0 H3 s3 h03 h3 => ?_⟩⟩⟩
    refine ⟨t0, _, rfl, .inl (.inl h3), rfl, ?_⟩
    unfold gCons gNil
    walk_at "rs"
    refine ⟨_, _, ⟨rfl, rfl⟩, _, _, rfl, rfl, hN _ _ ?_⟩
    clear hN N
    have B3 := B2.same s3
    have K3 : Kp b H H3 := Same.trans K1 (Same.trans K2 (Kp.of s3))
    refine seq_op fun N hN => ?_
    walk_at "rs"
    refine ⟨b, c, 4, rfl, B3, by decide, by decide, fun way H4 w0 w1 B4 K4 => hN _ _ ?_⟩
    clear hN N
    replace K4 : Kp b H H4 := Same.trans K3 K4
    have tb4 : Tabs T.TL H4 := Tabs.kp B tb K4
    have lt : top.natAbs < 2 ^ 4000 := pow_le htop (by decide)
    have ll : low.natAbs < 2 ^ 4000 := pow_le hlow (by decide)
    have l1 : (1 : Int).natAbs < 2 ^ 4000 := pow_le (a := 1) (by decide) (by decide)
    refine seq_op fun N hN => ?_
    walk_at "rs"
    refine ite2 (fun _ => ?_) (fun _ => hN _ _ ?_)
    · obtain ⟨x1, x2, x3, x4, x5⟩ := exact_args lt l1 (by decide)
      obtain ⟨y1, y2, y3, y4, y5⟩ := exact_args ll l1 (by decide)
      exact frac_at lt l1 (by decide) fun t H5 s5 h05 h5 => ⟨t, _, _, top, 1, ⟨rfl, rfl, rfl⟩, .inl (.inl h5), x1, x2, x3, x4, x5, lt, l1, fun H6 s6 => frac_at ll l1 (by decide) fun t2 H7 s7 _ h7 => ⟨t2, _, _, low, 1, ⟨rfl, rfl, rfl⟩, .inl (.inl h7), y1, y2, y3, y4, y5, ll, l1, fun H8 s8 => by
        have ss : Same H4 H8 := Same.trans s5 (Same.trans s6 (Same.trans s7 s8))
        exact k H8 (B4.same ss) (KN.trans (KN.kp K4) (KN.same ss)) (Tabs.same tb4 ss)⟩⟩
    clear hN N
    refine cut_seq (fun σ H5 => ∃ (p : Addr) (v : V), σ = [some (.ref b), some (.int top), some (.int low), some (.int way), some (.ref p)] ∧ KN b H H5 ∧ Bag H5 b c ∧ Tabs T.TL H5 ∧ ((low = 0 ∧ H5 p = some (.lst [.str "BadValue", .int 0])) ∨ (low ≠ 0 ∧ ∃ t, H5 p = some (.lst [.str "told", .ref t]) ∧ Pr K H5 t (frP top low) (frQ top low)))) (fun N hN => ?_) ?_
    · refine ⟨tb4, fun H5 e5 tb5 => ?_⟩
      unfold TTask
      have B5 := B4.ext e5
      have K5 : KN b H H5 := KN.trans (KN.kp K4) (KN.ext e5)
      have hard : ∀ (Q1 : VK) (E1 : XK), (low = 0 → ∀ d H', Same H5 H' → H5 d = none → H' d = some (.xd (badF (.int low))) → E1 (.ref T.C_BadValue) (some d) H') → (low ≠ 0 → ∀ t H', Same H5 H' → H5 t = none → H' t = some (.tup [.int (frP top low), .int (frQ top low)]) → Q1 (.ref t) H') → sp_fraction T.C_BadValue [V.int top, V.int low] H5 Q1 E1 := fun Q1 E1 h1 h2 => ⟨top, low, rfl, logL lt (by decide) (by decide), logL ll (by decide) (by decide), h2, h1⟩
      walk_at "rs"
      have fin : sp_fraction T.C_BadValue [V.int top, V.int low] H5 (fun v H1 => 2 ≤ sizeLine ∧ ∀ p H2, Same H1 H2 → H1 p = none → H2 p = some (.lst [.str "told", v]) → N [some (V.ref b), some (V.int top), some (V.int low), some (V.int way), some (V.ref p)] H2)
          (fun cls d H' => cls = .ref T.C_BadValue ∧ ∃ dd, d = some dd ∧ ∃ x, H' dd = some (.xd (badF x)) ∧ ∀ p H2, Same H' H2 → H' p = none → H2 p = some (.lst [.str "BadValue", x]) → N [some (V.ref b), some (V.int top), some (V.int low), some (V.int way), some (V.ref p)] H2) := by
        refine hard _ _ (fun z d H6 s6 _ h6 => ⟨rfl, d, rfl, .int low, h6, fun p H7 s7 _ h7 => hN _ _ ?_⟩) (fun nz t H6 s6 _ h6 => ⟨by decide, fun p H7 s7 _ h7 => hN _ _ ?_⟩)
        · have ss := Same.trans s6 s7
          exact ⟨p, .int low, rfl, KN.trans K5 (KN.same ss), B5.same ss, Tabs.same tb5 ss, .inl ⟨z, by rw [z] at h7; exact h7⟩⟩
        · have ss := Same.trans s6 s7
          exact ⟨p, .int low, rfl, KN.trans K5 (KN.same ss), B5.same ss, Tabs.same tb5 ss, .inr ⟨nz, t, h7, .inl (.inl (s7 _ _ h6))⟩⟩
      exact ite2 (fun _ => fin) (fun _ => fin)
    · rintro σ H5 ⟨p, v, rfl, K5, B5, tb5, hp⟩
      refine seq_op fun N hN => ?_
      walk_at "rs"
      rcases hp with ⟨z, hp⟩ | ⟨nz, t, hp, ht⟩
      · refine iteTT z ⟨by decide, fun p2 H6 s6 h06 h6 => ⟨_, _, _, rfl, dp_pairL (s6 _ _ hp) (.str _) (.int _), dp_pairL h6 (.str _) (.int _), by decide +kernel, by decide +kernel, fun H7 s7 => ?_⟩⟩
        have ss := Same.trans s6 s7
        exact k H7 (B5.same ss) (KN.trans K5 (KN.same ss)) (Tabs.same tb5 ss)
      · refine iteFF nz (hN _ _ ?_)
        clear hN N
        walk_at "rs"
        obtain ⟨x1, x2, x3, x4, x5⟩ := exact_args lt ll nz
        exact ⟨_, SqL.of hp, _, rfl, _, rfl, iteTT rfl ⟨_, SqL.of hp, _, rfl, t, _, _, top, low, ⟨rfl, rfl, rfl⟩, ht, x1, x2, x3, x4, x5, lt, ll, fun H6 s6 => k H6 (B5.same s6) (KN.trans K5 (KN.same s6)) (Tabs.same tb5 s6)⟩⟩
end
end LK

set_option Elab.async false
set_option linter.all false
set_option maxRecDepth 100000
namespace LK
open PySem PySem.Spec PyProof.Rows L2
local macro_rules | `(tactic| walk_at "rs") => `(tactic| simp only [cxK, cxNK, tCallZ, tAsg, tOp, rI0, rS0, rB0, rI, rU, tUn, rEq, rNe, rIxL, rIxT, rIxS, rSetL, rSlLU, rSlS, rSlU, rCatL, rCatU, rRepL, rIn, tVar, tC, gName, gSub, tIfS, tTest, tB, tAnd, tOr, tNot, tNotV, tAndV, tOrV, tIf, tCall, tCons, tNil, tCB, tDrop, tRet, tRetN, tNext, tLstU, tTupU, tM0, tM1, tPar, tPar3, tAug, ipI, tBM, tBM0, rAppend, rPop, tBreak, tCont, tChain, tSl, tPart, tNoPart, L2.start, List.map, List.length_cons, List.length_nil, List.replicate, List.cons_append, List.nil_append, List.append_nil, List.getElem?_cons_zero, List.getElem?_cons_succ, List.set_cons_zero, List.set_cons_succ, Option.some.injEq, V.int.injEq, V.ref.injEq, V.str.injEq, V.bl.injEq, exists_eq_left', exists_eq_left, exists_and_left, decide_eq_true_eq, List.cons.injEq, and_true, true_and, scal, Bool.not_eq_true', decide_eq_false_iff_not, Nat.zero_add, Nat.reduceAdd, Nat.reduceSub, reduceCtorEq, false_and, exists_false, false_or, or_false, CPow, CMul, CDiv, Int.reduceToNat, ↓reduceIte, wipe, sw, List.nil_append, List.singleton_append])
local macro_rules | `(tactic| walk_at "st") => `(tactic| (refine seq_op fun N hN => ?_; walk_at "rs"))
local macro_rules | `(tactic| walk_at "sd") => `(tactic| first | assumption | decide | omega)
local macro_rules | `(tactic| walk_at "rd") => `(tactic| repeat (first
  | refine ⟨_, SqL.of (by assumption), ?_⟩ | refine ⟨_, SqL.of upd_same, ?_⟩ | refine ⟨_, .inl (SqL.of (by assumption)), ?_⟩ | refine ⟨_, (by assumption : _ = some (HO.lst _)), ?_⟩ | refine ⟨_, upd_same, ?_⟩
  | refine ⟨_, rfl, ?_⟩ | refine And.intro (by walk_at "sd") ?_))

/-! ### the mean against whole numbers -/
def wsum (L : Int) (fs : List Fr) : Int := (fs.map fun f => f.1 * (L.fdiv f.2)).sum
def prodQ (fs : List Fr) : Int := fs.foldl (fun l f => l * f.2) 1
theorem add_worth {L S : Int} {t f : Fr} (ht : 1 ≤ t.2) (hf : 1 ≤ f.2) (hd : f.2 ∣ L) (h : t.1 * L = S * t.2) : (addF t f).1 * L = (S + f.1 * L.fdiv f.2) * (addF t f).2 ∧ 1 ≤ (addF t f).2 := by
  obtain ⟨c, hc⟩ := hd
  have f0 : f.2 ≠ 0 := by omega
  have t0 : t.2 ≠ 0 := by omega
  have ec : L.fdiv f.2 = c := by rw [hc, Int.mul_comm]; exact Int.mul_fdiv_cancel _ f0
  have B0 : t.2 * f.2 ≠ 0 := Int.mul_ne_zero t0 f0
  have wo := fr_worth (t.1 * f.2 + f.1 * t.2) B0
  obtain ⟨_, _, e3, _⟩ := fr_spec (t.1 * f.2 + f.1 * t.2) B0
  refine ⟨?_, e3⟩
  rw [ec]
  show frP _ _ * L = _ * frQ _ _
  generalize frP (t.1 * f.2 + f.1 * t.2) (t.2 * f.2) = X at wo
  generalize frQ (t.1 * f.2 + f.1 * t.2) (t.2 * f.2) = Y at wo
  refine Int.eq_of_mul_eq_mul_right B0 ?_
  have a1 : X * L * (t.2 * f.2) = (t.1 * f.2 + f.1 * t.2) * Y * L := by
    rw [← wo, Int.mul_assoc, Int.mul_comm L, ← Int.mul_assoc]
  have a2 : (S + f.1 * c) * Y * (t.2 * f.2) = ((S * t.2) * f.2 + f.1 * (f.2 * c) * t.2) * Y := by
    simp only [Int.add_mul, Int.mul_add, Int.mul_assoc, Int.mul_comm, Int.mul_left_comm]
  rw [a1, a2, ← h, ← hc]
  simp only [Int.add_mul, Int.mul_add, Int.mul_assoc, Int.mul_comm, Int.mul_left_comm]
theorem fold_worth {L : Int} : ∀ {fs : List Fr}, (∀ f ∈ fs, 1 ≤ f.2 ∧ f.2 ∣ L) → ∀ {t : Fr} {S : Int}, 1 ≤ t.2 → t.1 * L = S * t.2 → (fs.foldl addF t).1 * L = (S + wsum L fs) * (fs.foldl addF t).2
  | [], _, t, S, _, h => by
    show t.1 * L = (S + 0) * t.2
    rw [Int.add_zero]; exact h
  | f :: fs, hf, t, S, ht, h => by
    obtain ⟨h1, h2⟩ := hf f List.mem_cons_self
    obtain ⟨w1, w2⟩ := add_worth ht h1 h2 h
    have := fold_worth (fs := fs) (fun g hg => hf g (List.mem_cons_of_mem _ hg)) w2 w1
    have e : S + wsum L (f :: fs) = S + f.1 * L.fdiv f.2 + wsum L fs := by
      show S + (f.1 * L.fdiv f.2 + wsum L fs) = _
      omega
    rw [e]; exact this
theorem sum_worth {L : Int} {fs : List Fr} (hf : ∀ f ∈ fs, 1 ≤ f.2 ∧ f.2 ∣ L) : (sumF fs).1 * L = wsum L fs * (sumF fs).2 := by
  have := fold_worth hf (t := (0, 1)) (S := 0) (by decide) (by simp)
  rw [Int.zero_add] at this
  exact this
theorem mean_worth {L : Int} {fs : List Fr} (hf : ∀ f ∈ fs, 1 ≤ f.2 ∧ f.2 ∣ L) (h1 : 1 ≤ (sumF fs).2) (hn : fs ≠ []) : (meanF fs).1 * (L * (fs.length : Int)) = wsum L fs * (meanF fs).2 := by
  have n0 : (fs.length : Int) ≠ 0 := fun z => hn (List.eq_nil_of_length_eq_zero (by omega))
  have s0 : (sumF fs).2 ≠ 0 := by omega
  have wo := fr_worth ((sumF fs).1 * 1) (Int.mul_ne_zero s0 n0)
  have sw := sum_worth hf
  show frP _ _ * _ = _ * frQ _ _
  generalize frP ((sumF fs).1 * 1) ((sumF fs).2 * (fs.length : Int)) = X at wo
  generalize frQ ((sumF fs).1 * 1) ((sumF fs).2 * (fs.length : Int)) = Y at wo
  rw [Int.mul_one] at wo
  refine Int.eq_of_mul_eq_mul_right s0 ?_
  have a1 : X * (L * (fs.length : Int)) * (sumF fs).2 = (X * ((sumF fs).2 * (fs.length : Int))) * L := by
    simp only [Int.mul_assoc, Int.mul_comm, Int.mul_left_comm]
  have a2 : wsum L fs * Y * (sumF fs).2 = (wsum L fs * (sumF fs).2) * Y := by
    simp only [Int.mul_assoc, Int.mul_comm, Int.mul_left_comm]
  rw [a1, a2, ← sw, wo]
  simp only [Int.mul_assoc, Int.mul_comm, Int.mul_left_comm]
theorem prod_step (fs : List Fr) (k : Nat) {f : Fr} (h : fs[k]? = some f) : prodQ (fs.take (k + 1)) = prodQ (fs.take k) * f.2 := by
  obtain ⟨hk, rfl⟩ := List.getElem?_eq_some_iff.mp h
  unfold prodQ
  rw [← List.take_append_getElem hk, List.foldl_append]; rfl
theorem prod_dvd : ∀ (fs : List Fr) (t : Int), t ∣ fs.foldl (fun l f => l * f.2) t ∧ ∀ f ∈ fs, f.2 ∣ fs.foldl (fun l f => l * f.2) t
  | [], t => ⟨Int.dvd_refl t, fun f h => absurd h (by simp)⟩
  | g :: fs, t => by
    obtain ⟨h1, h2⟩ := prod_dvd fs (t * g.2)
    refine ⟨Int.dvd_trans ⟨g.2, rfl⟩ h1, fun f hf => ?_⟩
    rcases List.mem_cons.mp hf with rfl | hf
    · exact Int.dvd_trans ⟨t, Int.mul_comm _ _⟩ h1
    · exact h2 f hf
theorem prod_lim {fs : List Fr} (of : ∀ f ∈ fs, okF f) : ∀ k, 1 ≤ prodQ (fs.take k) ∧ (prodQ (fs.take k)).natAbs < 2 ^ (64 * k + 1) := by
  intro k
  induction k with
  | zero => exact ⟨Int.le_refl 1, show (1 : Int).natAbs < 2 ^ 1 by decide⟩
  | succ k ih =>
    by_cases hk : k < fs.length
    · have e := prod_step fs k (f := fs[k]) (List.getElem?_eq_getElem hk)
      have o := of _ (List.getElem_mem hk)
      rw [e]
      refine ⟨?_, ?_⟩
      · have := Int.mul_pos (show 0 < prodQ (fs.take k) by omega) (show 0 < fs[k].2 by have := o.1; omega)
        omega
      · have := wide_lt ih.2 o.2.2.2
        exact pow_le this (by omega)
    · rw [List.take_of_length_le (by omega)] at ih ⊢
      exact ⟨ih.1, pow_le ih.2 (by omega)⟩
theorem fdiv_le {L q : Int} (h : 1 ≤ q) (hd : q ∣ L) : (L.fdiv q).natAbs ≤ L.natAbs := abs_div L h
theorem wsum_lim {L : Int} {m : Nat} (hL : L.natAbs < 2 ^ m) : ∀ {fs : List Fr}, (∀ f ∈ fs, okF f) → (wsum L fs).natAbs < 2 ^ (m + 65 + fs.length)
  | [], _ => by
    show (0 : Int).natAbs < _
    exact Nat.two_pow_pos _
  | f :: fs, h => by
    have ih := wsum_lim hL (fs := fs) fun g hg => h g (List.mem_cons_of_mem _ hg)
    have o := h f List.mem_cons_self
    have a : (f.1 * L.fdiv f.2).natAbs < 2 ^ (64 + m) := wide_lt o.2.2.1 (Nat.lt_of_le_of_lt (abs_div L o.1) hL)
    have b : (f.1 * L.fdiv f.2).natAbs < 2 ^ (m + 65 + fs.length) := pow_le a (by omega)
    have c := two_add b ih
    exact pow_le c (by simp only [List.length_cons]; omega)
end LK

set_option Elab.async false
set_option linter.all false
set_option maxRecDepth 100000
namespace LK
open PySem PySem.Spec PyProof.Rows L2
local macro_rules | `(tactic| walk_at "rs") => `(tactic| simp only [cxK, cxNK, tCallZ, tAsg, tOp, rI0, rS0, rB0, rI, rU, tUn, rEq, rNe, rIxL, rIxT, rIxS, rSetL, rSlLU, rSlS, rSlU, rCatL, rCatU, rRepL, rIn, tVar, tC, gName, gSub, tIfS, tTest, tB, tAnd, tOr, tNot, tNotV, tAndV, tOrV, tIf, tCall, tCons, tNil, tCB, tDrop, tRet, tRetN, tNext, tLstU, tTupU, tM0, tM1, tPar, tPar3, tAug, ipI, tBM, tBM0, rAppend, rPop, tBreak, tCont, tChain, tSl, tPart, tNoPart, L2.start, List.map, List.length_cons, List.length_nil, List.replicate, List.cons_append, List.nil_append, List.append_nil, List.getElem?_cons_zero, List.getElem?_cons_succ, List.set_cons_zero, List.set_cons_succ, Option.some.injEq, V.int.injEq, V.ref.injEq, V.str.injEq, V.bl.injEq, exists_eq_left', exists_eq_left, exists_and_left, decide_eq_true_eq, List.cons.injEq, and_true, true_and, scal, Bool.not_eq_true', decide_eq_false_iff_not, Nat.zero_add, Nat.reduceAdd, Nat.reduceSub, reduceCtorEq, false_and, exists_false, false_or, or_false, CPow, CMul, CDiv, Int.reduceToNat, ↓reduceIte, wipe, sw, List.nil_append, List.singleton_append])
local macro_rules | `(tactic| walk_at "st") => `(tactic| (refine seq_op fun N hN => ?_; walk_at "rs"))
local macro_rules | `(tactic| walk_at "sd") => `(tactic| first | assumption | decide | omega)
local macro_rules | `(tactic| walk_at "rd") => `(tactic| repeat (first
  | refine ⟨_, SqL.of (by assumption), ?_⟩ | refine ⟨_, SqL.of upd_same, ?_⟩ | refine ⟨_, .inl (SqL.of (by assumption)), ?_⟩ | refine ⟨_, (by assumption : _ = some (HO.lst _)), ?_⟩ | refine ⟨_, upd_same, ?_⟩
  | refine ⟨_, rfl, ?_⟩ | refine And.intro (by walk_at "sd") ?_))

open LamX (Tabs TabS ExtN GivesTo pe_lamcall TabB lamS_by tLam CodeO LamS lamCx lamEnv)
section
variable {P : Program} {w : World} {K : PySem.W.Frag} {mg : Str → Option Value} {base : Heap}
/-- with a lambda, no bag -/
def sp_joined (K : PySem.W.Frag) (TL : List (Addr × Str)) : Sp := fun vs H Q _ => ∃ (a b : Addr) (f g : Fr) (n : Int), vs = [.ref a, .ref b, .int n] ∧ Pr K H a f.1 f.2 ∧ Pr K H b g.1 g.2 ∧ okF f ∧ okF g ∧ Tabs TL H ∧ ∀ H', ExtN H H' → Tabs TL H' → Q (.bl true) H'
theorem ok__law_joined (T : Txt w K mg) (hB : ∀ p ∈ T.cs, TabB base mg p.1 p.2) : FnOk P w K mg base CX0 7 T.a__law_joined T.d__law_joined ["one", "two", "way"] (sp_joined K T.TL) := by
  refine Fun.okC T.F__law_joined T.k__law_joined sc__law_joined (fun vs H Q E h => ?_) (fun A outer s H vs Q E hr h => ?_)
  · obtain ⟨a, b, f, g, n, rfl, _⟩ := h
    rfl
  · obtain ⟨a, b, ⟨p, q⟩, ⟨r, s'⟩, n, rfl, ha, hb, of, og, tb, k⟩ := h
    dsimp only at ha hb
    obtain ⟨lp, lq⟩ := lim4 of
    obtain ⟨lr, ls⟩ := lim4 og
    obtain ⟨q1, qg, bp, bq⟩ := of
    obtain ⟨s1', sg, br, bs⟩ := og
    dsimp only at lp lq lr ls q1 qg bp bq s1' sg br bs
    have hr_plus : Room 4 _ := hr.mono (by decide)
    have G_plus := ok_plus (P := P) (base := base) T
    have hr_minus : Room 4 _ := hr.mono (by decide)
    have G_minus := ok_minus (P := P) (base := base) T
    have hr_times : Room 4 _ := hr.mono (by decide)
    have G_times := ok_times (P := P) (base := base) T
    have hr__law_exact : Room 2 _ := hr.mono (by decide)
    have G__law_exact := ok__law_exact (P := P) (base := base) T
    have G_quotient := ok_quotient (P := P) (base := base) T
    have hr__law_like : Room 3 _ := hr.mono (by decide)
    have G__law_like := ok__law_like (P := P) (base := base) T 2
    have hr_ask : Room 6 _ := hr
    refine ⟨_, (pss_cons (ps_set (i := 3) sc__law_joined.nd rfl (Or.inl rfl) (pe_op op_mulW (pe_ix ix_tup (pv 0) pe_int (fun _ _ => rfl)) (pe_ix ix_tup (pv 1) pe_int (fun _ _ => rfl))))
      (pss_cons (ps_set (i := 4) sc__law_joined.nd rfl (Or.inl rfl) (pe_ifExp (pt_cmpR op_eqI (pv 2) pe_int (nomark _)) (pe_lstU (pa_cons (pe_call G_plus hr_plus (by rfl) T.m_plus T.F_plus.kp T.B_plus .nil pass0 (pa_cons (pv 0) (pa_cons (pv 1) pa_nil))) (pa_cons (pe_call G_minus hr_minus (by rfl) T.m_minus T.F_minus.kp T.B_minus .nil pass0 (pa_cons (pv 0) (pa_cons (pv 1) pa_nil))) pa_nil))) (pe_lstU (pa_cons (pe_callZ (g := fun ws => sw ws) (gV := fun zs => sw zs) G_plus hr_plus (by rfl) T.m_plus T.F_plus.kp T.Z_plus pass0 (pk_cons (pv 1) (pk_cons (pv 0) pk_nil))) (pa_cons (pe_callZ (g := fun ws => sw ws) (gV := fun zs => sw zs) G_minus hr_minus (by rfl) T.m_minus T.F_minus.kp T.Z_minus pass0 (pk_cons (pv 1) (pk_cons (pv 0) pk_nil))) pa_nil)))))
      (pss_cons (ps_if (pt_not (pt_val (pe_call G__law_exact hr__law_exact (by rfl) T.m__law_exact T.F__law_exact.kp T.B__law_exact .nil pass0 (pa_cons (pe_ix ix_list (pv 4) pe_int (fun _ _ => rfl)) (pa_cons (pe_op op_add (pe_op op_mulW (pe_ix ix_tup (pv 0) pe_int (fun _ _ => rfl)) (pe_ix ix_tup (pv 1) pe_int (fun _ _ => rfl))) (pe_op op_mulW (pe_ix ix_tup (pv 1) pe_int (fun _ _ => rfl)) (pe_ix ix_tup (pv 0) pe_int (fun _ _ => rfl)))) (pa_cons (pv 3) pa_nil)))))) (pss_one (ps_ret pe_bl)) pss_nil)
      (pss_cons (ps_if (pt_not (pt_val (pe_call G__law_exact hr__law_exact (by rfl) T.m__law_exact T.F__law_exact.kp T.B__law_exact .nil pass0 (pa_cons (pe_ix ix_list (pv 4) pe_int (fun _ _ => rfl)) (pa_cons (pe_op op_sub (pe_op op_mulW (pe_ix ix_tup (pv 0) pe_int (fun _ _ => rfl)) (pe_ix ix_tup (pv 1) pe_int (fun _ _ => rfl))) (pe_op op_mulW (pe_ix ix_tup (pv 1) pe_int (fun _ _ => rfl)) (pe_ix ix_tup (pv 0) pe_int (fun _ _ => rfl)))) (pa_cons (pv 3) pa_nil)))))) (pss_one (ps_ret pe_bl)) pss_nil)
      (pss_cons (ps_if (pt_not (pt_val (pe_call G__law_exact hr__law_exact (by rfl) T.m__law_exact T.F__law_exact.kp T.B__law_exact .nil pass0 (pa_cons (pe_ifExp (pt_cmpR op_eqI (pv 2) pe_int (nomark _)) (pe_call G_times hr_times (by rfl) T.m_times T.F_times.kp T.B_times .nil pass0 (pa_cons (pv 0) (pa_cons (pv 1) pa_nil))) (pe_callZ (g := fun ws => ws) (gV := fun zs => zs) G_times hr_times (by rfl) T.m_times T.F_times.kp T.Z_times pass0 (pk_cons (pv 0) (pk_cons (pv 1) pk_nil)))) (pa_cons (pe_op op_mulW (pe_ix ix_tup (pv 0) pe_int (fun _ _ => rfl)) (pe_ix ix_tup (pv 1) pe_int (fun _ _ => rfl))) (pa_cons (pv 3) pa_nil)))))) (pss_one (ps_ret pe_bl)) pss_nil)
      (pss_cons (ps_set (i := 5) sc__law_joined.nd rfl (Or.inl rfl) (pe_ask (k := 4) T (by rfl) (hB _ T.cs2) rfl T.tl2 hr_ask (lamS_by (sc := defScope s__law_joined) (by decide +kernel)) rfl (fun _ _ _ _ _ => rfl) (fun A9 outer9 s9 H9 E9 f9 c9 hr9 => (pe_ifExp (pt_cmpR op_eqI (pv 2) pe_int (nomark _)) (pe_call G_quotient hr9 (by rfl) T.m_quotient T.F_quotient.kp T.B_quotient .nil (passes_call (takes_of rfl rfl rfl rfl) (fun _ _ _ _ h => h)) (pa_cons (pv 0) (pa_cons (pv 1) pa_nil))) (pe_callZ (g := fun ws => sw ws) (gV := fun zs => sw zs) G_quotient hr9 (by rfl) T.m_quotient T.F_quotient.kp T.Z_quotient (passes_call (takes_of rfl rfl rfl rfl) (fun _ _ _ _ h => h)) (pk_cons (pv 1) (pk_cons (pv 0) pk_nil)))))))
      (pss_cons (ps_if (pt_cmpR op_eqI (pe_ix ix_tup (pv 1) pe_int (fun _ _ => rfl)) pe_int (nomark _)) (pss_one (ps_if (pt_not (pt_val (pe_call G__law_like hr__law_like (by rfl) T.m__law_like T.F__law_like.kp T.B__law_like .nil pass0 (pa_cons (pv 5) (pa_cons (pe_lstU (pa_cons pe_str (pa_cons (pe_tupU (pa_cons pe_int (pa_cons pe_int pa_nil))) pa_nil))) pa_nil))))) (pss_one (ps_ret pe_bl)) pss_nil)) (pss_one (ps_if (PW.pt (pw_or (pt_cmpR op_neS (pe_ix ix_list (pv 5) pe_int (fun _ _ => rfl)) pe_str (nomark _)) (pw_or1 (pt_not (pt_val (pe_call G__law_exact hr__law_exact (by rfl) T.m__law_exact T.F__law_exact.kp T.B__law_exact .nil pass0 (pa_cons (pe_ix ix_list (pv 5) pe_int (fun _ _ => rfl)) (pa_cons (pe_op op_mulW (pe_ix ix_tup (pv 0) pe_int (fun _ _ => rfl)) (pe_ix ix_tup (pv 1) pe_int (fun _ _ => rfl))) (pa_cons (pe_op op_mulW (pe_ix ix_tup (pv 0) pe_int (fun _ _ => rfl)) (pe_ix ix_tup (pv 1) pe_int (fun _ _ => rfl))) pa_nil))))))))) (pss_one (ps_ret pe_bl)) (pss_one (ps_if (pt_not (pt_val (pe_call G__law_like hr__law_like (by rfl) T.m__law_like T.F__law_like.kp T.B__law_like .nil pass0 (pa_cons (pe_call G_times hr_times (by rfl) T.m_times T.F_times.kp T.B_times .nil pass0 (pa_cons (pe_ix ix_list (pv 5) pe_int (fun _ _ => rfl)) (pa_cons (pv 1) pa_nil))) (pa_cons (pv 0) pa_nil))))) (pss_one (ps_ret pe_bl)) pss_nil)))))
      (pss_one (ps_ret (pe_and (pe_call G__law_like hr__law_like (by rfl) T.m__law_like T.F__law_like.kp T.B__law_like .nil pass0 (pa_cons (pe_call G_minus hr_minus (by rfl) T.m_minus T.F_minus.kp T.B_minus .nil pass0 (pa_cons (pe_ix ix_list (pv 4) pe_int (fun _ _ => rfl)) (pa_cons (pv 1) pa_nil))) (pa_cons (pv 0) pa_nil))) (pe_one (pe_call G__law_like hr__law_like (by rfl) T.m__law_like T.F__law_like.kp T.B__law_like .nil pass0 (pa_cons (pe_call G_plus hr_plus (by rfl) T.m_plus T.F_plus.kp T.B_plus .nil pass0 (pa_cons (pv 1) (pa_cons (pe_ix ix_list (pv 4) pe_int (fun _ _ => rfl)) pa_nil))) (pa_cons (pv 0) pa_nil)))))))))))))), ?_⟩
    refine seq_op fun N hN => ?_
    walk_at "rs"
    refine ⟨_, ha, _, rfl, _, hb, _, rfl, _, rfl, _, rfl, mulW lq ls, hN _ _ ?_⟩
    clear hN N
    have q0 : q ≠ 0 := by omega
    have s0 : s' ≠ 0 := by omega
    have l0 : q * s' ≠ 0 := Int.mul_ne_zero q0 s0
    refine cut_seq (fun σ H2 => ∃ (l u v : Addr), σ = [some (.ref a), some (.ref b), some (.int n), some (.int (q * s')), some (.ref l), none] ∧ Same H H2 ∧ H2 l = some (.lst [.ref u, .ref v]) ∧ Pr K H2 u (frP (p * s' + r * q) (q * s')) (frQ (p * s' + r * q) (q * s')) ∧ Pr K H2 v (frP (p * s' - r * q) (q * s')) (frQ (p * s' - r * q) (q * s'))) (fun N hN => ?_) ?_
    · walk_at "rs"
      have fin : sp_two K (fun p q r s => p * s + r * q) (fun x q x_1 s => q * s) [V.ref a, V.ref b] H (fun x H1 => sp_two K (fun p q r s => p * s - r * q) (fun x q x_1 s => q * s) [V.ref a, V.ref b] H1 (fun x_1 H1 => 2 ≤ sizeLine ∧ ∀ p H2, Same H1 H2 → H1 p = none → H2 p = some (.lst [x, x_1]) → N [some (V.ref a), some (V.ref b), some (V.int n), some (V.int (q * s')), some (V.ref p), none] H2) E0) E0 := by
        refine ⟨a, b, p, q, r, s', rfl, ha, hb, lp, lq, lr, ls, l0, fun u H1 e1 _ h1 => ⟨a, b, p, q, r, s', rfl, Same.seqT e1 ha, Same.seqT e1 hb, lp, lq, lr, ls, l0, fun v H2 e2 _ h2 => ⟨by decide, fun l H3 e3 _ h3 => hN _ _ ⟨l, u, v, rfl, Same.trans e1 (Same.trans e2 e3), h3, .inl (.inl (e3 _ _ (e2 _ _ h1))), .inl (.inl (e3 _ _ h2))⟩⟩⟩⟩
      exact ite2 (fun _ => fin) (fun _ => fin)
    · rintro σ H2 ⟨l, u, v, rfl, s2, hl, hu, hv⟩
      replace ha := Same.seqT s2 ha
      replace hb := Same.seqT s2 hb
      replace tb := Tabs.same tb s2
      replace k : ∀ H', ExtN H2 H' → Tabs T.TL H' → Q (.bl true) H' := fun H' e t => k H' (LamX.ExtN.trans (Same.extN s2) e) t
      clear s2
      have hS : (p * s' + r * q).natAbs < 2 ^ 4000 := pow_le (two_add (wide_lt bp bs) (wide_lt br bq)) (by decide)
      have hD : (p * s' - r * q).natAbs < 2 ^ 4000 := pow_le (two_sub (wide_lt bp bs) (wide_lt br bq)) (by decide)
      have hL : (q * s').natAbs < 2 ^ 4000 := pow_le (wide_lt bq bs) (by decide)
      have hM : (p * r).natAbs < 2 ^ 4000 := pow_le (wide_lt bp br) (by decide)
      obtain ⟨x1, x2, x3, x4, x5⟩ := exact_args hS hL l0
      obtain ⟨y1, y2, y3, y4, y5⟩ := exact_args hD hL l0
      obtain ⟨z1, z2, z3, z4, z5⟩ := exact_args hM hL l0
      refine seq_op fun N hN => ?_
      walk_at "rs"
      refine ⟨_, SqL.of hl, _, rfl, _, ha, _, rfl, _, hb, _, rfl, p, rfl, s', rfl, mulW lp ls, _, hb, _, rfl, _, ha, _, rfl, r, rfl, q, rfl, mulW lr lq, u, _, _, _, _, ⟨rfl, rfl, rfl⟩, hu, x1, x2, x3, x4, x5, hS, hL, fun H3 e3 => hN _ _ ?_⟩
      clear hN N
      have hl3 := e3 _ _ hl
      have ha3 := Same.seqT e3 ha
      have hb3 := Same.seqT e3 hb
      have hv3 : Pr K H3 v _ _ := Same.seqT e3 hv
      refine seq_op fun N hN => ?_
      walk_at "rs"
      refine ⟨_, SqL.of hl3, _, rfl, _, ha3, _, rfl, _, hb3, _, rfl, p, rfl, s', rfl, mulW lp ls, _, hb3, _, rfl, _, ha3, _, rfl, r, rfl, q, rfl, mulW lr lq, v, _, _, _, _, ⟨rfl, rfl, rfl⟩, hv3, y1, y2, y3, y4, y5, hD, hL, fun H4 e4 => hN _ _ ?_⟩
      clear hN N
      have ha4 := Same.seqT e4 ha3
      have hb4 := Same.seqT e4 hb3
      refine cut_seq (fun σ H5 => σ = [some (.ref a), some (.ref b), some (.int n), some (.int (q * s')), some (.ref l), none] ∧ Same H4 H5) (fun N hN => ?_) ?_
      · walk_at "rs"
        refine ite2 (fun _ => ?_) (fun _ => ?_)
        all_goals exact ⟨a, b, p, q, r, s', rfl, ha4, hb4, lp, lq, lr, ls, l0, fun t H5 e5 _ h5 => ⟨_, Same.seqT e5 ha4, _, rfl, _, Same.seqT e5 hb4, _, rfl, p, rfl, r, rfl, mulW lp lr, t, _, _, _, _, ⟨rfl, rfl, rfl⟩, .inl (.inl h5), z1, z2, z3, z4, z5, hM, hL, fun H6 e6 => hN _ _ ⟨rfl, Same.trans e5 e6⟩⟩⟩
      rintro σ H5 ⟨rfl, e5⟩
      have ss : Same H2 H5 := Same.trans e3 (Same.trans e4 e5)
      replace ha := Same.seqT ss ha
      replace hb := Same.seqT ss hb
      replace hu : Pr K H5 u _ _ := Same.seqT ss hu
      replace hv : Pr K H5 v _ _ := Same.seqT ss hv
      replace tb := Tabs.same tb ss
      replace hl := ss _ _ hl
      replace k : ∀ H', ExtN H5 H' → Tabs T.TL H' → Q (.bl true) H' := fun H' e t => k H' (LamX.ExtN.trans (Same.extN ss) e) t
      clear ss ha3 hb3 hl3 hv3 ha4 hb4 e3 e4 e5
      refine cut_seq (fun σ H6 => ∃ (g : Addr), σ = [some (.ref a), some (.ref b), some (.int n), some (.int (q * s')), some (.ref l), some (.ref g)] ∧ ExtN H5 H6 ∧ Tabs T.TL H6 ∧ ((r = 0 ∧ H6 g = some (.lst [.str "BadValue", .ref b])) ∨ (r ≠ 0 ∧ ∃ t, H6 g = some (.lst [.str "told", .ref t]) ∧ Pr K H6 t (frP (p * s') (q * r)) (frQ (p * s') (q * r))))) (fun N hN => ?_) ?_
      · refine ⟨tb, fun H6 e6 tb6 => ?_⟩
        unfold TTask
        walk_at "rs"
        refine ite2 (fun _ => ?_) (fun _ => ?_)
        all_goals
          refine ⟨a, b, p, q, r, s', rfl, ExtN.seqT e6 ha, ExtN.seqT e6 hb, lp, lq, lr, ls, q0, s1', sg, fun nz t H7 s7 _ h7 => ⟨by decide, fun g H8 s8 _ h8 => hN _ _ ?_⟩, fun z d H7 s7 _ h7 => ⟨rfl, d, rfl, .ref b, h7, fun g H8 s8 _ h8 => hN _ _ ?_⟩⟩
        all_goals
          have ss := Same.trans s7 s8
          have ee := LamX.ExtN.trans e6 (Same.extN ss)
          first
            | exact ⟨g, rfl, ee, Tabs.same tb6 ss, .inr ⟨nz, t, h8, .inl (.inl (s8 _ _ h7))⟩⟩
            | exact ⟨g, rfl, ee, Tabs.same tb6 ss, .inl ⟨z, h8⟩⟩
      rintro σ H6 ⟨g, rfl, e6, tb6, hg⟩
      replace ha := ExtN.seqT e6 ha
      replace hb := ExtN.seqT e6 hb
      replace hu : Pr K H6 u _ _ := ExtN.seqT e6 hu
      replace hv : Pr K H6 v _ _ := ExtN.seqT e6 hv
      replace hl := e6 _ _ hl (fun _ z => by cases z)
      replace k : ∀ H', Same H6 H' → Q (.bl true) H' := fun H' e => k H' (LamX.ExtN.trans e6 (Same.extN e)) (Tabs.same tb6 e)
      clear e6 tb tb6
      refine cut_seq (fun σ H7 => σ = [some (.ref a), some (.ref b), some (.int n), some (.int (q * s')), some (.ref l), some (.ref g)] ∧ Same H6 H7) (fun N hN => ?_) ?_
      · walk_at "rs"
        refine ⟨_, hb, _, rfl, r, rfl, ?_⟩
        rcases hg with ⟨z, hg⟩ | ⟨nz, t, hg, ht⟩
        · have e1 : s' = 1 := by
            rw [z, Int.natAbs_zero, Nat.gcd_zero_left] at sg; omega
          have hb' : Pr K H6 b 0 1 := by rw [z, e1] at hb; exact hb
          refine iteTT z ⟨by decide, fun w1 H7 s7 _ h7 => ⟨by decide, fun w2 H8 s8 _ h8 => ⟨_, _, _, rfl, dp_pairL (s8 _ _ (s7 _ _ hg)) (.str _) (dp_pair (Same.seqT (Same.trans s7 s8) hb')), dp_pairL h8 (.str _) (dp_pair (.inl (.inl (s8 _ _ h7)))), by decide +kernel, by decide +kernel, fun H9 s9 => ⟨true, rfl, iteFF (by decide) (hN _ _ ⟨rfl, Same.trans s7 (Same.trans s8 s9)⟩)⟩⟩⟩⟩
        · have hP : (p * s').natAbs < 2 ^ 4000 := pow_le (wide_lt bp bs) (by decide)
          have hQ : (q * r).natAbs < 2 ^ 4000 := pow_le (wide_lt bq br) (by decide)
          have n0 : q * r ≠ 0 := Int.mul_ne_zero q0 nz
          obtain ⟨w1, w2, w3, w4, w5⟩ := exact_args hP hQ n0
          refine iteFF nz ⟨_, SqL.of hg, _, rfl, _, rfl, iteFF (fun h => h rfl) ⟨_, SqL.of hg, _, rfl, _, ha, _, rfl, _, hb, _, rfl, p, rfl, s', rfl, mulW lp ls, _, ha, _, rfl, _, hb, _, rfl, q, rfl, r, rfl, mulW lq lr, t, _, _, _, _, ⟨rfl, rfl, rfl⟩, ht, w1, w2, w3, w4, w5, hP, hQ, fun H7 s7 => ?_⟩⟩
          obtain ⟨d1, d2⟩ := fr_back3 (a := frP (p * s') (q * r)) (b := frQ (p * s') (q * r)) (p := p) (q := q) (r := r) (s := s') (by omega) s0 nz q1 qg w3
          refine ⟨_, SqL.of (s7 _ _ hg), _, rfl, t, b, _, _, r, s', rfl, Same.seqT s7 ht, Same.seqT s7 hb, w4, w5, lr, ls, Int.mul_ne_zero (by omega) s0, fun t2 H8 e8 _ h8 => ?_⟩
          rw [d1, d2] at h8
          exact ⟨_, _, _, rfl, dp_pair (.inl (.inl h8)), dp_pair (Same.seqT e8 (Same.seqT s7 ha)), (by rfl : okD (.tuple [.int p, .int q]) = true), (show max 0 (max 0 0) + 1 ≤ 2 by decide), fun H9 e9 => ⟨true, rfl, iteFF (by decide) (hN _ _ ⟨rfl, Same.trans s7 (Same.trans e8 e9)⟩)⟩⟩
      · rintro σ H7 ⟨rfl, e7⟩
        replace ha := Same.seqT e7 ha
        replace hb := Same.seqT e7 hb
        replace hu : Pr K H7 u _ _ := Same.seqT e7 hu
        replace hv : Pr K H7 v _ _ := Same.seqT e7 hv
        replace hl := e7 _ _ hl
        walk_at "rs"
        obtain ⟨b1, b2⟩ := fr_back (a := frP (p * s' + r * q) (q * s')) (b := frQ (p * s' + r * q) (q * s')) (p := p) (q := q) (r := r) (s := s') (by omega) s0 q1 qg x3
        obtain ⟨c1, c2⟩ := fr_back2 (a := frP (p * s' - r * q) (q * s')) (b := frQ (p * s' - r * q) (q * s')) (p := p) (q := q) (r := r) (s := s') (by omega) s0 q1 qg y3
        have okd : okD (.tuple [.int p, .int q]) = true := by rfl
        have dpd : dep (.tuple [.int p, .int q]) ≤ 2 := show max 0 (max 0 0) + 1 ≤ 2 by decide
        refine ⟨_, SqL.of hl, _, rfl, u, b, _, _, r, s', rfl, hu, hb, x4, x5, lr, ls, Int.mul_ne_zero (by omega) s0, fun t H8 e8 _ h8 => ?_⟩
        rw [b1, b2] at h8
        refine ⟨_, _, _, rfl, dp_pair (.inl (.inl h8)), dp_pair (Same.seqT e8 ha), okd, dpd, fun H9 e9 => ⟨true, rfl, iteTT rfl ⟨_, SqL.of (e9 _ _ (e8 _ _ hl)), _, rfl, b, v, r, s', _, _, rfl, Same.seqT (Same.trans e8 e9) hb, Same.seqT (Same.trans e8 e9) hv, lr, ls, y4, y5, Int.mul_ne_zero s0 (by omega), fun t2 H10 e10 _ h10 => ?_⟩⟩⟩
        rw [c1, c2] at h10
        exact ⟨_, _, _, rfl, dp_pair (.inl (.inl h10)), dp_pair (Same.seqT e10 (Same.seqT (Same.trans e8 e9) ha)), okd, dpd, fun H11 e11 => k H11 (Same.trans e7 (Same.trans e8 (Same.trans e9 (Same.trans e10 e11))))⟩
end
end LK

set_option Elab.async false
set_option linter.all false
set_option maxRecDepth 100000
namespace LK
open PySem PySem.Spec PyProof.Rows L2
local macro_rules | `(tactic| walk_at "rs") => `(tactic| simp only [cxK, cxNK, tCallZ, tAsg, tOp, rI0, rS0, rB0, rI, rU, tUn, rEq, rNe, rIxL, rIxT, rIxS, rSetL, rSlLU, rSlS, rSlU, rCatL, rCatU, rRepL, rIn, tVar, tC, gName, gSub, tIfS, tTest, tB, tAnd, tOr, tNot, tNotV, tAndV, tOrV, tIf, tCall, tCons, tNil, tCB, tDrop, tRet, tRetN, tNext, tLstU, tTupU, tM0, tM1, tPar, tPar3, tAug, ipI, tBM, tBM0, rAppend, rPop, tBreak, tCont, tChain, tSl, tPart, tNoPart, L2.start, List.map, List.length_cons, List.length_nil, List.replicate, List.cons_append, List.nil_append, List.append_nil, List.getElem?_cons_zero, List.getElem?_cons_succ, List.set_cons_zero, List.set_cons_succ, Option.some.injEq, V.int.injEq, V.ref.injEq, V.str.injEq, V.bl.injEq, exists_eq_left', exists_eq_left, exists_and_left, decide_eq_true_eq, List.cons.injEq, and_true, true_and, scal, Bool.not_eq_true', decide_eq_false_iff_not, Nat.zero_add, Nat.reduceAdd, Nat.reduceSub, reduceCtorEq, false_and, exists_false, false_or, or_false, CPow, CMul, CDiv, Int.reduceToNat, ↓reduceIte, wipe, sw, List.nil_append, List.singleton_append])
local macro_rules | `(tactic| walk_at "st") => `(tactic| (refine seq_op fun N hN => ?_; walk_at "rs"))
local macro_rules | `(tactic| walk_at "sd") => `(tactic| first | assumption | decide | omega)
local macro_rules | `(tactic| walk_at "rd") => `(tactic| repeat (first
  | refine ⟨_, SqL.of (by assumption), ?_⟩ | refine ⟨_, SqL.of upd_same, ?_⟩ | refine ⟨_, .inl (SqL.of (by assumption)), ?_⟩ | refine ⟨_, (by assumption : _ = some (HO.lst _)), ?_⟩ | refine ⟨_, upd_same, ?_⟩
  | refine ⟨_, rfl, ?_⟩ | refine And.intro (by walk_at "sd") ?_))

open LamX (Tabs TabS ExtN GivesTo pe_lamcall TabB lamS_by tLam CodeO LamS lamCx lamEnv)
section
variable {X : Cx} {K : PySem.W.Frag}
theorem ix_tupK (hK : X.K = K) : IxR X (rIxT K) := by
  subst hK
  exact ix_tup
theorem op_inDK (hK : X.K = K) (hu : X.A.units + 65 < cLine) : OpR X (compareOp .In) (rInD K) := by
  subst hK
  exact op_inD hu
def rInT (K : PySem.W.Frag) : R2 := fun x y H Q => ∃ d ds, Dp K H x d ∧ Dp K H y (.tuple ds) ∧ SeqAt.shaped d = true ∧ SeqAt.shaped (.list ds) = true ∧ Q (.bl (ds.any fun z => PyData.eqv z d)) H
theorem op_inTK (hK : X.K = K) (hu : X.A.units + 65 < cLine) : OpR X (compareOp .In) (rInT K) := by
  subst hK
  intro pins s σ H x y v u Q I rx ry h
  obtain ⟨d, ds, hd, he, sd, se, q⟩ := h
  obtain ⟨as, r1⟩ := Dp.reads I d x v hd rx
  obtain ⟨bs, r2⟩ := Dp.reads I (.tuple ds) y u he ry
  exact SeqAt.in_tuple_reads r2 r1 (SeqAt.canLay_of_shaped se) (SeqAt.canLay_of_shaped sd) (room_in_shaped sd hu) ⟨.bl _, H, I, rfl, q⟩
end
/-- the comprehension over what J walks -/
def tLcB (J : It) (g : TG) (tt : TT) (te : TE) (vs : List Nat) (σ : L2.St) (Q : VK) (H1 : Hp) : Prop := tLc (fun _ H R => R J H) g tt te vs σ H1 Q
theorem lcr {te1 te : TE} {g : TG} {tt : TT} {vs : List Nat} {σ : L2.St} {H : Hp} {Q : VK} (h : te1 σ H fun x H1 => ∃ j : Int, [x] = [V.int j] ∧ -(2 ^ 62) ≤ j ∧ j < 2 ^ 62 ∧ tLcB (Itr 0 j.toNat) g tt te vs σ Q H1) : tLc (iRng1 (tCons te1 tNil)) g tt te vs σ H Q := h
theorem lcz {K : PySem.W.Frag} {ta : TA} {te : TE} {g : TG} {tt : TT} {vs : List Nat} {σ : L2.St} {H : Hp} {Q : VK} (h : ta σ H fun ws H1 => ∃ a b xs ys, ws = [.ref a, .ref b] ∧ ((SqL K H1 a xs ∧ SqL K H1 b ys ∧ tLcB (Itz K a b) g tt te vs σ Q H1) ∨ (SqT K H1 a xs ∧ SqT K H1 b ys ∧ tLcB (RZ.ItzT K a b) g tt te vs σ Q H1))) : tLc (RZ.iZipA K ta) g tt te vs σ H Q := h
def FrV (K : PySem.W.Frag) (G : Hp) (v : V) : Prop := ∃ (a : Addr) (f : Fr), v = .ref a ∧ Pr K G a f.1 f.2 ∧ okF f
theorem frv_mono {K : PySem.W.Frag} (G G' : Hp) (v : V) (s : Same G G') : FrV K G v → FrV K G' v := fun ⟨a, f, h1, h2, h3⟩ => ⟨a, f, h1, Same.seqT s h2, h3⟩
theorem frs_of {K : PySem.W.Frag} {G : Hp} : ∀ {ys : List V}, (∀ v ∈ ys, FrV K G v) → ∃ fs, Frs K G ys fs ∧ (∀ f ∈ fs, okF f)
  | [], _ => ⟨[], .nil, fun f h => absurd h (by simp)⟩
  | v :: ys, h => by
    obtain ⟨a, f, rfl, h1, h2⟩ := h v List.mem_cons_self
    obtain ⟨fs, q1, q2⟩ := frs_of (ys := ys) fun v hv => h v (List.mem_cons_of_mem _ hv)
    exact ⟨f :: fs, .cons h1 q1, fun g hg => (List.mem_cons.mp hg).elim (fun e => by rw [e]; exact h2) (q2 g)⟩
theorem FrV.kp {K : PySem.W.Frag} {b c : Addr} {G G' : Hp} {v : V} (B : Bag G b c) (k : Kp b G G') : FrV K G v → FrV K G' v := fun ⟨a, f, h1, h2, h3⟩ => ⟨a, f, h1, seqT_kp B k h2, h3⟩
/-! ### fractions as data -/
def fD (f : Fr) : PyData := .tuple [.int f.1, .int f.2]
theorem Frs.dp {K : PySem.W.Frag} {H : Hp} : ∀ {xs : List V} {fs : List Fr}, Frs K H xs fs → DpAll K H xs (fs.map fD)
  | _, _, .nil => .nil
  | _, _, .cons h q => .cons (dp_pair h) q.dp
theorem fD_eqv (f g : Fr) : PyData.eqv (fD f) (fD g) = decide (f = g) := by
  obtain ⟨p, q⟩ := f
  obtain ⟨r, s⟩ := g
  show PyData.eqv (.tuple [.int p, .int q]) (.tuple [.int r, .int s]) = _
  rw [eqv_pair, ← Bool.decide_and]
  exact decide_eq_decide.mpr ⟨fun h => Prod.ext h.1 h.2, fun h => ⟨congrArg Prod.fst h, congrArg Prod.snd h⟩⟩
theorem fD_any (g : Fr) (fs : List Fr) : ((fs.map fD).any fun z => PyData.eqv z (fD g)) = decide (g ∈ fs) := by
  rw [List.any_map]
  rw [Bool.eq_iff_iff, List.any_eq_true, decide_eq_true_iff]
  constructor
  · rintro ⟨f, hf, e⟩
    have e2 : PyData.eqv (fD f) (fD g) = true := e
    rw [fD_eqv] at e2
    rw [← of_decide_eq_true e2]; exact hf
  · intro h
    exact ⟨g, h, by show PyData.eqv (fD g) (fD g) = true; rw [fD_eqv]; exact decide_eq_true rfl⟩
theorem fD_lay (fs : List Fr) : PyData.canLayAll0 (fs.map fD) = true := by
  induction fs with
  | nil => rfl
  | cons f fs ih => show (PyData.canLay0 (fD f) && PyData.canLayAll0 (fs.map fD)) = true; rw [ih]; rfl
theorem fD_depth (fs : List Fr) : PyData.depthAll (fs.map fD) ≤ 1 := by
  induction fs with
  | nil => exact Nat.zero_le _
  | cons f fs ih => exact Nat.max_le.mpr ⟨show max 0 (max 0 0) + 1 ≤ 1 by decide, ih⟩
theorem fD_shaped (fs : List Fr) : SeqAt.shaped (.list (fs.map fD)) = true := by
  show (PyData.canLayAll0 (fs.map fD) && decide (PyData.depthAll (fs.map fD) + 1 ≤ 64)) = true
  rw [fD_lay, decide_eq_true (by have := fD_depth fs; omega)]; rfl
theorem fD_self (fs : List Fr) : PyData.eqvAll (fs.map fD) (fs.map fD) = true := by
  induction fs with
  | nil => rfl
  | cons f fs ih =>
    show (PyData.eqv (fD f) (fD f) && PyData.eqvAll (fs.map fD) (fs.map fD)) = true
    rw [ih, fD_eqv, decide_eq_true rfl]; rfl
theorem walk_zipD {K : PySem.W.Frag} {a b : Addr} {xs ys : List V} {n : Nat} (hx : n ≤ xs.length) (hy : ys.length = n) : Walk (RZ.ItzT K a b) n (fun H => SqT K H a xs ∧ SqT K H b ys) (YPair (fun i => xs[i]?) (fun i => ys[i]?)) := by
  refine ⟨fun i _ hi q => ?_, fun _ q => ⟨xs, ys, q.1, q.2, by omega⟩, fun i H v H' _ q y => ?_⟩
  · have h1 : i < xs.length := by omega
    have h2 : i < ys.length := by omega
    exact ⟨xs, ys, xs[i], ys[i], q.1, q.2, by simp [h1], by simp [h2]⟩
  · obtain ⟨T, x, z, h1, h2, h3, h4, h5⟩ := y
    exact ⟨T, x, z, h1, h2, h3, h4 xs q.1, h5 ys q.2⟩
theorem ord_neg {f g : Fr} (h : ltF f g = true) : ord3 f.1 f.2 g.1 g.2 < 0 := by
  have h := of_decide_eq_true h
  unfold ord3
  rw [if_neg (by omega), if_pos (by omega)]
  decide
theorem Frs.mem {K : PySem.W.Frag} {H : Hp} : ∀ {xs : List V} {fs : List Fr} {x : V}, Frs K H xs fs → x ∈ xs → ∃ a f, x = .ref a ∧ f ∈ fs ∧ Pr K H a f.1 f.2
  | _, _, _, .nil, h => absurd h (by simp)
  | _, _, _, .cons h q, hx => by
    rcases List.mem_cons.mp hx with rfl | hx
    · exact ⟨_, _, rfl, List.mem_cons_self, h⟩
    · obtain ⟨a, f, e, m, p⟩ := q.mem hx
      exact ⟨a, f, e, List.mem_cons_of_mem _ m, p⟩
theorem rall_true {K : PySem.W.Frag} {α : Type} {H : Hp} {D : Addr} {ys : List α} {Q : VK} (h : H D = some (.lst (ys.map fun _ => V.bl true))) (k : Q (.bl true) H) : rAll K [V.ref D] H Q := by
  refine ⟨D, ys.map fun _ => true, rfl, SqL.of (by rw [List.map_map]; exact h), ?_⟩
  have e : (ys.map fun _ => true).all id = true := by simp
  rw [e]; exact k
theorem low_lim {p q : Int} (h1 : p.natAbs < 2 ^ 64) (h2 : q.natAbs < 2 ^ 64) (q0 : q ≠ 0) : okF (frP p q, frQ p q) := by
  obtain ⟨_, _, e3, e4, e5, e6, _⟩ := fr_spec p q0
  exact ⟨e3, e4, Nat.lt_of_le_of_lt e5 h1, Nat.lt_of_le_of_lt e6 h2⟩
section
variable {P : Program} {w : World} {K : PySem.W.Frag} {mg : Str → Option Value} {base : Heap}
theorem ok__law_listed (T : Txt w K mg) (hB : ∀ p ∈ T.cs, TabB base mg p.1 p.2) : FnOk P w K mg base CX0 8 T.a__law_listed T.d__law_listed ["bag"] (sp_bagT T.TL) := by
  refine Fun.okC T.F__law_listed T.k__law_listed sc__law_listed (fun vs H Q E h => ?_) (fun A outer s H vs Q E hr h => ?_)
  · obtain ⟨b, c, rfl, _⟩ := h
    rfl
  · obtain ⟨b, c, rfl, B, tb, k⟩ := h
    have hu65 : (A.deeper (envOfC "_law_listed" (defScope s__law_listed) s.heap.objs.size T.a__law_listed (.ref T.c__law_listed))).units + 65 < cLine := Nat.lt_of_le_of_lt (Nat.add_le_add_left (by decide : 65 ≤ 16 * 7 + 200) _) hr.un
    have hr__law_draw : Room 1 _ := hr.mono (by decide)
    have G__law_draw := ok__law_draw (P := P) (base := base) T
    have hr__law_of : Room 2 _ := hr.mono (by decide)
    have G__law_of := ok__law_of (P := P) (base := base) T
    have hr__law_low : Room 1 _ := hr.mono (by decide)
    have G__law_low := ok__law_low (P := P) (base := base) T
    have hr__law_some : Room 4 _ := hr.mono (by decide)
    have G__law_some := ok__law_some (P := P) (base := base) T
    have hr__law_order : Room 1 _ := hr.mono (by decide)
    have G__law_order := ok__law_order (P := P) (base := base) T
    have hr__law_exact : Room 2 _ := hr.mono (by decide)
    have G__law_exact := ok__law_exact (P := P) (base := base) T
    have hr__law_like : Room 3 _ := hr.mono (by decide)
    have G__law_like := ok__law_like (P := P) (base := base) T 2
    have hr_ascending : Room 7 _ := hr
    have G_ascending := ok_ascending (P := P) (base := base) T 4
    have G_mean_of := ok_mean_of (P := P) (base := base) T
    have hr_ask : Room 7 _ := hr
    refine ⟨_, (pss_cons (ps_set (i := 1) sc__law_listed.nd rfl (Or.inr rfl) (pe_op op_catL (pe_lc (own := [("k", 9)]) (g := gName 9) (tt := tYes) rfl sc__law_listed.nd (pi_range1 (by rfl) T.n_range (pa_cons (pe_op op_add pe_int (pe_call G__law_draw hr__law_draw (by rfl) T.m__law_draw T.F__law_draw.kp T.B__law_draw .nil pass0 (pa_cons (pv 0) (pa_cons pe_int pa_nil)))) pa_nil)) (blkOk_by (own := [("k", 9)]) (N := N__law_listed) (sc := defScope s__law_listed) (by decide +kernel)) (fun _ _ _ _ _ => pg_name (i := 9) sc__law_listed.nd rfl (Or.inl rfl)) (fun _ _ _ _ _ => pts_nil) (fun _ _ _ _ _ => (pe_call G__law_some hr__law_some (by rfl) T.m__law_some T.F__law_some.kp T.B__law_some .nil pass0 (pa_cons (pv 0) pa_nil)))) (pe_lstU (pa_cons (pe_call G__law_low hr__law_low (by rfl) T.m__law_low T.F__law_low.kp T.B__law_low .nil pass0 (pa_cons (pe_op op_sub (pe_call G__law_draw hr__law_draw (by rfl) T.m__law_draw T.F__law_draw.kp T.B__law_draw .nil pass0 (pa_cons (pv 0) (pa_cons pe_int pa_nil))) pe_int) (pa_cons (pe_op op_add pe_int (pe_call G__law_draw hr__law_draw (by rfl) T.m__law_draw T.F__law_draw.kp T.B__law_draw .nil pass0 (pa_cons (pv 0) (pa_cons pe_int pa_nil)))) pa_nil))) pa_nil))))
      (pss_cons (ps_set (i := 2) sc__law_listed.nd rfl (Or.inr rfl) (pe_lc (own := [("k", 9)]) (g := gName 9) (tt := tYes) rfl sc__law_listed.nd (pi_range1 (by rfl) T.n_range (pa_cons (pe_call G__law_draw hr__law_draw (by rfl) T.m__law_draw T.F__law_draw.kp T.B__law_draw .nil pass0 (pa_cons (pv 0) (pa_cons pe_int pa_nil))) pa_nil)) (blkOk_by (own := [("k", 9)]) (N := N__law_listed) (sc := defScope s__law_listed) (by decide +kernel)) (fun _ _ _ _ _ => pg_name (i := 9) sc__law_listed.nd rfl (Or.inl rfl)) (fun _ _ _ _ _ => pts_nil) (fun _ _ _ _ _ => (pe_call G__law_of hr__law_of (by rfl) T.m__law_of T.F__law_of.kp T.B__law_of .nil pass0 (pa_cons (pv 0) (pa_cons (pv 1) pa_nil))))))
      (pss_cons (ps_set (i := 3) sc__law_listed.nd rfl (Or.inr rfl) (pe_callTy call_listU (by rfl) T.n_list (by decide +kernel) (pa_cons (pv 2) pa_nil)))
      (pss_cons (ps_if (pt_cmpR op_eqI (pe_call G__law_draw hr__law_draw (by rfl) T.m__law_draw T.F__law_draw.kp T.B__law_draw .nil pass0 (pa_cons (pv 0) (pa_cons pe_int pa_nil))) pe_int (nomark _)) (pss_one (ps_set (i := 3) sc__law_listed.nd rfl (Or.inr rfl) (pe_callTy call_tupleN (by rfl) T.n_tuple (by decide +kernel) (pa_cons (pv 2) pa_nil)))) pss_nil)
      (pss_cons (ps_for PassesOwn.never rfl (pi_range1 (by rfl) T.n_range (pa_cons pe_int pa_nil)) (pg_name (i := 4) sc__law_listed.nd rfl (Or.inr rfl)) (pss_cons (ps_set (i := 5) sc__law_listed.nd rfl (Or.inr rfl) (pe_ifExp (pt_cmpR op_eqI (pv 4) pe_int (nomark _)) (pe_call G_ascending hr_ascending (by rfl) T.m_ascending T.F_ascending.kp T.B_ascending .nil pass0 (pa_cons (pv 3) pa_nil)) (pe_callZ (g := fun ws => ws) (gV := fun zs => zs) G_ascending hr_ascending (by rfl) T.m_ascending T.F_ascending.kp T.Z_ascending pass0 (pk_cons (pv 3) pk_nil))))
      (pss_cons (ps_if (PW.pt (pw_or (pt_not (pt_val (pe_callB (call_isiDK (K := K) rfl) (by rfl) T.n_isinstance (by decide +kernel) (pa_cons (pv 5) (pa_cons (pe_bltn (v := .ty "tuple") (u := .type "tuple") (by rfl) T.n_tuple (by decide +kernel) rfl) pa_nil))))) (pw_or (pt_not (pt_val (pe_callB (cr_all rfl) (by rfl) T.n_all (by decide +kernel) (pa_cons (pe_lc (own := [("one", 8)]) (g := gName 8) (tt := tYes) rfl sc__law_listed.nd (pi_tup (pv 5)) (blkOk_by (own := [("one", 8)]) (N := N__law_listed) (sc := defScope s__law_listed) (by decide +kernel)) (fun _ _ _ _ _ => pg_name (i := 8) sc__law_listed.nd rfl (Or.inl rfl)) (fun _ _ _ _ _ => pts_nil) (fun _ _ _ _ _ => (pe_cmpR (op_inDK (K := K) rfl hu65) (pv 8) (pv 2) (by rfl)))) pa_nil)))) (pw_or1 (pt_not (pt_val (pe_callB (cr_all rfl) (by rfl) T.n_all (by decide +kernel) (pa_cons (pe_lc (own := [("one", 8)]) (g := gName 8) (tt := tYes) rfl sc__law_listed.nd (pi_list (pv 2)) (blkOk_by (own := [("one", 8)]) (N := N__law_listed) (sc := defScope s__law_listed) (by decide +kernel)) (fun _ _ _ _ _ => pg_name (i := 8) sc__law_listed.nd rfl (Or.inl rfl)) (fun _ _ _ _ _ => pts_nil) (fun _ _ _ _ _ => (pe_cmpR (op_inTK (K := K) rfl hu65) (pv 8) (pv 5) (by rfl)))) pa_nil)))))))) (pss_one (ps_ret pe_bl)) pss_nil)
      (pss_cons (ps_if (pt_not (pt_val (pe_callB (cr_all rfl) (by rfl) T.n_all (by decide +kernel) (pa_cons (pe_lc (own := [("one", 8), ("two", 10)]) (g := gTup K 2 (gCons (gName 8) (gCons (gName 10) (gNil)))) (tt := tYes) rfl sc__law_listed.nd (RZ.pi_zipA (by rfl) T.n_zip (pa_cons (pv 5) (pa_cons (pe_slice sl_tupU (pv 5) (po_some pe_int) po_none) pa_nil))) (blkOk_by (own := [("one", 8), ("two", 10)]) (N := N__law_listed) (sc := defScope s__law_listed) (by decide +kernel)) (fun _ _ _ _ _ => by exact (pg_tup rfl (pgs_cons (pg_name (i := 8) sc__law_listed.nd rfl (Or.inl rfl)) (pgs_cons (pg_name (i := 10) sc__law_listed.nd rfl (Or.inl rfl)) pgs_nil)))) (fun _ _ _ _ _ => pts_nil) (fun _ _ _ _ _ => (pe_cmpR op_lt (pe_call G__law_order hr__law_order (by rfl) T.m__law_order T.F__law_order.kp T.B__law_order .nil pass0 (pa_cons (pv 8) (pa_cons (pv 10) pa_nil))) pe_int (nomark _)))) pa_nil)))) (pss_one (ps_ret pe_bl)) pss_nil)
      (pss_cons (ps_set (i := 6) sc__law_listed.nd rfl (Or.inl rfl) (pe_ask (k := 5) T (by rfl) (hB _ T.cs3) rfl T.tl3 hr_ask (lamS_by (sc := defScope s__law_listed) (by decide +kernel)) rfl (fun _ _ _ _ _ => rfl) (fun A9 outer9 s9 H9 E9 f9 c9 hr9 => (pe_ifExp (pt_cmpR op_eqI (pv 4) pe_int (nomark _)) (pe_call G_mean_of hr9 (by rfl) T.m_mean_of T.F_mean_of.kp T.B_mean_of .nil (passes_call (takes_of rfl rfl rfl rfl) (fun _ _ _ _ h => h)) (pa_cons (pv 3) pa_nil)) (pe_callZ (g := fun ws => ws) (gV := fun zs => zs) G_mean_of hr9 (by rfl) T.m_mean_of T.F_mean_of.kp T.Z_mean_of (passes_call (takes_of rfl rfl rfl rfl) (fun _ _ _ _ h => h)) (pk_cons (pv 3) pk_nil))))))
      (pss_cons (ps_if (pt_cmpR (op_eqD hr.units) (pv 2) (pe_lstU pa_nil) (nomark _)) (pss_cons (ps_if (pt_not (pt_val (pe_call G__law_like hr__law_like (by rfl) T.m__law_like T.F__law_like.kp T.B__law_like .nil pass0 (pa_cons (pv 6) (pa_cons (pe_lstU (pa_cons pe_str (pa_cons (pe_tupU pa_nil) pa_nil))) pa_nil))))) (pss_one (ps_ret pe_bl)) pss_nil)
      (pss_one ps_continue)) pss_nil)
      (pss_cons (ps_set (i := 7) sc__law_listed.nd rfl (Or.inr rfl) pe_int)
      (pss_cons (ps_for PassesOwn.never rfl (pi_list (pv 2)) (pg_name (i := 8) sc__law_listed.nd rfl (Or.inl rfl)) (pss_one (ps_set (i := 7) sc__law_listed.nd rfl (Or.inr rfl) (pe_op op_mulW (pv 7) (pe_ix ix_tup (pv 8) pe_int (fun _ _ => rfl))))))
      (pss_one (ps_if (PW.pt (pw_or (pt_cmpR op_neS (pe_ix ix_list (pv 6) pe_int (fun _ _ => rfl)) pe_str (nomark _)) (pw_or1 (pt_not (pt_val (pe_call G__law_exact hr__law_exact (by rfl) T.m__law_exact T.F__law_exact.kp T.B__law_exact .nil pass0 (pa_cons (pe_ix ix_list (pv 6) pe_int (fun _ _ => rfl)) (pa_cons (pe_callB (cr_sum rfl) (by rfl) T.n_sum (by decide +kernel) (pa_cons (pe_lc (own := [("one", 8)]) (g := gName 8) (tt := tYes) rfl sc__law_listed.nd (pi_list (pv 2)) (blkOk_by (own := [("one", 8)]) (N := N__law_listed) (sc := defScope s__law_listed) (by decide +kernel)) (fun _ _ _ _ _ => pg_name (i := 8) sc__law_listed.nd rfl (Or.inl rfl)) (fun _ _ _ _ _ => pts_nil) (fun _ _ _ _ _ => (pe_op op_mulW (pe_ix (ix_tupK (K := K) rfl) (pv 8) pe_int (fun _ _ => rfl)) (pe_op op_fdivF (pv 7) (pe_ix (ix_tupK (K := K) rfl) (pv 8) pe_int (fun _ _ => rfl)))))) pa_nil)) (pa_cons (pe_op op_mulW (pv 7) (pe_callB call_len_seq (by rfl) T.n_len (by decide +kernel) (pa_cons (pv 2) pa_nil))) pa_nil))))))))) (pss_one (ps_ret pe_bl)) pss_nil))))))))))
      (pss_one (ps_ret (pe_cmpR (op_eqD hr.units) (pe_callTy call_listU (by rfl) T.n_list (by decide +kernel) (pa_cons (pv 3) pa_nil)) (pv 2) (nomark _))))))))), ?_⟩
    refine cut_seq (fun σ H2 => ∃ (pl : Addr) (ys : List V), σ = [some (.ref b), some (.ref pl), none, none, none, none, none, none, none, none, none] ∧ H2 pl = some (.lst ys) ∧ pl ≠ b ∧ (∀ v ∈ ys, FrV K H2 v) ∧ ys ≠ [] ∧ ys.length ≤ 7 ∧ Bag H2 b c ∧ Kp b H H2) (fun N hN => ?_) ?_
    · walk_at "rs"
      refine lcr ?_
      walk_at "rs"
      refine ⟨b, c, 6, rfl, B, by decide, by decide, fun r H1 r0 r1 B1 K1 => ⟨r, rfl, by omega, by omega, fun D hD => lc_draw (n := (1 + r).toNat) walk_range (FrV K) frv_mono hD B1 (by omega) (fun _ _ _ _ y => y.1) (fun _ _ => trivial) ?_ ?_⟩⟩
      · intro x H3 K3 B3 Q2 hq
        walk_at "rs"
        refine ⟨b, c, rfl, B3, fun t p q H4 e1 e2 e3 e4 e5 e6 B4 K4 => hq _ H4 B4 K4 ⟨t, (p, q), rfl, .inl (.inl (nw_of e5 e6)), e1, e2, e3, e4⟩⟩
      · intro H3 ys B3 K3 h3 hl hp
        have nD := new_ne B1 hD
        walk_at "rs"
        refine ⟨b, c, 9, rfl, B3, by decide, by decide, fun x1 H4 a0 a1 B4 K4 => ⟨x1, rfl, b, c, 6, rfl, B4, by decide, by decide, fun x2 H5 c0 c1 B5 K5 => ⟨x2, rfl, x1 - 4, 1 + x2, ⟨rfl, rfl⟩, by omega, pow_le (a := 64) (by omega) (by decide), pow_le (a := 64) (by omega) (by decide), fun t H6 s6 h06 h6 => ⟨by decide, fun p H7 s7 h07 h7 => ⟨ys, s7 _ _ (s6 _ _ (K5.hd (K4.hd h3 nD) nD)), _, h7, ?_, fun p2 H8 s8 h08 h8 => hN _ _ ?_⟩⟩⟩⟩⟩
        · exact Nat.le_trans (show ys.length + 1 ≤ 100 by omega) (by decide)
        have K38 : Kp b H3 H8 := Same.trans K4 (Same.trans K5 (Same.trans (Kp.of s6) (Same.trans (Kp.of s7) (Kp.of s8))))
        have B8 : Bag H8 b c := ((B5.same s6).same s7).same s8
        have all : ∀ v ∈ ys ++ [V.ref t], FrV K H8 v := fun v hv => by
          rcases List.mem_append.mp hv with hv | hv
          · exact FrV.kp B3 K38 (frv_mono _ _ _ (nw_le _ _) (hp v hv))
          · obtain rfl := List.mem_singleton.mp hv
            exact ⟨t, _, rfl, .inl (.inl (s8 _ _ (s7 _ _ h6))), low_lim (p := x1 - 4) (q := 1 + x2) (by omega) (by omega) (by omega)⟩
        exact ⟨p2, ys ++ [.ref t], rfl, h8, new_ne ((B5.same s6).same s7) h08, all, by simp, by rw [List.length_append]; simp only [List.length_cons, List.length_nil]; omega, B8, Same.trans K1 (Same.trans K3 K38)⟩
    · rintro σ H2 ⟨pl, ys, rfl, hpl, nb, hf, yn, yl, B2, K2⟩
      refine seq_op fun N hN => ?_
      walk_at "rs"
      refine lcr ?_
      walk_at "rs"
      refine ⟨b, c, 10, rfl, B2, by decide, by decide, fun r H3 r0 r1 B3 K3 => ⟨r, rfl, by omega, by omega, fun D hD => lc_draw (n := r.toNat) walk_range (fun _ v => v ∈ ys) (fun _ _ _ _ h => h) hD B3 (by omega) (fun _ _ _ _ y => y.1) (fun _ _ => trivial) ?_ ?_⟩⟩
      · intro x H4 K4 B4 Q2 hq
        walk_at "rs"
        exact of_lst B4 (K4.hd (K3.hd hpl nb) nb) nb yn (by omega) fun y H5 hy B5 K5 => hq y H5 B5 K5 hy
      intro H4 xs B4 K4 h4 hl hp
      have nD := new_ne B3 hD
      have K34 : Kp b H2 H4 := Same.trans K3 K4
      have fx : ∀ v ∈ xs, FrV K H4 v := fun v hv => FrV.kp B2 K34 (hf v (hp v hv))
      replace K34 : Kp b H H4 := Same.trans K2 K34
      have xl : xs.length ≤ 9 := by omega
      refine hN _ _ ?_
      clear hN N hp hl hf K3 K4 hD B3 K2 B2 yn yl hpl nb
      refine seq_op fun N hN => ?_
      walk_at "rs"
      refine ⟨xs, .inl (SqL.of h4), fun ps H5 s5 h05 h5 => hN _ _ ?_⟩
      clear hN N
      refine cut_seq (fun σ H6 => ∃ (ps : Addr), σ = [some (.ref b), some (.ref pl), some (.ref D), some (.ref ps), none, none, none, none, none, none, none] ∧ H6 D = some (.lst xs) ∧ ((H6 ps = some (.lst xs) ∧ ps ≠ b) ∨ H6 ps = some (.tup xs)) ∧ (∀ v ∈ xs, FrV K H6 v) ∧ Bag H6 b c ∧ Kp b H H6) (fun N hN => ?_) ?_
      · walk_at "rs"
        have K5 : Kp b H H5 := Same.trans K34 (Kp.of s5)
        have B5 := B4.same s5
        have pn := new_ne B4 h05
        refine ⟨b, c, 2, rfl, B5, by decide, by decide, fun r2 H6 _ _ B6 K6 => ⟨r2, rfl, ite2 (fun _ => ⟨xs, SqL.of (K6.hd (s5 _ _ h4) nD), fun q H7 s7 h07 h7 => hN _ _ ?_⟩) (fun _ => hN _ _ ?_)⟩⟩
        · have K47 : Kp b H4 H7 := Same.trans (Kp.of s5) (Same.trans K6 (Kp.of s7))
          exact ⟨q, rfl, K47.hd h4 nD, .inr h7, fun v hv => FrV.kp B4 K47 (fx v hv), B6.same s7, Same.trans K5 (Same.trans K6 (Kp.of s7))⟩
        · have K46 : Kp b H4 H6 := Same.trans (Kp.of s5) K6
          exact ⟨ps, rfl, K46.hd h4 nD, .inl ⟨K6.hd h5 pn, pn⟩, fun v hv => FrV.kp B4 K46 (fx v hv), B6, Same.trans K5 K6⟩
      rintro σ H6 ⟨ps, rfl, hD, hps, fx6, B6, K6⟩
      have tb6 : Tabs T.TL H6 := Tabs.kp B tb K6
      replace K6 : KN b H H6 := KN.kp K6
      clear s5 h05 h5 h4 K34 B4 fx
      refine cut_seq (fun σ H7 => (∃ (x4 x5 x6 x7 x8 x9 x10 : Option V), σ = [some (.ref b), some (.ref pl), some (.ref D), some (.ref ps), x4, x5, x6, x7, x8, x9, x10]) ∧ KN b H6 H7 ∧ Bag H7 b c ∧ Tabs T.TL H7) (fun N hN => ?_) ?_
      · refine ⟨2, rfl, by decide, by decide, for_range (lo := 0) (n := (2 : Int).toNat) (fun i σ H7 => (∃ (x4 x5 x6 x7 x8 x9 x10 : Option V), σ = [some (.ref b), some (.ref pl), some (.ref D), some (.ref ps), x4, x5, x6, x7, x8, x9, x10]) ∧ KN b H6 H7 ∧ Bag H7 b c ∧ Tabs T.TL H7) ⟨⟨_, _, _, _, _, _, _, rfl⟩, KN.refl, B6, tb6⟩ ?_ ?_⟩
        · rintro i σ H7 hi ⟨⟨x4, x5, x6, x7, x8, x9, x10, rfl⟩, K7, B7, tb7⟩
          have hD7 := KN.list K7 nD hD
          have hps7 : SqL K H7 ps xs ∨ SqT K H7 ps xs := hps.elim (fun h => .inl (SqL.of (KN.list K7 h.2 h.1))) fun h => .inr (KN.seqT B6 K7 (.inl (.inl h)))
          have fx7 : ∀ v ∈ xs, FrV K H7 v := fun v hv => by
            obtain ⟨a, f, h1, h2, h3⟩ := fx6 v hv
            exact ⟨a, f, h1, KN.seqT B6 K7 h2, h3⟩
          obtain ⟨fs, hf, of⟩ := frs_of fx7
          have lf := hf.len
          walk_at "rs"
          refine cut_seq (fun σ H8 => ∃ (g : Addr) (zs : List V) (gs : List Fr), σ = [some (.ref b), some (.ref pl), some (.ref D), some (.ref ps), some (.int (0 + (i : Int))), some (.ref g), x6, x7, x8, x9, x10] ∧ Same H7 H8 ∧ SqT K H8 g zs ∧ Frs K H8 zs gs ∧ Srt fs gs ∧ gs.length ≤ fs.length) (fun N hN => ?_) ?_
          · walk_at "rs"
            refine ite2 (fun _ => ?_) (fun _ => ?_)
            all_goals exact ⟨ps, xs, fs, rfl, hps7, hf, of, by omega, by omega, fun t zs gs H8 s8 h8 f8 srt l8 => hN _ _ ⟨t, zs, gs, rfl, s8, h8, f8, srt, l8⟩⟩
          rintro σ H8 ⟨g, zs, gs, rfl, s8, hg, hgs, srt, gl⟩
          have og : ∀ f ∈ gs, okF f := fun f h => of f ((srt.2 f).mp h)
          have zl := hgs.len
          have hf8 := hf.same s8
          have hD8 := s8 _ _ hD7
          refine cut_seq (fun σ H9 => σ = [some (.ref b), some (.ref pl), some (.ref D), some (.ref ps), some (.int (0 + (i : Int))), some (.ref g), x6, x7, x8, x9, x10] ∧ Same H8 H9) (fun N hN => ?_) ?_
          · walk_at "rs"
            refine ⟨_, "tuple", ⟨rfl, rfl⟩, .tuple (gs.map fD), .tup hg hgs.dp, by decide, iteFF (show ¬ true = false by decide) ?_⟩
            refine ⟨_, rfl, g, rfl, ⟨zs, hg⟩, fun D1 hD1 => lc_map walk_tup zs (fun _ => .bl true) hD1 (by omega) rfl (fun k H x H' _ y => y) (fun H s => Same.seqT s hg) (fun x H9 hx s9 Q2 hq => ?_) (fun H9 s9 h9 => ?_)⟩
            · obtain ⟨a, f, rfl, hm, hp⟩ := hgs.mem hx
              walk_at "rs"
              refine ⟨fD f, fs.map fD, dp_pair (Same.seqT s9 hp), .lst (SqL.of (s9 _ _ hD8)) (hf8.same s9).dp, by rfl, fD_shaped fs, ?_⟩
              rw [fD_any, decide_eq_true ((srt.2 f).mp hm)]
              exact hq _ (Same.refl _)
            refine rall_true h9 ⟨true, rfl, iteFF (show ¬ true = false by decide) ?_⟩
            refine ⟨_, rfl, D, rfl, ⟨xs, SqL.of (s9 _ _ hD8)⟩, fun D2 hD2 => lc_map walk_list xs (fun _ => .bl true) hD2 (by omega) rfl (fun k H x H' _ y => y) (fun H s => SqL.of (s _ _ (s9 _ _ hD8))) (fun x H10 hx s10 Q2 hq => ?_) (fun H10 s10 h10 => ?_)⟩
            · obtain ⟨a, f, rfl, hm, hp⟩ := hf8.mem hx
              have s810 := Same.trans s9 s10
              walk_at "rs"
              refine ⟨fD f, gs.map fD, dp_pair (Same.seqT s810 hp), .tup (Same.seqT s810 hg) (hgs.same s810).dp, by rfl, fD_shaped gs, ?_⟩
              rw [fD_any, decide_eq_true ((srt.2 f).mpr hm)]
              exact hq _ (Same.refl _)
            exact rall_true h10 ⟨true, rfl, iteFF (show ¬ true = false by decide) (hN _ _ ⟨rfl, Same.trans s9 s10⟩)⟩
          rintro σ H9 ⟨rfl, s9⟩
          replace hg := Same.seqT s9 hg
          replace hgs := hgs.same s9
          replace s8 := Same.trans s8 s9
          clear s9 hf8 hD8
          refine cut_seq (fun σ H10 => (∃ x8 x10, σ = [some (.ref b), some (.ref pl), some (.ref D), some (.ref ps), some (.int (0 + (i : Int))), some (.ref g), x6, x7, x8, x9, x10]) ∧ Same H9 H10) (fun N hN => ?_) ?_
          · walk_at "rs"
            refine lcz ?_
            walk_at "rs"
            refine ⟨zs, hg, fun q H10 s10 h10 => ⟨g, q, ⟨rfl, rfl⟩, zs, zs.drop 1, .inr ⟨Same.seqT s10 hg, by rw [← cutV_drop]; exact h10, fun D3 hD3 => lc_pure (walk_zipD (n := (zs.drop 1).length) (by rw [List.length_drop]; omega) rfl) hD3 (by rw [List.length_drop]; omega) (fun _ => .bl true) (fun H s => ⟨Same.seqT (Same.trans s10 s) hg, by rw [← cutV_drop]; exact Same.seqT s h10⟩) ?_ ?_ ?_⟩⟩⟩
            · intro k x H11 H12 hk s11 y
              obtain ⟨T0, y1, y2, rfl, hT, rfl, e1, e2⟩ := y
              replace e1 : zs[k]? = some y1 := e1
              replace e2 : (zs.drop 1)[k]? = some y2 := e2
              rw [List.getElem?_drop] at e2
              have hk2 : 1 + k < gs.length := by
                have := (List.getElem?_eq_some_iff.mp e2).1
                omega
              obtain ⟨u1, f1, xu1, fu1, hu1⟩ := hgs.get (n := k) (by omega)
              obtain ⟨u2, f2, xu2, fu2, hu2⟩ := hgs.get (n := 1 + k) hk2
              obtain rfl : y1 = .ref u1 := by rw [xu1] at e1; exact (Option.some.inj e1).symm
              obtain rfl : y2 = .ref u2 := by rw [xu2] at e2; exact (Option.some.inj e2).symm
              have lt : ltF f1 f2 = true := by
                obtain ⟨g1, rfl⟩ := List.getElem?_eq_some_iff.mp fu1
                obtain ⟨g2, rfl⟩ := List.getElem?_eq_some_iff.mp fu2
                exact List.pairwise_iff_getElem.mp srt.1 _ _ g1 g2 (by omega)
              have ss : Same H9 (L2.upd H11 T0 (.tup [V.ref u1, V.ref u2])) := Same.trans s10 (Same.trans s11 (same_upd hT))
              obtain ⟨a1, a2⟩ := lim4 (og f1 (List.mem_of_getElem? fu1))
              obtain ⟨a3, a4⟩ := lim4 (og f2 (List.mem_of_getElem? fu2))
              refine ⟨T0, [.ref u1, .ref u2], rfl, .inl (.inl upd_same), rfl, .ref u1, [.ref u2], rfl, .ref u2, [], rfl, rfl, same_upd hT, rfl, fun Q2 hq => ?_⟩
              walk_at "rs"
              refine ⟨u1, u2, ⟨rfl, rfl⟩, _, _, Same.seqT ss hu1, _, _, Same.seqT ss hu2, a1, a2, a3, a4, ?_⟩
              rw [decide_eq_true (ord_neg lt)]
              exact hq _ (Same.refl _)
            · exact fun x σ0 H0 Q0 Q1 h ⟨a, xs, e1, e2, e3, v, r, e4, v2, r2, e5, e6, q⟩ => ⟨a, xs, e1, e2, e3, v, r, e4, v2, r2, e5, e6, h _ _ q⟩
            · intro H11 s11 h11
              refine rall_true (ys := List.range (zs.drop 1).length) h11 ⟨true, rfl, iteFF (show ¬ true = false by decide) (hN _ _ ⟨⟨_, _, rfl⟩, Same.trans s10 s11⟩)⟩
          rintro σ H10 ⟨⟨x8, x10, rfl⟩, s10⟩
          replace s8 := Same.trans s8 s10
          clear s10 hg hgs srt gl og zl
          have B10 := B7.same s8
          have tb10 := Tabs.same tb7 s8
          replace K7 : KN b H6 H10 := KN.trans K7 (KN.same s8)
          replace hD7 := s8 _ _ hD7
          replace hps7 : SqL K H10 ps xs ∨ SqT K H10 ps xs := hps7.elim (fun h => .inl (Same.seq s8 h)) fun h => .inr (Same.seqT s8 h)
          replace hf := hf.same s8
          clear s8 tb7 B7 fx7
          refine cut_seq (fun σ H11 => ∃ (m : Addr), σ = [some (.ref b), some (.ref pl), some (.ref D), some (.ref ps), some (.int (0 + (i : Int))), some (.ref g), some (.ref m), x7, x8, x9, x10] ∧ ExtN H10 H11 ∧ Tabs T.TL H11 ∧ ((fs = [] ∧ ∃ e, H11 m = some (.lst [.str "BadValue", .ref e]) ∧ H11 e = some (.tup [])) ∨ (fs ≠ [] ∧ ∃ t, H11 m = some (.lst [.str "told", .ref t]) ∧ Pr K H11 t (meanF fs).1 (meanF fs).2))) (fun N hN => ?_) ?_
          · refine ⟨tb10, fun H11 e11 tb11 => ?_⟩
            unfold TTask
            walk_at "rs"
            have ps11 : SqL K H11 ps xs ∨ SqT K H11 ps xs := hps7.elim (fun h => .inl (ExtN.seqL e11 h)) fun h => .inr (ExtN.seqT e11 h)
            have hf11 := ExtN.frs e11 hf
            refine ite2 (fun _ => ?_) (fun _ => ?_)
            all_goals
              refine ⟨ps, xs, fs, rfl, ps11, hf11, of, by omega, fun ne t H12 s12 _ h12 => ⟨by decide, fun m H13 s13 _ h13 => hN _ _ ?_⟩, fun em d e H12 s12 _ h12 h12e => ⟨rfl, d, rfl, .ref e, h12, fun m H13 s13 _ h13 => hN _ _ ?_⟩⟩
            all_goals
              have ss := Same.trans s12 s13
              have ee := LamX.ExtN.trans e11 (Same.extN ss)
              first
                | exact ⟨m, rfl, ee, Tabs.same tb11 ss, .inr ⟨ne, t, h13, .inl (.inl (s13 _ _ h12))⟩⟩
                | exact ⟨m, rfl, ee, Tabs.same tb11 ss, .inl ⟨em, e, h13, s13 _ _ h12e⟩⟩
          rintro σ H11 ⟨m, rfl, e11, tb11, hm⟩
          replace K7 : KN b H6 H11 := KN.trans K7 (KN.ext e11)
          have B11 := B10.ext e11
          replace hD7 := e11 _ _ hD7 (fun _ z => by cases z)
          replace hf := ExtN.frs e11 hf
          clear e11 tb10 B10 hps7
          refine seq_op fun N hN => ?_
          walk_at "rs"
          refine ⟨by decide, fun p H12 s12 _ h12 => ⟨.list (fs.map fD), .list [], .lst (SqL.of (s12 _ _ hD7)) (hf.same s12).dp, .lst (SqL.of h12) .nil, fD_shaped fs, by rfl, _, rfl, ?_⟩⟩
          rcases hm with ⟨em, e, hm, he⟩ | ⟨ne, t, hm, ht⟩
          · subst em
            refine iteTT rfl ?_
            clear hN
            refine seq_op fun N hN => ?_
            walk_at "rs"
            refine ⟨by decide, fun t1 H13 s13 _ h13 => ⟨by decide, fun l1 H14 s14 _ h14 => ⟨_, _, _, rfl, dp_pairL (s14 _ _ (s13 _ _ (s12 _ _ hm))) (.str _) (.tup (.inl (.inl (s14 _ _ (s13 _ _ (s12 _ _ he))))) .nil), dp_pairL h14 (.str _) (.tup (.inl (.inl (s14 _ _ h13))) .nil), by decide +kernel, by decide +kernel, fun H15 s15 => ⟨true, rfl, iteFF (by decide) (hN _ _ ?_)⟩⟩⟩⟩
            have ss := Same.trans s12 (Same.trans s13 (Same.trans s14 s15))
            exact ⟨⟨_, _, _, _, _, _, _, rfl⟩, KN.trans K7 (KN.same ss), B11.same ss, Tabs.same tb11 ss⟩
          have nn : PyData.eqv (.list (fs.map fD)) (.list []) = false := by
            cases fs with
            | nil => exact absurd rfl ne
            | cons f r => rfl
          rw [nn]
          refine iteFF (by decide) (hN _ _ ?_)
          clear hN N nn
          replace K7 := KN.trans K7 (KN.same s12)
          replace B11 := B11.same s12
          replace tb11 := Tabs.same tb11 s12
          replace hD7 := s12 _ _ hD7
          replace hf := hf.same s12
          replace hm := s12 _ _ hm
          replace ht : Pr K H12 t (meanF fs).1 (meanF fs).2 := Same.seqT s12 ht
          clear s12 h12
          refine seq_op fun N hN => ?_
          walk_at "rs"
          refine hN _ _ ?_
          clear hN N
          refine cut_seq (fun σ H13 => ∃ x8, σ = [some (.ref b), some (.ref pl), some (.ref D), some (.ref ps), some (.int (0 + (i : Int))), some (.ref g), some (.ref m), some (.int (prodQ fs)), x8, x9, x10] ∧ H13 = H12) (fun N hN => ?_) ?_
          · refine ⟨_, rfl, D, rfl, ⟨xs, SqL.of hD7⟩, for_list (K := K) (a := D) (xs := xs) (fun k σ H13 => ∃ x8, σ = [some (.ref b), some (.ref pl), some (.ref D), some (.ref ps), some (.int (0 + (i : Int))), some (.ref g), some (.ref m), some (.int (prodQ (fs.take k))), x8, x9, x10] ∧ H13 = H12) ⟨_, rfl, rfl⟩ (fun k σ H13 _ ⟨_, _, e⟩ => by rw [e]; exact SqL.of hD7) ?_ ?_⟩
            · rintro k y σ H13 hk ⟨x8, rfl, rfl⟩
              obtain ⟨u1, f1, xu1, fu1, hu1⟩ := hf.get (n := k) (by have := (List.getElem?_eq_some_iff.mp hk).1; omega)
              obtain rfl : y = .ref u1 := by rw [xu1] at hk; exact (Option.some.inj hk).symm
              walk_at "rs"
              have kl : k < 9 := by have := (List.getElem?_eq_some_iff.mp xu1).1; omega
              exact ⟨_, hu1, _, rfl, f1.2, rfl, mulW (pow_le (prod_lim of k).2 (by omega)) (lim4 (of f1 (List.mem_of_getElem? fu1))).2, (prod_step fs k fu1).symm, _, rfl⟩
            · rintro σ H13 ⟨x8, rfl, rfl⟩
              rw [lf, List.take_length]
              exact hN _ _ ⟨_, rfl, rfl⟩
          rintro σ H13 ⟨x8, rfl, rfl⟩
          walk_at "rs"
          have fl : fs.length ≤ 9 := by omega
          have n0 : fs.length ≠ 0 := fun z => ne (List.eq_nil_of_length_eq_zero z)
          have pl1 := prod_lim of fs.length
          rw [List.take_length] at pl1
          have mf := midF_sum of fs.length
          rw [List.take_length] at mf
          have dv : ∀ f ∈ fs, 1 ≤ f.2 ∧ f.2 ∣ prodQ fs := fun f h => ⟨(of f h).1, (prod_dvd fs 1).2 f h⟩
          have mw := mean_worth dv mf.1 ne
          have sn : (sumF fs).2 * (fs.length : Int) ≠ 0 := Int.mul_ne_zero (by have := mf.1; omega) (by omega)
          have b1 : ((sumF fs).1 * 1).natAbs < 2 ^ 4000 := by rw [Int.mul_one]; exact pow_le mf.2.2.1 (by omega)
          have b2 : ((sumF fs).2 * (fs.length : Int)).natAbs < 2 ^ 4000 := pow_le (wide_lt mf.2.2.2 (show (fs.length : Int).natAbs < 2 ^ 4 by omega)) (by omega)
          obtain ⟨w1, w2, _, w4, w5⟩ := exact_args b1 b2 sn
          have lP : (prodQ fs).natAbs < 2 ^ 4000 := pow_le pl1.2 (by omega)
          have lX : (xs.length : Int).natAbs < 2 ^ 4000 := pow_le (a := 4) (by omega) (by decide)
          have lW : (wsum (prodQ fs) fs).natAbs < 2 ^ 4000 := pow_le (wsum_lim pl1.2 of) (by omega)
          have lPX : (prodQ fs * (xs.length : Int)).natAbs < 2 ^ 4000 := pow_le (wide_lt pl1.2 (show (xs.length : Int).natAbs < 2 ^ 4 by omega)) (by omega)
          refine ⟨_, SqL.of hm, _, rfl, _, rfl, iteFF (fun h => h rfl) ⟨_, SqL.of hm, _, rfl, ?_⟩⟩
          refine ⟨_, rfl, D, rfl, ⟨xs, SqL.of hD7⟩, fun D4 hD4 => lc_pure walk_list hD4 (by omega) (fun k => .int ((fs.getD k (0, 1)).1 * (prodQ fs).fdiv (fs.getD k (0, 1)).2)) (fun H s => SqL.of (s _ _ hD7)) (fun k x H13 H14 hk s13 y => ?_) (fun x σ0 H0 Q0 Q1 h q => h _ _ q) (fun H13 s13 h13 => ?_)⟩
          · obtain ⟨rfl, hx⟩ := y
            obtain ⟨u1, f1, xu1, fu1, hu1⟩ := hf.get (n := k) (by omega)
            obtain rfl : x = .ref u1 := by rw [xu1] at hx; exact (Option.some.inj hx).symm
            have eg : fs.getD k (0, 1) = f1 := by rw [List.getD_eq_getElem?_getD, fu1]; rfl
            have o1 := of f1 (List.mem_of_getElem? fu1)
            obtain ⟨a1, a2⟩ := lim4 o1
            refine ⟨Same.refl _, rfl, fun Q2 h2 => ?_⟩
            walk_at "rs"
            rw [eg] at h2
            have hu := Same.seqT s13 hu1
            have q0 : f1.2 ≠ 0 := by have := o1.1; omega
            refine ⟨_, hu, _, rfl, _, hu, _, rfl, f1.2, rfl, ⟨q0, logL a2 (by decide) (by decide)⟩, f1.1, rfl, mulW a1 (Nat.lt_of_le_of_lt (abs_div _ o1.1) lP), ?_⟩
            exact h2 _ (Same.refl _)
          · refine ⟨D4, fs.map fun (f : Fr) => f.1 * (prodQ fs).fdiv f.2, rfl, SqL.of (by
              rw [h13]
              congr 2
              refine List.ext_getElem (by simp [lf]) fun k h1 h2 => ?_
              have hk : k < fs.length := by simpa [lf] using h1
              simp [List.getD_eq_getElem?_getD, List.getElem?_eq_getElem hk]), xs, .inl (SqL.of (s13 _ _ hD7)), mulW lP lX, t, _, _, _, _, ⟨rfl, rfl, rfl⟩, Same.seqT s13 ht, w1, w2, ?_, w4, w5, lW, lPX, fun H14 s14 => ?_⟩
            · rw [lf]; exact mw
            · have ss := Same.trans s13 s14
              exact ⟨⟨_, rfl⟩, KN.trans K7 (KN.same ss), B11.same ss, Tabs.same tb11 ss⟩
        · rintro σ H7 h
          exact hN _ _ h
      · rintro σ H7 ⟨⟨x4, x5, x6, x7, x8, x9, x10, rfl⟩, K7, B7, tb7⟩
        walk_at "rs"
        have fx7 : ∀ v ∈ xs, FrV K H7 v := fun v hv => by
          obtain ⟨a, f, h1, h2, h3⟩ := fx6 v hv
          exact ⟨a, f, h1, KN.seqT B6 K7 h2, h3⟩
        obtain ⟨fs, hf, of⟩ := frs_of fx7
        have hps7 : SqL K H7 ps xs ∨ SqT K H7 ps xs := hps.elim (fun h => .inl (SqL.of (KN.list K7 h.2 h.1))) fun h => .inr (KN.seqT B6 K7 (.inl (.inl h)))
        refine ⟨xs, hps7, fun l H8 s8 h08 h8 => ⟨.list (fs.map fD), .list (fs.map fD), .lst (SqL.of h8) (hf.same s8).dp, .lst (SqL.of (s8 _ _ (KN.list K7 nD hD))) (hf.same s8).dp, fD_shaped fs, fD_shaped fs, ?_⟩⟩
        have e : PyData.eqv (.list (fs.map fD)) (.list (fs.map fD)) = true := fD_self fs
        rw [e]
        exact k H8 (B7.same s8) (KN.trans K6 (KN.trans K7 (KN.same s8))) (Tabs.same tb7 s8)
end
end LK

set_option Elab.async false
set_option linter.all false
set_option maxRecDepth 100000
namespace LK
open PySem PySem.Spec PyProof.Rows L2
local macro_rules | `(tactic| walk_at "rs") => `(tactic| simp only [cxK, cxNK, tCallZ, tAsg, tOp, rI0, rS0, rB0, rI, rU, tUn, rEq, rNe, rIxL, rIxT, rIxS, rSetL, rSlLU, rSlS, rSlU, rCatL, rCatU, rRepL, rIn, tVar, tC, gName, gSub, tIfS, tTest, tB, tAnd, tOr, tNot, tNotV, tAndV, tOrV, tIf, tCall, tCons, tNil, tCB, tDrop, tRet, tRetN, tNext, tLstU, tTupU, tM0, tM1, tPar, tPar3, tAug, ipI, tBM, tBM0, rAppend, rPop, tBreak, tCont, tChain, tSl, tPart, tNoPart, L2.start, List.map, List.length_cons, List.length_nil, List.replicate, List.cons_append, List.nil_append, List.append_nil, List.getElem?_cons_zero, List.getElem?_cons_succ, List.set_cons_zero, List.set_cons_succ, Option.some.injEq, V.int.injEq, V.ref.injEq, V.str.injEq, V.bl.injEq, exists_eq_left', exists_eq_left, exists_and_left, decide_eq_true_eq, List.cons.injEq, and_true, true_and, scal, Bool.not_eq_true', decide_eq_false_iff_not, Nat.zero_add, Nat.reduceAdd, Nat.reduceSub, reduceCtorEq, false_and, exists_false, false_or, or_false, CPow, CMul, CDiv, Int.reduceToNat, ↓reduceIte, wipe, sw, List.nil_append, List.singleton_append])
local macro_rules | `(tactic| walk_at "st") => `(tactic| (refine seq_op fun N hN => ?_; walk_at "rs"))
local macro_rules | `(tactic| walk_at "sd") => `(tactic| first | assumption | decide | omega)
local macro_rules | `(tactic| walk_at "rd") => `(tactic| repeat (first
  | refine ⟨_, SqL.of (by assumption), ?_⟩ | refine ⟨_, SqL.of upd_same, ?_⟩ | refine ⟨_, .inl (SqL.of (by assumption)), ?_⟩ | refine ⟨_, (by assumption : _ = some (HO.lst _)), ?_⟩ | refine ⟨_, upd_same, ?_⟩
  | refine ⟨_, rfl, ?_⟩ | refine And.intro (by walk_at "sd") ?_))

open LamX (Tabs TabS ExtN GivesTo pe_lamcall TabB lamS_by tLam CodeO LamS lamCx lamEnv)
section
variable {P : Program} {w : World} {K : PySem.W.Frag} {mg : Str → Option Value} {base : Heap}
def sp_law (K : PySem.W.Frag) (TL : List (Addr × Str)) : Sp := fun vs H Q _ => ∃ (a : Addr) (ns : List Int), vs = [.ref a] ∧ SqL K H a (ns.map V.int) ∧ ns.length ≤ 63 ∧ Tabs TL H ∧ ∀ H', Q (.bl true) H'
theorem ok_law (T : Txt w K mg) (hB : ∀ p ∈ T.cs, TabB base mg p.1 p.2) : FnOk P w K mg base CX0 9 T.a_law T.d_law ["script"] (sp_law K T.TL) := by
  refine T.F_law.ok sc_law (fun vs H Q E h => ?_) (fun cdv A outer s H vs Q E hr h => ?_)
  · obtain ⟨a, ns, rfl, _⟩ := h
    rfl
  · obtain ⟨a, ns, rfl, hS, hn, tb, k⟩ := h
    have hr__law_bag : Room 1 _ := hr.mono (by decide)
    have G__law_bag := ok__law_bag (P := P) (base := base) T
    have hr__law_made : Room 6 _ := hr.mono (by decide)
    have G__law_made := ok__law_made (P := P) (base := base) T hB
    have hr__law_listed : Room 8 _ := hr
    have G__law_listed := ok__law_listed (P := P) (base := base) T hB
    have hr__law_joined : Room 7 _ := hr.mono (by decide)
    have G__law_joined := ok__law_joined (P := P) (base := base) T hB
    have hr__law_compared : Room 3 _ := hr.mono (by decide)
    have G__law_compared := ok__law_compared (P := P) (base := base) T
    have hr__law_pair : Room 5 _ := hr.mono (by decide)
    have G__law_pair := ok__law_pair (P := P) (base := base) T
    refine ⟨_, (pss_cons (ps_set (i := 1) sc_law.nd rfl (Or.inl rfl) (pe_call G__law_bag hr__law_bag (by rfl) T.m__law_bag T.F__law_bag.kp T.B__law_bag .nil pass0 (pa_cons (pv 0) pa_nil)))
      (pss_cons (ps_for PassesOwn.never rfl (pi_range1 (by rfl) T.n_range (pa_cons pe_int pa_nil)) (pg_name (i := 2) sc_law.nd rfl (Or.inl rfl)) (pss_cons (ps_if (PW.pt (pw_or (pt_not (pt_val (pe_call G__law_made hr__law_made (by rfl) T.m__law_made T.F__law_made.kp T.B__law_made .nil pass0 (pa_cons (pv 1) pa_nil)))) (pw_or1 (pt_not (pt_val (pe_call G__law_listed hr__law_listed (by rfl) T.m__law_listed T.F__law_listed.kp T.B__law_listed .nil pass0 (pa_cons (pv 1) pa_nil))))))) (pss_one (ps_ret pe_bl)) pss_nil)
      (pss_cons (ps_set (i := 3) sc_law.nd rfl (Or.inl rfl) (pe_call G__law_pair hr__law_pair (by rfl) T.m__law_pair T.F__law_pair.kp T.B__law_pair .nil pass0 (pa_cons (pv 1) pa_nil)))
      (pss_one (ps_for PassesOwn.never rfl (pi_range1 (by rfl) T.n_range (pa_cons pe_int pa_nil)) (pg_name (i := 4) sc_law.nd rfl (Or.inl rfl)) (pss_one (ps_if (PW.pt (pw_or (pt_not (pt_val (pe_call G__law_joined hr__law_joined (by rfl) T.m__law_joined T.F__law_joined.kp T.B__law_joined .nil pass0 (pa_cons (pe_ix ix_list (pv 3) (pv 4) (fun _ _ => rfl)) (pa_cons (pe_ix ix_list (pv 3) (pe_op op_sub pe_int (pv 4)) (fun _ _ => rfl)) (pa_cons (pv 4) pa_nil)))))) (pw_or1 (pt_not (pt_val (pe_call G__law_compared hr__law_compared (by rfl) T.m__law_compared T.F__law_compared.kp T.B__law_compared .nil pass0 (pa_cons (pe_ix ix_list (pv 3) (pv 4) (fun _ _ => rfl)) (pa_cons (pe_ix ix_list (pv 3) (pe_op op_sub pe_int (pv 4)) (fun _ _ => rfl)) (pa_cons (pv 4) pa_nil))))))))) (pss_one (ps_ret pe_bl)) pss_nil)))))))
      (pss_one (ps_ret pe_bl)))), ?_⟩
    refine seq_op fun N hN => ?_
    walk_at "rs"
    refine ⟨a, ns, rfl, hS, hn, fun b c H1 s1 B _ => hN _ _ ?_⟩
    clear hN N
    have tb1 := Tabs.same tb s1
    refine cut_seq (fun σ H2 => True) (fun N hN => ?_) (fun σ H2 _ => by walk_at "rs"; exact k H2)
    refine ⟨9, rfl, by decide, by decide, for_range (lo := 0) (n := (9 : Int).toNat) (fun i σ H2 => ∃ (x2 x3 x4 : Option V), σ = [some (.ref a), some (.ref b), x2, x3, x4] ∧ Bag H2 b c ∧ Tabs T.TL H2) ⟨_, _, _, rfl, B, tb1⟩ ?_ ?_⟩
    · rintro i σ H2 hi ⟨x2, x3, x4, rfl, B2, tb2⟩
      walk_at "rs"
      refine seq_op fun N2 hN2 => ?_
      walk_at "rs"
      refine ⟨b, c, rfl, B2, tb2, fun H3 B3 K3 tb3 => ⟨true, rfl, iteFF (by decide) ⟨b, c, rfl, B3, tb3, fun H4 B4 K4 tb4 => ⟨true, rfl, iteFF (by decide) (hN2 _ _ ?_)⟩⟩⟩⟩
      clear hN2 N2
      refine seq_op fun N2 hN2 => ?_
      walk_at "rs"
      refine ⟨c, B4, fun t u v p q r s' H5 c1 c2 c3 c4 d1 d2 d3 d4 h5 nt hu hv B5 K5 => hN2 _ _ ?_⟩
      clear hN2 N2
      have tb5 := Tabs.kp B4 tb4 K5
      refine ⟨2, rfl, by decide, by decide, for_range (lo := 0) (n := (2 : Int).toNat) (fun i2 σ H6 => ∃ (x4 : Option V), σ = [some (.ref a), some (.ref b), some (.int (0 + (i : Int))), some (.ref t), x4] ∧ Bag H6 b c ∧ Tabs T.TL H6 ∧ H6 t = some (.lst [.ref u, .ref v]) ∧ Pr K H6 u p q ∧ Pr K H6 v r s') ⟨_, rfl, B5, tb5, h5, hu, hv⟩ ?_ ?_⟩
      · rintro i2 σ H6 hi2 ⟨x4, rfl, B6, tb6, h6, hu6, hv6⟩
        have ou : okF (p, q) := ⟨c1, c2, c3, c4⟩
        have ov : okF (r, s') := ⟨d1, d2, d3, d4⟩
        have wy : i2 = 0 ∨ i2 = 1 := by
          have : i2 < 2 := hi2
          omega
        rcases wy with rfl | rfl
        · walk_at "rs"
          refine ⟨_, SqL.of h6, .ref u, rfl, _, SqL.of h6, .ref v, rfl, u, v, (p, q), (r, s'), _, rfl, hu6, hv6, ou, ov, tb6, fun H7 e7 tb7 => ⟨true, rfl, iteFF (by decide) ?_⟩⟩
          have h7 := e7 _ _ h6 (fun _ z => by cases z)
          have hu7 : Pr K H7 u p q := ExtN.seqT e7 hu6
          have hv7 : Pr K H7 v r s' := ExtN.seqT e7 hv6
          have B7 := B6.ext e7
          exact ⟨_, SqL.of h7, .ref u, rfl, _, SqL.of h7, .ref v, rfl, u, v, (p, q), (r, s'), _, rfl, hu7, hv7, ou, ov, fun H8 s8 => ⟨true, rfl, iteFF (by decide) ⟨B7.same s8, Tabs.same tb7 s8, s8 _ _ h7, Same.seqT s8 hu7, Same.seqT s8 hv7⟩⟩⟩
        · walk_at "rs"
          refine ⟨_, SqL.of h6, .ref v, rfl, _, SqL.of h6, .ref u, rfl, v, u, (r, s'), (p, q), _, rfl, hv6, hu6, ov, ou, tb6, fun H7 e7 tb7 => ⟨true, rfl, iteFF (by decide) ?_⟩⟩
          have h7 := e7 _ _ h6 (fun _ z => by cases z)
          have hu7 : Pr K H7 u p q := ExtN.seqT e7 hu6
          have hv7 : Pr K H7 v r s' := ExtN.seqT e7 hv6
          have B7 := B6.ext e7
          exact ⟨_, SqL.of h7, .ref v, rfl, _, SqL.of h7, .ref u, rfl, v, u, (r, s'), (p, q), _, rfl, hv7, hu7, ov, ou, fun H8 s8 => ⟨true, rfl, iteFF (by decide) ⟨B7.same s8, Tabs.same tb7 s8, s8 _ _ h7, Same.seqT s8 hu7, Same.seqT s8 hv7⟩⟩⟩
      · rintro σ H6 ⟨x4, rfl, B6, tb6, _⟩
        exact ⟨_, _, _, rfl, B6, tb6⟩
    · rintro σ H2 ⟨x2, x3, x4, rfl, B2, tb2⟩
      exact hN _ _ trivial
end
end LK

set_option Elab.async false
set_option linter.all false
set_option maxRecDepth 100000
namespace LK
open PySem PySem.Spec PyProof.Rows L2
local macro_rules | `(tactic| walk_at "rs") => `(tactic| simp only [cxK, cxNK, tCallZ, tAsg, tOp, rI0, rS0, rB0, rI, rU, tUn, rEq, rNe, rIxL, rIxT, rIxS, rSetL, rSlLU, rSlS, rSlU, rCatL, rCatU, rRepL, rIn, tVar, tC, gName, gSub, tIfS, tTest, tB, tAnd, tOr, tNot, tNotV, tAndV, tOrV, tIf, tCall, tCons, tNil, tCB, tDrop, tRet, tRetN, tNext, tLstU, tTupU, tM0, tM1, tPar, tPar3, tAug, ipI, tBM, tBM0, rAppend, rPop, tBreak, tCont, tChain, tSl, tPart, tNoPart, L2.start, List.map, List.length_cons, List.length_nil, List.replicate, List.cons_append, List.nil_append, List.append_nil, List.getElem?_cons_zero, List.getElem?_cons_succ, List.set_cons_zero, List.set_cons_succ, Option.some.injEq, V.int.injEq, V.ref.injEq, V.str.injEq, V.bl.injEq, exists_eq_left', exists_eq_left, exists_and_left, decide_eq_true_eq, List.cons.injEq, and_true, true_and, scal, Bool.not_eq_true', decide_eq_false_iff_not, Nat.zero_add, Nat.reduceAdd, Nat.reduceSub, reduceCtorEq, false_and, exists_false, false_or, or_false, CPow, CMul, CDiv, Int.reduceToNat, ↓reduceIte, wipe, sw, List.nil_append, List.singleton_append])
local macro_rules | `(tactic| walk_at "st") => `(tactic| (refine seq_op fun N hN => ?_; walk_at "rs"))
local macro_rules | `(tactic| walk_at "sd") => `(tactic| first | assumption | decide | omega)
local macro_rules | `(tactic| walk_at "rd") => `(tactic| repeat (first
  | refine ⟨_, SqL.of (by assumption), ?_⟩ | refine ⟨_, SqL.of upd_same, ?_⟩ | refine ⟨_, .inl (SqL.of (by assumption)), ?_⟩ | refine ⟨_, (by assumption : _ = some (HO.lst _)), ?_⟩ | refine ⟨_, upd_same, ?_⟩
  | refine ⟨_, rfl, ?_⟩ | refine And.intro (by walk_at "sd") ?_))

open LamX (Tabs TabS ExtN GivesTo pe_lamcall TabB lamS_by tLam CodeO LamS lamCx lamEnv)
/-! ### what the head tells, as Bools -/
def oexB (K : PySem.W.Frag) (C : Addr) : Bool := (match K.lookup C with
  | some ⟨.type c, _, .cls cd, sl⟩ => (match cd.mro, sl.toList with
    | .ref C' :: bm, [_, _, _, _, some (.builtin n), _] => decide (c = "type") && (decide (C' = C) && (decide (n = "ValueError.__new__") && (!cd.hasDel && (cd.hasDict && PySem.HandSPX.refsVE bm))))
    | _, _ => false)
  | _ => false) && (He.eqO (PySem.W.findIn K (.ref C) "__setattr__") (some (some (.builtin "object.__setattr__"))) && (decide (PySem.W.subIn K (.ref C) (.type "BaseException") = some true) && (decide (PySem.W.typeIn K (.ref C) = some (.type "type")) && PySem.W.keepIn K (.ref C))))
theorem oexB_ok {K : PySem.W.Frag} {C : Addr} (h : oexB K C = true) : OexC K C := by
  obtain ⟨h1, h2⟩ := He.ba h
  obtain ⟨h3, h4⟩ := He.ba h2
  obtain ⟨h5, h6⟩ := He.ba h4
  obtain ⟨h7, h8⟩ := He.ba h6
  refine ⟨?_, He.eqO_ok h3, of_decide_eq_true h5, of_decide_eq_true h7, h8⟩
  cases e : K.lookup C with
  | none => rw [e] at h1; cases h1
  | some ob =>
    obtain ⟨oc, od, dt, osl⟩ := ob
    rw [e] at h1
    cases oc with
    | type c =>
      cases dt with
      | cls cd =>
        obtain ⟨nm, bs, mro, ns, qn, hd, sn, sb, ab, col, del⟩ := cd
        dsimp only at h1
        split at h1
        · rename_i xl C' bm k0 k1 k2 k3 n k5 es
          obtain ⟨a1, b1⟩ := He.ba h1
          obtain ⟨a2, b2⟩ := He.ba b1
          obtain ⟨a3, b3⟩ := He.ba b2
          obtain ⟨a4, b4⟩ := He.ba b3
          obtain ⟨a5, a6⟩ := He.ba b4
          have ec : c = "type" := of_decide_eq_true a1
          have eC : C' = C := of_decide_eq_true a2
          have en : n = "ValueError.__new__" := of_decide_eq_true a3
          have ed : del = false := by cases del with
            | false => rfl
            | true => cases a4
          have eh : hd = true := a5
          have eo : osl = #[k0, k1, k2, k3, some (.builtin n), k5] := by
            have := congrArg List.toArray es
            simpa using this
          subst ec eC en ed eh eo
          exact ⟨nm, qn, ns, bs, bm, sn, sb, ab, col, od, k0, k1, k2, k3, k5, rfl, a6⟩
        · cases h1
      | _ => cases h1
    | _ => cases dt <;> cases h1
def isxB (K : PySem.W.Frag) (C : Addr) : Bool := (PySem.W.clsIn K C).isSome && (He.eqO (PySem.W.findIn K (.ref C) "__getattribute__") (some (some (.builtin "BaseException.__getattribute__"))) && (He.eqO (PySem.W.findIn K (.ref C) "__getattr__") (some none) && (decide (PySem.W.subIn K (.ref C) (.type "BaseException") = some true) && (He.eqO (PySem.W.findIn K (.ref C) "__class__") (some (some (.builtin "object.__class__"))) && (He.eqO (PySem.W.specialIn K (.builtin "object.__class__") "__get__") (some (some (.builtin "getset_descriptor.__get__"))) && (decide (PySem.W.takesIn K (.builtin "object.__class__") = some true) && decide (PySem.W.mroIn K C (.type "object") = some true)))))))
theorem isxB_ok {K : PySem.W.Frag} {C : Addr} (h : isxB K C = true) : IsxC K C := by
  obtain ⟨h1, h⟩ := He.ba h
  obtain ⟨h2, h⟩ := He.ba h
  obtain ⟨h3, h⟩ := He.ba h
  obtain ⟨h4, h⟩ := He.ba h
  obtain ⟨h5, h⟩ := He.ba h
  obtain ⟨h6, h⟩ := He.ba h
  obtain ⟨h7, h8⟩ := He.ba h
  exact ⟨h1, He.eqO_ok h2, He.eqO_ok h3, of_decide_eq_true h4, He.eqO_ok h5, He.eqO_ok h6, of_decide_eq_true h7, of_decide_eq_true h8⟩
def bvC (K : PySem.W.Frag) : Addr := He.ga K "BadValue"
def bvI (K : PySem.W.Frag) : Addr := He.fAd K ("BadValue", some "__init__")
def tabP (K : PySem.W.Frag) (x : Str) : Addr := (He.cT K (x, none)).2
def exB (K : PySem.W.Frag) : Bool := oexB K (bvC K) && (xfB K (bvC K) && (isxB K (bvC K) && (decide (PySem.W.kitOne K (.ref (bvC K)) (.ref (bvC K)) = some true) && (He.eqO (PySem.W.nsIn K mainGlobals "gcd") (some (some (.builtin "math.gcd"))) && (He.tupB K "ZERO" [.int 0, .int 1] && (decide (PySem.W.typeIn K (.ref (bvI K)) = some (.type "function")) && (He.eqO (PySem.W.findIn K (.ref (bvC K)) "__init__") (some (some (.ref (bvI K)))) && (decide (tabP K "_law_made" ≠ tabP K "_law_joined") && (decide (tabP K "_law_made" ≠ tabP K "_law_listed") && (decide (tabP K "_law_joined" ≠ tabP K "_law_listed") && decide (∀ x ∈ ["_law_made", "_law_joined", "_law_listed"], mainGlobals ≠ tabP K x)))))))))))
def dInit : He.DefD := ⟨("BadValue", some "__init__"), "__init__", "BadValue.__init__", defArgs s_BadValue, defBody s_BadValue, defScope s_BadValue, [], []⟩
def D_is_number : He.DefD := ⟨("is_number", none), "is_number", "is_number", defArgs s_is_number, defBody s_is_number, defScope s_is_number, [], []⟩
def D_is_fraction : He.DefD := ⟨("is_fraction", none), "is_fraction", "is_fraction", defArgs s_is_fraction, defBody s_is_fraction, defScope s_is_fraction, [], []⟩
def D_fraction : He.DefD := ⟨("fraction", none), "fraction", "fraction", defArgs s_fraction, defBody s_fraction, defScope s_fraction, [.int 1], []⟩
def D_plus : He.DefD := ⟨("plus", none), "plus", "plus", defArgs s_plus, defBody s_plus, defScope s_plus, [], []⟩
def D_minus : He.DefD := ⟨("minus", none), "minus", "minus", defArgs s_minus, defBody s_minus, defScope s_minus, [], []⟩
def D_times : He.DefD := ⟨("times", none), "times", "times", defArgs s_times, defBody s_times, defScope s_times, [], []⟩
def D_quotient : He.DefD := ⟨("quotient", none), "quotient", "quotient", defArgs s_quotient, defBody s_quotient, defScope s_quotient, [], []⟩
def D_below : He.DefD := ⟨("below", none), "below", "below", defArgs s_below, defBody s_below, defScope s_below, [], []⟩
def D_floor_of : He.DefD := ⟨("floor_of", none), "floor_of", "floor_of", defArgs s_floor_of, defBody s_floor_of, defScope s_floor_of, [], []⟩
def D_merged : He.DefD := ⟨("merged", none), "merged", "merged", defArgs s_merged, defBody s_merged, defScope s_merged, [], []⟩
def D_ascending : He.DefD := ⟨("ascending", none), "ascending", "ascending", defArgs s_ascending, defBody s_ascending, defScope s_ascending, [], []⟩
def D_mean_of : He.DefD := ⟨("mean_of", none), "mean_of", "mean_of", defArgs s_mean_of, defBody s_mean_of, defScope s_mean_of, [], []⟩
def D__law_bag : He.DefD := ⟨("_law_bag", none), "_law_bag", "_law_bag", defArgs s__law_bag, defBody s__law_bag, defScope s__law_bag, [], []⟩
def D__law_draw : He.DefD := ⟨("_law_draw", none), "_law_draw", "_law_draw", defArgs s__law_draw, defBody s__law_draw, defScope s__law_draw, [], []⟩
def D__law_of : He.DefD := ⟨("_law_of", none), "_law_of", "_law_of", defArgs s__law_of, defBody s__law_of, defScope s__law_of, [], []⟩
def D__law_like : He.DefD := ⟨("_law_like", none), "_law_like", "_law_like", defArgs s__law_like, defBody s__law_like, defScope s__law_like, [], []⟩
def D__law_low : He.DefD := ⟨("_law_low", none), "_law_low", "_law_low", defArgs s__law_low, defBody s__law_low, defScope s__law_low, [], []⟩
def D__law_order : He.DefD := ⟨("_law_order", none), "_law_order", "_law_order", defArgs s__law_order, defBody s__law_order, defScope s__law_order, [], []⟩
def D__law_number : He.DefD := ⟨("_law_number", none), "_law_number", "_law_number", defArgs s__law_number, defBody s__law_number, defScope s__law_number, [], []⟩
def D__law_some : He.DefD := ⟨("_law_some", none), "_law_some", "_law_some", defArgs s__law_some, defBody s__law_some, defScope s__law_some, [], []⟩
def D__law_pair : He.DefD := ⟨("_law_pair", none), "_law_pair", "_law_pair", defArgs s__law_pair, defBody s__law_pair, defScope s__law_pair, [], []⟩
def D__law_exact : He.DefD := ⟨("_law_exact", none), "_law_exact", "_law_exact", defArgs s__law_exact, defBody s__law_exact, defScope s__law_exact, [], []⟩
def D__law_ask : He.DefD := ⟨("_law_ask", none), "_law_ask", "_law_ask", defArgs s__law_ask, defBody s__law_ask, defScope s__law_ask, [], []⟩
def D__law_made : He.DefD := ⟨("_law_made", none), "_law_made", "_law_made", defArgs s__law_made, defBody s__law_made, defScope s__law_made, [], []⟩
def D__law_joined : He.DefD := ⟨("_law_joined", none), "_law_joined", "_law_joined", defArgs s__law_joined, defBody s__law_joined, defScope s__law_joined, [], []⟩
def D__law_compared : He.DefD := ⟨("_law_compared", none), "_law_compared", "_law_compared", defArgs s__law_compared, defBody s__law_compared, defScope s__law_compared, [], []⟩
def D__law_listed : He.DefD := ⟨("_law_listed", none), "_law_listed", "_law_listed", defArgs s__law_listed, defBody s__law_listed, defScope s__law_listed, [], []⟩
def D_law : He.DefD := ⟨("law", none), "law", "law", defArgs s_law, defBody s_law, defScope s_law, [], []⟩
def fnL : List He.DefD := [dInit, D_is_number, D_is_fraction, D_fraction, D_plus, D_minus, D_times, D_quotient, D_below, D_floor_of, D_merged, D_ascending, D_mean_of, D__law_bag, D__law_draw, D__law_of, D__law_like, D__law_low, D__law_order, D__law_number, D__law_some, D__law_pair, D__law_exact, D__law_ask, D__law_made, D__law_joined, D__law_compared, D__law_listed, D_law]
def faL : List He.Fa := [.free "len", .free "int", .free "str", .free "list", .free "tuple", .free "bool", .free "isinstance", .free "all", .free "range", .free "zip", .free "abs", .free "max", .free "sum", .glo "ZERO", .glo "BadValue", .glo "NetError", .glo "is_number", .glo "is_fraction", .glo "fraction", .glo "plus", .glo "minus", .glo "times", .glo "quotient", .glo "below", .glo "floor_of", .glo "merged", .glo "ascending", .glo "mean_of", .glo "_law_bag", .glo "_law_draw", .glo "_law_of", .glo "_law_like", .glo "_law_low", .glo "_law_order", .glo "_law_number", .glo "_law_some", .glo "_law_pair", .glo "_law_exact", .glo "_law_ask", .glo "_law_made", .glo "_law_joined", .glo "_law_compared", .glo "_law_listed", .glo "law", .noat "BadValue" "value", .noat "BadValue" "code", .exm "BadValue" "NetError" true]
def tfL : List He.Defn := [("_law_made", none), ("_law_joined", none), ("_law_listed", none)]
theorem fun_ofD {K : PySem.W.Frag} {x q : Str} {st : Stmt} {f : Addr} {fd : FuncData} {kws : List (Str × V)} (F : FunD K x q (defArgs st) (defBody st) (defScope st) [] kws f fd) : Fun K x q st f fd := by
  obtain ⟨oc, od, dV, kV, doc, pm, an, cdv, ct, osl, rfl, lk, hcd, hD, _⟩ := F.ex
  rcases hD with ⟨_, rfl⟩ | ⟨e, _⟩
  · exact ⟨⟨oc, od, kV, doc, pm, an, cdv, ct, osl, rfl, lk, hcd⟩, F.kp⟩
  · exact absurd rfl e
theorem code_ofD {K : PySem.W.Frag} {x q : Str} {ps : Arguments} {b : List Stmt} {sc : Scope} {dv : List V} {kw : List (Str × V)} {p : He.Defn} {fd : FuncData} (F : FunD K x q ps b sc dv kw (He.fAd K p) fd) : fd.code = .ref (He.codeOf K p) := by
  obtain ⟨oc, od, dV, kV, doc, pm, an, cdv, ct, osl, rfl, lk, hcd, _, _⟩ := F.ex
  obtain ⟨c, rfl⟩ := He.codeIn_ref hcd
  rw [He.codeOf_eq lk rfl]
/-- a def with defaults called by keywords alone -/
theorem kb_ofD {K : PySem.W.Frag} {x qual : Str} {params : Arguments} {body : List Stmt} {scope : Scope} {dvs : List V} {kws : List (Str × V)} {f : Addr} {fd : FuncData} {ps : List Str} (F : FunD K x qual params body scope dvs kws f fd) (ks : List Str) (g : {α : Type} → List α → List α → List α) (hd : dvs ≠ [])
    (hrel : ∀ {ds zs : List V} {its ws : List Value}, Vals ds its → Vals zs ws → Vals (g ds zs) (g its ws))
    (h : ∀ (T : Addr) (kV doc pm : Value) (an : Option Addr) (cdv ct : Value) (its ws : List Value), its.length = dvs.length → ws.length = ks.length →
      ∃ k, bindArgs (PySem.W.fnOf x qual params body scope (.ref T) kV doc pm an cdv ct) ⟨[], ks.zip ws⟩ = seqItems? (.ref T) >>= k ∧ k (some its.toArray) = pure (ps.zip (g its ws))) :
    ∃ its : List Value, its.length = dvs.length ∧ KBn K fd ps 0 ks (fun _ ws => g its ws) (fun _ zs => g dvs zs) := by
  obtain ⟨oc, od, dV, kV, doc, pm, an, cdv, ct, osl, rfl, lk, hcd, hD, hK⟩ := F.ex
  rcases hD with ⟨e, _⟩ | ⟨_, T, ob, its, m, rfl, lT, oT, rT⟩
  · exact absurd e hd
  · have l1 : its.length = dvs.length := rT.length.symm
    refine ⟨its, l1, ⟨fun s us ws X hu hw => ?_, fun _ rz => hrel rT rz⟩⟩
    obtain rfl : us = [] := List.eq_nil_of_length_eq_zero hu
    obtain ⟨k, e1, e2⟩ := h T kV doc pm an cdv ct its ws l1 hw
    refine BindsTo.of_looks fun M => ?_
    rw [e1]
    exact looks_items X lT oT (.of_pure e2)
set_option maxHeartbeats 0 in
theorem facts {P : Program} {w : World} {K : PySem.W.Frag} {h : Heap} {mg : Str → Option Value} {f : Addr} (X : K.In h) (G : h.Ns mainGlobals mg) (hfa : mg ("law" : Str) = some (.ref f)) (c : He.SaysX faL fnL [] tfL exB w h K) :
    ∃ (fd : FuncData) (cs : List (Addr × Addr)) (sp : Sp), (∀ p ∈ cs, h.get? p.2 = some { cls := .none, data := .fields #[] }) ∧ (∀ p ∈ cs, K.lookup p.2 = none) ∧ (∀ p ∈ cs, PySem.W.CodeHd h p.1 p.2) ∧ (∀ (s : Shared) (u : Value), BindsTo s fd ⟨[u], []⟩ [("script", u)]) ∧
      (∀ (H : Hp) (a : Addr) (ns : List Int), ns.length ≤ 63 → (∀ z ∈ ns, Builtin.Int.intBits z ≤ 1048576) → (∀ p ∈ cs, H p.2 = some (.tbl #[])) → SqL K H a (ns.map V.int) → sp [.ref a] H (fun v _ => v = .bl true) fun _ _ _ => False) ∧
      ∀ base : Heap, K.In base → base.Ns mainGlobals mg → (∀ p ∈ cs, LamX.TabB base mg p.1 p.2) → FnOk P w K mg base CX0 9 f fd ["script"] sp := by
  have d := c.t.d
  obtain ⟨e1, ex⟩ := He.ba c.more
  obtain ⟨e2, ex⟩ := He.ba ex
  obtain ⟨e3, ex⟩ := He.ba ex
  obtain ⟨e4, ex⟩ := He.ba ex
  obtain ⟨e5, ex⟩ := He.ba ex
  obtain ⟨e6, ex⟩ := He.ba ex
  obtain ⟨e7, ex⟩ := He.ba ex
  obtain ⟨e8, ex⟩ := He.ba ex
  obtain ⟨e9, ex⟩ := He.ba ex
  obtain ⟨e10, ex⟩ := He.ba ex
  obtain ⟨e11, e12⟩ := He.ba ex
  obtain ⟨d_init, FD_init⟩ := d.def_ 0 (d := dInit) rfl
  obtain ⟨d_is_number, FD_is_number⟩ := d.def_ 1 (d := D_is_number) rfl
  obtain ⟨d_is_fraction, FD_is_fraction⟩ := d.def_ 2 (d := D_is_fraction) rfl
  obtain ⟨d_fraction, FD_fraction⟩ := d.def_ 3 (d := D_fraction) rfl
  obtain ⟨d_plus, FD_plus⟩ := d.def_ 4 (d := D_plus) rfl
  obtain ⟨d_minus, FD_minus⟩ := d.def_ 5 (d := D_minus) rfl
  obtain ⟨d_times, FD_times⟩ := d.def_ 6 (d := D_times) rfl
  obtain ⟨d_quotient, FD_quotient⟩ := d.def_ 7 (d := D_quotient) rfl
  obtain ⟨d_below, FD_below⟩ := d.def_ 8 (d := D_below) rfl
  obtain ⟨d_floor_of, FD_floor_of⟩ := d.def_ 9 (d := D_floor_of) rfl
  obtain ⟨d_merged, FD_merged⟩ := d.def_ 10 (d := D_merged) rfl
  obtain ⟨d_ascending, FD_ascending⟩ := d.def_ 11 (d := D_ascending) rfl
  obtain ⟨d_mean_of, FD_mean_of⟩ := d.def_ 12 (d := D_mean_of) rfl
  obtain ⟨d__law_bag, FD__law_bag⟩ := d.def_ 13 (d := D__law_bag) rfl
  obtain ⟨d__law_draw, FD__law_draw⟩ := d.def_ 14 (d := D__law_draw) rfl
  obtain ⟨d__law_of, FD__law_of⟩ := d.def_ 15 (d := D__law_of) rfl
  obtain ⟨d__law_like, FD__law_like⟩ := d.def_ 16 (d := D__law_like) rfl
  obtain ⟨d__law_low, FD__law_low⟩ := d.def_ 17 (d := D__law_low) rfl
  obtain ⟨d__law_order, FD__law_order⟩ := d.def_ 18 (d := D__law_order) rfl
  obtain ⟨d__law_number, FD__law_number⟩ := d.def_ 19 (d := D__law_number) rfl
  obtain ⟨d__law_some, FD__law_some⟩ := d.def_ 20 (d := D__law_some) rfl
  obtain ⟨d__law_pair, FD__law_pair⟩ := d.def_ 21 (d := D__law_pair) rfl
  obtain ⟨d__law_exact, FD__law_exact⟩ := d.def_ 22 (d := D__law_exact) rfl
  obtain ⟨d__law_ask, FD__law_ask⟩ := d.def_ 23 (d := D__law_ask) rfl
  obtain ⟨d__law_made, FD__law_made⟩ := d.def_ 24 (d := D__law_made) rfl
  obtain ⟨d__law_joined, FD__law_joined⟩ := d.def_ 25 (d := D__law_joined) rfl
  obtain ⟨d__law_compared, FD__law_compared⟩ := d.def_ 26 (d := D__law_compared) rfl
  obtain ⟨d__law_listed, FD__law_listed⟩ := d.def_ 27 (d := D__law_listed) rfl
  obtain ⟨d_law, FD_law⟩ := d.def_ 28 (d := D_law) rfl
  have F_init : Fun K "__init__" "BadValue.__init__" s_BadValue (bvI K) d_init := fun_ofD FD_init
  have F_is_number : Fun K "is_number" "is_number" s_is_number (He.ga K "is_number") d_is_number := fun_ofD FD_is_number
  have F_is_fraction : Fun K "is_fraction" "is_fraction" s_is_fraction (He.ga K "is_fraction") d_is_fraction := fun_ofD FD_is_fraction
  have F_plus : Fun K "plus" "plus" s_plus (He.ga K "plus") d_plus := fun_ofD FD_plus
  have F_minus : Fun K "minus" "minus" s_minus (He.ga K "minus") d_minus := fun_ofD FD_minus
  have F_times : Fun K "times" "times" s_times (He.ga K "times") d_times := fun_ofD FD_times
  have F_quotient : Fun K "quotient" "quotient" s_quotient (He.ga K "quotient") d_quotient := fun_ofD FD_quotient
  have F_below : Fun K "below" "below" s_below (He.ga K "below") d_below := fun_ofD FD_below
  have F_floor_of : Fun K "floor_of" "floor_of" s_floor_of (He.ga K "floor_of") d_floor_of := fun_ofD FD_floor_of
  have F_merged : Fun K "merged" "merged" s_merged (He.ga K "merged") d_merged := fun_ofD FD_merged
  have F_ascending : Fun K "ascending" "ascending" s_ascending (He.ga K "ascending") d_ascending := fun_ofD FD_ascending
  have F_mean_of : Fun K "mean_of" "mean_of" s_mean_of (He.ga K "mean_of") d_mean_of := fun_ofD FD_mean_of
  have F__law_bag : Fun K "_law_bag" "_law_bag" s__law_bag (He.ga K "_law_bag") d__law_bag := fun_ofD FD__law_bag
  have F__law_draw : Fun K "_law_draw" "_law_draw" s__law_draw (He.ga K "_law_draw") d__law_draw := fun_ofD FD__law_draw
  have F__law_of : Fun K "_law_of" "_law_of" s__law_of (He.ga K "_law_of") d__law_of := fun_ofD FD__law_of
  have F__law_like : Fun K "_law_like" "_law_like" s__law_like (He.ga K "_law_like") d__law_like := fun_ofD FD__law_like
  have F__law_low : Fun K "_law_low" "_law_low" s__law_low (He.ga K "_law_low") d__law_low := fun_ofD FD__law_low
  have F__law_order : Fun K "_law_order" "_law_order" s__law_order (He.ga K "_law_order") d__law_order := fun_ofD FD__law_order
  have F__law_number : Fun K "_law_number" "_law_number" s__law_number (He.ga K "_law_number") d__law_number := fun_ofD FD__law_number
  have F__law_some : Fun K "_law_some" "_law_some" s__law_some (He.ga K "_law_some") d__law_some := fun_ofD FD__law_some
  have F__law_pair : Fun K "_law_pair" "_law_pair" s__law_pair (He.ga K "_law_pair") d__law_pair := fun_ofD FD__law_pair
  have F__law_exact : Fun K "_law_exact" "_law_exact" s__law_exact (He.ga K "_law_exact") d__law_exact := fun_ofD FD__law_exact
  have F__law_ask : Fun K "_law_ask" "_law_ask" s__law_ask (He.ga K "_law_ask") d__law_ask := fun_ofD FD__law_ask
  have F__law_made : Fun K "_law_made" "_law_made" s__law_made (He.ga K "_law_made") d__law_made := fun_ofD FD__law_made
  have F__law_joined : Fun K "_law_joined" "_law_joined" s__law_joined (He.ga K "_law_joined") d__law_joined := fun_ofD FD__law_joined
  have F__law_compared : Fun K "_law_compared" "_law_compared" s__law_compared (He.ga K "_law_compared") d__law_compared := fun_ofD FD__law_compared
  have F__law_listed : Fun K "_law_listed" "_law_listed" s__law_listed (He.ga K "_law_listed") d__law_listed := fun_ofD FD__law_listed
  have F_law : Fun K "law" "law" s_law (He.ga K "law") d_law := fun_ofD FD_law
  have b_init := F_init.binds (ps := ["self", "value"]) fun _ _ _ _ _ _ us hl => match us, hl with | [_, _], _ => rfl
  have b_is_number := F_is_number.binds (ps := ["value"]) fun _ _ _ _ _ _ us hl => match us, hl with | [_], _ => rfl
  have b_is_fraction := F_is_fraction.binds (ps := ["value"]) fun _ _ _ _ _ _ us hl => match us, hl with | [_], _ => rfl
  have b_plus := F_plus.binds (ps := ["a", "b"]) fun _ _ _ _ _ _ us hl => match us, hl with | [_, _], _ => rfl
  have b_minus := F_minus.binds (ps := ["a", "b"]) fun _ _ _ _ _ _ us hl => match us, hl with | [_, _], _ => rfl
  have b_times := F_times.binds (ps := ["a", "b"]) fun _ _ _ _ _ _ us hl => match us, hl with | [_, _], _ => rfl
  have b_quotient := F_quotient.binds (ps := ["a", "b"]) fun _ _ _ _ _ _ us hl => match us, hl with | [_, _], _ => rfl
  have b_below := F_below.binds (ps := ["a", "b"]) fun _ _ _ _ _ _ us hl => match us, hl with | [_, _], _ => rfl
  have b_floor_of := F_floor_of.binds (ps := ["a"]) fun _ _ _ _ _ _ us hl => match us, hl with | [_], _ => rfl
  have b_merged := F_merged.binds (ps := ["low", "high"]) fun _ _ _ _ _ _ us hl => match us, hl with | [_, _], _ => rfl
  have b_ascending := F_ascending.binds (ps := ["values"]) fun _ _ _ _ _ _ us hl => match us, hl with | [_], _ => rfl
  have b_mean_of := F_mean_of.binds (ps := ["values"]) fun _ _ _ _ _ _ us hl => match us, hl with | [_], _ => rfl
  have b__law_bag := F__law_bag.binds (ps := ["script"]) fun _ _ _ _ _ _ us hl => match us, hl with | [_], _ => rfl
  have b__law_draw := F__law_draw.binds (ps := ["bag", "size"]) fun _ _ _ _ _ _ us hl => match us, hl with | [_, _], _ => rfl
  have b__law_of := F__law_of.binds (ps := ["bag", "things"]) fun _ _ _ _ _ _ us hl => match us, hl with | [_, _], _ => rfl
  have b__law_like := F__law_like.binds (ps := ["got", "due"]) fun _ _ _ _ _ _ us hl => match us, hl with | [_, _], _ => rfl
  have b__law_low := F__law_low.binds (ps := ["top", "low"]) fun _ _ _ _ _ _ us hl => match us, hl with | [_, _], _ => rfl
  have b__law_order := F__law_order.binds (ps := ["one", "two"]) fun _ _ _ _ _ _ us hl => match us, hl with | [_, _], _ => rfl
  have b__law_number := F__law_number.binds (ps := ["bag"]) fun _ _ _ _ _ _ us hl => match us, hl with | [_], _ => rfl
  have b__law_some := F__law_some.binds (ps := ["bag"]) fun _ _ _ _ _ _ us hl => match us, hl with | [_], _ => rfl
  have b__law_pair := F__law_pair.binds (ps := ["bag"]) fun _ _ _ _ _ _ us hl => match us, hl with | [_], _ => rfl
  have b__law_exact := F__law_exact.binds (ps := ["got", "top", "low"]) fun _ _ _ _ _ _ us hl => match us, hl with | [_, _, _], _ => rfl
  have b__law_ask := F__law_ask.binds (ps := ["deed"]) fun _ _ _ _ _ _ us hl => match us, hl with | [_], _ => rfl
  have b__law_made := F__law_made.binds (ps := ["bag"]) fun _ _ _ _ _ _ us hl => match us, hl with | [_], _ => rfl
  have b__law_joined := F__law_joined.binds (ps := ["one", "two", "way"]) fun _ _ _ _ _ _ us hl => match us, hl with | [_, _, _], _ => rfl
  have b__law_compared := F__law_compared.binds (ps := ["one", "two", "way"]) fun _ _ _ _ _ _ us hl => match us, hl with | [_, _, _], _ => rfl
  have b__law_listed := F__law_listed.binds (ps := ["bag"]) fun _ _ _ _ _ _ us hl => match us, hl with | [_], _ => rfl
  have b_law := F_law.binds (ps := ["script"]) fun _ _ _ _ _ _ us hl => match us, hl with | [_], _ => rfl
  have b_fraction : Binds K d_fraction ["p", "q"] [] := by
    obtain ⟨ds, hv, hb⟩ := FunD.binds1 (ps := ["p", "q"]) FD_fraction 2 1 (List.cons_ne_nil _ _) rfl fun _ _ _ _ _ _ _ us its h1 h2 => match us, its, h1, h2 with | [_, _], [_], _, _ => ⟨_, rfl, rfl⟩
    cases hv
    exact hb
  have dfl_fraction : ∃ ds, Vals [.int 1] ds ∧ Binds K d_fraction ["p", "q"] ds := FunD.binds1 (ps := ["p", "q"]) FD_fraction 1 0 (List.cons_ne_nil _ _) rfl fun _ _ _ _ _ _ _ us its h1 h2 => match us, its, h1, h2 with | [_], [_], _, _ => ⟨_, rfl, rfl⟩
  have z1_fraction : ∃ it : Value, KBn K d_fraction ["p", "q"] 0 ["p"] (fun _ ws => ws ++ [it]) (fun _ zs => zs ++ [V.int 1]) := by
    obtain ⟨its, hl, hb⟩ := kb_ofD (ps := ["p", "q"]) FD_fraction ["p"] (fun ds zs => zs ++ ds) (List.cons_ne_nil _ _) (fun a b => b.append a) fun _ _ _ _ _ _ _ its ws h1 h2 => match its, ws, h1, h2 with | [_], [_], _, _ => ⟨_, rfl, rfl⟩
    match its, hl, hb with
    | [it], _, hb => exact ⟨it, hb⟩
  have z2_fraction : KBn K d_fraction ["p", "q"] 0 ["q", "p"] (fun _ ws => sw ws) (fun _ zs => sw zs) := by
    obtain ⟨its, hl, hb⟩ := kb_ofD (ps := ["p", "q"]) FD_fraction ["q", "p"] (fun ds zs => sw zs) (List.cons_ne_nil _ _) (fun a b => sw_rel b) fun _ _ _ _ _ _ _ its ws h1 h2 => match its, ws, h1, h2 with | [_], [_, _], _, _ => ⟨_, rfl, rfl⟩
    exact hb
  have z_plus : KBn K d_plus ["a", "b"] 0 ["b", "a"] (fun _ ws => sw ws) (fun _ zs => sw zs) := kb_of F_plus (n := 0) (ks := ["b", "a"]) (ps := ["a", "b"]) (fun _ ws => sw ws) (fun _ h => sw_rel h) fun _ _ _ _ _ _ us ws h1 h2 => match us, ws, h1, h2 with | [], [_, _], _, _ => rfl
  have z_minus : KBn K d_minus ["a", "b"] 0 ["b", "a"] (fun _ ws => sw ws) (fun _ zs => sw zs) := kb_of F_minus (n := 0) (ks := ["b", "a"]) (ps := ["a", "b"]) (fun _ ws => sw ws) (fun _ h => sw_rel h) fun _ _ _ _ _ _ us ws h1 h2 => match us, ws, h1, h2 with | [], [_, _], _, _ => rfl
  have z_times : KBn K d_times ["a", "b"] 0 ["a", "b"] (fun _ ws => ws) (fun _ zs => zs) := kb_of F_times (n := 0) (ks := ["a", "b"]) (ps := ["a", "b"]) (fun _ ws => ws) (fun _ h => h) fun _ _ _ _ _ _ us ws h1 h2 => match us, ws, h1, h2 with | [], [_, _], _, _ => rfl
  have z_quotient : KBn K d_quotient ["a", "b"] 0 ["b", "a"] (fun _ ws => sw ws) (fun _ zs => sw zs) := kb_of F_quotient (n := 0) (ks := ["b", "a"]) (ps := ["a", "b"]) (fun _ ws => sw ws) (fun _ h => sw_rel h) fun _ _ _ _ _ _ us ws h1 h2 => match us, ws, h1, h2 with | [], [_, _], _, _ => rfl
  have z_below : KBn K d_below ["a", "b"] 0 ["b", "a"] (fun _ ws => sw ws) (fun _ zs => sw zs) := kb_of F_below (n := 0) (ks := ["b", "a"]) (ps := ["a", "b"]) (fun _ ws => sw ws) (fun _ h => sw_rel h) fun _ _ _ _ _ _ us ws h1 h2 => match us, ws, h1, h2 with | [], [_, _], _, _ => rfl
  have z_floor_of : KBn K d_floor_of ["a"] 0 ["a"] (fun _ ws => ws) (fun _ zs => zs) := kb_of F_floor_of (n := 0) (ks := ["a"]) (ps := ["a"]) (fun _ ws => ws) (fun _ h => h) fun _ _ _ _ _ _ us ws h1 h2 => match us, ws, h1, h2 with | [], [_], _, _ => rfl
  have z_ascending : KBn K d_ascending ["values"] 0 ["values"] (fun _ ws => ws) (fun _ zs => zs) := kb_of F_ascending (n := 0) (ks := ["values"]) (ps := ["values"]) (fun _ ws => ws) (fun _ h => h) fun _ _ _ _ _ _ us ws h1 h2 => match us, ws, h1, h2 with | [], [_], _, _ => rfl
  have z_mean_of : KBn K d_mean_of ["values"] 0 ["values"] (fun _ ws => ws) (fun _ zs => zs) := kb_of F_mean_of (n := 0) (ks := ["values"]) (ps := ["values"]) (fun _ ws => ws) (fun _ h => h) fun _ _ _ _ _ _ us ws h1 h2 => match us, ws, h1, h2 with | [], [_], _, _ => rfl
  let T : Txt w K mg := {
    n_len := He.free_ok X G (d.fact 0 (f := .free "len") rfl)
    n_int := He.free_ok X G (d.fact 1 (f := .free "int") rfl)
    n_str := He.free_ok X G (d.fact 2 (f := .free "str") rfl)
    n_list := He.free_ok X G (d.fact 3 (f := .free "list") rfl)
    n_tuple := He.free_ok X G (d.fact 4 (f := .free "tuple") rfl)
    n_bool := He.free_ok X G (d.fact 5 (f := .free "bool") rfl)
    n_isinstance := He.free_ok X G (d.fact 6 (f := .free "isinstance") rfl)
    n_all := He.free_ok X G (d.fact 7 (f := .free "all") rfl)
    n_range := He.free_ok X G (d.fact 8 (f := .free "range") rfl)
    n_zip := He.free_ok X G (d.fact 9 (f := .free "zip") rfl)
    n_abs := He.free_ok X G (d.fact 10 (f := .free "abs") rfl)
    n_max := He.free_ok X G (d.fact 11 (f := .free "max") rfl)
    n_sum := He.free_ok X G (d.fact 12 (f := .free "sum") rfl)
    m_gcd := PySem.W.mg_of X G (He.eqO_ok e5)
    a_ZERO := He.ga K "ZERO"
    m_ZERO := He.glo_ok X G (d.fact 13 (f := .glo "ZERO") rfl)
    s_ZERO := fun H => He.tupB_ok e6 H
    C_BadValue := bvC K
    f_BadValue := bvI K
    d_BadValue := d_init
    m_BadValue := He.glo_ok X G (d.fact 14 (f := .glo "BadValue") rfl)
    X_BadValue := oexB_ok e1
    i_BadValue := He.eqO_ok e8
    t_BadValue := of_decide_eq_true e7
    F_BadValue := F_init
    B_BadValue__init := b_init
    v_BadValue := He.noat_ok (d.fact 44 (f := .noat "BadValue" "value") rfl)
    c_BadValue := He.noat_ok (d.fact 45 (f := .noat "BadValue" "code") rfl)
    C_NetError := He.ga K "NetError"
    m_NetError := He.glo_ok X G (d.fact 15 (f := .glo "NetError") rfl)
    e_BadValue := He.exm_ok (d.fact 46 (f := .exm "BadValue" "NetError" true) rfl)
    x_BadValue := xfB_ok e2
    y_BadValue := isxB_ok e3
    k_BadValue := of_decide_eq_true e4
    a_is_number := He.ga K "is_number"
    d_is_number := d_is_number
    F_is_number := F_is_number
    m_is_number := He.glo_ok X G (d.fact 16 (f := .glo "is_number") rfl)
    B_is_number := b_is_number
    a_is_fraction := He.ga K "is_fraction"
    d_is_fraction := d_is_fraction
    F_is_fraction := F_is_fraction
    m_is_fraction := He.glo_ok X G (d.fact 17 (f := .glo "is_fraction") rfl)
    B_is_fraction := b_is_fraction
    a_fraction := He.ga K "fraction"
    d_fraction := d_fraction
    F_fraction := FD_fraction
    m_fraction := He.glo_ok X G (d.fact 18 (f := .glo "fraction") rfl)
    B_fraction := b_fraction
    a_plus := He.ga K "plus"
    d_plus := d_plus
    F_plus := F_plus
    m_plus := He.glo_ok X G (d.fact 19 (f := .glo "plus") rfl)
    B_plus := b_plus
    a_minus := He.ga K "minus"
    d_minus := d_minus
    F_minus := F_minus
    m_minus := He.glo_ok X G (d.fact 20 (f := .glo "minus") rfl)
    B_minus := b_minus
    a_times := He.ga K "times"
    d_times := d_times
    F_times := F_times
    m_times := He.glo_ok X G (d.fact 21 (f := .glo "times") rfl)
    B_times := b_times
    a_quotient := He.ga K "quotient"
    d_quotient := d_quotient
    F_quotient := F_quotient
    m_quotient := He.glo_ok X G (d.fact 22 (f := .glo "quotient") rfl)
    B_quotient := b_quotient
    a_below := He.ga K "below"
    d_below := d_below
    F_below := F_below
    m_below := He.glo_ok X G (d.fact 23 (f := .glo "below") rfl)
    B_below := b_below
    a_floor_of := He.ga K "floor_of"
    d_floor_of := d_floor_of
    F_floor_of := F_floor_of
    m_floor_of := He.glo_ok X G (d.fact 24 (f := .glo "floor_of") rfl)
    B_floor_of := b_floor_of
    a_merged := He.ga K "merged"
    d_merged := d_merged
    F_merged := F_merged
    m_merged := He.glo_ok X G (d.fact 25 (f := .glo "merged") rfl)
    B_merged := b_merged
    a_ascending := He.ga K "ascending"
    d_ascending := d_ascending
    F_ascending := F_ascending
    m_ascending := He.glo_ok X G (d.fact 26 (f := .glo "ascending") rfl)
    B_ascending := b_ascending
    a_mean_of := He.ga K "mean_of"
    d_mean_of := d_mean_of
    F_mean_of := F_mean_of
    m_mean_of := He.glo_ok X G (d.fact 27 (f := .glo "mean_of") rfl)
    B_mean_of := b_mean_of
    a__law_bag := He.ga K "_law_bag"
    d__law_bag := d__law_bag
    F__law_bag := F__law_bag
    m__law_bag := He.glo_ok X G (d.fact 28 (f := .glo "_law_bag") rfl)
    B__law_bag := b__law_bag
    a__law_draw := He.ga K "_law_draw"
    d__law_draw := d__law_draw
    F__law_draw := F__law_draw
    m__law_draw := He.glo_ok X G (d.fact 29 (f := .glo "_law_draw") rfl)
    B__law_draw := b__law_draw
    a__law_of := He.ga K "_law_of"
    d__law_of := d__law_of
    F__law_of := F__law_of
    m__law_of := He.glo_ok X G (d.fact 30 (f := .glo "_law_of") rfl)
    B__law_of := b__law_of
    a__law_like := He.ga K "_law_like"
    d__law_like := d__law_like
    F__law_like := F__law_like
    m__law_like := He.glo_ok X G (d.fact 31 (f := .glo "_law_like") rfl)
    B__law_like := b__law_like
    a__law_low := He.ga K "_law_low"
    d__law_low := d__law_low
    F__law_low := F__law_low
    m__law_low := He.glo_ok X G (d.fact 32 (f := .glo "_law_low") rfl)
    B__law_low := b__law_low
    a__law_order := He.ga K "_law_order"
    d__law_order := d__law_order
    F__law_order := F__law_order
    m__law_order := He.glo_ok X G (d.fact 33 (f := .glo "_law_order") rfl)
    B__law_order := b__law_order
    a__law_number := He.ga K "_law_number"
    d__law_number := d__law_number
    F__law_number := F__law_number
    m__law_number := He.glo_ok X G (d.fact 34 (f := .glo "_law_number") rfl)
    B__law_number := b__law_number
    a__law_some := He.ga K "_law_some"
    d__law_some := d__law_some
    F__law_some := F__law_some
    m__law_some := He.glo_ok X G (d.fact 35 (f := .glo "_law_some") rfl)
    B__law_some := b__law_some
    a__law_pair := He.ga K "_law_pair"
    d__law_pair := d__law_pair
    F__law_pair := F__law_pair
    m__law_pair := He.glo_ok X G (d.fact 36 (f := .glo "_law_pair") rfl)
    B__law_pair := b__law_pair
    a__law_exact := He.ga K "_law_exact"
    d__law_exact := d__law_exact
    F__law_exact := F__law_exact
    m__law_exact := He.glo_ok X G (d.fact 37 (f := .glo "_law_exact") rfl)
    B__law_exact := b__law_exact
    a__law_ask := He.ga K "_law_ask"
    d__law_ask := d__law_ask
    F__law_ask := F__law_ask
    m__law_ask := He.glo_ok X G (d.fact 38 (f := .glo "_law_ask") rfl)
    B__law_ask := b__law_ask
    a__law_made := He.ga K "_law_made"
    d__law_made := d__law_made
    F__law_made := F__law_made
    m__law_made := He.glo_ok X G (d.fact 39 (f := .glo "_law_made") rfl)
    B__law_made := b__law_made
    a__law_joined := He.ga K "_law_joined"
    d__law_joined := d__law_joined
    F__law_joined := F__law_joined
    m__law_joined := He.glo_ok X G (d.fact 40 (f := .glo "_law_joined") rfl)
    B__law_joined := b__law_joined
    a__law_compared := He.ga K "_law_compared"
    d__law_compared := d__law_compared
    F__law_compared := F__law_compared
    m__law_compared := He.glo_ok X G (d.fact 41 (f := .glo "_law_compared") rfl)
    B__law_compared := b__law_compared
    a__law_listed := He.ga K "_law_listed"
    d__law_listed := d__law_listed
    F__law_listed := F__law_listed
    m__law_listed := He.glo_ok X G (d.fact 42 (f := .glo "_law_listed") rfl)
    B__law_listed := b__law_listed
    a_law := He.ga K "law"
    d_law := d_law
    F_law := F_law
    m_law := He.glo_ok X G (d.fact 43 (f := .glo "law") rfl)
    B_law := b_law
    D_fraction := dfl_fraction
    c__law_made := He.codeOf K ("_law_made", none)
    P__law_made := tabP K "_law_made"
    k__law_made := code_ofD FD__law_made
    c__law_joined := He.codeOf K ("_law_joined", none)
    P__law_joined := tabP K "_law_joined"
    k__law_joined := code_ofD FD__law_joined
    c__law_listed := He.codeOf K ("_law_listed", none)
    P__law_listed := tabP K "_law_listed"
    k__law_listed := code_ofD FD__law_listed
    ne__law_made_law_joined := of_decide_eq_true e9
    ne__law_made_law_listed := of_decide_eq_true e10
    ne__law_joined_law_listed := of_decide_eq_true e11
    Z1_fraction := z1_fraction
    Z2_fraction := z2_fraction
    Z_plus := z_plus
    Z_minus := z_minus
    Z_times := z_times
    Z_quotient := z_quotient
    Z_below := z_below
    Z_floor_of := z_floor_of
    Z_ascending := z_ascending
    Z_mean_of := z_mean_of
  }
  have ef : f = He.ga K "law" := by
    have e := hfa.symm.trans T.m_law
    cases e
    rfl
  have at_ : ∀ p ∈ T.cs, ∃ x ∈ tfL, p = He.cT K x := fun p hp => by
    have hp : p ∈ [He.cT K ("_law_made", none), He.cT K ("_law_joined", none), He.cT K ("_law_listed", none)] := hp
    simp only [List.mem_cons, List.mem_nil_iff, or_false] at hp
    rcases hp with rfl | rfl | rfl <;> exact ⟨_, by simp [tfL], rfl⟩
  refine ⟨d_law, T.cs, sp_law K T.TL, fun p hp => ?_, fun p hp => ?_, fun p hp => ?_, fun s u => FunD.bindsA (ps := ["script"]) FD_law (fun _ _ _ _ _ _ us hl => match us, hl with | [_], _ => rfl) s [u] rfl, fun H a ns hl _ hT hS => ⟨a, ns, rfl, hS, hl, fun p hp => ?_, fun _ => rfl⟩, fun base _ _ hB => ?_⟩
  · obtain ⟨x, hx, rfl⟩ := at_ p hp
    exact c.empty x hx
  · obtain ⟨x, hx, rfl⟩ := at_ p hp
    exact c.out x hx
  · obtain ⟨x, hx, rfl⟩ := at_ p hp
    exact PySem.W.codeHd_of_K X (c.hd x hx)
  · have hp : p ∈ [(T.P__law_made, lamQ "_law_made"), (T.P__law_joined, lamQ "_law_joined"), (T.P__law_listed, lamQ "_law_listed")] := hp
    simp only [List.mem_cons, List.mem_nil_iff, or_false] at hp
    rcases hp with rfl | rfl | rfl
    · exact LamX.TabS.nil (hT _ (T.cs1))
    · exact LamX.TabS.nil (hT _ (T.cs2))
    · exact LamX.TabS.nil (hT _ (T.cs3))
  · rw [ef]
    exact ok_law (P := P) (base := base) T hB
/-! ### the head's run -/
abbrev R : PySem.W.OpenRow := PySem.W.OpenLaw.row PySem.Challenge.rw_lookingnets_k01_fractions_worked
abbrev hk : PySem.W.Hook := He.hookX 6 faL fnL [] tfL exB
def ob (s : PySem.W.SharedT) : He.AlX := He.obsX 6 faL fnL [] tfL exB (HandSHeadRun.getT s)
theorem ob_eq (s : PySem.W.SharedT) : ob s = hk.obs s.abs := He.obsX_eq (HandSHeadRun.getT_eq s)
def loose : List Str := ["NetError", "BadValue", "ZERO", "is_number", "is_fraction", "fraction", "plus", "minus", "times", "quotient", "below", "floor_of", "merged", "ascending", "mean_of", "_law_bag", "_law_draw", "_law_of", "_law_like", "_law_low", "_law_order", "_law_number", "_law_some", "_law_pair", "_law_exact", "_law_ask", "_law_made", "_law_joined", "_law_compared", "_law_listed"]
set_option maxHeartbeats 0 in
theorem run (w : World) : HandSHeadRun.RunEqI R (PySem.W.view R.prog [0, 34]) hk ob 20000 loose w := by
  unfold HandSHeadRun.RunEqI
  kernel_rfl
end LK

open PySem PySem.W PySem.Calls PyProof.Rows
set_option maxRecDepth 100000 in
set_option maxHeartbeats 0 in
theorem PySem.Challenge.cw_lookingnets_k01_fractions_worked_holds : PySem.Challenge.rw_lookingnets_k01_fractions_worked.Holds := by
  w_on; o_law
  refine HandSHeadRun.head_imp (r := OpenLaw.row PySem.Challenge.rw_lookingnets_k01_fractions_worked) (q := view (OpenLaw.row PySem.Challenge.rw_lookingnets_k01_fractions_worked).prog [0, 34]) (H := LK.hk) (ob := LK.ob) (M := 20000) (loose := LK.loose) (d := HandSHeadRun.topDef (OpenLaw.row PySem.Challenge.rw_lookingnets_k01_fractions_worked).prog 34) (kwd := []) LK.ob_eq
    LK.run (by kernel_rfl) (by kernel_rfl) (by kernel_rfl) (by rfl) (by first | assumption | decide +kernel) (by decide +kernel) ⟨rfl, rfl, rfl, rfl, rfl, by decide +kernel⟩ ?hw ?hc
  case hw => w_witness2
  case hc =>
    refine LamX.walk_ofTsE (l := PySem.Challenge.rw_lookingnets_k01_fractions_worked) (n := 63) (k := 9) (x := "script") (CX := fun _ => L2.CX0) rfl (by decide) (by kernel_rfl) ⟨rfl, by decide, by decide⟩ ?F (fun _ _ _ _ _ z => z)
    intro w mg fa h Y G hmg0
    obtain ⟨K, KX, c⟩ := Y
    have hmg : mg ("law" : PySem.Str) = some (.ref fa) := by
      have e : (HandSHeadRun.topDef (OpenLaw.row PySem.Challenge.rw_lookingnets_k01_fractions_worked).prog 34).name = ("law" : PySem.Str) := by kernel_rfl
      rw [← e]
      exact hmg0
    exact ⟨K, KX, LK.facts KX G hmg c⟩
