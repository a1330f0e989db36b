import PyProof.Rows.All
import Wide.All
import OpenK.AllK
import Wide.FinOn
import HandS.ForMost
import HandS.IsInst
import HandS.Zip
import HandS.TupAny
import HandS.Style
import HandS.More
import HandS.Defaults
import HandS.Walk
import PySem.Challenge.RW_lookingnets_k04_expressions_judged
set_option Elab.async false
set_option linter.all false
set_option maxRecDepth 100000
namespace LK
open PySem PySem.Spec PyProof.Rows L2
/-! ### heaps but for one object -/
def hb (H : Hp) (b : Addr) : Hp := fun a => if a = b then none else H a
theorem hb_ne {H : Hp} {a b : Addr} (h : a ≠ b) : hb H b a = H a := if_neg h
theorem hb_same {H : Hp} {b : Addr} : hb H b b = none := if_pos rfl
theorem hb_some {H : Hp} {a b : Addr} {o : HO} (h : hb H b a = some o) : a ≠ b ∧ H a = some o := by
  unfold hb at h
  split at h
  · cases h
  · exact ⟨by assumption, h⟩
theorem hb_le (H : Hp) (b : Addr) : Same (hb H b) H := fun _ _ h => (hb_some h).2
/-- all but b stays -/
abbrev Kp (b : Addr) (H H' : Hp) : Prop := Same (hb H b) (hb H' b)
theorem Kp.of {b : Addr} {H H' : Hp} (s : Same H H') : Kp b H H' := fun a o h => by
  obtain ⟨h1, h2⟩ := hb_some h
  rw [hb_ne h1]
  exact s _ _ h2
theorem Kp.refl (b : Addr) (H : Hp) : Kp b H H := Same.refl _
theorem Kp.upd {b : Addr} {H : Hp} {o : HO} : Kp b H (upd H b o) := fun a u h => by
  obtain ⟨h1, h2⟩ := hb_some h
  rw [hb_ne h1, upd_ne h1]
  exact h2
theorem Kp.hd {b a : Addr} {H H' : Hp} {o : HO} (k : Kp b H H') (h : H a = some o) (n : a ≠ b) : H' a = some o := (hb_some (k a o (by rw [hb_ne n]; exact h))).2
/-- a new object -/
theorem al {H : Hp} {R : Addr → Hp → Prop} {o : HO} (h : ∀ p H1, Same H H1 → H1 p = some o → H p = none → R p H1) : ∀ p, H p = none → R p (upd H p o) := fun p hp =>
  h p _ (fun a u e => by rw [upd_ne (ne_of_none e hp)]; exact e) upd_same hp
theorem same_upd {H : Hp} {p : Addr} {o : HO} (hp : H p = none) : Same H (upd H p o) := fun a u e => by rw [upd_ne (ne_of_none e hp)]; exact e
theorem at_ofN {α : Type} {xs : List α} {z : Int} {j : Nat} {v : α} (e : z = (j : Int)) (h : xs[j]? = some v) : atI xs z = some v := by
  subst e
  exact atI_nat h
/-! ### the bag of a law -/
def Bag (H : Hp) (b c : Addr) : Prop := ∃ (cells : List Int) (i g m n : Int), H b = some (.lst [.ref c, .int i, .int g, .int m, .int n]) ∧ H c = some (.lst (cells.map V.int)) ∧ c ≠ b ∧ 0 ≤ i ∧ 0 ≤ m ∧ m < 2147483579
theorem Bag.same {H H' : Hp} {b c : Addr} (B : Bag H b c) (s : Same H H') : Bag H' b c := by
  obtain ⟨cells, i, g, m, n, h1, h2, h3⟩ := B
  exact ⟨cells, i, g, m, n, s _ _ h1, s _ _ h2, h3⟩
theorem Bag.at {H : Hp} {b c : Addr} (B : Bag H b c) : ∃ xs, H b = some (.lst xs) := by
  obtain ⟨cells, i, g, m, n, h1, _⟩ := B
  exact ⟨_, h1⟩
theorem Bag.at2 {H : Hp} {b c : Addr} (B : Bag H b c) : ∃ xs, H c = some (.lst xs) := by
  obtain ⟨cells, i, g, m, n, h1, h2, _⟩ := B
  exact ⟨_, h2⟩
/-- another object is stored -/
theorem Bag.upd {H : Hp} {b c p : Addr} {o : HO} (B : Bag H b c) (n1 : b ≠ p) (n2 : c ≠ p) : Bag (upd H p o) b c := by
  obtain ⟨cells, i, g, m, n, h1, h2, h3⟩ := B
  exact ⟨cells, i, g, m, n, by rw [upd_ne n1]; exact h1, by rw [upd_ne n2]; exact h2, h3⟩
/-- a new object beside a bag -/
theorem alB {H : Hp} {R : Addr → Hp → Prop} {o : HO} {b c : Addr} (B : Bag H b c) (h : ∀ p H1, Kp b H H1 → Bag H1 b c → hb H1 b p = some o → Same H H1 → H p = none → R p H1) : ∀ p, H p = none → R p (upd H p o) :=
  al fun p H1 s h1 h0 => h p H1 (Kp.of s) (B.same s) (by
    have n : p ≠ b := fun e => by
      obtain ⟨xs, q⟩ := B.at
      rw [e, q] at h0; cases h0
    rw [hb_ne n]; exact h1) s h0
/-! ### data -/
theorem Same.seqT {K : PySem.W.Frag} {H H' : Hp} {a : Addr} {xs : List V} (e : Same H H') (h : SqT K H a xs) : SqT K H' a xs := by
  rcases h with (h | ⟨o, h⟩) | h
  · exact .inl (.inl (e _ _ h))
  · exact .inl (.inr ⟨o, e _ _ h⟩)
  · exact .inr h
mutual
theorem dp_same {K : PySem.W.Frag} {H H' : Hp} (e : Same H H') : ∀ {d : PyData} {v : V}, Dp K H v d → Dp K H' v d
  | .none, _, h => by cases h; exact .non
  | .bool _, _, h => by cases h; exact .bl _
  | .int _, _, h => by cases h; exact .int _
  | .str _, _, h => by cases h; exact .str _
  | .list ds, _, h => by cases h with | lst a b => exact .lst (L2.Same.seq e a) (dpa_same e b)
  | .tuple ds, _, h => by cases h with | tup a b => exact .tup (Same.seqT e a) (dpa_same e b)
  | .dict _, _, h => by cases h
theorem dpa_same {K : PySem.W.Frag} {H H' : Hp} (e : Same H H') : ∀ {ds : List PyData} {vs : List V}, DpAll K H vs ds → DpAll K H' vs ds
  | [], _, h => by cases h; exact .nil
  | _ :: _, _, h => by cases h with | cons a b => exact .cons (dp_same e a) (dpa_same e b)
end
end LK
namespace LK
open PySem PySem.Spec PyProof.Rows L2
section
variable {CX : CXT} {P : Program} {w : World} {K : PySem.W.Frag} {mg : Str → Option Value} {base : Heap} {N : List Str} {q : Str} {sc : Scope} {f : Addr} {cd : Value} {A : Around} {outer : List Env} {s : Shared} {H : Hp} {E : XK}
theorem cxK : (cxOf CX P w K mg base N q sc f cd A outer s H E).K = K := rfl
theorem cxNK : (cxOf CX P w K mg base N q sc f cd A outer s H E).nox.K = K := rfl
theorem cxW : (cxOf CX P w K mg base N q sc f cd A outer s H E).w = w := rfl
end
theorem cut_seq {t u : TS} {D : Ends} {σ : L2.St} {H : Hp} (Mid : L2.St → Hp → Prop) (h1 : ∀ N : L2.St → Hp → Prop, (∀ σ' H', Mid σ' H' → N σ' H') → t { D with nx := N } σ H) (h2 : ∀ σ' H', Mid σ' H' → u D σ' H') : tSeq t u D σ H := h1 _ h2
end LK
namespace LK
open PySem PySem.Spec PyProof.Rows L2
theorem seq_op {t u : TS} {D : Ends} {σ : L2.St} {H : Hp} (h : ∀ N : L2.St → Hp → Prop, (∀ σ' H', u D σ' H' → N σ' H') → t { D with nx := N } σ H) : tSeq t u D σ H := h _ fun _ _ z => z
end LK
namespace LK
open PySem PySem.Spec PyProof.Rows L2
section
variable {X : Cx}
theorem opr_imp {f : Value → Value → Sem Value} {r r' : R2} (h : OpR X f r) (i : ∀ x y H Q, r' x y H Q → r x y H Q) : OpR X f r' := fun pins s σ H x y v u Q I rx ry q => h pins s σ H x y v u Q I rx ry (i _ _ _ _ q)
theorem cr_imp {f : Value} {r r' : List V → Hp → VK → Prop} (h : CallR X f r) (i : ∀ x H Q, r' x H Q → r x H Q) : CallR X f r' := fun pins s σ H xs us Q I rx q => h pins s σ H xs us Q I rx (i _ _ _ q)
theorem op_eqI : OpR X (compareOp .Eq) (rI0 fun i j => .bl (decide (i = j))) := opr_imp op_eq fun x y H Q h => by
  obtain ⟨i, j, rfl, rfl, q⟩ := h
  refine ⟨rfl, ?_⟩
  rw [L2.dec_int, Bool.beq_eq_decide_eq]; exact q
theorem op_neI : OpR X (compareOp .NotEq) (rI0 fun i j => .bl (!decide (i = j))) := opr_imp op_ne fun x y H Q h => by
  obtain ⟨i, j, rfl, rfl, q⟩ := h
  refine ⟨rfl, ?_⟩
  rw [L2.dec_int, Bool.beq_eq_decide_eq]; exact q
def rS0 (g : Str → Str → V) : R2 := fun x y H Q => ∃ i j, x = .str i ∧ y = .str j ∧ Q (g i j) H
theorem op_eqS : OpR X (compareOp .Eq) (rS0 fun i j => .bl (decide (i = j))) := opr_imp op_eq fun x y H Q h => by
  obtain ⟨i, j, rfl, rfl, q⟩ := h
  refine ⟨rfl, ?_⟩
  have e : decide (V.str i = V.str j) = decide (i = j) := by
    by_cases c : i = j
    · subst c; simp
    · rw [decide_eq_false c, decide_eq_false (fun z => c (V.str.inj z))]
  rw [e]; exact q
theorem op_neS : OpR X (compareOp .NotEq) (rS0 fun i j => .bl (!decide (i = j))) := opr_imp op_ne fun x y H Q h => by
  obtain ⟨i, j, rfl, rfl, q⟩ := h
  refine ⟨rfl, ?_⟩
  have e : decide (V.str i = V.str j) = decide (i = j) := by
    by_cases c : i = j
    · subst c; simp
    · rw [decide_eq_false c, decide_eq_false (fun z => c (V.str.inj z))]
  rw [e]; exact q
def rB0 (g : Bool → Bool → V) : R2 := fun x y H Q => ∃ i j, x = .bl i ∧ y = .bl j ∧ Q (g i j) H
theorem op_eqB : OpR X (compareOp .Eq) (rB0 fun i j => .bl (i == j)) := opr_imp op_eq fun x y H Q h => by
  obtain ⟨i, j, rfl, rfl, q⟩ := h
  refine ⟨rfl, ?_⟩
  rw [L2.dec_bl]; exact q
theorem op_neB : OpR X (compareOp .NotEq) (rB0 fun i j => .bl (!(i == j))) := opr_imp op_ne fun x y H Q h => by
  obtain ⟨i, j, rfl, rfl, q⟩ := h
  refine ⟨rfl, ?_⟩
  rw [L2.dec_bl]; exact q
/-- int(n) of an int -/
theorem call_intI : CallR X (.type "int") (fun xs H Q => ∃ i, xs = [.int i] ∧ Q (.int i) H) := cr_imp call_int1 fun xs H Q h => .inl h
end
end LK
namespace LK
open PySem PySem.Spec PyProof.Rows L2
/-! ### isinstance of data -/
def tyN : PyData → String
  | .none => "NoneType" | .bool _ => "bool" | .int _ => "int" | .str _ => "str" | .list _ => "list" | .tuple _ => "tuple" | .dict _ => "dict"
def isTy (T : String) : PyData → Bool
  | .none => false | .bool _ => T == "bool" || T == "int" | .int _ => T == "int" | .str _ => T == "str" | .list _ => T == "list" | .tuple _ => T == "tuple" | .dict _ => false
theorem dp_ty {K : PySem.W.Frag} {H : Hp} {v : V} {d : PyData} (h : Dp K H v d) : TyX K H v (.type (tyN d)) := by
  cases h with
  | non => exact .base .non
  | bl b => exact .base (.bl b)
  | int i => exact .base (.int i)
  | str x => exact .base (.str x)
  | lst hs _ =>
    rcases hs with (h | ⟨o, h⟩) | ⟨o, its, n, h1, h2, _⟩
    · exact .base (.lst h)
    · exact .base (.frz h)
    · exact .kList h1 h2
  | tup hs _ =>
    rcases hs with (h | ⟨o, h⟩) | ⟨o, its, n, h1, h2, _⟩
    · exact .base (.tup h)
    · exact .fTuple h
    · exact .kTuple h1 h2
theorem dp_kit {K : PySem.W.Frag} {H : Hp} {v : V} {d : PyData} (h : Dp K H v d) {T : String} (hT : T ∈ ["str", "int", "bool", "list", "tuple"]) : PySem.W.kitOne K (.type (tyN d)) (.type T) = some (isTy T d) := by
  refine kit_ty ?_
  simp only [List.mem_cons, List.mem_nil_iff, or_false] at hT
  cases h <;> rcases hT with rfl | rfl | rfl | rfl | rfl <;> (simp only [tyN, isTy]; decide +kernel)
section
variable {X : Cx}
theorem call_isiD : CallR X (.builtin "isinstance") (fun xs H Q => ∃ x T d, xs = [x, .ty T] ∧ Dp X.K H x d ∧ T ∈ ["str", "int", "bool", "list", "tuple"] ∧ Q (.bl (isTy T d)) H) := cr_imp call_isi fun xs H Q h => by
  obtain ⟨x, T, d, rfl, hd, hT, q⟩ := h
  exact ⟨x, .ty T, _, _, _, rfl, .ty T, dp_ty hd, dp_kit hd hT, q⟩
theorem call_isiDT : CallR X (.builtin "isinstance") (fun xs H Q => ∃ x tp d, xs = [x, .ref tp] ∧ H tp = some (.tup [.ty "list", .ty "tuple"]) ∧ Dp X.K H x d ∧ Q (.bl (isTy "list" d || isTy "tuple" d)) H) := cr_imp call_isiT fun xs H Q h => by
  obtain ⟨x, tp, d, rfl, ht, hd, q⟩ := h
  refine ⟨x, tp, _, .type (tyN d), [.type "list", .type "tuple"], _, rfl, ht, .cons (.ty _) (.cons (.ty _) .nil), dp_ty hd, ?_, q⟩
  have h1 := dp_kit hd (T := "list") (by simp)
  have h2 := dp_kit hd (T := "tuple") (by simp)
  unfold PySem.W.kitAny PySem.W.kitAny PySem.W.kitAny
  rw [h1, h2]
  cases isTy "list" d <;> cases isTy "tuple" d <;> rfl
/-- len of data -/
theorem call_lenD : CallR X (.builtin "len") (fun xs H Q => ∃ x d, xs = [x] ∧ Dp X.K H x d ∧ ((∃ ds, (d = .list ds ∨ d = .tuple ds) ∧ Q (.int ds.length) H) ∨ ∃ z, d = .str z ∧ z.length ≤ sizeLine ∧ Q (.int z.length) H)) := cr_imp call_len fun xs H Q h => by
  obtain ⟨x, d, rfl, hd, ⟨ds, e, q⟩ | ⟨z, rfl, hz, q⟩⟩ := h
  · have ln : ∀ {vs : List V} {es : List PyData}, DpAll X.K H vs es → vs.length = es.length := by
      intro vs es h
      induction es generalizing vs with
      | nil => cases h; rfl
      | cons a r ih => cases h with | cons _ h2 => simp [ih h2]
    rcases e with rfl | rfl
    · cases hd with
      | lst hs ha => exact ⟨_, ds.length, rfl, .inl ⟨_, hs, (ln ha).symm⟩, q⟩
    · cases hd with
      | tup hs ha => exact ⟨_, ds.length, rfl, .inr ⟨_, hs, (ln ha).symm⟩, q⟩
  · cases hd
    exact ⟨_, z.length, rfl, ⟨hz, rfl⟩, q⟩
/-- t[lo:hi] of a tuple: some tuple of that content -/
def rSlU (K : PySem.W.Frag) : V → Option Int → Option Int → Hp → VK → Prop := fun x lo hi H Q => ∃ a xs, x = .ref a ∧ SqT K H a xs ∧ ∀ q H', Same H H' → SqT K H' q (cutV xs lo hi) → Q (.ref q) H'
theorem sl_tupU : SlR X (rSlU X.K) := by
  intro pins s σ H x v vl vu lo hi sl Q I rx hs pl pu h
  obtain ⟨a, xs, rfl, hx, q⟩ := h
  refine sl_tupA pins s σ H _ v vl vu lo hi sl Q I rx hs pl pu ⟨a, xs, rfl, hx, fun hw => q a H (Same.refl H) ?_, fun hw p hp => q p _ (fun b o e => ?_) (.inl (.inl upd_same))⟩
  · have e : cutV xs lo hi = xs := by
      unfold cutV
      rw [hw.1, hw.2]
      simp
    rw [e]; exact hx
  · rw [upd_ne (ne_of_none e hp)]; exact e
def rCatU (K : PySem.W.Frag) : R2 := fun x y H Q => ∃ a b xs ys, x = .ref a ∧ y = .ref b ∧ SqT K H a xs ∧ SqT K H b ys ∧ xs.length + ys.length ≤ sizeLine ∧ ∀ q H', Same H H' → SqT K H' q (xs ++ ys) → Q (.ref q) H'
theorem op_catU : OpR X (binaryOp .Add) (rCatU X.K) := opr_imp op_catA fun x y H Q h => by
  obtain ⟨a, b, xs, ys, rfl, rfl, ha, hb, hz, q⟩ := h
  refine ⟨a, b, xs, ys, rfl, rfl, ha, hb, hz, fun e => q b H (Same.refl H) ?_, fun _ e => q a H (Same.refl H) ?_, fun _ _ p hp => q p _ (fun c o e => ?_) (.inl (.inl upd_same))⟩
  · subst e; exact hb
  · subst e; rw [List.append_nil]; exact ha
  · rw [upd_ne (ne_of_none e hp)]; exact e
/-- tuple(x) of a list or tuple -/
theorem call_tupleU : CallR X (.type "tuple") (fun xs H Q => ∃ p ys, xs = [.ref p] ∧ (SqL X.K H p ys ∨ SqT X.K H p ys) ∧ ∀ q H', Same H H' → SqT X.K H' q ys → Q (.ref q) H') := cr_imp call_tuple_of fun xs H Q h => by
  obtain ⟨p, ys, rfl, h, q⟩ := h
  refine ⟨p, ys, rfl, ?_⟩
  rcases h with h | h
  · exact .inl ⟨h, fun l hl => q l _ (fun c o e => by rw [upd_ne (ne_of_none e hl)]; exact e) (.inl (.inl upd_same))⟩
  · exact .inr ⟨h, q p H (Same.refl H) h⟩
end
/-! ### calls by keywords alone -/
def tCallZ (m : Nat) (sp : Sp) (gV : List V → List V) (E : XK) (tk : TA) : TE := fun σ H Q => tk σ H fun zs H2 => zs.length = m ∧ sp (gV zs) H2 Q E
section
variable {X : Cx} {CX : CXT} {k : Nat} {f : Addr} {fd : FuncData} {ps ks : List Str} {sp : Sp} {E : XK} {x : Str} {p pos : Pos} {kws : List Keyword} {tk : TA} {g : List Value → List Value} {gV : List V → List V}
/-- f(k = v, ..) -/
theorem pe_callZ (F : FnOk X.prog X.w X.K X.mg X.base CX k f fd ps sp) (hr : Room k X.A) (hg : Gl X x) (hm : X.mg x = some (.ref f)) (hk : PySem.W.keepIn X.K (.ref f) = true) (hb : KBn X.K fd ps 0 ks (fun _ ws => g ws) (fun _ zs => gV zs)) (hx : Passes CX X E)
    (hkw : PK X kws tk) (hall : (backToKw pos (keywordEach kws X.env)).all (·.1.isSome) = true := by rfl) (hks : (backToKw pos (keywordEach kws X.env)).filterMap (·.1) = ks := by rfl)
    (hdb : (x == ("__debug__" : Str)) = false := by decide)
    (hpl : ((backTo pos (starEach [] X.env)).any (·.1) || (backToKw pos (keywordEach kws X.env)).any (·.1.isNone)) = false := by rfl) :
    PE X (.Call (.Name x p) [] kws pos) (tCallZ ks.length sp gV E tk) := by
  refine ⟨fun pins s σ H Q I h => ?_⟩
  refine wpAny_Call_Name_kw (ld_glob I hg hm ?_ hdb)
  refine PySem.W.callWith_KW0 (h₀ := X.base) I.ok.mod.kin hk hall (thn (hkw.run pos pins s σ H _ I h) fun ws s2 ⟨zs, H2, I2, rz, l2, q2⟩ => ⟨I2.kIn, ?_⟩) hpl
  rw [hks]
  exact run_fnN F hr hb hx I2 .nil rz rfl l2 q2
end
theorem kb_of {K : PySem.W.Frag} {x qual : Str} {st : Stmt} {f : Addr} {fd : FuncData} {ps : List Str} (F : Fun K x qual st f fd) {n : Nat} {ks : List Str} (g : {α : Type} → List α → List α → List α)
    (hrel : ∀ {vs zs : List V} {us ws : List Value}, Vals vs us → Vals zs ws → Vals (g vs zs) (g us ws))
    (h : ∀ (kV doc pm : Value) (an : Option Addr) (cdv ct : Value) (us ws : List Value), us.length = n → ws.length = ks.length → bindArgs (PySem.W.fnOf x qual (defArgs st) (defBody st) (defScope st) .none kV doc pm an cdv ct) ⟨us, ks.zip ws⟩ = pure (ps.zip (g us ws))) : KBn K fd ps n ks (fun us ws => g us ws) (fun vs zs => g vs zs) := by
  obtain ⟨oc, od, kV, doc, pm, an, cdv, ct, osl, rfl, lk, hcd⟩ := F.ex
  exact ⟨fun s us ws _ l1 l2 => .of_eq (h kV doc pm an cdv ct us ws l1 l2), hrel⟩
end LK

namespace LK
open PySem PySem.Spec PyProof.Rows L2
/-! ### t[::-1] of a tuple -/
theorem fm_map {α β : Type} {f : α → Option β} {g : α → β} : ∀ {l : List α}, (∀ m ∈ l, f m = some (g m)) → l.filterMap f = l.map g
  | [], _ => rfl
  | a :: l, h => by
    rw [List.filterMap_cons, h a List.mem_cons_self]
    exact congrArg (g a :: ·) (fm_map fun m hm => h m (List.mem_cons_of_mem _ hm))
theorem rev_pick (xs : Array Value) : ((List.range xs.size).filterMap fun (m : Nat) => xs[(((xs.size : Int) - 1) + (m : Int) * (-1)).toNat]?).toArray = xs.toList.reverse.toArray := by
  have e : ((List.range xs.size).filterMap fun (m : Nat) => xs[(((xs.size : Int) - 1) + (m : Int) * (-1)).toNat]?) = xs.toList.reverse := by
    have h : ∀ m ∈ List.range xs.size, (xs[(((xs.size : Int) - 1) + (m : Int) * (-1)).toNat]?) = some (xs.toList.reverse.getD m .none) := by
      intro m hm
      have hm := List.mem_range.mp hm
      have e1 : (((xs.size : Int) - 1) + (m : Int) * (-1)).toNat = xs.size - 1 - m := by omega
      rw [e1, List.getD_eq_getElem?_getD, List.getElem?_reverse (by simpa using hm)]
      rw [Array.getElem?_eq_getElem (by omega), Array.length_toList, List.getElem?_eq_getElem (by rw [Array.length_toList]; omega)]
      rfl
    rw [fm_map h]
    refine List.ext_getElem? fun i => ?_
    rw [List.getElem?_map]
    by_cases hi : i < xs.size
    · rw [List.getElem?_range hi, List.getElem?_eq_getElem (by simpa using hi)]
      simp [List.getElem?_eq_getElem, hi]
    · rw [List.getElem?_eq_none (by simpa using hi), List.getElem?_eq_none (by simpa using hi)]
      rfl
  rw [e]
section
variable {prog : Program} {w : World} {A : Around} {E : Value → Shared → Prop} {s : Shared}
theorem sliceApplied_rev {sl : Addr} {vl vu vs : Value} {n : Nat} {Q : Int × Int × Nat → Shared → Prop} (hs : s.heap.IsSliceOf sl vl vu vs) (pl : IsPart vl none) (pu : IsPart vu none) (ps : IsPart vs (some (-1)))
    (h : Q ((n : Int) - 1, -1, n) s) : wpAny (model prog w) A (Builtin.Slice.sliceApplied (.ref sl) (pure (n : Int))) Q E s := by
  obtain ⟨os, hos, hcs, hds⟩ := id hs
  unfold Builtin.Slice.sliceApplied Builtin.Slice.sliceFields
  refine wpAny_bind (wpAny_bind (wpAny_field hos hds (x := vl) rfl (wpAny_bind (wpAny_field hos hds (x := vu) rfl (wpAny_bind (wpAny_field hos hds (x := vs) rfl (wpAny_pure ?_)))))))
  refine wpAny_bind (HT.slicePart_ ps ?_)
  show wpAny _ _ (if ((-1 : Int) == 0) = true then _ else _) _ _ s
  rw [if_neg (by decide)]
  refine wpAny_bind (HT.slicePart_ pl (wpAny_bind (HT.slicePart_ pu (wpAny_bind (wpAny_pure ?_)))))
  show wpAny _ _ (match Builtin.Slice.sliceAdjust none none (-1) (n : Int) with | (lo, hi) => pure (lo, (-1 : Int), Builtin.Slice.slicePlaces lo hi (-1))) _ _ s
  have e1 : Builtin.Slice.sliceAdjust none none (-1) (n : Int) = ((n : Int) - 1, -1) := rfl
  rw [e1]
  show wpAny _ _ (pure ((n : Int) - 1, (-1 : Int), Builtin.Slice.slicePlaces ((n : Int) - 1) (-1) (-1))) _ _ s
  have e2 : Builtin.Slice.slicePlaces ((n : Int) - 1) (-1) (-1) = n := by
    unfold Builtin.Slice.slicePlaces
    rw [if_neg (by decide)]
    by_cases c : n = 0
    · subst c; rfl
    · rw [if_pos (by omega)]
      show (((n : Int) - 1 - -1 - 1) / 1 + 1).toNat = n
      rw [Int.ediv_one]; omega
  rw [e2]
  exact wpAny_pure h
theorem getItem_tuple_rev {t sl : Addr} {items : Array Value} {vl vu vs : Value} {Q : Value → Shared → Prop} (ht : IsTup s.heap t items) (hs : s.heap.IsSliceOf sl vl vu vs) (pl : IsPart vl none) (pu : IsPart vu none) (ps : IsPart vs (some (-1)))
    (h : Q (.ref s.heap.objs.size) { s with heap := s.heap.push { cls := .type "tuple", data := .seq items.toList.reverse.toArray } })
    (hsz : items.size ≤ sizeLine) : wpAny (model prog w) A (getItem (.ref t) (.ref sl)) Q E s := by
  have htake : sizeOk (.seq items.toList.reverse.toArray) := by
    show items.toList.reverse.toArray.size ≤ sizeLine
    simpa using hsz
  obtain ⟨os, hos, hcs, hds⟩ := id hs
  have hTs : s.TypeIs (.ref sl) "slice" := ⟨os, hos, hcs⟩
  unfold getItem
  try with_reducible refine wpAny_holding ?_
  first | refine wpAny_bind (wpAny_pure ?_) | skip
  refine wpAny_bind (wpAny_sequenceKey ht.typeIs (by decide) ?_)
  refine wpAny_bind (wpAny_callSpecial?_slot (name := Str.ofString "__getitem__") ht.typeIs PyProof.Rows.slot_tuple_getitem
    (wpAny_call_entry PyProof.Rows.slot_tuple_getitem ht.typeIs PyProof.Rows.entry_tuple_getitem ?_ (PyProof.Rows.args_tuple_getitem _ _)))
  show wpAny _ _ (Builtin.Tuple.tupleItemsOf (.ref t) >>= _) _ _ s
  refine wpAny_bind (PyProof.Rows.tupleItemsOf_ ht ?_)
  refine wpAny_bind (wpAny_typeOf hTs ?_)
  rw [if_pos (by decide)]
  refine wpAny_bind (sliceApplied_rev hs pl pu ps ?_)
  have hno : ¬ ((((items.size : Int) - 1) == 0 && (-1 : Int) == 1 && items.size == items.size) = true) := by
    intro q
    rw [Bool.and_eq_true, Bool.and_eq_true] at q
    exact absurd (eq_of_beq q.1.2) (by decide)
  show wpAny _ _ (if (((items.size : Int) - 1) == 0 && (-1 : Int) == 1 && items.size == items.size) = true then _ else _) _ _ s
  rw [if_neg hno, rev_pick]
  first
    | exact wpAny_bind (m := Builtin.Tuple.tupleExact _) (wpAny_newObj_type (wpAny_pure ⟨_, rfl, wpAny_pure h⟩) htake)
    | exact wpAny_bind (m := Builtin.Tuple.tupleExact _) (wpAny_newObj_type (wpAny_bind (wpAny_pure (wpAny_pure ⟨_, rfl, wpAny_pure h⟩))) htake)
    | exact wpAny_bind (wpAny_bind (m := Builtin.Tuple.tupleExact _) (wpAny_newObj_type (wpAny_pure (wpAny_pure ⟨_, rfl, wpAny_pure h⟩)) htake))
    | exact wpAny_bind (wpAny_bind (m := Builtin.Tuple.tupleExact _) (wpAny_newObj_type (wpAny_pure ⟨_, rfl, wpAny_pure h⟩) htake))
end
section
variable {X : Cx}
def tRevT (K : PySem.W.Frag) (te : TE) : TE := fun σ H Q => te σ H fun x H1 => ∃ a xs, x = .ref a ∧ SqT K H1 a xs ∧ ∀ p H2, Same H1 H2 → H1 p = none → H2 p = some (.tup xs.reverse) → Q (.ref p) H2
theorem pe_revT {e : Expr} {te : TE} {k : Nat} {p1 p2 p3 pos : Pos} (he : PE X e te) : PE X (.Subscript e (.Slice none none (some (.UnaryOp .USub (.Constant (.int 1) k p1) p2)) p3) pos) (tRevT X.K te) := by
  refine ⟨fun pins s σ H Q I h => ?_⟩
  refine Subscript_ (thn (he.run pins s σ H _ I h) fun v s1 ⟨x, H1, I1, r1, q1⟩ => ?_)
  obtain ⟨a, xs, ex, hx, q⟩ := q1
  subst ex
  cases r1
  have hst : PO X (some (.UnaryOp .USub (.Constant (.int 1) k p1) p2)) (tPart (tUn (rU fun i => .int (-i)) (tC (.int 1)))) := po_some (pe_un un_neg pe_int)
  refine wpAny_Slice (thn (po_none.run pins s1 σ H1 (fun o H2 => o = none ∧ H2 = H1) I1 ⟨rfl, rfl⟩) fun vl s2 ⟨l, H2, I2, pl, el, e2⟩ => ?_)
  subst el e2
  refine thn (po_none.run pins s2 σ H2 (fun o H3 => o = none ∧ H3 = H2) I2 ⟨rfl, rfl⟩) fun vu s3 ⟨u, H3, I3, pu, eu, e3⟩ => ?_
  subst eu e3
  refine thn (hst.run pins s3 σ H3 (fun o H4 => o = some (-1) ∧ H4 = H3) I3 ⟨1, rfl, -1, rfl, rfl, rfl⟩) fun vs s4 ⟨o, H4, I4, ps, eo, e4⟩ => ?_
  subst eo e4
  have I5 : Inv X pins σ H4 { s4 with heap := s4.heap.push { cls := .type "slice", data := .fields #[vl, vu, vs] } } := I4.kept (t' := s4.toks) fun b ob q => Heap.get?_push_of_some _ q
  obtain ⟨its, r, ht, hz⟩ := I5.tuple hx
  have hlen := r.length
  show wpAny (model X.prog X.w) X.A (subscriptTail e (.Slice none none (some (.UnaryOp .USub (.Constant (.int 1) k p1) p2)) p3) (.ref a) (.ref s4.heap.objs.size)) (EP X pins σ Q) X.xe { s4 with heap := s4.heap.push { cls := .type "slice", data := .fields #[vl, vu, vs] } }
  refine tail_any (ops := [.ref a, .ref s4.heap.objs.size]) ht.typeIs (PyProof.Rows.slot_tuple_getitem.lookup) ?_ (by with_unfolding_all rfl)
  refine getItem_tuple_rev ht (Heap.IsSliceOf.new _ vl vu vs) pl pu ps ?_ (by rw [List.size_toArray]; omega)
  refine ⟨.ref _, _, I5.laid (t' := s4.toks) (o := .tup xs.reverse) (fun b ob q => Heap.get?_push_of_some _ q) (Nat.le_refl _) ?_, rfl, q _ _ (same_upd (I5.hok.fresh (Nat.le_refl _))) (I5.hok.fresh (Nat.le_refl _)) upd_same⟩
  exact ⟨by rw [List.length_reverse]; exact hz, _, r.reverse, IsTup.new _ _⟩
end
end LK
namespace LK
open PySem PySem.Spec PyProof.Rows L2
/-! ### d.get(k) of a written dict with text keys -/
section
variable {X : Cx} {d : Addr} {es : Array DictEntry} {n : Nat} {o e : Expr} {apos cpos : Pos} {td ty : TE}
def tWget (K : PySem.W.Frag) (d : Addr) (td ty : TE) : TE := fun σ H Q => td σ H fun x H1 => x = .ref d ∧ ty σ H1 fun y H2 => ∃ (z : Str) (r : Option Value) (v : V), y = .str z ∧ PySem.W.nsIn K d z = some r ∧ RelV v (r.getD .none) ∧ Q v H2
theorem pe_wget (D : KDict X.K X.w d es n) (ho : PE X o td) (he : PE X e ty) (hbase : attributeBase o "get" X.env (eval o X.env) = eval o X.env := by rfl)
    (hfew : ((backTo cpos (starEach [e] X.env)).all (fun x => !x.1) && (backToKw cpos (keywordEach [] X.env)).all (fun x => x.1.isSome)
    && decide (([e] : List Expr).length + ([] : List Keyword).length + (if ([] : List Keyword).isEmpty then 0 else 1) < 30)) = true := by rfl)
    (hline : (apos.endLine == cpos.line) = true := by rfl) (htr : backTo cpos (starEach [e] X.env) = [(false, eval e X.env)] := by rfl) : PE X (.Call (.Attribute o "get" apos) [e] [] cpos) (tWget X.K d td ty) := by
  refine ⟨fun pins s σ H Q I h => ?_⟩
  refine wpAny_Call_method hbase hfew hline PySem.F.plainAttrs_dict PySem.F.slot_dict_get PySem.F.type_dict_get (thn (ho.run pins s σ H _ I h) fun u s1 ⟨x, H1, I1, rx, ex, q1⟩ => ?_)
  subst ex
  obtain rfl : u = Value.ref d := rx
  have ob := I1.kIn _ _ D.at_
  refine ⟨kd_type D I1, fun b q => ?_, ?_⟩
  · cases q
    exact ⟨_, ob, rfl⟩
  rw [htr]
  refine Calls.callWith_builtin rfl (Calls.evalArgs_plain (Calls.spliced_cons (thn (he.run pins s1 σ H1 _ I1 q1) fun iv s2 ⟨y, H2, I2, ry, z, r, v, ey, hn, rv, q2⟩ => Calls.spliced_nil ?_)))
  subst ey
  obtain ⟨t, rfl⟩ := ry
  refine call_meetsIn PySem.F.slot_dict_get (kd_type D I2) PySem.F.entry_dict_get (PySem.F.args_dict_get_2 _ _) (meets_dict_get (strKind X.prog X.w) d (PySem.strKind_is X.prog X.w z t) D.low)
    ⟨_, PySem.W.mapOf_K (prog := X.prog) I2.kIn D.at_ D.lit, v, H2, I2.tok _, ?_, q2⟩
  rw [PySem.W.find_K D.at_ hn]
  exact rv
end
end LK
namespace LK
open PySem PySem.Spec PyProof.Rows L2
/-! ### comprehensions without tests -/
/-- what is new since H -/
def nw (H H' : Hp) : Hp := fun a => if H a = none then H' a else none
theorem nw_some {H H' : Hp} {a : Addr} {o : HO} (h : nw H H' a = some o) : H a = none ∧ H' a = some o := by
  unfold nw at h
  split at h
  · exact ⟨by assumption, h⟩
  · cases h
theorem nw_of {H H' : Hp} {a : Addr} {o : HO} (h0 : H a = none) (h : H' a = some o) : nw H H' a = some o := by
  unfold nw
  rw [if_pos h0]; exact h
theorem nw_le (H H' : Hp) : Same (nw H H') H' := fun _ _ h => (nw_some h).2
theorem nw_hb {H H' : Hp} {b : Addr} {o : HO} (h : H b = some o) : Same (nw H H') (hb H' b) := fun a u e => by
  obtain ⟨h1, h2⟩ := nw_some e
  have n : a ≠ b := fun q => by rw [q, h] at h1; cases h1
  rw [hb_ne n]; exact h2
/-- new since a later heap is new since an earlier one -/
theorem nw_anti {H0 H H' : Hp} (d : ∀ a, H a = none → H0 a = none) : Same (nw H H') (nw H0 H') := fun a u e => by
  obtain ⟨h1, h2⟩ := nw_some e
  exact nw_of (d a h1) h2
theorem nw_same {H H' H'' : Hp} (s : ∀ a o, H a = none → H' a = some o → H'' a = some o) : Same (nw H H') (nw H H'') := fun a u e => by
  obtain ⟨h1, h2⟩ := nw_some e
  exact nw_of h1 (s _ _ h1 h2)
theorem Kp.dom {b : Addr} {H H' : Hp} {o : HO} (k : Kp b H H') (hb' : H' b = some o) : ∀ a, H' a = none → H a = none := fun a h => by
  cases q : H a with
  | none => rfl
  | some u =>
    by_cases e : a = b
    · subst e; rw [hb'] at h; cases h
    · rw [k.hd q e] at h; cases h
theorem Same.dom {H H' : Hp} (k : Same H H') : ∀ a, H' a = none → H a = none := fun a h => k.free h

/-- a pure one -/
theorem lc_pure {J : It} {n : Nat} {G : Hp → Prop} {Y : Nat → Hp → V → Hp → Prop} (w : Walk J n G Y) {g : TG} {te : TE} {vs : List Nat} {σ : L2.St} {H1 : Hp} {D : Addr} {Qd : Hp → Prop} (hD : H1 D = none) (hn : n ≤ 1000000) (y : Nat → V)
    (hG : ∀ H, Same H1 H → G H)
    (hs : ∀ i x H H', i < n → Same H1 H → Y i H x H' → g x (wipe σ vs) H' fun σ2 H2 => Same H H2 ∧ wipe σ2 vs = wipe σ vs ∧ ∀ Q2 : V → Hp → Prop, (∀ H3, Same H2 H3 → Q2 (y i) H3) → te σ2 H2 Q2)
    (gm : ∀ x σ0 H0 Q0 Q1, (∀ σ2 H2, Q0 σ2 H2 → Q1 σ2 H2) → g x σ0 H0 Q0 → g x σ0 H0 Q1)
    (hq : ∀ H', Same H1 H' → H' D = some (.lst ((List.range n).map y)) → Qd H') :
    ∃ W : Nat → Nat → Hp → Prop, (∃ m, W 0 m (upd H1 D (.lst []))) ∧ ∀ i m H, W i m H →
      (J.stop i H ∧ Qd H) ∨ (J.go i H ∧ ∃ Nx : Hp → Prop, (∀ H', Nx H' → ∃ m', m' < m ∧ W (i + 1) m' H') ∧ ∀ x H', J.yld i H x H' → g x (wipe σ vs) H' fun σ2 H2 => wipe σ2 vs = wipe σ vs ∧ tYes σ2 H2 fun b H3 =>
        if b = true then te σ2 H3 fun y H4 => ∃ acc, H4 D = some (.lst acc) ∧ acc.length < sizeLine ∧ Nx (upd H4 D (.lst (acc ++ [y]))) else Nx H3) := by
  have up : ∀ {H : Hp} {o : HO}, Same H1 H → Same H1 (upd H D o) := fun s a u e => by
    rw [upd_ne (ne_of_none e hD)]; exact s _ _ e
  refine lc_it w (fun i H => Same H1 H ∧ H D = some (.lst ((List.range i).map y))) ⟨up (Same.refl _), upd_same⟩ (fun i H _ h => hG H h.1) (fun i x H H' hi ⟨s1, h1⟩ hY => ?_) (fun H h => hq H h.1 h.2)
  refine gm _ _ _ _ _ (fun σ2 H2 ⟨s2, e2, k⟩ => ⟨e2, ?_⟩) (hs i x H H' hi s1 hY)
  simp only [tYes, eq_self, ite_true]
  refine k _ fun H3 s3 => ⟨_, s3 _ _ (s2 _ _ h1), ?_, up (Same.trans (Same.trans s1 s2) s3), ?_⟩
  · rw [List.length_map, List.length_range]
    exact Nat.lt_of_lt_of_le (Nat.lt_of_lt_of_le hi hn) (by decide)
  · rw [upd_same, List.range_succ, List.map_append]
    rfl
/-- one that draws from a bag -/
theorem lc_bag {J : It} {n : Nat} {G : Hp → Prop} {Y : Nat → Hp → V → Hp → Prop} (w : Walk J n G Y) {g : TG} {te : TE} {vs : List Nat} {σ : L2.St} {H1 : Hp} {D b c : Addr} {Qd : Hp → Prop} (hD : H1 D = none) (hB : Bag H1 b c) (hn : n ≤ 1000000) (Φ : Hp → V → Prop) (mono : ∀ G G' v, Same G G' → Φ G v → Φ G' v)
    (hG : ∀ H, Kp b H1 H → G H)
    (hs : ∀ i x H H', i < n → Kp b H1 H → Bag H b c → Y i H x H' → g x (wipe σ vs) H' fun σ2 H2 => Same H H2 ∧ wipe σ2 vs = wipe σ vs ∧ ∀ Q2 : V → Hp → Prop, (∀ v H3, Bag H3 b c → Kp b H2 H3 → Φ (nw H2 H3) v → Q2 v H3) → te σ2 H2 Q2)
    (gm : ∀ x σ0 H0 Q0 Q1, (∀ σ2 H2, Q0 σ2 H2 → Q1 σ2 H2) → g x σ0 H0 Q0 → g x σ0 H0 Q1)
    (hq : ∀ H' ys, Bag H' b c → Kp b H1 H' → H' D = some (.lst ys) → ys.length = n → (∀ v ∈ ys, Φ (nw (upd H1 D (.lst [])) H') v) → Qd H') :
    ∃ W : Nat → Nat → Hp → Prop, (∃ m, W 0 m (upd H1 D (.lst []))) ∧ ∀ i m H, W i m H →
      (J.stop i H ∧ Qd H) ∨ (J.go i H ∧ ∃ Nx : Hp → Prop, (∀ H', Nx H' → ∃ m', m' < m ∧ W (i + 1) m' H') ∧ ∀ x H', J.yld i H x H' → g x (wipe σ vs) H' fun σ2 H2 => wipe σ2 vs = wipe σ vs ∧ tYes σ2 H2 fun b H3 =>
        if b = true then te σ2 H3 fun y H4 => ∃ acc, H4 D = some (.lst acc) ∧ acc.length < sizeLine ∧ Nx (upd H4 D (.lst (acc ++ [y]))) else Nx H3) := by
  obtain ⟨xb, eb⟩ := hB.at
  obtain ⟨xc, ec⟩ := hB.at2
  have nbD : b ≠ D := fun e => by rw [← e, eb] at hD; cases hD
  have ncD : c ≠ D := fun e => by rw [← e, ec] at hD; cases hD
  have up : ∀ {H : Hp} {o : HO}, Kp b H1 H → Kp b H1 (upd H D o) := fun s a u e => by
    obtain ⟨h1, h2⟩ := hb_some e
    rw [hb_ne h1, upd_ne (ne_of_none h2 hD)]
    exact s.hd h2 h1
  refine lc_it w (fun i H => Kp b H1 H ∧ Bag H b c ∧ ∃ ys, H D = some (.lst ys) ∧ ys.length = i ∧ ∀ v ∈ ys, Φ (nw (upd H1 D (.lst [])) H) v) ⟨up (Kp.refl _ _), hB.upd nbD ncD, [], upd_same, rfl, fun v hv => absurd hv (by simp)⟩ (fun i H _ h => hG H h.1) (fun i x H H' hi ⟨s1, B1, ys, h1, hl, hp⟩ hY => ?_) (fun H ⟨s1, B1, ys, h1, hl, hp⟩ => hq H ys B1 s1 h1 hl hp)
  refine gm _ _ _ _ _ (fun σ2 H2 ⟨s2, e2, k⟩ => ⟨e2, ?_⟩) (hs i x H H' hi s1 B1 hY)
  simp only [tYes, eq_self, ite_true]
  have B2 := B1.same s2
  refine k _ fun v H3 B3 k3 hv => ⟨ys, k3.hd (s2 _ _ h1) nbD.symm, ?_, up (Same.trans (Same.trans s1 (Kp.of s2)) k3), B3.upd nbD ncD, ys ++ [v], upd_same, by rw [List.length_append, hl]; rfl, fun u hu => ?_⟩
  · rw [hl]
    exact Nat.lt_of_lt_of_le (Nat.lt_of_lt_of_le hi hn) (by decide)
  · have kk : ∀ a o, upd H1 D (.lst []) a = none → H3 a = some o → upd H3 D (.lst (ys ++ [v])) a = some o := fun a o q e => by
      have n : a ≠ D := fun z => by rw [z, upd_same] at q; cases q
      rw [upd_ne n]; exact e
    rcases List.mem_append.mp hu with hu | hu
    · refine mono _ _ _ (fun a o e => ?_) (hp u hu)
      obtain ⟨q1, q2⟩ := nw_some e
      have n : a ≠ b := fun z => by rw [z, upd_ne nbD, eb] at q1; cases q1
      exact nw_of q1 (kk _ _ q1 (k3.hd (s2 _ _ q2) n))
    · obtain rfl : u = v := by simpa using hu
      refine mono _ _ _ (fun a o e => ?_) hv
      obtain ⟨q1, q2⟩ := nw_some e
      have d1 : upd H1 D (.lst []) a = none := by
        by_cases n : a = D
        · rw [n, s2 _ _ h1] at q1; cases q1
        · rw [upd_ne n]
          exact Kp.dom (Same.trans s1 (Kp.of s2)) (B2.at.choose_spec) a q1
      exact nw_of d1 (kk _ _ d1 q2)
end LK
namespace LK
open PySem PySem.Spec PyProof.Rows L2
theorem cutV_take (xs : List V) (k : Nat) : cutV xs none (some (k : Int)) = xs.take k := by
  unfold cutV HT.sIx
  simp only [List.drop_zero, Nat.sub_zero]
  by_cases h : (k : Int) < 0
  · omega
  · rw [if_neg h]
    have e : ((k : Int)).toNat = k := Int.toNat_natCast k
    by_cases c : k ≤ xs.length
    · congr 1
      omega
    · rw [List.take_of_length_le (by omega), List.take_of_length_le (by omega)]
theorem cutV_drop (xs : List V) (k : Nat) : cutV xs (some (k : Int)) none = xs.drop k := by
  unfold cutV
  rw [HT.sIx_nat, HT.sIx_none]
  by_cases c : k ≤ xs.length
  · rw [Nat.min_eq_left c, List.take_of_length_le (by simp)]
  · rw [Nat.min_eq_right (by omega), List.drop_eq_nil_of_le (by omega), List.drop_eq_nil_of_le (by omega)]
    simp
end LK
namespace LK
open PySem PySem.Spec PyProof.Rows L2
/-! ### new objects, the heap behind them by a name -/
section
variable {X : Cx} {es : List Expr} {t : TA} {pos : Pos}
def tTupU (t : TA) : TE := fun σ H Q => t σ H fun xs H1 => xs.length ≤ sizeLine ∧ ∀ p H2, Same H1 H2 → H1 p = none → H2 p = some (.tup xs) → Q (.ref p) H2
def tLstU (t : TA) : TE := fun σ H Q => t σ H fun xs H1 => xs.length ≤ sizeLine ∧ ∀ p H2, Same H1 H2 → H1 p = none → H2 p = some (.lst xs) → Q (.ref p) H2
theorem pe_tupU {x1} (h : PA X es t) : PE X (.Tuple es x1 pos) (tTupU t) := by
  refine ⟨fun pins s σ H Q I hq => ?_⟩
  refine wpAny_Tuple_spliced (thn (h.run pos pins s σ H _ I hq) fun us s1 ⟨xs, H1, I1, r, z, q⟩ => ⟨by rw [← r.length]; exact z, ?_⟩)
  have hf : H1 s1.heap.objs.size = none := I1.hok.fresh (Nat.le_refl _)
  refine ⟨.ref s1.heap.objs.size, L2.upd H1 s1.heap.objs.size (.tup xs), I1.laid (t' := s1.toks) (fun b u e => Heap.get?_push_of_some _ e) (Nat.le_refl _) ?_, rfl, q _ _ (same_upd hf) hf upd_same⟩
  exact ⟨z, us, r, ⟨_, Heap.get?_push_size _ rfl, rfl, _, rfl⟩⟩
theorem pe_lstU (h : PA X es t) : PE X (.List es pos) (tLstU t) := by
  refine ⟨fun pins s σ H Q I hq => ?_⟩
  refine wpAny_List_spliced (thn (h.run pos pins s σ H _ I hq) fun us s1 ⟨xs, H1, I1, r, z, q⟩ => ⟨by rw [← r.length]; exact z, ?_⟩)
  have hf : H1 s1.heap.objs.size = none := I1.hok.fresh (Nat.le_refl _)
  refine ⟨.ref s1.heap.objs.size, L2.upd H1 s1.heap.objs.size (.lst xs), I1.laid (t' := s1.toks) (fun b u e => Heap.get?_push_of_some _ e) (Nat.le_refl _) ?_, rfl, q _ _ (same_upd hf) hf upd_same⟩
  exact ⟨z, us, 0, r, Heap.get?_push_size _ rfl⟩
def rSlLU (K : PySem.W.Frag) : V → Option Int → Option Int → Hp → VK → Prop := fun x lo hi H Q => ∃ a xs, x = .ref a ∧ SqL K H a xs ∧ ∀ p H2, Same H H2 → H p = none → H2 p = some (.lst (cutV xs lo hi)) → Q (.ref p) H2
theorem sl_listU : SlR X (rSlLU X.K) := by
  intro pins s σ H x v vl vu lo hi sl Q I rx hs pl pu h
  obtain ⟨a, xs, rfl, hx, q⟩ := h
  exact sl_list pins s σ H _ v vl vu lo hi sl Q I rx hs pl pu ⟨a, xs, rfl, hx, fun p hp => q p _ (same_upd hp) hp upd_same⟩
theorem call_listU : CallR X (.type "list") (fun xs H Q => ∃ p ys, xs = [.ref p] ∧ (SqL X.K H p ys ∨ SqT X.K H p ys) ∧ ∀ l H2, Same H H2 → H l = none → H2 l = some (.lst ys) → Q (.ref l) H2) := cr_imp call_list_of fun xs H Q h => by
  obtain ⟨p, ys, rfl, h, q⟩ := h
  exact ⟨p, ys, rfl, h, fun l hl => q l _ (same_upd hl) hl upd_same⟩
def rCatL : R2 := fun x y H Q => ∃ l b xs zs, x = .ref l ∧ y = .ref b ∧ H l = some (.lst xs) ∧ H b = some (.lst zs) ∧ xs.length + zs.length ≤ sizeLine ∧ ∀ p H2, Same H H2 → H p = none → H2 p = some (.lst (xs ++ zs)) → Q (.ref p) H2
theorem op_catL : OpR X (binaryOp .Add) rCatL := opr_imp op_cat fun x y H Q h => by
  obtain ⟨l, b, xs, zs, rfl, rfl, h1, h2, hz, q⟩ := h
  exact ⟨l, b, xs, zs, rfl, rfl, h1, h2, hz, fun p hp => q p _ (same_upd hp) hp upd_same⟩
def rRepL : R2 := fun x y H Q => ∃ l k xs, x = .ref l ∧ y = .int k ∧ H l = some (.lst xs) ∧ -(2 ^ 63) ≤ k ∧ k < 2 ^ 63 ∧ xs.length * k.toNat ≤ sizeLine ∧ ∀ p H2, Same H H2 → H p = none → H2 p = some (.lst (List.replicate k.toNat xs).flatten) → Q (.ref p) H2
theorem op_repL : OpR X (binaryOp .Mult) rRepL := opr_imp op_rep fun x y H Q h => by
  obtain ⟨l, k, xs, rfl, rfl, h1, h2, h3, hz, q⟩ := h
  exact ⟨l, k, xs, rfl, rfl, h1, h2, h3, hz, fun p hp => q p _ (same_upd hp) hp upd_same⟩
end
end LK
namespace LK
open PySem PySem.Spec PyProof.Rows L2
/-- [f(x) for x in ..], the items known -/
theorem lc_map {J : It} {n : Nat} {G : Hp → Prop} {Y : Nat → Hp → V → Hp → Prop} (w : Walk J n G Y) {te : TE} {i : Nat} {σ : L2.St} {H1 : Hp} {D : Addr} {Qd : Hp → Prop} (xs : List V) (f : V → V) (hD : H1 D = none) (hn : n ≤ 1000000) (hx : xs.length = n)
    (hY : ∀ k H x H', k < n → Y k H x H' → H' = H ∧ xs[k]? = some x) (hG : ∀ H, Same H1 H → G H)
    (hs : ∀ x H, x ∈ xs → Same H1 H → ∀ Q2 : V → Hp → Prop, (∀ H3, Same H H3 → Q2 (f x) H3) → te ((wipe σ [i]).set i (some x)) H Q2)
    (hq : ∀ H', Same H1 H' → H' D = some (.lst (xs.map f)) → Qd H') :
    ∃ W : Nat → Nat → Hp → Prop, (∃ m, W 0 m (L2.upd H1 D (.lst []))) ∧ ∀ i' m H, W i' m H →
      (J.stop i' H ∧ Qd H) ∨ (J.go i' H ∧ ∃ Nx : Hp → Prop, (∀ H', Nx H' → ∃ m', m' < m ∧ W (i' + 1) m' H') ∧ ∀ x H', J.yld i' H x H' → gName i x (wipe σ [i]) H' fun σ2 H2 => wipe σ2 [i] = wipe σ [i] ∧ tYes σ2 H2 fun b H3 =>
        if b = true then te σ2 H3 fun y H4 => ∃ acc, H4 D = some (.lst acc) ∧ acc.length < sizeLine ∧ Nx (L2.upd H4 D (.lst (acc ++ [y]))) else Nx H3) := by
  have e : (List.range n).map (fun k => f (xs.getD k .non)) = xs.map f := by
    refine List.ext_getElem? fun k => ?_
    rw [List.getElem?_map, List.getElem?_map]
    by_cases hk : k < n
    · rw [List.getElem?_range hk, List.getElem?_eq_getElem (by omega)]
      simp [List.getD_eq_getElem?_getD, List.getElem?_eq_getElem (show k < xs.length by omega)]
    · rw [List.getElem?_eq_none (by simpa using hk), List.getElem?_eq_none (by omega)]
      rfl
  refine lc_pure w hD hn (fun k => f (xs.getD k .non)) hG (fun k x H H' hk s1 y => ?_) (fun x σ0 H0 Q0 Q1 h q => h _ _ q) (fun H' s h => hq H' s (by rw [← e]; exact h))
  obtain ⟨rfl, hx2⟩ := hY _ _ _ _ hk y
  refine ⟨Same.refl _, ?_, fun Q2 h2 => hs x H' (List.mem_of_getElem? hx2) s1 Q2 fun H3 s3 => ?_⟩
  · show ((σ.set i none).set i (some x)).set i none = σ.set i none
    rw [List.set_set, List.set_set]
  · have e2 : xs.getD k .non = x := by rw [List.getD_eq_getElem?_getD, hx2]; rfl
    have := h2 H3 s3
    rw [e2] at this
    exact this
/-- the same, drawing from a bag -/
theorem lc_draw {J : It} {n : Nat} {G : Hp → Prop} {Y : Nat → Hp → V → Hp → Prop} (w : Walk J n G Y) {te : TE} {i : Nat} {σ : L2.St} {H1 : Hp} {D b c : Addr} {Qd : Hp → Prop} (Φ : Hp → V → Prop) (mono : ∀ G G' v, Same G G' → Φ G v → Φ G' v) (hD : H1 D = none) (hB : Bag H1 b c) (hn : n ≤ 1000000)
    (hY : ∀ k H x H', Y k H x H' → H' = H) (hG : ∀ H, Kp b H1 H → G H)
    (hs : ∀ x H, Kp b H1 H → Bag H b c → ∀ Q2 : V → Hp → Prop, (∀ v H3, Bag H3 b c → Kp b H H3 → Φ (nw H H3) v → Q2 v H3) → te ((wipe σ [i]).set i (some x)) H Q2)
    (hq : ∀ H' ys, Bag H' b c → Kp b H1 H' → H' D = some (.lst ys) → ys.length = n → (∀ v ∈ ys, Φ (nw (L2.upd H1 D (.lst [])) H') v) → Qd H') :
    ∃ W : Nat → Nat → Hp → Prop, (∃ m, W 0 m (L2.upd H1 D (.lst []))) ∧ ∀ i' m H, W i' m H →
      (J.stop i' H ∧ Qd H) ∨ (J.go i' H ∧ ∃ Nx : Hp → Prop, (∀ H', Nx H' → ∃ m', m' < m ∧ W (i' + 1) m' H') ∧ ∀ x H', J.yld i' H x H' → gName i x (wipe σ [i]) H' fun σ2 H2 => wipe σ2 [i] = wipe σ [i] ∧ tYes σ2 H2 fun b H3 =>
        if b = true then te σ2 H3 fun y H4 => ∃ acc, H4 D = some (.lst acc) ∧ acc.length < sizeLine ∧ Nx (L2.upd H4 D (.lst (acc ++ [y]))) else Nx H3) := by
  refine lc_bag w hD hB hn Φ mono hG (fun k x H H' hk s1 B1 y => ?_) (fun x σ0 H0 Q0 Q1 h q => h _ _ q) hq
  have e := hY _ _ _ _ y
  subst e
  refine ⟨Same.refl _, ?_, fun Q2 h2 => hs x H' s1 B1 Q2 h2⟩
  show ((σ.set i none).set i (some x)).set i none = σ.set i none
  rw [List.set_set, List.set_set]
def signsV (z : Str) : List V := z.cps.toList.map fun c => V.str ⟨#[c]⟩
theorem signsV_at {z : Str} : ∀ (k : Nat) (H : Hp) (x : V) (H' : Hp), (H' = H ∧ ∃ c, z.cps[k]? = some c ∧ x = V.str ⟨#[c]⟩) → H' = H ∧ (signsV z)[k]? = some x := by
  rintro k H x H' ⟨rfl, c, h, rfl⟩
  refine ⟨rfl, ?_⟩
  unfold signsV
  rw [List.getElem?_map, Array.getElem?_toList, h]
  rfl
theorem signsV_length (z : Str) : (signsV z).length = z.cps.size := by simp [signsV]
theorem all_map_id {α : Type} (p : α → Bool) (l : List α) : (l.map p).all id = l.all p := by
  rw [List.all_map]; rfl
end LK
namespace LK
open PySem PySem.Spec PyProof.Rows L2
/-- [p(c) for c in z], z a text -/
theorem lc_signs {z : Str} {te : TE} {i : Nat} {σ : L2.St} {H1 : Hp} {D : Addr} {Qd : Hp → Prop} (p : Nat → Bool) (hD : H1 D = none) (hz : z.length ≤ 1000000)
    (hs : ∀ c H, c ∈ z.cps.toList → Same H1 H → ∀ Q2 : V → Hp → Prop, (∀ H3, Same H H3 → Q2 (.bl (p c)) H3) → te ((wipe σ [i]).set i (some (.str ⟨#[c]⟩))) H Q2)
    (hq : ∀ H', Same H1 H' → H' D = some (.lst ((z.cps.toList.map p).map V.bl)) → Qd H') :
    ∃ W : Nat → Nat → Hp → Prop, (∃ m, W 0 m (L2.upd H1 D (.lst []))) ∧ ∀ i' m H, W i' m H →
      ((Its z).stop i' H ∧ Qd H) ∨ ((Its z).go i' H ∧ ∃ Nx : Hp → Prop, (∀ H', Nx H' → ∃ m', m' < m ∧ W (i' + 1) m' H') ∧ ∀ x H', (Its z).yld i' H x H' → gName i x (wipe σ [i]) H' fun σ2 H2 => wipe σ2 [i] = wipe σ [i] ∧ tYes σ2 H2 fun b H3 =>
        if b = true then te σ2 H3 fun y H4 => ∃ acc, H4 D = some (.lst acc) ∧ acc.length < sizeLine ∧ Nx (L2.upd H4 D (.lst (acc ++ [y]))) else Nx H3) := by
  refine lc_map walk_str (signsV z) (fun v => match v with | .str y => .bl (p (y.cps.toList.headD 0)) | _ => .non) hD hz (signsV_length z) (fun k H x H' _ y => signsV_at k H x H' y) (fun _ _ => trivial) (fun x H hx s1 Q2 h2 => ?_) (fun H' s h => hq H' s ?_)
  · obtain ⟨c, hc, rfl⟩ := List.mem_map.mp hx
    exact hs c H hc s1 Q2 h2
  · rw [h]
    unfold signsV
    rw [List.map_map, List.map_map]
    rfl
theorem starts_minus {z : Str} (h : Txt.startswith z "-" = true) : ∃ r, z.cps.toList = 45 :: r := by
  have h2 : PySem.StrLaws.At z "-" z.length 0 := by
    unfold Txt.startswith at h
    rw [Bool.and_eq_true] at h
    exact ⟨of_decide_eq_true h.1, h.2⟩
  have e : TL.tl "-" = [45] := by decide +kernel
  have q := (TL.at_iff (by rw [e]; simp) 0).mp h2
  rw [e, List.drop_zero] at q
  unfold TL.pre at q
  have q2 : z.cps.toList.take 1 = [45] := eq_of_beq q
  cases hz : z.cps.toList with
  | nil => rw [hz] at q2; simp at q2
  | cons c r => rw [hz] at q2; simp at q2; rw [q2]; exact ⟨r, rfl⟩
theorem cutS_tail (z : Str) : (cutS z (some 1) none).cps.toList = z.cps.toList.drop 1 := by
  unfold cutS
  have e1 := HT.sIx_nat z.length 0 1
  have l : z.length = z.cps.toList.length := by rw [Array.length_toList]; rfl
  show ((z.cps.toList.drop (HT.sIx z.length 0 (some ((1 : Nat) : Int)))).take (HT.sIx z.length z.length none - HT.sIx z.length 0 (some ((1 : Nat) : Int)))) = _
  rw [e1, HT.sIx_none]
  by_cases c : 1 ≤ z.length
  · rw [Nat.min_eq_left c, List.take_of_length_le (by rw [List.length_drop]; omega)]
  · rw [List.drop_eq_nil_of_le (by omega), List.drop_eq_nil_of_le (by omega)]
    simp
theorem len_cps (z : Str) : z.cps.toList.length = z.length := by rw [Array.length_toList]; rfl
end LK
namespace LK
theorem iteTT {c A B : Prop} [Decidable c] (hc : c) (h : A) : if c then A else B := by rw [if_pos hc]; exact h
theorem iteFF {c A B : Prop} [Decidable c] (hc : ¬ c) (h : B) : if c then A else B := by rw [if_neg hc]; exact h
end LK
namespace LK
open PySem PySem.Spec PyProof.Rows L2
theorem str_append (a b : Str) : (a ++ b).cps.toList = a.cps.toList ++ b.cps.toList := by
  show (a.cps ++ b.cps).toList = _
  exact Array.toList_append
theorem str_append_len (a b : Str) : (a ++ b).length = a.length + b.length := by
  rw [← len_cps, str_append, List.length_append, len_cps, len_cps]
theorem cutS_tail_len (z : Str) : (cutS z (some 1) none).length = z.length - 1 := by
  rw [← len_cps, cutS_tail, List.length_drop, len_cps]
theorem cutS_len (z : Str) (lo hi : Option Int) : (cutS z lo hi).length ≤ z.length := by
  rw [← len_cps, ← len_cps z]
  unfold cutS
  show (List.take _ (List.drop _ _)).length ≤ _
  rw [List.length_take, List.length_drop]
  omega
end LK
namespace LK
open PySem PySem.Spec PyProof.Rows L2
/-- [f(k) for k in range(n)] -/
theorem lc_rng {lo : Int} {n : Nat} {te : TE} {i : Nat} {σ : L2.St} {H1 : Hp} {D : Addr} {Qd : Hp → Prop} (f : Int → V) (hD : H1 D = none) (hn : n ≤ 1000000)
    (hs : ∀ (k : Nat) H, k < n → Same H1 H → ∀ Q2 : V → Hp → Prop, (∀ H3, Same H H3 → Q2 (f (lo + (k : Int))) H3) → te ((wipe σ [i]).set i (some (.int (lo + (k : Int))))) H Q2)
    (hq : ∀ H', Same H1 H' → H' D = some (.lst ((List.range n).map fun (k : Nat) => f (lo + (k : Int)))) → Qd H') :
    ∃ W : Nat → Nat → Hp → Prop, (∃ m, W 0 m (L2.upd H1 D (.lst []))) ∧ ∀ i' m H, W i' m H →
      ((Itr lo n).stop i' H ∧ Qd H) ∨ ((Itr lo n).go i' H ∧ ∃ Nx : Hp → Prop, (∀ H', Nx H' → ∃ m', m' < m ∧ W (i' + 1) m' H') ∧ ∀ x H', (Itr lo n).yld i' H x H' → gName i x (wipe σ [i]) H' fun σ2 H2 => wipe σ2 [i] = wipe σ [i] ∧ tYes σ2 H2 fun b H3 =>
        if b = true then te σ2 H3 fun y H4 => ∃ acc, H4 D = some (.lst acc) ∧ acc.length < sizeLine ∧ Nx (L2.upd H4 D (.lst (acc ++ [y]))) else Nx H3) := by
  refine lc_map walk_range ((List.range n).map fun (k : Nat) => V.int (lo + (k : Int))) (fun v => match v with | .int j => f j | _ => .non) hD hn (by rw [List.length_map, List.length_range]) (fun k H x H' hk y => ?_) (fun _ _ => trivial) (fun x H hx s1 Q2 h2 => ?_) (fun H' s h => hq H' s ?_)
  · refine ⟨y.1, ?_⟩
    rw [List.getElem?_map, List.getElem?_range hk, y.2]
    rfl
  · obtain ⟨k, hk, rfl⟩ := List.mem_map.mp hx
    exact hs k H (List.mem_range.mp hk) s1 Q2 h2
  · rw [h, List.map_map]
    rfl
end LK
namespace LK
open PySem PySem.Spec PyProof.Rows L2
section
variable {X : Cx} {K : PySem.W.Frag}
theorem call_isiDK (hK : X.K = K) : CallR X (.builtin "isinstance") (fun xs H Q => ∃ x T d, xs = [x, .ty T] ∧ Dp K H x d ∧ T ∈ ["str", "int", "bool", "list", "tuple"] ∧ Q (.bl (isTy T d)) H) := by
  subst hK
  exact call_isiD
end
end LK
namespace LK
open PySem PySem.Spec PyProof.Rows L2
section
variable {X : Cx}
/-- tuple(x) of a list: a new tuple -/
theorem call_tupleN : CallR X (.type "tuple") (fun xs H Q => ∃ p ys, xs = [.ref p] ∧ SqL X.K H p ys ∧ ∀ q H', Same H H' → H q = none → H' q = some (.tup ys) → Q (.ref q) H') := cr_imp call_tuple_of fun xs H Q h => by
  obtain ⟨p, ys, rfl, h, q⟩ := h
  exact ⟨p, ys, rfl, .inl ⟨h, fun l hl => q l _ (same_upd hl) hl upd_same⟩⟩
end
theorem strs_of {m : Nat} : ∀ {l : List V}, (∀ v ∈ l, ∃ z, v = V.str z ∧ z.length ≤ m) → ∃ zs : List Str, l = zs.map V.str ∧ ∀ z ∈ zs, z.length ≤ m
  | [], _ => ⟨[], rfl, fun z h => absurd h (by simp)⟩
  | v :: l, h => by
    obtain ⟨z, rfl, hz⟩ := h v List.mem_cons_self
    obtain ⟨zs, rfl, hzs⟩ := strs_of (l := l) fun v hv => h v (List.mem_cons_of_mem _ hv)
    refine ⟨z :: zs, rfl, fun y hy => ?_⟩
    rcases List.mem_cons.mp hy with rfl | hy
    · exact hz
    · exact hzs y hy
theorem sum_le {m : Nat} : ∀ {zs : List Str}, (∀ z ∈ zs, z.length ≤ m) → (zs.map (·.length)).sum ≤ zs.length * m
  | [], _ => by simp
  | z :: zs, h => by
    rw [List.map_cons, List.sum_cons, List.length_cons, Nat.succ_mul]
    have h1 := h z List.mem_cons_self
    have h2 := sum_le (zs := zs) fun y hy => h y (List.mem_cons_of_mem _ hy)
    omega
end LK
namespace LK
open PySem PySem.Spec PyProof.Rows L2
theorem joinL_len (S : List Nat) : ∀ ps : List (List Nat), (TL.joinL S ps).length ≤ (ps.map List.length).sum + ps.length * S.length
  | [] => by simp [TL.joinL]
  | [p] => by simp [TL.joinL]
  | p :: q :: r => by
    have ih := joinL_len S (q :: r)
    show (p ++ (S ++ TL.joinL S (q :: r))).length ≤ _
    rw [List.length_append, List.length_append, List.map_cons, List.sum_cons, List.length_cons, Nat.succ_mul]
    omega
theorem join_len (y : Str) (zs : List Str) : (Txt.join y zs).length ≤ (zs.map (·.length)).sum + zs.length * y.length := by
  rw [TL.join_eq, ← len_cps]
  have e := TL.tl_join y zs
  show (TL.tl (Str.join y zs)).length ≤ _
  rw [e]
  refine Nat.le_trans (joinL_len _ _) ?_
  rw [List.map_map, List.length_map]
  have e1 : ((zs.map (List.length ∘ TL.tl))) = zs.map (·.length) := List.map_congr_left fun z _ => len_cps z
  rw [e1]
  show _ + zs.length * (y.cps.toList).length ≤ _
  rw [len_cps]
  exact Nat.le_refl _
/-- the list that lc_draw has made, as texts -/
theorem kp_new {b c : Addr} {H H1 : Hp} (B : Bag H b c) (s : Same H H1) : Kp b H H1 ∧ Bag H1 b c := ⟨Kp.of s, B.same s⟩
theorem hb_new {b c p : Addr} {H H1 : Hp} {o : HO} (B : Bag H b c) (h0 : H p = none) (h1 : H1 p = some o) : hb H1 b p = some o := by
  have n : p ≠ b := fun e => by
    obtain ⟨xs, q⟩ := B.at
    rw [e, q] at h0; cases h0
  rw [hb_ne n]; exact h1
end LK
namespace LK
open PySem PySem.Spec PyProof.Rows L2
def isIntV : V → Bool
  | .int _ => true
  | _ => false
theorem ints_of {l : List V} (h : l.all isIntV = true) : ∀ y ∈ l, ∃ i, y = V.int i := fun y hy => by
  have q := List.all_eq_true.mp h y hy
  cases y <;> first | exact ⟨_, rfl⟩ | simp [isIntV] at q
end LK
namespace LK
open PySem PySem.Spec PyProof.Rows L2
theorem nx_op {t : TS} {D : Ends} {σ : L2.St} {H : Hp} (h : ∀ N : L2.St → Hp → Prop, (∀ σ' H', D.nx σ' H' → N σ' H') → t { D with nx := N } σ H) : t D σ H := h D.nx fun _ _ z => z
/-- a test that changes nothing and whose answer does not matter -/
theorem if_any {c : TT} {t u : TS} {D : Ends} {σ : L2.St} {H : Hp} (hc : ∀ K : Bool → Hp → Prop, (∀ b, K b H) → c σ H K) (hA : t D σ H) (hB : u D σ H) : tIfS c t u D σ H := hc _ fun b => by
  cases b
  · exact iteFF (by decide) hB
  · exact iteTT rfl hA
end LK
namespace LK
open PySem PySem.Spec PyProof.Rows L2
theorem if_anyS {c : TT} {t u : TS} {D : Ends} {σ : L2.St} {H : Hp} (hc : ∀ K : Bool → Hp → Prop, (∀ b H1, Same H H1 → K b H1) → c σ H K) (hA : ∀ H1, Same H H1 → t D σ H1) (hB : ∀ H1, Same H H1 → u D σ H1) : tIfS c t u D σ H := hc _ fun b H1 s => by
  cases b
  · exact iteFF (by decide) (hB H1 s)
  · exact iteTT rfl (hA H1 s)
end LK
namespace LK
open PySem PySem.Spec PyProof.Rows L2
theorem if_of {c : TT} {t u : TS} {D : Ends} {σ : L2.St} {H : Hp} (R : Bool → Prop) (hc : ∀ K : Bool → Hp → Prop, (∀ b H1, R b → Same H H1 → K b H1) → c σ H K) (hA : ∀ H1, R true → Same H H1 → t D σ H1) (hB : ∀ H1, R false → Same H H1 → u D σ H1) : tIfS c t u D σ H := hc _ fun b H1 r s => by
  cases b
  · exact iteFF (by decide) (hB H1 r s)
  · exact iteTT rfl (hA H1 r s)
end LK

set_option Elab.async false
set_option linter.all false
set_option maxRecDepth 100000
namespace LK
open PySem PySem.Spec PyProof.Rows L2
def top (i : Nat) : Stmt := PySem.Challenge.pw_lookingnets_k04_expressions_judged.main.body.getD i (.Pass ⟨0, 0, 0, 0⟩)
local macro_rules | `(tactic| walk_at "rs") => `(tactic| simp only [cxK, cxNK, tCallZ, tAsg, tOp, rI0, rS0, rB0, rI, rU, tUn, rEq, rNe, rIxL, rIxT, rIxS, rSetL, rSlLU, rSlS, rSlU, rCatL, rCatU, rRepL, rIn, tVar, tC, gName, gSub, tIfS, tTest, tB, tAnd, tOr, tNot, tNotV, tAndV, tOrV, tIf, tCall, tCons, tNil, tCB, tDrop, tRet, tRetN, tNext, tLstU, tTupU, tM0, tM1, tPar, tBM, tBM0, rAppend, rPop, tBreak, tCont, tChain, tSl, tPart, tNoPart, L2.start, List.map, List.length_cons, List.length_nil, List.replicate, List.cons_append, List.nil_append, List.append_nil, List.getElem?_cons_zero, List.getElem?_cons_succ, List.set_cons_zero, List.set_cons_succ, Option.some.injEq, V.int.injEq, V.ref.injEq, V.str.injEq, V.bl.injEq, exists_eq_left', exists_eq_left, exists_and_left, decide_eq_true_eq, List.cons.injEq, and_true, true_and, scal, Bool.not_eq_true', decide_eq_false_iff_not, Nat.zero_add, Nat.reduceAdd, Nat.reduceSub, reduceCtorEq, false_and, exists_false, false_or, or_false, CPow, CMul, CDiv, Int.reduceToNat, ↓reduceIte, wipe])
local macro_rules | `(tactic| walk_at "st") => `(tactic| (refine seq_op fun N hN => ?_; walk_at "rs"))
local macro_rules | `(tactic| walk_at "sd") => `(tactic| first | assumption | decide | omega)
local macro_rules | `(tactic| walk_at "rd") => `(tactic| repeat (first
  | refine ⟨_, SqL.of (by assumption), ?_⟩ | refine ⟨_, SqL.of upd_same, ?_⟩ | refine ⟨_, .inl (SqL.of (by assumption)), ?_⟩ | refine ⟨_, (by assumption : _ = some (HO.lst _)), ?_⟩ | refine ⟨_, upd_same, ?_⟩
  | refine ⟨_, rfl, ?_⟩ | refine And.intro (by walk_at "sd") ?_))

abbrev s_read_number : Stmt := top 2
abbrev N_read_number : List Str := ["word", "figures", "number", "sign"]
theorem sc_read_number : FnScope N_read_number ["word"] (defScope s_read_number) := ⟨rfl, rfl, rfl, by decide +kernel, rfl, by decide +kernel, by decide +kernel⟩

abbrev s_is_word_name : Stmt := top 9
abbrev N_is_word_name : List Str := ["value", "sign"]
theorem sc_is_word_name : FnScope N_is_word_name ["value"] (defScope s_is_word_name) := ⟨rfl, rfl, rfl, by decide +kernel, rfl, by decide +kernel, by decide +kernel⟩

abbrev s_is_own_name : Stmt := top 10
abbrev N_is_own_name : List Str := ["value"]
theorem sc_is_own_name : FnScope N_is_own_name ["value"] (defScope s_is_own_name) := ⟨rfl, rfl, rfl, by decide +kernel, rfl, by decide +kernel, by decide +kernel⟩

abbrev s_is_name : Stmt := top 11
abbrev N_is_name : List Str := ["value"]
theorem sc_is_name : FnScope N_is_name ["value"] (defScope s_is_name) := ⟨rfl, rfl, rfl, by decide +kernel, rfl, by decide +kernel, by decide +kernel⟩

abbrev s_is_integer_word : Stmt := top 12
abbrev N_is_integer_word : List Str := ["word", "least", "greatest", "number"]
theorem sc_is_integer_word : FnScope N_is_integer_word ["word", "least", "greatest"] (defScope s_is_integer_word) := ⟨rfl, rfl, rfl, by decide +kernel, rfl, by decide +kernel, by decide +kernel⟩

abbrev s_operands_behind : Stmt := top 13
abbrev N_operands_behind : List Str := ["word", "kind"]
theorem sc_operands_behind : FnScope N_operands_behind ["word", "kind"] (defScope s_operands_behind) := ⟨rfl, rfl, rfl, by decide +kernel, rfl, by decide +kernel, by decide +kernel⟩

abbrev s_is_expression : Stmt := top 14
abbrev N_is_expression : List Str := ["value", "wanted", "word", "operands"]
theorem sc_is_expression : FnScope N_is_expression ["value"] (defScope s_is_expression) := ⟨rfl, rfl, rfl, by decide +kernel, rfl, by decide +kernel, by decide +kernel⟩

abbrev s__law_bag : Stmt := top 16
abbrev N__law_bag : List Str := ["script", "mixed", "cell"]
theorem sc__law_bag : FnScope N__law_bag ["script"] (defScope s__law_bag) := ⟨rfl, rfl, rfl, by decide +kernel, rfl, by decide +kernel, by decide +kernel⟩

abbrev s__law_draw : Stmt := top 17
abbrev N__law_draw : List Str := ["bag", "size", "cell", "digit"]
theorem sc__law_draw : FnScope N__law_draw ["bag", "size"] (defScope s__law_draw) := ⟨rfl, rfl, rfl, by decide +kernel, rfl, by decide +kernel, by decide +kernel⟩

abbrev s__law_of : Stmt := top 18
abbrev N__law_of : List Str := ["bag", "things"]
theorem sc__law_of : FnScope N__law_of ["bag", "things"] (defScope s__law_of) := ⟨rfl, rfl, rfl, by decide +kernel, rfl, by decide +kernel, by decide +kernel⟩

abbrev s__law_like : Stmt := top 19
abbrev N__law_like : List Str := ["got", "due", "one", "two"]
theorem sc__law_like : FnScope N__law_like ["got", "due"] (defScope s__law_like) := ⟨rfl, rfl, rfl, by decide +kernel, rfl, by decide +kernel, by decide +kernel⟩

abbrev s__law_any : Stmt := top 20
abbrev N__law_any : List Str := ["bag", "deep", "way", "far", "some", "k"]
theorem sc__law_any : FnScope N__law_any ["bag", "deep"] (defScope s__law_any) := ⟨rfl, rfl, rfl, by decide +kernel, rfl, by decide +kernel, by decide +kernel⟩

abbrev s__law_prefix : Stmt := top 21
abbrev N__law_prefix : List Str := ["bag", "parts", "size", "owed", "made", "step", "kind", "room", "way"]
theorem sc__law_prefix : FnScope N__law_prefix ["bag", "parts", "size"] (defScope s__law_prefix) := ⟨rfl, rfl, rfl, by decide +kernel, rfl, by decide +kernel, by decide +kernel⟩

abbrev s__law_kept : Stmt := top 22
abbrev N__law_kept : List Str := ["some"]
theorem sc__law_kept : FnScope N__law_kept [] (defScope s__law_kept) := ⟨rfl, rfl, rfl, by decide +kernel, rfl, by decide +kernel, by decide +kernel⟩

abbrev s__law_is_word : Stmt := top 23
abbrev N__law_is_word : List Str := ["thing", "letters", "sign"]
theorem sc__law_is_word : FnScope N__law_is_word ["thing"] (defScope s__law_is_word) := ⟨rfl, rfl, rfl, by decide +kernel, rfl, by decide +kernel, by decide +kernel⟩

abbrev s__law_is_own : Stmt := top 24
abbrev N__law_is_own : List Str := ["thing"]
theorem sc__law_is_own : FnScope N__law_is_own ["thing"] (defScope s__law_is_own) := ⟨rfl, rfl, rfl, by decide +kernel, rfl, by decide +kernel, by decide +kernel⟩

abbrev s__law_is_name : Stmt := top 25
abbrev N__law_is_name : List Str := ["thing"]
theorem sc__law_is_name : FnScope N__law_is_name ["thing"] (defScope s__law_is_name) := ⟨rfl, rfl, rfl, by decide +kernel, rfl, by decide +kernel, by decide +kernel⟩

abbrev s__law_needs : Stmt := top 26
abbrev N__law_needs : List Str := ["part", "k"]
theorem sc__law_needs : FnScope N__law_needs ["part"] (defScope s__law_needs) := ⟨rfl, rfl, rfl, by decide +kernel, rfl, by decide +kernel, by decide +kernel⟩

abbrev s__law_is_prefix : Stmt := top 27
abbrev N__law_is_prefix : List Str := ["thing", "stack", "part", "needs"]
theorem sc__law_is_prefix : FnScope N__law_is_prefix ["thing"] (defScope s__law_is_prefix) := ⟨rfl, rfl, rfl, by decide +kernel, rfl, by decide +kernel, by decide +kernel⟩

abbrev s__law_some_name : Stmt := top 28
abbrev N__law_some_name : List Str := ["bag", "letters", "way", "kept", "sign", "at_sign", "k"]
theorem sc__law_some_name : FnScope N__law_some_name ["bag"] (defScope s__law_some_name) := ⟨rfl, rfl, rfl, by decide +kernel, rfl, by decide +kernel, by decide +kernel⟩

abbrev s__law_some_word : Stmt := top 29
abbrev N__law_some_word : List Str := ["bag", "some", "odd", "way"]
theorem sc__law_some_word : FnScope N__law_some_word ["bag"] (defScope s__law_some_word) := ⟨rfl, rfl, rfl, by decide +kernel, rfl, by decide +kernel, by decide +kernel⟩

abbrev s__law_bent : Stmt := top 30
abbrev N__law_bent : List Str := ["bag", "thing", "way", "cut"]
theorem sc__law_bent : FnScope N__law_bent ["bag", "thing"] (defScope s__law_bent) := ⟨rfl, rfl, rfl, by decide +kernel, rfl, by decide +kernel, by decide +kernel⟩

abbrev s__law_chain : Stmt := top 31
abbrev N__law_chain : List Str := ["bag", "size", "leaf"]
theorem sc__law_chain : FnScope N__law_chain ["bag"] (defScope s__law_chain) := ⟨rfl, rfl, rfl, by decide +kernel, rfl, by decide +kernel, by decide +kernel⟩

abbrev s__law_judged : Stmt := top 32
abbrev N__law_judged : List Str := ["thing", "due"]
theorem sc__law_judged : FnScope N__law_judged ["thing"] (defScope s__law_judged) := ⟨rfl, rfl, rfl, by decide +kernel, rfl, by decide +kernel, by decide +kernel⟩

abbrev s__law_called : Stmt := top 33
abbrev N__law_called : List Str := ["thing"]
theorem sc__law_called : FnScope N__law_called ["thing"] (defScope s__law_called) := ⟨rfl, rfl, rfl, by decide +kernel, rfl, by decide +kernel, by decide +kernel⟩

abbrev s_law : Stmt := top 34
abbrev N_law : List Str := ["script", "bag", "turn", "size", "prefix", "bent", "k", "near", "one"]
theorem sc_law : FnScope N_law ["script"] (defScope s_law) := ⟨rfl, rfl, rfl, by decide +kernel, rfl, by decide +kernel, by decide +kernel⟩

/-! ### mirrors -/
def LETs : Str := "abcdefghijklmnopqrstuvwxyz"
def FIGs : Str := "0123456789"
def inS (c : Nat) (z : Str) : Bool := decide (c ∈ z.cps.toList)
def keptL : List Str := ["program", "let", "tell", "be", "table", "first", "last", "count", "mean", "where", "pairs", "else", "sign", "place", "min", "max", "mod", "div", "and", "or", "not", "if"]
def keptV : List V := keptL.map V.str
def givenV : List V := [.str "sign", .str "place"]
def opsTab : List (Str × Str) := [("+", "ee"), ("-", "ee"), ("*", "ee"), ("min", "ee"), ("max", "ee"), ("=", "ee"), ("/=", "ee"), ("<", "ee"), ("<=", "ee"), (">", "ee"), (">=", "ee"), ("and", "ee"), ("or", "ee"), ("mod", "ek"), ("div", "ek"), ("not", "e"), ("if", "eee")]
def opsOf (z : Str) : Option Str := opsTab.lookup z
def optS : Option Str → V
  | none => .non
  | some s => .str s
def optI : Option Int → V
  | none => .non
  | some i => .int i
mutual
def okD : PyData → Bool
  | .none => true | .bool _ => true | .int _ => true
  | .str z => decide (z.length ≤ 100000)
  | .list ds => decide (ds.length ≤ 100000) && okAll ds
  | .tuple ds => decide (ds.length ≤ 100000) && okAll ds
  | .dict _ => false
def okAll : List PyData → Bool
  | [] => true
  | d :: ds => okD d && okAll ds
end
theorem okD_tup {ds : List PyData} : okD (.tuple ds) = true ↔ ds.length ≤ 100000 ∧ okAll ds = true := by
  show (decide (ds.length ≤ 100000) && okAll ds) = true ↔ _
  rw [Bool.and_eq_true, decide_eq_true_iff]
theorem okD_lst {ds : List PyData} : okD (.list ds) = true ↔ ds.length ≤ 100000 ∧ okAll ds = true := by
  show (decide (ds.length ≤ 100000) && okAll ds) = true ↔ _
  rw [Bool.and_eq_true, decide_eq_true_iff]
mutual
def dep : PyData → Nat
  | .none => 0 | .bool _ => 0 | .int _ => 0 | .str _ => 0
  | .list ds => depAll ds + 1
  | .tuple ds => depAll ds + 1
  | .dict _ => 0
def depAll : List PyData → Nat
  | [] => 0
  | d :: ds => max (dep d) (depAll ds)
end
def isWordS (z : Str) : Bool := match z.cps.toList with
  | [] => false
  | c :: r => decide (z.length ≤ 6) && (inS c LETs && (c :: r).all fun c => inS c LETs || inS c FIGs)
def isWordD : PyData → Bool
  | .str z => isWordS z
  | _ => false
def isOwnD : PyData → Bool
  | .str z => isWordS z && !inV (.str z) keptV
  | _ => false
def isNameD : PyData → Bool
  | .str z => isOwnD (.str z) || inV (.str z) givenV
  | _ => false
def figures (z : Str) : Str := if Txt.startswith z "-" then cutS z (some 1) none else z
def readNum (z : Str) : Option Int :=
  if (1 ≤ (figures z).length ∧ (figures z).length ≤ 60) ∧ ((figures z).cps.toList.all fun c => inS c FIGs) = true then
    (match intText? z with
      | some n => if Str.ofString (toString n) = z then some n else none
      | none => none)
  else none
def isInt (z : Str) (a b : Int) : Bool := match readNum z with
  | some n => decide (a ≤ n) && decide (n ≤ b)
  | none => false
def opsBehind (d : PyData) (k : Str) : Option Str := match d with
  | .str z => if k = "k" then (if isInt z 1 9 = true then some "" else none) else if (isNameD (.str z) || isInt z (-9) 9) = true then some "" else opsOf z
  | _ => none
def head1 (w : Str) : Str := ⟨#[w.cps.toList.headD 0]⟩
def walkE : Str → List PyData → Bool
  | w, [] => decide (w = "")
  | w, d :: r => if w = "" then false else match opsBehind d (head1 w) with
    | none => false
    | some o => walkE (o ++ cutS w (some 1) none) r
def isExpr : PyData → Bool
  | .tuple ds => decide (1 ≤ ds.length) && decide (ds.length ≤ 30) && walkE "e" ds
  | _ => false
/-! ### promises -/
def spP (K : PySem.W.Frag) (F : PyData → V) : Sp := fun vs H Q _ => ∃ v d, vs = [v] ∧ Dp K H v d ∧ okD d = true ∧ ∀ H', Same H H' → Q (F d) H'
def sp_read_number : Sp := fun vs H Q _ => ∃ z, vs = [.str z] ∧ z.length ≤ 100000 ∧ ∀ H', Same H H' → Q (optI (readNum z)) H'
def sp_is_integer_word : Sp := fun vs H Q _ => ∃ z a b, vs = [.str z, .int a, .int b] ∧ z.length ≤ 100000 ∧ ∀ H', Same H H' → Q (.bl (isInt z a b)) H'
def sp_operands_behind (K : PySem.W.Frag) : Sp := fun vs H Q _ => ∃ v d k, vs = [v, .str k] ∧ Dp K H v d ∧ okD d = true ∧ ∀ H', Same H H' → Q (optS (opsBehind d k)) H'
def SeqV (K : PySem.W.Frag) (G : Hp) (x : V) (ys : List V) : Prop := (∃ p, x = .ref p ∧ SqL K G p ys) ∨ (∃ p, x = .ref p ∧ SqT K G p ys) ∨ ∃ z, x = .str z ∧ z.length ≤ 100000 ∧ ys = z.cps.toList.map fun c => V.str ⟨#[c]⟩
def sp__law_bag (K : PySem.W.Frag) : Sp := fun vs H Q _ => ∃ (a : Addr) (ns : List Int), vs = [.ref a] ∧ SqL K H a (ns.map V.int) ∧ ns.length ≤ 63 ∧ ∀ b c H', Same H H' → Bag H' b c → H b = none → Q (.ref b) H'
def sp__law_draw : Sp := fun vs H Q _ => ∃ (b c : Addr) (n : Int), vs = [.ref b, .int n] ∧ Bag H b c ∧ 0 < n ∧ n < 1073741824 ∧ ∀ (r : Int) H', 0 ≤ r → r < n → Bag H' b c → Kp b H H' → Q (.int r) H'
def sp__law_of (K : PySem.W.Frag) : Sp := fun vs H Q _ => ∃ (b c : Addr) (x : V) (ys : List V), vs = [.ref b, x] ∧ Bag H b c ∧ SeqV K H x ys ∧ SeqV K (hb H b) x ys ∧ ys ≠ [] ∧ ys.length ≤ 1000000 ∧ ∀ y H', y ∈ ys → Bag H' b c → Kp b H H' → Q y H'
def sp__law_like (K : PySem.W.Frag) (n : Nat) : Sp := fun vs H Q _ => ∃ v u d, vs = [v, u] ∧ Dp K H v d ∧ Dp K H u d ∧ okD d = true ∧ dep d ≤ n ∧ ∀ H', Same H H' → Q (.bl true) H'
def sp__law_any (K : PySem.W.Frag) (n : Nat) : Sp := fun vs H Q _ => ∃ (b c : Addr) (k : Int), vs = [.ref b, .int k] ∧ Bag H b c ∧ k ≤ n ∧ ∀ v d H', Bag H' b c → Kp b H H' → Dp K (nw H H') v d → okD d = true → dep d ≤ n → Q v H'
def sp__law_prefix (K : PySem.W.Frag) : Sp := fun vs H Q _ => ∃ (b c p : Addr) (parts : List Str) (size : Int), vs = [.ref b, .ref p, .int size] ∧ Bag H b c ∧ hb H b p = some (.lst (parts.map V.str)) ∧ (∀ z ∈ parts, z.length ≤ 20 ∧ PyData.canLay0 (.str z) = true) ∧ parts.length ≤ 20 ∧
  ∀ q (ws : List Str) H', Bag H' b c → Kp b H H' → SqT K H' q (ws.map V.str) → ws.length ≤ 30 → (∀ z ∈ ws, z.length ≤ 20) → Q (.ref q) H'
def sp__law_kept : Sp := fun vs H Q _ => vs = [] ∧ ∀ p H', Same H H' → H p = none → H' p = some (.lst keptV) → Q (.ref p) H'
def ops2L : List Str := ["+", "-", "*", "min", "max", "=", "/=", "<", "<=", ">", ">=", "and", "or", "mod", "div"]
def ops1L : List Str := ["not", "if"]
def numL9 : List Str := ["1", "2", "3", "4", "5", "6", "7", "8", "9"]
def nineV : List V := (List.range 19).map fun (k : Nat) => V.str (Str.ofString (toString ((k : Int) - 9)))
def needsZ (z : Str) : Int :=
  if inV (.str z) (ops2L.map V.str) = true then 2
  else if inV (.str z) (ops1L.map V.str) = true then (if z = "not" then 1 else 3)
  else if (inV (.str z) nineV || isNameD (.str z)) = true then 0 else -1
def sp__law_needs : Sp := fun vs H Q _ => ∃ z, vs = [.str z] ∧ z.length ≤ 100000 ∧ ∀ H', Same H H' → Q (.int (needsZ z)) H'
def modV : List V := [.str "mod", .str "div"]
def numV : List V := numL9.map V.str
def stepP (st : List Str) (z : Str) : Option (List Str) :=
  if needsZ z < 0 ∨ (st.length : Int) < needsZ z then none
  else if inV (.str z) modV = true ∧ (∀ y, st[st.length - 2]? = some y → inV (.str y) numV = false) then none
  else some (st.take (st.length - (needsZ z).toNat) ++ [if needsZ z = 0 then z else ""])
def walkP : List Str → List Str → Option (List Str)
  | st, [] => some st
  | st, z :: r => match stepP st z with
    | none => none
    | some st' => walkP st' r
def strsOf : List PyData → Option (List Str)
  | [] => some []
  | .str z :: r => (strsOf r).map (z :: ·)
  | _ :: _ => none
def finP : Option (List Str) → Bool
  | some st => decide (st.length = 1)
  | none => false
def preZ : Option (List Str) → Bool
  | some zs => finP (walkP [] zs.reverse)
  | none => false
def isPre : PyData → Bool
  | .tuple ds => decide (1 ≤ ds.length) && decide (ds.length ≤ 30) && preZ (strsOf ds)
  | _ => false
def sp_str (K : PySem.W.Frag) : Sp := fun vs H Q _ => ∃ (b c : Addr), vs = [.ref b] ∧ Bag H b c ∧ ∀ z H', z.length ≤ 20 → Bag H' b c → Kp b H H' → Q (.str z) H'
def sp__law_bent (K : PySem.W.Frag) : Sp := fun vs H Q _ => ∃ (b c : Addr) (q : Addr) (ds : List PyData), vs = [.ref b, .ref q] ∧ Bag H b c ∧ Dp K (hb H b) (.ref q) (.tuple ds) ∧ okAll ds = true ∧ ds.length ≤ 10000 ∧
  ∀ q' ds' H', Bag H' b c → Kp b H H' → Dp K (hb H' b) (.ref q') (.tuple ds') → okAll ds' = true → ds'.length ≤ 2 * ds.length + 40 → Q (.ref q') H'
def sp__law_chain (K : PySem.W.Frag) : Sp := fun vs H Q _ => ∃ (b c : Addr), vs = [.ref b] ∧ Bag H b c ∧ ∀ q (ws : List Str) H', Bag H' b c → Kp b H H' → SqT K H' q (ws.map V.str) → ws.length ≤ 40 → (∀ z ∈ ws, z.length ≤ 20) → Q (.ref q) H'
def spT (K : PySem.W.Frag) : Sp := fun vs H Q _ => ∃ v d, vs = [v] ∧ Dp K H v d ∧ okD d = true ∧ ∀ H', Same H H' → Q (.bl true) H'
def sp_law (K : PySem.W.Frag) : Sp := fun vs H Q _ => ∃ (a : Addr) (ns : List Int), vs = [.ref a] ∧ SqL K H a (ns.map V.int) ∧ ns.length ≤ 63 ∧ ∀ H', Q (.bl true) H'
structure Txt (w : World) (K : PySem.W.Frag) (mg : Str → Option Value) where
  n_len : mg "len" = none
  n_int : mg "int" = none
  n_str : mg "str" = none
  n_list : mg "list" = none
  n_tuple : mg "tuple" = none
  n_bool : mg "bool" = none
  n_isinstance : mg "isinstance" = none
  n_all : mg "all" = none
  n_range : mg "range" = none
  n_zip : mg "zip" = none
  t_FIGURES : Tok
  m_FIGURES : mg "FIGURES" = some (.str FIGs t_FIGURES)
  t_LETTERS : Tok
  m_LETTERS : mg "LETTERS" = some (.str LETs t_LETTERS)
  t_MOST_WORDS : Tok
  m_MOST_WORDS : mg "MOST_WORDS" = some (.int 30 t_MOST_WORDS)
  a_RESERVED : Addr
  m_RESERVED : mg "RESERVED" = some (.ref a_RESERVED)
  s_RESERVED : ∀ H, SqT K H a_RESERVED keptV
  a_GIVEN : Addr
  m_GIVEN : mg "GIVEN" = some (.ref a_GIVEN)
  s_GIVEN : ∀ H, SqT K H a_GIVEN givenV
  a_OPERANDS : Addr
  m_OPERANDS : mg "OPERANDS" = some (.ref a_OPERANDS)
  es_OPERANDS : Array DictEntry
  n_es_OPERANDS : Nat
  D_OPERANDS : KDict K w a_OPERANDS es_OPERANDS n_es_OPERANDS
  g_OPERANDS : ∀ z, ∃ r, PySem.W.nsIn K a_OPERANDS z = some r ∧ RelV (optS (opsOf z)) (r.getD .none)
  a_read_number : Addr
  d_read_number : FuncData
  F_read_number : Fun K "read_number" "read_number" s_read_number a_read_number d_read_number
  m_read_number : mg "read_number" = some (.ref a_read_number)
  B_read_number : Binds K d_read_number ["word"] []
  a_is_word_name : Addr
  d_is_word_name : FuncData
  F_is_word_name : Fun K "is_word_name" "is_word_name" s_is_word_name a_is_word_name d_is_word_name
  m_is_word_name : mg "is_word_name" = some (.ref a_is_word_name)
  B_is_word_name : Binds K d_is_word_name ["value"] []
  a_is_own_name : Addr
  d_is_own_name : FuncData
  F_is_own_name : Fun K "is_own_name" "is_own_name" s_is_own_name a_is_own_name d_is_own_name
  m_is_own_name : mg "is_own_name" = some (.ref a_is_own_name)
  B_is_own_name : Binds K d_is_own_name ["value"] []
  a_is_name : Addr
  d_is_name : FuncData
  F_is_name : Fun K "is_name" "is_name" s_is_name a_is_name d_is_name
  m_is_name : mg "is_name" = some (.ref a_is_name)
  B_is_name : Binds K d_is_name ["value"] []
  a_is_integer_word : Addr
  d_is_integer_word : FuncData
  F_is_integer_word : Fun K "is_integer_word" "is_integer_word" s_is_integer_word a_is_integer_word d_is_integer_word
  m_is_integer_word : mg "is_integer_word" = some (.ref a_is_integer_word)
  B_is_integer_word : Binds K d_is_integer_word ["word", "least", "greatest"] []
  a_operands_behind : Addr
  d_operands_behind : FuncData
  F_operands_behind : Fun K "operands_behind" "operands_behind" s_operands_behind a_operands_behind d_operands_behind
  m_operands_behind : mg "operands_behind" = some (.ref a_operands_behind)
  B_operands_behind : Binds K d_operands_behind ["word", "kind"] []
  a_is_expression : Addr
  d_is_expression : FuncData
  F_is_expression : Fun K "is_expression" "is_expression" s_is_expression a_is_expression d_is_expression
  m_is_expression : mg "is_expression" = some (.ref a_is_expression)
  B_is_expression : Binds K d_is_expression ["value"] []
  a__law_bag : Addr
  d__law_bag : FuncData
  F__law_bag : Fun K "_law_bag" "_law_bag" s__law_bag a__law_bag d__law_bag
  m__law_bag : mg "_law_bag" = some (.ref a__law_bag)
  B__law_bag : Binds K d__law_bag ["script"] []
  a__law_draw : Addr
  d__law_draw : FuncData
  F__law_draw : Fun K "_law_draw" "_law_draw" s__law_draw a__law_draw d__law_draw
  m__law_draw : mg "_law_draw" = some (.ref a__law_draw)
  B__law_draw : Binds K d__law_draw ["bag", "size"] []
  a__law_of : Addr
  d__law_of : FuncData
  F__law_of : Fun K "_law_of" "_law_of" s__law_of a__law_of d__law_of
  m__law_of : mg "_law_of" = some (.ref a__law_of)
  B__law_of : Binds K d__law_of ["bag", "things"] []
  a__law_like : Addr
  d__law_like : FuncData
  F__law_like : Fun K "_law_like" "_law_like" s__law_like a__law_like d__law_like
  m__law_like : mg "_law_like" = some (.ref a__law_like)
  B__law_like : Binds K d__law_like ["got", "due"] []
  a__law_any : Addr
  d__law_any : FuncData
  F__law_any : Fun K "_law_any" "_law_any" s__law_any a__law_any d__law_any
  m__law_any : mg "_law_any" = some (.ref a__law_any)
  B__law_any : Binds K d__law_any ["bag", "deep"] []
  a__law_prefix : Addr
  d__law_prefix : FuncData
  F__law_prefix : Fun K "_law_prefix" "_law_prefix" s__law_prefix a__law_prefix d__law_prefix
  m__law_prefix : mg "_law_prefix" = some (.ref a__law_prefix)
  B__law_prefix : Binds K d__law_prefix ["bag", "parts", "size"] []
  a__law_kept : Addr
  d__law_kept : FuncData
  F__law_kept : Fun K "_law_kept" "_law_kept" s__law_kept a__law_kept d__law_kept
  m__law_kept : mg "_law_kept" = some (.ref a__law_kept)
  B__law_kept : Binds K d__law_kept [] []
  a__law_is_word : Addr
  d__law_is_word : FuncData
  F__law_is_word : Fun K "_law_is_word" "_law_is_word" s__law_is_word a__law_is_word d__law_is_word
  m__law_is_word : mg "_law_is_word" = some (.ref a__law_is_word)
  B__law_is_word : Binds K d__law_is_word ["thing"] []
  a__law_is_own : Addr
  d__law_is_own : FuncData
  F__law_is_own : Fun K "_law_is_own" "_law_is_own" s__law_is_own a__law_is_own d__law_is_own
  m__law_is_own : mg "_law_is_own" = some (.ref a__law_is_own)
  B__law_is_own : Binds K d__law_is_own ["thing"] []
  a__law_is_name : Addr
  d__law_is_name : FuncData
  F__law_is_name : Fun K "_law_is_name" "_law_is_name" s__law_is_name a__law_is_name d__law_is_name
  m__law_is_name : mg "_law_is_name" = some (.ref a__law_is_name)
  B__law_is_name : Binds K d__law_is_name ["thing"] []
  a__law_needs : Addr
  d__law_needs : FuncData
  F__law_needs : Fun K "_law_needs" "_law_needs" s__law_needs a__law_needs d__law_needs
  m__law_needs : mg "_law_needs" = some (.ref a__law_needs)
  B__law_needs : Binds K d__law_needs ["part"] []
  a__law_is_prefix : Addr
  d__law_is_prefix : FuncData
  F__law_is_prefix : Fun K "_law_is_prefix" "_law_is_prefix" s__law_is_prefix a__law_is_prefix d__law_is_prefix
  m__law_is_prefix : mg "_law_is_prefix" = some (.ref a__law_is_prefix)
  B__law_is_prefix : Binds K d__law_is_prefix ["thing"] []
  a__law_some_name : Addr
  d__law_some_name : FuncData
  F__law_some_name : Fun K "_law_some_name" "_law_some_name" s__law_some_name a__law_some_name d__law_some_name
  m__law_some_name : mg "_law_some_name" = some (.ref a__law_some_name)
  B__law_some_name : Binds K d__law_some_name ["bag"] []
  a__law_some_word : Addr
  d__law_some_word : FuncData
  F__law_some_word : Fun K "_law_some_word" "_law_some_word" s__law_some_word a__law_some_word d__law_some_word
  m__law_some_word : mg "_law_some_word" = some (.ref a__law_some_word)
  B__law_some_word : Binds K d__law_some_word ["bag"] []
  a__law_bent : Addr
  d__law_bent : FuncData
  F__law_bent : Fun K "_law_bent" "_law_bent" s__law_bent a__law_bent d__law_bent
  m__law_bent : mg "_law_bent" = some (.ref a__law_bent)
  B__law_bent : Binds K d__law_bent ["bag", "thing"] []
  a__law_chain : Addr
  d__law_chain : FuncData
  F__law_chain : Fun K "_law_chain" "_law_chain" s__law_chain a__law_chain d__law_chain
  m__law_chain : mg "_law_chain" = some (.ref a__law_chain)
  B__law_chain : Binds K d__law_chain ["bag"] []
  a__law_judged : Addr
  d__law_judged : FuncData
  F__law_judged : Fun K "_law_judged" "_law_judged" s__law_judged a__law_judged d__law_judged
  m__law_judged : mg "_law_judged" = some (.ref a__law_judged)
  B__law_judged : Binds K d__law_judged ["thing"] []
  a__law_called : Addr
  d__law_called : FuncData
  F__law_called : Fun K "_law_called" "_law_called" s__law_called a__law_called d__law_called
  m__law_called : mg "_law_called" = some (.ref a__law_called)
  B__law_called : Binds K d__law_called ["thing"] []
  a_law : Addr
  d_law : FuncData
  F_law : Fun K "law" "law" s_law a_law d_law
  m_law : mg "law" = some (.ref a_law)
  B_law : Binds K d_law ["script"] []
  Z_is_expression : KBn K d_is_expression ["value"] 0 ["value"] (fun _ ws => ws) (fun _ zs => zs)
  Z_is_word_name : KBn K d_is_word_name ["value"] 0 ["value"] (fun _ ws => ws) (fun _ zs => zs)
  Z_is_own_name : KBn K d_is_own_name ["value"] 0 ["value"] (fun _ ws => ws) (fun _ zs => zs)
  Z_is_name : KBn K d_is_name ["value"] 0 ["value"] (fun _ ws => ws) (fun _ zs => zs)

end LK

set_option Elab.async false
set_option linter.all false
set_option maxRecDepth 100000
namespace LK
open PySem PySem.Spec PyProof.Rows L2
local macro_rules | `(tactic| walk_at "rs") => `(tactic| simp only [cxK, cxNK, tCallZ, tAsg, tOp, rI0, rS0, rB0, rI, rU, tUn, rEq, rNe, rIxL, rIxT, rIxS, rSetL, rSlLU, rSlS, rSlU, rCatL, rCatU, rRepL, rIn, tVar, tC, gName, gSub, tIfS, tTest, tB, tAnd, tOr, tNot, tNotV, tAndV, tOrV, tIf, tCall, tCons, tNil, tCB, tDrop, tRet, tRetN, tNext, tLstU, tTupU, tM0, tM1, tPar, tBM, tBM0, rAppend, rPop, tBreak, tCont, tChain, tSl, tPart, tNoPart, L2.start, List.map, List.length_cons, List.length_nil, List.replicate, List.cons_append, List.nil_append, List.append_nil, List.getElem?_cons_zero, List.getElem?_cons_succ, List.set_cons_zero, List.set_cons_succ, Option.some.injEq, V.int.injEq, V.ref.injEq, V.str.injEq, V.bl.injEq, exists_eq_left', exists_eq_left, exists_and_left, decide_eq_true_eq, List.cons.injEq, and_true, true_and, scal, Bool.not_eq_true', decide_eq_false_iff_not, Nat.zero_add, Nat.reduceAdd, Nat.reduceSub, reduceCtorEq, false_and, exists_false, false_or, or_false, CPow, CMul, CDiv, Int.reduceToNat, ↓reduceIte, wipe])
local macro_rules | `(tactic| walk_at "st") => `(tactic| (refine seq_op fun N hN => ?_; walk_at "rs"))
local macro_rules | `(tactic| walk_at "sd") => `(tactic| first | assumption | decide | omega)
local macro_rules | `(tactic| walk_at "rd") => `(tactic| repeat (first
  | refine ⟨_, SqL.of (by assumption), ?_⟩ | refine ⟨_, SqL.of upd_same, ?_⟩ | refine ⟨_, .inl (SqL.of (by assumption)), ?_⟩ | refine ⟨_, (by assumption : _ = some (HO.lst _)), ?_⟩ | refine ⟨_, upd_same, ?_⟩
  | refine ⟨_, rfl, ?_⟩ | refine And.intro (by walk_at "sd") ?_))

section
variable {P : Program} {w : World} {K : PySem.W.Frag} {mg : Str → Option Value} {base : Heap}
theorem ok__law_draw (T : Txt w K mg) : FnOk P w K mg base CX0 1 T.a__law_draw T.d__law_draw ["bag", "size"] sp__law_draw := by
  refine T.F__law_draw.ok sc__law_draw (fun vs H Q E h => ?_) (fun cdv A outer s H vs Q E hr h => ?_)
  · obtain ⟨b, c, n, rfl, _⟩ := h
    rfl
  · obtain ⟨b, c, n, rfl, ⟨cells, i, g, m, d, hB, hC, ncb, hi, hm, hm2⟩, n0, n1, k⟩ := h
    refine ⟨_, (pss_cons (ps_asg (pe_op op_add (pe_ix ix_list (pv 0) pe_int (fun _ _ => rfl)) pe_int) (pg_sub (pv 0) pe_int set_list))
      (pss_cons (ps_if (PW.pt (pw_and (pt_cmpR op_eqI (pe_ix ix_list (pv 0) pe_int (fun _ _ => rfl)) pe_int (nomark _)) (pw_and1 (pt_cmpR op_lt (pe_ix ix_list (pv 0) pe_int (fun _ _ => rfl)) (pe_callB call_len_seq (by rfl) T.n_len (by decide +kernel) (pa_cons (pe_ix ix_list (pv 0) pe_int (fun _ _ => rfl)) pa_nil)) (nomark _))))) (pss_cons (ps_set (i := 2) sc__law_draw.nd rfl (Or.inl rfl) (pe_ix ix_list (pe_ix ix_list (pv 0) pe_int (fun _ _ => rfl)) (pe_ix ix_list (pv 0) pe_int (fun _ _ => rfl)) (fun _ _ => rfl)))
      (pss_cons (ps_asg (pe_op op_add (pe_ix ix_list (pv 0) pe_int (fun _ _ => rfl)) pe_int) (pg_sub (pv 0) pe_int set_list))
      (pss_one (ps_if (pt_cmpR op_ge (pv 2) (pe_op op_pow pe_int pe_int) (nomark _)) (pss_one (ps_asg (pv 2) (pg_sub (pv 0) pe_int set_list))) (pss_one (ps_asg (pe_op op_mod (pe_callTy call_intI (by rfl) T.n_int (by decide +kernel) (pa_cons (pe_op op_add (pe_op op_add (pe_op op_mul (pe_ix ix_list (pv 0) pe_int (fun _ _ => rfl)) pe_int) (pe_op op_mul (pe_op op_mod (pe_callTy call_intI (by rfl) T.n_int (by decide +kernel) (pa_cons (pv 2) pa_nil)) pe_int) pe_int)) pe_int) pa_nil)) pe_int) (pg_sub (pv 0) pe_int set_list))))))) pss_nil)
      (pss_cons (ps_if (pt_cmpR op_gt (pe_ix ix_list (pv 0) pe_int (fun _ _ => rfl)) pe_int (nomark _)) (pss_cons (ps_set (i := 3) sc__law_draw.nd rfl (Or.inl rfl) (pe_op op_mod (pe_callTy call_intI (by rfl) T.n_int (by decide +kernel) (pa_cons (pe_ix ix_list (pv 0) pe_int (fun _ _ => rfl)) pa_nil)) (pv 1)))
      (pss_cons (ps_asg (pe_op op_fdiv (pe_ix ix_list (pv 0) pe_int (fun _ _ => rfl)) (pv 1)) (pg_sub (pv 0) pe_int set_list))
      (pss_one (ps_ret (pv 3))))) pss_nil)
      (pss_cons (ps_asg (pe_op op_mod (pe_callTy call_intI (by rfl) T.n_int (by decide +kernel) (pa_cons (pe_op op_add (pe_op op_add (pe_op op_pow (pe_ix ix_list (pv 0) pe_int (fun _ _ => rfl)) pe_int) (pe_op op_mul (pe_ix ix_list (pv 0) pe_int (fun _ _ => rfl)) pe_int)) pe_int) pa_nil)) pe_int) (pg_sub (pv 0) pe_int set_list))
      (pss_one (ps_ret (pe_op op_mod (pe_callTy call_intI (by rfl) T.n_int (by decide +kernel) (pa_cons (pe_op op_add (pe_op op_fdiv (pe_ix ix_list (pv 0) pe_int (fun _ _ => rfl)) pe_int) (pe_op op_mul (pe_op op_mod (pe_callTy call_intI (by rfl) T.n_int (by decide +kernel) (pa_cons (pe_ix ix_list (pv 0) pe_int (fun _ _ => rfl)) pa_nil)) pe_int) pe_int)) pa_nil)) (pv 1)))))))), ?_⟩
    -- bag[4] = bag[4] + 1
    refine seq_op fun N hN => ?_
    walk_at "rs"
    refine ⟨_, SqL.of hB, _, rfl, _, rfl, _, hB, _, rfl, ?_⟩
    refine hN _ _ ?_
    clear hN N
    -- if bag[2] == 0 and bag[1] < len(bag[0]): ..
    have B1 : Bag (upd H b (.lst [.ref c, .int i, .int g, .int m, .int (d + 1)])) b c := ⟨cells, i, g, m, d + 1, upd_same, by rw [upd_ne ncb]; exact hC, ncb, hi, hm, hm2⟩
    have K1 : Kp b H (upd H b (.lst [.ref c, .int i, .int g, .int m, .int (d + 1)])) := Kp.upd
    show tSeq _ _ _ _ (upd H b (.lst [.ref c, .int i, .int g, .int m, .int (d + 1)]))
    generalize upd H b (.lst [.ref c, .int i, .int g, .int m, .int (d + 1)]) = H1 at B1 K1 ⊢
    clear hB hC ncb hi hm hm2 i g m d cells
    refine cut_seq (fun σ H2 => ∃ x, σ = [some (.ref b), some (.int n), x, none] ∧ Bag H2 b c ∧ Kp b H H2) (fun N hN => ?_) ?_
    · obtain ⟨cells, i, g, m, d, hB, hC, ncb, hi, hm, hm2⟩ := id B1
      walk_at "rs"
      refine ⟨_, SqL.of hB, _, rfl, _, rfl, ite2 (fun z => ?_) (fun _ => hN _ _ ⟨_, rfl, B1, K1⟩)⟩
      refine ⟨_, SqL.of hB, _, rfl, _, SqL.of hB, _, rfl, _, rfl, _, .inl (SqL.of hC), _, rfl, ite2 (fun zl => ?_) (fun _ => hN _ _ ⟨_, rfl, B1, K1⟩)⟩
      -- cell = bag[0][bag[1]]
      rw [List.length_map] at zl
      obtain ⟨cl, hcl⟩ : ∃ cl, cells[i.toNat]? = some cl := ⟨cells[i.toNat]'(by omega), List.getElem?_eq_getElem _⟩
      refine seq_op fun N2 hN2 => ?_
      walk_at "rs"
      walk_at "rd"
      refine ⟨_, _, rfl, SqL.of hC, _, at_of (j := i.toNat) (v := .int cl) (by omega) (by rw [List.getElem?_map, hcl] <;> rfl), hN2 _ _ ?_⟩
      clear hN2 N2
      -- bag[1] = bag[1] + 1
      refine seq_op fun N2 hN2 => ?_
      walk_at "rs"
      walk_at "rd"
      refine hN2 _ _ ?_
      clear hN2 N2
      -- if cell >= 10 ** 18: bag[2] = cell else: ..
      walk_at "rs"
      refine ⟨by decide, ite2 (fun _ => ?_) (fun _ => ?_)⟩
      · refine ⟨_, upd_same, _, rfl, hN _ _ ⟨_, rfl, ?_, ?_⟩⟩
        · exact ⟨cells, i + 1, cl, m, d, upd_same, by rw [upd_ne ncb, upd_ne ncb]; exact hC, ncb, by omega, hm, hm2⟩
        · exact K1.trans (Kp.upd.trans Kp.upd)
      · walk_at "rd"
        refine hN _ _ ⟨_, rfl, ?_, ?_⟩
        · exact ⟨cells, i + 1, g, _, d, upd_same, by rw [upd_ne ncb, upd_ne ncb]; exact hC, ncb, by omega, Int.emod_nonneg _ (by decide), Int.emod_lt_of_pos _ (by decide)⟩
        · exact K1.trans (Kp.upd.trans Kp.upd)
    · rintro σ H2 ⟨x, rfl, B2, K2⟩
      obtain ⟨cells, i, g, m, d, hB, hC, ncb, hi, hm, hm2⟩ := id B2
      -- if bag[2] > 0: ..
      refine seq_op fun N hN => ?_
      walk_at "rs"
      refine ⟨_, SqL.of hB, _, rfl, _, rfl, ite2 (fun _ => ?_) (fun _ => hN _ _ ?_)⟩
      · refine seq_op fun N2 hN2 => ?_
        walk_at "rs"
        walk_at "rd"
        refine hN2 _ _ ?_
        clear hN2 N2
        refine seq_op fun N2 hN2 => ?_
        walk_at "rs"
        refine ⟨_, SqL.of hB, _, rfl, _, rfl, ⟨n0, n1⟩, ?_⟩
        walk_at "rd"
        refine hN2 _ _ ?_
        walk_at "rs"
        exact k _ _ (Int.emod_nonneg _ (by omega)) (Int.emod_lt_of_pos _ n0) ⟨cells, i, _, m, d, upd_same, by rw [upd_ne ncb]; exact hC, ncb, hi, hm, hm2⟩ (K2.trans Kp.upd)
      · clear hN N
        refine seq_op fun N hN => ?_
        walk_at "rs"
        refine ⟨_, SqL.of hB, _, rfl, _, rfl, ⟨by decide, by decide, by omega⟩, _, SqL.of hB, _, rfl, _, rfl, .inr (by decide), by decide, ?_⟩
        walk_at "rd"
        refine hN _ _ ?_
        clear hN N
        walk_at "rs"
        walk_at "rd"
        exact k _ _ (Int.emod_nonneg _ (by omega)) (Int.emod_lt_of_pos _ n0) ⟨cells, i, g, _, d, upd_same, by rw [upd_ne ncb]; exact hC, ncb, hi, Int.emod_nonneg _ (by decide), Int.emod_lt_of_pos _ (by decide)⟩ (K2.trans Kp.upd)

theorem ok__law_of (T : Txt w K mg) : FnOk P w K mg base CX0 2 T.a__law_of T.d__law_of ["bag", "things"] (sp__law_of K) := by
  refine T.F__law_of.ok sc__law_of (fun vs H Q E h => ?_) (fun cdv A outer s H vs Q E hr h => ?_)
  · obtain ⟨b, c, x, ys, rfl, _⟩ := h
    rfl
  · obtain ⟨b, c, x, ys, rfl, B, sq, sqb, ne, hl, k⟩ := h
    have hr__law_draw : Room 1 _ := hr.mono (by decide)
    have G__law_draw := ok__law_draw (P := P) (base := base) T
    refine ⟨_, (pss_one (ps_ret (pe_ix ix_seq (pv 1) (pe_call G__law_draw hr__law_draw (by rfl) T.m__law_draw T.F__law_draw.kp T.B__law_draw .nil pass0 (pa_cons (pv 0) (pa_cons (pe_callB call_len (by rfl) T.n_len (by decide +kernel) (pa_cons (pv 1) pa_nil)) pa_nil))) (fun _ _ => rfl)))), ?_⟩
    walk_at "rs"
    have ln : 0 < ys.length := by cases ys with | nil => exact absurd rfl ne | cons => exact Nat.succ_pos _
    have pick : ∀ (r : Int), 0 ≤ r → r < (ys.length : Int) → ∃ y, atI ys r = some y ∧ y ∈ ys := fun r r0 r1 => by
      have h1 : r.toNat < ys.length := by omega
      exact ⟨ys[r.toNat], at_of (j := r.toNat) (by omega) (List.getElem?_eq_getElem h1), List.getElem_mem h1⟩
    refine ⟨ys.length, ?_, b, c, _, rfl, B, by omega, by omega, fun r H' r0 r1 B' K' => ?_⟩
    · rcases sq with ⟨p, rfl, h⟩ | ⟨p, rfl, h⟩ | ⟨z, rfl, hz, rfl⟩
      · exact .inl ⟨_, h, rfl⟩
      · exact .inr ⟨_, h, rfl⟩
      · refine ⟨Nat.le_trans hz (by decide), ?_⟩
        rw [List.length_map, Array.length_toList] <;> rfl
    · obtain ⟨y, e, hy⟩ := pick r r0 r1
      rcases sqb with ⟨p, rfl, h⟩ | ⟨p, rfl, h⟩ | ⟨z, rfl, hz, rfl⟩
      · exact .inl ⟨p, ys, r, y, rfl, rfl, Same.seq (hb_le _ _) (Same.seq K' h), e, k y H' hy B' K'⟩
      · exact .inr (.inl ⟨p, ys, r, y, rfl, rfl, Same.seqT (hb_le _ _) (Same.seqT K' h), e, k y H' hy B' K'⟩)
      · refine .inr (.inr ?_)
        have h1 : r.toNat < z.cps.toList.length := by rw [List.length_map] at r1; omega
        have e2 : atI z.cps.toList r = some z.cps.toList[r.toNat] := at_ofN (j := r.toNat) (by omega) (List.getElem?_eq_getElem h1)
        refine ⟨z, r, _, rfl, rfl, Nat.le_trans hz (by decide), e2, k _ H' ?_ B' K'⟩
        exact List.mem_map.mpr ⟨_, List.getElem_mem h1, rfl⟩
theorem ok__law_bag (T : Txt w K mg) : FnOk P w K mg base CX0 1 T.a__law_bag T.d__law_bag ["script"] (sp__law_bag K) := by
  refine T.F__law_bag.ok sc__law_bag (fun vs H Q E h => ?_) (fun cdv A outer s H vs Q E hr h => ?_)
  · obtain ⟨a, ns, rfl, _⟩ := h
    rfl
  · obtain ⟨a, ns, rfl, hS, hl, k⟩ := h
    refine ⟨_, (pss_cons (ps_set (i := 1) sc__law_bag.nd rfl (Or.inl rfl) pe_int)
      (pss_cons (ps_for PassesOwn.never rfl (pi_list (pe_slice sl_listU (pv 0) po_none (po_some pe_int))) (pg_name (i := 2) sc__law_bag.nd rfl (Or.inl rfl)) (pss_one (ps_set (i := 1) sc__law_bag.nd rfl (Or.inl rfl) (pe_op op_mod (pe_callTy call_intI (by rfl) T.n_int (by decide +kernel) (pa_cons (pe_op op_add (pe_op op_add (pe_op op_mul (pv 1) pe_int) (pe_op op_mod (pe_callTy call_intI (by rfl) T.n_int (by decide +kernel) (pa_cons (pv 2) pa_nil)) pe_int)) pe_int) pa_nil)) pe_int))))
      (pss_one (ps_ret (pe_lstU (pa_cons (pe_callTy call_listU (by rfl) T.n_list (by decide +kernel) (pa_cons (pe_slice sl_listU (pv 0) po_none (po_some pe_int)) pa_nil)) (pa_cons pe_int (pa_cons pe_int (pa_cons (pv 1) (pa_cons pe_int pa_nil)))))))))), ?_⟩
    refine seq_op fun N hN => ?_
    walk_at "rs"
    refine hN _ _ ?_
    clear hN N
    refine cut_seq (fun σ H2 => ∃ m x, σ = [some (.ref a), some (.int m), x] ∧ 0 ≤ m ∧ m < 2147483579 ∧ Same H H2) (fun N hN => ?_) ?_
    · refine ⟨_, rfl, _, rfl, a, _, rfl, hS, fun p H1 s1 h0 h1 => ?_⟩
      refine ⟨p, rfl, ⟨_, SqL.of h1⟩, for_list (K := K) (a := p) (xs := cutV (ns.map V.int) none (some 63)) (fun i σ H2 => ∃ m x, σ = [some (.ref a), some (.int m), x] ∧ 0 ≤ m ∧ m < 2147483579 ∧ Same H1 H2) ⟨_, _, rfl, by decide, by decide, Same.refl _⟩ (fun i σ H2 _ ⟨_, _, _, _, _, s2⟩ => SqL.of (s2 _ _ h1)) ?_ ?_⟩
      · rintro i y σ H2 hi ⟨m, x, rfl, m0, m1, s2⟩
        obtain ⟨u, rfl⟩ : ∃ u, y = V.int u := by
          have q := List.mem_of_getElem? hi
          have q2 : y ∈ (ns.map V.int).take 63 := (cutV_take (ns.map V.int) 63) ▸ q
          obtain ⟨u, _, rfl⟩ := List.mem_map.mp (List.mem_of_mem_take q2)
          exact ⟨u, rfl⟩
        walk_at "rs"
        refine ⟨.inr (by decide), by decide, by decide, _, _, ⟨rfl, rfl⟩, ?_⟩
        exact ⟨Int.emod_nonneg _ (by decide), Int.emod_lt_of_pos _ (by decide), s2⟩
      · rintro σ H2 ⟨m, x, rfl, m0, m1, s2⟩
        exact hN _ _ ⟨m, x, rfl, m0, m1, Same.trans s1 s2⟩
    · rintro σ H2 ⟨m, x, rfl, m0, m1, s2⟩
      walk_at "rs"
      refine ⟨_, Same.seq s2 hS, fun p H3 s3 h30 h3 => ⟨_, .inl (SqL.of h3), fun l H4 s4 h40 h4 => ⟨by decide, fun q H5 s5 h50 h5 => ?_⟩⟩⟩
      have e : cutV (ns.map V.int) none (some 63) = ns.map V.int := by
        refine (cutV_take (ns.map V.int) 63).trans ?_
        rw [List.take_of_length_le (by simpa using hl)]
      rw [e] at h4
      have s25 : Same H2 H5 := Same.trans s3 (Same.trans s4 s5)
      refine k q l H5 (Same.trans s2 s25) ⟨ns, 0, 0, m, 0, h5, s5 _ _ h4, fun z => ?_, Int.le_refl _, m0, m1⟩ ?_
      · rw [z, h50] at h4; cases h4
      · exact Same.dom s2 q (Same.dom s3 q (Same.dom s4 q h50))
end
end LK

set_option Elab.async false
set_option linter.all false
set_option maxRecDepth 100000
namespace LK
open PySem PySem.Spec PyProof.Rows L2
local macro_rules | `(tactic| walk_at "rs") => `(tactic| simp only [cxK, cxNK, tCallZ, tAsg, tOp, rI0, rS0, rB0, rI, rU, tUn, rEq, rNe, rIxL, rIxT, rIxS, rSetL, rSlLU, rSlS, rSlU, rCatL, rCatU, rRepL, rIn, tVar, tC, gName, gSub, tIfS, tTest, tB, tAnd, tOr, tNot, tNotV, tAndV, tOrV, tIf, tCall, tCons, tNil, tCB, tDrop, tRet, tRetN, tNext, tLstU, tTupU, tM0, tM1, tPar, tBM, tBM0, rAppend, rPop, tBreak, tCont, tChain, tSl, tPart, tNoPart, L2.start, List.map, List.length_cons, List.length_nil, List.replicate, List.cons_append, List.nil_append, List.append_nil, List.getElem?_cons_zero, List.getElem?_cons_succ, List.set_cons_zero, List.set_cons_succ, Option.some.injEq, V.int.injEq, V.ref.injEq, V.str.injEq, V.bl.injEq, exists_eq_left', exists_eq_left, exists_and_left, decide_eq_true_eq, List.cons.injEq, and_true, true_and, scal, Bool.not_eq_true', decide_eq_false_iff_not, Nat.zero_add, Nat.reduceAdd, Nat.reduceSub, reduceCtorEq, false_and, exists_false, false_or, or_false, CPow, CMul, CDiv, Int.reduceToNat, ↓reduceIte, wipe])
local macro_rules | `(tactic| walk_at "st") => `(tactic| (refine seq_op fun N hN => ?_; walk_at "rs"))
local macro_rules | `(tactic| walk_at "sd") => `(tactic| first | assumption | decide | omega)
local macro_rules | `(tactic| walk_at "rd") => `(tactic| repeat (first
  | refine ⟨_, SqL.of (by assumption), ?_⟩ | refine ⟨_, SqL.of upd_same, ?_⟩ | refine ⟨_, .inl (SqL.of (by assumption)), ?_⟩ | refine ⟨_, (by assumption : _ = some (HO.lst _)), ?_⟩ | refine ⟨_, upd_same, ?_⟩
  | refine ⟨_, rfl, ?_⟩ | refine And.intro (by walk_at "sd") ?_))

theorem FIG_digit {c : Nat} (h : inS c FIGs = true) : 48 ≤ c ∧ c ≤ 57 := by
  have q : c ∈ FIGs.cps.toList := of_decide_eq_true h
  have e : FIGs.cps.toList = [48, 49, 50, 51, 52, 53, 54, 55, 56, 57] := by decide +kernel
  rw [e] at q
  simp only [List.mem_cons, List.mem_nil_iff, or_false] at q
  omega
theorem digitsVal_lt : ∀ (cs : List Nat) (a : Nat), NumText.AllDigits cs → cs.foldl (fun acc c => acc * 10 + (c - 48)) a < (a + 1) * 10 ^ cs.length
  | [], a, _ => by simp
  | c :: cs, a, h => by
    have hc := h.head
    have ih := digitsVal_lt cs (a * 10 + (c - 48)) h.tail
    show cs.foldl _ (a * 10 + (c - 48)) < _
    refine Nat.lt_of_lt_of_le ih ?_
    rw [List.length_cons, Nat.pow_succ, ← Nat.mul_assoc, Nat.mul_right_comm]
    exact Nat.mul_le_mul_right _ (by omega)
theorem log_small {n : Nat} (h : n < 10 ^ 60) : n.log2 < 1920 := by
  by_cases c : n = 0
  · subst c; decide
  · exact (Nat.log2_lt c).mpr (Nat.lt_of_lt_of_le h (by decide +kernel))
theorem int_figures {z : Str} (h1 : 1 ≤ (figures z).length ∧ (figures z).length ≤ 60) (h2 : ((figures z).cps.toList.all fun c => inS c FIGs) = true) (hz : z.length ≤ 100000) : ∃ n, intText? z = some n ∧ n.natAbs.log2 < 1920 ∧ z.length ≤ 640 := by
  have ad : NumText.AllDigits (figures z).cps.toList := fun c hc => FIG_digit (List.all_eq_true.mp h2 c hc)
  have ne : (figures z).cps.toList ≠ [] := fun e => by
    have l : (figures z).length = (figures z).cps.toList.length := by rw [Array.length_toList]; rfl
    rw [e] at l
    have := h1.1
    simp at l
    omega
  have lf : (figures z).cps.toList.length ≤ 60 := by rw [Array.length_toList]; exact h1.2
  have vl := digitsVal_lt (figures z).cps.toList 0 ad
  have vs : NumText.digitsVal (figures z).cps.toList < 10 ^ 60 := Nat.lt_of_lt_of_le vl (by rw [Nat.zero_add, Nat.one_mul]; exact Nat.pow_le_pow_right (by decide) lf)
  by_cases c : Txt.startswith z "-" = true
  · have e : figures z = cutS z (some 1) none := if_pos c
    obtain ⟨r, hr⟩ := starts_minus c
    have er : (figures z).cps.toList = r := by rw [e, cutS_tail, hr]; rfl
    rw [er] at ad ne vs lf
    have lz : z.length ≤ 61 := by rw [← len_cps, hr, List.length_cons]; omega
    refine ⟨_, intText_neg hr ad ne (by omega), ?_, by omega⟩
    rw [Int.natAbs_neg, Int.natAbs_natCast]
    exact log_small vs
  · have e : figures z = z := if_neg c
    rw [e] at ad ne vs h1
    refine ⟨_, intText_digits ad ne (by have := h1.2; omega), ?_, by have := h1.2; omega⟩
    rw [Int.natAbs_natCast]
    exact log_small vs
section
variable {P : Program} {w : World} {K : PySem.W.Frag} {mg : Str → Option Value} {base : Heap}
theorem ok_read_number (T : Txt w K mg) : FnOk P w K mg base CX0 1 T.a_read_number T.d_read_number ["word"] sp_read_number := by
  refine T.F_read_number.ok sc_read_number (fun vs H Q E h => ?_) (fun cdv A outer s H vs Q E hr h => ?_)
  · obtain ⟨z, rfl, _⟩ := h
    rfl
  · obtain ⟨z, rfl, hz, k⟩ := h
    refine ⟨_, (pss_cons (ps_set (i := 1) sc_read_number.nd rfl (Or.inl rfl) (pe_ifExp (pt_val (pe_m1 PySem.F.slot_str_startswith PySem.F.type_str_startswith mt_startswith (pv 0) pe_str)) (pe_slice sl_str (pv 0) (po_some pe_int) po_none) (pv 0)))
      (pss_cons (ps_if (PW.pt (pw_or (pt_not (pt_chain op_le op_le pe_int (pe_callB call_len_str (by rfl) T.n_len (by decide +kernel) (pa_cons (pv 1) pa_nil)) pe_int)) (pw_or1 (pt_not (pt_val (pe_callB (cr_all rfl) (by rfl) T.n_all (by decide +kernel) (pa_cons (pe_lc (own := [("sign", 3)]) (g := gName 3) (tt := tYes) rfl sc_read_number.nd (pi_str (pv 1)) (blkOk_by (own := [("sign", 3)]) (N := N_read_number) (sc := defScope s_read_number) (by decide +kernel)) (fun _ _ _ _ _ => pg_name (i := 3) sc_read_number.nd rfl (Or.inl rfl)) (fun _ _ _ _ _ => pts_nil) (fun _ _ _ _ _ => (pe_cmpR op_in_sign (pv 3) (pe_glob (v := .str FIGs) (by rfl) T.m_FIGURES ⟨_, rfl⟩) (by rfl)))) pa_nil))))))) (pss_one (ps_ret pe_non)) pss_nil)
      (pss_cons (ps_set (i := 2) sc_read_number.nd rfl (Or.inl rfl) (pe_callTy call_int_str (by rfl) T.n_int (by decide +kernel) (pa_cons (pv 0) pa_nil)))
      (pss_one (ps_ret (pe_ifExp (pt_cmpR op_eqS (pe_callTy call_str_int (by rfl) T.n_str (by decide +kernel) (pa_cons (pv 2) pa_nil)) (pv 0) (nomark _)) (pv 2) pe_non)))))), ?_⟩
    have hf : (figures z).length ≤ 100000 := by
      unfold figures
      split
      · refine Nat.le_trans ?_ hz
        unfold cutS
        show (List.toArray _).size ≤ _
        rw [List.size_toArray, List.length_take, List.length_drop, Array.length_toList]
        show _ ≤ z.cps.size
        omega
      · exact hz
    refine cut_seq (fun σ H2 => H2 = H ∧ σ = [some (.str z), some (.str (figures z)), none, none]) (fun N hN => ?_) ?_
    · walk_at "rs"
      refine ⟨⟨_, rfl⟩, ite2 (fun c => ⟨Nat.le_trans hz (by decide), ?_⟩) (fun c => ?_)⟩
      · exact hN _ _ ⟨rfl, by rw [figures, if_pos c]⟩
      · exact hN _ _ ⟨rfl, by rw [figures, if_neg c]⟩
    · rintro σ H2 ⟨rfl, rfl⟩
      refine cut_seq (fun σ H3 => Same H2 H3 ∧ σ = [some (.str z), some (.str (figures z)), none, none] ∧ (1 ≤ (figures z).length ∧ (figures z).length ≤ 60) ∧ ((figures z).cps.toList.all fun c => inS c FIGs) = true) (fun N hN => ?_) ?_
      · walk_at "rs"
        refine ⟨Nat.le_trans hf (by decide), ite2 (fun c1 => ite2 (fun c2 => ?_) (fun c2 => ?_)) (fun c1 => ?_)⟩
        · have := k H2 (Same.refl _)
          rw [readNum, if_neg (by omega)] at this
          exact this
        · refine ⟨_, rfl, _, rfl, fun D hD => lc_signs (z := figures z) (fun c => inS c FIGs) hD (by omega) ?_ ?_⟩
          · intro c H3 hc s3 Q2 h2
            walk_at "rs"
            exact ⟨c, rfl, h2 H3 (Same.refl _)⟩
          · intro H3 s3 hD3
            refine ⟨D, _, rfl, SqL.of hD3, _, rfl, ?_⟩
            rw [all_map_id]
            refine ite2 (fun e => ?_) (fun e => ?_)
            · have := k H3 s3
              rw [readNum, if_neg (by rw [e]; simp)] at this
              exact this
            · exact hN _ _ ⟨s3, rfl, ⟨by omega, by omega⟩, by simpa using e⟩
        · have := k H2 (Same.refl _)
          rw [readNum, if_neg (by omega)] at this
          exact this
      · rintro σ H3 ⟨s3, rfl, h1, h2⟩
        obtain ⟨n, e1, e2, e3⟩ := int_figures h1 h2 hz
        refine seq_op fun N hN => ?_
        walk_at "rs"
        refine ⟨_, e1, e3, hN _ _ ?_⟩
        clear hN N
        walk_at "rs"
        have := k H3 s3
        rw [readNum, if_pos ⟨h1, h2⟩, e1] at this
        refine ⟨e2, ite2 (fun e => ?_) (fun e => ?_)⟩
        · simp only [if_pos e] at this
          exact this
        · simp only [if_neg e] at this
          exact this
theorem ok_is_word_name (T : Txt w K mg) : FnOk P w K mg base CX0 1 T.a_is_word_name T.d_is_word_name ["value"] (spP K fun d => .bl (isWordD d)) := by
  refine T.F_is_word_name.ok sc_is_word_name (fun vs H Q E h => ?_) (fun cdv A outer s H vs Q E hr h => ?_)
  · obtain ⟨v, d, rfl, _⟩ := h
    rfl
  · obtain ⟨v, d, rfl, hd, hok, k⟩ := h
    replace k : ∀ H', Same H H' → Q (.bl (isWordD d)) H' := k
    refine ⟨_, (pss_cons (ps_if (PW.pt (pw_or (pt_not (pt_val (pe_callB (call_isiDK (K := K) rfl) (by rfl) T.n_isinstance (by decide +kernel) (pa_cons (pv 0) (pa_cons (pe_bltn (v := .ty "str") (u := .type "str") (by rfl) T.n_str (by decide +kernel) rfl) pa_nil))))) (pw_or1 (pt_not (pt_chain op_le op_le pe_int (pe_callB call_len_str (by rfl) T.n_len (by decide +kernel) (pa_cons (pv 0) pa_nil)) pe_int))))) (pss_one (ps_ret pe_bl)) pss_nil)
      (pss_one (ps_ret (pe_and (pe_cmpR op_in_sign (pe_ix ix_str (pv 0) pe_int (fun _ _ => rfl)) (pe_glob (v := .str LETs) (by rfl) T.m_LETTERS ⟨_, rfl⟩) (by rfl)) (pe_one (pe_callB (cr_all rfl) (by rfl) T.n_all (by decide +kernel) (pa_cons (pe_lc (own := [("sign", 1)]) (g := gName 1) (tt := tYes) rfl sc_is_word_name.nd (pi_str (pv 0)) (blkOk_by (own := [("sign", 1)]) (N := N_is_word_name) (sc := defScope s_is_word_name) (by decide +kernel)) (fun _ _ _ _ _ => pg_name (i := 1) sc_is_word_name.nd rfl (Or.inl rfl)) (fun _ _ _ _ _ => pts_nil) (fun _ _ _ _ _ => (pe_or (pe_cmpR op_in_sign (pv 1) (pe_glob (v := .str LETs) (by rfl) T.m_LETTERS ⟨_, rfl⟩) (by rfl)) (pe_one (pe_cmpR op_in_sign (pv 1) (pe_glob (v := .str FIGs) (by rfl) T.m_FIGURES ⟨_, rfl⟩) (by rfl)))))) pa_nil))))))), ?_⟩
    refine seq_op fun N hN => ?_
    walk_at "rs"
    refine ⟨v, "str", ⟨rfl, rfl⟩, d, hd, by simp, ?_⟩
    have k0 := k H (Same.refl _)
    cases hd with
    | str z =>
      have hz : z.length ≤ 100000 := of_decide_eq_true hok
      have lz := len_cps z
      refine iteFF (by simp [isTy]) ⟨z, rfl, Nat.le_trans hz (by decide), ite2 (fun c1 => ite2 (fun c2 => ?_) (fun c2 => ?_)) (fun c1 => ?_)⟩
      · have e : isWordS z = false := by
          unfold isWordS
          split
          · rfl
          · rw [decide_eq_false (by omega), Bool.false_and]
        show Q (.bl false) H
        rw [← e]; exact k0
      · refine hN _ _ ?_
        clear hN N
        obtain ⟨c, r, ec⟩ : ∃ c r, z.cps.toList = c :: r := by
          cases hc : z.cps.toList with
          | nil => rw [hc] at lz; simp at lz; omega
          | cons c r => exact ⟨c, r, rfl⟩
        have e : isWordS z = (inS c LETs && (c :: r).all fun c => inS c LETs || inS c FIGs) := by
          unfold isWordS
          rw [ec]
          show (decide (z.length ≤ 6) && _) = _
          rw [decide_eq_true (by omega), Bool.true_and]
        walk_at "rs"
        refine ⟨Nat.le_trans hz (by decide), c, at_ofN (j := 0) rfl (by rw [ec]; rfl), c, rfl, ite2 (fun e1 => ?_) (fun e1 => ?_)⟩
        · refine ⟨_, rfl, _, rfl, fun D hD => lc_signs (z := z) (fun c => inS c LETs || inS c FIGs) hD (by omega) ?_ ?_⟩
          · intro c H3 hc s3 Q2 h2
            walk_at "rs"
            refine ⟨c, rfl, ite2 (fun e2 => ?_) (fun e2 => ⟨c, rfl, ?_⟩)⟩
            · have := h2 H3 (Same.refl _)
              have q : inS c LETs = true := decide_eq_true e2
              rw [q, Bool.true_or] at this
              exact this
            · have := h2 H3 (Same.refl _)
              have q : inS c LETs = false := decide_eq_false e2
              rw [q, Bool.false_or] at this
              exact this
          · intro H3 s3 hD3
            refine ⟨D, _, rfl, SqL.of hD3, ?_⟩
            rw [all_map_id]
            have := k H3 s3
            have q : isWordD (.str z) = ((c :: r).all fun c => inS c LETs || inS c FIGs) := by
              show isWordS z = _
              rw [e, show inS c LETs = true from decide_eq_true e1, Bool.true_and]
            rw [q, ← ec] at this
            exact this
        · have q : isWordD (.str z) = false := by
            show isWordS z = _
            rw [e, show inS c LETs = false from decide_eq_false e1, Bool.false_and]
          rw [q] at k0
          exact k0
      · have e : isWordS z = false := by
          unfold isWordS
          split
          · rfl
          · rename_i c r ec
            rw [ec] at lz
            simp at lz
            omega
        show Q (.bl false) H
        rw [← e]; exact k0
    | non => exact iteTT (by simp [isTy]) k0
    | bl b => exact iteTT (by simp [isTy]) k0
    | int i => exact iteTT (by simp [isTy]) k0
    | lst hs ha => exact iteTT (by simp [isTy]) k0
    | tup hs ha => exact iteTT (by simp [isTy]) k0
theorem ok_is_own_name (T : Txt w K mg) : FnOk P w K mg base CX0 2 T.a_is_own_name T.d_is_own_name ["value"] (spP K fun d => .bl (isOwnD d)) := by
  refine T.F_is_own_name.ok sc_is_own_name (fun vs H Q E h => ?_) (fun cdv A outer s H vs Q E hr h => ?_)
  · obtain ⟨v, d, rfl, _⟩ := h
    rfl
  · obtain ⟨v, d, rfl, hd, hok, k⟩ := h
    replace k : ∀ H', Same H H' → Q (.bl (isOwnD d)) H' := k
    have hr_is_word_name : Room 1 _ := hr.mono (by decide)
    have G_is_word_name := ok_is_word_name (P := P) (base := base) T
    refine ⟨_, (pss_one (ps_ret (pe_and (pe_call G_is_word_name hr_is_word_name (by rfl) T.m_is_word_name T.F_is_word_name.kp T.B_is_word_name .nil pass0 (pa_cons (pv 0) pa_nil)) (pe_one (pe_cmpR op_notIn_seq (pv 0) (pe_glob (v := .ref T.a_RESERVED) (by rfl) T.m_RESERVED rfl) (by rfl)))))), ?_⟩
    walk_at "rs"
    refine ⟨v, d, rfl, hd, hok, fun H1 s1 => ⟨_, rfl, ite2 (fun e => ?_) (fun e => ?_)⟩⟩
    · obtain ⟨z, rfl⟩ : ∃ z, d = .str z := by cases d <;> first | exact ⟨_, rfl⟩ | simp [isWordD] at e
      cases hd
      refine ⟨keptV, .inr (T.s_RESERVED _), rfl, by decide +kernel, ?_⟩
      have q : isOwnD (.str z) = !inV (.str z) keptV := by
        show (isWordS z && _) = _
        rw [show isWordS z = true from e, Bool.true_and]
      have := k H1 s1
      rw [q] at this
      exact this
    · have q : isOwnD d = false := by
        cases d <;> try rfl
        show (isWordS _ && _) = _
        rw [show isWordS _ = false from by simpa [isWordD] using e, Bool.false_and]
      have := k H1 s1
      rw [q] at this
      exact this
theorem ok_is_name (T : Txt w K mg) : FnOk P w K mg base CX0 3 T.a_is_name T.d_is_name ["value"] (spP K fun d => .bl (isNameD d)) := by
  refine T.F_is_name.ok sc_is_name (fun vs H Q E h => ?_) (fun cdv A outer s H vs Q E hr h => ?_)
  · obtain ⟨v, d, rfl, _⟩ := h
    rfl
  · obtain ⟨v, d, rfl, hd, hok, k⟩ := h
    replace k : ∀ H', Same H H' → Q (.bl (isNameD d)) H' := k
    have hr_is_own_name : Room 2 _ := hr.mono (by decide)
    have G_is_own_name := ok_is_own_name (P := P) (base := base) T
    refine ⟨_, (pss_one (ps_ret (pe_or (pe_call G_is_own_name hr_is_own_name (by rfl) T.m_is_own_name T.F_is_own_name.kp T.B_is_own_name .nil pass0 (pa_cons (pv 0) pa_nil)) (pe_one (pe_and (pe_callB (call_isiDK (K := K) rfl) (by rfl) T.n_isinstance (by decide +kernel) (pa_cons (pv 0) (pa_cons (pe_bltn (v := .ty "str") (u := .type "str") (by rfl) T.n_str (by decide +kernel) rfl) pa_nil))) (pe_one (pe_cmpR op_in_seq (pv 0) (pe_glob (v := .ref T.a_GIVEN) (by rfl) T.m_GIVEN rfl) (by rfl)))))))), ?_⟩
    walk_at "rs"
    refine ⟨v, d, rfl, hd, hok, fun H1 s1 => ⟨_, rfl, ite2 (fun e => ?_) (fun e => ?_)⟩⟩
    · obtain ⟨z, rfl⟩ : ∃ z, d = .str z := by cases d <;> first | exact ⟨_, rfl⟩ | simp [isOwnD] at e
      have := k H1 s1
      rw [show isNameD (.str z) = true from by show (isOwnD (.str z) || _) = true; rw [e, Bool.true_or]] at this
      exact this
    · refine ⟨v, "str", ⟨rfl, rfl⟩, d, dp_same s1 hd, by simp, ?_⟩
      have k1 := k H1 s1
      cases hd with
      | str z =>
        refine iteTT (by simp [isTy]) ⟨givenV, .inr (T.s_GIVEN _), rfl, by decide +kernel, ?_⟩
        rw [show isNameD (.str z) = inV (.str z) givenV from by show (isOwnD (.str z) || _) = _; rw [show isOwnD (.str z) = false from by simpa using e, Bool.false_or]] at k1
        exact k1
      | non => exact iteFF (by simp [isTy]) k1
      | bl b => exact iteFF (by simp [isTy]) k1
      | int i => exact iteFF (by simp [isTy]) k1
      | lst hs ha => exact iteFF (by simp [isTy]) k1
      | tup hs ha => exact iteFF (by simp [isTy]) k1
theorem ok_is_integer_word (T : Txt w K mg) : FnOk P w K mg base CX0 2 T.a_is_integer_word T.d_is_integer_word ["word", "least", "greatest"] sp_is_integer_word := by
  refine T.F_is_integer_word.ok sc_is_integer_word (fun vs H Q E h => ?_) (fun cdv A outer s H vs Q E hr h => ?_)
  · obtain ⟨z, a, b, rfl, _⟩ := h
    rfl
  · obtain ⟨z, a, b, rfl, hz, k⟩ := h
    have hr_read_number : Room 1 _ := hr.mono (by decide)
    have G_read_number := ok_read_number (P := P) (base := base) T
    refine ⟨_, (pss_cons (ps_set (i := 3) sc_is_integer_word.nd rfl (Or.inl rfl) (pe_call G_read_number hr_read_number (by rfl) T.m_read_number T.F_read_number.kp T.B_read_number .nil pass0 (pa_cons (pv 0) pa_nil)))
      (pss_one (ps_ret (pe_and (pe_cmpR op_notN (pv 3) pe_non (nomark _)) (pe_one (pe_chain op_le op_le (pv 1) (pv 3) (pv 2))))))), ?_⟩
    refine seq_op fun N hN => ?_
    walk_at "rs"
    refine ⟨z, rfl, hz, fun H1 s1 => hN _ _ ?_⟩
    clear hN N
    have k1 := k H1 s1
    unfold isInt at k1
    walk_at "rs"
    cases e : readNum z with
    | none =>
      rw [e] at k1
      exact iteFF (by simp [optI]) k1
    | some n =>
      rw [e] at k1
      refine iteTT (by simp [optI]) ⟨n, rfl, ite2 (fun c => ⟨n, rfl, ?_⟩) (fun c => ?_)⟩
      · simp only [decide_eq_true c, Bool.true_and] at k1
        exact k1
      · simp only [decide_eq_false c, Bool.false_and] at k1
        exact k1
end
end LK

set_option Elab.async false
set_option linter.all false
set_option maxRecDepth 100000
namespace LK
open PySem PySem.Spec PyProof.Rows L2
local macro_rules | `(tactic| walk_at "rs") => `(tactic| simp only [cxK, cxNK, tCallZ, tAsg, tOp, rI0, rS0, rB0, rI, rU, tUn, rEq, rNe, rIxL, rIxT, rIxS, rSetL, rSlLU, rSlS, rSlU, rCatL, rCatU, rRepL, rIn, tVar, tC, gName, gSub, tIfS, tTest, tB, tAnd, tOr, tNot, tNotV, tAndV, tOrV, tIf, tCall, tCons, tNil, tCB, tDrop, tRet, tRetN, tNext, tLstU, tTupU, tM0, tM1, tPar, tBM, tBM0, rAppend, rPop, tBreak, tCont, tChain, tSl, tPart, tNoPart, L2.start, List.map, List.length_cons, List.length_nil, List.replicate, List.cons_append, List.nil_append, List.append_nil, List.getElem?_cons_zero, List.getElem?_cons_succ, List.set_cons_zero, List.set_cons_succ, Option.some.injEq, V.int.injEq, V.ref.injEq, V.str.injEq, V.bl.injEq, exists_eq_left', exists_eq_left, exists_and_left, decide_eq_true_eq, List.cons.injEq, and_true, true_and, scal, Bool.not_eq_true', decide_eq_false_iff_not, Nat.zero_add, Nat.reduceAdd, Nat.reduceSub, reduceCtorEq, false_and, exists_false, false_or, or_false, CPow, CMul, CDiv, Int.reduceToNat, ↓reduceIte, wipe])
local macro_rules | `(tactic| walk_at "st") => `(tactic| (refine seq_op fun N hN => ?_; walk_at "rs"))
local macro_rules | `(tactic| walk_at "sd") => `(tactic| first | assumption | decide | omega)
local macro_rules | `(tactic| walk_at "rd") => `(tactic| repeat (first
  | refine ⟨_, SqL.of (by assumption), ?_⟩ | refine ⟨_, SqL.of upd_same, ?_⟩ | refine ⟨_, .inl (SqL.of (by assumption)), ?_⟩ | refine ⟨_, (by assumption : _ = some (HO.lst _)), ?_⟩ | refine ⟨_, upd_same, ?_⟩
  | refine ⟨_, rfl, ?_⟩ | refine And.intro (by walk_at "sd") ?_))

section
variable {P : Program} {w : World} {K : PySem.W.Frag} {mg : Str → Option Value} {base : Heap}
theorem ok_operands_behind (T : Txt w K mg) : FnOk P w K mg base CX0 4 T.a_operands_behind T.d_operands_behind ["word", "kind"] (sp_operands_behind K) := by
  refine T.F_operands_behind.ok sc_operands_behind (fun vs H Q E h => ?_) (fun cdv A outer s H vs Q E hr h => ?_)
  · obtain ⟨v, d, k, rfl, _⟩ := h
    rfl
  · obtain ⟨v, d, kd, rfl, hd, hok, k⟩ := h
    have hr_is_name : Room 3 _ := hr.mono (by decide)
    have G_is_name := ok_is_name (P := P) (base := base) T
    have hr_is_integer_word : Room 2 _ := hr.mono (by decide)
    have G_is_integer_word := ok_is_integer_word (P := P) (base := base) T
    refine ⟨_, (pss_cons (ps_if (pt_not (pt_val (pe_callB (call_isiDK (K := K) rfl) (by rfl) T.n_isinstance (by decide +kernel) (pa_cons (pv 0) (pa_cons (pe_bltn (v := .ty "str") (u := .type "str") (by rfl) T.n_str (by decide +kernel) rfl) pa_nil))))) (pss_one (ps_ret pe_non)) pss_nil)
      (pss_cons (ps_if (pt_cmpR op_eqS (pv 1) pe_str (nomark _)) (pss_one (ps_ret (pe_ifExp (pt_val (pe_call G_is_integer_word hr_is_integer_word (by rfl) T.m_is_integer_word T.F_is_integer_word.kp T.B_is_integer_word .nil pass0 (pa_cons (pv 0) (pa_cons pe_int (pa_cons pe_int pa_nil))))) pe_str pe_non))) pss_nil)
      (pss_cons (ps_if (PW.pt (pw_or (pt_val (pe_call G_is_name hr_is_name (by rfl) T.m_is_name T.F_is_name.kp T.B_is_name .nil pass0 (pa_cons (pv 0) pa_nil))) (pw_or1 (pt_val (pe_call G_is_integer_word hr_is_integer_word (by rfl) T.m_is_integer_word T.F_is_integer_word.kp T.B_is_integer_word .nil pass0 (pa_cons (pv 0) (pa_cons (pe_un un_neg pe_int) (pa_cons pe_int pa_nil)))))))) (pss_one (ps_ret pe_str)) pss_nil)
      (pss_one (ps_ret (pe_wget T.D_OPERANDS (pe_glob (v := .ref T.a_OPERANDS) (by rfl) T.m_OPERANDS rfl) (pv 0))))))), ?_⟩
    have k0 := k H (Same.refl _)
    refine seq_op fun N hN => ?_
    walk_at "rs"
    refine ⟨v, "str", ⟨rfl, rfl⟩, d, hd, by simp, ?_⟩
    cases hd with
    | str z =>
      have hz : z.length ≤ 100000 := of_decide_eq_true hok
      refine iteFF (by simp [isTy]) (hN _ _ ?_)
      clear hN N
      refine seq_op fun N hN => ?_
      walk_at "rs"
      refine ite2 (fun e => ?_) (fun e => hN _ _ ?_)
      · refine ⟨z, 1, 9, rfl, hz, fun H1 s1 => ⟨_, rfl, ?_⟩⟩
        have k1 := k H1 s1
        simp only [opsBehind, if_pos e] at k1
        refine ite2 (fun c => ?_) (fun c => ?_)
        · rw [if_pos c] at k1; exact k1
        · rw [if_neg c] at k1; exact k1
      · clear hN N
        refine seq_op fun N hN => ?_
        walk_at "rs"
        refine ⟨_, _, rfl, .str z, hok, fun H1 s1 => ⟨_, rfl, ite2 (fun c => ?_) (fun c => ?_)⟩⟩
        · have k1 := k H1 s1
          simp only [opsBehind, if_neg e] at k1
          rw [if_pos (by rw [c, Bool.true_or])] at k1
          exact k1
        · refine ⟨z, -9, 9, rfl, hz, fun H2 s2 => ⟨_, rfl, ite2 (fun c2 => ?_) (fun c2 => hN _ _ ?_)⟩⟩
          · have k1 := k H2 (Same.trans s1 s2)
            simp only [opsBehind, if_neg e] at k1
            rw [if_pos (by rw [c2, Bool.or_true])] at k1
            exact k1
          · clear hN N
            obtain ⟨r, e1, e2⟩ := T.g_OPERANDS z
            have k1 := k H2 (Same.trans s1 s2)
            simp only [opsBehind, if_neg e] at k1
            rw [if_neg (by simp only [Bool.not_eq_true] at c c2; rw [c, c2]; simp)] at k1
            walk_at "rs"
            exact ⟨rfl, _, rfl, z, r, _, rfl, e1, e2, k1⟩
    | non => exact iteTT (by simp [isTy]) k0
    | bl b => exact iteTT (by simp [isTy]) k0
    | int i => exact iteTT (by simp [isTy]) k0
    | lst hs ha => exact iteTT (by simp [isTy]) k0
    | tup hs ha => exact iteTT (by simp [isTy]) k0
theorem lookup_mem2 {α β : Type} [BEq α] {k : α} {v : β} : ∀ {l : List (α × β)}, l.lookup k = some v → ∃ p ∈ l, p.2 = v
  | [], h => by simp at h
  | (a, b) :: r, h => by
    rw [List.lookup_cons] at h
    split at h
    · cases h; exact ⟨_, List.mem_cons_self, rfl⟩
    · obtain ⟨p, hp, e⟩ := lookup_mem2 h
      exact ⟨p, List.mem_cons_of_mem _ hp, e⟩
theorem isExpr_tup (ds : List PyData) : isExpr (.tuple ds) = (decide (1 ≤ ds.length) && decide (ds.length ≤ 30) && walkE "e" ds) := rfl
theorem walkE_cons (wd : Str) (d : PyData) (r : List PyData) : walkE wd (d :: r) = (if wd = "" then false else match opsBehind d (head1 wd) with
    | none => false
    | some o => walkE (o ++ cutS wd (some 1) none) r) := rfl
theorem opsOf_len {z o : Str} (h : opsOf z = some o) : o.length ≤ 3 := by
  have q : ∀ p ∈ opsTab, p.2.length ≤ 3 := by decide +kernel
  have m : ∃ p ∈ opsTab, p.2 = o := by
    unfold opsOf at h
    exact lookup_mem2 h
  obtain ⟨p, hp, rfl⟩ := m
  exact q p hp
theorem opsBehind_len {d : PyData} {k o : Str} (h : opsBehind d k = some o) : o.length ≤ 3 := by
  unfold opsBehind at h
  split at h
  · split at h
    · split at h
      · cases h; decide
      · cases h
    · split at h
      · cases h; decide
      · exact opsOf_len h
  · cases h
theorem dpa_get {H : Hp} : ∀ {vs : List V} {ds : List PyData} {i : Nat} {v : V}, DpAll K H vs ds → vs[i]? = some v → ∃ d, ds[i]? = some d ∧ Dp K H v d
  | _, _, _, _, .nil, e => by simp at e
  | _, _, 0, _, .cons r _, e => by simp at e; subst e; exact ⟨_, rfl, r⟩
  | _, _, i + 1, _, .cons _ t, e => by
    obtain ⟨d, h1, h2⟩ := dpa_get (i := i) t (by simpa using e)
    exact ⟨d, by simpa using h1, h2⟩
theorem dpa_len {H : Hp} : ∀ {vs : List V} {ds : List PyData}, DpAll K H vs ds → vs.length = ds.length
  | _, _, .nil => rfl
  | _, _, .cons _ t => by simp [dpa_len t]
theorem ok_get : ∀ {ds : List PyData} {i : Nat} {d : PyData}, okAll ds = true → ds[i]? = some d → okD d = true
  | [], _, _, _, e => by simp at e
  | a :: r, 0, _, h, e => by
    simp at e; subst e
    unfold okAll at h; rw [Bool.and_eq_true] at h; exact h.1
  | a :: r, i + 1, _, h, e => by
    unfold okAll at h; rw [Bool.and_eq_true] at h
    exact ok_get (i := i) h.2 (by simpa using e)
theorem ok_is_expression (T : Txt w K mg) : FnOk P w K mg base CX0 5 T.a_is_expression T.d_is_expression ["value"] (spP K fun d => .bl (isExpr d)) := by
  refine T.F_is_expression.ok sc_is_expression (fun vs H Q E h => ?_) (fun cdv A outer s H vs Q E hr h => ?_)
  · obtain ⟨v, d, rfl, _⟩ := h
    rfl
  · obtain ⟨v, d, rfl, hd, hok, k⟩ := h
    replace k : ∀ H', Same H H' → Q (.bl (isExpr d)) H' := k
    have hr_operands_behind : Room 4 _ := hr.mono (by decide)
    have G_operands_behind := ok_operands_behind (P := P) (base := base) T
    refine ⟨_, (pss_cons (ps_if (PW.pt (pw_or (pt_not (pt_val (pe_callB (call_isiDK (K := K) rfl) (by rfl) T.n_isinstance (by decide +kernel) (pa_cons (pv 0) (pa_cons (pe_bltn (v := .ty "tuple") (u := .type "tuple") (by rfl) T.n_tuple (by decide +kernel) rfl) pa_nil))))) (pw_or1 (pt_not (pt_chain op_le op_le pe_int (pe_callB call_len_seq (by rfl) T.n_len (by decide +kernel) (pa_cons (pv 0) pa_nil)) (pe_glob (v := .int 30) (by rfl) T.m_MOST_WORDS ⟨_, rfl⟩)))))) (pss_one (ps_ret pe_bl)) pss_nil)
      (pss_cons (ps_set (i := 1) sc_is_expression.nd rfl (Or.inl rfl) pe_str)
      (pss_cons (ps_for PassesOwn.never rfl (pi_tup (pv 0)) (pg_name (i := 2) sc_is_expression.nd rfl (Or.inl rfl)) (pss_cons (ps_if (pt_cmpR op_eqS (pv 1) pe_str (nomark _)) (pss_one (ps_ret pe_bl)) pss_nil)
      (pss_cons (ps_set (i := 3) sc_is_expression.nd rfl (Or.inl rfl) (pe_call G_operands_behind hr_operands_behind (by rfl) T.m_operands_behind T.F_operands_behind.kp T.B_operands_behind .nil pass0 (pa_cons (pv 2) (pa_cons (pe_ix ix_str (pv 1) pe_int (fun _ _ => rfl)) pa_nil))))
      (pss_cons (ps_if (pt_cmpR op_isN (pv 3) pe_non (nomark _)) (pss_one (ps_ret pe_bl)) pss_nil)
      (pss_one (ps_set (i := 1) sc_is_expression.nd rfl (Or.inl rfl) (pe_op op_add_str (pv 3) (pe_slice sl_str (pv 1) (po_some pe_int) po_none))))))))
      (pss_one (ps_ret (pe_cmpR op_eqS (pv 1) pe_str (nomark _))))))), ?_⟩
    have k0 := k H (Same.refl _)
    refine seq_op fun N hN => ?_
    walk_at "rs"
    refine ⟨v, "tuple", ⟨rfl, rfl⟩, d, hd, by simp, ?_⟩
    cases hd with
    | @tup a xs ds hs ha =>
      have hl := dpa_len ha
      refine iteFF (by simp [isTy]) ⟨a, rfl, xs, .inr hs, ite2 (fun c1 => ite2 (fun c2 => ?_) (fun c2 => hN _ _ ?_)) (fun c1 => ?_)⟩
      · have e : isExpr (.tuple ds) = false := by
          rw [isExpr_tup]
          rw [decide_eq_false (p := ds.length ≤ 30) (by omega), Bool.and_false, Bool.false_and]
        rw [e] at k0; exact k0
      · clear hN N
        have e : isExpr (.tuple ds) = walkE "e" ds := by
          rw [isExpr_tup]
          rw [decide_eq_true (p := 1 ≤ ds.length) (by omega), decide_eq_true (p := ds.length ≤ 30) (by omega), Bool.true_and, Bool.true_and]
        rw [e] at k
        clear k0 e
        refine seq_op fun N hN => ?_
        walk_at "rs"
        refine hN _ _ ?_
        clear hN N
        have oka : okAll ds = true := (okD_tup.mp hok).2
        refine cut_seq (fun σ H2 => ∃ (wd : Str) (x y : Option V), σ = [some (.ref a), some (.str wd), x, y] ∧ walkE wd [] = walkE "e" ds ∧ Same H H2) (fun N hN => ?_) ?_
        · refine ⟨_, rfl, a, rfl, ⟨_, hs⟩, for_tup (K := K) (a := a) (xs := xs) (fun i σ H2 => ∃ (wd : Str) (x y : Option V), σ = [some (.ref a), some (.str wd), x, y] ∧ walkE wd (ds.drop i) = walkE "e" ds ∧ wd.length ≤ 1 + 3 * i ∧ Same H H2) ⟨_, none, none, rfl, rfl, by decide, Same.refl _⟩ (fun i σ H2 _ ⟨_, _, _, _, _, _, s2⟩ => Same.seqT s2 hs) ?_ ?_⟩
          · rintro i y σ H2 hi ⟨wd, x, y2, rfl, hw, hwl, s2⟩
            obtain ⟨d, hd, hv⟩ := dpa_get ha hi
            have hdk := ok_get oka hd
            have hil : i < ds.length := (List.getElem?_eq_some_iff.mp hd).1
            have ed : ds.drop i = d :: ds.drop (i + 1) := by
              rw [List.drop_eq_getElem_cons hil]
              rw [(List.getElem?_eq_some_iff.mp hd).2]
            rw [ed] at hw
            have k2 := fun H' (s : Same H2 H') => k H' (Same.trans s2 s)
            refine seq_op fun N2 hN2 => ?_
            walk_at "rs"
            refine ite2 (fun c => ?_) (fun c => hN2 _ _ ?_)
            · have := k2 H2 (Same.refl _)
              rw [← hw] at this
              subst c
              exact this
            · clear hN2 N2
              refine seq_op fun N2 hN2 => ?_
              walk_at "rs"
              have wl : 1 ≤ wd.cps.toList.length := by
                rcases Nat.eq_zero_or_pos wd.cps.toList.length with q | q
                · exact absurd (PyProof.Rows.ext_toList (by rw [List.eq_nil_of_length_eq_zero q]; rfl)) c
                · exact q
              obtain ⟨ch, cr, ec⟩ : ∃ ch cr, wd.cps.toList = ch :: cr := by
                cases hc : wd.cps.toList with
                | nil => rw [hc] at wl; simp at wl
                | cons ch cr => exact ⟨ch, cr, rfl⟩
              have eh : head1 wd = ⟨#[ch]⟩ := by unfold head1; rw [ec]; rfl
              have hl30 : ds.length ≤ 30 := by omega
              have big : wd.length ≤ 100 := by omega
              refine ⟨Nat.le_trans big (by decide), ch, at_ofN (j := 0) rfl (by rw [ec]; rfl), _, d, _, rfl, dp_same s2 hv, hdk, fun H3 s3 => hN2 _ _ ?_⟩
              clear hN2 N2
              rw [walkE_cons, if_neg c, eh] at hw
              have k3 := k2 H3 s3
              cases eo : opsBehind d ⟨#[ch]⟩ with
              | none =>
                rw [eo] at hw
                refine seq_op fun N2 hN2 => ?_
                walk_at "rs"
                rw [← hw] at k3
                exact k3
              | some o =>
                rw [eo] at hw
                have ol := opsBehind_len eo
                refine seq_op fun N2 hN2 => ?_
                walk_at "rs"
                refine hN2 _ _ ?_
                clear hN2 N2
                walk_at "rs"
                have cl := cutS_tail_len wd
                refine ⟨Nat.le_trans big (by decide), o, rfl, Nat.le_trans (show _ ≤ 200 by omega) (by decide), _, _, _, ⟨rfl, rfl, rfl⟩, hw, ?_, Same.trans s2 s3⟩
                rw [str_append_len]
                omega
          · rintro σ H2 ⟨wd, x, y, rfl, hw, _, s2⟩
            refine hN _ _ ⟨wd, x, y, rfl, ?_, s2⟩
            rw [List.drop_eq_nil_of_le (by omega)] at hw
            exact hw
        · rintro σ H2 ⟨wd, x, y, rfl, hw, s2⟩
          walk_at "rs"
          have := k H2 s2
          rw [← hw] at this
          exact this
      · have e : isExpr (.tuple ds) = false := by
          rw [isExpr_tup]
          rw [decide_eq_false (p := 1 ≤ ds.length) (by omega), Bool.false_and, Bool.false_and]
        rw [e] at k0; exact k0
    | non => exact iteTT (by simp [isTy]) k0
    | bl b => exact iteTT (by simp [isTy]) k0
    | int i => exact iteTT (by simp [isTy]) k0
    | lst hs ha => exact iteTT (by simp [isTy]) k0
    | str z => exact iteTT (by simp [isTy]) k0
end
end LK

set_option Elab.async false
set_option linter.all false
set_option maxRecDepth 100000
namespace LK
open PySem PySem.Spec PyProof.Rows L2
local macro_rules | `(tactic| walk_at "rs") => `(tactic| simp only [cxK, cxNK, tCallZ, tAsg, tOp, rI0, rS0, rB0, rI, rU, tUn, rEq, rNe, rIxL, rIxT, rIxS, rSetL, rSlLU, rSlS, rSlU, rCatL, rCatU, rRepL, rIn, tVar, tC, gName, gSub, tIfS, tTest, tB, tAnd, tOr, tNot, tNotV, tAndV, tOrV, tIf, tCall, tCons, tNil, tCB, tDrop, tRet, tRetN, tNext, tLstU, tTupU, tM0, tM1, tPar, tBM, tBM0, rAppend, rPop, tBreak, tCont, tChain, tSl, tPart, tNoPart, L2.start, List.map, List.length_cons, List.length_nil, List.replicate, List.cons_append, List.nil_append, List.append_nil, List.getElem?_cons_zero, List.getElem?_cons_succ, List.set_cons_zero, List.set_cons_succ, Option.some.injEq, V.int.injEq, V.ref.injEq, V.str.injEq, V.bl.injEq, exists_eq_left', exists_eq_left, exists_and_left, decide_eq_true_eq, List.cons.injEq, and_true, true_and, scal, Bool.not_eq_true', decide_eq_false_iff_not, Nat.zero_add, Nat.reduceAdd, Nat.reduceSub, reduceCtorEq, false_and, exists_false, false_or, or_false, CPow, CMul, CDiv, Int.reduceToNat, ↓reduceIte, wipe])
local macro_rules | `(tactic| walk_at "st") => `(tactic| (refine seq_op fun N hN => ?_; walk_at "rs"))
local macro_rules | `(tactic| walk_at "sd") => `(tactic| first | assumption | decide | omega)
local macro_rules | `(tactic| walk_at "rd") => `(tactic| repeat (first
  | refine ⟨_, SqL.of (by assumption), ?_⟩ | refine ⟨_, SqL.of upd_same, ?_⟩ | refine ⟨_, .inl (SqL.of (by assumption)), ?_⟩ | refine ⟨_, (by assumption : _ = some (HO.lst _)), ?_⟩ | refine ⟨_, upd_same, ?_⟩
  | refine ⟨_, rfl, ?_⟩ | refine And.intro (by walk_at "sd") ?_))

theorem dep_tup (ds : List PyData) : dep (.tuple ds) = depAll ds + 1 := rfl
theorem dep_lst (ds : List PyData) : dep (.list ds) = depAll ds + 1 := rfl
theorem depAll_get : ∀ {ds : List PyData} {i : Nat} {d : PyData}, ds[i]? = some d → dep d ≤ depAll ds
  | [], _, _, e => by simp at e
  | a :: r, 0, _, e => by simp at e; subst e; exact Nat.le_max_left _ _
  | a :: r, i + 1, _, e => Nat.le_trans (depAll_get (ds := r) (i := i) (by simpa using e)) (Nat.le_max_right _ _)
theorem dpa_get4 {K : PySem.W.Frag} {H : Hp} : ∀ {vs : List V} {ds : List PyData} {i : Nat} {v : V}, DpAll K H vs ds → vs[i]? = some v → ∃ d, ds[i]? = some d ∧ Dp K H v d
  | _, _, _, _, .nil, e => by simp at e
  | _, _, 0, _, .cons r _, e => by simp at e; subst e; exact ⟨_, rfl, r⟩
  | _, _, i + 1, _, .cons _ t, e => by
    obtain ⟨d, h1, h2⟩ := dpa_get4 (i := i) t (by simpa using e)
    exact ⟨d, by simpa using h1, h2⟩
theorem dpa_len4 {K : PySem.W.Frag} {H : Hp} : ∀ {vs : List V} {ds : List PyData}, DpAll K H vs ds → vs.length = ds.length
  | _, _, .nil => rfl
  | _, _, .cons _ t => by simp [dpa_len4 t]
theorem ok_get4 : ∀ {ds : List PyData} {i : Nat} {d : PyData}, okAll ds = true → ds[i]? = some d → okD d = true
  | [], _, _, _, e => by simp at e
  | a :: r, 0, _, h, e => by
    simp at e; subst e
    unfold okAll at h; rw [Bool.and_eq_true] at h; exact h.1
  | a :: r, i + 1, _, h, e => by
    unfold okAll at h; rw [Bool.and_eq_true] at h
    exact ok_get4 (i := i) h.2 (by simpa using e)
theorem isTy_leaf {d : PyData} (h1 : ∀ ds, d ≠ .list ds) (h2 : ∀ ds, d ≠ .tuple ds) : isTy "list" d = false ∧ isTy "tuple" d = false := by
  cases d <;> simp [isTy] <;> first | exact absurd rfl (h1 _) | exact absurd rfl (h2 _)
theorem walk_zipT {K : PySem.W.Frag} {a b : Addr} {xs ys : List V} {n : Nat} (hx : xs.length = n) (hy : ys.length = n) : Walk (RZ.ItzT K a b) n (fun H => SqT K H a xs ∧ SqT K H b ys) (YPair (fun i => xs[i]?) (fun i => ys[i]?)) := by
  refine ⟨fun i _ hi q => ?_, fun _ q => ⟨xs, ys, q.1, q.2, by omega⟩, fun i H v H' _ q y => ?_⟩
  · have h1 : i < xs.length := by omega
    have h2 : i < ys.length := by omega
    exact ⟨xs, ys, xs[i], ys[i], q.1, q.2, by simp [h1], by simp [h2]⟩
  · obtain ⟨T, x, z, h1, h2, h3, h4, h5⟩ := y
    exact ⟨T, x, z, h1, h2, h3, h4 xs q.1, h5 ys q.2⟩
section
variable {P : Program} {w : World} {K : PySem.W.Frag} {mg : Str → Option Value} {base : Heap}
theorem like_step (T : Txt w K mg) (n : Nat) (ih : ∀ m, m + 1 = n → FnOk P w K mg base CX0 (m + 1) T.a__law_like T.d__law_like ["got", "due"] (sp__law_like K m)) : FnOk P w K mg base CX0 (n + 1) T.a__law_like T.d__law_like ["got", "due"] (sp__law_like K n) := by
  refine T.F__law_like.ok sc__law_like (fun vs H Q E h => ?_) (fun cdv A outer s H vs Q E hr h => ?_)
  · obtain ⟨v, u, d, rfl, _⟩ := h
    rfl
  · obtain ⟨v, u, d, rfl, hv, hu, hok, hdep, k⟩ := h
    have leaf : isTy "list" d = false ∧ isTy "tuple" d = false ∨ (∃ ds, (d = .list ds ∨ d = .tuple ds)) := by
      cases d <;> first | exact .inr ⟨_, .inl rfl⟩ | exact .inr ⟨_, .inr rfl⟩ | exact .inl ⟨rfl, rfl⟩
    rcases leaf with ⟨el, et⟩ | ⟨ds, hds⟩
    · refine ⟨_, (pss_cons (ps_if (pt_val (pe_callB call_isiDT (by rfl) T.n_isinstance (by decide +kernel) (pa_cons (pv 1) (pa_cons (pe_tupU (pa_cons (pe_bltn (v := .ty "list") (u := .type "list") (by rfl) T.n_list (by decide +kernel) rfl) (pa_cons (pe_bltn (v := .ty "tuple") (u := .type "tuple") (by rfl) T.n_tuple (by decide +kernel) rfl) pa_nil))) pa_nil)))) pss_never pss_nil) (pss_cons (ps_if (PW.pt (pw_or (pt_cmpR op_isN (pv 1) pe_non (nomark _)) (pw_or1 (pt_cmpR op_isN (pv 0) pe_non (nomark _))))) (pss_one (ps_ret (pe_and (pe_cmpR op_isN (pv 1) pe_non (nomark _)) (pe_one (pe_cmpR op_isN (pv 0) pe_non (nomark _)))))) pss_nil)
      (pss_cons (ps_if (PW.pt (pw_or (pt_val (pe_callB call_isiDT (by rfl) T.n_isinstance (by decide +kernel) (pa_cons (pv 0) (pa_cons (pe_tupU (pa_cons (pe_bltn (v := .ty "list") (u := .type "list") (by rfl) T.n_list (by decide +kernel) rfl) (pa_cons (pe_bltn (v := .ty "tuple") (u := .type "tuple") (by rfl) T.n_tuple (by decide +kernel) rfl) pa_nil))) pa_nil)))) (pw_or1 (pt_cmpR op_neB (pe_callB (call_isiDK (K := K) rfl) (by rfl) T.n_isinstance (by decide +kernel) (pa_cons (pv 0) (pa_cons (pe_bltn (v := .ty "bool") (u := .type "bool") (by rfl) T.n_bool (by decide +kernel) rfl) pa_nil))) (pe_callB (call_isiDK (K := K) rfl) (by rfl) T.n_isinstance (by decide +kernel) (pa_cons (pv 1) (pa_cons (pe_bltn (v := .ty "bool") (u := .type "bool") (by rfl) T.n_bool (by decide +kernel) rfl) pa_nil))) (nomark _))))) (pss_one (ps_ret pe_bl)) pss_nil)
      (pss_cons (ps_if (PW.pt (pw_or (pt_cmpR op_neB (pe_callB (call_isiDK (K := K) rfl) (by rfl) T.n_isinstance (by decide +kernel) (pa_cons (pv 0) (pa_cons (pe_bltn (v := .ty "str") (u := .type "str") (by rfl) T.n_str (by decide +kernel) rfl) pa_nil))) (pe_callB (call_isiDK (K := K) rfl) (by rfl) T.n_isinstance (by decide +kernel) (pa_cons (pv 1) (pa_cons (pe_bltn (v := .ty "str") (u := .type "str") (by rfl) T.n_str (by decide +kernel) rfl) pa_nil))) (nomark _)) (pw_or1 (pt_cmpR op_neB (pe_callB (call_isiDK (K := K) rfl) (by rfl) T.n_isinstance (by decide +kernel) (pa_cons (pv 0) (pa_cons (pe_bltn (v := .ty "int") (u := .type "int") (by rfl) T.n_int (by decide +kernel) rfl) pa_nil))) (pe_callB (call_isiDK (K := K) rfl) (by rfl) T.n_isinstance (by decide +kernel) (pa_cons (pv 1) (pa_cons (pe_bltn (v := .ty "int") (u := .type "int") (by rfl) T.n_int (by decide +kernel) rfl) pa_nil))) (nomark _))))) (pss_one (ps_ret pe_bl)) pss_nil)
      (pss_one (ps_ret (pe_cmpR op_eq (pv 0) (pv 1) (nomark _)))))))), ?_⟩
      refine seq_op fun N hN => ?_
      walk_at "rs"
      refine ⟨by decide, fun p H1 s1 h0 h1 => ⟨_, p, ⟨rfl, rfl⟩, h1, _, dp_same s1 hu, iteFF (by rw [el, et]; decide) (hN _ _ ?_)⟩⟩
      clear hN N h1
      have hv1 := dp_same s1 hv
      have hu1 := dp_same s1 hu
      have k1 := fun H' (s : Same H1 H') => k H' (Same.trans s1 s)
      refine seq_op fun N hN => ?_
      walk_at "rs"
      by_cases cn : d = .none
      · subst cn
        cases hu
        cases hv
        exact iteTT rfl (iteTT rfl (k1 H1 (Same.refl _)))
      · have vn : v ≠ .non := fun e => by subst e; cases hv; exact cn rfl
        have un : u ≠ .non := fun e => by subst e; cases hu; exact cn rfl
        refine iteFF un (iteFF vn (hN _ _ ?_))
        clear hN N
        refine seq_op fun N hN => ?_
        walk_at "rs"
        refine ⟨by decide, fun p2 H2 s2 h02 h12 => ⟨_, p2, ⟨rfl, rfl⟩, h12, _, dp_same s2 hv1, iteFF (by rw [el, et]; decide) ?_⟩⟩
        refine ⟨_, "bool", ⟨rfl, rfl⟩, _, dp_same s2 hv1, by simp, _, "bool", ⟨rfl, rfl⟩, _, dp_same s2 hu1, by simp, iteFF (by simp) (hN _ _ ?_)⟩
        clear hN N
        refine seq_op fun N hN => ?_
        walk_at "rs"
        refine ⟨_, "str", ⟨rfl, rfl⟩, _, dp_same s2 hv1, by simp, _, "str", ⟨rfl, rfl⟩, _, dp_same s2 hu1, by simp, iteFF (by simp) ?_⟩
        refine ⟨_, "int", ⟨rfl, rfl⟩, _, dp_same s2 hv1, by simp, _, "int", ⟨rfl, rfl⟩, _, dp_same s2 hu1, by simp, iteFF (by simp) (hN _ _ ?_)⟩
        clear hN N
        walk_at "rs"
        have kk := k1 H2 s2
        have fin : scal v u = true ∧ Q (.bl (decide (v = u))) H2 := by
          cases hv with
          | non => exact absurd rfl cn
          | bl b => cases hu; exact ⟨rfl, by rw [decide_eq_true rfl]; exact kk⟩
          | int b => cases hu; exact ⟨rfl, by rw [decide_eq_true rfl]; exact kk⟩
          | str b => cases hu; exact ⟨rfl, by rw [decide_eq_true rfl]; exact kk⟩
          | lst _ _ => simp [isTy] at el
          | tup _ _ => simp [isTy] at et
        exact fin
    · obtain ⟨m, rfl⟩ : ∃ m, n = m + 1 := by
        rcases hds with rfl | rfl
        · rw [dep_lst] at hdep; exact ⟨n - 1, by omega⟩
        · rw [dep_tup] at hdep; exact ⟨n - 1, by omega⟩
      have hr__law_like : Room (m + 1) _ := hr
      have G__law_like := ih m rfl
      have hdm : depAll ds ≤ m := by
        rcases hds with rfl | rfl
        · rw [dep_lst] at hdep; omega
        · rw [dep_tup] at hdep; omega
      refine ⟨_, (pss_cons (ps_if (pt_val (pe_callB call_isiDT (by rfl) T.n_isinstance (by decide +kernel) (pa_cons (pv 1) (pa_cons (pe_tupU (pa_cons (pe_bltn (v := .ty "list") (u := .type "list") (by rfl) T.n_list (by decide +kernel) rfl) (pa_cons (pe_bltn (v := .ty "tuple") (u := .type "tuple") (by rfl) T.n_tuple (by decide +kernel) rfl) pa_nil))) pa_nil)))) (pss_cons (ps_if (PW.pt (pw_or (pt_cmpR op_neB (pe_callB (call_isiDK (K := K) rfl) (by rfl) T.n_isinstance (by decide +kernel) (pa_cons (pv 0) (pa_cons (pe_bltn (v := .ty "list") (u := .type "list") (by rfl) T.n_list (by decide +kernel) rfl) pa_nil))) (pe_callB (call_isiDK (K := K) rfl) (by rfl) T.n_isinstance (by decide +kernel) (pa_cons (pv 1) (pa_cons (pe_bltn (v := .ty "list") (u := .type "list") (by rfl) T.n_list (by decide +kernel) rfl) pa_nil))) (nomark _)) (pw_or1 (pt_cmpR op_neB (pe_callB (call_isiDK (K := K) rfl) (by rfl) T.n_isinstance (by decide +kernel) (pa_cons (pv 0) (pa_cons (pe_bltn (v := .ty "tuple") (u := .type "tuple") (by rfl) T.n_tuple (by decide +kernel) rfl) pa_nil))) (pe_callB (call_isiDK (K := K) rfl) (by rfl) T.n_isinstance (by decide +kernel) (pa_cons (pv 1) (pa_cons (pe_bltn (v := .ty "tuple") (u := .type "tuple") (by rfl) T.n_tuple (by decide +kernel) rfl) pa_nil))) (nomark _))))) (pss_one (ps_ret pe_bl)) pss_nil)
      (pss_one (ps_ret (pe_and (pe_cmpR op_eqI (pe_callB call_lenD (by rfl) T.n_len (by decide +kernel) (pa_cons (pv 0) pa_nil)) (pe_callB call_lenD (by rfl) T.n_len (by decide +kernel) (pa_cons (pv 1) pa_nil)) (nomark _)) (pe_one (pe_callB (cr_all rfl) (by rfl) T.n_all (by decide +kernel) (pa_cons (pe_lc (own := [("one", 2), ("two", 3)]) (g := gTup K 2 (gCons (gName 2) (gCons (gName 3) (gNil)))) (tt := tYes) rfl sc__law_like.nd (RZ.pi_zipA (by rfl) T.n_zip (pa_cons (pv 0) (pa_cons (pv 1) pa_nil))) (blkOk_by (own := [("one", 2), ("two", 3)]) (N := N__law_like) (sc := defScope s__law_like) (by decide +kernel)) (fun _ _ _ _ _ => by exact (pg_tup rfl (pgs_cons (pg_name (i := 2) sc__law_like.nd rfl (Or.inl rfl)) (pgs_cons (pg_name (i := 3) sc__law_like.nd rfl (Or.inl rfl)) pgs_nil)))) (fun _ _ _ _ _ => pts_nil) (fun _ _ _ _ _ => (pe_call G__law_like hr__law_like (by rfl) T.m__law_like T.F__law_like.kp T.B__law_like .nil pass0 (pa_cons (pv 2) (pa_cons (pv 3) pa_nil))))) pa_nil))))))) pss_nil) pss_never), ?_⟩
      refine seq_op fun N hN => ?_
      clear hN
      walk_at "rs"
      refine ⟨by decide, fun p H1 s1 h0 h1 => ⟨_, p, ⟨rfl, rfl⟩, h1, _, dp_same s1 hu, iteTT (by rcases hds with rfl | rfl <;> simp [isTy]) ?_⟩⟩
      clear h1
      have hv1 := dp_same s1 hv
      have hu1 := dp_same s1 hu
      have k1 := fun H' (s : Same H1 H') => k H' (Same.trans s1 s)
      refine seq_op fun N2 hN2 => ?_
      walk_at "rs"
      refine ⟨_, "list", ⟨rfl, rfl⟩, _, hv1, by simp, _, "list", ⟨rfl, rfl⟩, _, hu1, by simp, iteFF (by simp) ?_⟩
      refine ⟨_, "tuple", ⟨rfl, rfl⟩, _, hv1, by simp, _, "tuple", ⟨rfl, rfl⟩, _, hu1, by simp, iteFF (by simp) (hN2 _ _ ?_)⟩
      clear hN2 N2
      walk_at "rs"
      have gm : ∀ (x : V) (σ0 : L2.St) (H0 : Hp) (Q0 Q1 : L2.St → Hp → Prop), (∀ σ2 H2, Q0 σ2 H2 → Q1 σ2 H2) → gTup K 2 (gCons (gName 2) (gCons (gName 3) gNil)) x σ0 H0 Q0 → gTup K 2 (gCons (gName 2) (gCons (gName 3) gNil)) x σ0 H0 Q1 :=
        fun x σ0 H0 Q0 Q1 h ⟨a, xs, e1, e2, e3, v, r, e4, v2, r2, e5, e6, q⟩ => ⟨a, xs, e1, e2, e3, v, r, e4, v2, r2, e5, e6, h _ _ q⟩
      have turn : ∀ {xs ys : List V} (hx : DpAll K H1 xs ds) (hy : DpAll K H1 ys ds) (i : Nat) (x : V) (H2 H' : Hp), Same H1 H2 → YPair (fun i => xs[i]?) (fun i => ys[i]?) i H2 x H' →
          gTup K 2 (gCons (gName 2) (gCons (gName 3) gNil)) x (wipe [some v, some u, none, none] [2, 3]) H' fun σ2 H3 => Same H2 H3 ∧ wipe σ2 [2, 3] = wipe [some v, some u, none, none] [2, 3] ∧ ∀ Q2 : V → Hp → Prop, (∀ H4, Same H3 H4 → Q2 (.bl true) H4) → tCall (sp__law_like K m) [] E0 (tCons (tVar 2) (tCons (tVar 3) tNil)) σ2 H3 Q2 := by
        rintro xs ys hx hy i x H2 H' s2 ⟨T0, y1, y2, rfl, hT, rfl, h1, h2⟩
        obtain ⟨d1, e1, hd1⟩ := dpa_get4 hx h1
        obtain ⟨d2, e2, hd2⟩ := dpa_get4 hy h2
        rw [e1] at e2
        cases e2
        have s3 := Same.trans s2 (same_upd (o := .tup [y1, y2]) hT)
        refine ⟨T0, [y1, y2], rfl, .inl (.inl upd_same), rfl, y1, [y2], rfl, y2, [], rfl, rfl, same_upd hT, rfl, fun Q2 hq => ?_⟩
        refine ⟨_, rfl, _, rfl, y1, y2, d1, rfl, dp_same s3 hd1, dp_same s3 hd2, ?_, Nat.le_trans (depAll_get e1) hdm, hq⟩
        refine ok_get4 ?_ e1
        rcases hds with rfl | rfl
        · exact (okD_lst.mp hok).2
        · exact (okD_tup.mp hok).2
      have fin : ∀ {D : Addr} {H' : Hp} {n : Nat}, Same H1 H' → H' D = some (.lst ((List.range n).map fun _ => V.bl true)) → rAll K [V.ref D] H' Q := by
        intro D H' n s h
        refine ⟨D, (List.range n).map fun _ => true, rfl, SqL.of (by rw [h, List.map_map]; rfl), ?_⟩
        rw [all_map_id]
        have e : ((List.range n).all fun _ => true) = true := by simp
        rw [e]
        exact k1 H' s
      refine ⟨_, hv1, .inl ⟨ds, hds, _, hu1, .inl ⟨ds, hds, iteTT rfl ?_⟩⟩⟩
      rcases hds with rfl | rfl
      · cases hv1 with
        | @lst a xs _ ha hda =>
          cases hu1 with
          | @lst b ys _ hb hdb =>
            have lx := dpa_len4 hda
            have ly := dpa_len4 hdb
            have small : ds.length ≤ 1000000 := Nat.le_trans (okD_lst.mp hok).1 (by decide)
            exact ⟨_, rfl, _, rfl, a, b, xs, ys, rfl, .inl ⟨ha, hb, fun D hD => lc_pure (walk_zip (n := ds.length) (by omega)) hD small (fun _ => .bl true) (fun H s => ⟨Same.seq s ha, Same.seq s hb⟩) (fun i x H2 H' _ s2 y => turn hda hdb i x H2 H' s2 y) gm fun H' s h => fin s h⟩⟩
      · cases hv1 with
        | @tup a xs _ ha hda =>
          cases hu1 with
          | @tup b ys _ hb hdb =>
            have lx := dpa_len4 hda
            have ly := dpa_len4 hdb
            have small : ds.length ≤ 1000000 := Nat.le_trans (okD_tup.mp hok).1 (by decide)
            exact ⟨_, rfl, _, rfl, a, b, xs, ys, rfl, .inr ⟨ha, hb, fun D hD => lc_pure (walk_zipT (n := ds.length) lx ly) hD small (fun _ => .bl true) (fun H s => ⟨Same.seqT s ha, Same.seqT s hb⟩) (fun i x H2 H' _ s2 y => turn hda hdb i x H2 H' s2 y) gm fun H' s h => fin s h⟩⟩
theorem ok__law_like (T : Txt w K mg) : ∀ n : Nat, FnOk P w K mg base CX0 (n + 1) T.a__law_like T.d__law_like ["got", "due"] (sp__law_like K n) := by
  intro n
  induction n with
  | zero => exact like_step T 0 fun m e => by omega
  | succ n ih =>
    refine like_step T (n + 1) fun m e => ?_
    obtain rfl : m = n := by omega
    exact ih
end
end LK

set_option Elab.async false
set_option linter.all false
set_option maxRecDepth 100000
namespace LK
open PySem PySem.Spec PyProof.Rows L2
local macro_rules | `(tactic| walk_at "rs") => `(tactic| simp only [cxK, cxNK, tCallZ, tAsg, tOp, rI0, rS0, rB0, rI, rU, tUn, rEq, rNe, rIxL, rIxT, rIxS, rSetL, rSlLU, rSlS, rSlU, rCatL, rCatU, rRepL, rIn, tVar, tC, gName, gSub, tIfS, tTest, tB, tAnd, tOr, tNot, tNotV, tAndV, tOrV, tIf, tCall, tCons, tNil, tCB, tDrop, tRet, tRetN, tNext, tLstU, tTupU, tM0, tM1, tPar, tBM, tBM0, rAppend, rPop, tBreak, tCont, tChain, tSl, tPart, tNoPart, L2.start, List.map, List.length_cons, List.length_nil, List.replicate, List.cons_append, List.nil_append, List.append_nil, List.getElem?_cons_zero, List.getElem?_cons_succ, List.set_cons_zero, List.set_cons_succ, Option.some.injEq, V.int.injEq, V.ref.injEq, V.str.injEq, V.bl.injEq, exists_eq_left', exists_eq_left, exists_and_left, decide_eq_true_eq, List.cons.injEq, and_true, true_and, scal, Bool.not_eq_true', decide_eq_false_iff_not, Nat.zero_add, Nat.reduceAdd, Nat.reduceSub, reduceCtorEq, false_and, exists_false, false_or, or_false, CPow, CMul, CDiv, Int.reduceToNat, ↓reduceIte, wipe])
local macro_rules | `(tactic| walk_at "st") => `(tactic| (refine seq_op fun N hN => ?_; walk_at "rs"))
local macro_rules | `(tactic| walk_at "sd") => `(tactic| first | assumption | decide | omega)
local macro_rules | `(tactic| walk_at "rd") => `(tactic| repeat (first
  | refine ⟨_, SqL.of (by assumption), ?_⟩ | refine ⟨_, SqL.of upd_same, ?_⟩ | refine ⟨_, .inl (SqL.of (by assumption)), ?_⟩ | refine ⟨_, (by assumption : _ = some (HO.lst _)), ?_⟩ | refine ⟨_, upd_same, ?_⟩
  | refine ⟨_, rfl, ?_⟩ | refine And.intro (by walk_at "sd") ?_))

section
variable {P : Program} {w : World} {K : PySem.W.Frag} {mg : Str → Option Value} {base : Heap}
theorem ok__law_kept (T : Txt w K mg) : FnOk P w K mg base CX0 1 T.a__law_kept T.d__law_kept [] sp__law_kept := by
  refine T.F__law_kept.ok sc__law_kept (fun vs H Q E h => ?_) (fun cdv A outer s H vs Q E hr h => ?_)
  · obtain ⟨rfl, _⟩ := h
    rfl
  · obtain ⟨rfl, k⟩ := h
    refine ⟨_, (pss_cons (ps_set (i := 0) sc__law_kept.nd rfl (Or.inl rfl) (pe_lstU (pa_cons pe_str (pa_cons pe_str (pa_cons pe_str (pa_cons pe_str (pa_cons pe_str (pa_cons pe_str (pa_cons pe_str (pa_cons pe_str (pa_cons pe_str (pa_cons pe_str (pa_cons pe_str (pa_cons pe_str pa_nil))))))))))))))
      (pss_one (ps_ret (pe_op op_catL (pv 0) (pe_lstU (pa_cons pe_str (pa_cons pe_str (pa_cons pe_str (pa_cons pe_str (pa_cons pe_str (pa_cons pe_str (pa_cons pe_str (pa_cons pe_str (pa_cons pe_str (pa_cons pe_str pa_nil))))))))))))))), ?_⟩
    refine seq_op fun N hN => ?_
    walk_at "rs"
    refine ⟨by decide, fun p H1 s1 h0 h1 => hN _ _ ?_⟩
    clear hN N
    walk_at "rs"
    exact ⟨by decide, fun p1 H2 s2 h02 h2 => ⟨_, s2 _ _ h1, _, h2, by decide, fun p3 H3 s3 h03 h3 => k p3 H3 (Same.trans s1 (Same.trans s2 s3)) (Same.dom s1 _ (Same.dom s2 _ h03)) h3⟩⟩
theorem ok__law_is_word (T : Txt w K mg) : FnOk P w K mg base CX0 1 T.a__law_is_word T.d__law_is_word ["thing"] (spP K fun d => .bl (isWordD d)) := by
  refine T.F__law_is_word.ok sc__law_is_word (fun vs H Q E h => ?_) (fun cdv A outer s H vs Q E hr h => ?_)
  · obtain ⟨v, d, rfl, _⟩ := h
    rfl
  · obtain ⟨v, d, rfl, hd, hok, k⟩ := h
    replace k : ∀ H', Same H H' → Q (.bl (isWordD d)) H' := k
    refine ⟨_, (pss_cons (ps_if (PW.pt (pw_or (pt_not (pt_val (pe_callB (call_isiDK (K := K) rfl) (by rfl) T.n_isinstance (by decide +kernel) (pa_cons (pv 0) (pa_cons (pe_bltn (v := .ty "str") (u := .type "str") (by rfl) T.n_str (by decide +kernel) rfl) pa_nil))))) (pw_or1 (pt_not (pt_chain op_le op_le pe_int (pe_callB call_len_str (by rfl) T.n_len (by decide +kernel) (pa_cons (pv 0) pa_nil)) pe_int))))) (pss_one (ps_ret pe_bl)) pss_nil)
      (pss_cons (ps_set (i := 1) sc__law_is_word.nd rfl (Or.inr rfl) pe_str)
      (pss_one (ps_ret (pe_and (pe_cmpR op_in_sign (pe_ix ix_str (pv 0) pe_int (fun _ _ => rfl)) (pv 1) (by rfl)) (pe_one (pe_callB (cr_all rfl) (by rfl) T.n_all (by decide +kernel) (pa_cons (pe_lc (own := [("sign", 2)]) (g := gName 2) (tt := tYes) rfl sc__law_is_word.nd (pi_str (pv 0)) (blkOk_by (own := [("sign", 2)]) (N := N__law_is_word) (sc := defScope s__law_is_word) (by decide +kernel)) (fun _ _ _ _ _ => pg_name (i := 2) sc__law_is_word.nd rfl (Or.inl rfl)) (fun _ _ _ _ _ => pts_nil) (fun _ _ _ _ _ => (pe_or (pe_cmpR op_in_sign (pv 2) (pv 1) (by rfl)) (pe_one (pe_cmpR op_in_sign (pv 2) pe_str (by rfl)))))) pa_nil)))))))), ?_⟩
    refine seq_op fun N hN => ?_
    walk_at "rs"
    refine ⟨v, "str", ⟨rfl, rfl⟩, d, hd, by simp, ?_⟩
    have k0 := k H (Same.refl _)
    cases hd with
    | str z =>
      have hz : z.length ≤ 100000 := of_decide_eq_true hok
      have lz := len_cps z
      refine iteFF (by simp [isTy]) ⟨z, rfl, Nat.le_trans hz (by decide), ite2 (fun c1 => ite2 (fun c2 => ?_) (fun c2 => ?_)) (fun c1 => ?_)⟩
      · have e : isWordS z = false := by
          unfold isWordS
          split
          · rfl
          · rw [decide_eq_false (by omega), Bool.false_and]
        show Q (.bl false) H
        rw [← e]; exact k0
      · refine hN _ _ ?_
        clear hN N
        refine seq_op fun N hN => ?_
        walk_at "rs"
        refine hN _ _ ?_
        clear hN N
        obtain ⟨c, r, ec⟩ : ∃ c r, z.cps.toList = c :: r := by
          cases hc : z.cps.toList with
          | nil => rw [hc] at lz; simp at lz; omega
          | cons c r => exact ⟨c, r, rfl⟩
        have e : isWordS z = (inS c LETs && (c :: r).all fun c => inS c LETs || inS c FIGs) := by
          unfold isWordS
          rw [ec]
          show (decide (z.length ≤ 6) && _) = _
          rw [decide_eq_true (by omega), Bool.true_and]
        walk_at "rs"
        refine ⟨Nat.le_trans hz (by decide), c, at_ofN (j := 0) rfl (by rw [ec]; rfl), c, rfl, ite2 (fun e1 => ?_) (fun e1 => ?_)⟩
        · refine ⟨_, rfl, _, rfl, fun D hD => lc_signs (z := z) (fun c => inS c LETs || inS c FIGs) hD (by omega) ?_ ?_⟩
          · intro c H3 hc s3 Q2 h2
            walk_at "rs"
            refine ⟨c, rfl, ite2 (fun e2 => ?_) (fun e2 => ⟨c, rfl, ?_⟩)⟩
            · have := h2 H3 (Same.refl _)
              have q : inS c LETs = true := decide_eq_true e2
              rw [q, Bool.true_or] at this
              exact this
            · have := h2 H3 (Same.refl _)
              have q : inS c LETs = false := decide_eq_false e2
              rw [q, Bool.false_or] at this
              exact this
          · intro H3 s3 hD3
            refine ⟨D, _, rfl, SqL.of hD3, ?_⟩
            rw [all_map_id]
            have := k H3 s3
            have q : isWordD (.str z) = ((c :: r).all fun c => inS c LETs || inS c FIGs) := by
              show isWordS z = _
              rw [e, show inS c LETs = true from decide_eq_true e1, Bool.true_and]
            rw [q, ← ec] at this
            exact this
        · have q : isWordD (.str z) = false := by
            show isWordS z = _
            rw [e, show inS c LETs = false from decide_eq_false e1, Bool.false_and]
          rw [q] at k0
          exact k0
      · have e : isWordS z = false := by
          unfold isWordS
          split
          · rfl
          · rename_i c r ec
            rw [ec] at lz
            simp at lz
            omega
        show Q (.bl false) H
        rw [← e]; exact k0
    | non => exact iteTT (by simp [isTy]) k0
    | bl b => exact iteTT (by simp [isTy]) k0
    | int i => exact iteTT (by simp [isTy]) k0
    | lst hs ha => exact iteTT (by simp [isTy]) k0
    | tup hs ha => exact iteTT (by simp [isTy]) k0
theorem ok__law_is_own (T : Txt w K mg) : FnOk P w K mg base CX0 2 T.a__law_is_own T.d__law_is_own ["thing"] (spP K fun d => .bl (isOwnD d)) := by
  refine T.F__law_is_own.ok sc__law_is_own (fun vs H Q E h => ?_) (fun cdv A outer s H vs Q E hr h => ?_)
  · obtain ⟨v, d, rfl, _⟩ := h
    rfl
  · obtain ⟨v, d, rfl, hd, hok, k⟩ := h
    replace k : ∀ H', Same H H' → Q (.bl (isOwnD d)) H' := k
    have hr__law_is_word : Room 1 _ := hr.mono (by decide)
    have G__law_is_word := ok__law_is_word (P := P) (base := base) T
    have hr__law_kept : Room 1 _ := hr.mono (by decide)
    have G__law_kept := ok__law_kept (P := P) (base := base) T
    refine ⟨_, (pss_one (ps_ret (pe_and (pe_call G__law_is_word hr__law_is_word (by rfl) T.m__law_is_word T.F__law_is_word.kp T.B__law_is_word .nil pass0 (pa_cons (pv 0) pa_nil)) (pe_one (pe_cmpR op_notIn_seq (pv 0) (pe_call0 G__law_kept hr__law_kept (by rfl) T.m__law_kept T.F__law_kept.kp T.B__law_kept .nil pass0) (by rfl)))))), ?_⟩
    walk_at "rs"
    refine ⟨v, d, rfl, hd, hok, fun H1 s1 => ⟨_, rfl, ite2 (fun e => ?_) (fun e => ?_)⟩⟩
    · obtain ⟨z, rfl⟩ : ∃ z, d = .str z := by cases d <;> first | exact ⟨_, rfl⟩ | simp [isWordD] at e
      cases hd
      refine ⟨rfl, fun p H2 s2 h0 h2 => ⟨p, rfl, keptV, .inl (SqL.of h2), rfl, by decide +kernel, ?_⟩⟩
      have q : isOwnD (.str z) = !inV (.str z) keptV := by
        show (isWordS z && _) = _
        rw [show isWordS z = true from e, Bool.true_and]
      have := k H2 (Same.trans s1 s2)
      rw [q] at this
      exact this
    · have q : isOwnD d = false := by
        cases d <;> try rfl
        show (isWordS _ && _) = _
        rw [show isWordS _ = false from by simpa [isWordD] using e, Bool.false_and]
      have := k H1 s1
      rw [q] at this
      exact this
theorem ok__law_is_name (T : Txt w K mg) : FnOk P w K mg base CX0 3 T.a__law_is_name T.d__law_is_name ["thing"] (spP K fun d => .bl (isNameD d)) := by
  refine T.F__law_is_name.ok sc__law_is_name (fun vs H Q E h => ?_) (fun cdv A outer s H vs Q E hr h => ?_)
  · obtain ⟨v, d, rfl, _⟩ := h
    rfl
  · obtain ⟨v, d, rfl, hd, hok, k⟩ := h
    replace k : ∀ H', Same H H' → Q (.bl (isNameD d)) H' := k
    have hr__law_is_own : Room 2 _ := hr.mono (by decide)
    have G__law_is_own := ok__law_is_own (P := P) (base := base) T
    refine ⟨_, (pss_one (ps_ret (pe_or (pe_call G__law_is_own hr__law_is_own (by rfl) T.m__law_is_own T.F__law_is_own.kp T.B__law_is_own .nil pass0 (pa_cons (pv 0) pa_nil)) (pe_one (pe_and (pe_callB (call_isiDK (K := K) rfl) (by rfl) T.n_isinstance (by decide +kernel) (pa_cons (pv 0) (pa_cons (pe_bltn (v := .ty "str") (u := .type "str") (by rfl) T.n_str (by decide +kernel) rfl) pa_nil))) (pe_one (pe_cmpR op_in_seq (pv 0) (pe_lstU (pa_cons pe_str (pa_cons pe_str pa_nil))) (by rfl)))))))), ?_⟩
    walk_at "rs"
    refine ⟨v, d, rfl, hd, hok, fun H1 s1 => ⟨_, rfl, ite2 (fun e => ?_) (fun e => ?_)⟩⟩
    · obtain ⟨z, rfl⟩ : ∃ z, d = .str z := by cases d <;> first | exact ⟨_, rfl⟩ | simp [isOwnD] at e
      have := k H1 s1
      rw [show isNameD (.str z) = true from by show (isOwnD (.str z) || _) = true; rw [e, Bool.true_or]] at this
      exact this
    · refine ⟨v, "str", ⟨rfl, rfl⟩, d, dp_same s1 hd, by simp, ?_⟩
      have k1 := k H1 s1
      cases hd with
      | str z =>
        refine iteTT (by simp [isTy]) ⟨by decide, fun p H2 s2 h0 h2 => ⟨givenV, .inl (SqL.of h2), rfl, by decide +kernel, ?_⟩⟩
        have k2 := k H2 (Same.trans s1 s2)
        rw [show isNameD (.str z) = inV (.str z) givenV from by show (isOwnD (.str z) || _) = _; rw [show isOwnD (.str z) = false from by simpa using e, Bool.false_or]] at k2
        exact k2
      | non => exact iteFF (by simp [isTy]) k1
      | bl b => exact iteFF (by simp [isTy]) k1
      | int i => exact iteFF (by simp [isTy]) k1
      | lst hs ha => exact iteFF (by simp [isTy]) k1
      | tup hs ha => exact iteFF (by simp [isTy]) k1
theorem ok__law_needs (T : Txt w K mg) : FnOk P w K mg base CX0 4 T.a__law_needs T.d__law_needs ["part"] sp__law_needs := by
  refine T.F__law_needs.ok sc__law_needs (fun vs H Q E h => ?_) (fun cdv A outer s H vs Q E hr h => ?_)
  · obtain ⟨z, rfl, _⟩ := h
    rfl
  · obtain ⟨z, rfl, hz, k⟩ := h
    have hr__law_is_name : Room 3 _ := hr.mono (by decide)
    have G__law_is_name := ok__law_is_name (P := P) (base := base) T
    refine ⟨_, (pss_cons (ps_if (pt_cmpR op_in_seq (pv 0) (pe_lstU (pa_cons pe_str (pa_cons pe_str (pa_cons pe_str (pa_cons pe_str (pa_cons pe_str (pa_cons pe_str (pa_cons pe_str (pa_cons pe_str (pa_cons pe_str (pa_cons pe_str (pa_cons pe_str (pa_cons pe_str (pa_cons pe_str (pa_cons pe_str (pa_cons pe_str pa_nil)))))))))))))))) (by rfl)) (pss_one (ps_ret pe_int)) pss_nil)
      (pss_cons (ps_if (pt_cmpR op_in_seq (pv 0) (pe_lstU (pa_cons pe_str (pa_cons pe_str pa_nil))) (by rfl)) (pss_one (ps_ret (pe_ifExp (pt_cmpR op_eqS (pv 0) pe_str (nomark _)) pe_int pe_int))) pss_nil)
      (pss_cons (ps_if (PW.pt (pw_or (pt_cmpR op_in_seq (pv 0) (pe_lc (own := [("k", 1)]) (g := gName 1) (tt := tYes) rfl sc__law_needs.nd (pi_range1 (by rfl) T.n_range (pa_cons pe_int pa_nil)) (blkOk_by (own := [("k", 1)]) (N := N__law_needs) (sc := defScope s__law_needs) (by decide +kernel)) (fun _ _ _ _ _ => pg_name (i := 1) sc__law_needs.nd rfl (Or.inl rfl)) (fun _ _ _ _ _ => pts_nil) (fun _ _ _ _ _ => (pe_callTy call_str_int (by rfl) T.n_str (by decide +kernel) (pa_cons (pe_op op_sub (pv 1) pe_int) pa_nil)))) (by rfl)) (pw_or1 (pt_val (pe_call G__law_is_name hr__law_is_name (by rfl) T.m__law_is_name T.F__law_is_name.kp T.B__law_is_name .nil pass0 (pa_cons (pv 0) pa_nil)))))) (pss_one (ps_ret pe_int)) pss_nil)
      (pss_one (ps_ret (pe_un un_neg pe_int)))))), ?_⟩
    refine seq_op fun N hN => ?_
    walk_at "rs"
    refine ⟨by decide, fun p H1 s1 h0 h1 => ⟨ops2L.map V.str, .inl (SqL.of h1), rfl, by decide +kernel, ite2 (fun e => ?_) (fun e => hN _ _ ?_)⟩⟩
    · have := k H1 s1
      rw [needsZ, if_pos e] at this
      exact this
    clear hN N h1
    refine seq_op fun N hN => ?_
    walk_at "rs"
    refine ⟨by decide, fun p H2 s2 h0 h2 => ⟨ops1L.map V.str, .inl (SqL.of h2), rfl, by decide +kernel, ite2 (fun e1 => ?_) (fun e1 => hN _ _ ?_)⟩⟩
    · have := k H2 (Same.trans s1 s2)
      rw [needsZ, if_neg e, if_pos e1] at this
      refine ite2 (fun c => ?_) (fun c => ?_)
      · rw [if_pos c] at this; exact this
      · rw [if_neg c] at this; exact this
    clear hN N h2
    refine seq_op fun N hN => ?_
    walk_at "rs"
    have s12 := Same.trans s1 s2
    refine ⟨19, rfl, by decide, by decide, fun D hD => lc_rng (fun j => .str (Str.ofString (toString (j - 9)))) hD (by decide) ?_ ?_⟩
    · intro k H3 hk s3 Q2 hq
      walk_at "rs"
      refine ⟨?_, hq H3 (Same.refl _)⟩
      exact Nat.lt_of_le_of_lt (Nat.log2_le_self _) (by omega)
    · intro H3 s3 h3
      have e9 : (List.range (19 : Int).toNat).map (fun (k : Nat) => V.str (Str.ofString (toString ((0 : Int) + (k : Int) - 9)))) = nineV := by
        unfold nineV
        refine List.map_congr_left fun k _ => ?_
        rw [Int.zero_add]
      rw [e9] at h3
      walk_at "rs"
      have s13 := Same.trans s12 s3
      refine ⟨nineV, .inl (SqL.of h3), rfl, by decide +kernel, ite2 (fun e2 => ?_) (fun e2 => ?_)⟩
      · have := k H3 s13
        rw [needsZ, if_neg e, if_neg e1, if_pos (by rw [e2, Bool.true_or])] at this
        exact this
      · refine ⟨_, _, rfl, .str z, decide_eq_true hz, fun H4 s4 => ⟨_, rfl, ite2 (fun e3 => ?_) (fun e3 => hN _ _ ?_)⟩⟩
        · have := k H4 (Same.trans s13 s4)
          rw [needsZ, if_neg e, if_neg e1, if_pos (by rw [e3, Bool.or_true])] at this
          exact this
        · walk_at "rs"
          have := k H4 (Same.trans s13 s4)
          rw [needsZ, if_neg e, if_neg e1, if_neg (by simp only [Bool.not_eq_true] at e2 e3; rw [e2, e3]; simp)] at this
          exact this
end
end LK

set_option Elab.async false
set_option linter.all false
set_option maxRecDepth 100000
namespace LK
open PySem PySem.Spec PyProof.Rows L2
local macro_rules | `(tactic| walk_at "rs") => `(tactic| simp only [cxK, cxNK, tCallZ, tAsg, tOp, rI0, rS0, rB0, rI, rU, tUn, rEq, rNe, rIxL, rIxT, rIxS, rSetL, rSlLU, rSlS, rSlU, rCatL, rCatU, rRepL, rIn, tVar, tC, gName, gSub, tIfS, tTest, tB, tAnd, tOr, tNot, tNotV, tAndV, tOrV, tIf, tCall, tCons, tNil, tCB, tDrop, tRet, tRetN, tNext, tLstU, tTupU, tM0, tM1, tPar, tBM, tBM0, rAppend, rPop, tBreak, tCont, tChain, tSl, tPart, tNoPart, L2.start, List.map, List.length_cons, List.length_nil, List.replicate, List.cons_append, List.nil_append, List.append_nil, List.getElem?_cons_zero, List.getElem?_cons_succ, List.set_cons_zero, List.set_cons_succ, Option.some.injEq, V.int.injEq, V.ref.injEq, V.str.injEq, V.bl.injEq, exists_eq_left', exists_eq_left, exists_and_left, decide_eq_true_eq, List.cons.injEq, and_true, true_and, scal, Bool.not_eq_true', decide_eq_false_iff_not, Nat.zero_add, Nat.reduceAdd, Nat.reduceSub, reduceCtorEq, false_and, exists_false, false_or, or_false, CPow, CMul, CDiv, Int.reduceToNat, ↓reduceIte, wipe])
local macro_rules | `(tactic| walk_at "st") => `(tactic| (refine seq_op fun N hN => ?_; walk_at "rs"))
local macro_rules | `(tactic| walk_at "sd") => `(tactic| first | assumption | decide | omega)
local macro_rules | `(tactic| walk_at "rd") => `(tactic| repeat (first
  | refine ⟨_, SqL.of (by assumption), ?_⟩ | refine ⟨_, SqL.of upd_same, ?_⟩ | refine ⟨_, .inl (SqL.of (by assumption)), ?_⟩ | refine ⟨_, (by assumption : _ = some (HO.lst _)), ?_⟩ | refine ⟨_, upd_same, ?_⟩
  | refine ⟨_, rfl, ?_⟩ | refine And.intro (by walk_at "sd") ?_))

theorem okAll_mem {K : PySem.W.Frag} {G : Hp} {m : Nat} : ∀ {ys : List V}, (∀ v ∈ ys, ∃ d, Dp K G v d ∧ okD d = true ∧ dep d ≤ m) → ∃ ds, DpAll K G ys ds ∧ okAll ds = true ∧ depAll ds ≤ m ∧ ds.length = ys.length
  | [], _ => ⟨[], .nil, rfl, Nat.zero_le _, rfl⟩
  | v :: ys, h => by
    obtain ⟨d, h1, h2, h3⟩ := h v List.mem_cons_self
    obtain ⟨ds, q1, q2, q3, q4⟩ := okAll_mem (ys := ys) fun v hv => h v (List.mem_cons_of_mem _ hv)
    refine ⟨d :: ds, .cons h1 q1, ?_, Nat.max_le.mpr ⟨h3, q3⟩, by simp [q4]⟩
    unfold okAll
    rw [h2, q2]; rfl
theorem Kp.bn {b : Addr} {H H' : Hp} (k : Kp b H H') {o : HO} (h : H' b = some o) {p : Addr} (h0 : H' p = none) : H p = none := k.dom h p h0
theorem of_str {K : PySem.W.Frag} {H : Hp} {b c : Addr} (B : Bag H b c) {z : Str} (h0 : 0 < z.length) (h1 : z.length ≤ 100000) {Q : VK} {E : XK} (k : ∀ c0 H', Bag H' b c → Kp b H H' → Q (.str ⟨#[c0]⟩) H') : sp__law_of K [.ref b, .str z] H Q E := by
  have l := len_cps z
  refine ⟨b, c, .str z, _, rfl, B, .inr (.inr ⟨z, rfl, h1, rfl⟩), .inr (.inr ⟨z, rfl, h1, rfl⟩), ?_, ?_, fun y H' hy B' K' => ?_⟩
  · intro e
    have q := congrArg List.length e
    rw [List.length_map, l, List.length_nil] at q
    omega
  · rw [List.length_map]; omega
  · obtain ⟨c0, _, rfl⟩ := List.mem_map.mp hy
    exact k c0 H' B' K'
theorem of_lst {K : PySem.W.Frag} {H : Hp} {b c p : Addr} (B : Bag H b c) {ys : List V} (h : H p = some (.lst ys)) (n : p ≠ b) (ne : ys ≠ []) (hl : ys.length ≤ 1000000) {Q : VK} {E : XK} (k : ∀ y H', y ∈ ys → Bag H' b c → Kp b H H' → Q y H') : sp__law_of K [.ref b, .ref p] H Q E :=
  ⟨b, c, .ref p, ys, rfl, B, .inl ⟨p, rfl, SqL.of h⟩, .inl ⟨p, rfl, SqL.of (by rw [hb_ne n]; exact h)⟩, ne, hl, k⟩
section
variable {P : Program} {w : World} {K : PySem.W.Frag} {mg : Str → Option Value} {base : Heap}
theorem any_step (T : Txt w K mg) (n : Nat) (ih : ∀ m, m + 1 = n → FnOk P w K mg base CX0 (m + 3) T.a__law_any T.d__law_any ["bag", "deep"] (sp__law_any K m)) : FnOk P w K mg base CX0 (n + 3) T.a__law_any T.d__law_any ["bag", "deep"] (sp__law_any K n) := by
  refine T.F__law_any.ok sc__law_any (fun vs H Q E h => ?_) (fun cdv A outer s H vs Q E hr h => ?_)
  · obtain ⟨b, c, k, rfl, _⟩ := h
    rfl
  · obtain ⟨b, c, dp, rfl, B, hk, k⟩ := h
    have hr__law_draw : Room 1 _ := hr.mono (by omega)
    have G__law_draw := ok__law_draw (P := P) (base := base) T
    have hr__law_of : Room 2 _ := hr.mono (by omega)
    have G__law_of := ok__law_of (P := P) (base := base) T
    by_cases hn : 0 < n
    · obtain ⟨m, rfl⟩ : ∃ m, n = m + 1 := ⟨n - 1, by omega⟩
      have hr__law_any : Room (m + 3) _ := hr.mono (by omega)
      have G__law_any := ih m rfl
      refine ⟨_, (pss_cons (ps_set (i := 2) sc__law_any.nd rfl (Or.inl rfl) (pe_call G__law_draw hr__law_draw (by rfl) T.m__law_draw T.F__law_draw.kp T.B__law_draw .nil pass0 (pa_cons (pv 0) (pa_cons (pe_ifExp (pt_cmpR op_gt (pv 1) pe_int (nomark _)) pe_int pe_int) pa_nil))))
      (pss_cons (ps_if (pt_cmpR op_eqI (pv 2) pe_int (nomark _)) (pss_one (ps_ret pe_non)) pss_nil)
      (pss_cons (ps_if (pt_cmpR op_eqI (pv 2) pe_int (nomark _)) (pss_one (ps_ret (pe_cmpR op_eqI (pe_call G__law_draw hr__law_draw (by rfl) T.m__law_draw T.F__law_draw.kp T.B__law_draw .nil pass0 (pa_cons (pv 0) (pa_cons pe_int pa_nil))) pe_int (nomark _)))) pss_nil)
      (pss_cons (ps_if (pt_cmpR op_lt (pv 2) pe_int (nomark _)) (pss_cons (ps_set (i := 3) sc__law_any.nd rfl (Or.inl rfl) (pe_op op_add (pe_op op_add pe_int (pe_op op_mul (pe_call G__law_draw hr__law_draw (by rfl) T.m__law_draw T.F__law_draw.kp T.B__law_draw .nil pass0 (pa_cons (pv 0) (pa_cons pe_int pa_nil))) (pe_op op_pow pe_int pe_int))) (pe_call G__law_draw hr__law_draw (by rfl) T.m__law_draw T.F__law_draw.kp T.B__law_draw .nil pass0 (pa_cons (pv 0) (pa_cons pe_int pa_nil)))))
      (pss_one (ps_ret (pe_call G__law_of hr__law_of (by rfl) T.m__law_of T.F__law_of.kp T.B__law_of .nil pass0 (pa_cons (pv 0) (pa_cons (pe_lstU (pa_cons pe_int (pa_cons pe_int (pa_cons pe_int (pa_cons pe_int (pa_cons (pe_un un_neg pe_int) (pa_cons pe_int (pa_cons pe_int (pa_cons pe_int (pa_cons pe_int (pa_cons (pe_un un_neg pe_int) (pa_cons pe_int (pa_cons pe_int (pa_cons pe_int (pa_cons pe_int (pa_cons (pe_op op_sub (pe_op op_pow pe_int pe_int) pe_int) (pa_cons (pe_op op_sub pe_int (pe_op op_pow pe_int pe_int)) (pa_cons (pv 3) (pa_cons (pe_op op_sub pe_int (pv 3)) pa_nil))))))))))))))))))) pa_nil)))))) pss_nil)
      (pss_cons (ps_if (pt_cmpR op_lt (pv 2) pe_int (nomark _)) (pss_one (ps_ret (pe_join pe_str (pe_lc (own := [("k", 5)]) (g := gName 5) (tt := tYes) rfl sc__law_any.nd (pi_range1 (by rfl) T.n_range (pa_cons (pe_call G__law_draw hr__law_draw (by rfl) T.m__law_draw T.F__law_draw.kp T.B__law_draw .nil pass0 (pa_cons (pv 0) (pa_cons pe_int pa_nil))) pa_nil)) (blkOk_by (own := [("k", 5)]) (N := N__law_any) (sc := defScope s__law_any) (by decide +kernel)) (fun _ _ _ _ _ => pg_name (i := 5) sc__law_any.nd rfl (Or.inl rfl)) (fun _ _ _ _ _ => pts_nil) (fun _ _ _ _ _ => (pe_call G__law_of hr__law_of (by rfl) T.m__law_of T.F__law_of.kp T.B__law_of .nil pass0 (pa_cons (pv 0) (pa_cons pe_str pa_nil)))))))) pss_nil)
      (pss_cons (ps_setLc (i := 4) (own := [("k", 5)]) (g := gName 5) (tt := tYes) rfl sc__law_any.nd rfl rfl (sw_true rfl rfl rfl (by decide +kernel)) (pi_range1 (by rfl) T.n_range (pa_cons (pe_call G__law_draw hr__law_draw (by rfl) T.m__law_draw T.F__law_draw.kp T.B__law_draw .nil pass0 (pa_cons (pv 0) (pa_cons pe_int pa_nil))) pa_nil)) (blkOk_by (own := [("k", 5)]) (N := N__law_any) (sc := defScope s__law_any) (by decide +kernel)) (fun _ _ _ _ _ => pg_name (i := 5) sc__law_any.nd rfl (Or.inl rfl)) (fun _ _ _ _ _ => pts_nil) (fun _ _ _ _ _ => (pe_call G__law_any hr__law_any (by rfl) T.m__law_any T.F__law_any.kp T.B__law_any .nil pass0 (pa_cons (pv 0) (pa_cons (pe_op op_sub (pv 1) pe_int) pa_nil)))))
      (pss_one (ps_ret (pe_ifExp (pt_cmpR op_eqI (pv 2) pe_int (nomark _)) (pv 4) (pe_callTy call_tupleN (by rfl) T.n_tuple (by decide +kernel) (pa_cons (pv 4) pa_nil))))))))))), ?_⟩
      refine cut_seq (fun σ H1 => ∃ way : Int, σ = [some (.ref b), some (.int dp), some (.int way), none, none, none] ∧ 0 ≤ way ∧ (way < 8 ∨ way < 10 ∧ 0 < dp) ∧ Bag H1 b c ∧ Kp b H H1) (fun N hN => ?_) ?_
      · walk_at "rs"
        refine ite2 (fun e => ?_) (fun e => ?_)
        · exact ⟨b, c, 10, rfl, B, by decide, by decide, fun way H1 w0 w1 B1 K1 => hN _ _ ⟨way, rfl, w0, .inr ⟨w1, e⟩, B1, K1⟩⟩
        · exact ⟨b, c, 8, rfl, B, by decide, by decide, fun way H1 w0 w1 B1 K1 => hN _ _ ⟨way, rfl, w0, .inl w1, B1, K1⟩⟩
      rintro σ H1 ⟨way, rfl, w0, w1, B1, K1⟩
      obtain ⟨xb1, eb1⟩ := B1.at
      refine seq_op fun N hN => ?_
      walk_at "rs"
      refine ite2 (fun e => k _ _ _ B1 K1 .non rfl (Nat.zero_le _)) (fun e0 => hN _ _ ?_)
      clear hN N
      refine seq_op fun N hN => ?_
      walk_at "rs"
      refine ite2 (fun e => ?_) (fun e1 => hN _ _ ?_)
      · exact ⟨b, c, 2, rfl, B1, by decide, by decide, fun r H2 r0 r1 B2 K2 => ⟨_, rfl, k _ _ _ B2 (Same.trans K1 K2) (.bl _) rfl (Nat.zero_le _)⟩⟩
      clear hN N
      refine seq_op fun N hN => ?_
      walk_at "rs"
      refine ite2 (fun e => ?_) (fun e2 => hN _ _ ?_)
      · refine seq_op fun N2 hN2 => ?_
        walk_at "rs"
        refine ⟨b, c, 1000000, rfl, B1, by decide, by decide, fun r H2 r0 r1 B2 K2 => ⟨by decide, r, rfl, .inr (by decide), b, c, 1000000, rfl, B2, by decide, by decide, fun r2 H3 r20 r21 B3 K3 => ⟨_, rfl, hN2 _ _ ?_⟩⟩⟩
        walk_at "rs"
        have K13 := Same.trans K1 (Same.trans K2 K3)
        have fin : ∀ (L : List V), L.all isIntV = true → L ≠ [] → L.length ≤ 1000 → ∀ (p : Addr) (H4 : Hp), Same H3 H4 → H3 p = none → H4 p = some (HO.lst L) → sp__law_of K [V.ref b, V.ref p] H4 Q E0 := by
          intro L hL hne hlen p H4 s4 h04 h4
          refine of_lst (B3.same s4) h4 (fun e => ?_) hne (by omega) fun y H5 hy B5 K5 => ?_
          · obtain ⟨xs, q⟩ := B3.at
            rw [e, q] at h04; cases h04
          · obtain ⟨i, rfl⟩ := ints_of hL y hy
            exact k _ (.int i) H5 B5 (Same.trans K13 (Same.trans (Kp.of s4) K5)) (.int i) rfl (Nat.zero_le _)
        exact ⟨by decide, by decide, by decide, fun p H4 s4 h04 h4 => fin _ rfl (by simp) (Nat.le_trans (show 18 ≤ 18 from Nat.le_refl _) (by decide)) p H4 s4 h04 h4⟩
      clear hN N
      refine seq_op fun N hN => ?_
      walk_at "rs"
      refine ite2 (fun e => ?_) (fun e3 => hN _ _ ?_)
      · refine ⟨⟨_, rfl⟩, _, rfl, b, c, 7, rfl, B1, by decide, by decide, fun r H2 r0 r1 B2 K2 => ⟨r, rfl, by omega, by omega, fun D hD => lc_draw walk_range (fun _ v => ∃ z, v = V.str z ∧ z.length ≤ 1) (fun _ _ _ _ h => h) hD B2 (by omega) (fun _ _ _ _ y => y.1) (fun _ _ => trivial) ?_ ?_⟩⟩
        · intro x H3 K3 B3 Q2 hq
          walk_at "rs"
          exact of_str B3 (by decide +kernel) (by decide +kernel) fun c0 H4 B4 K4 => hq _ H4 B4 K4 ⟨_, rfl, Nat.le_refl 1⟩
        · intro H3 ys B3 K3 h3 hl hp
          obtain ⟨zs, rfl, hz⟩ := strs_of hp
          have hs := sum_le hz
          have hj := join_len "" zs
          rw [List.length_map] at hl
          refine ⟨D, rfl, zs, .inl (SqL.of h3), ?_, k _ (.str _) H3 B3 (Same.trans K1 (Same.trans K2 K3)) (.str _) (decide_eq_true ?_) (Nat.zero_le _)⟩
          · show _ + zs.length * 0 ≤ _
            omega
          · have e0 : zs.length * (Str.ofString "").length = 0 := Nat.mul_zero _
            omega
      clear hN N
      refine seq_op fun N hN => ?_
      walk_at "rs"
      refine ⟨_, rfl, b, c, 4, rfl, B1, by decide, by decide, fun r H2 r0 r1 B2 K2 => ⟨r, rfl, by omega, by omega, fun D hD => lc_draw walk_range (fun G v => ∃ d, Dp K G v d ∧ okD d = true ∧ dep d ≤ m) (fun G G' v s ⟨d, h1, h2⟩ => ⟨d, dp_same s h1, h2⟩) hD B2 (by omega) (fun _ _ _ _ y => y.1) (fun _ _ => trivial) ?_ ?_⟩⟩
      · intro x H3 K3 B3 Q2 hq
        walk_at "rs"
        exact ⟨b, c, dp - 1, rfl, B3, by omega, fun v d H4 B4 K4 hd hok hdep => hq v H4 B4 K4 ⟨d, hd, hok, hdep⟩⟩
      · intro H3 ys B3 K3 h3 hl hp
        refine hN _ _ ?_
        clear hN N
        obtain ⟨ds, hd, hok, hdep, hlen⟩ := okAll_mem hp
        obtain ⟨xb2, eb2⟩ := B2.at
        have K12 := Same.trans K1 K2
        have K13 := Same.trans K12 K3
        have h0D : H D = none := Kp.bn K12 eb2 hD
        have nDb : b ≠ D := fun e => by rw [e, hD] at eb2; cases eb2
        have hd2 : DpAll K (nw H H3) ys ds := dpa_same (nw_anti fun a e => by
          have nD : a ≠ D := fun z => by rw [z, upd_same] at e; cases e
          rw [upd_ne nD] at e
          exact Kp.bn K12 eb2 e) hd
        have hlen4 : ds.length ≤ 100000 := by omega
        walk_at "rs"
        refine ite2 (fun e => ?_) (fun e => ⟨_, SqL.of h3, fun q H4 s4 h04 h4 => ?_⟩)
        · refine k _ (.list ds) H3 B3 K13 (.lst (SqL.of (nw_of h0D h3)) hd2) (okD_lst.mpr ⟨hlen4, hok⟩) ?_
          show depAll ds + 1 ≤ m + 1
          omega
        · obtain ⟨xb3, eb3⟩ := B3.at
          refine k _ (.tuple ds) H4 (B3.same s4) (Same.trans K13 (Kp.of s4)) (.tup (.inl (.inl (nw_of (Kp.bn K13 eb3 h04) h4))) (dpa_same (nw_same fun a o _ e => s4 _ _ e) hd2)) (okD_tup.mpr ⟨hlen4, hok⟩) ?_
          show depAll ds + 1 ≤ m + 1
          omega
    · refine ⟨_, (pss_cons (ps_set (i := 2) sc__law_any.nd rfl (Or.inl rfl) (pe_call G__law_draw hr__law_draw (by rfl) T.m__law_draw T.F__law_draw.kp T.B__law_draw .nil pass0 (pa_cons (pv 0) (pa_cons (pe_ifExp (pt_cmpR op_gt (pv 1) pe_int (nomark _)) pe_int pe_int) pa_nil))))
      (pss_cons (ps_if (pt_cmpR op_eqI (pv 2) pe_int (nomark _)) (pss_one (ps_ret pe_non)) pss_nil)
      (pss_cons (ps_if (pt_cmpR op_eqI (pv 2) pe_int (nomark _)) (pss_one (ps_ret (pe_cmpR op_eqI (pe_call G__law_draw hr__law_draw (by rfl) T.m__law_draw T.F__law_draw.kp T.B__law_draw .nil pass0 (pa_cons (pv 0) (pa_cons pe_int pa_nil))) pe_int (nomark _)))) pss_nil)
      (pss_cons (ps_if (pt_cmpR op_lt (pv 2) pe_int (nomark _)) (pss_cons (ps_set (i := 3) sc__law_any.nd rfl (Or.inl rfl) (pe_op op_add (pe_op op_add pe_int (pe_op op_mul (pe_call G__law_draw hr__law_draw (by rfl) T.m__law_draw T.F__law_draw.kp T.B__law_draw .nil pass0 (pa_cons (pv 0) (pa_cons pe_int pa_nil))) (pe_op op_pow pe_int pe_int))) (pe_call G__law_draw hr__law_draw (by rfl) T.m__law_draw T.F__law_draw.kp T.B__law_draw .nil pass0 (pa_cons (pv 0) (pa_cons pe_int pa_nil)))))
      (pss_one (ps_ret (pe_call G__law_of hr__law_of (by rfl) T.m__law_of T.F__law_of.kp T.B__law_of .nil pass0 (pa_cons (pv 0) (pa_cons (pe_lstU (pa_cons pe_int (pa_cons pe_int (pa_cons pe_int (pa_cons pe_int (pa_cons (pe_un un_neg pe_int) (pa_cons pe_int (pa_cons pe_int (pa_cons pe_int (pa_cons pe_int (pa_cons (pe_un un_neg pe_int) (pa_cons pe_int (pa_cons pe_int (pa_cons pe_int (pa_cons pe_int (pa_cons (pe_op op_sub (pe_op op_pow pe_int pe_int) pe_int) (pa_cons (pe_op op_sub pe_int (pe_op op_pow pe_int pe_int)) (pa_cons (pv 3) (pa_cons (pe_op op_sub pe_int (pv 3)) pa_nil))))))))))))))))))) pa_nil)))))) pss_nil)
      (pss_cons (ps_if (pt_cmpR op_lt (pv 2) pe_int (nomark _)) (pss_one (ps_ret (pe_join pe_str (pe_lc (own := [("k", 5)]) (g := gName 5) (tt := tYes) rfl sc__law_any.nd (pi_range1 (by rfl) T.n_range (pa_cons (pe_call G__law_draw hr__law_draw (by rfl) T.m__law_draw T.F__law_draw.kp T.B__law_draw .nil pass0 (pa_cons (pv 0) (pa_cons pe_int pa_nil))) pa_nil)) (blkOk_by (own := [("k", 5)]) (N := N__law_any) (sc := defScope s__law_any) (by decide +kernel)) (fun _ _ _ _ _ => pg_name (i := 5) sc__law_any.nd rfl (Or.inl rfl)) (fun _ _ _ _ _ => pts_nil) (fun _ _ _ _ _ => (pe_call G__law_of hr__law_of (by rfl) T.m__law_of T.F__law_of.kp T.B__law_of .nil pass0 (pa_cons (pv 0) (pa_cons pe_str pa_nil)))))))) pss_nil)
      pss_never))))), ?_⟩
      refine cut_seq (fun σ H1 => ∃ way : Int, σ = [some (.ref b), some (.int dp), some (.int way), none, none, none] ∧ 0 ≤ way ∧ (way < 8 ∨ way < 10 ∧ 0 < dp) ∧ Bag H1 b c ∧ Kp b H H1) (fun N hN => ?_) ?_
      · walk_at "rs"
        refine ite2 (fun e => ?_) (fun e => ?_)
        · exact ⟨b, c, 10, rfl, B, by decide, by decide, fun way H1 w0 w1 B1 K1 => hN _ _ ⟨way, rfl, w0, .inr ⟨w1, e⟩, B1, K1⟩⟩
        · exact ⟨b, c, 8, rfl, B, by decide, by decide, fun way H1 w0 w1 B1 K1 => hN _ _ ⟨way, rfl, w0, .inl w1, B1, K1⟩⟩
      rintro σ H1 ⟨way, rfl, w0, w1, B1, K1⟩
      obtain ⟨xb1, eb1⟩ := B1.at
      refine seq_op fun N hN => ?_
      walk_at "rs"
      refine ite2 (fun e => k _ _ _ B1 K1 .non rfl (Nat.zero_le _)) (fun e0 => hN _ _ ?_)
      clear hN N
      refine seq_op fun N hN => ?_
      walk_at "rs"
      refine ite2 (fun e => ?_) (fun e1 => hN _ _ ?_)
      · exact ⟨b, c, 2, rfl, B1, by decide, by decide, fun r H2 r0 r1 B2 K2 => ⟨_, rfl, k _ _ _ B2 (Same.trans K1 K2) (.bl _) rfl (Nat.zero_le _)⟩⟩
      clear hN N
      refine seq_op fun N hN => ?_
      walk_at "rs"
      refine ite2 (fun e => ?_) (fun e2 => hN _ _ ?_)
      · refine seq_op fun N2 hN2 => ?_
        walk_at "rs"
        refine ⟨b, c, 1000000, rfl, B1, by decide, by decide, fun r H2 r0 r1 B2 K2 => ⟨by decide, r, rfl, .inr (by decide), b, c, 1000000, rfl, B2, by decide, by decide, fun r2 H3 r20 r21 B3 K3 => ⟨_, rfl, hN2 _ _ ?_⟩⟩⟩
        walk_at "rs"
        have K13 := Same.trans K1 (Same.trans K2 K3)
        have fin : ∀ (L : List V), L.all isIntV = true → L ≠ [] → L.length ≤ 1000 → ∀ (p : Addr) (H4 : Hp), Same H3 H4 → H3 p = none → H4 p = some (HO.lst L) → sp__law_of K [V.ref b, V.ref p] H4 Q E0 := by
          intro L hL hne hlen p H4 s4 h04 h4
          refine of_lst (B3.same s4) h4 (fun e => ?_) hne (by omega) fun y H5 hy B5 K5 => ?_
          · obtain ⟨xs, q⟩ := B3.at
            rw [e, q] at h04; cases h04
          · obtain ⟨i, rfl⟩ := ints_of hL y hy
            exact k _ (.int i) H5 B5 (Same.trans K13 (Same.trans (Kp.of s4) K5)) (.int i) rfl (Nat.zero_le _)
        exact ⟨by decide, by decide, by decide, fun p H4 s4 h04 h4 => fin _ rfl (by simp) (Nat.le_trans (show 18 ≤ 18 from Nat.le_refl _) (by decide)) p H4 s4 h04 h4⟩
      clear hN N
      refine seq_op fun N hN => ?_
      walk_at "rs"
      refine ite2 (fun e => ?_) (fun e3 => hN _ _ ?_)
      · refine ⟨⟨_, rfl⟩, _, rfl, b, c, 7, rfl, B1, by decide, by decide, fun r H2 r0 r1 B2 K2 => ⟨r, rfl, by omega, by omega, fun D hD => lc_draw walk_range (fun _ v => ∃ z, v = V.str z ∧ z.length ≤ 1) (fun _ _ _ _ h => h) hD B2 (by omega) (fun _ _ _ _ y => y.1) (fun _ _ => trivial) ?_ ?_⟩⟩
        · intro x H3 K3 B3 Q2 hq
          walk_at "rs"
          exact of_str B3 (by decide +kernel) (by decide +kernel) fun c0 H4 B4 K4 => hq _ H4 B4 K4 ⟨_, rfl, Nat.le_refl 1⟩
        · intro H3 ys B3 K3 h3 hl hp
          obtain ⟨zs, rfl, hz⟩ := strs_of hp
          have hs := sum_le hz
          have hj := join_len "" zs
          rw [List.length_map] at hl
          refine ⟨D, rfl, zs, .inl (SqL.of h3), ?_, k _ (.str _) H3 B3 (Same.trans K1 (Same.trans K2 K3)) (.str _) (decide_eq_true ?_) (Nat.zero_le _)⟩
          · show _ + zs.length * 0 ≤ _
            omega
          · have e0 : zs.length * (Str.ofString "").length = 0 := Nat.mul_zero _
            omega
      clear hN N
      omega
theorem ok__law_any (T : Txt w K mg) : ∀ n : Nat, FnOk P w K mg base CX0 (n + 3) T.a__law_any T.d__law_any ["bag", "deep"] (sp__law_any K n) := by
  intro n
  induction n with
  | zero => exact any_step T 0 fun m e => by omega
  | succ n ih =>
    refine any_step T (n + 1) fun m e => ?_
    obtain rfl : m = n := by omega
    exact ih
end
end LK

set_option Elab.async false
set_option linter.all false
set_option maxRecDepth 100000
namespace LK
open PySem PySem.Spec PyProof.Rows L2
local macro_rules | `(tactic| walk_at "rs") => `(tactic| simp only [cxK, cxNK, tCallZ, tAsg, tOp, rI0, rS0, rB0, rI, rU, tUn, rEq, rNe, rIxL, rIxT, rIxS, rSetL, rSlLU, rSlS, rSlU, rCatL, rCatU, rRepL, rIn, tVar, tC, gName, gSub, tIfS, tTest, tB, tAnd, tOr, tNot, tNotV, tAndV, tOrV, tIf, tCall, tCons, tNil, tCB, tDrop, tRet, tRetN, tNext, tLstU, tTupU, tM0, tM1, tPar, tBM, tBM0, rAppend, rPop, tBreak, tCont, tChain, tSl, tPart, tNoPart, L2.start, List.map, List.length_cons, List.length_nil, List.replicate, List.cons_append, List.nil_append, List.append_nil, List.getElem?_cons_zero, List.getElem?_cons_succ, List.set_cons_zero, List.set_cons_succ, Option.some.injEq, V.int.injEq, V.ref.injEq, V.str.injEq, V.bl.injEq, exists_eq_left', exists_eq_left, exists_and_left, decide_eq_true_eq, List.cons.injEq, and_true, true_and, scal, Bool.not_eq_true', decide_eq_false_iff_not, Nat.zero_add, Nat.reduceAdd, Nat.reduceSub, reduceCtorEq, false_and, exists_false, false_or, or_false, CPow, CMul, CDiv, Int.reduceToNat, ↓reduceIte, wipe])
local macro_rules | `(tactic| walk_at "st") => `(tactic| (refine seq_op fun N hN => ?_; walk_at "rs"))
local macro_rules | `(tactic| walk_at "sd") => `(tactic| first | assumption | decide | omega)
local macro_rules | `(tactic| walk_at "rd") => `(tactic| repeat (first
  | refine ⟨_, SqL.of (by assumption), ?_⟩ | refine ⟨_, SqL.of upd_same, ?_⟩ | refine ⟨_, .inl (SqL.of (by assumption)), ?_⟩ | refine ⟨_, (by assumption : _ = some (HO.lst _)), ?_⟩ | refine ⟨_, upd_same, ?_⟩
  | refine ⟨_, rfl, ?_⟩ | refine And.intro (by walk_at "sd") ?_))

theorem inV_map (z : Str) : ∀ l : List Str, inV (.str z) (l.map V.str) = l.any fun y => decide (y = z)
  | [] => rfl
  | y :: l => by
    show (eqV (.str y) (.str z) || inV (.str z) (l.map V.str)) = _
    rw [inV_map z l, List.any_cons]
    congr 1
def isStrV : V → Bool
  | .str _ => true
  | _ => false
theorem isStrV_of {K : PySem.W.Frag} {H : Hp} {v : V} {d : PyData} (h : Dp K H v d) : isTy "str" d = isStrV v := by
  cases h <;> rfl
theorem strsOf_none {K : PySem.W.Frag} {H : Hp} : ∀ {vs : List V} {ds : List PyData}, DpAll K H vs ds → vs.all isStrV = false → strsOf ds = none
  | _, _, .nil, e => by simp at e
  | _, _, .cons (v := v) (d := d) h t, e => by
    rw [List.all_cons] at e
    cases h with
    | str z =>
      have : isStrV (.str z) = true := rfl
      rw [this, Bool.true_and] at e
      show (strsOf _).map _ = none
      rw [strsOf_none t e]; rfl
    | non => rfl
    | bl b => rfl
    | int i => rfl
    | lst _ _ => rfl
    | tup _ _ => rfl
theorem strsOf_some {K : PySem.W.Frag} {H : Hp} : ∀ {vs : List V} {ds : List PyData}, DpAll K H vs ds → vs.all isStrV = true → okAll ds = true → ∃ zs : List Str, vs = zs.map V.str ∧ strsOf ds = some zs ∧ ∀ z ∈ zs, z.length ≤ 100000
  | _, _, .nil, _, _ => ⟨[], rfl, rfl, fun z h => absurd h (by simp)⟩
  | _, _, .cons (v := v) (d := d) h t, e, ok => by
    rw [List.all_cons, Bool.and_eq_true] at e
    unfold okAll at ok
    rw [Bool.and_eq_true] at ok
    cases h with
    | str z =>
      obtain ⟨zs, h1, h2, h3⟩ := strsOf_some t e.2 ok.2
      refine ⟨z :: zs, by rw [h1]; rfl, ?_, fun y hy => ?_⟩
      · show (strsOf _).map _ = _
        rw [h2]; rfl
      · rcases List.mem_cons.mp hy with rfl | hy
        · exact of_decide_eq_true ok.1
        · exact h3 y hy
    | non => exact absurd e.1 (by simp [isStrV])
    | bl b => exact absurd e.1 (by simp [isStrV])
    | int i => exact absurd e.1 (by simp [isStrV])
    | lst _ _ => exact absurd e.1 (by simp [isStrV])
    | tup _ _ => exact absurd e.1 (by simp [isStrV])
section
variable {P : Program} {w : World} {K : PySem.W.Frag} {mg : Str → Option Value} {base : Heap}
theorem ok__law_is_prefix (T : Txt w K mg) : FnOk P w K mg base CX0 5 T.a__law_is_prefix T.d__law_is_prefix ["thing"] (spP K fun d => .bl (isPre d)) := by
  refine T.F__law_is_prefix.ok sc__law_is_prefix (fun vs H Q E h => ?_) (fun cdv A outer s H vs Q E hr h => ?_)
  · obtain ⟨v, d, rfl, _⟩ := h
    rfl
  · obtain ⟨v, d, rfl, hd, hok, k⟩ := h
    replace k : ∀ H', Same H H' → Q (.bl (isPre d)) H' := k
    have hr__law_needs : Room 4 _ := hr.mono (by decide)
    have G__law_needs := ok__law_needs (P := P) (base := base) T
    refine ⟨_, (pss_cons (ps_if (PW.pt (pw_or (pt_not (pt_val (pe_callB (call_isiDK (K := K) rfl) (by rfl) T.n_isinstance (by decide +kernel) (pa_cons (pv 0) (pa_cons (pe_bltn (v := .ty "tuple") (u := .type "tuple") (by rfl) T.n_tuple (by decide +kernel) rfl) pa_nil))))) (pw_or (pt_not (pt_chain op_le op_le pe_int (pe_callB call_len_seq (by rfl) T.n_len (by decide +kernel) (pa_cons (pv 0) pa_nil)) pe_int)) (pw_or1 (pt_not (pt_val (pe_callB (cr_all rfl) (by rfl) T.n_all (by decide +kernel) (pa_cons (pe_lc (own := [("part", 2)]) (g := gName 2) (tt := tYes) rfl sc__law_is_prefix.nd (pi_tup (pv 0)) (blkOk_by (own := [("part", 2)]) (N := N__law_is_prefix) (sc := defScope s__law_is_prefix) (by decide +kernel)) (fun _ _ _ _ _ => pg_name (i := 2) sc__law_is_prefix.nd rfl (Or.inl rfl)) (fun _ _ _ _ _ => pts_nil) (fun _ _ _ _ _ => (pe_callB (call_isiDK (K := K) rfl) (by rfl) T.n_isinstance (by decide +kernel) (pa_cons (pv 2) (pa_cons (pe_bltn (v := .ty "str") (u := .type "str") (by rfl) T.n_str (by decide +kernel) rfl) pa_nil))))) pa_nil)))))))) (pss_one (ps_ret pe_bl)) pss_nil)
      (pss_cons (ps_set (i := 1) sc__law_is_prefix.nd rfl (Or.inl rfl) (pe_lstU pa_nil))
      (pss_cons (ps_for PassesOwn.never rfl (pi_tup (pe_revT (pv 0))) (pg_name (i := 2) sc__law_is_prefix.nd rfl (Or.inl rfl)) (pss_cons (ps_set (i := 3) sc__law_is_prefix.nd rfl (Or.inl rfl) (pe_call G__law_needs hr__law_needs (by rfl) T.m__law_needs T.F__law_needs.kp T.B__law_needs .nil pass0 (pa_cons (pv 2) pa_nil)))
      (pss_cons (ps_if (PW.pt (pw_or (pt_cmpR op_lt (pv 3) pe_int (nomark _)) (pw_or1 (pt_cmpR op_gt (pv 3) (pe_callB call_len_seq (by rfl) T.n_len (by decide +kernel) (pa_cons (pv 1) pa_nil)) (nomark _))))) (pss_one (ps_ret pe_bl)) pss_nil)
      (pss_cons (ps_if (PW.pt (pw_and (pt_cmpR op_in_seq (pv 2) (pe_lstU (pa_cons pe_str (pa_cons pe_str pa_nil))) (by rfl)) (pw_and1 (pt_cmpR op_notIn_seq (pe_ix ix_list (pv 1) (pe_un un_neg pe_int) (fun _ _ => rfl)) (pe_lstU (pa_cons pe_str (pa_cons pe_str (pa_cons pe_str (pa_cons pe_str (pa_cons pe_str (pa_cons pe_str (pa_cons pe_str (pa_cons pe_str (pa_cons pe_str pa_nil)))))))))) (by rfl))))) (pss_one (ps_ret pe_bl)) pss_nil)
      (pss_one (ps_set (i := 1) sc__law_is_prefix.nd rfl (Or.inl rfl) (pe_op op_catL (pe_slice sl_listU (pv 1) po_none (po_some (pe_op op_sub (pe_callB call_len_seq (by rfl) T.n_len (by decide +kernel) (pa_cons (pv 1) pa_nil)) (pv 3)))) (pe_lstU (pa_cons (pe_ifExp (pt_cmpR op_eqI (pv 3) pe_int (nomark _)) (pv 2) pe_str) pa_nil)))))))))
      (pss_one (ps_ret (pe_cmpR op_eqI (pe_callB call_len_seq (by rfl) T.n_len (by decide +kernel) (pa_cons (pv 1) pa_nil)) pe_int (nomark _))))))), ?_⟩
    have k0 := k H (Same.refl _)
    refine seq_op fun N hN => ?_
    walk_at "rs"
    refine ⟨v, "tuple", ⟨rfl, rfl⟩, d, hd, by simp, ?_⟩
    cases hd with
    | @tup a xs ds hs ha =>
      have hl : xs.length = ds.length := by
        have : ∀ {vs : List V} {es : List PyData}, DpAll K H vs es → vs.length = es.length := by
          intro vs es h
          induction es generalizing vs with
          | nil => cases h; rfl
          | cons a r ih => cases h with | cons _ h2 => simp [ih h2]
        exact this ha
      have ep : isPre (.tuple ds) = (decide (1 ≤ ds.length) && decide (ds.length ≤ 30) && preZ (strsOf ds)) := rfl
      refine iteFF (by simp [isTy]) ⟨a, rfl, xs, .inr hs, ite2 (fun c1 => ite2 (fun c2 => ?_) (fun c2 => ?_)) (fun c1 => ?_)⟩
      · have e : isPre (.tuple ds) = false := by
          rw [ep, decide_eq_false (p := ds.length ≤ 30) (by omega), Bool.and_false, Bool.false_and]
        rw [e] at k0; exact k0
      · have e : isPre (.tuple ds) = preZ (strsOf ds) := by
          rw [ep, decide_eq_true (p := 1 ≤ ds.length) (by omega), decide_eq_true (p := ds.length ≤ 30) (by omega), Bool.true_and, Bool.true_and]
        rw [e] at k
        refine ⟨_, rfl, a, rfl, ⟨_, hs⟩, fun D hD => lc_map walk_tup xs (fun v => .bl (isStrV v)) hD (by omega) rfl (fun k H x H' _ y => y) (fun H s => Same.seqT s hs) ?_ ?_⟩
        · intro x H1 hx s1 Q2 hq
          walk_at "rs"
          obtain ⟨i, hi⟩ := List.mem_iff_getElem?.mp hx
          have gd : ∀ {vs : List V} {es : List PyData} {i : Nat}, DpAll K H vs es → vs[i]? = some x → ∃ d, Dp K H x d := by
            intro vs es i h e
            induction es generalizing vs i with
            | nil => cases h; simp at e
            | cons a r ih =>
              cases h with
              | cons h1 h2 =>
                cases i with
                | zero => simp at e; subst e; exact ⟨_, h1⟩
                | succ i => exact ih h2 (by simpa using e)
          obtain ⟨d, hd⟩ := gd ha hi
          refine ⟨x, "str", ⟨rfl, rfl⟩, d, dp_same s1 hd, by simp, ?_⟩
          rw [isStrV_of hd]
          exact hq H1 (Same.refl _)
        · intro H1 s1 h1
          refine ⟨D, xs.map isStrV, rfl, SqL.of (by rw [h1, List.map_map]; rfl), _, rfl, ?_⟩
          rw [all_map_id]
          have k1 := k H1 s1
          refine ite2 (fun e1 => ?_) (fun e1 => hN _ _ ?_)
          · rw [strsOf_none ha e1] at k1
            exact k1
          clear hN N k1 k0
          simp only [Bool.not_eq_false] at e1
          obtain ⟨zs, hx, hz, hzl⟩ := strsOf_some ha e1 (okD_tup.mp hok).2
          rw [hz] at k
          replace k : ∀ H', Same H H' → Q (.bl (finP (walkP [] zs.reverse))) H' := k
          subst hx
          rw [List.length_map] at hl
          have zl : zs.length ≤ 30 := by rw [List.length_map] at c2; omega
          refine seq_op fun N hN => ?_
          walk_at "rs"
          refine ⟨by decide, fun p H2 s2 h02 h2 => hN _ _ ?_⟩
          clear hN N
          have s12 := Same.trans s1 s2
          refine cut_seq (fun σ H3 => ∃ (p : Addr) (st : List Str) (x y : Option V), σ = [some (.ref a), some (.ref p), x, y] ∧ H3 p = some (.lst (st.map V.str)) ∧ walkP [] zs.reverse = some st ∧ st.length ≤ 30 ∧ Same H H3) (fun N hN => ?_) ?_
          · refine ⟨_, rfl, a, zs.map V.str, rfl, Same.seqT s12 hs, fun q H3 s3 h03 h3 => ⟨q, rfl, ⟨_, .inl (.inl h3)⟩, for_tup (K := K) (a := q) (xs := (zs.map V.str).reverse) (fun i σ H4 => ∃ (p : Addr) (st : List Str) (x y : Option V), σ = [some (.ref a), some (.ref p), x, y] ∧ H4 p = some (.lst (st.map V.str)) ∧ walkP st (zs.reverse.drop i) = walkP [] zs.reverse ∧ st.length ≤ i ∧ Same H3 H4)
              ⟨p, [], none, none, rfl, s3 _ _ h2, rfl, Nat.le_refl _, Same.refl _⟩ (fun i σ H4 _ ⟨_, _, _, _, _, _, _, _, s4⟩ => .inl (.inl (s4 _ _ h3))) ?_ ?_⟩⟩
            · rintro i y σ H4 hi ⟨p4, st, x, y2, rfl, h4, hw, hsl, s4⟩
              rw [← List.map_reverse, List.getElem?_map] at hi
              obtain ⟨z, hz4, rfl⟩ := Option.map_eq_some_iff.mp hi
              have hil : i < zs.reverse.length := (List.getElem?_eq_some_iff.mp hz4).1
              have ed : zs.reverse.drop i = z :: zs.reverse.drop (i + 1) := by
                rw [List.drop_eq_getElem_cons hil, (List.getElem?_eq_some_iff.mp hz4).2]
              rw [ed] at hw
              have hzz : z.length ≤ 100000 := hzl z (List.mem_reverse.mp (List.mem_of_getElem? hz4))
              have s14 := Same.trans s12 (Same.trans s3 s4)
              have i30 : i < 30 := by rw [List.length_reverse] at hil; omega
              refine seq_op fun N2 hN2 => ?_
              walk_at "rs"
              refine ⟨z, rfl, hzz, fun H5 s5 => hN2 _ _ ?_⟩
              clear hN2 N2
              have h5 := s5 _ _ h4
              have s15 := Same.trans s14 s5
              refine seq_op fun N2 hN2 => ?_
              walk_at "rs"
              have ew : walkP st (z :: zs.reverse.drop (i + 1)) = (match stepP st z with | none => none | some st' => walkP st' (zs.reverse.drop (i + 1))) := rfl
              rw [ew] at hw
              have bad : stepP st z = none → ∀ H', Same H5 H' → Q (.bl false) H' := fun q H' s => by
                rw [q] at hw
                have := k H' (Same.trans s15 s)
                rw [← hw] at this
                exact this
              refine ite2 (fun e1 => bad (by rw [stepP, if_pos (.inl e1)]) _ (Same.refl _)) (fun e1 => ⟨_, .inl (SqL.of h5), ite2 (fun e2 => bad (by rw [List.length_map] at e2; rw [stepP, if_pos (.inr e2)]) _ (Same.refl _)) (fun e2 => hN2 _ _ ?_)⟩)
              clear hN2 N2
              rw [List.length_map] at e2
              have es : stepP st z = if inV (.str z) modV = true ∧ (∀ y, st[st.length - 2]? = some y → inV (.str y) numV = false) then none else some (st.take (st.length - (needsZ z).toNat) ++ [if needsZ z = 0 then z else ""]) := by
                rw [stepP, if_neg (by omega)]
              refine seq_op fun N2 hN2 => ?_
              walk_at "rs"
              refine ⟨by decide, fun q6 H6 s6 h06 h6 => ⟨modV, .inl (SqL.of h6), rfl, by decide +kernel, ?_⟩⟩
              have h56 := s6 _ _ h5
              have s16 := Same.trans s15 s6
              -- what follows: stack = stack[:len(stack) - needs] + [..]
              have rest : ∀ H7, Same H5 H7 → (¬ (inV (.str z) modV = true ∧ (∀ y, st[st.length - 2]? = some y → inV (.str y) numV = false))) → N2 [some (V.ref a), some (V.ref p4), some (V.str z), some (V.int (needsZ z))] H7 := by
                intro H7 s7 hne
                rw [if_neg hne] at es
                refine hN2 _ _ ?_
                walk_at "rs"
                have h57 := s7 _ _ h5
                have ec : cutV (st.map V.str) none (some (((st.map V.str).length : Int) - needsZ z)) = (st.take (st.length - (needsZ z).toNat)).map V.str := by
                  rw [List.length_map, show ((st.length : Int) - needsZ z) = ((st.length - (needsZ z).toNat : Nat) : Int) by omega, cutV_take, List.map_take]
                refine ⟨_, .inl (SqL.of h57), _, SqL.of h57, fun q8 H8 s8 h08 h8 => ?_⟩
                rw [ec] at h8
                have fin : ∀ (t9 : Str), (st.take (st.length - (needsZ z).toNat) ++ [if needsZ z = 0 then z else ""]) = st.take (st.length - (needsZ z).toNat) ++ [t9] → 1 ≤ sizeLine ∧ ∀ (p_1 : Addr) (H2_1 : Hp), Same H8 H2_1 → H8 p_1 = none → H2_1 p_1 = some (HO.lst [V.str t9]) →
                    ∃ x, H2_1 q8 = some (HO.lst x) ∧ ∃ x_2, H2_1 p_1 = some (HO.lst x_2) ∧ x.length + x_2.length ≤ sizeLine ∧ ∀ (p : Addr) (H2 : Hp), Same H2_1 H2 → H2_1 p = none → H2 p = some (HO.lst (x ++ x_2)) →
                      ∃ (p_2 : Addr) (st : List Str) (x y : Option V), (p = p_2 ∧ some (V.str z) = x ∧ some (V.int (needsZ z)) = y) ∧ H2 p_2 = some (HO.lst (List.map V.str st)) ∧ walkP st (List.drop (i + 1) zs.reverse) = walkP [] zs.reverse ∧ st.length ≤ i + 1 ∧ Same H3 H2 := by
                  intro t9 et
                  refine ⟨by decide, fun q9 H9 s9 h09 h9 => ⟨_, s9 _ _ h8, _, h9, ?_, fun q10 H10 s10 h010 h10 => ⟨q10, st.take (st.length - (needsZ z).toNat) ++ [t9], _, _, ⟨rfl, rfl, rfl⟩, ?_, ?_, ?_, ?_⟩⟩⟩
                  · rw [List.length_map, List.length_take]
                    exact Nat.le_trans (show _ ≤ 100 by simp only [List.length_cons, List.length_nil]; omega) (by decide)
                  · rw [h10, List.map_append]
                    rfl
                  · rw [es] at hw
                    rw [← hw, ← et]
                  · rw [List.length_append, List.length_take, List.length_singleton]
                    omega
                  · exact Same.trans s4 (Same.trans s5 (Same.trans s7 (Same.trans s8 (Same.trans s9 s10))))
                refine ite2 (fun c => fin z (by rw [if_pos c])) (fun c => fin "" (by rw [if_neg c]))
              refine ite2 (fun e3 => ?_) (fun e3 => rest H6 s6 fun q => e3 q.1)
              have n2 : needsZ z = 2 := by
                have q : inV (.str z) (ops2L.map V.str) = true := by
                  have e3 : inV (.str z) ((["mod", "div"] : List Str).map V.str) = true := e3
                  rw [inV_map] at e3 ⊢
                  simp only [List.any_eq_true, decide_eq_true_eq] at e3 ⊢
                  obtain ⟨y, hy, rfl⟩ := e3
                  refine ⟨y, ?_, rfl⟩
                  have hy' : y = "mod" ∨ y = "div" := by simpa using hy
                  rcases hy' with rfl | rfl <;> decide +kernel
                rw [needsZ, if_pos q]
              have l2 : 2 ≤ st.length := by omega
              obtain ⟨y, hy⟩ : ∃ y, st[st.length - 2]? = some y := ⟨_, List.getElem?_eq_getElem (by omega)⟩
              refine ⟨_, SqL.of h56, .str y, ?_, by decide, fun q7 H7 s7 h07 h7 => ⟨numV, .inl (SqL.of h7), rfl, by decide +kernel, ite2 (fun e4 => ?_) (fun e4 => ?_)⟩⟩
              · unfold atI ixN
                rw [List.length_map, if_neg (by decide), if_pos (by omega)]
                show (st.map V.str)[((-2 : Int) + (st.length : Int)).toNat]? = _
                rw [show ((-2 : Int) + (st.length : Int)).toNat = st.length - 2 by omega, List.getElem?_map, hy]
                rfl
              · exact bad (by rw [es, if_pos ⟨e3, fun y2 h2 => by rw [hy] at h2; cases h2; exact e4⟩]) _ (Same.trans s6 s7)
              · refine rest H7 (Same.trans s6 s7) fun q => ?_
                have := q.2 y hy
                rw [this] at e4
                exact e4 rfl
            · rintro σ H4 ⟨p4, st, x, y2, rfl, h4, hw, hsl, s4⟩
              refine hN _ _ ⟨p4, st, x, y2, rfl, h4, ?_, ?_, Same.trans s12 (Same.trans s3 s4)⟩
              · rw [← hw, List.drop_eq_nil_of_le (by simp)]
                rfl
              · rw [List.length_reverse, List.length_map] at hsl
                omega
          · rintro σ H3 ⟨p3, st, x, y, rfl, h3, hw, hsl, s3⟩
            walk_at "rs"
            refine ⟨_, .inl (SqL.of h3), ?_⟩
            have := k H3 s3
            rw [hw] at this
            rw [List.length_map]
            have e1 : decide ((st.length : Int) = 1) = finP (some st) := by
              show _ = decide (st.length = 1)
              by_cases c : st.length = 1
              · rw [decide_eq_true c, decide_eq_true (by omega)]
              · rw [decide_eq_false c, decide_eq_false (by omega)]
            rw [e1]
            exact this
      · have e : isPre (.tuple ds) = false := by
          rw [ep, decide_eq_false (p := 1 ≤ ds.length) (by omega), Bool.false_and, Bool.false_and]
        rw [e] at k0; exact k0
    | non => exact iteTT (by simp [isTy]) k0
    | bl b => exact iteTT (by simp [isTy]) k0
    | int i => exact iteTT (by simp [isTy]) k0
    | lst hs ha => exact iteTT (by simp [isTy]) k0
    | str z => exact iteTT (by simp [isTy]) k0
end
end LK

set_option Elab.async false
set_option linter.all false
set_option maxRecDepth 100000
namespace LK
open PySem PySem.Spec PyProof.Rows L2
local macro_rules | `(tactic| walk_at "rs") => `(tactic| simp only [cxK, cxNK, tCallZ, tAsg, tOp, rI0, rS0, rB0, rI, rU, tUn, rEq, rNe, rIxL, rIxT, rIxS, rSetL, rSlLU, rSlS, rSlU, rCatL, rCatU, rRepL, rIn, tVar, tC, gName, gSub, tIfS, tTest, tB, tAnd, tOr, tNot, tNotV, tAndV, tOrV, tIf, tCall, tCons, tNil, tCB, tDrop, tRet, tRetN, tNext, tLstU, tTupU, tM0, tM1, tPar, tBM, tBM0, rAppend, rPop, tBreak, tCont, tChain, tSl, tPart, tNoPart, L2.start, List.map, List.length_cons, List.length_nil, List.replicate, List.cons_append, List.nil_append, List.append_nil, List.getElem?_cons_zero, List.getElem?_cons_succ, List.set_cons_zero, List.set_cons_succ, Option.some.injEq, V.int.injEq, V.ref.injEq, V.str.injEq, V.bl.injEq, exists_eq_left', exists_eq_left, exists_and_left, decide_eq_true_eq, List.cons.injEq, and_true, true_and, scal, Bool.not_eq_true', decide_eq_false_iff_not, Nat.zero_add, Nat.reduceAdd, Nat.reduceSub, reduceCtorEq, false_and, exists_false, false_or, or_false, CPow, CMul, CDiv, Int.reduceToNat, ↓reduceIte, wipe])
local macro_rules | `(tactic| walk_at "st") => `(tactic| (refine seq_op fun N hN => ?_; walk_at "rs"))
local macro_rules | `(tactic| walk_at "sd") => `(tactic| first | assumption | decide | omega)
local macro_rules | `(tactic| walk_at "rd") => `(tactic| repeat (first
  | refine ⟨_, SqL.of (by assumption), ?_⟩ | refine ⟨_, SqL.of upd_same, ?_⟩ | refine ⟨_, .inl (SqL.of (by assumption)), ?_⟩ | refine ⟨_, (by assumption : _ = some (HO.lst _)), ?_⟩ | refine ⟨_, upd_same, ?_⟩
  | refine ⟨_, rfl, ?_⟩ | refine And.intro (by walk_at "sd") ?_))

theorem small_str {i : Int} (h1 : -20 ≤ i) (h2 : i ≤ 20) : (Str.ofString (toString i)).length ≤ 20 := by
  have q : ∀ k : Fin 41, (Str.ofString (toString (((k.val : Nat) : Int) - 20))).length ≤ 20 := by decide +kernel
  have e := q ⟨(i + 20).toNat, by omega⟩
  rw [show (((i + 20).toNat : Nat) : Int) - 20 = i by omega] at e
  exact e
theorem small_log {i : Int} (h1 : -20 ≤ i) (h2 : i ≤ 20) : i.natAbs.log2 < 1920 := Nat.lt_of_le_of_lt (Nat.log2_le_self _) (by omega)
/-- what holds of the two lists of _law_prefix -/
structure Pfx (b c : Addr) (H H2 : Hp) (o m : Addr) (os ms : List Str) : Prop where
  bag : Bag H2 b c
  kp : Kp b H H2
  o0 : H o = none
  m0 : H m = none
  om : o ≠ m
  ob : o ≠ b
  mb : m ≠ b
  oc : c ≠ o
  mc : c ≠ m
  ho : H2 o = some (.lst (os.map V.str))
  hm : H2 m = some (.lst (ms.map V.str))
  eo : ∀ z ∈ os, z = "e" ∨ z = "k"
  em : ∀ z ∈ ms, z.length ≤ 20
theorem kp_upd {b p : Addr} {H H2 : Hp} {o : HO} (k : Kp b H H2) (h0 : H p = none) : Kp b H (L2.upd H2 p o) := fun a u e => by
  obtain ⟨h1, h2⟩ := hb_some e
  rw [hb_ne h1, upd_ne (ne_of_none h2 h0)]
  exact k.hd h2 h1
section
variable {b c : Addr} {H H2 H3 : Hp} {o m : Addr} {os ms : List Str}
theorem Pfx.call (p : Pfx b c H H2 o m os ms) (B : Bag H3 b c) (k : Kp b H2 H3) : Pfx b c H H3 o m os ms :=
  ⟨B, Same.trans p.kp k, p.o0, p.m0, p.om, p.ob, p.mb, p.oc, p.mc, k.hd p.ho p.ob, k.hd p.hm p.mb, p.eo, p.em⟩
theorem Pfx.same (p : Pfx b c H H2 o m os ms) (s : Same H2 H3) : Pfx b c H H3 o m os ms := p.call (p.bag.same s) (Kp.of s)
theorem Pfx.pushm (p : Pfx b c H H2 o m os ms) {z : Str} (hz : z.length ≤ 20) : Pfx b c H (L2.upd H2 m (.lst (ms.map V.str ++ [V.str z]))) o m os (ms ++ [z]) :=
  ⟨p.bag.upd p.mb.symm p.mc, kp_upd p.kp p.m0, p.o0, p.m0, p.om, p.ob, p.mb, p.oc, p.mc, by rw [upd_ne p.om]; exact p.ho, by rw [upd_same, List.map_append]; rfl, p.eo, fun y hy => by
    rcases List.mem_append.mp hy with hy | hy
    · exact p.em y hy
    · obtain rfl : y = z := by simpa using hy
      exact hz⟩
theorem Pfx.pusho (p : Pfx b c H H2 o m os ms) {z : Str} (hz : z = "e" ∨ z = "k") : Pfx b c H (L2.upd H2 o (.lst (os.map V.str ++ [V.str z]))) o m (os ++ [z]) ms :=
  ⟨p.bag.upd p.ob.symm p.oc, kp_upd p.kp p.o0, p.o0, p.m0, p.om, p.ob, p.mb, p.oc, p.mc, by rw [upd_same, List.map_append]; rfl, by rw [upd_ne p.om.symm]; exact p.hm, fun y hy => by
    rcases List.mem_append.mp hy with hy | hy
    · exact p.eo y hy
    · obtain rfl : y = z := by simpa using hy
      exact hz, p.em⟩
theorem Pfx.pop (p : Pfx b c H H2 o m os ms) : Pfx b c H (L2.upd H2 o (.lst (os.map V.str).dropLast)) o m os.dropLast ms :=
  ⟨p.bag.upd p.ob.symm p.oc, kp_upd p.kp p.o0, p.o0, p.m0, p.om, p.ob, p.mb, p.oc, p.mc, by rw [upd_same, List.map_dropLast], by rw [upd_ne p.om.symm]; exact p.hm, fun y hy => p.eo y (List.dropLast_sublist _ |>.subset hy), p.em⟩
/-- another list in o's place -/
theorem Pfx.newo (p : Pfx b c H H2 o m os ms) (s : Same H2 H3) {o2 : Addr} {os2 : List Str} (h0 : H2 o2 = none) (h : H3 o2 = some (.lst (os2.map V.str))) (eo : ∀ z ∈ os2, z = "e" ∨ z = "k") : Pfx b c H H3 o2 m os2 ms := by
  have q := p.same s
  obtain ⟨xb, eb⟩ := p.bag.at
  obtain ⟨xc, ec⟩ := p.bag.at2
  refine ⟨q.bag, q.kp, Kp.bn p.kp eb h0, p.m0, fun e => ?_, fun e => ?_, p.mb, fun e => ?_, p.mc, h, q.hm, eo, p.em⟩
  · rw [e, p.hm] at h0; cases h0
  · rw [e, eb] at h0; cases h0
  · rw [← e, ec] at h0; cases h0
end
theorem strs_lay : ∀ {zs : List Str}, (∀ z ∈ zs, PyData.canLay0 (.str z) = true) → PyData.canLayAll0 (zs.map PyData.str) = true
  | [], _ => rfl
  | z :: zs, h => by
    show (PyData.canLay0 (.str z) && PyData.canLayAll0 (zs.map PyData.str)) = true
    rw [h z List.mem_cons_self, strs_lay fun y hy => h y (List.mem_cons_of_mem _ hy)]; rfl
theorem strs_depth : ∀ zs : List Str, PyData.depthAll (zs.map PyData.str) = 0
  | [] => rfl
  | z :: zs => by
    show max (PyData.depth (.str z)) (PyData.depthAll (zs.map PyData.str)) = 0
    rw [strs_depth zs]; rfl
theorem strs_shaped {zs : List Str} (h : ∀ z ∈ zs, PyData.canLay0 (.str z) = true) : SeqAt.shaped (.list (zs.map PyData.str)) = true := by
  unfold SeqAt.shaped
  rw [Bool.and_eq_true]
  refine ⟨strs_lay h, decide_eq_true ?_⟩
  show PyData.depthAll (zs.map PyData.str) + 1 ≤ 64
  rw [strs_depth]; decide
theorem strs_dpa {K : PySem.W.Frag} {H : Hp} : ∀ (zs : List Str), DpAll K H (zs.map V.str) (zs.map PyData.str)
  | [] => .nil
  | z :: zs => .cons (.str z) (strs_dpa zs)
section
variable {P : Program} {w : World} {K : PySem.W.Frag} {mg : Str → Option Value} {base : Heap}
theorem ok__law_prefix (T : Txt w K mg) : FnOk P w K mg base CX0 3 T.a__law_prefix T.d__law_prefix ["bag", "parts", "size"] (sp__law_prefix K) := by
  refine T.F__law_prefix.ok sc__law_prefix (fun vs H Q E h => ?_) (fun cdv A outer s H vs Q E hr h => ?_)
  · obtain ⟨b, c, p, parts, size, rfl, _⟩ := h
    rfl
  · obtain ⟨b, c, p, parts, size, rfl, B, hp, hpl, hpn, k⟩ := h
    have hr__law_draw : Room 1 _ := hr.mono (by decide)
    have G__law_draw := ok__law_draw (P := P) (base := base) T
    have hr__law_of : Room 2 _ := hr.mono (by decide)
    have G__law_of := ok__law_of (P := P) (base := base) T
    refine ⟨_, (pss_cons (ps_par (i := 3) (j := 4) (by rfl) sc__law_prefix.nd rfl rfl (by decide) rfl rfl (pa_cons (pe_lstU (pa_cons pe_str pa_nil)) (pa_cons (pe_lstU pa_nil) pa_nil)) (by rfl))
      (pss_cons (ps_for PassesOwn.never rfl (pi_range1 (by rfl) T.n_range (pa_cons pe_int pa_nil)) (pg_name (i := 5) sc__law_prefix.nd rfl (Or.inl rfl)) (pss_cons (ps_if (pt_cmpR (op_eqD hr.units) (pv 3) (pe_lstU pa_nil) (nomark _)) (pss_one ps_break) pss_nil)
      (pss_cons (ps_set (i := 6) sc__law_prefix.nd rfl (Or.inl rfl) (pe_bm0 PySem.F.plainAttrs_list PySem.F.slot_list_pop PySem.F.type_list_pop mt_pop (pv 3)))
      (pss_cons (ps_set (i := 7) sc__law_prefix.nd rfl (Or.inl rfl) (pe_op op_sub (pe_op op_sub (pe_op op_sub (pv 2) (pe_callB call_len_seq (by rfl) T.n_len (by decide +kernel) (pa_cons (pv 4) pa_nil))) (pe_callB call_len_seq (by rfl) T.n_len (by decide +kernel) (pa_cons (pv 3) pa_nil))) pe_int))
      (pss_cons (ps_set (i := 8) sc__law_prefix.nd rfl (Or.inl rfl) (pe_call G__law_draw hr__law_draw (by rfl) T.m__law_draw T.F__law_draw.kp T.B__law_draw .nil pass0 (pa_cons (pv 0) (pa_cons pe_int pa_nil))))
      (pss_one (ps_if (pt_cmpR op_eqS (pv 6) pe_str (nomark _)) (pss_one (ps_expr (pe_bm PySem.F.plainAttrs_list PySem.F.slot_list_append PySem.F.type_list_append mt_append (pv 4) (pa_cons (pe_callTy call_str_int (by rfl) T.n_str (by decide +kernel) (pa_cons (pe_op op_add pe_int (pe_call G__law_draw hr__law_draw (by rfl) T.m__law_draw T.F__law_draw.kp T.B__law_draw .nil pass0 (pa_cons (pv 0) (pa_cons pe_int pa_nil)))) pa_nil)) pa_nil)))) (pss_one (ps_if (PW.pt (pw_and (pt_cmpR op_eqI (pv 8) pe_int (nomark _)) (pw_and1 (pt_cmpR op_gt (pv 7) pe_int (nomark _))))) (pss_cons (ps_expr (pe_bm PySem.F.plainAttrs_list PySem.F.slot_list_append PySem.F.type_list_append mt_append (pv 4) (pa_cons pe_str pa_nil)))
      (pss_one (ps_expr (pe_bm PySem.F.plainAttrs_list PySem.F.slot_list_append PySem.F.type_list_append mt_append (pv 3) (pa_cons pe_str pa_nil))))) (pss_one (ps_if (PW.pt (pw_and (pt_cmpR op_eqI (pv 8) pe_int (nomark _)) (pw_and1 (pt_cmpR op_gt (pv 7) pe_int (nomark _))))) (pss_cons (ps_expr (pe_bm PySem.F.plainAttrs_list PySem.F.slot_list_append PySem.F.type_list_append mt_append (pv 4) (pa_cons pe_str pa_nil)))
      (pss_one (ps_set (i := 3) sc__law_prefix.nd rfl (Or.inl rfl) (pe_op op_catL (pv 3) (pe_lstU (pa_cons pe_str (pa_cons pe_str (pa_cons pe_str pa_nil)))))))) (pss_one (ps_if (PW.pt (pw_and (pt_cmpR op_eqI (pv 8) pe_int (nomark _)) (pw_and1 (pt_cmpR op_gt (pv 7) pe_int (nomark _))))) (pss_cons (ps_expr (pe_bm PySem.F.plainAttrs_list PySem.F.slot_list_append PySem.F.type_list_append mt_append (pv 4) (pa_cons (pe_call G__law_of hr__law_of (by rfl) T.m__law_of T.F__law_of.kp T.B__law_of .nil pass0 (pa_cons (pv 0) (pa_cons (pe_lstU (pa_cons pe_str (pa_cons pe_str pa_nil))) pa_nil))) pa_nil)))
      (pss_one (ps_set (i := 3) sc__law_prefix.nd rfl (Or.inl rfl) (pe_op op_catL (pv 3) (pe_lstU (pa_cons pe_str (pa_cons pe_str pa_nil))))))) (pss_one (ps_if (PW.pt (pw_and (pt_cmpR op_gt (pv 8) pe_int (nomark _)) (pw_and1 (pt_cmpR op_gt (pv 7) pe_int (nomark _))))) (pss_cons (ps_expr (pe_bm PySem.F.plainAttrs_list PySem.F.slot_list_append PySem.F.type_list_append mt_append (pv 4) (pa_cons (pe_call G__law_of hr__law_of (by rfl) T.m__law_of T.F__law_of.kp T.B__law_of .nil pass0 (pa_cons (pv 0) (pa_cons (pe_lstU (pa_cons pe_str (pa_cons pe_str (pa_cons pe_str (pa_cons pe_str (pa_cons pe_str (pa_cons pe_str (pa_cons pe_str (pa_cons pe_str (pa_cons pe_str (pa_cons pe_str (pa_cons pe_str (pa_cons pe_str (pa_cons pe_str (pa_cons pe_str (pa_cons pe_str pa_nil)))))))))))))))) pa_nil))) pa_nil)))
      (pss_one (ps_set (i := 3) sc__law_prefix.nd rfl (Or.inl rfl) (pe_op op_catL (pv 3) (pe_lstU (pa_cons pe_str (pa_cons pe_str pa_nil))))))) (pss_one (ps_if (PW.pt (pw_or (pt_cmpR op_eqI (pv 8) pe_int (nomark _)) (pw_or1 (pt_cmpR (op_eqD hr.units) (pv 1) (pe_lstU pa_nil) (nomark _))))) (pss_one (ps_expr (pe_bm PySem.F.plainAttrs_list PySem.F.slot_list_append PySem.F.type_list_append mt_append (pv 4) (pa_cons (pe_callTy call_str_int (by rfl) T.n_str (by decide +kernel) (pa_cons (pe_op op_sub (pe_call G__law_draw hr__law_draw (by rfl) T.m__law_draw T.F__law_draw.kp T.B__law_draw .nil pass0 (pa_cons (pv 0) (pa_cons pe_int pa_nil))) pe_int) pa_nil)) pa_nil)))) (pss_one (ps_expr (pe_bm PySem.F.plainAttrs_list PySem.F.slot_list_append PySem.F.type_list_append mt_append (pv 4) (pa_cons (pe_call G__law_of hr__law_of (by rfl) T.m__law_of T.F__law_of.kp T.B__law_of .nil pass0 (pa_cons (pv 0) (pa_cons (pv 1) pa_nil))) pa_nil)))))))))))))))))))))
      (pss_one (ps_ret (pe_callTy call_tupleN (by rfl) T.n_tuple (by decide +kernel) (pa_cons (pv 4) pa_nil)))))), ?_⟩
    refine seq_op fun N hN => ?_
    walk_at "rs"
    refine ⟨by decide, fun o H1 s1 o0 h1 => ⟨by decide, fun m H2 s2 m0 h2 => ⟨_, _, ⟨rfl, rfl⟩, hN _ _ ?_⟩⟩⟩
    clear hN N
    obtain ⟨xb, eb⟩ := B.at
    obtain ⟨xc, ec⟩ := B.at2
    have P0 : Pfx b c H H2 o m ["e"] [] := by
      refine ⟨(B.same s1).same s2, Kp.of (Same.trans s1 s2), o0, Same.dom s1 m m0, fun e => ?_, fun e => ?_, fun e => ?_, fun e => ?_, fun e => ?_, s2 _ _ h1, h2, fun z hz => .inl (by simpa using hz), fun z hz => absurd hz (by simp)⟩
      · rw [e, m0] at h1; cases h1
      · rw [e, eb] at o0; cases o0
      · rw [e, s1 _ _ eb] at m0; cases m0
      · rw [← e, ec] at o0; cases o0
      · rw [← e, s1 _ _ ec] at m0; cases m0
    refine cut_seq (fun σ H3 => ∃ (o : Addr) (os ms : List Str) (x1 x2 x3 x4 : Option V), σ = [some (.ref b), some (.ref p), some (.int size), some (.ref o), some (.ref m), x1, x2, x3, x4] ∧ Pfx b c H H3 o m os ms ∧ ms.length ≤ 30) (fun N hN => ?_) ?_
    · refine ⟨30, rfl, by decide, by decide, for_range (lo := 0) (n := (30 : Int).toNat) (fun i σ H3 => ∃ (o : Addr) (os ms : List Str) (x1 x2 x3 x4 : Option V), σ = [some (.ref b), some (.ref p), some (.int size), some (.ref o), some (.ref m), x1, x2, x3, x4] ∧ Pfx b c H H3 o m os ms ∧ ms.length ≤ i ∧ os.length ≤ 1 + 3 * i)
        ⟨o, _, _, none, none, none, none, rfl, P0, Nat.le_refl _, by decide⟩ ?_ ?_⟩
      · rintro i σ H3 hi ⟨o, os, ms, x1, x2, x3, x4, rfl, P3, hml, hol⟩
        have hi30 : i < 30 := hi
        refine seq_op fun N2 hN2 => ?_
        walk_at "rs"
        have d1 : Dp K H3 (.ref o) (.list (os.map PyData.str)) := .lst (SqL.of P3.ho) (strs_dpa os)
        refine ⟨by decide, fun q H4 s4 h04 h4 => ⟨_, .list [], dp_same s4 d1, .lst (SqL.of h4) .nil, ?_, by decide, _, rfl, ite2 (fun e => ?_) (fun e => hN2 _ _ ?_)⟩⟩
        · refine strs_shaped fun z hz => ?_
          rcases P3.eo z hz with rfl | rfl <;> decide +kernel
        · exact hN _ _ ⟨o, os, ms, _, _, _, _, rfl, P3.same s4, by omega⟩
        clear hN2 N2
        have P4 := P3.same s4
        have one : os ≠ [] := fun z => e (by subst z; rfl)
        have ol : 0 < os.length := by cases os with | nil => exact absurd rfl one | cons => exact Nat.succ_pos _
        obtain ⟨z0, hz0⟩ : ∃ z0, os[os.length - 1]? = some z0 := ⟨_, List.getElem?_eq_getElem (by omega)⟩
        refine seq_op fun N2 hN2 => ?_
        walk_at "rs"
        refine ⟨.inl ⟨rfl, _, SqL.of P4.ho⟩, _, P4.ho, .str z0, by rw [List.length_map, List.getElem?_map, hz0] <;> rfl, hN2 _ _ ?_⟩
        clear hN2 N2
        have P5 := P4.pop
        have ol5 : os.dropLast.length ≤ 3 * i := by rw [List.length_dropLast]; omega
        show tSeq _ _ _ _ (L2.upd H4 o (.lst (os.map V.str).dropLast))
        generalize L2.upd H4 o (.lst (os.map V.str).dropLast) = H5 at P5
        generalize os.dropLast = os5 at P5 ol5
        clear P4 d1 e one ol hz0 P3
        refine seq_op fun N2 hN2 => ?_
        walk_at "rs"
        refine ⟨_, .inl (SqL.of P5.hm), _, .inl (SqL.of P5.ho), hN2 _ _ ?_⟩
        clear hN2 N2
        refine seq_op fun N2 hN2 => ?_
        walk_at "rs"
        refine ⟨b, c, 6, rfl, P5.bag, by decide, by decide, fun way H6 w0 w1 B6 K6 => hN2 _ _ ?_⟩
        clear hN2 N2
        have P6 := P5.call B6 K6
        have mlen : (ms.map V.str).length < sizeLine := Nat.lt_of_le_of_lt (show _ ≤ 100 by rw [List.length_map]; omega) (by decide)
        -- a word and two lists are put on, the invariant at the next turn
        have next : ∀ (o7 : Addr) (os7 : List Str) (z7 : Str) (H7 : Hp) (y1 y2 y3 y4 : Option V), Pfx b c H H7 o7 m os7 (ms ++ [z7]) → os7.length ≤ 1 + 3 * (i + 1) → ∃ (o : Addr) (os ms : List Str) (x1 x2 x3 x4 : Option V), [some (V.ref b), some (.ref p), some (.int size), some (.ref o7), some (.ref m), y1, y2, y3, y4] = [some (.ref b), some (.ref p), some (.int size), some (.ref o), some (.ref m), x1, x2, x3, x4] ∧ Pfx b c H H7 o m os ms ∧ ms.length ≤ i + 1 ∧ os.length ≤ 1 + 3 * (i + 1) :=
          fun o7 os7 z7 H7 y1 y2 y3 y4 P7 l7 => ⟨o7, os7, ms ++ [z7], y1, y2, y3, y4, rfl, P7, by rw [List.length_append]; simp only [List.length_singleton]; omega, l7⟩
        clear P5
        refine nx_op fun N2 hN2 => ?_
        replace hN2 := fun o7 os7 z7 H7 y1 y2 y3 y4 hP hl => hN2 _ _ (next o7 os7 z7 H7 y1 y2 y3 y4 hP hl)
        clear next
        have pushL : ∀ (z : Str), z.length ≤ 20 → ∀ H7, Pfx b c H H7 o m os5 ms → Pfx b c H (L2.upd H7 m (.lst (ms.map V.str ++ [V.str z]))) o m os5 (ms ++ [z]) := fun z hz H7 P7 => P7.pushm hz
        have ofL : ∀ (L : List Str), (∀ z ∈ L, z.length ≤ 20) → L ≠ [] → L.length ≤ 1000 → ∀ (q : Addr) (H7 : Hp), Same H6 H7 → H6 q = none → H7 q = some (HO.lst (L.map V.str)) → ∀ (Q2 : VK), (∀ z H8, z.length ≤ 20 → Pfx b c H H8 o m os5 ms → Q2 (.str z) H8) → sp__law_of K [V.ref b, V.ref q] H7 Q2 E0 := by
          intro L hL ne ln q H7 s7 h07 h7 Q2 hq
          have P7 := P6.same s7
          refine of_lst P7.bag h7 (fun e => ?_) (by simpa using ne) (by rw [List.length_map]; omega) fun y H8 hy B8 K8 => ?_
          · obtain ⟨xs, z⟩ := P6.bag.at
            rw [e, z] at h07; cases h07
          · obtain ⟨z, hz, rfl⟩ := List.mem_map.mp hy
            exact hq z H8 (hL z hz) (P7.call B8 K8)
        -- what a list of words in owed's place does
        have catL : ∀ (L : List Str) (z7 : Str) (H7 : Hp), (∀ z ∈ L, z = "e" ∨ z = "k") → L.length ≤ 3 → Pfx b c H H7 o m os5 (ms ++ [z7]) → ∀ (y1 y2 y3 y4 : Option V), ∀ (q : Addr) (H8 : Hp), Same H7 H8 → H7 q = none → H8 q = some (HO.lst (L.map V.str)) →
            ∃ x, H8 o = some (HO.lst x) ∧ ∃ x_1, H8 q = some (HO.lst x_1) ∧ x.length + x_1.length ≤ sizeLine ∧ ∀ (p' : Addr) (H9 : Hp), Same H8 H9 → H8 p' = none → H9 p' = some (HO.lst (x ++ x_1)) → N2 [some (V.ref b), some (.ref p), some (.int size), some (.ref p'), some (.ref m), y1, y2, y3, y4] H9 := by
          intro L z7 H7 hL hl P7 y1 y2 y3 y4 q H8 s8 h08 h8
          have P8 := P7.same s8
          refine ⟨_, P8.ho, _, h8, Nat.le_trans (show _ ≤ 200 by rw [List.length_map, List.length_map]; omega) (by decide), fun p' H9 s9 h09 h9 => ?_⟩
          refine hN2 p' (os5 ++ L) z7 H9 y1 y2 y3 y4 (P8.newo s9 h09 (by rw [h9, List.map_append]) fun z hz => ?_) (by rw [List.length_append]; omega)
          rcases List.mem_append.mp hz with hz | hz
          · exact P8.eo z hz
          · exact hL z hz
        have tm : tyV K "list" (V.ref m) H6 := .inl ⟨rfl, _, SqL.of P6.hm⟩
        refine if_any (fun K hK => by walk_at "rs"; first | exact hK _ | exact ite2 (fun _ => hK _) (fun _ => hK _)) ?_ ?_
        · walk_at "rs"
          exact ⟨tm, b, c, 9, rfl, P6.bag, by decide, by decide, fun r H7 r0 r1 B7 K7 => ⟨r, rfl, small_log (by omega) (by omega), _, (P6.call B7 K7).hm, mlen, hN2 o os5 _ _ _ _ _ _ ((P6.call B7 K7).pushm (small_str (by omega) (by omega))) (by omega)⟩⟩
        refine if_any (fun K hK => by walk_at "rs"; first | exact hK _ | exact ite2 (fun _ => hK _) (fun _ => hK _)) ?_ ?_
        · refine seq_op fun N3 hN3 => ?_
          walk_at "rs"
          refine ⟨tm, _, P6.hm, mlen, hN3 _ _ ?_⟩
          have P7 := P6.pushm (z := "not") (by decide)
          walk_at "rs"
          refine ⟨.inl ⟨rfl, _, SqL.of P7.ho⟩, _, P7.ho, Nat.lt_of_le_of_lt (show _ ≤ 100 by rw [List.length_map]; omega) (by decide), hN2 o _ _ _ _ _ _ _ (P7.pusho (z := "e") (.inl rfl)) (by rw [List.length_append]; simp only [List.length_singleton]; omega)⟩
        refine if_any (fun K hK => by walk_at "rs"; first | exact hK _ | exact ite2 (fun _ => hK _) (fun _ => hK _)) ?_ ?_
        · refine seq_op fun N3 hN3 => ?_
          walk_at "rs"
          refine ⟨tm, _, P6.hm, mlen, hN3 _ _ ?_⟩
          have P7 := P6.pushm (z := "if") (by decide)
          walk_at "rs"
          exact ⟨by decide, fun q H8 s8 h08 h8 => catL ["e", "e", "e"] "if" _ (by simp) (by decide) P7 _ _ _ _ q H8 s8 h08 h8⟩
        refine if_any (fun K hK => by walk_at "rs"; first | exact hK _ | exact ite2 (fun _ => hK _) (fun _ => hK _)) ?_ ?_
        · refine seq_op fun N3 hN3 => ?_
          walk_at "rs"
          refine ⟨tm, by decide, fun q H7 s7 h07 h7 => ofL ["mod", "div"] (by decide) (by simp) (by decide) q H7 s7 h07 h7 _ fun z H8 hz P8 => ⟨_, P8.hm, mlen, hN3 _ _ ?_⟩⟩
          have P9 := P8.pushm hz
          walk_at "rs"
          exact ⟨by decide, fun q H8 s8 h08 h8 => catL ["k", "e"] z _ (by simp) (by decide) P9 _ _ _ _ q H8 s8 h08 h8⟩
        refine if_any (fun K hK => by walk_at "rs"; first | exact hK _ | exact ite2 (fun _ => hK _) (fun _ => hK _)) ?_ ?_
        · refine seq_op fun N3 hN3 => ?_
          walk_at "rs"
          refine ⟨tm, by decide, fun q H7 s7 h07 h7 => ofL ["+", "-", "*", "+", "-", "min", "max", "=", "/=", "<", "<=", ">", ">=", "and", "or"] (by decide) (by simp) (by decide) q H7 s7 h07 h7 _ fun z H8 hz P8 => ⟨_, P8.hm, mlen, hN3 _ _ ?_⟩⟩
          have P9 := P8.pushm hz
          walk_at "rs"
          exact ⟨by decide, fun q H8 s8 h08 h8 => catL ["e", "e"] z _ (by simp) (by decide) P9 _ _ _ _ q H8 s8 h08 h8⟩
        have hp6 : hb H6 b p = some (.lst (parts.map V.str)) := P6.kp _ _ hp
        have hpH : H6 p = some (.lst (parts.map V.str)) := (hb_some hp6).2
        refine if_of (fun b => b = false → parts ≠ []) (fun Kc hK => ?_) (fun H7 _ s7 => ?_) (fun H7 hne s7 => ?_)
        · walk_at "rs"
          refine ite2 (fun _ => hK _ _ (fun z => absurd z (by decide)) (Same.refl _)) (fun _ => ⟨by decide, fun q H7 s7 h07 h7 => ?_⟩)
          refine ⟨.list (parts.map PyData.str), .list [], .lst (SqL.of (s7 _ _ hpH)) (strs_dpa parts), .lst (SqL.of h7) .nil, strs_shaped fun z hz => (hpl z hz).2, by decide, _, rfl, hK _ _ (fun e z => ?_) s7⟩
          subst z
          exact absurd e (by decide)
        · have P7 := P6.same s7
          walk_at "rs"
          exact ⟨.inl ⟨rfl, _, SqL.of P7.hm⟩, b, c, 19, rfl, P7.bag, by decide, by decide, fun r H8 r0 r1 B8 K8 => ⟨r, rfl, small_log (by omega) (by omega), _, (P7.call B8 K8).hm, mlen, hN2 o os5 _ _ _ _ _ _ ((P7.call B8 K8).pushm (small_str (by omega) (by omega))) (by omega)⟩⟩
        · have P7 := P6.same s7
          walk_at "rs"
          refine ⟨.inl ⟨rfl, _, SqL.of P7.hm⟩, of_lst P7.bag (s7 _ _ hpH) (hb_some hp).1 (by simpa using hne rfl) (by rw [List.length_map]; omega) fun y H8 hy B8 K8 => ?_⟩
          obtain ⟨z, hz, rfl⟩ := List.mem_map.mp hy
          exact ⟨_, (P7.call B8 K8).hm, mlen, hN2 o os5 _ _ _ _ _ _ ((P7.call B8 K8).pushm (hpl z hz).1) (by omega)⟩
      · rintro σ H3 ⟨o, os, ms, x1, x2, x3, x4, rfl, P3, hml, hol⟩
        exact hN _ _ ⟨o, os, ms, x1, x2, x3, x4, rfl, P3, hml⟩
    · rintro σ H3 ⟨o, os, ms, x1, x2, x3, x4, rfl, P3, hml⟩
      walk_at "rs"
      exact ⟨_, SqL.of P3.hm, fun q H4 s4 h04 h4 => k q ms H4 (P3.bag.same s4) (Same.trans P3.kp (Kp.of s4)) (.inl (.inl h4)) hml P3.em⟩
end
end LK

set_option Elab.async false
set_option linter.all false
set_option maxRecDepth 100000
namespace LK
open PySem PySem.Spec PyProof.Rows L2
local macro_rules | `(tactic| walk_at "rs") => `(tactic| simp only [cxK, cxNK, tCallZ, tAsg, tOp, rI0, rS0, rB0, rI, rU, tUn, rEq, rNe, rIxL, rIxT, rIxS, rSetL, rSlLU, rSlS, rSlU, rCatL, rCatU, rRepL, rIn, tVar, tC, gName, gSub, tIfS, tTest, tB, tAnd, tOr, tNot, tNotV, tAndV, tOrV, tIf, tCall, tCons, tNil, tCB, tDrop, tRet, tRetN, tNext, tLstU, tTupU, tM0, tM1, tPar, tBM, tBM0, rAppend, rPop, tBreak, tCont, tChain, tSl, tPart, tNoPart, L2.start, List.map, List.length_cons, List.length_nil, List.replicate, List.cons_append, List.nil_append, List.append_nil, List.getElem?_cons_zero, List.getElem?_cons_succ, List.set_cons_zero, List.set_cons_succ, Option.some.injEq, V.int.injEq, V.ref.injEq, V.str.injEq, V.bl.injEq, exists_eq_left', exists_eq_left, exists_and_left, decide_eq_true_eq, List.cons.injEq, and_true, true_and, scal, Bool.not_eq_true', decide_eq_false_iff_not, Nat.zero_add, Nat.reduceAdd, Nat.reduceSub, reduceCtorEq, false_and, exists_false, false_or, or_false, CPow, CMul, CDiv, Int.reduceToNat, ↓reduceIte, wipe])
local macro_rules | `(tactic| walk_at "st") => `(tactic| (refine seq_op fun N hN => ?_; walk_at "rs"))
local macro_rules | `(tactic| walk_at "sd") => `(tactic| first | assumption | decide | omega)
local macro_rules | `(tactic| walk_at "rd") => `(tactic| repeat (first
  | refine ⟨_, SqL.of (by assumption), ?_⟩ | refine ⟨_, SqL.of upd_same, ?_⟩ | refine ⟨_, .inl (SqL.of (by assumption)), ?_⟩ | refine ⟨_, (by assumption : _ = some (HO.lst _)), ?_⟩ | refine ⟨_, upd_same, ?_⟩
  | refine ⟨_, rfl, ?_⟩ | refine And.intro (by walk_at "sd") ?_))

theorem sqT_hb {K : PySem.W.Frag} {H : Hp} {b c q : Addr} {xs : List V} (B : Bag H b c) (h : SqT K H q xs) : SqT K (hb H b) q xs := by
  obtain ⟨yb, eb⟩ := B.at
  rcases h with (h | ⟨o, h⟩) | h
  · refine .inl (.inl ?_)
    rw [hb_ne]; exact h
    intro e; rw [e, eb] at h; cases h
  · refine .inl (.inr ⟨o, ?_⟩)
    rw [hb_ne]; exact h
    intro e; rw [e, eb] at h; cases h
  · exact .inr h
theorem of_new {K : PySem.W.Frag} {H H1 : Hp} {b c p : Addr} (B : Bag H b c) {L : List V} (s1 : Same H H1) (h0 : H p = none) (h1 : H1 p = some (.lst L)) (ne : L ≠ []) (hl : L.length ≤ 1000000) {Q : VK} {E : XK} (k : ∀ y H2, y ∈ L → Bag H2 b c → Kp b H H2 → Q y H2) : sp__law_of K [.ref b, .ref p] H1 Q E :=
  of_lst (B.same s1) h1 (fun e => by
    obtain ⟨xb, eb⟩ := B.at
    rw [e, eb] at h0; cases h0) ne hl fun y H2 hy B2 K2 => k y H2 hy B2 (Same.trans (Kp.of s1) K2)
/-- as before, of words -/
theorem of_newS {K : PySem.W.Frag} {H H1 : Hp} {b c p : Addr} (B : Bag H b c) (L : List Str) (s1 : Same H H1) (h0 : H p = none) (h1 : H1 p = some (.lst (L.map V.str))) (ne : L ≠ []) (hl : L.length ≤ 1000000) {m : Nat} (hm : ∀ z ∈ L, z.length ≤ m) {Q : VK} {E : XK} (k : ∀ z H2, z.length ≤ m → Bag H2 b c → Kp b H H2 → Q (.str z) H2) : sp__law_of K [.ref b, .ref p] H1 Q E :=
  of_new B s1 h0 h1 (by simpa using ne) (by rw [List.length_map]; exact hl) fun y H2 hy B2 K2 => by
    obtain ⟨z, hz, rfl⟩ := List.mem_map.mp hy
    exact k z H2 (hm z hz) B2 K2
theorem of_newR {K : PySem.W.Frag} {H H1 : Hp} {b c p : Addr} (B : Bag H b c) (L : List Str) (s1 : Same H H1) (h0 : H p = none) (h1 : H1 p = some (.lst (L.map V.str))) (ne : L ≠ []) (hl : L.length ≤ 1000000) {R : Str → Prop} (hm : ∀ z ∈ L, R z) {Q : VK} {E : XK} (k : ∀ z H2, R z → Bag H2 b c → Kp b H H2 → Q (.str z) H2) : sp__law_of K [.ref b, .ref p] H1 Q E :=
  of_new B s1 h0 h1 (by simpa using ne) (by rw [List.length_map]; exact hl) fun y H2 hy B2 K2 => by
    obtain ⟨z, hz, rfl⟩ := List.mem_map.mp hy
    exact k z H2 (hm z hz) B2 K2
theorem of_lstS {K : PySem.W.Frag} {H : Hp} {b c p : Addr} (B : Bag H b c) (L : List Str) (h : H p = some (.lst (L.map V.str))) (n : p ≠ b) (ne : L ≠ []) (hl : L.length ≤ 1000000) {m : Nat} (hm : ∀ z ∈ L, z.length ≤ m) {Q : VK} {E : XK} (k : ∀ z H', z.length ≤ m → Bag H' b c → Kp b H H' → Q (.str z) H') : sp__law_of K [.ref b, .ref p] H Q E :=
  of_lst B h n (by simpa using ne) (by rw [List.length_map]; exact hl) fun y H2 hy B2 K2 => by
    obtain ⟨z, hz, rfl⟩ := List.mem_map.mp hy
    exact k z H2 (hm z hz) B2 K2
/-- each thing in xs is a thing that can be told of -/
def Ev (K : PySem.W.Frag) (G : Hp) (xs : List V) : Prop := ∀ v ∈ xs, ∃ d, Dp K G v d ∧ okD d = true
theorem Ev.same {K : PySem.W.Frag} {G G' : Hp} {xs : List V} (s : Same G G') (h : Ev K G xs) : Ev K G' xs := fun v hv => by
  obtain ⟨d, h1, h2⟩ := h v hv
  exact ⟨d, dp_same s h1, h2⟩
theorem Ev.app {K : PySem.W.Frag} {G : Hp} {xs ys : List V} (h : Ev K G xs) (h' : Ev K G ys) : Ev K G (xs ++ ys) := fun v hv => (List.mem_append.mp hv).elim (h v) (h' v)
theorem Ev.cut {K : PySem.W.Frag} {G : Hp} {xs : List V} (h : Ev K G xs) (lo hi : Option Int) : Ev K G (cutV xs lo hi) := fun v hv => h v (List.mem_of_mem_drop (List.mem_of_mem_take hv))
theorem Ev.one {K : PySem.W.Frag} {G : Hp} {v : V} {d : PyData} (h : Dp K G v d) (ok : okD d = true) : Ev K G [v] := fun u hu => by
  obtain rfl := List.mem_singleton.mp hu
  exact ⟨d, h, ok⟩
theorem Ev.strs {K : PySem.W.Frag} {G : Hp} {ws : List Str} (h : ∀ z ∈ ws, z.length ≤ 20) : Ev K G (ws.map V.str) := fun v hv => by
  obtain ⟨z, hz, rfl⟩ := List.mem_map.mp hv
  exact ⟨.str z, .str z, decide_eq_true (Nat.le_trans (h z hz) (by decide))⟩
theorem Ev.all {K : PySem.W.Frag} {G : Hp} : ∀ {xs : List V}, Ev K G xs → ∃ ds, DpAll K G xs ds ∧ okAll ds = true ∧ ds.length = xs.length
  | [], _ => ⟨[], .nil, rfl, rfl⟩
  | v :: xs, h => by
    obtain ⟨d, h1, h2⟩ := h v List.mem_cons_self
    obtain ⟨ds, q1, q2, q3⟩ := Ev.all (xs := xs) fun v hv => h v (List.mem_cons_of_mem _ hv)
    exact ⟨d :: ds, .cons h1 q1, by unfold okAll; rw [h2, q2]; rfl, by simp [q3]⟩
theorem Ev.of {K : PySem.W.Frag} {G : Hp} : ∀ {xs : List V} {ds : List PyData}, DpAll K G xs ds → okAll ds = true → Ev K G xs ∧ xs.length = ds.length
  | _, _, .nil, _ => ⟨fun v hv => absurd hv (by simp), rfl⟩
  | _, _, .cons h q, ok => by
    unfold okAll at ok
    rw [Bool.and_eq_true] at ok
    obtain ⟨e, l⟩ := Ev.of q ok.2
    exact ⟨fun v hv => (List.mem_cons.mp hv).elim (fun z => by rw [z]; exact ⟨_, h, ok.1⟩) (e v), by simp [l]⟩
theorem seqT_kp {K : PySem.W.Frag} {H H' : Hp} {b c q : Addr} {xs : List V} (B : Bag H b c) (k : Kp b H H') (h : SqT K H q xs) : SqT K H' q xs := Same.seqT (hb_le H' b) (Same.seqT k (sqT_hb B h))
theorem cut1_le (xs : List V) {i : Int} (h : 0 ≤ i) : (cutV xs (some i) (some (i + 1))).length ≤ 1 := by
  obtain ⟨j, rfl⟩ := Int.eq_ofNat_of_zero_le h
  unfold cutV
  rw [List.length_take, HT.sIx_nat, show ((j : Int) + 1) = ((j + 1 : Nat) : Int) from rfl, HT.sIx_nat]
  omega
theorem Kp.keep {b p : Addr} {H1 H2 : Hp} {o : HO} (k : Kp b H1 H2) (n : p ≠ b) (h : H1 p = some o) : H2 p = some o := k.hd h n
theorem new_ne {b c p : Addr} {H : Hp} (B : Bag H b c) (h0 : H p = none) : p ≠ b := fun e => by
  obtain ⟨xb, eb⟩ := B.at
  rw [e, eb] at h0; cases h0
theorem rep_strs (n : Nat) (z : Str) : (List.replicate n [V.str z]).flatten = (List.replicate n z).map V.str := by
  induction n with
  | zero => rfl
  | succ n ih => rw [List.replicate_succ, List.flatten_cons, ih, List.replicate_succ]; rfl
theorem rep_short {n m : Nat} {z : Str} (h : z.length ≤ m) : ∀ y ∈ List.replicate n z, y.length ≤ m := fun y hy => by
  rw [(List.mem_replicate.mp hy).2]; exact h
section
variable {P : Program} {w : World} {K : PySem.W.Frag} {mg : Str → Option Value} {base : Heap}
theorem ok__law_chain (T : Txt w K mg) : FnOk P w K mg base CX0 3 T.a__law_chain T.d__law_chain ["bag"] (sp__law_chain K) := by
  refine T.F__law_chain.ok sc__law_chain (fun vs H Q E h => ?_) (fun cdv A outer s H vs Q E hr h => ?_)
  · obtain ⟨b, c, rfl, _⟩ := h
    rfl
  · obtain ⟨b, c, rfl, B, k⟩ := h
    have hr__law_of : Room 2 _ := hr.mono (by decide)
    have G__law_of := ok__law_of (P := P) (base := base) T
    refine ⟨_, (pss_cons (ps_set (i := 1) sc__law_chain.nd rfl (Or.inl rfl) (pe_call G__law_of hr__law_of (by rfl) T.m__law_of T.F__law_of.kp T.B__law_of .nil pass0 (pa_cons (pv 0) (pa_cons (pe_lstU (pa_cons pe_int (pa_cons pe_int (pa_cons pe_int (pa_cons pe_int (pa_cons pe_int (pa_cons pe_int pa_nil))))))) pa_nil))))
      (pss_cons (ps_set (i := 2) sc__law_chain.nd rfl (Or.inl rfl) (pe_call G__law_of hr__law_of (by rfl) T.m__law_of T.F__law_of.kp T.B__law_of .nil pass0 (pa_cons (pv 0) (pa_cons (pe_lstU (pa_cons pe_str (pa_cons pe_str (pa_cons pe_str (pa_cons pe_str (pa_cons pe_str pa_nil)))))) pa_nil))))
      (pss_cons (ps_if (pt_cmpR op_lt (pv 1) pe_int (nomark _)) (pss_one (ps_ret (pe_callTy call_tupleN (by rfl) T.n_tuple (by decide +kernel) (pa_cons (pe_op op_catL (pe_op op_repL (pe_lstU (pa_cons (pe_call G__law_of hr__law_of (by rfl) T.m__law_of T.F__law_of.kp T.B__law_of .nil pass0 (pa_cons (pv 0) (pa_cons (pe_lstU (pa_cons pe_str (pa_cons pe_str (pa_cons pe_str (pa_cons pe_str pa_nil))))) pa_nil))) pa_nil)) (pv 1)) (pe_op op_repL (pe_lstU (pa_cons (pv 2) pa_nil)) (pe_op op_add (pv 1) pe_int))) pa_nil)))) pss_nil)
      (pss_one (ps_ret (pe_callTy call_tupleN (by rfl) T.n_tuple (by decide +kernel) (pa_cons (pe_op op_catL (pe_op op_repL (pe_lstU (pa_cons pe_str pa_nil)) (pe_op op_sub (pv 1) pe_int)) (pe_lstU (pa_cons pe_str (pa_cons (pv 2) (pa_cons (pe_call G__law_of hr__law_of (by rfl) T.m__law_of T.F__law_of.kp T.B__law_of .nil pass0 (pa_cons (pv 0) (pa_cons (pe_lstU (pa_cons pe_str (pa_cons pe_str (pa_cons pe_str (pa_cons pe_str (pa_cons pe_str (pa_cons pe_str pa_nil))))))) pa_nil))) pa_nil))))) pa_nil))))))), ?_⟩
    refine seq_op fun N hN => ?_
    walk_at "rs"
    refine ⟨by decide, fun p H1 s1 h01 h1 => of_new B s1 h01 h1 (by simp) (by decide) fun y H2 hy B2 K2 => hN _ _ ?_⟩
    clear hN N
    obtain ⟨size, rfl, s0, s31⟩ : ∃ i, y = V.int i ∧ 14 ≤ i ∧ i ≤ 31 := by
      simp only [List.mem_cons, List.mem_nil_iff, or_false] at hy
      rcases hy with rfl | rfl | rfl | rfl | rfl | rfl <;> exact ⟨_, rfl, by decide, by decide⟩
    refine seq_op fun N hN => ?_
    walk_at "rs"
    refine ⟨by decide, fun p H3 s3 h03 h3 => of_newS B2 ["a", "5", "-9", "place", "0"] s3 h03 h3 (by decide) (by decide) (m := 20) (by decide) fun leaf H4 hl B4 K4 => hN _ _ ?_⟩
    clear hN N
    have K04 : Kp b H H4 := Same.trans K2 K4
    clear K4 K2 hy h3 h03 s3 h1 h01 s1
    refine if_of (fun b => b = true → size < 20) (fun Kc hK => by walk_at "rs"; exact hK _ _ (fun z => of_decide_eq_true z) (Same.refl _)) (fun H5 lt s45 => ?_) (fun H5 _ s45 => ?_) <;> replace B4 := B4.same s45 <;> replace K04 := Same.trans K04 (Kp.of s45) <;> clear s45
    · replace lt := lt rfl
      walk_at "rs"
      refine ⟨by decide, fun p5 H5 s5 h05 h5 => of_newS B4 ["+", "min", "or", "<="] s5 h05 h5 (by decide) (by decide) (m := 20) (by decide) fun op H6 ho B6 K6 => ⟨by decide, fun p7 H7 s7 h07 h7 => ⟨_, h7, by omega, by omega, ?_, fun p8 H8 s8 h08 h8 => ⟨by decide, fun p9 H9 s9 h09 h9 => ⟨_, h9, by omega, by omega, ?_, fun p10 H10 s10 h010 h10 => ⟨_, s10 _ _ (s9 _ _ h8), _, h10, ?_, fun p11 H11 s11 h011 h11 => ⟨_, SqL.of h11, fun q H12 s12 h012 h12 => ?_⟩⟩⟩⟩⟩⟩⟩
      · exact Nat.le_trans (show _ ≤ 100 by simp only [List.length_cons, List.length_nil]; omega) (by decide)
      · exact Nat.le_trans (show _ ≤ 100 by simp only [List.length_cons, List.length_nil]; omega) (by decide)
      · rw [rep_strs, rep_strs, List.length_map, List.length_map, List.length_replicate, List.length_replicate]
        exact Nat.le_trans (show _ ≤ 100 by omega) (by decide)
      · rw [rep_strs, rep_strs, ← List.map_append] at h12
        have ss : Same H6 H12 := Same.trans s7 (Same.trans s8 (Same.trans s9 (Same.trans s10 (Same.trans s11 s12))))
        refine k q _ H12 (B6.same ss) (Same.trans K04 (Same.trans K6 (Kp.of ss))) (.inl (.inl h12)) ?_ fun z hz => ?_
        · rw [List.length_append, List.length_replicate, List.length_replicate]; omega
        · rcases List.mem_append.mp hz with hz | hz
          · exact rep_short ho z hz
          · exact rep_short hl z hz
    · walk_at "rs"
      refine ⟨by decide, fun p5 H5 s5 h05 h5 => ⟨_, h5, by omega, by omega, ?_, fun p6 H6 s6 h06 h6 => ⟨by decide, fun p7 H7 s7 h07 h7 => ?_⟩⟩⟩
      · exact Nat.le_trans (show _ ≤ 100 by simp only [List.length_cons, List.length_nil]; omega) (by decide)
      have B6 := (B4.same s5).same s6
      have n6 := new_ne (B4.same s5) h06
      refine of_newS B6 ["1", "9", "0", "-1", "a", "10"] s7 h07 h7 (by decide) (by decide) (m := 20) (by decide) fun last H8 hz8 B8 K8 => ⟨by decide, fun p9 H9 s9 h09 h9 => ⟨_, s9 _ _ (K8.keep n6 h6), _, h9, ?_, fun p10 H10 s10 h010 h10 => ⟨_, SqL.of h10, fun q H12 s12 h012 h12 => ?_⟩⟩⟩
      · rw [rep_strs, List.length_map, List.length_replicate]
        exact Nat.le_trans (show _ ≤ 100 by simp only [List.length_cons, List.length_nil]; omega) (by decide)
      · rw [rep_strs] at h12
        have ss : Same H8 H12 := Same.trans s9 (Same.trans s10 s12)
        refine k q (List.replicate (size - 3).toNat (Str.ofString "not") ++ [Str.ofString "div", leaf, last]) H12 (B8.same ss) (Same.trans K04 (Same.trans (Kp.of (Same.trans s5 s6)) (Same.trans K8 (Kp.of ss)))) (.inl (.inl (by rw [h12, List.map_append]; rfl))) ?_ fun z hz => ?_
        · rw [List.length_append, List.length_replicate]; simp only [List.length_cons, List.length_nil]; omega
        · rcases List.mem_append.mp hz with hz | hz
          · exact rep_short (by decide) z hz
          · simp only [List.mem_cons, List.mem_nil_iff, or_false] at hz
            rcases hz with rfl | rfl | rfl
            · decide
            · exact hl
            · exact hz8
theorem ok__law_some_name (T : Txt w K mg) : FnOk P w K mg base CX0 3 T.a__law_some_name T.d__law_some_name ["bag"] (sp_str K) := by
  refine T.F__law_some_name.ok sc__law_some_name (fun vs H Q E h => ?_) (fun cdv A outer s H vs Q E hr h => ?_)
  · obtain ⟨b, c, rfl, _⟩ := h
    rfl
  · obtain ⟨b, c, rfl, B, k⟩ := h
    have hr__law_draw : Room 1 _ := hr.mono (by decide)
    have G__law_draw := ok__law_draw (P := P) (base := base) T
    have hr__law_of : Room 2 _ := hr.mono (by decide)
    have G__law_of := ok__law_of (P := P) (base := base) T
    have hr__law_kept : Room 1 _ := hr.mono (by decide)
    have G__law_kept := ok__law_kept (P := P) (base := base) T
    refine ⟨_, (pss_cons (ps_set (i := 1) sc__law_some_name.nd rfl (Or.inr rfl) pe_str)
      (pss_cons (ps_par (i := 2) (j := 3) (by rfl) sc__law_some_name.nd rfl rfl (by decide) rfl rfl (pa_cons (pe_call G__law_draw hr__law_draw (by rfl) T.m__law_draw T.F__law_draw.kp T.B__law_draw .nil pass0 (pa_cons (pv 0) (pa_cons pe_int pa_nil))) (pa_cons (pe_call G__law_of hr__law_of (by rfl) T.m__law_of T.F__law_of.kp T.B__law_of .nil pass0 (pa_cons (pv 0) (pa_cons (pe_call0 G__law_kept hr__law_kept (by rfl) T.m__law_kept T.F__law_kept.kp T.B__law_kept .nil pass0) pa_nil))) pa_nil)) (by rfl))
      (pss_cons (ps_if (pt_cmpR op_lt (pv 2) pe_int (nomark _)) (pss_one (ps_ret (pe_join pe_str (pe_lc (own := [("k", 6)]) (g := gName 6) (tt := tYes) rfl sc__law_some_name.nd (pi_range1 (by rfl) T.n_range (pa_cons (pe_call G__law_draw hr__law_draw (by rfl) T.m__law_draw T.F__law_draw.kp T.B__law_draw .nil pass0 (pa_cons (pv 0) (pa_cons pe_int pa_nil))) pa_nil)) (blkOk_by (own := [("k", 6)]) (N := N__law_some_name) (sc := defScope s__law_some_name) (by decide +kernel)) (fun _ _ _ _ _ => pg_name (i := 6) sc__law_some_name.nd rfl (Or.inl rfl)) (fun _ _ _ _ _ => pts_nil) (fun _ _ _ _ _ => (pe_call G__law_of hr__law_of (by rfl) T.m__law_of T.F__law_of.kp T.B__law_of .nil pass0 (pa_cons (pv 0) (pa_cons (pv 1) pa_nil)))))))) pss_nil)
      (pss_cons (ps_if (pt_cmpR op_eqI (pv 2) pe_int (nomark _)) (pss_one (ps_ret (pv 3))) pss_nil)
      (pss_cons (ps_if (pt_cmpR op_eqI (pv 2) pe_int (nomark _)) (pss_one (ps_ret (pe_op op_add_str (pe_slice sl_str (pv 3) po_none (po_some (pe_op op_add pe_int (pe_call G__law_draw hr__law_draw (by rfl) T.m__law_draw T.F__law_draw.kp T.B__law_draw .nil pass0 (pa_cons (pv 0) (pa_cons (pe_callB call_len_str (by rfl) T.n_len (by decide +kernel) (pa_cons (pv 3) pa_nil)) pa_nil)))))) (pe_call G__law_of hr__law_of (by rfl) T.m__law_of T.F__law_of.kp T.B__law_of .nil pass0 (pa_cons (pv 0) (pa_cons (pe_lstU (pa_cons pe_str (pa_cons pe_str (pa_cons pe_str (pa_cons pe_str (pa_cons pe_str pa_nil)))))) pa_nil)))))) pss_nil)
      (pss_cons (ps_if (pt_cmpR op_eqI (pv 2) pe_int (nomark _)) (pss_cons (ps_set (i := 4) sc__law_some_name.nd rfl (Or.inl rfl) (pe_call G__law_of hr__law_of (by rfl) T.m__law_of T.F__law_of.kp T.B__law_of .nil pass0 (pa_cons (pv 0) (pa_cons pe_str pa_nil))))
      (pss_cons (ps_set (i := 5) sc__law_some_name.nd rfl (Or.inl rfl) (pe_call G__law_draw hr__law_draw (by rfl) T.m__law_draw T.F__law_draw.kp T.B__law_draw .nil pass0 (pa_cons (pv 0) (pa_cons pe_int pa_nil))))
      (pss_one (ps_ret (pe_op op_add_str (pe_op op_add_str (pe_slice sl_str (pe_op op_add_str pe_str (pv 3)) po_none (po_some (pv 5))) (pv 4)) (pe_slice sl_str (pv 3) po_none (po_some pe_int))))))) pss_nil)
      (pss_one (ps_ret (pe_call G__law_of hr__law_of (by rfl) T.m__law_of T.F__law_of.kp T.B__law_of .nil pass0 (pa_cons (pv 0) (pa_cons (pe_lstU (pa_cons pe_str (pa_cons pe_str (pa_cons pe_str (pa_cons pe_str (pa_cons pe_str (pa_cons pe_str (pa_cons pe_str (pa_cons pe_str (pa_cons pe_str (pa_cons pe_str (pa_cons pe_str (pa_cons pe_str (pa_cons pe_str (pa_cons pe_str pa_nil))))))))))))))) pa_nil))))))))))), ?_⟩
    refine seq_op fun N hN => ?_
    walk_at "rs"
    refine hN _ _ ?_
    clear hN N
    refine seq_op fun N hN => ?_
    walk_at "rs"
    refine ⟨b, c, 8, rfl, B, by decide, by decide, fun way H1 w0 w1 B1 K1 => ⟨rfl, fun p H2 s2 h02 h2 => of_newR B1 keptL s2 h02 h2 (by decide) (by decide) (R := fun z => 1 ≤ z.length ∧ z.length ≤ 7) (by decide) fun kept H3 hk3 B3 K3 => ⟨_, _, ⟨rfl, rfl⟩, hN _ _ ?_⟩⟩⟩
    clear hN N
    have K03 : Kp b H H3 := Same.trans K1 K3
    clear h2 h02 s2 K3 B1 K1
    refine seq_op fun N hN => ?_
    refine if_any (fun Kc hK => by walk_at "rs"; exact hK _) ?_ ?_
    · walk_at "rs"
      refine ⟨⟨_, rfl⟩, _, rfl, b, c, 8, rfl, B3, by decide, by decide, fun r H4 r0 r1 B4 K4 => ⟨r, rfl, by omega, by omega, fun D hD => lc_draw walk_range (fun _ v => ∃ z, v = V.str z ∧ z.length ≤ 1) (fun _ _ _ _ h => h) hD B4 (by omega) (fun _ _ _ _ y => y.1) (fun _ _ => trivial) ?_ ?_⟩⟩
      · intro x H5 K5 B5 Q2 hq
        walk_at "rs"
        exact of_str B5 (by decide +kernel) (by decide +kernel) fun c0 H6 B6 K6 => hq _ H6 B6 K6 ⟨_, rfl, Nat.le_refl 1⟩
      · intro H5 ys B5 K5 h5 hl hp
        obtain ⟨zs, rfl, hz⟩ := strs_of hp
        have hs := sum_le hz
        have hj := join_len "" zs
        rw [List.length_map] at hl
        refine ⟨D, rfl, zs, .inl (SqL.of h5), ?_, k _ H5 ?_ B5 (Same.trans K03 (Same.trans K4 K5))⟩
        · show _ + zs.length * 0 ≤ _
          omega
        · have e0 : zs.length * (Str.ofString "").length = 0 := Nat.mul_zero _
          omega
    walk_at "rs"
    refine hN _ _ ?_
    clear hN N
    refine seq_op fun N hN => ?_
    refine if_any (fun Kc hK => by walk_at "rs"; exact hK _) ?_ ?_
    · walk_at "rs"
      exact k _ _ (by omega) B3 K03
    walk_at "rs"
    refine hN _ _ ?_
    clear hN N
    refine seq_op fun N hN => ?_
    refine if_any (fun Kc hK => by walk_at "rs"; exact hK _) ?_ ?_
    · walk_at "rs"
      have hc := fun lo hi => cutS_len kept lo hi
      refine ⟨Nat.le_trans hk3.2 (by decide), b, c, kept.length, rfl, B3, by omega, by omega, fun r H4 r0 r1 B4 K4 => ⟨r, rfl, Nat.le_trans hk3.2 (by decide), by decide, fun p H5 s5 h05 h5 => of_newS B4 ["", "s", "1", "x", "T"] s5 h05 h5 (by decide) (by decide) (m := 1) (by decide) fun z H6 hz B6 K6 => ⟨z, rfl, Nat.le_trans (Nat.add_le_add (Nat.le_trans (hc _ _) hk3.2) hz) (by decide), k _ H6 ?_ B6 (Same.trans K03 (Same.trans K4 K6))⟩⟩⟩
      rw [str_append_len]
      have := hc none (some (1 + r))
      omega
    walk_at "rs"
    refine hN _ _ ?_
    clear hN N
    refine seq_op fun N hN => ?_
    refine if_any (fun Kc hK => by walk_at "rs"; exact hK _) ?_ ?_
    · refine seq_op fun N2 hN2 => ?_
      walk_at "rs"
      refine of_str B3 (by decide +kernel) (by decide +kernel) fun c0 H4 B4 K4 => hN2 _ _ ?_
      clear hN2 N2
      refine seq_op fun N2 hN2 => ?_
      walk_at "rs"
      refine ⟨b, c, 4, rfl, B4, by decide, by decide, fun r H5 r0 r1 B5 K5 => hN2 _ _ ?_⟩
      clear hN2 N2
      walk_at "rs"
      have big : ∀ {n : Nat}, n ≤ 20 → n ≤ sizeLine := fun h => Nat.le_trans h (by decide)
      have a3 : (Str.ofString "a1b").length = 3 := by decide
      have l1 : (Str.ofString "a1b" ++ kept).length = 3 + kept.length := by rw [str_append_len, a3]
      have l2 := cutS_len (Str.ofString "a1b" ++ kept) none (some r)
      have l3 := cutS_len kept none (some 3)
      have l4 : (⟨#[c0]⟩ : Str).length = 1 := rfl
      refine ⟨big (by omega), big (by omega), big (by omega), big (by omega), big ?_, k _ H5 ?_ B5 (Same.trans K03 (Same.trans K4 K5))⟩
      · rw [str_append_len]; omega
      · rw [str_append_len, str_append_len]; omega
    walk_at "rs"
    refine hN _ _ ?_
    clear hN N
    walk_at "rs"
    refine ⟨by decide, fun p H4 s4 h04 h4 => of_newS B3 ["sign", "place", "signs", "x", "z9", "9z", "", "abcdef", "abcdefg", "a00000", "Sign", "firsts", "order", "i"] s4 h04 h4 (by decide) (by decide) (m := 20) (by decide) fun z H5 hz B5 K5 => k z H5 hz B5 (Same.trans K03 K5)⟩
theorem ok__law_some_word (T : Txt w K mg) : FnOk P w K mg base CX0 4 T.a__law_some_word T.d__law_some_word ["bag"] (sp_str K) := by
  refine T.F__law_some_word.ok sc__law_some_word (fun vs H Q E h => ?_) (fun cdv A outer s H vs Q E hr h => ?_)
  · obtain ⟨b, c, rfl, _⟩ := h
    rfl
  · obtain ⟨b, c, rfl, B, k⟩ := h
    have hr__law_draw : Room 1 _ := hr.mono (by decide)
    have G__law_draw := ok__law_draw (P := P) (base := base) T
    have hr__law_of : Room 2 _ := hr.mono (by decide)
    have G__law_of := ok__law_of (P := P) (base := base) T
    have hr__law_some_name : Room 3 _ := hr.mono (by decide)
    have G__law_some_name := ok__law_some_name (P := P) (base := base) T
    refine ⟨_, (pss_cons (ps_set (i := 1) sc__law_some_word.nd rfl (Or.inl rfl) (pe_lstU (pa_cons pe_str (pa_cons pe_str (pa_cons pe_str (pa_cons pe_str (pa_cons pe_str (pa_cons pe_str (pa_cons pe_str (pa_cons pe_str (pa_cons pe_str (pa_cons pe_str (pa_cons pe_str (pa_cons pe_str (pa_cons pe_str (pa_cons pe_str (pa_cons pe_str (pa_cons pe_str (pa_cons pe_str (pa_cons pe_str (pa_cons pe_str pa_nil)))))))))))))))))))))
      (pss_cons (ps_set (i := 2) sc__law_some_word.nd rfl (Or.inl rfl) (pe_lstU (pa_cons pe_str (pa_cons pe_str (pa_cons pe_str (pa_cons pe_str (pa_cons pe_str (pa_cons pe_str (pa_cons pe_str (pa_cons pe_str (pa_cons pe_str (pa_cons pe_str (pa_cons pe_str (pa_cons pe_str (pa_cons pe_str (pa_cons pe_str (pa_cons pe_str (pa_cons pe_str (pa_cons pe_str (pa_cons pe_str (pa_cons pe_str (pa_cons pe_str pa_nil))))))))))))))))))))))
      (pss_cons (ps_set (i := 3) sc__law_some_word.nd rfl (Or.inl rfl) (pe_call G__law_draw hr__law_draw (by rfl) T.m__law_draw T.F__law_draw.kp T.B__law_draw .nil pass0 (pa_cons (pv 0) (pa_cons pe_int pa_nil))))
      (pss_cons (ps_if (pt_cmpR op_eqI (pv 3) pe_int (nomark _)) (pss_one (ps_ret (pe_call G__law_of hr__law_of (by rfl) T.m__law_of T.F__law_of.kp T.B__law_of .nil pass0 (pa_cons (pv 0) (pa_cons (pv 1) pa_nil))))) pss_nil)
      (pss_cons (ps_if (pt_cmpR op_eqI (pv 3) pe_int (nomark _)) (pss_one (ps_ret (pe_call G__law_of hr__law_of (by rfl) T.m__law_of T.F__law_of.kp T.B__law_of .nil pass0 (pa_cons (pv 0) (pa_cons (pv 2) pa_nil))))) pss_nil)
      (pss_cons (ps_if (pt_cmpR op_eqI (pv 3) pe_int (nomark _)) (pss_one (ps_ret (pe_call G__law_some_name hr__law_some_name (by rfl) T.m__law_some_name T.F__law_some_name.kp T.B__law_some_name .nil pass0 (pa_cons (pv 0) pa_nil)))) pss_nil)
      (pss_one (ps_ret (pe_callTy call_str_int (by rfl) T.n_str (by decide +kernel) (pa_cons (pe_op op_sub (pe_call G__law_draw hr__law_draw (by rfl) T.m__law_draw T.F__law_draw.kp T.B__law_draw .nil pass0 (pa_cons (pv 0) (pa_cons pe_int pa_nil))) pe_int) pa_nil)))))))))), ?_⟩
    refine seq_op fun N hN => ?_
    walk_at "rs"
    refine ⟨by decide, fun p H1 s1 h01 h1 => hN _ _ ?_⟩
    clear hN N
    refine seq_op fun N hN => ?_
    walk_at "rs"
    refine ⟨by decide, fun q H2 s2 h02 h2 => hN _ _ ?_⟩
    clear hN N
    have B2 := (B.same s1).same s2
    have K2 : Kp b H H2 := Kp.of (Same.trans s1 s2)
    have np := new_ne B h01
    have nq := new_ne (B.same s1) h02
    have e1 := s2 _ _ h1
    refine seq_op fun N hN => ?_
    walk_at "rs"
    refine ⟨b, c, 5, rfl, B2, by decide, by decide, fun way H3 w0 w1 B3 K3 => hN _ _ ?_⟩
    clear hN N
    have K03 : Kp b H H3 := Same.trans K2 K3
    have e3 := K3.keep np e1
    have f3 := K3.keep nq h2
    refine seq_op fun N hN => ?_
    refine if_any (fun Kc hK => by walk_at "rs"; exact hK _) ?_ ?_
    · walk_at "rs"
      exact of_lstS B3 ["+", "-", "*", "min", "max", "=", "/=", "<", "<=", ">", ">=", "and", "or", "mod", "div", "not", "if", "sign", "place"] e3 np (by decide) (by decide) (m := 20) (by decide) fun z H4 hz B4 K4 => k z H4 hz B4 (Same.trans K03 K4)
    walk_at "rs"
    refine hN _ _ ?_
    clear hN N
    refine seq_op fun N hN => ?_
    refine if_any (fun Kc hK => by walk_at "rs"; exact hK _) ?_ ?_
    · walk_at "rs"
      exact of_lstS B3 ["==", "!=", "/", "**", "", " ", "10", "-10", "+1", "01", "-0", "00", "1/2", "--1", "1 ", "let", "else", "xor", "Mod", "<>"] f3 nq (by decide) (by decide) (m := 20) (by decide) fun z H4 hz B4 K4 => k z H4 hz B4 (Same.trans K03 K4)
    walk_at "rs"
    refine hN _ _ ?_
    clear hN N
    refine seq_op fun N hN => ?_
    refine if_any (fun Kc hK => by walk_at "rs"; exact hK _) ?_ ?_
    · walk_at "rs"
      exact ⟨b, c, rfl, B3, fun z H4 hz B4 K4 => k z H4 hz B4 (Same.trans K03 K4)⟩
    walk_at "rs"
    refine hN _ _ ?_
    clear hN N
    walk_at "rs"
    exact ⟨b, c, 21, rfl, B3, by decide, by decide, fun r H4 r0 r1 B4 K4 => ⟨r, rfl, small_log (by omega) (by omega), k _ H4 (small_str (by omega) (by omega)) B4 (Same.trans K03 K4)⟩⟩
theorem ok__law_bent (T : Txt w K mg) : FnOk P w K mg base CX0 6 T.a__law_bent T.d__law_bent ["bag", "thing"] (sp__law_bent K) := by
  refine T.F__law_bent.ok sc__law_bent (fun vs H Q E h => ?_) (fun cdv A outer s H vs Q E hr h => ?_)
  · obtain ⟨b, c, q, ds, rfl, _⟩ := h
    rfl
  · obtain ⟨b, c, q, ds, rfl, B, hD, hok, hn, k⟩ := h
    have hr__law_draw : Room 1 _ := hr.mono (by decide)
    have G__law_draw := ok__law_draw (P := P) (base := base) T
    have hr__law_some_word : Room 4 _ := hr.mono (by decide)
    have G__law_some_word := ok__law_some_word (P := P) (base := base) T
    have hr__law_prefix : Room 3 _ := hr.mono (by decide)
    have G__law_prefix := ok__law_prefix (P := P) (base := base) T
    have hr__law_any : Room 5 _ := hr.mono (by decide)
    have G__law_any := ok__law_any (P := P) (base := base) T 2
    refine ⟨_, (pss_cons (ps_par (i := 2) (j := 3) (by rfl) sc__law_bent.nd rfl rfl (by decide) rfl rfl (pa_cons (pe_call G__law_draw hr__law_draw (by rfl) T.m__law_draw T.F__law_draw.kp T.B__law_draw .nil pass0 (pa_cons (pv 0) (pa_cons pe_int pa_nil))) (pa_cons (pe_call G__law_draw hr__law_draw (by rfl) T.m__law_draw T.F__law_draw.kp T.B__law_draw .nil pass0 (pa_cons (pv 0) (pa_cons (pe_op op_add (pe_callB call_len_seq (by rfl) T.n_len (by decide +kernel) (pa_cons (pv 1) pa_nil)) pe_int) pa_nil))) pa_nil)) (by rfl))
      (pss_cons (ps_if (pt_cmpR op_lt (pv 2) pe_int (nomark _)) (pss_one (ps_ret (pe_op op_catU (pe_slice sl_tupU (pv 1) po_none (po_some (pv 3))) (pe_slice sl_tupU (pv 1) (po_some (pe_op op_add (pv 3) pe_int)) po_none)))) pss_nil)
      (pss_cons (ps_if (pt_cmpR op_eqI (pv 2) pe_int (nomark _)) (pss_one (ps_ret (pe_op op_catU (pe_op op_catU (pe_slice sl_tupU (pv 1) po_none (po_some (pv 3))) (pe_slice sl_tupU (pv 1) (po_some (pv 3)) (po_some (pe_op op_add (pv 3) pe_int)))) (pe_slice sl_tupU (pv 1) (po_some (pv 3)) po_none)))) pss_nil)
      (pss_cons (ps_if (pt_cmpR op_eqI (pv 2) pe_int (nomark _)) (pss_one (ps_ret (pe_op op_catU (pe_op op_catU (pe_slice sl_tupU (pv 1) po_none (po_some (pv 3))) (pe_tupU (pa_cons (pe_call G__law_some_word hr__law_some_word (by rfl) T.m__law_some_word T.F__law_some_word.kp T.B__law_some_word .nil pass0 (pa_cons (pv 0) pa_nil)) pa_nil))) (pe_slice sl_tupU (pv 1) (po_some (pv 3)) po_none)))) pss_nil)
      (pss_cons (ps_if (pt_cmpR op_lt (pv 2) pe_int (nomark _)) (pss_one (ps_ret (pe_op op_catU (pe_op op_catU (pe_slice sl_tupU (pv 1) po_none (po_some (pv 3))) (pe_tupU (pa_cons (pe_call G__law_some_word hr__law_some_word (by rfl) T.m__law_some_word T.F__law_some_word.kp T.B__law_some_word .nil pass0 (pa_cons (pv 0) pa_nil)) pa_nil))) (pe_slice sl_tupU (pv 1) (po_some (pe_op op_add (pv 3) pe_int)) po_none)))) pss_nil)
      (pss_cons (ps_if (pt_cmpR op_eqI (pv 2) pe_int (nomark _)) (pss_one (ps_ret (pe_op op_catU (pe_slice sl_tupU (pv 1) (po_some (pv 3)) po_none) (pe_slice sl_tupU (pv 1) po_none (po_some (pv 3)))))) pss_nil)
      (pss_cons (ps_if (pt_cmpR op_eqI (pv 2) pe_int (nomark _)) (pss_one (ps_ret (pe_op op_catU (pv 1) (pe_call G__law_prefix hr__law_prefix (by rfl) T.m__law_prefix T.F__law_prefix.kp T.B__law_prefix .nil pass0 (pa_cons (pv 0) (pa_cons (pe_lstU (pa_cons pe_str (pa_cons pe_str pa_nil))) (pa_cons pe_int pa_nil))))))) pss_nil)
      (pss_one (ps_ret (pe_op op_catU (pe_op op_catU (pe_slice sl_tupU (pv 1) po_none (po_some (pv 3))) (pe_tupU (pa_cons (pe_call G__law_any hr__law_any (by rfl) T.m__law_any T.F__law_any.kp T.B__law_any .nil pass0 (pa_cons (pv 0) (pa_cons pe_int pa_nil))) pa_nil))) (pe_slice sl_tupU (pv 1) (po_some (pe_op op_add (pv 3) pe_int)) po_none))))))))))), ?_⟩
    obtain ⟨xs, hx, ev, xl⟩ : ∃ xs, SqT K H q xs ∧ Ev K (hb H b) xs ∧ xs.length = ds.length := by
      cases hD with
      | tup h1 h2 => exact ⟨_, Same.seqT (hb_le H b) h1, Ev.of h2 hok⟩
    have fin : ∀ q' ys H', Bag H' b c → Kp b H H' → SqT K H' q' ys → Ev K (hb H' b) ys → ys.length ≤ 2 * ds.length + 40 → Q (.ref q') H' := fun q' ys H' B' K' h' e' l' => by
      obtain ⟨ds', e1, e2, e3⟩ := e'.all
      exact k q' ds' H' B' K' (.tup (sqT_hb B' h') e1) e2 (by omega)
    clear k hD hok
    have big : ∀ {n : Nat}, n ≤ 100000 → n ≤ sizeLine := fun h => Nat.le_trans h (by decide)
    refine seq_op fun N hN => ?_
    walk_at "rs"
    refine ⟨b, c, 9, rfl, B, by decide, by decide, fun way H1 w0 w1 B1 K1 => ⟨xs, .inr ?_, b, c, _, rfl, B1, by omega, by omega, fun cut H2 c0 c1 B2 K2 => ⟨_, _, ⟨rfl, rfl⟩, hN _ _ ?_⟩⟩⟩
    · exact seqT_kp B K1 hx
    clear hN N
    have lc := fun lo hi => cutV_length xs lo hi
    replace K2 : Kp b H H2 := Same.trans K1 K2
    have hx2 : SqT K H2 q xs := seqT_kp B K2 hx
    replace ev : Ev K (hb H2 b) xs := ev.same K2
    clear K1 B1 w0 w1
    have fin2 : ∀ q' ys H', Same H2 H' → SqT K H' q' ys → Ev K (hb H2 b) ys → ys.length ≤ 2 * ds.length + 40 → Q (.ref q') H' := fun q' ys H' ss h' e' l' =>
      fin q' ys H' (B2.same ss) (Same.trans K2 (Kp.of ss)) h' (e'.same (Kp.of ss)) l'
    have mid : ∀ (lo : Int) (q3 : Addr) (H3 : Hp), Same H2 H3 → SqT K H3 q3 (cutV xs none (some cut)) → ∀ (x : V) (H4 : Hp), Bag H4 b c → Kp b H3 H4 → Ev K (hb H4 b) [x] → 1 ≤ sizeLine ∧ ∀ (p : Addr) (H5 : Hp), Same H4 H5 → H4 p = none → H5 p = some (HO.tup [x]) → ∃ x_1, SqT K H5 q3 x_1 ∧ ∃ x_2, SqT K H5 p x_2 ∧ x_1.length + x_2.length ≤ sizeLine ∧ ∀ (q5 : Addr) (H6 : Hp), Same H5 H6 → SqT K H6 q5 (x_1 ++ x_2) → ∃ x_3, SqT K H6 q x_3 ∧ ∀ (q6 : Addr) (H7 : Hp), Same H6 H7 → SqT K H7 q6 (cutV x_3 (some lo) none) → ∃ x_4, SqT K H7 q5 x_4 ∧ ∃ x_5, SqT K H7 q6 x_5 ∧ x_4.length + x_5.length ≤ sizeLine ∧ ∀ (q7 : Addr) (H8 : Hp), Same H7 H8 → SqT K H8 q7 (x_4 ++ x_5) → Q (V.ref q7) H8 := by
      intro lo q3 H3 s3 h3 x H4 B4 K4 e4
      have l1 := lc none (some cut)
      have l2 := lc (some lo) none
      have B3 := B2.same s3
      refine ⟨by decide, fun p H5 s5 h05 h5 => ⟨_, Same.seqT s5 (seqT_kp B3 K4 h3), [x], .inl (.inl h5), big (by simp only [List.length_cons, List.length_nil]; omega), fun q5 H6 s6 h6 => ⟨xs, Same.seqT s6 (Same.seqT s5 (seqT_kp B3 K4 (Same.seqT s3 hx2))), fun q6 H7 s7 h7 => ⟨_, Same.seqT s7 h6, _, h7, big (by rw [List.length_append]; simp only [List.length_cons, List.length_nil]; omega), fun q7 H8 s8 h8 => ?_⟩⟩⟩⟩
      have ss : Same H4 H8 := Same.trans s5 (Same.trans s6 (Same.trans s7 s8))
      have kk : Kp b H2 H8 := Same.trans (Kp.of s3) (Same.trans K4 (Kp.of ss))
      have e := ev.same kk
      refine fin q7 _ H8 (B4.same ss) (Same.trans K2 kk) h8 (((e.cut _ _).app (e4.same (Kp.of ss))).app (e.cut _ _)) ?_
      rw [List.length_append, List.length_append]; simp only [List.length_cons, List.length_nil]; omega
    refine seq_op fun N hN => ?_
    refine if_any (fun Kc hK => by walk_at "rs"; exact hK _) ?_ ?_
    · walk_at "rs"
      have l1 := lc none (some cut)
      have l2 := lc (some (cut + 1)) none
      exact ⟨xs, hx2, fun q3 H3 s3 h3 => ⟨xs, Same.seqT s3 hx2, fun q4 H4 s4 h4 => ⟨_, Same.seqT s4 h3, _, h4, big (by omega), fun q5 H5 s5 h5 => fin2 q5 _ H5 (Same.trans s3 (Same.trans s4 s5)) h5 ((ev.cut _ _).app (ev.cut _ _)) (by rw [List.length_append]; omega)⟩⟩⟩
    walk_at "rs"
    refine hN _ _ ?_
    clear hN N
    refine seq_op fun N hN => ?_
    refine if_any (fun Kc hK => by walk_at "rs"; exact hK _) ?_ ?_
    · walk_at "rs"
      have l1 := lc none (some cut)
      have l2 := cut1_le xs c0
      have l3 := lc (some cut) none
      exact ⟨xs, hx2, fun q3 H3 s3 h3 => ⟨xs, Same.seqT s3 hx2, fun q4 H4 s4 h4 => ⟨_, Same.seqT s4 h3, _, h4, big (by omega), fun q5 H5 s5 h5 => ⟨xs, Same.seqT s5 (Same.seqT s4 (Same.seqT s3 hx2)), fun q6 H6 s6 h6 => ⟨_, Same.seqT s6 h5, _, h6, big (by rw [List.length_append]; omega), fun q7 H7 s7 h7 => fin2 q7 _ H7 (Same.trans s3 (Same.trans s4 (Same.trans s5 (Same.trans s6 s7)))) h7 (((ev.cut _ _).app (ev.cut _ _)).app (ev.cut _ _)) (by rw [List.length_append, List.length_append]; omega)⟩⟩⟩⟩⟩
    walk_at "rs"
    refine hN _ _ ?_
    clear hN N
    refine seq_op fun N hN => ?_
    refine if_any (fun Kc hK => by walk_at "rs"; exact hK _) ?_ ?_
    · walk_at "rs"
      refine ⟨xs, hx2, fun q3 H3 s3 h3 => ⟨b, c, rfl, B2.same s3, fun z H4 hz B4 K4 => mid _ q3 H3 s3 h3 (.str z) H4 B4 K4 (Ev.one (.str z) (decide_eq_true (Nat.le_trans hz (by decide))))⟩⟩
    walk_at "rs"
    refine hN _ _ ?_
    clear hN N
    refine seq_op fun N hN => ?_
    refine if_any (fun Kc hK => by walk_at "rs"; exact hK _) ?_ ?_
    · walk_at "rs"
      refine ⟨xs, hx2, fun q3 H3 s3 h3 => ⟨b, c, rfl, B2.same s3, fun z H4 hz B4 K4 => mid _ q3 H3 s3 h3 (.str z) H4 B4 K4 (Ev.one (.str z) (decide_eq_true (Nat.le_trans hz (by decide))))⟩⟩
    walk_at "rs"
    refine hN _ _ ?_
    clear hN N
    refine seq_op fun N hN => ?_
    refine if_any (fun Kc hK => by walk_at "rs"; exact hK _) ?_ ?_
    · walk_at "rs"
      have l1 := lc none (some cut)
      have l2 := lc (some cut) none
      exact ⟨xs, hx2, fun q3 H3 s3 h3 => ⟨xs, Same.seqT s3 hx2, fun q4 H4 s4 h4 => ⟨_, Same.seqT s4 h3, _, h4, big (by omega), fun q5 H5 s5 h5 => fin2 q5 _ H5 (Same.trans s3 (Same.trans s4 s5)) h5 ((ev.cut _ _).app (ev.cut _ _)) (by rw [List.length_append]; omega)⟩⟩⟩
    walk_at "rs"
    refine hN _ _ ?_
    clear hN N
    refine seq_op fun N hN => ?_
    refine if_any (fun Kc hK => by walk_at "rs"; exact hK _) ?_ ?_
    · walk_at "rs"
      refine ⟨by decide, fun p H3 s3 h03 h3 => ⟨b, c, p, ["a", "sign"], 5, rfl, B2.same s3, hb_new B2 h03 h3, ?_, by decide, fun q4 ws H4 B4 K4 h4 wl wz => ⟨q4, rfl, xs, seqT_kp (B2.same s3) K4 (Same.seqT s3 hx2), _, h4, big (by rw [List.length_map]; omega), fun q5 H5 s5 h5 => ?_⟩⟩⟩
      · intro z hz
        simp only [List.mem_cons, List.mem_nil_iff, or_false] at hz
        rcases hz with rfl | rfl <;> exact ⟨by decide, by decide +kernel⟩
      · have kk : Kp b H2 H5 := Same.trans (Kp.of s3) (Same.trans K4 (Kp.of s5))
        refine fin q5 _ H5 (B4.same s5) (Same.trans K2 kk) h5 ((ev.same kk).app (Ev.strs wz)) ?_
        rw [List.length_append, List.length_map]; omega
    walk_at "rs"
    refine hN _ _ ?_
    clear hN N
    walk_at "rs"
    exact ⟨xs, hx2, fun q3 H3 s3 h3 => ⟨b, c, 2, rfl, B2.same s3, by decide, fun v d H4 B4 K4 h4 ok _ => mid _ q3 H3 s3 h3 v H4 B4 K4 (Ev.one (dp_same (nw_hb (B2.same s3).at.choose_spec) h4) ok)⟩⟩
end
end LK

set_option Elab.async false
set_option linter.all false
set_option maxRecDepth 100000
namespace LK
open PySem PySem.Spec PyProof.Rows L2
local macro_rules | `(tactic| walk_at "rs") => `(tactic| simp only [cxK, cxNK, tCallZ, tAsg, tOp, rI0, rS0, rB0, rI, rU, tUn, rEq, rNe, rIxL, rIxT, rIxS, rSetL, rSlLU, rSlS, rSlU, rCatL, rCatU, rRepL, rIn, tVar, tC, gName, gSub, tIfS, tTest, tB, tAnd, tOr, tNot, tNotV, tAndV, tOrV, tIf, tCall, tCons, tNil, tCB, tDrop, tRet, tRetN, tNext, tLstU, tTupU, tM0, tM1, tPar, tBM, tBM0, rAppend, rPop, tBreak, tCont, tChain, tSl, tPart, tNoPart, L2.start, List.map, List.length_cons, List.length_nil, List.replicate, List.cons_append, List.nil_append, List.append_nil, List.getElem?_cons_zero, List.getElem?_cons_succ, List.set_cons_zero, List.set_cons_succ, Option.some.injEq, V.int.injEq, V.ref.injEq, V.str.injEq, V.bl.injEq, exists_eq_left', exists_eq_left, exists_and_left, decide_eq_true_eq, List.cons.injEq, and_true, true_and, scal, Bool.not_eq_true', decide_eq_false_iff_not, Nat.zero_add, Nat.reduceAdd, Nat.reduceSub, reduceCtorEq, false_and, exists_false, false_or, or_false, CPow, CMul, CDiv, Int.reduceToNat, ↓reduceIte, wipe])
local macro_rules | `(tactic| walk_at "st") => `(tactic| (refine seq_op fun N hN => ?_; walk_at "rs"))
local macro_rules | `(tactic| walk_at "sd") => `(tactic| first | assumption | decide | omega)
local macro_rules | `(tactic| walk_at "rd") => `(tactic| repeat (first
  | refine ⟨_, SqL.of (by assumption), ?_⟩ | refine ⟨_, SqL.of upd_same, ?_⟩ | refine ⟨_, .inl (SqL.of (by assumption)), ?_⟩ | refine ⟨_, (by assumption : _ = some (HO.lst _)), ?_⟩ | refine ⟨_, upd_same, ?_⟩
  | refine ⟨_, rfl, ?_⟩ | refine And.intro (by walk_at "sd") ?_))

/-! ### the two ways of judging an expression agree -/
def opsL (d : PyData) (c : Nat) : Option (List Nat) := (opsBehind d ⟨#[c]⟩).map fun o => o.cps.toList
def walkL : List Nat → List PyData → Bool
  | [], [] => true
  | _ :: _, [] => false
  | [], _ :: _ => false
  | c :: w, d :: r => match opsL d c with
    | none => false
    | some o => walkL (o ++ w) r
theorem str_ext {a b : Str} (h : a.cps.toList = b.cps.toList) : a = b := by
  cases a; cases b
  congr 1
  exact Array.toList_inj.mp h
theorem walkE_L : ∀ (ds : List PyData) (w : Str), walkE w ds = walkL w.cps.toList ds
  | [], w => by
    rcases e : w.cps.toList with _ | ⟨c, l⟩
    · have q : w = "" := str_ext (by rw [e]; rfl)
      simp only [walkE, walkL, q, decide_true]
    · have q : w ≠ "" := fun z => by rw [z] at e; cases e
      simp only [walkE, walkL]
      exact decide_eq_false q
  | d :: r, w => by
    rcases e : w.cps.toList with _ | ⟨c, l⟩
    · have q : w = "" := str_ext (by rw [e]; rfl)
      simp only [walkE, walkL, q, if_true]
    · have q : w ≠ "" := fun z => by rw [z] at e; cases e
      have h1 : head1 w = ⟨#[c]⟩ := by unfold head1; rw [e]; rfl
      simp only [walkE, walkL, if_neg q, h1, opsL]
      cases opsBehind d ⟨#[c]⟩ with
      | none => rfl
      | some o =>
        show walkE _ r = walkL _ r
        rw [walkE_L r, str_append, cutS_tail, e]
        rfl
/-- what one word of each kind does -/
inductive Kind (z : Str) : Prop
  | bad (h : needsZ z < 0) (e : opsL (.str z) 101 = none) (k : opsL (.str z) 107 = none)
  | leaf (h : needsZ z = 0) (m : inV (.str z) modV = false) (e : opsL (.str z) 101 = some []) (k : opsL (.str z) 107 = if inV (.str z) numV = true then some [] else none)
  | one (h : needsZ z = 1) (m : inV (.str z) modV = false) (e : opsL (.str z) 101 = some [101]) (k : opsL (.str z) 107 = none)
  | three (h : needsZ z = 3) (m : inV (.str z) modV = false) (e : opsL (.str z) 101 = some [101, 101, 101]) (k : opsL (.str z) 107 = none)
  | two (h : needsZ z = 2) (m : inV (.str z) modV = false) (e : opsL (.str z) 101 = some [101, 101]) (k : opsL (.str z) 107 = none)
  | mod (h : needsZ z = 2) (m : inV (.str z) modV = true) (e : opsL (.str z) 101 = some [101, 107]) (k : opsL (.str z) 107 = none)
theorem isInt_of {z : Str} {a b : Int} (h : isInt z a b = true) : ∃ n : Int, a ≤ n ∧ n ≤ b ∧ z = Str.ofString (toString n) := by
  unfold isInt at h
  split at h
  · rename_i n e
    rw [Bool.and_eq_true, decide_eq_true_iff, decide_eq_true_iff] at h
    unfold readNum at e
    split at e
    · split at e
      · split at e
        · rename_i n' _ e'
          obtain rfl : n' = n := by injection e
          exact ⟨_, h.1, h.2, e'.symm⟩
        · cases e
      · cases e
    · cases e
  · cases h
def nineL : List Str := (List.range 19).map fun (k : Nat) => Str.ofString (toString ((k : Int) - 9))
theorem nineV_eq : nineV = nineL.map V.str := by
  unfold nineV nineL
  rw [List.map_map]; rfl
theorem int9 (z : Str) : isInt z (-9) 9 = inV (.str z) nineV := by
  rw [nineV_eq, inV_map]
  rw [Bool.eq_iff_iff, List.any_eq_true]
  constructor
  · intro h
    obtain ⟨n, h1, h2, rfl⟩ := isInt_of h
    refine ⟨_, List.mem_map.mpr ⟨(n + 9).toNat, List.mem_range.mpr (by omega), rfl⟩, decide_eq_true ?_⟩
    rw [show (((n + 9).toNat : Nat) : Int) - 9 = n by omega]
  · rintro ⟨y, hy, e⟩
    obtain rfl := of_decide_eq_true e
    have all : ∀ y ∈ nineL, isInt y (-9) 9 = true := by decide +kernel
    exact all y hy
theorem int1 (z : Str) : isInt z 1 9 = inV (.str z) numV := by
  unfold numV
  rw [inV_map]
  rw [Bool.eq_iff_iff, List.any_eq_true]
  constructor
  · intro h
    obtain ⟨n, h1, h2, rfl⟩ := isInt_of h
    have q : ∀ k : Fin 9, Str.ofString (toString (((k.val : Nat) : Int) + 1)) ∈ numL9 := by decide +kernel
    have e := q ⟨(n - 1).toNat, by omega⟩
    rw [show (((n - 1).toNat : Nat) : Int) + 1 = n by omega] at e
    exact ⟨_, e, decide_eq_true rfl⟩
  · rintro ⟨y, hy, e⟩
    obtain rfl := of_decide_eq_true e
    have all : ∀ y ∈ numL9, isInt y 1 9 = true := by decide +kernel
    exact all y hy
theorem inL (z : Str) (l : List Str) : inV (.str z) (l.map V.str) = decide (z ∈ l) := by
  rw [inV_map, Bool.eq_iff_iff, List.any_eq_true, decide_eq_true_iff]
  constructor
  · rintro ⟨y, hy, e⟩
    rw [← of_decide_eq_true e]; exact hy
  · exact fun h => ⟨z, h, decide_eq_true rfl⟩
theorem kind_op : ∀ z ∈ ops2L ++ ops1L,
    (needsZ z = 1 ∧ inV (.str z) modV = false ∧ opsL (.str z) 101 = some [101] ∧ opsL (.str z) 107 = none)
  ∨ (needsZ z = 3 ∧ inV (.str z) modV = false ∧ opsL (.str z) 101 = some [101, 101, 101] ∧ opsL (.str z) 107 = none)
  ∨ (needsZ z = 2 ∧ inV (.str z) modV = false ∧ opsL (.str z) 101 = some [101, 101] ∧ opsL (.str z) 107 = none)
  ∨ (needsZ z = 2 ∧ inV (.str z) modV = true ∧ opsL (.str z) 101 = some [101, 107] ∧ opsL (.str z) 107 = none) := by decide +kernel
theorem mod_op : ∀ z ∈ (["mod", "div"] : List Str), z ∈ ops2L ++ ops1L := by decide
theorem kind (z : Str) : Kind z := by
  by_cases hz : z ∈ ops2L ++ ops1L
  · rcases kind_op z hz with ⟨a, b, c, d⟩ | ⟨a, b, c, d⟩ | ⟨a, b, c, d⟩ | ⟨a, b, c, d⟩
    · exact .one a b c d
    · exact .three a b c d
    · exact .two a b c d
    · exact .mod a b c d
  · have hm : inV (.str z) modV = false := by
      show inV (.str z) ((["mod", "div"] : List Str).map V.str) = false
      rw [inL]
      exact decide_eq_false fun h => hz (mod_op z h)
    have h2 : inV (.str z) (ops2L.map V.str) = false := by
      rw [inL]; exact decide_eq_false fun h => hz (List.mem_append_left _ h)
    have h1 : inV (.str z) (ops1L.map V.str) = false := by
      rw [inL]; exact decide_eq_false fun h => hz (List.mem_append_right _ h)
    have ho : opsOf z = none := by
      unfold opsOf
      rw [List.lookup_eq_none_iff]
      intro p hp
      have q : ∀ p ∈ opsTab, p.1 ∈ ops2L ++ ops1L := by decide
      refine bne_iff_ne.mpr fun (e : z = p.1) => hz ?_
      rw [e]; exact q p hp
    have nz : needsZ z = if (inV (.str z) nineV || isNameD (.str z)) = true then 0 else -1 := by
      unfold needsZ
      rw [h2, h1, if_neg (by decide), if_neg (by decide)]
    have ke : ((⟨#[101]⟩ : Str) = "k") = False := eq_false (by decide)
    have kk : ((⟨#[107]⟩ : Str) = "k") = True := eq_true (by decide)
    have oe : opsL (.str z) 101 = if (inV (.str z) nineV || isNameD (.str z)) = true then some [] else none := by
      unfold opsL opsBehind
      simp only [ke, if_false, int9, ho, Bool.or_comm (isNameD (.str z))]
      split <;> rfl
    have ok : opsL (.str z) 107 = if inV (.str z) numV = true then some [] else none := by
      unfold opsL opsBehind
      simp only [kk, if_true, int1]
      split <;> rfl
    by_cases hl : (inV (.str z) nineV || isNameD (.str z)) = true
    · rw [if_pos hl] at nz oe
      exact .leaf nz hm oe ok
    · rw [if_neg hl] at nz oe
      have n9 : inV (.str z) numV = false := by
        rw [← int1]
        rcases e : isInt z 1 9 with _ | _
        · rfl
        · obtain ⟨n, a, b, c⟩ := isInt_of e
          exfalso
          apply hl
          rw [← int9, Bool.or_eq_true]
          have q : ∀ y ∈ numL9, isInt y (-9) 9 = true := by decide +kernel
          rw [int1] at e
          unfold numV at e
          rw [inL] at e
          exact .inl (q z (of_decide_eq_true e))
      rw [n9] at ok
      exact .bad (by rw [nz]; decide) oe ok
/-- the wants against the stack, its top first -/
def mt : List Nat → List Str → Bool
  | [], [] => true
  | c :: w, y :: r => (decide (c = 101) || (decide (c = 107) && inV (.str y) numV)) && mt w r
  | _, _ => false
def stepR (R : List Str) (z : Str) : Option (List Str) :=
  if needsZ z < 0 ∨ (R.length : Int) < needsZ z then none
  else if inV (.str z) modV = true ∧ (∀ y, R[1]? = some y → inV (.str y) numV = false) then none
  else some ((if needsZ z = 0 then z else "") :: R.drop (needsZ z).toNat)
theorem stepP_R (st : List Str) (z : Str) : (stepP st z).map List.reverse = stepR st.reverse z := by
  unfold stepP stepR
  rw [List.length_reverse]
  split
  · rfl
  · rename_i h
    have hm : (inV (.str z) modV = true ∧ ∀ y, st[st.length - 2]? = some y → inV (.str y) numV = false) ↔ (inV (.str z) modV = true ∧ ∀ y, st.reverse[1]? = some y → inV (.str y) numV = false) := by
      refine and_congr_right fun m => ?_
      have n2 : needsZ z = 2 := by
        rcases kind z with ⟨h1, _, _⟩ | ⟨_, h2, _, _⟩ | ⟨_, h2, _, _⟩ | ⟨_, h2, _, _⟩ | ⟨_, h2, _, _⟩ | ⟨h1, _, _, _⟩
        · exact absurd (.inl h1) h
        all_goals first | exact h1 | (rw [h2] at m; cases m)
      rw [List.getElem?_reverse (by omega), show st.length - 1 - 1 = st.length - 2 by omega]
    simp only [hm]
    split
    · rfl
    · simp only [Option.map_some, List.reverse_append, List.reverse_cons, List.reverse_nil, List.nil_append, List.singleton_append]
      rw [List.drop_reverse]
theorem step_iff (z : Str) (c : Nat) (w : List Nat) (R : List Str) (hc : c = 101 ∨ c = 107) :
    (match opsL (.str z) c with | none => false | some o => mt (o ++ w) R) = (match stepR R z with | none => false | some R' => mt (c :: w) R') := by
  have en : inV (.str "") numV = false := by decide +kernel
  have k101 : decide ((101 : Nat) = 101) = true := rfl
  have k107 : decide ((107 : Nat) = 101) = false := rfl
  have k7 : decide ((107 : Nat) = 107) = true := rfl
  have k17 : decide ((101 : Nat) = 107) = false := rfl
  rcases kind z with ⟨h, e, k⟩ | ⟨h, m, e, k⟩ | ⟨h, m, e, k⟩ | ⟨h, m, e, k⟩ | ⟨h, m, e, k⟩ | ⟨h, m, e, k⟩
  · have q : stepR R z = none := by unfold stepR; rw [if_pos (.inl h)]
    rcases hc with rfl | rfl <;> rw [q] <;> (first | rw [e] | rw [k])
  · have q : stepR R z = some (z :: R) := by
      unfold stepR
      rw [if_neg (by omega), m, if_neg (by simp), if_pos h, h]; rfl
    rcases hc with rfl | rfl <;> rw [q] <;> (first | rw [e] | rw [k])
    · show mt w R = (_ && _)
      rw [k101]; rfl
    · show _ = ((_ || (_ && inV (.str z) numV)) && mt w R)
      rw [k107, k7, Bool.false_or, Bool.true_and]
      cases inV (.str z) numV <;> rfl
  · rcases R with _ | ⟨y, R⟩
    · have q : stepR [] z = none := by unfold stepR; rw [if_pos (.inr (by rw [h]; decide))]
      rcases hc with rfl | rfl <;> rw [q] <;> (first | rw [e] | rw [k]) <;> rfl
    · have q : stepR (y :: R) z = some (Str.ofString "" :: R) := by
        unfold stepR
        rw [if_neg (by rw [h, List.length_cons]; omega), m, if_neg (by simp), if_neg (by rw [h]; decide), h]; rfl
      rcases hc with rfl | rfl <;> rw [q] <;> (first | rw [e] | rw [k])
      · show (_ && mt w R) = (_ && mt w R)
        rw [k101]; rfl
      · show false = ((_ || (_ && inV (.str "") numV)) && mt w R)
        rw [k107, en]; rfl
  · rcases R with _ | ⟨y1, _ | ⟨y2, _ | ⟨y3, R⟩⟩⟩
    · have q : stepR [] z = none := by unfold stepR; rw [if_pos (.inr (by rw [h]; decide))]
      rcases hc with rfl | rfl <;> rw [q] <;> (first | rw [e] | rw [k]) <;> rfl
    · have q : stepR [y1] z = none := by unfold stepR; rw [if_pos (.inr (by rw [h]; exact (by decide : ((1 : Nat) : Int) < 3)))]
      rcases hc with rfl | rfl <;> rw [q] <;> (first | rw [e] | rw [k])
      exact Bool.and_false _
    · have q : stepR [y1, y2] z = none := by unfold stepR; rw [if_pos (.inr (by rw [h]; exact (by decide : ((2 : Nat) : Int) < 3)))]
      rcases hc with rfl | rfl <;> rw [q] <;> (first | rw [e] | rw [k])
      show (_ && (_ && false)) = false
      rw [Bool.and_false, Bool.and_false]
    · have q : stepR (y1 :: y2 :: y3 :: R) z = some (Str.ofString "" :: R) := by
        unfold stepR
        rw [if_neg (by rw [h, List.length_cons, List.length_cons, List.length_cons]; omega), m, if_neg (by simp), if_neg (by rw [h]; decide), h]; rfl
      rcases hc with rfl | rfl <;> rw [q] <;> (first | rw [e] | rw [k])
      · show (_ && (_ && (_ && mt w R))) = (_ && mt w R)
        rw [k101]; rfl
      · show false = ((_ || (_ && inV (.str "") numV)) && mt w R)
        rw [k107, en]; rfl
  · rcases R with _ | ⟨y1, _ | ⟨y2, R⟩⟩
    · have q : stepR [] z = none := by unfold stepR; rw [if_pos (.inr (by rw [h]; decide))]
      rcases hc with rfl | rfl <;> rw [q] <;> (first | rw [e] | rw [k]) <;> rfl
    · have q : stepR [y1] z = none := by unfold stepR; rw [if_pos (.inr (by rw [h]; exact (by decide : ((1 : Nat) : Int) < 2)))]
      rcases hc with rfl | rfl <;> rw [q] <;> (first | rw [e] | rw [k])
      exact Bool.and_false _
    · have q : stepR (y1 :: y2 :: R) z = some (Str.ofString "" :: R) := by
        unfold stepR
        rw [if_neg (by rw [h, List.length_cons, List.length_cons]; omega), m, if_neg (by simp), if_neg (by rw [h]; decide), h]; rfl
      rcases hc with rfl | rfl <;> rw [q] <;> (first | rw [e] | rw [k])
      · show (_ && (_ && mt w R)) = (_ && mt w R)
        rw [k101]; rfl
      · show false = ((_ || (_ && inV (.str "") numV)) && mt w R)
        rw [k107, en]; rfl
  · rcases R with _ | ⟨y1, _ | ⟨y2, R⟩⟩
    · have q : stepR [] z = none := by unfold stepR; rw [if_pos (.inr (by rw [h]; decide))]
      rcases hc with rfl | rfl <;> rw [q] <;> (first | rw [e] | rw [k]) <;> rfl
    · have q : stepR [y1] z = none := by unfold stepR; rw [if_pos (.inr (by rw [h]; exact (by decide : ((1 : Nat) : Int) < 2)))]
      rcases hc with rfl | rfl <;> rw [q] <;> (first | rw [e] | rw [k])
      exact Bool.and_false _
    · rcases e2 : inV (.str y2) numV with _ | _
      · have q : stepR (y1 :: y2 :: R) z = none := by
          unfold stepR
          rw [if_neg (by rw [h, List.length_cons, List.length_cons]; omega), if_pos ⟨m, fun y hy => by
            obtain rfl : y2 = y := by injection hy
            exact e2⟩]
        rcases hc with rfl | rfl <;> rw [q] <;> (first | rw [e] | rw [k])
        show (_ && ((_ || (_ && inV (.str y2) numV)) && mt w R)) = false
        rw [k107, e2]; rfl
      · have q : stepR (y1 :: y2 :: R) z = some (Str.ofString "" :: R) := by
          unfold stepR
          rw [if_neg (by rw [h, List.length_cons, List.length_cons]; omega), if_neg (fun c => by rw [c.2 y2 rfl] at e2; cases e2), if_neg (by rw [h]; decide), h]; rfl
        rcases hc with rfl | rfl <;> rw [q] <;> (first | rw [e] | rw [k])
        · show (_ && ((_ || (_ && inV (.str y2) numV)) && mt w R)) = (_ && mt w R)
          rw [e2, k101, k107, k7]; rfl
        · show false = ((_ || (_ && inV (.str "") numV)) && mt w R)
          rw [k107, en]; rfl
theorem walkP_app : ∀ (zs : List Str) (st : List Str) (z : Str), walkP st (zs ++ [z]) = match walkP st zs with | none => none | some st' => stepP st' z
  | [], st, z => by
    show (match stepP st z with | none => none | some st' => some st') = stepP st z
    cases stepP st z <;> rfl
  | y :: zs, st, z => by
    show (match stepP st y with | none => none | some st' => walkP st' (zs ++ [z])) = match (match stepP st y with | none => none | some st' => walkP st' zs) with | none => none | some st' => stepP st' z
    cases stepP st y with
    | none => rfl
    | some st' => exact walkP_app zs st' z
theorem ops_kinds (z : Str) {c : Nat} (hc : c = 101 ∨ c = 107) {o : List Nat} (h : opsL (.str z) c = some o) : ∀ x ∈ o, x = 101 ∨ x = 107 := by
  rcases kind z with ⟨_, e, k⟩ | ⟨_, _, e, k⟩ | ⟨_, _, e, k⟩ | ⟨_, _, e, k⟩ | ⟨_, _, e, k⟩ | ⟨_, _, e, k⟩ <;> rcases hc with rfl | rfl
  all_goals first | rw [e] at h | rw [k] at h
  all_goals first
    | (cases h; done)
    | (injection h with h; subst h; intro x hx; cases hx; done)
    | (obtain rfl := Option.some.inj h; intro x hx; simp only [List.mem_cons, List.mem_nil_iff, or_false] at hx; first | exact hx.elim | omega)
    | (split at h <;> first | (cases h; done) | (obtain rfl := Option.some.inj h; intro x hx; cases hx))
theorem mt_nil (R : List Str) : mt [] R = decide (R = []) := by cases R <;> rfl
theorem walk_both : ∀ (zs : List Str) (w : List Nat), (∀ x ∈ w, x = 101 ∨ x = 107) → walkL w (zs.map PyData.str) = match walkP [] zs.reverse with | none => false | some st => mt w st.reverse
  | [], w, _ => by cases w <;> rfl
  | z :: r, [], _ => by
    show false = _
    rw [List.reverse_cons, walkP_app]
    cases walkP [] r.reverse with
    | none => rfl
    | some st' =>
      show false = match stepP st' z with | none => false | some st => mt [] st.reverse
      rcases e : stepP st' z with _ | st
      · rfl
      · have q := stepP_R st' z
        rw [e] at q
        have ne : st.reverse ≠ [] := fun z0 => by
          rw [Option.map_some, z0] at q
          unfold stepR at q
          split at q
          · cases q
          · split at q <;> cases q
        show false = mt [] st.reverse
        rw [mt_nil, decide_eq_false ne]
  | z :: r, c :: w, hw => by
    have hc := hw c List.mem_cons_self
    show (match opsL (.str z) c with | none => false | some o => walkL (o ++ w) (r.map PyData.str)) = _
    rw [List.reverse_cons, walkP_app]
    have ih : ∀ o, opsL (.str z) c = some o → walkL (o ++ w) (r.map PyData.str) = match walkP [] r.reverse with | none => false | some st => mt (o ++ w) st.reverse := fun o ho => walk_both r (o ++ w) fun x hx => (List.mem_append.mp hx).elim (ops_kinds z hc ho x) (fun h => hw x (List.mem_cons_of_mem _ h))
    cases e : walkP [] r.reverse with
    | none =>
      rw [e] at ih
      show _ = false
      cases eo : opsL (.str z) c with
      | none => rfl
      | some o => exact ih o eo
    | some st' =>
      rw [e] at ih
      have s := step_iff z c w st'.reverse hc
      rw [← stepP_R] at s
      show _ = match stepP st' z with | none => false | some st => mt (c :: w) st.reverse
      have s2 : (match opsL (.str z) c with | none => false | some o => walkL (o ++ w) (r.map PyData.str)) = (match opsL (.str z) c with | none => false | some o => mt (o ++ w) st'.reverse) := by
        cases eo : opsL (.str z) c with
        | none => rfl
        | some o => exact ih o eo
      rw [s2, s]
      cases stepP st' z <;> rfl
theorem strs_some : ∀ {ds : List PyData} {zs : List Str}, strsOf ds = some zs → ds = zs.map PyData.str
  | [], zs, h => by
    obtain rfl := Option.some.inj h; rfl
  | .str z :: r, zs, h => by
    rcases e : strsOf r with _ | l
    · unfold strsOf at h; rw [e] at h; cases h
    · unfold strsOf at h; rw [e] at h
      obtain rfl := Option.some.inj h
      rw [strs_some e]; rfl
  | .none :: r, zs, h => by cases h
  | .bool _ :: r, zs, h => by cases h
  | .int _ :: r, zs, h => by cases h
  | .list _ :: r, zs, h => by cases h
  | .tuple _ :: r, zs, h => by cases h
  | .dict _ :: r, zs, h => by cases h
theorem walk_bad : ∀ {ds : List PyData} (w : List Nat), strsOf ds = none → walkL w ds = false
  | [], _, h => by cases h
  | _ :: _, [], _ => rfl
  | .str z :: r, c :: w, h => by
    show (match opsL (.str z) c with | none => false | some o => walkL (o ++ w) r) = false
    have e : strsOf r = none := by
      rcases e : strsOf r with _ | l
      · rfl
      · unfold strsOf at h; rw [e] at h; cases h
    cases opsL (.str z) c with
    | none => rfl
    | some o => exact walk_bad _ e
  | .none :: r, c :: w, _ => rfl
  | .bool _ :: r, c :: w, _ => rfl
  | .int _ :: r, c :: w, _ => rfl
  | .list _ :: r, c :: w, _ => rfl
  | .tuple _ :: r, c :: w, _ => rfl
  | .dict _ :: r, c :: w, _ => rfl
theorem mt_one (R : List Str) : mt [101] R = decide (R.length = 1) := by
  rcases R with _ | ⟨y, _ | ⟨y2, R⟩⟩
  · rfl
  · rfl
  · show (_ && false) = decide (R.length + 1 + 1 = 1)
    rw [Bool.and_false, decide_eq_false (by omega)]
theorem walk_pre (ds : List PyData) : walkE "e" ds = preZ (strsOf ds) := by
  rw [walkE_L]
  show walkL [101] ds = _
  rcases e : strsOf ds with _ | zs
  · rw [walk_bad _ e]; rfl
  · rw [strs_some e, walk_both zs [101] (by simp)]
    show _ = finP (walkP [] zs.reverse)
    cases walkP [] zs.reverse with
    | none => rfl
    | some st =>
      show mt [101] st.reverse = decide (st.length = 1)
      rw [mt_one, List.length_reverse]
theorem judge_eq {d : PyData} (_ : okD d = true) : isExpr d = isPre d := by
  cases d with
  | tuple ds =>
    show (_ && walkE "e" ds) = (_ && preZ (strsOf ds))
    rw [walk_pre]
  | none => rfl
  | bool => rfl
  | int => rfl
  | str => rfl
  | list => rfl
  | dict => rfl
end LK

set_option Elab.async false
set_option linter.all false
set_option maxRecDepth 100000
namespace LK
open PySem PySem.Spec PyProof.Rows L2
local macro_rules | `(tactic| walk_at "rs") => `(tactic| simp only [cxK, cxNK, tCallZ, tAsg, tOp, rI0, rS0, rB0, rI, rU, tUn, rEq, rNe, rIxL, rIxT, rIxS, rSetL, rSlLU, rSlS, rSlU, rCatL, rCatU, rRepL, rIn, tVar, tC, gName, gSub, tIfS, tTest, tB, tAnd, tOr, tNot, tNotV, tAndV, tOrV, tIf, tCall, tCons, tNil, tCB, tDrop, tRet, tRetN, tNext, tLstU, tTupU, tM0, tM1, tPar, tBM, tBM0, rAppend, rPop, tBreak, tCont, tChain, tSl, tPart, tNoPart, L2.start, List.map, List.length_cons, List.length_nil, List.replicate, List.cons_append, List.nil_append, List.append_nil, List.getElem?_cons_zero, List.getElem?_cons_succ, List.set_cons_zero, List.set_cons_succ, Option.some.injEq, V.int.injEq, V.ref.injEq, V.str.injEq, V.bl.injEq, exists_eq_left', exists_eq_left, exists_and_left, decide_eq_true_eq, List.cons.injEq, and_true, true_and, scal, Bool.not_eq_true', decide_eq_false_iff_not, Nat.zero_add, Nat.reduceAdd, Nat.reduceSub, reduceCtorEq, false_and, exists_false, false_or, or_false, CPow, CMul, CDiv, Int.reduceToNat, ↓reduceIte, wipe])
local macro_rules | `(tactic| walk_at "st") => `(tactic| (refine seq_op fun N hN => ?_; walk_at "rs"))
local macro_rules | `(tactic| walk_at "sd") => `(tactic| first | assumption | decide | omega)
local macro_rules | `(tactic| walk_at "rd") => `(tactic| repeat (first
  | refine ⟨_, SqL.of (by assumption), ?_⟩ | refine ⟨_, SqL.of upd_same, ?_⟩ | refine ⟨_, .inl (SqL.of (by assumption)), ?_⟩ | refine ⟨_, (by assumption : _ = some (HO.lst _)), ?_⟩ | refine ⟨_, upd_same, ?_⟩
  | refine ⟨_, rfl, ?_⟩ | refine And.intro (by walk_at "sd") ?_))


theorem ask {K : PySem.W.Frag} {F : PyData → V} {H H1 : Hp} {v : V} {d : PyData} {Q : VK} {E : XK} (h : Dp K H v d) (ok : okD d = true) (s : Same H H1) (k : ∀ H', Same H H' → Same H1 H' → Q (F d) H') : spP K F [v] H1 Q E :=
  ⟨v, d, rfl, dp_same s h, ok, fun H' s' => k H' (Same.trans s s') s'⟩
theorem like_bl {K : PySem.W.Frag} {H : Hp} {b : Bool} {n : Nat} {Q : VK} {E : XK} (k : ∀ H', Same H H' → Q (.bl true) H') : sp__law_like K n [.bl b, .bl b] H Q E :=
  ⟨_, _, .bool b, rfl, .bl b, .bl b, rfl, Nat.zero_le _, k⟩
section
variable {P : Program} {w : World} {K : PySem.W.Frag} {mg : Str → Option Value} {base : Heap}
theorem ok__law_judged (T : Txt w K mg) : FnOk P w K mg base CX0 6 T.a__law_judged T.d__law_judged ["thing"] (spT K) := by
  refine T.F__law_judged.ok sc__law_judged (fun vs H Q E h => ?_) (fun cdv A outer s H vs Q E hr h => ?_)
  · obtain ⟨v, d, rfl, _⟩ := h
    rfl
  · obtain ⟨v, d, rfl, hD, hok, k⟩ := h
    have hr__law_is_prefix : Room 5 _ := hr.mono (by decide)
    have G__law_is_prefix := ok__law_is_prefix (P := P) (base := base) T
    have hr__law_like : Room 1 _ := hr.mono (by decide)
    have G__law_like := ok__law_like (P := P) (base := base) T 0
    have hr_is_expression : Room 5 _ := hr.mono (by decide)
    have G_is_expression := ok_is_expression (P := P) (base := base) T
    refine ⟨_, (pss_cons (ps_set (i := 1) sc__law_judged.nd rfl (Or.inl rfl) (pe_call G__law_is_prefix hr__law_is_prefix (by rfl) T.m__law_is_prefix T.F__law_is_prefix.kp T.B__law_is_prefix .nil pass0 (pa_cons (pv 0) pa_nil)))
      (pss_one (ps_ret (pe_and (pe_call G__law_like hr__law_like (by rfl) T.m__law_like T.F__law_like.kp T.B__law_like .nil pass0 (pa_cons (pe_call G_is_expression hr_is_expression (by rfl) T.m_is_expression T.F_is_expression.kp T.B_is_expression .nil pass0 (pa_cons (pv 0) pa_nil)) (pa_cons (pv 1) pa_nil))) (pe_one (pe_call G__law_like hr__law_like (by rfl) T.m__law_like T.F__law_like.kp T.B__law_like .nil pass0 (pa_cons (pe_callZ (g := fun ws => ws) (gV := fun zs => zs) G_is_expression hr_is_expression (by rfl) T.m_is_expression T.F_is_expression.kp T.Z_is_expression pass0 (pk_cons (pv 0) pk_nil)) (pa_cons (pv 1) pa_nil)))))))), ?_⟩
    refine seq_op fun N hN => ?_
    walk_at "rs"
    refine ask hD hok (Same.refl _) fun H1 s1 _ => hN _ _ ?_
    clear hN N
    walk_at "rs"
    refine ask hD hok s1 fun H2 _ s2 => ?_
    rw [judge_eq hok]
    refine like_bl fun H3 s3 => ?_
    walk_at "rs"
    have s03 : Same H H3 := Same.trans s1 (Same.trans s2 s3)
    refine ask hD hok s03 fun H4 s4 _ => ?_
    rw [judge_eq hok]
    exact like_bl fun H5 s5 => k H5 (Same.trans s4 s5)
theorem ok__law_called (T : Txt w K mg) : FnOk P w K mg base CX0 4 T.a__law_called T.d__law_called ["thing"] (spT K) := by
  refine T.F__law_called.ok sc__law_called (fun vs H Q E h => ?_) (fun cdv A outer s H vs Q E hr h => ?_)
  · obtain ⟨v, d, rfl, _⟩ := h
    rfl
  · obtain ⟨v, d, rfl, hD, hok, k⟩ := h
    have hr__law_like : Room 2 _ := hr.mono (by decide)
    have G__law_like := ok__law_like (P := P) (base := base) T 1
    have hr_is_word_name : Room 1 _ := hr.mono (by decide)
    have G_is_word_name := ok_is_word_name (P := P) (base := base) T
    have hr_is_own_name : Room 2 _ := hr.mono (by decide)
    have G_is_own_name := ok_is_own_name (P := P) (base := base) T
    have hr_is_name : Room 3 _ := hr.mono (by decide)
    have G_is_name := ok_is_name (P := P) (base := base) T
    have hr__law_is_word : Room 1 _ := hr.mono (by decide)
    have G__law_is_word := ok__law_is_word (P := P) (base := base) T
    have hr__law_is_own : Room 2 _ := hr.mono (by decide)
    have G__law_is_own := ok__law_is_own (P := P) (base := base) T
    have hr__law_is_name : Room 3 _ := hr.mono (by decide)
    have G__law_is_name := ok__law_is_name (P := P) (base := base) T
    refine ⟨_, (pss_cons (ps_if (pt_not (pt_val (pe_call G__law_like hr__law_like (by rfl) T.m__law_like T.F__law_like.kp T.B__law_like .nil pass0 (pa_cons (pe_lstU (pa_cons (pe_call G_is_word_name hr_is_word_name (by rfl) T.m_is_word_name T.F_is_word_name.kp T.B_is_word_name .nil pass0 (pa_cons (pv 0) pa_nil)) (pa_cons (pe_call G_is_own_name hr_is_own_name (by rfl) T.m_is_own_name T.F_is_own_name.kp T.B_is_own_name .nil pass0 (pa_cons (pv 0) pa_nil)) (pa_cons (pe_call G_is_name hr_is_name (by rfl) T.m_is_name T.F_is_name.kp T.B_is_name .nil pass0 (pa_cons (pv 0) pa_nil)) pa_nil)))) (pa_cons (pe_lstU (pa_cons (pe_call G__law_is_word hr__law_is_word (by rfl) T.m__law_is_word T.F__law_is_word.kp T.B__law_is_word .nil pass0 (pa_cons (pv 0) pa_nil)) (pa_cons (pe_call G__law_is_own hr__law_is_own (by rfl) T.m__law_is_own T.F__law_is_own.kp T.B__law_is_own .nil pass0 (pa_cons (pv 0) pa_nil)) (pa_cons (pe_call G__law_is_name hr__law_is_name (by rfl) T.m__law_is_name T.F__law_is_name.kp T.B__law_is_name .nil pass0 (pa_cons (pv 0) pa_nil)) pa_nil)))) pa_nil))))) (pss_one (ps_ret pe_bl)) pss_nil)
      (pss_cons (ps_if (PW.pt (pw_or (pt_not (pt_val (pe_call G__law_like hr__law_like (by rfl) T.m__law_like T.F__law_like.kp T.B__law_like .nil pass0 (pa_cons (pe_callZ (g := fun ws => ws) (gV := fun zs => zs) G_is_word_name hr_is_word_name (by rfl) T.m_is_word_name T.F_is_word_name.kp T.Z_is_word_name pass0 (pk_cons (pv 0) pk_nil)) (pa_cons (pe_call G__law_is_word hr__law_is_word (by rfl) T.m__law_is_word T.F__law_is_word.kp T.B__law_is_word .nil pass0 (pa_cons (pv 0) pa_nil)) pa_nil))))) (pw_or1 (pt_not (pt_val (pe_call G__law_like hr__law_like (by rfl) T.m__law_like T.F__law_like.kp T.B__law_like .nil pass0 (pa_cons (pe_callZ (g := fun ws => ws) (gV := fun zs => zs) G_is_own_name hr_is_own_name (by rfl) T.m_is_own_name T.F_is_own_name.kp T.Z_is_own_name pass0 (pk_cons (pv 0) pk_nil)) (pa_cons (pe_call G__law_is_own hr__law_is_own (by rfl) T.m__law_is_own T.F__law_is_own.kp T.B__law_is_own .nil pass0 (pa_cons (pv 0) pa_nil)) pa_nil)))))))) (pss_one (ps_ret pe_bl)) pss_nil)
      (pss_one (ps_ret (pe_call G__law_like hr__law_like (by rfl) T.m__law_like T.F__law_like.kp T.B__law_like .nil pass0 (pa_cons (pe_callZ (g := fun ws => ws) (gV := fun zs => zs) G_is_name hr_is_name (by rfl) T.m_is_name T.F_is_name.kp T.Z_is_name pass0 (pk_cons (pv 0) pk_nil)) (pa_cons (pe_call G__law_is_name hr__law_is_name (by rfl) T.m__law_is_name T.F__law_is_name.kp T.B__law_is_name .nil pass0 (pa_cons (pv 0) pa_nil)) pa_nil))))))), ?_⟩
    refine seq_op fun N hN => ?_
    walk_at "rs"
    refine ask hD hok (Same.refl _) fun H1 s1 _ => ask hD hok s1 fun H2 s2 _ => ask hD hok s2 fun H3 s3 _ => ⟨by decide, fun p H4 s4 h04 h4 => ask hD hok (Same.trans s3 s4) fun H5 s5 u5 => ask hD hok s5 fun H6 s6 u6 => ask hD hok s6 fun H7 s7 u7 => ⟨by decide, fun q H8 s8 h08 h8 => ?_⟩⟩
    have hp : H8 p = some (.lst [V.bl (isWordD d), V.bl (isOwnD d), V.bl (isNameD d)]) := s8 _ _ (u7 _ _ (u6 _ _ (u5 _ _ h4)))
    refine ⟨_, _, .list [.bool _, .bool _, .bool _], rfl, .lst (SqL.of hp) (.cons (.bl _) (.cons (.bl _) (.cons (.bl _) .nil))), .lst (SqL.of h8) (.cons (.bl _) (.cons (.bl _) (.cons (.bl _) .nil))), by rfl, (show _ from Nat.le_refl 1), fun H9 s9 => ⟨true, rfl, iteFF (by decide) (hN _ _ ?_)⟩⟩
    clear hN N
    have s09 : Same H H9 := Same.trans s7 (Same.trans s8 s9)
    clear h8 h08 hp h4 h04 s8 s9 u5 u6 u7 s4 s5 s6 s7 s1 s2 s3
    refine seq_op fun N hN => ?_
    walk_at "rs"
    refine ask hD hok s09 fun H10 s10 _ => ask hD hok s10 fun H11 s11 _ => like_bl fun H12 s12 => ⟨true, rfl, iteFF (by decide) ?_⟩
    refine ask hD hok (Same.trans s11 s12) fun H13 s13 _ => ask hD hok s13 fun H14 s14 _ => like_bl fun H15 s15 => ⟨true, rfl, iteFF (by decide) (hN _ _ ?_)⟩
    clear hN N
    walk_at "rs"
    refine ask hD hok (Same.trans s14 s15) fun H16 s16 _ => ask hD hok s16 fun H17 s17 _ => like_bl fun H18 s18 => k H18 (Same.trans s17 s18)
end
end LK

set_option Elab.async false
set_option linter.all false
set_option maxRecDepth 100000
namespace LK
open PySem PySem.Spec PyProof.Rows L2
local macro_rules | `(tactic| walk_at "rs") => `(tactic| simp only [cxK, cxNK, tCallZ, tAsg, tOp, rI0, rS0, rB0, rI, rU, tUn, rEq, rNe, rIxL, rIxT, rIxS, rSetL, rSlLU, rSlS, rSlU, rCatL, rCatU, rRepL, rIn, tVar, tC, gName, gSub, tIfS, tTest, tB, tAnd, tOr, tNot, tNotV, tAndV, tOrV, tIf, tCall, tCons, tNil, tCB, tDrop, tRet, tRetN, tNext, tLstU, tTupU, tM0, tM1, tPar, tBM, tBM0, rAppend, rPop, tBreak, tCont, tChain, tSl, tPart, tNoPart, L2.start, List.map, List.length_cons, List.length_nil, List.replicate, List.cons_append, List.nil_append, List.append_nil, List.getElem?_cons_zero, List.getElem?_cons_succ, List.set_cons_zero, List.set_cons_succ, Option.some.injEq, V.int.injEq, V.ref.injEq, V.str.injEq, V.bl.injEq, exists_eq_left', exists_eq_left, exists_and_left, decide_eq_true_eq, List.cons.injEq, and_true, true_and, scal, Bool.not_eq_true', decide_eq_false_iff_not, Nat.zero_add, Nat.reduceAdd, Nat.reduceSub, reduceCtorEq, false_and, exists_false, false_or, or_false, CPow, CMul, CDiv, Int.reduceToNat, ↓reduceIte, wipe])
local macro_rules | `(tactic| walk_at "st") => `(tactic| (refine seq_op fun N hN => ?_; walk_at "rs"))
local macro_rules | `(tactic| walk_at "sd") => `(tactic| first | assumption | decide | omega)
local macro_rules | `(tactic| walk_at "rd") => `(tactic| repeat (first
  | refine ⟨_, SqL.of (by assumption), ?_⟩ | refine ⟨_, SqL.of upd_same, ?_⟩ | refine ⟨_, .inl (SqL.of (by assumption)), ?_⟩ | refine ⟨_, (by assumption : _ = some (HO.lst _)), ?_⟩ | refine ⟨_, upd_same, ?_⟩
  | refine ⟨_, rfl, ?_⟩ | refine And.intro (by walk_at "sd") ?_))

theorem dp_words {K : PySem.W.Frag} {H : Hp} {q : Addr} {ws : List Str} (h : SqT K H q (ws.map V.str)) : Dp K H (.ref q) (.tuple (ws.map PyData.str)) := .tup h (strs_dpa ws)
theorem okAll_strs : ∀ {ws : List Str}, (∀ z ∈ ws, z.length ≤ 100000) → okAll (ws.map PyData.str) = true
  | [], _ => rfl
  | z :: ws, h => by
    show (okD (.str z) && okAll (ws.map PyData.str)) = true
    rw [show okD (.str z) = true from decide_eq_true (h z List.mem_cons_self), okAll_strs fun y hy => h y (List.mem_cons_of_mem _ hy)]; rfl
theorem ok_words {ws : List Str} {m : Nat} (h : ∀ z ∈ ws, z.length ≤ m) (hm : m ≤ 100000) (hl : ws.length ≤ 100000) : okD (.tuple (ws.map PyData.str)) = true := okD_tup.mpr ⟨by rw [List.length_map]; exact hl, okAll_strs fun z hz => Nat.le_trans (h z hz) hm⟩
theorem judge {K : PySem.W.Frag} {H : Hp} {v : V} {d : PyData} {Q : VK} {E : XK} (h : Dp K H v d) (ok : okD d = true) (k : ∀ H', Same H H' → Q (.bl true) H') : spT K [v] H Q E := ⟨v, d, rfl, h, ok, k⟩
section
variable {P : Program} {w : World} {K : PySem.W.Frag} {mg : Str → Option Value} {base : Heap}
theorem ok_law (T : Txt w K mg) : FnOk P w K mg base CX0 8 T.a_law T.d_law ["script"] (sp_law K) := by
  refine T.F_law.ok sc_law (fun vs H Q E h => ?_) (fun cdv A outer s H vs Q E hr h => ?_)
  · obtain ⟨a, ns, rfl, _⟩ := h
    rfl
  · obtain ⟨a, ns, rfl, hS, hn, k⟩ := h
    have hr__law_bag : Room 1 _ := hr.mono (by decide)
    have G__law_bag := ok__law_bag (P := P) (base := base) T
    have hr__law_kept : Room 1 _ := hr.mono (by decide)
    have G__law_kept := ok__law_kept (P := P) (base := base) T
    have hr__law_like : Room 2 _ := hr.mono (by decide)
    have G__law_like := ok__law_like (P := P) (base := base) T 1
    have hr__law_draw : Room 1 _ := hr.mono (by decide)
    have G__law_draw := ok__law_draw (P := P) (base := base) T
    have hr__law_of : Room 2 _ := hr.mono (by decide)
    have G__law_of := ok__law_of (P := P) (base := base) T
    have hr__law_prefix : Room 3 _ := hr.mono (by decide)
    have G__law_prefix := ok__law_prefix (P := P) (base := base) T
    have hr__law_judged : Room 6 _ := hr.mono (by decide)
    have G__law_judged := ok__law_judged (P := P) (base := base) T
    have hr__law_bent : Room 6 _ := hr.mono (by decide)
    have G__law_bent := ok__law_bent (P := P) (base := base) T
    have hr__law_some_word : Room 4 _ := hr.mono (by decide)
    have G__law_some_word := ok__law_some_word (P := P) (base := base) T
    have hr__law_chain : Room 3 _ := hr.mono (by decide)
    have G__law_chain := ok__law_chain (P := P) (base := base) T
    have hr__law_any : Room 7 _ := hr.mono (by decide)
    have G__law_any := ok__law_any (P := P) (base := base) T 4
    have hr__law_called : Room 4 _ := hr.mono (by decide)
    have G__law_called := ok__law_called (P := P) (base := base) T
    have hr__law_some_name : Room 3 _ := hr.mono (by decide)
    have G__law_some_name := ok__law_some_name (P := P) (base := base) T
    have hr_is_expression : Room 5 _ := hr.mono (by decide)
    have G_is_expression := ok_is_expression (P := P) (base := base) T
    refine ⟨_, (pss_cons (ps_set (i := 1) sc_law.nd rfl (Or.inr rfl) (pe_call G__law_bag hr__law_bag (by rfl) T.m__law_bag T.F__law_bag.kp T.B__law_bag .nil pass0 (pa_cons (pv 0) pa_nil)))
      (pss_cons (ps_if (pt_not (pt_val (pe_call G__law_like hr__law_like (by rfl) T.m__law_like T.F__law_like.kp T.B__law_like .nil pass0 (pa_cons (pe_glob (v := .ref T.a_RESERVED) (by rfl) T.m_RESERVED rfl) (pa_cons (pe_callTy call_tupleN (by rfl) T.n_tuple (by decide +kernel) (pa_cons (pe_call0 G__law_kept hr__law_kept (by rfl) T.m__law_kept T.F__law_kept.kp T.B__law_kept .nil pass0) pa_nil)) pa_nil))))) (pss_one (ps_ret pe_bl)) pss_nil)
      (pss_cons (ps_for PassesOwn.never rfl (pi_range1 (by rfl) T.n_range (pa_cons pe_int pa_nil)) (pg_name (i := 2) sc_law.nd rfl (Or.inl rfl)) (pss_cons (ps_set (i := 3) sc_law.nd rfl (Or.inl rfl) (pe_call G__law_of hr__law_of (by rfl) T.m__law_of T.F__law_of.kp T.B__law_of .nil pass0 (pa_cons (pv 1) (pa_cons (pe_lstU (pa_cons pe_int (pa_cons pe_int (pa_cons pe_int (pa_cons pe_int (pa_cons pe_int (pa_cons pe_int (pa_cons (pe_op op_add pe_int (pe_call G__law_draw hr__law_draw (by rfl) T.m__law_draw T.F__law_draw.kp T.B__law_draw .nil pass0 (pa_cons (pv 1) (pa_cons pe_int pa_nil)))) pa_nil)))))))) pa_nil))))
      (pss_cons (ps_set (i := 4) sc_law.nd rfl (Or.inl rfl) (pe_call G__law_prefix hr__law_prefix (by rfl) T.m__law_prefix T.F__law_prefix.kp T.B__law_prefix .nil pass0 (pa_cons (pv 1) (pa_cons (pe_ix ix_list (pe_lstU (pa_cons (pe_lstU pa_nil) (pa_cons (pe_lstU (pa_cons pe_str (pa_cons pe_str pa_nil))) (pa_cons (pe_lstU (pa_cons pe_str (pa_cons pe_str (pa_cons pe_str pa_nil)))) pa_nil)))) (pe_call G__law_draw hr__law_draw (by rfl) T.m__law_draw T.F__law_draw.kp T.B__law_draw .nil pass0 (pa_cons (pv 1) (pa_cons pe_int pa_nil))) (fun _ _ => rfl)) (pa_cons (pv 3) pa_nil)))))
      (pss_cons (ps_if (PW.pt (pw_or (pt_not (pt_val (pe_call G__law_judged hr__law_judged (by rfl) T.m__law_judged T.F__law_judged.kp T.B__law_judged .nil pass0 (pa_cons (pv 4) pa_nil)))) (pw_or (pt_not (pt_val (pe_call G__law_judged hr__law_judged (by rfl) T.m__law_judged T.F__law_judged.kp T.B__law_judged .nil pass0 (pa_cons (pe_callTy call_listU (by rfl) T.n_list (by decide +kernel) (pa_cons (pv 4) pa_nil)) pa_nil)))) (pw_or1 (pt_not (pt_val (pe_call G__law_judged hr__law_judged (by rfl) T.m__law_judged T.F__law_judged.kp T.B__law_judged .nil pass0 (pa_cons (pe_join pe_str (pv 4)) pa_nil)))))))) (pss_one (ps_ret pe_bl)) pss_nil)
      (pss_cons (ps_set (i := 5) sc_law.nd rfl (Or.inl rfl) (pv 4))
      (pss_cons (ps_for PassesOwn.never rfl (pi_range1 (by rfl) T.n_range (pa_cons pe_int pa_nil)) (pg_name (i := 6) sc_law.nd rfl (Or.inl rfl)) (pss_cons (ps_set (i := 5) sc_law.nd rfl (Or.inl rfl) (pe_call G__law_bent hr__law_bent (by rfl) T.m__law_bent T.F__law_bent.kp T.B__law_bent .nil pass0 (pa_cons (pv 1) (pa_cons (pv 5) pa_nil))))
      (pss_cons (ps_if (pt_not (pt_val (pe_call G__law_judged hr__law_judged (by rfl) T.m__law_judged T.F__law_judged.kp T.B__law_judged .nil pass0 (pa_cons (pv 5) pa_nil)))) (pss_one (ps_ret pe_bl)) pss_nil)
      (pss_one (ps_if (pt_cmpR op_eqI (pe_call G__law_draw hr__law_draw (by rfl) T.m__law_draw T.F__law_draw.kp T.B__law_draw .nil pass0 (pa_cons (pv 1) (pa_cons pe_int pa_nil))) pe_int (nomark _)) (pss_one (ps_set (i := 5) sc_law.nd rfl (Or.inl rfl) (pv 4))) pss_nil)))))
      (pss_cons (ps_set (i := 7) sc_law.nd rfl (Or.inl rfl) (pe_op op_catU (pe_op op_catU (pe_tupU (pa_cons (pe_ifExp (pt_cmpR op_eqI (pe_call G__law_draw hr__law_draw (by rfl) T.m__law_draw T.F__law_draw.kp T.B__law_draw .nil pass0 (pa_cons (pv 1) (pa_cons pe_int pa_nil))) pe_int (nomark _)) pe_str pe_str) pa_nil)) (pv 4)) (pe_tupU (pa_cons (pe_call G__law_some_word hr__law_some_word (by rfl) T.m__law_some_word T.F__law_some_word.kp T.B__law_some_word .nil pass0 (pa_cons (pv 1) pa_nil)) pa_nil))))
      (pss_cons (ps_if (PW.pt (pw_or (pt_not (pt_val (pe_call G__law_judged hr__law_judged (by rfl) T.m__law_judged T.F__law_judged.kp T.B__law_judged .nil pass0 (pa_cons (pv 7) pa_nil)))) (pw_or (pt_not (pt_val (pe_call G__law_judged hr__law_judged (by rfl) T.m__law_judged T.F__law_judged.kp T.B__law_judged .nil pass0 (pa_cons (pe_call G__law_chain hr__law_chain (by rfl) T.m__law_chain T.F__law_chain.kp T.B__law_chain .nil pass0 (pa_cons (pv 1) pa_nil)) pa_nil)))) (pw_or1 (pt_not (pt_val (pe_call G__law_judged hr__law_judged (by rfl) T.m__law_judged T.F__law_judged.kp T.B__law_judged .nil pass0 (pa_cons (pe_call G__law_any hr__law_any (by rfl) T.m__law_any T.F__law_any.kp T.B__law_any .nil pass0 (pa_cons (pv 1) (pa_cons pe_int pa_nil))) pa_nil)))))))) (pss_one (ps_ret pe_bl)) pss_nil)
      (pss_one (ps_if (PW.pt (pw_or (pt_not (pt_val (pe_call G__law_called hr__law_called (by rfl) T.m__law_called T.F__law_called.kp T.B__law_called .nil pass0 (pa_cons (pe_call G__law_any hr__law_any (by rfl) T.m__law_any T.F__law_any.kp T.B__law_any .nil pass0 (pa_cons (pv 1) (pa_cons pe_int pa_nil))) pa_nil)))) (pw_or1 (pt_not (pt_val (pe_callB (cr_all rfl) (by rfl) T.n_all (by decide +kernel) (pa_cons (pe_lc (own := [("k", 6)]) (g := gName 6) (tt := tYes) rfl sc_law.nd (pi_range1 (by rfl) T.n_range (pa_cons pe_int pa_nil)) (blkOk_by (own := [("k", 6)]) (N := N_law) (sc := defScope s_law) (by decide +kernel)) (fun _ _ _ _ _ => pg_name (i := 6) sc_law.nd rfl (Or.inl rfl)) (fun _ _ _ _ _ => pts_nil) (fun _ _ _ _ _ => (pe_call G__law_called hr__law_called (by rfl) T.m__law_called T.F__law_called.kp T.B__law_called .nil pass0 (pa_cons (pe_call G__law_some_name hr__law_some_name (by rfl) T.m__law_some_name T.F__law_some_name.kp T.B__law_some_name .nil pass0 (pa_cons (pv 1) pa_nil)) pa_nil)))) pa_nil))))))) (pss_one (ps_ret pe_bl)) pss_nil))))))))))
      (pss_one (ps_ret (pe_and (pe_callB (cr_all rfl) (by rfl) T.n_all (by decide +kernel) (pa_cons (pe_lc (own := [("one", 8)]) (g := gName 8) (tt := tYes) rfl sc_law.nd (pi_list (pe_call0 G__law_kept hr__law_kept (by rfl) T.m__law_kept T.F__law_kept.kp T.B__law_kept .nil pass0)) (blkOk_by (own := [("one", 8)]) (N := N_law) (sc := defScope s_law) (by decide +kernel)) (fun _ _ _ _ _ => pg_name (i := 8) sc_law.nd rfl (Or.inl rfl)) (fun _ _ _ _ _ => pts_nil) (fun _ _ _ _ _ => (pe_call G__law_called hr__law_called (by rfl) T.m__law_called T.F__law_called.kp T.B__law_called .nil pass0 (pa_cons (pv 8) pa_nil)))) pa_nil)) (pe_and (pe_call G__law_judged hr__law_judged (by rfl) T.m__law_judged T.F__law_judged.kp T.B__law_judged .nil pass0 (pa_cons (pe_tupU pa_nil) pa_nil)) (pe_and (pe_call G__law_judged hr__law_judged (by rfl) T.m__law_judged T.F__law_judged.kp T.B__law_judged .nil pass0 (pa_cons (pe_tupU (pa_cons pe_str pa_nil)) pa_nil)) (pe_one (pe_not (pe_call G_is_expression hr_is_expression (by rfl) T.m_is_expression T.F_is_expression.kp T.B_is_expression .nil pass0 (pa_cons (pe_tupU (pa_cons pe_str pa_nil)) pa_nil)))))))))))), ?_⟩
    refine seq_op fun N hN => ?_
    walk_at "rs"
    refine ⟨a, ns, rfl, hS, hn, fun b c H1 s1 B _ => hN _ _ ?_⟩
    clear hN N
    refine seq_op fun N hN => ?_
    walk_at "rs"
    refine ⟨rfl, fun p H2 s2 h02 h2 => ⟨p, rfl, keptV, SqL.of h2, fun q H3 s3 h03 h3 => ⟨_, _, .tuple (keptL.map PyData.str), rfl, dp_words (T.s_RESERVED _), dp_words (.inl (.inl h3)), by decide, by decide, fun H4 s4 => ⟨true, rfl, iteFF (by decide) (hN _ _ ?_)⟩⟩⟩⟩
    clear hN N
    have B4 := ((B.same s2).same s3).same s4
    clear h3 h03 h2 h02 s4 s3 s2 B s1 hS
    refine cut_seq (fun σ H5 => ∃ (x2 x3 x4 x5 x6 x7 x8 : Option V), σ = [some (.ref a), some (.ref b), x2, x3, x4, x5, x6, x7, x8] ∧ Bag H5 b c) (fun N hN => ?_) ?_
    · refine ⟨8, rfl, by decide, by decide, for_range (lo := 0) (n := (8 : Int).toNat) (fun i σ H5 => ∃ (x2 x3 x4 x5 x6 x7 x8 : Option V), σ = [some (.ref a), some (.ref b), x2, x3, x4, x5, x6, x7, x8] ∧ Bag H5 b c) ⟨_, _, _, _, _, _, _, rfl, B4⟩ ?_ ?_⟩
      · rintro i σ H5 hi ⟨x2, x3, x4, x5, x6, x7, x8, rfl, B5⟩
        clear B4
        refine seq_op fun N2 hN2 => ?_
        walk_at "rs"
        refine ⟨b, c, 30, rfl, B5, by decide, by decide, fun r H6 r0 r1 B6 K6 => ⟨r, rfl, by decide, fun p H7 s7 h07 h7 => of_new B6 s7 h07 h7 (by simp) (by simp) fun y H8 hy B8 K8 => hN2 _ _ ?_⟩⟩
        clear hN2 N2
        obtain ⟨size, rfl⟩ := ints_of (by rfl) y hy
        clear hy K8 h7 h07 s7 K6 B6 B5
        refine seq_op fun N2 hN2 => ?_
        walk_at "rs"
        refine ⟨by decide, fun p1 H9 s9 h09 h9 => ⟨by decide, fun p2 H10 s10 h010 h10 => ⟨by decide, fun p3 H11 s11 h011 h11 => ⟨by decide, fun p4 H12 s12 h012 h12 => ⟨b, c, 3, rfl, (((B8.same s9).same s10).same s11).same s12, by decide, by decide, fun r H13 r0 r1 B13 K13 => ?_⟩⟩⟩⟩⟩
        have B9 := B8.same s9
        have B10 := B9.same s10
        have B11 := B10.same s11
        have hr4 : H13 p4 = some (.lst [.ref p1, .ref p2, .ref p3]) := K13.keep (new_ne B11 h012) h12
        have e1 : hb H13 b p1 = some (.lst (([] : List Str).map V.str)) := K13 _ _ (Kp.of (Same.trans s10 (Same.trans s11 s12)) _ _ (hb_new B8 h09 h9))
        have e2 : hb H13 b p2 = some (.lst ((["a", "z9"] : List Str).map V.str)) := K13 _ _ (Kp.of (Same.trans s11 s12) _ _ (hb_new B9 h010 h10))
        have e3 : hb H13 b p3 = some (.lst ((["sign", "b", "place"] : List Str).map V.str)) := K13 _ _ (Kp.of s12 _ _ (hb_new B10 h011 h11))
        clear K13 B11 B10 B9 B8 h012 h12 h011 h11 h010 h10 h09 h9 s9 s10 s11 s12
        refine ⟨[.ref p1, .ref p2, .ref p3], r, rfl, SqL.of hr4, ?_⟩
        have pre : ∀ (p : Addr) (parts : List Str), hb H13 b p = some (.lst (parts.map V.str)) → (∀ z ∈ parts, z.length ≤ 20 ∧ PyData.canLay0 (.str z) = true) → parts.length ≤ 20 → sp__law_prefix K [V.ref b, .ref p, V.int size] H13 (fun x H1 => N2 [some (V.ref a), some (V.ref b), some (V.int (0 + (i : Int))), some (V.int size), some x, x5, x6, x7, x8] H1) E0 := by
          intro p parts hp hq hl
          refine ⟨b, c, p, parts, size, rfl, B13, hp, hq, hl, fun q ws H14 B14 K14 h14 wl wz => hN2 _ _ ?_⟩
          clear hN2 N2 e1 e2 e3 hr4 hp
          refine seq_op fun N2 hN2 => ?_
          walk_at "rs"
          have okw : okD (.tuple (ws.map PyData.str)) = true := ok_words wz (by decide) (by omega)
          have hs := sum_le wz
          have hj := join_len " " ws
          have l1 : (Str.ofString " ").length = 1 := by decide
          rw [l1] at hj
          refine judge (dp_words h14) okw fun H15 s15 => ⟨true, rfl, iteFF (by decide) ⟨_, .inr (Same.seqT s15 h14), fun l H16 s16 h016 h16 => judge (.lst (SqL.of h16) (strs_dpa ws)) (okD_lst.mpr (okD_tup.mp okw)) fun H17 s17 => ⟨true, rfl, iteFF (by decide) ⟨⟨_, rfl⟩, ws, .inr (Same.seqT s17 (Same.seqT s16 (Same.seqT s15 h14))), by rw [l1]; omega, judge (.str _) (decide_eq_true (by omega)) fun H18 s18 => ⟨true, rfl, iteFF (by decide) (hN2 _ _ ?_)⟩⟩⟩⟩⟩
          have B18 := (((B14.same s15).same s16).same s17).same s18
          have h18 := Same.seqT s18 (Same.seqT s17 (Same.seqT s16 (Same.seqT s15 h14)))
          clear hN2 N2 h16 h016 s15 s16 s17 s18 h14 B14 K14
          refine seq_op fun N2 hN2 => ?_
          walk_at "rs"
          refine hN2 _ _ ?_
          clear hN2 N2
          refine cut_seq (fun σ H5 => ∃ (x5 x6 x7 x8 : Option V), σ = [some (.ref a), some (.ref b), some (V.int (0 + (i : Int))), some (V.int size), some (.ref q), x5, x6, x7, x8] ∧ Bag H5 b c ∧ SqT K H5 q (ws.map V.str)) (fun N2 hN2 => ?_) ?_
          · refine ⟨4, rfl, by decide, by decide, for_range (lo := 0) (n := (4 : Int).toNat) (fun i2 σ H5 => ∃ (q5 : Addr) (ds : List PyData) (x6 x7 x8 : Option V), σ = [some (.ref a), some (.ref b), some (V.int (0 + (i : Int))), some (V.int size), some (.ref q), some (.ref q5), x6, x7, x8] ∧ Bag H5 b c ∧ SqT K H5 q (ws.map V.str) ∧ Dp K (hb H5 b) (.ref q5) (.tuple ds) ∧ okAll ds = true ∧ ds.length + 40 ≤ 70 * 2 ^ i2)
              ⟨q, _, _, _, _, rfl, B18, h18, dp_words (sqT_hb B18 h18), (okD_tup.mp okw).2, by rw [List.length_map]; omega⟩ ?_ ?_⟩
            · rintro i2 σ H5 hi2 ⟨q5, ds, x6, x7, x8, rfl, B5, h5, d5, ok5, l5⟩
              have hi4 : i2 < 4 := hi2
              have l6 : 2 ^ i2 ≤ 2 ^ 3 := Nat.pow_le_pow_right (by decide) (by omega)
              clear B18 h18
              refine seq_op fun N3 hN3 => ?_
              walk_at "rs"
              have hl5 : ds.length ≤ 10000 := by omega
              refine ⟨b, c, q5, ds, rfl, B5, d5, ok5, hl5, fun q6 ds6 H6 B6 K6 d6 ok6 l7 => hN3 _ _ ?_⟩
              clear hN3 N3
              have h6 := seqT_kp B5 K6 h5
              refine seq_op fun N3 hN3 => ?_
              walk_at "rs"
              refine judge (dp_same (hb_le H6 b) d6) (okD_tup.mpr ⟨by omega, ok6⟩) fun H7 s7 => ⟨true, rfl, iteFF (by decide) (hN3 _ _ ?_)⟩
              clear hN3 N3
              have B7 := B6.same s7
              have h7 := Same.seqT s7 h6
              have d7 := dp_same (Kp.of s7) d6
              have two : 2 ^ (i2 + 1) = 2 * 2 ^ i2 := Nat.pow_succ'
              walk_at "rs"
              refine ⟨b, c, 2, rfl, B7, by decide, by decide, fun r H8 r0 r1 B8 K8 => ⟨r, rfl, ?_⟩⟩
              have h8 := seqT_kp B7 K8 h7
              refine ite2 (fun _ => ⟨q, ws.map PyData.str, _, _, _, ⟨rfl, rfl, rfl, rfl⟩, B8, h8, dp_words (sqT_hb B8 h8), (okD_tup.mp okw).2, ?_⟩) (fun _ => ⟨q6, ds6, _, _, _, ⟨rfl, rfl, rfl, rfl⟩, B8, h8, dp_same K8 d7, ok6, ?_⟩)
              · rw [List.length_map, two]
                have : 1 ≤ 2 ^ i2 := Nat.one_le_two_pow
                omega
              · rw [two]; omega
            · rintro σ H5 ⟨q5, ds, x6, x7, x8, rfl, B5, h5, _⟩
              exact hN2 _ _ ⟨_, _, _, _, rfl, B5, h5⟩
          · rintro σ H5 ⟨x5, x6, x7, x8, rfl, B5, h5⟩
            clear B18 h18
            refine seq_op fun N2 hN2 => ?_
            walk_at "rs"
            refine ⟨b, c, 2, rfl, B5, by decide, by decide, fun r H6 r0 r1 B6 K6 => ⟨r, rfl, ?_⟩⟩
            have h6 := seqT_kp B5 K6 h5
            have big : ∀ {n : Nat}, n ≤ 100000 → n ≤ sizeLine := fun h => Nat.le_trans h (by decide)
            have near : ∀ (o : Str), o.length ≤ 20 → 1 ≤ sizeLine ∧ ∀ (p : Addr) (H2 : Hp), Same H6 H2 → H6 p = none → H2 p = some (HO.tup [V.str o]) → ∃ x, SqT K H2 p x ∧ ∃ x_1, SqT K H2 q x_1 ∧ x.length + x_1.length ≤ sizeLine ∧ ∀ (q_1 : Addr) (H' : Hp), Same H2 H' → SqT K H' q_1 (x ++ x_1) → sp_str K [V.ref b] H' (fun x H1 => 1 ≤ sizeLine ∧ ∀ (p : Addr) (H2 : Hp), Same H1 H2 → H1 p = none → H2 p = some (HO.tup [x]) → ∃ x, SqT K H2 q_1 x ∧ ∃ x_2, SqT K H2 p x_2 ∧ x.length + x_2.length ≤ sizeLine ∧ ∀ (q_2 : Addr) (H' : Hp), Same H2 H' → SqT K H' q_2 (x ++ x_2) → N2 [some (V.ref a), some (V.ref b), some (V.int (0 + (i : Int))), some (V.int size), some (V.ref q), x5, x6, some (V.ref q_2), x8] H') E0 := by
              intro o ho
              refine ⟨by decide, fun p7 H7 s7 h07 h7 => ⟨[.str o], .inl (.inl h7), _, Same.seqT s7 h6, big (by rw [List.length_map]; simp only [List.length_cons, List.length_nil]; omega), fun q8 H8 s8 h8 => ⟨b, c, rfl, (B6.same s7).same s8, fun z H9 hz B9 K9 => ⟨by decide, fun p10 H10 s10 h010 h10 => ⟨_, Same.seqT s10 (seqT_kp ((B6.same s7).same s8) K9 h8), [.str z], .inl (.inl h10), big (by rw [List.length_append, List.length_map]; simp only [List.length_cons, List.length_nil]; omega), fun q11 H11 s11 h11 => hN2 _ _ ?_⟩⟩⟩⟩⟩
              have B11 := (B9.same s10).same s11
              have e11 : SqT K H11 q11 ((o :: ws ++ [z]).map V.str) := by
                rw [List.map_append]; exact h11
              have w11 : ∀ y ∈ o :: ws ++ [z], y.length ≤ 20 := fun y hy => by
                rcases List.mem_append.mp hy with hy | hy
                · rcases List.mem_cons.mp hy with rfl | hy
                  · exact ho
                  · exact wz y hy
                · rw [List.mem_singleton.mp hy]; exact hz
              have n11 : (o :: ws ++ [z]).length ≤ 100000 := by rw [List.length_append]; simp only [List.length_cons, List.length_nil]; omega
              clear hN2 N2 h11 h10 h010 s10 s11 B9 K9 h8 s8 h7 h07 s7 h6 K6 B6 h5 B5
              refine seq_op fun N2 hN2 => ?_
              walk_at "rs"
              refine judge (dp_words e11) (ok_words w11 (by decide) n11) fun H12 s12 => ⟨true, rfl, iteFF (by decide) ⟨b, c, rfl, B11.same s12, fun q13 ws13 H13 B13 K13 h13 l13 w13 => judge (dp_words h13) (ok_words w13 (by decide) (by omega)) fun H14 s14 => ⟨true, rfl, iteFF (by decide) ⟨b, c, 3, rfl, B13.same s14, by decide, fun v d H15 B15 K15 d15 ok15 _ => judge (dp_same (nw_le _ _) d15) ok15 fun H16 s16 => ⟨true, rfl, iteFF (by decide) (hN2 _ _ ?_)⟩⟩⟩⟩⟩
              have B16 := B15.same s16
              clear hN2 N2 s16 d15 ok15 K15 B15 s14 h13 K13 B13 s12 e11 w11 n11 B11
              walk_at "rs"
              refine ⟨b, c, 4, rfl, B16, by decide, fun v d H17 B17 K17 d17 ok17 _ => judge (dp_same (nw_le _ _) d17) ok17 fun H18 s18 => ⟨true, rfl, iteFF (by decide) ?_⟩⟩
              have B18 := B17.same s18
              refine ⟨4, rfl, by decide, by decide, fun D hD => lc_draw walk_range (fun _ v => v = .bl true) (fun _ _ _ _ h => h) hD B18 (by decide) (fun _ _ _ _ y => y.1) (fun _ _ => trivial) ?_ ?_⟩
              · intro x H19 K19 B19 Q2 hq
                walk_at "rs"
                exact ⟨b, c, rfl, B19, fun z H20 hz B20 K20 => judge (.str z) (decide_eq_true (Nat.le_trans hz (by decide))) fun H21 s21 => hq _ H21 (B20.same s21) (Same.trans K20 (Kp.of s21)) rfl⟩
              · intro H19 ys B19 K19 h19 l19 hy
                have ey : ys = (List.replicate 4 true).map V.bl := List.eq_replicate_iff.mpr ⟨l19, hy⟩
                rw [ey] at h19
                exact ⟨D, _, rfl, SqL.of h19, true, rfl, iteFF (by decide) ⟨_, _, _, _, _, _, _, ⟨rfl, rfl, rfl, rfl, rfl, rfl, rfl⟩, B19⟩⟩
            exact ite2 (fun _ => near "mod" (by decide)) (fun _ => near "div" (by decide))
        obtain rfl | rfl | rfl : r = 0 ∨ r = 1 ∨ r = 2 := by omega
        · exact ⟨_, rfl, pre p1 _ e1 (fun z hz => absurd hz (by simp)) (by decide)⟩
        · refine ⟨_, rfl, pre p2 _ e2 (fun z hz => ?_) (by decide)⟩
          simp only [List.mem_cons, List.mem_nil_iff, or_false] at hz
          rcases hz with rfl | rfl <;> exact ⟨by decide, by decide +kernel⟩
        · refine ⟨_, rfl, pre p3 _ e3 (fun z hz => ?_) (by decide)⟩
          simp only [List.mem_cons, List.mem_nil_iff, or_false] at hz
          rcases hz with rfl | rfl | rfl <;> exact ⟨by decide, by decide +kernel⟩
      · rintro σ H5 ⟨x2, x3, x4, x5, x6, x7, x8, rfl, B5⟩
        exact hN _ _ ⟨_, _, _, _, _, _, _, rfl, B5⟩
    · rintro σ H5 ⟨x2, x3, x4, x5, x6, x7, x8, rfl, B5⟩
      walk_at "rs"
      refine ⟨rfl, fun p H6 s6 h06 h6 => ⟨p, rfl, ⟨_, SqL.of h6⟩, fun D hD => lc_map walk_list keptV (fun _ => .bl true) hD (by decide) rfl (fun k H x H' _ y => y) (fun H s => SqL.of (s _ _ h6)) (fun x H7 hx s7 Q2 hq => ?_) (fun H7 s7 h7 => ?_)⟩⟩
      · walk_at "rs"
        obtain ⟨z, hz, rfl⟩ := List.mem_map.mp hx
        exact judge (.str z) (decide_eq_true (Nat.le_trans ((by decide : ∀ z ∈ keptL, z.length ≤ 7) z hz) (by decide))) hq
      · walk_at "rs"
        refine ⟨D, keptV.map fun _ => true, rfl, SqL.of (by rw [h7, List.map_map]; rfl), true, rfl, iteTT rfl ⟨by decide, fun p8 H8 s8 h08 h8 => judge (dp_words (ws := []) (.inl (.inl h8))) (by decide) fun H9 s9 => ⟨true, rfl, iteTT rfl ⟨by decide, fun p10 H10 s10 h010 h10 => judge (dp_words (ws := ["sign"]) (.inl (.inl h10))) (by decide) fun H11 s11 => ⟨true, rfl, iteTT rfl ⟨by decide, fun p12 H12 s12 h012 h12 => ask (dp_words (ws := ["let"]) (.inl (.inl h12))) (by decide) (Same.refl _) fun H13 s13 _ => ⟨_, rfl, ?_⟩⟩⟩⟩⟩⟩⟩
        rw [show isExpr (.tuple ((["let"] : List Str).map PyData.str)) = false by decide +kernel]
        exact k H13
end
end LK

set_option Elab.async false
set_option linter.all false
set_option maxRecDepth 100000
namespace LK
open PySem PySem.Spec PyProof.Rows L2
local macro_rules | `(tactic| walk_at "rs") => `(tactic| simp only [cxK, cxNK, tCallZ, tAsg, tOp, rI0, rS0, rB0, rI, rU, tUn, rEq, rNe, rIxL, rIxT, rIxS, rSetL, rSlLU, rSlS, rSlU, rCatL, rCatU, rRepL, rIn, tVar, tC, gName, gSub, tIfS, tTest, tB, tAnd, tOr, tNot, tNotV, tAndV, tOrV, tIf, tCall, tCons, tNil, tCB, tDrop, tRet, tRetN, tNext, tLstU, tTupU, tM0, tM1, tPar, tBM, tBM0, rAppend, rPop, tBreak, tCont, tChain, tSl, tPart, tNoPart, L2.start, List.map, List.length_cons, List.length_nil, List.replicate, List.cons_append, List.nil_append, List.append_nil, List.getElem?_cons_zero, List.getElem?_cons_succ, List.set_cons_zero, List.set_cons_succ, Option.some.injEq, V.int.injEq, V.ref.injEq, V.str.injEq, V.bl.injEq, exists_eq_left', exists_eq_left, exists_and_left, decide_eq_true_eq, List.cons.injEq, and_true, true_and, scal, Bool.not_eq_true', decide_eq_false_iff_not, Nat.zero_add, Nat.reduceAdd, Nat.reduceSub, reduceCtorEq, false_and, exists_false, false_or, or_false, CPow, CMul, CDiv, Int.reduceToNat, ↓reduceIte, wipe])
local macro_rules | `(tactic| walk_at "st") => `(tactic| (refine seq_op fun N hN => ?_; walk_at "rs"))
local macro_rules | `(tactic| walk_at "sd") => `(tactic| first | assumption | decide | omega)
local macro_rules | `(tactic| walk_at "rd") => `(tactic| repeat (first
  | refine ⟨_, SqL.of (by assumption), ?_⟩ | refine ⟨_, SqL.of upd_same, ?_⟩ | refine ⟨_, .inl (SqL.of (by assumption)), ?_⟩ | refine ⟨_, (by assumption : _ = some (HO.lst _)), ?_⟩ | refine ⟨_, upd_same, ?_⟩
  | refine ⟨_, rfl, ?_⟩ | refine And.intro (by walk_at "sd") ?_))

/-! ### what the top has written -/
def kvOf (e : DictEntry) : Option (Str × Str) := match e.key, e.val with
  | .str k _, .str v _ => some (k, v)
  | _, _ => none
theorem kvOf_some {e : DictEntry} {p : Str × Str} (h : kvOf e = some p) : (∃ t, e.key = .str p.1 t) ∧ ∃ t, e.val = .str p.2 t := by
  unfold kvOf at h
  split at h
  · rename_i k t v u e1 e2
    obtain rfl := Option.some.inj h
    exact ⟨⟨t, e1⟩, u, e2⟩
  · cases h
theorem find_kv (z : Str) : ∀ {l : List DictEntry} {tab : List (Str × Str)}, l.map kvOf = tab.map some → ∃ r : Option Value,
    (match l.find? (fun e => e.key.isStr z) with
      | some e => some (some e.val)
      | none => if l.any (fun e => e.refKey) then none else some none) = some r ∧ RelV (optS (tab.lookup z)) (r.getD .none)
  | [], [], _ => ⟨none, rfl, rfl⟩
  | [], p :: tab, h => by cases h
  | e :: l, [], h => by cases h
  | e :: l, p :: tab, h => by
    rw [List.map_cons, List.map_cons, List.cons.injEq] at h
    obtain ⟨⟨t, e1⟩, u, e2⟩ := kvOf_some h.1
    have hs : e.key.isStr z = (p.1 == z) := by rw [e1]; rfl
    have hr : e.refKey = false := by unfold DictEntry.refKey; rw [e1]
    obtain ⟨k, v⟩ := p
    by_cases hz : z = k
    · have ez : (k == z) = true := beq_iff_eq.mpr hz.symm
      refine ⟨some e.val, ?_, ?_⟩
      · rw [List.find?_cons, hs, ez]
      · rw [List.lookup_cons, beq_iff_eq.mpr hz]
        exact ⟨u, e2⟩
    · have ez : (k == z) = false := beq_eq_false_iff_ne.mpr (Ne.symm hz)
      have ez2 : (z == k) = false := beq_eq_false_iff_ne.mpr hz
      obtain ⟨r, h1, h2⟩ := find_kv z h.2
      refine ⟨r, ?_, ?_⟩
      · rw [List.find?_cons, hs, ez, List.any_cons, hr, Bool.false_or]
        exact h1
      · rw [List.lookup_cons, ez2]
        exact h2
theorem opG {K : PySem.W.Frag} {a : Addr} {es : Array DictEntry} {n : Nat} (l : K.lookup a = some ⟨.type "dict", none, .dict es n, #[]⟩) (p : es.toList.map kvOf = opsTab.map some) (z : Str) : ∃ r, PySem.W.nsIn K a z = some r ∧ RelV (optS (opsOf z)) (r.getD .none) := by
  obtain ⟨r, h1, h2⟩ := find_kv z p
  refine ⟨r, ?_, h2⟩
  unfold PySem.W.nsIn
  rw [l]
  exact h1
theorem all_mk {l : PySem.W.OpenLaw} {w : World} {K : PySem.W.Frag} {h : Heap} {mg : Str → Option Value} {fa : Addr} (X : K.In h) (G : h.Ns mainGlobals mg) (hfa : mg "law" = some (.ref fa))
    {A_read_number : Addr} {od_read_number an_read_number : Option Addr} {sl_read_number : Array (Option Value)} {oc_read_number kV_read_number dc_read_number pm_read_number cd_read_number ct_read_number : Value}
    {A_is_word_name : Addr} {od_is_word_name an_is_word_name : Option Addr} {sl_is_word_name : Array (Option Value)} {oc_is_word_name kV_is_word_name dc_is_word_name pm_is_word_name cd_is_word_name ct_is_word_name : Value}
    {A_is_own_name : Addr} {od_is_own_name an_is_own_name : Option Addr} {sl_is_own_name : Array (Option Value)} {oc_is_own_name kV_is_own_name dc_is_own_name pm_is_own_name cd_is_own_name ct_is_own_name : Value}
    {A_is_name : Addr} {od_is_name an_is_name : Option Addr} {sl_is_name : Array (Option Value)} {oc_is_name kV_is_name dc_is_name pm_is_name cd_is_name ct_is_name : Value}
    {A_is_integer_word : Addr} {od_is_integer_word an_is_integer_word : Option Addr} {sl_is_integer_word : Array (Option Value)} {oc_is_integer_word kV_is_integer_word dc_is_integer_word pm_is_integer_word cd_is_integer_word ct_is_integer_word : Value}
    {A_operands_behind : Addr} {od_operands_behind an_operands_behind : Option Addr} {sl_operands_behind : Array (Option Value)} {oc_operands_behind kV_operands_behind dc_operands_behind pm_operands_behind cd_operands_behind ct_operands_behind : Value}
    {A_is_expression : Addr} {od_is_expression an_is_expression : Option Addr} {sl_is_expression : Array (Option Value)} {oc_is_expression kV_is_expression dc_is_expression pm_is_expression cd_is_expression ct_is_expression : Value}
    {A__law_bag : Addr} {od__law_bag an__law_bag : Option Addr} {sl__law_bag : Array (Option Value)} {oc__law_bag kV__law_bag dc__law_bag pm__law_bag cd__law_bag ct__law_bag : Value}
    {A__law_draw : Addr} {od__law_draw an__law_draw : Option Addr} {sl__law_draw : Array (Option Value)} {oc__law_draw kV__law_draw dc__law_draw pm__law_draw cd__law_draw ct__law_draw : Value}
    {A__law_of : Addr} {od__law_of an__law_of : Option Addr} {sl__law_of : Array (Option Value)} {oc__law_of kV__law_of dc__law_of pm__law_of cd__law_of ct__law_of : Value}
    {A__law_like : Addr} {od__law_like an__law_like : Option Addr} {sl__law_like : Array (Option Value)} {oc__law_like kV__law_like dc__law_like pm__law_like cd__law_like ct__law_like : Value}
    {A__law_any : Addr} {od__law_any an__law_any : Option Addr} {sl__law_any : Array (Option Value)} {oc__law_any kV__law_any dc__law_any pm__law_any cd__law_any ct__law_any : Value}
    {A__law_prefix : Addr} {od__law_prefix an__law_prefix : Option Addr} {sl__law_prefix : Array (Option Value)} {oc__law_prefix kV__law_prefix dc__law_prefix pm__law_prefix cd__law_prefix ct__law_prefix : Value}
    {A__law_kept : Addr} {od__law_kept an__law_kept : Option Addr} {sl__law_kept : Array (Option Value)} {oc__law_kept kV__law_kept dc__law_kept pm__law_kept cd__law_kept ct__law_kept : Value}
    {A__law_is_word : Addr} {od__law_is_word an__law_is_word : Option Addr} {sl__law_is_word : Array (Option Value)} {oc__law_is_word kV__law_is_word dc__law_is_word pm__law_is_word cd__law_is_word ct__law_is_word : Value}
    {A__law_is_own : Addr} {od__law_is_own an__law_is_own : Option Addr} {sl__law_is_own : Array (Option Value)} {oc__law_is_own kV__law_is_own dc__law_is_own pm__law_is_own cd__law_is_own ct__law_is_own : Value}
    {A__law_is_name : Addr} {od__law_is_name an__law_is_name : Option Addr} {sl__law_is_name : Array (Option Value)} {oc__law_is_name kV__law_is_name dc__law_is_name pm__law_is_name cd__law_is_name ct__law_is_name : Value}
    {A__law_needs : Addr} {od__law_needs an__law_needs : Option Addr} {sl__law_needs : Array (Option Value)} {oc__law_needs kV__law_needs dc__law_needs pm__law_needs cd__law_needs ct__law_needs : Value}
    {A__law_is_prefix : Addr} {od__law_is_prefix an__law_is_prefix : Option Addr} {sl__law_is_prefix : Array (Option Value)} {oc__law_is_prefix kV__law_is_prefix dc__law_is_prefix pm__law_is_prefix cd__law_is_prefix ct__law_is_prefix : Value}
    {A__law_some_name : Addr} {od__law_some_name an__law_some_name : Option Addr} {sl__law_some_name : Array (Option Value)} {oc__law_some_name kV__law_some_name dc__law_some_name pm__law_some_name cd__law_some_name ct__law_some_name : Value}
    {A__law_some_word : Addr} {od__law_some_word an__law_some_word : Option Addr} {sl__law_some_word : Array (Option Value)} {oc__law_some_word kV__law_some_word dc__law_some_word pm__law_some_word cd__law_some_word ct__law_some_word : Value}
    {A__law_bent : Addr} {od__law_bent an__law_bent : Option Addr} {sl__law_bent : Array (Option Value)} {oc__law_bent kV__law_bent dc__law_bent pm__law_bent cd__law_bent ct__law_bent : Value}
    {A__law_chain : Addr} {od__law_chain an__law_chain : Option Addr} {sl__law_chain : Array (Option Value)} {oc__law_chain kV__law_chain dc__law_chain pm__law_chain cd__law_chain ct__law_chain : Value}
    {A__law_judged : Addr} {od__law_judged an__law_judged : Option Addr} {sl__law_judged : Array (Option Value)} {oc__law_judged kV__law_judged dc__law_judged pm__law_judged cd__law_judged ct__law_judged : Value}
    {A__law_called : Addr} {od__law_called an__law_called : Option Addr} {sl__law_called : Array (Option Value)} {oc__law_called kV__law_called dc__law_called pm__law_called cd__law_called ct__law_called : Value}
    {A_law : Addr} {od_law an_law : Option Addr} {sl_law : Array (Option Value)} {oc_law kV_law dc_law pm_law cd_law ct_law : Value}
    {tF tL tM : Tok} {A_RESERVED A_GIVEN A_OP : Addr} {q_RESERVED q_GIVEN : Option Addr} {its_RESERVED its_GIVEN : Array Value} {m_RESERVED m_GIVEN n_OP : Nat} {y_RESERVED y_GIVEN : Array (Option Value)} {es_OP : Array DictEntry}
    (aread_number : PySem.W.nsIn K mainGlobals "read_number" = some (some (.ref A_read_number)))
    (lread_number : K.lookup A_read_number = some ⟨oc_read_number, od_read_number, .func (PySem.W.fnOf "read_number" "read_number" (defArgs s_read_number) (defBody s_read_number) (defScope s_read_number) .none kV_read_number dc_read_number pm_read_number an_read_number cd_read_number ct_read_number), sl_read_number⟩)
    (cread_number : PySem.W.codeIn K cd_read_number "read_number" = true)
    (kread_number : PySem.W.keepIn K (.ref A_read_number) = true)
    (ais_word_name : PySem.W.nsIn K mainGlobals "is_word_name" = some (some (.ref A_is_word_name)))
    (lis_word_name : K.lookup A_is_word_name = some ⟨oc_is_word_name, od_is_word_name, .func (PySem.W.fnOf "is_word_name" "is_word_name" (defArgs s_is_word_name) (defBody s_is_word_name) (defScope s_is_word_name) .none kV_is_word_name dc_is_word_name pm_is_word_name an_is_word_name cd_is_word_name ct_is_word_name), sl_is_word_name⟩)
    (cis_word_name : PySem.W.codeIn K cd_is_word_name "is_word_name" = true)
    (kis_word_name : PySem.W.keepIn K (.ref A_is_word_name) = true)
    (ais_own_name : PySem.W.nsIn K mainGlobals "is_own_name" = some (some (.ref A_is_own_name)))
    (lis_own_name : K.lookup A_is_own_name = some ⟨oc_is_own_name, od_is_own_name, .func (PySem.W.fnOf "is_own_name" "is_own_name" (defArgs s_is_own_name) (defBody s_is_own_name) (defScope s_is_own_name) .none kV_is_own_name dc_is_own_name pm_is_own_name an_is_own_name cd_is_own_name ct_is_own_name), sl_is_own_name⟩)
    (cis_own_name : PySem.W.codeIn K cd_is_own_name "is_own_name" = true)
    (kis_own_name : PySem.W.keepIn K (.ref A_is_own_name) = true)
    (ais_name : PySem.W.nsIn K mainGlobals "is_name" = some (some (.ref A_is_name)))
    (lis_name : K.lookup A_is_name = some ⟨oc_is_name, od_is_name, .func (PySem.W.fnOf "is_name" "is_name" (defArgs s_is_name) (defBody s_is_name) (defScope s_is_name) .none kV_is_name dc_is_name pm_is_name an_is_name cd_is_name ct_is_name), sl_is_name⟩)
    (cis_name : PySem.W.codeIn K cd_is_name "is_name" = true)
    (kis_name : PySem.W.keepIn K (.ref A_is_name) = true)
    (ais_integer_word : PySem.W.nsIn K mainGlobals "is_integer_word" = some (some (.ref A_is_integer_word)))
    (lis_integer_word : K.lookup A_is_integer_word = some ⟨oc_is_integer_word, od_is_integer_word, .func (PySem.W.fnOf "is_integer_word" "is_integer_word" (defArgs s_is_integer_word) (defBody s_is_integer_word) (defScope s_is_integer_word) .none kV_is_integer_word dc_is_integer_word pm_is_integer_word an_is_integer_word cd_is_integer_word ct_is_integer_word), sl_is_integer_word⟩)
    (cis_integer_word : PySem.W.codeIn K cd_is_integer_word "is_integer_word" = true)
    (kis_integer_word : PySem.W.keepIn K (.ref A_is_integer_word) = true)
    (aoperands_behind : PySem.W.nsIn K mainGlobals "operands_behind" = some (some (.ref A_operands_behind)))
    (loperands_behind : K.lookup A_operands_behind = some ⟨oc_operands_behind, od_operands_behind, .func (PySem.W.fnOf "operands_behind" "operands_behind" (defArgs s_operands_behind) (defBody s_operands_behind) (defScope s_operands_behind) .none kV_operands_behind dc_operands_behind pm_operands_behind an_operands_behind cd_operands_behind ct_operands_behind), sl_operands_behind⟩)
    (coperands_behind : PySem.W.codeIn K cd_operands_behind "operands_behind" = true)
    (koperands_behind : PySem.W.keepIn K (.ref A_operands_behind) = true)
    (ais_expression : PySem.W.nsIn K mainGlobals "is_expression" = some (some (.ref A_is_expression)))
    (lis_expression : K.lookup A_is_expression = some ⟨oc_is_expression, od_is_expression, .func (PySem.W.fnOf "is_expression" "is_expression" (defArgs s_is_expression) (defBody s_is_expression) (defScope s_is_expression) .none kV_is_expression dc_is_expression pm_is_expression an_is_expression cd_is_expression ct_is_expression), sl_is_expression⟩)
    (cis_expression : PySem.W.codeIn K cd_is_expression "is_expression" = true)
    (kis_expression : PySem.W.keepIn K (.ref A_is_expression) = true)
    (a_law_bag : PySem.W.nsIn K mainGlobals "_law_bag" = some (some (.ref A__law_bag)))
    (l_law_bag : K.lookup A__law_bag = some ⟨oc__law_bag, od__law_bag, .func (PySem.W.fnOf "_law_bag" "_law_bag" (defArgs s__law_bag) (defBody s__law_bag) (defScope s__law_bag) .none kV__law_bag dc__law_bag pm__law_bag an__law_bag cd__law_bag ct__law_bag), sl__law_bag⟩)
    (c_law_bag : PySem.W.codeIn K cd__law_bag "_law_bag" = true)
    (k_law_bag : PySem.W.keepIn K (.ref A__law_bag) = true)
    (a_law_draw : PySem.W.nsIn K mainGlobals "_law_draw" = some (some (.ref A__law_draw)))
    (l_law_draw : K.lookup A__law_draw = some ⟨oc__law_draw, od__law_draw, .func (PySem.W.fnOf "_law_draw" "_law_draw" (defArgs s__law_draw) (defBody s__law_draw) (defScope s__law_draw) .none kV__law_draw dc__law_draw pm__law_draw an__law_draw cd__law_draw ct__law_draw), sl__law_draw⟩)
    (c_law_draw : PySem.W.codeIn K cd__law_draw "_law_draw" = true)
    (k_law_draw : PySem.W.keepIn K (.ref A__law_draw) = true)
    (a_law_of : PySem.W.nsIn K mainGlobals "_law_of" = some (some (.ref A__law_of)))
    (l_law_of : K.lookup A__law_of = some ⟨oc__law_of, od__law_of, .func (PySem.W.fnOf "_law_of" "_law_of" (defArgs s__law_of) (defBody s__law_of) (defScope s__law_of) .none kV__law_of dc__law_of pm__law_of an__law_of cd__law_of ct__law_of), sl__law_of⟩)
    (c_law_of : PySem.W.codeIn K cd__law_of "_law_of" = true)
    (k_law_of : PySem.W.keepIn K (.ref A__law_of) = true)
    (a_law_like : PySem.W.nsIn K mainGlobals "_law_like" = some (some (.ref A__law_like)))
    (l_law_like : K.lookup A__law_like = some ⟨oc__law_like, od__law_like, .func (PySem.W.fnOf "_law_like" "_law_like" (defArgs s__law_like) (defBody s__law_like) (defScope s__law_like) .none kV__law_like dc__law_like pm__law_like an__law_like cd__law_like ct__law_like), sl__law_like⟩)
    (c_law_like : PySem.W.codeIn K cd__law_like "_law_like" = true)
    (k_law_like : PySem.W.keepIn K (.ref A__law_like) = true)
    (a_law_any : PySem.W.nsIn K mainGlobals "_law_any" = some (some (.ref A__law_any)))
    (l_law_any : K.lookup A__law_any = some ⟨oc__law_any, od__law_any, .func (PySem.W.fnOf "_law_any" "_law_any" (defArgs s__law_any) (defBody s__law_any) (defScope s__law_any) .none kV__law_any dc__law_any pm__law_any an__law_any cd__law_any ct__law_any), sl__law_any⟩)
    (c_law_any : PySem.W.codeIn K cd__law_any "_law_any" = true)
    (k_law_any : PySem.W.keepIn K (.ref A__law_any) = true)
    (a_law_prefix : PySem.W.nsIn K mainGlobals "_law_prefix" = some (some (.ref A__law_prefix)))
    (l_law_prefix : K.lookup A__law_prefix = some ⟨oc__law_prefix, od__law_prefix, .func (PySem.W.fnOf "_law_prefix" "_law_prefix" (defArgs s__law_prefix) (defBody s__law_prefix) (defScope s__law_prefix) .none kV__law_prefix dc__law_prefix pm__law_prefix an__law_prefix cd__law_prefix ct__law_prefix), sl__law_prefix⟩)
    (c_law_prefix : PySem.W.codeIn K cd__law_prefix "_law_prefix" = true)
    (k_law_prefix : PySem.W.keepIn K (.ref A__law_prefix) = true)
    (a_law_kept : PySem.W.nsIn K mainGlobals "_law_kept" = some (some (.ref A__law_kept)))
    (l_law_kept : K.lookup A__law_kept = some ⟨oc__law_kept, od__law_kept, .func (PySem.W.fnOf "_law_kept" "_law_kept" (defArgs s__law_kept) (defBody s__law_kept) (defScope s__law_kept) .none kV__law_kept dc__law_kept pm__law_kept an__law_kept cd__law_kept ct__law_kept), sl__law_kept⟩)
    (c_law_kept : PySem.W.codeIn K cd__law_kept "_law_kept" = true)
    (k_law_kept : PySem.W.keepIn K (.ref A__law_kept) = true)
    (a_law_is_word : PySem.W.nsIn K mainGlobals "_law_is_word" = some (some (.ref A__law_is_word)))
    (l_law_is_word : K.lookup A__law_is_word = some ⟨oc__law_is_word, od__law_is_word, .func (PySem.W.fnOf "_law_is_word" "_law_is_word" (defArgs s__law_is_word) (defBody s__law_is_word) (defScope s__law_is_word) .none kV__law_is_word dc__law_is_word pm__law_is_word an__law_is_word cd__law_is_word ct__law_is_word), sl__law_is_word⟩)
    (c_law_is_word : PySem.W.codeIn K cd__law_is_word "_law_is_word" = true)
    (k_law_is_word : PySem.W.keepIn K (.ref A__law_is_word) = true)
    (a_law_is_own : PySem.W.nsIn K mainGlobals "_law_is_own" = some (some (.ref A__law_is_own)))
    (l_law_is_own : K.lookup A__law_is_own = some ⟨oc__law_is_own, od__law_is_own, .func (PySem.W.fnOf "_law_is_own" "_law_is_own" (defArgs s__law_is_own) (defBody s__law_is_own) (defScope s__law_is_own) .none kV__law_is_own dc__law_is_own pm__law_is_own an__law_is_own cd__law_is_own ct__law_is_own), sl__law_is_own⟩)
    (c_law_is_own : PySem.W.codeIn K cd__law_is_own "_law_is_own" = true)
    (k_law_is_own : PySem.W.keepIn K (.ref A__law_is_own) = true)
    (a_law_is_name : PySem.W.nsIn K mainGlobals "_law_is_name" = some (some (.ref A__law_is_name)))
    (l_law_is_name : K.lookup A__law_is_name = some ⟨oc__law_is_name, od__law_is_name, .func (PySem.W.fnOf "_law_is_name" "_law_is_name" (defArgs s__law_is_name) (defBody s__law_is_name) (defScope s__law_is_name) .none kV__law_is_name dc__law_is_name pm__law_is_name an__law_is_name cd__law_is_name ct__law_is_name), sl__law_is_name⟩)
    (c_law_is_name : PySem.W.codeIn K cd__law_is_name "_law_is_name" = true)
    (k_law_is_name : PySem.W.keepIn K (.ref A__law_is_name) = true)
    (a_law_needs : PySem.W.nsIn K mainGlobals "_law_needs" = some (some (.ref A__law_needs)))
    (l_law_needs : K.lookup A__law_needs = some ⟨oc__law_needs, od__law_needs, .func (PySem.W.fnOf "_law_needs" "_law_needs" (defArgs s__law_needs) (defBody s__law_needs) (defScope s__law_needs) .none kV__law_needs dc__law_needs pm__law_needs an__law_needs cd__law_needs ct__law_needs), sl__law_needs⟩)
    (c_law_needs : PySem.W.codeIn K cd__law_needs "_law_needs" = true)
    (k_law_needs : PySem.W.keepIn K (.ref A__law_needs) = true)
    (a_law_is_prefix : PySem.W.nsIn K mainGlobals "_law_is_prefix" = some (some (.ref A__law_is_prefix)))
    (l_law_is_prefix : K.lookup A__law_is_prefix = some ⟨oc__law_is_prefix, od__law_is_prefix, .func (PySem.W.fnOf "_law_is_prefix" "_law_is_prefix" (defArgs s__law_is_prefix) (defBody s__law_is_prefix) (defScope s__law_is_prefix) .none kV__law_is_prefix dc__law_is_prefix pm__law_is_prefix an__law_is_prefix cd__law_is_prefix ct__law_is_prefix), sl__law_is_prefix⟩)
    (c_law_is_prefix : PySem.W.codeIn K cd__law_is_prefix "_law_is_prefix" = true)
    (k_law_is_prefix : PySem.W.keepIn K (.ref A__law_is_prefix) = true)
    (a_law_some_name : PySem.W.nsIn K mainGlobals "_law_some_name" = some (some (.ref A__law_some_name)))
    (l_law_some_name : K.lookup A__law_some_name = some ⟨oc__law_some_name, od__law_some_name, .func (PySem.W.fnOf "_law_some_name" "_law_some_name" (defArgs s__law_some_name) (defBody s__law_some_name) (defScope s__law_some_name) .none kV__law_some_name dc__law_some_name pm__law_some_name an__law_some_name cd__law_some_name ct__law_some_name), sl__law_some_name⟩)
    (c_law_some_name : PySem.W.codeIn K cd__law_some_name "_law_some_name" = true)
    (k_law_some_name : PySem.W.keepIn K (.ref A__law_some_name) = true)
    (a_law_some_word : PySem.W.nsIn K mainGlobals "_law_some_word" = some (some (.ref A__law_some_word)))
    (l_law_some_word : K.lookup A__law_some_word = some ⟨oc__law_some_word, od__law_some_word, .func (PySem.W.fnOf "_law_some_word" "_law_some_word" (defArgs s__law_some_word) (defBody s__law_some_word) (defScope s__law_some_word) .none kV__law_some_word dc__law_some_word pm__law_some_word an__law_some_word cd__law_some_word ct__law_some_word), sl__law_some_word⟩)
    (c_law_some_word : PySem.W.codeIn K cd__law_some_word "_law_some_word" = true)
    (k_law_some_word : PySem.W.keepIn K (.ref A__law_some_word) = true)
    (a_law_bent : PySem.W.nsIn K mainGlobals "_law_bent" = some (some (.ref A__law_bent)))
    (l_law_bent : K.lookup A__law_bent = some ⟨oc__law_bent, od__law_bent, .func (PySem.W.fnOf "_law_bent" "_law_bent" (defArgs s__law_bent) (defBody s__law_bent) (defScope s__law_bent) .none kV__law_bent dc__law_bent pm__law_bent an__law_bent cd__law_bent ct__law_bent), sl__law_bent⟩)
    (c_law_bent : PySem.W.codeIn K cd__law_bent "_law_bent" = true)
    (k_law_bent : PySem.W.keepIn K (.ref A__law_bent) = true)
    (a_law_chain : PySem.W.nsIn K mainGlobals "_law_chain" = some (some (.ref A__law_chain)))
    (l_law_chain : K.lookup A__law_chain = some ⟨oc__law_chain, od__law_chain, .func (PySem.W.fnOf "_law_chain" "_law_chain" (defArgs s__law_chain) (defBody s__law_chain) (defScope s__law_chain) .none kV__law_chain dc__law_chain pm__law_chain an__law_chain cd__law_chain ct__law_chain), sl__law_chain⟩)
    (c_law_chain : PySem.W.codeIn K cd__law_chain "_law_chain" = true)
    (k_law_chain : PySem.W.keepIn K (.ref A__law_chain) = true)
    (a_law_judged : PySem.W.nsIn K mainGlobals "_law_judged" = some (some (.ref A__law_judged)))
    (l_law_judged : K.lookup A__law_judged = some ⟨oc__law_judged, od__law_judged, .func (PySem.W.fnOf "_law_judged" "_law_judged" (defArgs s__law_judged) (defBody s__law_judged) (defScope s__law_judged) .none kV__law_judged dc__law_judged pm__law_judged an__law_judged cd__law_judged ct__law_judged), sl__law_judged⟩)
    (c_law_judged : PySem.W.codeIn K cd__law_judged "_law_judged" = true)
    (k_law_judged : PySem.W.keepIn K (.ref A__law_judged) = true)
    (a_law_called : PySem.W.nsIn K mainGlobals "_law_called" = some (some (.ref A__law_called)))
    (l_law_called : K.lookup A__law_called = some ⟨oc__law_called, od__law_called, .func (PySem.W.fnOf "_law_called" "_law_called" (defArgs s__law_called) (defBody s__law_called) (defScope s__law_called) .none kV__law_called dc__law_called pm__law_called an__law_called cd__law_called ct__law_called), sl__law_called⟩)
    (c_law_called : PySem.W.codeIn K cd__law_called "_law_called" = true)
    (k_law_called : PySem.W.keepIn K (.ref A__law_called) = true)
    (alaw : PySem.W.nsIn K mainGlobals "law" = some (some (.ref A_law)))
    (llaw : K.lookup A_law = some ⟨oc_law, od_law, .func (PySem.W.fnOf "law" "law" (defArgs s_law) (defBody s_law) (defScope s_law) .none kV_law dc_law pm_law an_law cd_law ct_law), sl_law⟩)
    (claw : PySem.W.codeIn K cd_law "law" = true)
    (klaw : PySem.W.keepIn K (.ref A_law) = true)
    (nlen : PySem.W.nsIn K mainGlobals "len" = some none)
    (nint : PySem.W.nsIn K mainGlobals "int" = some none)
    (nstr : PySem.W.nsIn K mainGlobals "str" = some none)
    (nlist : PySem.W.nsIn K mainGlobals "list" = some none)
    (ntuple : PySem.W.nsIn K mainGlobals "tuple" = some none)
    (nbool : PySem.W.nsIn K mainGlobals "bool" = some none)
    (nisinstance : PySem.W.nsIn K mainGlobals "isinstance" = some none)
    (nall : PySem.W.nsIn K mainGlobals "all" = some none)
    (nrange : PySem.W.nsIn K mainGlobals "range" = some none)
    (nzip : PySem.W.nsIn K mainGlobals "zip" = some none)
    (xFIG : PySem.W.nsIn K mainGlobals "FIGURES" = some (some (.str FIGs tF)))
    (xLET : PySem.W.nsIn K mainGlobals "LETTERS" = some (some (.str LETs tL)))
    (xMOST : PySem.W.nsIn K mainGlobals "MOST_WORDS" = some (some (.int 30 tM)))
    (xRESERVED : PySem.W.nsIn K mainGlobals "RESERVED" = some (some (.ref A_RESERVED)))
    (oRESERVED : K.lookup A_RESERVED = some ⟨.type "tuple", q_RESERVED, .seq its_RESERVED m_RESERVED, y_RESERVED⟩)
    (xGIVEN : PySem.W.nsIn K mainGlobals "GIVEN" = some (some (.ref A_GIVEN)))
    (oGIVEN : K.lookup A_GIVEN = some ⟨.type "tuple", q_GIVEN, .seq its_GIVEN m_GIVEN, y_GIVEN⟩)
    (xOP : PySem.W.nsIn K mainGlobals "OPERANDS" = some (some (.ref A_OP)))
    (oOP : K.lookup A_OP = some ⟨.type "dict", none, .dict es_OP n_OP, #[]⟩)
    (iOP : PySem.W.KeysLit w.params es_OP.toList)
    (eOP : (A_OP == sysModules) = false)
    (pOP : es_OP.toList.map kvOf = opsTab.map some)
    (vRESERVED : Vals keptV its_RESERVED.toList)
    (vGIVEN : Vals givenV its_GIVEN.toList)
    (wRESERVED : its_RESERVED.size ≤ sizeLine)
    (wGIVEN : its_GIVEN.size ≤ sizeLine)
    : ∃ fd : FuncData, (∀ (s : Shared) (v : Value), BindsTo s fd ⟨[v], []⟩ [("script", v)]) ∧ ∀ base : Heap, K.In base → base.Ns mainGlobals mg → FnOk l.prog w K mg base CX0 8 fa fd ["script"] (sp_law K) := by
  have e := hfa.symm.trans (PySem.W.mg_of X G alaw)
  cases e
  have F_read_number := fun_mk (st := s_read_number) lread_number cread_number kread_number
  have F_is_word_name := fun_mk (st := s_is_word_name) lis_word_name cis_word_name kis_word_name
  have F_is_own_name := fun_mk (st := s_is_own_name) lis_own_name cis_own_name kis_own_name
  have F_is_name := fun_mk (st := s_is_name) lis_name cis_name kis_name
  have F_is_integer_word := fun_mk (st := s_is_integer_word) lis_integer_word cis_integer_word kis_integer_word
  have F_operands_behind := fun_mk (st := s_operands_behind) loperands_behind coperands_behind koperands_behind
  have F_is_expression := fun_mk (st := s_is_expression) lis_expression cis_expression kis_expression
  have F__law_bag := fun_mk (st := s__law_bag) l_law_bag c_law_bag k_law_bag
  have F__law_draw := fun_mk (st := s__law_draw) l_law_draw c_law_draw k_law_draw
  have F__law_of := fun_mk (st := s__law_of) l_law_of c_law_of k_law_of
  have F__law_like := fun_mk (st := s__law_like) l_law_like c_law_like k_law_like
  have F__law_any := fun_mk (st := s__law_any) l_law_any c_law_any k_law_any
  have F__law_prefix := fun_mk (st := s__law_prefix) l_law_prefix c_law_prefix k_law_prefix
  have F__law_kept := fun_mk (st := s__law_kept) l_law_kept c_law_kept k_law_kept
  have F__law_is_word := fun_mk (st := s__law_is_word) l_law_is_word c_law_is_word k_law_is_word
  have F__law_is_own := fun_mk (st := s__law_is_own) l_law_is_own c_law_is_own k_law_is_own
  have F__law_is_name := fun_mk (st := s__law_is_name) l_law_is_name c_law_is_name k_law_is_name
  have F__law_needs := fun_mk (st := s__law_needs) l_law_needs c_law_needs k_law_needs
  have F__law_is_prefix := fun_mk (st := s__law_is_prefix) l_law_is_prefix c_law_is_prefix k_law_is_prefix
  have F__law_some_name := fun_mk (st := s__law_some_name) l_law_some_name c_law_some_name k_law_some_name
  have F__law_some_word := fun_mk (st := s__law_some_word) l_law_some_word c_law_some_word k_law_some_word
  have F__law_bent := fun_mk (st := s__law_bent) l_law_bent c_law_bent k_law_bent
  have F__law_chain := fun_mk (st := s__law_chain) l_law_chain c_law_chain k_law_chain
  have F__law_judged := fun_mk (st := s__law_judged) l_law_judged c_law_judged k_law_judged
  have F__law_called := fun_mk (st := s__law_called) l_law_called c_law_called k_law_called
  have F_law := fun_mk (st := s_law) llaw claw klaw
  have b_read_number := F_read_number.binds (ps := ["word"]) fun _ _ _ _ _ _ us hl => match us, hl with | [_], _ => rfl
  have b_is_word_name := F_is_word_name.binds (ps := ["value"]) fun _ _ _ _ _ _ us hl => match us, hl with | [_], _ => rfl
  have b_is_own_name := F_is_own_name.binds (ps := ["value"]) fun _ _ _ _ _ _ us hl => match us, hl with | [_], _ => rfl
  have b_is_name := F_is_name.binds (ps := ["value"]) fun _ _ _ _ _ _ us hl => match us, hl with | [_], _ => rfl
  have b_is_integer_word := F_is_integer_word.binds (ps := ["word", "least", "greatest"]) fun _ _ _ _ _ _ us hl => match us, hl with | [_, _, _], _ => rfl
  have b_operands_behind := F_operands_behind.binds (ps := ["word", "kind"]) fun _ _ _ _ _ _ us hl => match us, hl with | [_, _], _ => rfl
  have b_is_expression := F_is_expression.binds (ps := ["value"]) fun _ _ _ _ _ _ us hl => match us, hl with | [_], _ => rfl
  have b__law_bag := F__law_bag.binds (ps := ["script"]) fun _ _ _ _ _ _ us hl => match us, hl with | [_], _ => rfl
  have b__law_draw := F__law_draw.binds (ps := ["bag", "size"]) fun _ _ _ _ _ _ us hl => match us, hl with | [_, _], _ => rfl
  have b__law_of := F__law_of.binds (ps := ["bag", "things"]) fun _ _ _ _ _ _ us hl => match us, hl with | [_, _], _ => rfl
  have b__law_like := F__law_like.binds (ps := ["got", "due"]) fun _ _ _ _ _ _ us hl => match us, hl with | [_, _], _ => rfl
  have b__law_any := F__law_any.binds (ps := ["bag", "deep"]) fun _ _ _ _ _ _ us hl => match us, hl with | [_, _], _ => rfl
  have b__law_prefix := F__law_prefix.binds (ps := ["bag", "parts", "size"]) fun _ _ _ _ _ _ us hl => match us, hl with | [_, _, _], _ => rfl
  have b__law_kept := F__law_kept.binds (ps := []) fun _ _ _ _ _ _ us hl => match us, hl with | [], _ => rfl
  have b__law_is_word := F__law_is_word.binds (ps := ["thing"]) fun _ _ _ _ _ _ us hl => match us, hl with | [_], _ => rfl
  have b__law_is_own := F__law_is_own.binds (ps := ["thing"]) fun _ _ _ _ _ _ us hl => match us, hl with | [_], _ => rfl
  have b__law_is_name := F__law_is_name.binds (ps := ["thing"]) fun _ _ _ _ _ _ us hl => match us, hl with | [_], _ => rfl
  have b__law_needs := F__law_needs.binds (ps := ["part"]) fun _ _ _ _ _ _ us hl => match us, hl with | [_], _ => rfl
  have b__law_is_prefix := F__law_is_prefix.binds (ps := ["thing"]) fun _ _ _ _ _ _ us hl => match us, hl with | [_], _ => rfl
  have b__law_some_name := F__law_some_name.binds (ps := ["bag"]) fun _ _ _ _ _ _ us hl => match us, hl with | [_], _ => rfl
  have b__law_some_word := F__law_some_word.binds (ps := ["bag"]) fun _ _ _ _ _ _ us hl => match us, hl with | [_], _ => rfl
  have b__law_bent := F__law_bent.binds (ps := ["bag", "thing"]) fun _ _ _ _ _ _ us hl => match us, hl with | [_, _], _ => rfl
  have b__law_chain := F__law_chain.binds (ps := ["bag"]) fun _ _ _ _ _ _ us hl => match us, hl with | [_], _ => rfl
  have b__law_judged := F__law_judged.binds (ps := ["thing"]) fun _ _ _ _ _ _ us hl => match us, hl with | [_], _ => rfl
  have b__law_called := F__law_called.binds (ps := ["thing"]) fun _ _ _ _ _ _ us hl => match us, hl with | [_], _ => rfl
  have b_law := F_law.binds (ps := ["script"]) fun _ _ _ _ _ _ us hl => match us, hl with | [_], _ => rfl
  have z_is_expression := kb_of F_is_expression (n := 0) (ks := ["value"]) (ps := ["value"]) (fun _ ws => ws) (fun _ h => h) fun _ _ _ _ _ _ us ws h1 h2 => match us, ws, h1, h2 with | [], [_], _, _ => rfl
  have z_is_word_name := kb_of F_is_word_name (n := 0) (ks := ["value"]) (ps := ["value"]) (fun _ ws => ws) (fun _ h => h) fun _ _ _ _ _ _ us ws h1 h2 => match us, ws, h1, h2 with | [], [_], _, _ => rfl
  have z_is_own_name := kb_of F_is_own_name (n := 0) (ks := ["value"]) (ps := ["value"]) (fun _ ws => ws) (fun _ h => h) fun _ _ _ _ _ _ us ws h1 h2 => match us, ws, h1, h2 with | [], [_], _, _ => rfl
  have z_is_name := kb_of F_is_name (n := 0) (ks := ["value"]) (ps := ["value"]) (fun _ ws => ws) (fun _ h => h) fun _ _ _ _ _ _ us ws h1 h2 => match us, ws, h1, h2 with | [], [_], _, _ => rfl
  let T : Txt w K mg := {
    n_len := PySem.W.mg_none_of X G nlen
    n_int := PySem.W.mg_none_of X G nint
    n_str := PySem.W.mg_none_of X G nstr
    n_list := PySem.W.mg_none_of X G nlist
    n_tuple := PySem.W.mg_none_of X G ntuple
    n_bool := PySem.W.mg_none_of X G nbool
    n_isinstance := PySem.W.mg_none_of X G nisinstance
    n_all := PySem.W.mg_none_of X G nall
    n_range := PySem.W.mg_none_of X G nrange
    n_zip := PySem.W.mg_none_of X G nzip
    t_FIGURES := _
    m_FIGURES := PySem.W.mg_of X G xFIG
    t_LETTERS := _
    m_LETTERS := PySem.W.mg_of X G xLET
    t_MOST_WORDS := _
    m_MOST_WORDS := PySem.W.mg_of X G xMOST
    a_RESERVED := _
    m_RESERVED := PySem.W.mg_of X G xRESERVED
    s_RESERVED := fun _ => .inr ⟨_, _, _, oRESERVED, rfl, rfl, wRESERVED, vRESERVED⟩
    a_GIVEN := _
    m_GIVEN := PySem.W.mg_of X G xGIVEN
    s_GIVEN := fun _ => .inr ⟨_, _, _, oGIVEN, rfl, rfl, wGIVEN, vGIVEN⟩
    a_OPERANDS := _
    m_OPERANDS := PySem.W.mg_of X G xOP
    es_OPERANDS := _
    n_es_OPERANDS := _
    D_OPERANDS := ⟨oOP, iOP, eOP⟩
    g_OPERANDS := opG oOP pOP
    a_read_number := _
    d_read_number := _
    F_read_number := F_read_number
    m_read_number := PySem.W.mg_of X G aread_number
    B_read_number := b_read_number
    a_is_word_name := _
    d_is_word_name := _
    F_is_word_name := F_is_word_name
    m_is_word_name := PySem.W.mg_of X G ais_word_name
    B_is_word_name := b_is_word_name
    a_is_own_name := _
    d_is_own_name := _
    F_is_own_name := F_is_own_name
    m_is_own_name := PySem.W.mg_of X G ais_own_name
    B_is_own_name := b_is_own_name
    a_is_name := _
    d_is_name := _
    F_is_name := F_is_name
    m_is_name := PySem.W.mg_of X G ais_name
    B_is_name := b_is_name
    a_is_integer_word := _
    d_is_integer_word := _
    F_is_integer_word := F_is_integer_word
    m_is_integer_word := PySem.W.mg_of X G ais_integer_word
    B_is_integer_word := b_is_integer_word
    a_operands_behind := _
    d_operands_behind := _
    F_operands_behind := F_operands_behind
    m_operands_behind := PySem.W.mg_of X G aoperands_behind
    B_operands_behind := b_operands_behind
    a_is_expression := _
    d_is_expression := _
    F_is_expression := F_is_expression
    m_is_expression := PySem.W.mg_of X G ais_expression
    B_is_expression := b_is_expression
    a__law_bag := _
    d__law_bag := _
    F__law_bag := F__law_bag
    m__law_bag := PySem.W.mg_of X G a_law_bag
    B__law_bag := b__law_bag
    a__law_draw := _
    d__law_draw := _
    F__law_draw := F__law_draw
    m__law_draw := PySem.W.mg_of X G a_law_draw
    B__law_draw := b__law_draw
    a__law_of := _
    d__law_of := _
    F__law_of := F__law_of
    m__law_of := PySem.W.mg_of X G a_law_of
    B__law_of := b__law_of
    a__law_like := _
    d__law_like := _
    F__law_like := F__law_like
    m__law_like := PySem.W.mg_of X G a_law_like
    B__law_like := b__law_like
    a__law_any := _
    d__law_any := _
    F__law_any := F__law_any
    m__law_any := PySem.W.mg_of X G a_law_any
    B__law_any := b__law_any
    a__law_prefix := _
    d__law_prefix := _
    F__law_prefix := F__law_prefix
    m__law_prefix := PySem.W.mg_of X G a_law_prefix
    B__law_prefix := b__law_prefix
    a__law_kept := _
    d__law_kept := _
    F__law_kept := F__law_kept
    m__law_kept := PySem.W.mg_of X G a_law_kept
    B__law_kept := b__law_kept
    a__law_is_word := _
    d__law_is_word := _
    F__law_is_word := F__law_is_word
    m__law_is_word := PySem.W.mg_of X G a_law_is_word
    B__law_is_word := b__law_is_word
    a__law_is_own := _
    d__law_is_own := _
    F__law_is_own := F__law_is_own
    m__law_is_own := PySem.W.mg_of X G a_law_is_own
    B__law_is_own := b__law_is_own
    a__law_is_name := _
    d__law_is_name := _
    F__law_is_name := F__law_is_name
    m__law_is_name := PySem.W.mg_of X G a_law_is_name
    B__law_is_name := b__law_is_name
    a__law_needs := _
    d__law_needs := _
    F__law_needs := F__law_needs
    m__law_needs := PySem.W.mg_of X G a_law_needs
    B__law_needs := b__law_needs
    a__law_is_prefix := _
    d__law_is_prefix := _
    F__law_is_prefix := F__law_is_prefix
    m__law_is_prefix := PySem.W.mg_of X G a_law_is_prefix
    B__law_is_prefix := b__law_is_prefix
    a__law_some_name := _
    d__law_some_name := _
    F__law_some_name := F__law_some_name
    m__law_some_name := PySem.W.mg_of X G a_law_some_name
    B__law_some_name := b__law_some_name
    a__law_some_word := _
    d__law_some_word := _
    F__law_some_word := F__law_some_word
    m__law_some_word := PySem.W.mg_of X G a_law_some_word
    B__law_some_word := b__law_some_word
    a__law_bent := _
    d__law_bent := _
    F__law_bent := F__law_bent
    m__law_bent := PySem.W.mg_of X G a_law_bent
    B__law_bent := b__law_bent
    a__law_chain := _
    d__law_chain := _
    F__law_chain := F__law_chain
    m__law_chain := PySem.W.mg_of X G a_law_chain
    B__law_chain := b__law_chain
    a__law_judged := _
    d__law_judged := _
    F__law_judged := F__law_judged
    m__law_judged := PySem.W.mg_of X G a_law_judged
    B__law_judged := b__law_judged
    a__law_called := _
    d__law_called := _
    F__law_called := F__law_called
    m__law_called := PySem.W.mg_of X G a_law_called
    B__law_called := b__law_called
    a_law := _
    d_law := _
    F_law := F_law
    m_law := PySem.W.mg_of X G alaw
    B_law := b_law
    Z_is_expression := z_is_expression
    Z_is_word_name := z_is_word_name
    Z_is_own_name := z_is_own_name
    Z_is_name := z_is_name
  }
  exact ⟨PySem.W.fnOf "law" "law" (defArgs s_law) (defBody s_law) (defScope s_law) .none kV_law dc_law pm_law an_law cd_law ct_law, fun s v => .of_eq rfl, fun base _ _ => ok_law (P := l.prog) (base := base) T⟩
theorem walk {l : PySem.W.OpenLaw} {q : Program} {loose : List Str} {XP : (Str → Option Value) → Heap → Prop} {YP : World → Heap → Prop} {d : DefRec} {K : Params → PySem.W.Frag} (hn : l.most = some 63) (hdf : d.params.defaults = [])
    (hY : ∀ (w : World) (h : Heap), YP w h → (K w.params).In h)
    (F : ∀ (w : World) (mg : Str → Option Value) (fa : Addr) (h : Heap), (K w.params).In h → h.Ns mainGlobals mg → mg d.name = some (.ref fa) →
      ∃ fd : FuncData, (∀ (s : Shared) (u : Value), BindsTo s fd ⟨[u], []⟩ [("script", u)]) ∧ ∀ base : Heap, (K w.params).In base → base.Ns mainGlobals mg → FnOk l.prog w (K w.params) mg base CX0 8 fa fd ["script"] (sp_law (K w.params))) :
    PySem.W.WalkO q loose XP YP l.row.toRowW d [] (fun f vs => PySem.call f vs) :=
  L2.walk_of (n := 63) (k := 8) (x := "script") (CX := fun _ => CX0) (sp := fun w => sp_law (K w.params)) hn (by decide) hdf ⟨rfl, by decide, by decide⟩ hY F (fun _ _ a ns hl _ hS => ⟨a, ns, rfl, hS, hl, fun _ => rfl⟩) fun _ _ _ _ _ z => z
end LK

open PySem PySem.W PyProof.Rows
set_option maxRecDepth 100000 in
set_option maxHeartbeats 0 in
theorem PySem.Challenge.cw_lookingnets_k04_expressions_judged_holds : PySem.Challenge.rw_lookingnets_k04_expressions_judged.Holds := by
  w_on; o_law; k_head; (case hw => w_witness2)
  k_fill
  refine LK.walk (l := PySem.Challenge.rw_lookingnets_k04_expressions_judged) rfl rfl (fun w h Y => PySem.W.kIn_of Y) ?F
  case F =>
    intro w mg fa h KX G hmg
    refine' LK.all_mk KX G hmg ?aread_number ?lread_number ?cread_number ?kread_number ?ais_word_name ?lis_word_name ?cis_word_name ?kis_word_name ?ais_own_name ?lis_own_name ?cis_own_name ?kis_own_name ?ais_name ?lis_name ?cis_name ?kis_name ?ais_integer_word ?lis_integer_word ?cis_integer_word ?kis_integer_word ?aoperands_behind ?loperands_behind ?coperands_behind ?koperands_behind ?ais_expression ?lis_expression ?cis_expression ?kis_expression ?a_law_bag ?l_law_bag ?c_law_bag ?k_law_bag ?a_law_draw ?l_law_draw ?c_law_draw ?k_law_draw ?a_law_of ?l_law_of ?c_law_of ?k_law_of ?a_law_like ?l_law_like ?c_law_like ?k_law_like ?a_law_any ?l_law_any ?c_law_any ?k_law_any ?a_law_prefix ?l_law_prefix ?c_law_prefix ?k_law_prefix ?a_law_kept ?l_law_kept ?c_law_kept ?k_law_kept ?a_law_is_word ?l_law_is_word ?c_law_is_word ?k_law_is_word ?a_law_is_own ?l_law_is_own ?c_law_is_own ?k_law_is_own ?a_law_is_name ?l_law_is_name ?c_law_is_name ?k_law_is_name ?a_law_needs ?l_law_needs ?c_law_needs ?k_law_needs ?a_law_is_prefix ?l_law_is_prefix ?c_law_is_prefix ?k_law_is_prefix ?a_law_some_name ?l_law_some_name ?c_law_some_name ?k_law_some_name ?a_law_some_word ?l_law_some_word ?c_law_some_word ?k_law_some_word ?a_law_bent ?l_law_bent ?c_law_bent ?k_law_bent ?a_law_chain ?l_law_chain ?c_law_chain ?k_law_chain ?a_law_judged ?l_law_judged ?c_law_judged ?k_law_judged ?a_law_called ?l_law_called ?c_law_called ?k_law_called ?alaw ?llaw ?claw ?klaw ?nlen ?nint ?nstr ?nlist ?ntuple ?nbool ?nisinstance ?nall ?nrange ?nzip ?xFIG ?xLET ?xMOST ?xRESERVED ?oRESERVED ?xGIVEN ?oGIVEN ?xOP ?oOP ?iOP ?eOP ?pOP ?vRESERVED ?vGIVEN ?wRESERVED ?wGIVEN
    (case aread_number => k_is)
    (case lread_number => k_is)
    (case cread_number => k_is)
    (case kread_number => k_is)
    (case ais_word_name => k_is)
    (case lis_word_name => k_is)
    (case cis_word_name => k_is)
    (case kis_word_name => k_is)
    (case ais_own_name => k_is)
    (case lis_own_name => k_is)
    (case cis_own_name => k_is)
    (case kis_own_name => k_is)
    (case ais_name => k_is)
    (case lis_name => k_is)
    (case cis_name => k_is)
    (case kis_name => k_is)
    (case ais_integer_word => k_is)
    (case lis_integer_word => k_is)
    (case cis_integer_word => k_is)
    (case kis_integer_word => k_is)
    (case aoperands_behind => k_is)
    (case loperands_behind => k_is)
    (case coperands_behind => k_is)
    (case koperands_behind => k_is)
    (case ais_expression => k_is)
    (case lis_expression => k_is)
    (case cis_expression => k_is)
    (case kis_expression => k_is)
    (case a_law_bag => k_is)
    (case l_law_bag => k_is)
    (case c_law_bag => k_is)
    (case k_law_bag => k_is)
    (case a_law_draw => k_is)
    (case l_law_draw => k_is)
    (case c_law_draw => k_is)
    (case k_law_draw => k_is)
    (case a_law_of => k_is)
    (case l_law_of => k_is)
    (case c_law_of => k_is)
    (case k_law_of => k_is)
    (case a_law_like => k_is)
    (case l_law_like => k_is)
    (case c_law_like => k_is)
    (case k_law_like => k_is)
    (case a_law_any => k_is)
    (case l_law_any => k_is)
    (case c_law_any => k_is)
    (case k_law_any => k_is)
    (case a_law_prefix => k_is)
    (case l_law_prefix => k_is)
    (case c_law_prefix => k_is)
    (case k_law_prefix => k_is)
    (case a_law_kept => k_is)
    (case l_law_kept => k_is)
    (case c_law_kept => k_is)
    (case k_law_kept => k_is)
    (case a_law_is_word => k_is)
    (case l_law_is_word => k_is)
    (case c_law_is_word => k_is)
    (case k_law_is_word => k_is)
    (case a_law_is_own => k_is)
    (case l_law_is_own => k_is)
    (case c_law_is_own => k_is)
    (case k_law_is_own => k_is)
    (case a_law_is_name => k_is)
    (case l_law_is_name => k_is)
    (case c_law_is_name => k_is)
    (case k_law_is_name => k_is)
    (case a_law_needs => k_is)
    (case l_law_needs => k_is)
    (case c_law_needs => k_is)
    (case k_law_needs => k_is)
    (case a_law_is_prefix => k_is)
    (case l_law_is_prefix => k_is)
    (case c_law_is_prefix => k_is)
    (case k_law_is_prefix => k_is)
    (case a_law_some_name => k_is)
    (case l_law_some_name => k_is)
    (case c_law_some_name => k_is)
    (case k_law_some_name => k_is)
    (case a_law_some_word => k_is)
    (case l_law_some_word => k_is)
    (case c_law_some_word => k_is)
    (case k_law_some_word => k_is)
    (case a_law_bent => k_is)
    (case l_law_bent => k_is)
    (case c_law_bent => k_is)
    (case k_law_bent => k_is)
    (case a_law_chain => k_is)
    (case l_law_chain => k_is)
    (case c_law_chain => k_is)
    (case k_law_chain => k_is)
    (case a_law_judged => k_is)
    (case l_law_judged => k_is)
    (case c_law_judged => k_is)
    (case k_law_judged => k_is)
    (case a_law_called => k_is)
    (case l_law_called => k_is)
    (case c_law_called => k_is)
    (case k_law_called => k_is)
    (case alaw => k_is)
    (case llaw => k_is)
    (case claw => k_is)
    (case klaw => k_is)
    (case nlen => k_is)
    (case nint => k_is)
    (case nstr => k_is)
    (case nlist => k_is)
    (case ntuple => k_is)
    (case nbool => k_is)
    (case nisinstance => k_is)
    (case nall => k_is)
    (case nrange => k_is)
    (case nzip => k_is)
    (case xFIG => k_is)
    (case xLET => k_is)
    (case xMOST => k_is)
    (case xRESERVED => k_is)
    (case oRESERVED => k_is)
    (case xGIVEN => k_is)
    (case oGIVEN => k_is)
    (case xOP => k_is)
    (case oOP => k_is)
    (case iOP => k_keys)
    (case eOP => decide)
    (case pOP => rfl)
    (case vRESERVED => repeat (first | exact .nil | refine .cons ⟨_, rfl⟩ ?_))
    (case vGIVEN => repeat (first | exact .nil | refine .cons ⟨_, rfl⟩ ?_))
    (case wRESERVED => decide)
    (case wGIVEN => decide)
