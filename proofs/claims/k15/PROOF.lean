import PyProof.Rows.All
import Wide.All
import OpenK.AllK
import Wide.FinOn
import HandS.ForMost
import HandS.IsInst
import HandS.Zip
import HandS.TupAny
import HandS.Style
import HandS.More
import HandS.Defaults
import HandS.Walk
import KE.GoesMore
import HandS.Deep
import HandS.TupSets
import HandS.Conv
import HandS.OwnEq
import PyProof.InstNe
import HandS.ExcInit
import KE.KExcInit
import PyProof.ExcBaseAll.LookupError
import HandS.ExcField
import HandS.MakeKw
import KE.KExcIs
import HandS.HotCalls
import HandS.MakeKwOnly
import HandS.Property
import HandS.FStr
import HandS.Gcd
import HandS.Wide
import HandS.WordsExc
import HandS.HeadHook4
import HandS.HeadWalk
import HandS.Head2
import HandS.Head3
import PySem.Challenge.RW_lookingnets_k15_nets_refused
set_option Elab.async false
set_option linter.all false
set_option maxRecDepth 100000
namespace LK
open PySem PySem.Spec PyProof.Rows L2
/-! ### heaps but for one object -/
def hb (H : Hp) (b : Addr) : Hp := fun a => if a = b then none else H a
theorem hb_ne {H : Hp} {a b : Addr} (h : a ≠ b) : hb H b a = H a := if_neg h
theorem hb_same {H : Hp} {b : Addr} : hb H b b = none := if_pos rfl
theorem hb_some {H : Hp} {a b : Addr} {o : HO} (h : hb H b a = some o) : a ≠ b ∧ H a = some o := by
  unfold hb at h
  split at h
  · cases h
  · exact ⟨by assumption, h⟩
theorem hb_le (H : Hp) (b : Addr) : Same (hb H b) H := fun _ _ h => (hb_some h).2
/-- all but b stays -/
abbrev Kp (b : Addr) (H H' : Hp) : Prop := Same (hb H b) (hb H' b)
theorem Kp.of {b : Addr} {H H' : Hp} (s : Same H H') : Kp b H H' := fun a o h => by
  obtain ⟨h1, h2⟩ := hb_some h
  rw [hb_ne h1]
  exact s _ _ h2
theorem Kp.refl (b : Addr) (H : Hp) : Kp b H H := Same.refl _
theorem Kp.upd {b : Addr} {H : Hp} {o : HO} : Kp b H (upd H b o) := fun a u h => by
  obtain ⟨h1, h2⟩ := hb_some h
  rw [hb_ne h1, upd_ne h1]
  exact h2
theorem Kp.hd {b a : Addr} {H H' : Hp} {o : HO} (k : Kp b H H') (h : H a = some o) (n : a ≠ b) : H' a = some o := (hb_some (k a o (by rw [hb_ne n]; exact h))).2
/-- a new object -/
theorem al {H : Hp} {R : Addr → Hp → Prop} {o : HO} (h : ∀ p H1, Same H H1 → H1 p = some o → H p = none → R p H1) : ∀ p, H p = none → R p (upd H p o) := fun p hp =>
  h p _ (fun a u e => by rw [upd_ne (ne_of_none e hp)]; exact e) upd_same hp
theorem same_upd {H : Hp} {p : Addr} {o : HO} (hp : H p = none) : Same H (upd H p o) := fun a u e => by rw [upd_ne (ne_of_none e hp)]; exact e
theorem at_ofN {α : Type} {xs : List α} {z : Int} {j : Nat} {v : α} (e : z = (j : Int)) (h : xs[j]? = some v) : atI xs z = some v := by
  subst e
  exact atI_nat h
/-! ### the bag of a law -/
def Bag (N : Nat) (H : Hp) (b c : Addr) : Prop := ∃ (cells : List Int) (i g m n : Int), H b = some (.lst [.ref c, .int i, .int g, .int m, .int n]) ∧ H c = some (.lst (cells.map V.int)) ∧ c ≠ b ∧ 0 ≤ i ∧ 0 ≤ m ∧ m < 2305843009213693951 ∧ 0 ≤ n ∧ n + N ≤ 1099511627776
theorem Bag.le {N M : Nat} {H : Hp} {b c : Addr} (B : Bag N H b c) (h : M ≤ N) : Bag M H b c := by
  obtain ⟨cells, i, g, m, n, h1, h2, h3, h4, h5, h6, h7, h8⟩ := B
  exact ⟨cells, i, g, m, n, h1, h2, h3, h4, h5, h6, h7, by omega⟩
theorem Bag.same {N : Nat} {H H' : Hp} {b c : Addr} (B : Bag N H b c) (s : Same H H') : Bag N H' b c := by
  obtain ⟨cells, i, g, m, n, h1, h2, h3⟩ := B
  exact ⟨cells, i, g, m, n, s _ _ h1, s _ _ h2, h3⟩
theorem Bag.at {N : Nat} {H : Hp} {b c : Addr} (B : Bag N H b c) : ∃ xs, H b = some (.lst xs) := by
  obtain ⟨cells, i, g, m, n, h1, _⟩ := B
  exact ⟨_, h1⟩
theorem Bag.at2 {N : Nat} {H : Hp} {b c : Addr} (B : Bag N H b c) : ∃ xs, H c = some (.lst xs) := by
  obtain ⟨cells, i, g, m, n, h1, h2, _⟩ := B
  exact ⟨_, h2⟩
/-- another object is stored -/
theorem Bag.upd {N : Nat} {H : Hp} {b c p : Addr} {o : HO} (B : Bag N H b c) (n1 : b ≠ p) (n2 : c ≠ p) : Bag N (upd H p o) b c := by
  obtain ⟨cells, i, g, m, n, h1, h2, h3⟩ := B
  exact ⟨cells, i, g, m, n, by rw [upd_ne n1]; exact h1, by rw [upd_ne n2]; exact h2, h3⟩
/-- a new object beside a bag -/
theorem alB {N : Nat} {H : Hp} {R : Addr → Hp → Prop} {o : HO} {b c : Addr} (B : Bag N H b c) (h : ∀ p H1, Kp b H H1 → Bag N H1 b c → hb H1 b p = some o → Same H H1 → H p = none → R p H1) : ∀ p, H p = none → R p (upd H p o) :=
  al fun p H1 s h1 h0 => h p H1 (Kp.of s) (B.same s) (by
    have n : p ≠ b := fun e => by
      obtain ⟨xs, q⟩ := B.at
      rw [e, q] at h0; cases h0
    rw [hb_ne n]; exact h1) s h0
/-! ### data -/
theorem Same.seqT {K : PySem.W.Frag} {H H' : Hp} {a : Addr} {xs : List V} (e : Same H H') (h : SqT K H a xs) : SqT K H' a xs := by
  rcases h with (h | ⟨o, h⟩) | h
  · exact .inl (.inl (e _ _ h))
  · exact .inl (.inr ⟨o, e _ _ h⟩)
  · exact .inr h
mutual
theorem dp_same {K : PySem.W.Frag} {H H' : Hp} (e : Same H H') : ∀ {d : PyData} {v : V}, Dp K H v d → Dp K H' v d
  | .none, _, h => by cases h; exact .non
  | .bool _, _, h => by cases h; exact .bl _
  | .int _, _, h => by cases h; exact .int _
  | .str _, _, h => by cases h; exact .str _
  | .list ds, _, h => by cases h with | lst a b => exact .lst (L2.Same.seq e a) (dpa_same e b)
  | .tuple ds, _, h => by cases h with | tup a b => exact .tup (Same.seqT e a) (dpa_same e b)
  | .dict _, _, h => by cases h
theorem dpa_same {K : PySem.W.Frag} {H H' : Hp} (e : Same H H') : ∀ {ds : List PyData} {vs : List V}, DpAll K H vs ds → DpAll K H' vs ds
  | [], _, h => by cases h; exact .nil
  | _ :: _, _, h => by cases h with | cons a b => exact .cons (dp_same e a) (dpa_same e b)
end
end LK
namespace LK
open PySem PySem.Spec PyProof.Rows L2
section
variable {CX : CXT} {P : Program} {w : World} {K : PySem.W.Frag} {mg : Str → Option Value} {base : Heap} {N : List Str} {q : Str} {sc : Scope} {f : Addr} {cd : Value} {A : Around} {outer : List Env} {s : Shared} {H : Hp} {E : XK}
theorem cxK : (cxOf CX P w K mg base N q sc f cd A outer s H E).K = K := rfl
theorem cxNK : (cxOf CX P w K mg base N q sc f cd A outer s H E).nox.K = K := rfl
theorem cxW : (cxOf CX P w K mg base N q sc f cd A outer s H E).w = w := rfl
end
theorem cut_seq {t u : TS} {D : Ends} {σ : L2.St} {H : Hp} (Mid : L2.St → Hp → Prop) (h1 : ∀ N : L2.St → Hp → Prop, (∀ σ' H', Mid σ' H' → N σ' H') → t { D with nx := N } σ H) (h2 : ∀ σ' H', Mid σ' H' → u D σ' H') : tSeq t u D σ H := h1 _ h2
end LK
namespace LK
open PySem PySem.Spec PyProof.Rows L2
theorem seq_op {t u : TS} {D : Ends} {σ : L2.St} {H : Hp} (h : ∀ N : L2.St → Hp → Prop, (∀ σ' H', u D σ' H' → N σ' H') → t { D with nx := N } σ H) : tSeq t u D σ H := h _ fun _ _ z => z
end LK
namespace LK
open PySem PySem.Spec PyProof.Rows L2
section
variable {X : Cx}
theorem opr_imp {f : Value → Value → Sem Value} {r r' : R2} (h : OpR X f r) (i : ∀ x y H Q, r' x y H Q → r x y H Q) : OpR X f r' := fun pins s σ H x y v u Q I rx ry q => h pins s σ H x y v u Q I rx ry (i _ _ _ _ q)
theorem cr_imp {f : Value} {r r' : List V → Hp → VK → Prop} (h : CallR X f r) (i : ∀ x H Q, r' x H Q → r x H Q) : CallR X f r' := fun pins s σ H xs us Q I rx q => h pins s σ H xs us Q I rx (i _ _ _ q)
theorem op_eqI : OpR X (compareOp .Eq) (rI0 fun i j => .bl (decide (i = j))) := opr_imp op_eq fun x y H Q h => by
  obtain ⟨i, j, rfl, rfl, q⟩ := h
  refine ⟨rfl, ?_⟩
  rw [L2.dec_int, Bool.beq_eq_decide_eq]; exact q
theorem op_neI : OpR X (compareOp .NotEq) (rI0 fun i j => .bl (!decide (i = j))) := opr_imp op_ne fun x y H Q h => by
  obtain ⟨i, j, rfl, rfl, q⟩ := h
  refine ⟨rfl, ?_⟩
  rw [L2.dec_int, Bool.beq_eq_decide_eq]; exact q
def rS0 (g : Str → Str → V) : R2 := fun x y H Q => ∃ i j, x = .str i ∧ y = .str j ∧ Q (g i j) H
theorem op_eqS : OpR X (compareOp .Eq) (rS0 fun i j => .bl (decide (i = j))) := opr_imp op_eq fun x y H Q h => by
  obtain ⟨i, j, rfl, rfl, q⟩ := h
  refine ⟨rfl, ?_⟩
  have e : decide (V.str i = V.str j) = decide (i = j) := by
    by_cases c : i = j
    · subst c; simp
    · rw [decide_eq_false c, decide_eq_false (fun z => c (V.str.inj z))]
  rw [e]; exact q
theorem op_neS : OpR X (compareOp .NotEq) (rS0 fun i j => .bl (!decide (i = j))) := opr_imp op_ne fun x y H Q h => by
  obtain ⟨i, j, rfl, rfl, q⟩ := h
  refine ⟨rfl, ?_⟩
  have e : decide (V.str i = V.str j) = decide (i = j) := by
    by_cases c : i = j
    · subst c; simp
    · rw [decide_eq_false c, decide_eq_false (fun z => c (V.str.inj z))]
  rw [e]; exact q
def rB0 (g : Bool → Bool → V) : R2 := fun x y H Q => ∃ i j, x = .bl i ∧ y = .bl j ∧ Q (g i j) H
theorem op_eqB : OpR X (compareOp .Eq) (rB0 fun i j => .bl (i == j)) := opr_imp op_eq fun x y H Q h => by
  obtain ⟨i, j, rfl, rfl, q⟩ := h
  refine ⟨rfl, ?_⟩
  rw [L2.dec_bl]; exact q
theorem op_neB : OpR X (compareOp .NotEq) (rB0 fun i j => .bl (!(i == j))) := opr_imp op_ne fun x y H Q h => by
  obtain ⟨i, j, rfl, rfl, q⟩ := h
  refine ⟨rfl, ?_⟩
  rw [L2.dec_bl]; exact q
/-- int(n) of an int -/
theorem call_intI : CallR X (.type "int") (fun xs H Q => ∃ i, xs = [.int i] ∧ Q (.int i) H) := cr_imp call_int1 fun xs H Q h => .inl h
end
end LK
namespace LK
open PySem PySem.Spec PyProof.Rows L2
/-! ### isinstance of data -/
def tyN : PyData → String
  | .none => "NoneType" | .bool _ => "bool" | .int _ => "int" | .str _ => "str" | .list _ => "list" | .tuple _ => "tuple" | .dict _ => "dict"
def isTy (T : String) : PyData → Bool
  | .none => false | .bool _ => T == "bool" || T == "int" | .int _ => T == "int" | .str _ => T == "str" | .list _ => T == "list" | .tuple _ => T == "tuple" | .dict _ => false
theorem dp_ty {K : PySem.W.Frag} {H : Hp} {v : V} {d : PyData} (h : Dp K H v d) : TyX K H v (.type (tyN d)) := by
  cases h with
  | non => exact .base .non
  | bl b => exact .base (.bl b)
  | int i => exact .base (.int i)
  | str x => exact .base (.str x)
  | lst hs _ =>
    rcases hs with (h | ⟨o, h⟩) | ⟨o, its, n, h1, h2, _⟩
    · exact .base (.lst h)
    · exact .base (.frz h)
    · exact .kList h1 h2
  | tup hs _ =>
    rcases hs with (h | ⟨o, h⟩) | ⟨o, its, n, h1, h2, _⟩
    · exact .base (.tup h)
    · exact .fTuple h
    · exact .kTuple h1 h2
theorem dp_kit {K : PySem.W.Frag} {H : Hp} {v : V} {d : PyData} (h : Dp K H v d) {T : String} (hT : T ∈ ["str", "int", "bool", "list", "tuple"]) : PySem.W.kitOne K (.type (tyN d)) (.type T) = some (isTy T d) := by
  refine kit_ty ?_
  simp only [List.mem_cons, List.mem_nil_iff, or_false] at hT
  cases h <;> rcases hT with rfl | rfl | rfl | rfl | rfl <;> (simp only [tyN, isTy]; decide +kernel)
section
variable {X : Cx}
theorem call_isiD : CallR X (.builtin "isinstance") (fun xs H Q => ∃ x T d, xs = [x, .ty T] ∧ Dp X.K H x d ∧ T ∈ ["str", "int", "bool", "list", "tuple"] ∧ Q (.bl (isTy T d)) H) := cr_imp call_isi fun xs H Q h => by
  obtain ⟨x, T, d, rfl, hd, hT, q⟩ := h
  exact ⟨x, .ty T, _, _, _, rfl, .ty T, dp_ty hd, dp_kit hd hT, q⟩
theorem call_isiDT : CallR X (.builtin "isinstance") (fun xs H Q => ∃ x tp d, xs = [x, .ref tp] ∧ H tp = some (.tup [.ty "list", .ty "tuple"]) ∧ Dp X.K H x d ∧ Q (.bl (isTy "list" d || isTy "tuple" d)) H) := cr_imp call_isiT fun xs H Q h => by
  obtain ⟨x, tp, d, rfl, ht, hd, q⟩ := h
  refine ⟨x, tp, _, .type (tyN d), [.type "list", .type "tuple"], _, rfl, ht, .cons (.ty _) (.cons (.ty _) .nil), dp_ty hd, ?_, q⟩
  have h1 := dp_kit hd (T := "list") (by simp)
  have h2 := dp_kit hd (T := "tuple") (by simp)
  unfold PySem.W.kitAny PySem.W.kitAny PySem.W.kitAny
  rw [h1, h2]
  cases isTy "list" d <;> cases isTy "tuple" d <;> rfl
/-- len of data -/
theorem call_lenD : CallR X (.builtin "len") (fun xs H Q => ∃ x d, xs = [x] ∧ Dp X.K H x d ∧ ((∃ ds, (d = .list ds ∨ d = .tuple ds) ∧ Q (.int ds.length) H) ∨ ∃ z, d = .str z ∧ z.length ≤ sizeLine ∧ Q (.int z.length) H)) := cr_imp call_len fun xs H Q h => by
  obtain ⟨x, d, rfl, hd, ⟨ds, e, q⟩ | ⟨z, rfl, hz, q⟩⟩ := h
  · have ln : ∀ {vs : List V} {es : List PyData}, DpAll X.K H vs es → vs.length = es.length := by
      intro vs es h
      induction es generalizing vs with
      | nil => cases h; rfl
      | cons a r ih => cases h with | cons _ h2 => simp [ih h2]
    rcases e with rfl | rfl
    · cases hd with
      | lst hs ha => exact ⟨_, ds.length, rfl, .inl ⟨_, hs, (ln ha).symm⟩, q⟩
    · cases hd with
      | tup hs ha => exact ⟨_, ds.length, rfl, .inr ⟨_, hs, (ln ha).symm⟩, q⟩
  · cases hd
    exact ⟨_, z.length, rfl, ⟨hz, rfl⟩, q⟩
/-- t[lo:hi] of a tuple: some tuple of that content -/
def rSlU (K : PySem.W.Frag) : V → Option Int → Option Int → Hp → VK → Prop := fun x lo hi H Q => ∃ a xs, x = .ref a ∧ SqT K H a xs ∧ ∀ q H', Same H H' → SqT K H' q (cutV xs lo hi) → Q (.ref q) H'
theorem sl_tupU : SlR X (rSlU X.K) := by
  intro pins s σ H x v vl vu lo hi sl Q I rx hs pl pu h
  obtain ⟨a, xs, rfl, hx, q⟩ := h
  refine sl_tupA pins s σ H _ v vl vu lo hi sl Q I rx hs pl pu ⟨a, xs, rfl, hx, fun hw => q a H (Same.refl H) ?_, fun hw p hp => q p _ (fun b o e => ?_) (.inl (.inl upd_same))⟩
  · have e : cutV xs lo hi = xs := by
      unfold cutV
      rw [hw.1, hw.2]
      simp
    rw [e]; exact hx
  · rw [upd_ne (ne_of_none e hp)]; exact e
def rCatU (K : PySem.W.Frag) : R2 := fun x y H Q => ∃ a b xs ys, x = .ref a ∧ y = .ref b ∧ SqT K H a xs ∧ SqT K H b ys ∧ xs.length + ys.length ≤ sizeLine ∧ ∀ q H', Same H H' → SqT K H' q (xs ++ ys) → Q (.ref q) H'
theorem op_catU : OpR X (binaryOp .Add) (rCatU X.K) := opr_imp op_catA fun x y H Q h => by
  obtain ⟨a, b, xs, ys, rfl, rfl, ha, hb, hz, q⟩ := h
  refine ⟨a, b, xs, ys, rfl, rfl, ha, hb, hz, fun e => q b H (Same.refl H) ?_, fun _ e => q a H (Same.refl H) ?_, fun _ _ p hp => q p _ (fun c o e => ?_) (.inl (.inl upd_same))⟩
  · subst e; exact hb
  · subst e; rw [List.append_nil]; exact ha
  · rw [upd_ne (ne_of_none e hp)]; exact e
/-- tuple(x) of a list or tuple -/
theorem call_tupleU : CallR X (.type "tuple") (fun xs H Q => ∃ p ys, xs = [.ref p] ∧ (SqL X.K H p ys ∨ SqT X.K H p ys) ∧ ∀ q H', Same H H' → SqT X.K H' q ys → Q (.ref q) H') := cr_imp call_tuple_of fun xs H Q h => by
  obtain ⟨p, ys, rfl, h, q⟩ := h
  refine ⟨p, ys, rfl, ?_⟩
  rcases h with h | h
  · exact .inl ⟨h, fun l hl => q l _ (fun c o e => by rw [upd_ne (ne_of_none e hl)]; exact e) (.inl (.inl upd_same))⟩
  · exact .inr ⟨h, q p H (Same.refl H) h⟩
end
/-! ### calls by keywords alone -/
def tCallZ (m : Nat) (sp : Sp) (gV : List V → List V) (E : XK) (tk : TA) : TE := fun σ H Q => tk σ H fun zs H2 => zs.length = m ∧ sp (gV zs) H2 Q E
section
variable {X : Cx} {CX : CXT} {k : Nat} {f : Addr} {fd : FuncData} {ps ks : List Str} {sp : Sp} {E : XK} {x : Str} {p pos : Pos} {kws : List Keyword} {tk : TA} {g : List Value → List Value} {gV : List V → List V}
/-- f(k = v, ..) -/
theorem pe_callZ (F : FnOk X.prog X.w X.K X.mg X.base CX k f fd ps sp) (hr : Room k X.A) (hg : Gl X x) (hm : X.mg x = some (.ref f)) (hk : PySem.W.keepIn X.K (.ref f) = true) (hb : KBn X.K fd ps 0 ks (fun _ ws => g ws) (fun _ zs => gV zs)) (hx : Passes CX X E)
    (hkw : PK X kws tk) (hall : (backToKw pos (keywordEach kws X.env)).all (·.1.isSome) = true := by rfl) (hks : (backToKw pos (keywordEach kws X.env)).filterMap (·.1) = ks := by rfl)
    (hdb : (x == ("__debug__" : Str)) = false := by decide)
    (hpl : ((backTo pos (starEach [] X.env)).any (·.1) || (backToKw pos (keywordEach kws X.env)).any (·.1.isNone)) = false := by rfl) :
    PE X (.Call (.Name x p) [] kws pos) (tCallZ ks.length sp gV E tk) := by
  refine ⟨fun pins s σ H Q I h => ?_⟩
  refine wpAny_Call_Name_kw (ld_glob I hg hm ?_ hdb)
  refine PySem.W.callWith_KW0 (h₀ := X.base) I.ok.mod.kin hk hall (thn (hkw.run pos pins s σ H _ I h) fun ws s2 ⟨zs, H2, I2, rz, l2, q2⟩ => ⟨I2.kIn, ?_⟩) hpl
  rw [hks]
  exact run_fnN F hr hb hx I2 .nil rz rfl l2 q2
end
theorem kb_of {K : PySem.W.Frag} {x qual : Str} {st : Stmt} {f : Addr} {fd : FuncData} {ps : List Str} (F : Fun K x qual st f fd) {n : Nat} {ks : List Str} (g : {α : Type} → List α → List α → List α)
    (hrel : ∀ {vs zs : List V} {us ws : List Value}, Vals vs us → Vals zs ws → Vals (g vs zs) (g us ws))
    (h : ∀ (kV doc pm : Value) (an : Option Addr) (cdv ct : Value) (us ws : List Value), us.length = n → ws.length = ks.length → bindArgs (PySem.W.fnOf x qual (defArgs st) (defBody st) (defScope st) .none kV doc pm an cdv ct) ⟨us, ks.zip ws⟩ = pure (ps.zip (g us ws))) : KBn K fd ps n ks (fun us ws => g us ws) (fun vs zs => g vs zs) := by
  obtain ⟨oc, od, kV, doc, pm, an, cdv, ct, osl, rfl, lk, hcd⟩ := F.ex
  exact ⟨fun s us ws _ l1 l2 => .of_eq (h kV doc pm an cdv ct us ws l1 l2), hrel⟩
end LK

namespace LK
open PySem PySem.Spec PyProof.Rows L2
/-! ### t[::-1] of a tuple -/
theorem fm_map {α β : Type} {f : α → Option β} {g : α → β} : ∀ {l : List α}, (∀ m ∈ l, f m = some (g m)) → l.filterMap f = l.map g
  | [], _ => rfl
  | a :: l, h => by
    rw [List.filterMap_cons, h a List.mem_cons_self]
    exact congrArg (g a :: ·) (fm_map fun m hm => h m (List.mem_cons_of_mem _ hm))
theorem rev_pick (xs : Array Value) : ((List.range xs.size).filterMap fun (m : Nat) => xs[(((xs.size : Int) - 1) + (m : Int) * (-1)).toNat]?).toArray = xs.toList.reverse.toArray := by
  have e : ((List.range xs.size).filterMap fun (m : Nat) => xs[(((xs.size : Int) - 1) + (m : Int) * (-1)).toNat]?) = xs.toList.reverse := by
    have h : ∀ m ∈ List.range xs.size, (xs[(((xs.size : Int) - 1) + (m : Int) * (-1)).toNat]?) = some (xs.toList.reverse.getD m .none) := by
      intro m hm
      have hm := List.mem_range.mp hm
      have e1 : (((xs.size : Int) - 1) + (m : Int) * (-1)).toNat = xs.size - 1 - m := by omega
      rw [e1, List.getD_eq_getElem?_getD, List.getElem?_reverse (by simpa using hm)]
      rw [Array.getElem?_eq_getElem (by omega), Array.length_toList, List.getElem?_eq_getElem (by rw [Array.length_toList]; omega)]
      rfl
    rw [fm_map h]
    refine List.ext_getElem? fun i => ?_
    rw [List.getElem?_map]
    by_cases hi : i < xs.size
    · rw [List.getElem?_range hi, List.getElem?_eq_getElem (by simpa using hi)]
      simp [List.getElem?_eq_getElem, hi]
    · rw [List.getElem?_eq_none (by simpa using hi), List.getElem?_eq_none (by simpa using hi)]
      rfl
  rw [e]
section
variable {prog : Program} {w : World} {A : Around} {E : Value → Shared → Prop} {s : Shared}
theorem sliceApplied_rev {sl : Addr} {vl vu vs : Value} {n : Nat} {Q : Int × Int × Nat → Shared → Prop} (hs : s.heap.IsSliceOf sl vl vu vs) (pl : IsPart vl none) (pu : IsPart vu none) (ps : IsPart vs (some (-1)))
    (h : Q ((n : Int) - 1, -1, n) s) : wpAny (model prog w) A (Builtin.Slice.sliceApplied (.ref sl) (pure (n : Int))) Q E s := by
  obtain ⟨os, hos, hcs, hds⟩ := id hs
  unfold Builtin.Slice.sliceApplied Builtin.Slice.sliceFields
  refine wpAny_bind (wpAny_bind (wpAny_field hos hds (x := vl) rfl (wpAny_bind (wpAny_field hos hds (x := vu) rfl (wpAny_bind (wpAny_field hos hds (x := vs) rfl (wpAny_pure ?_)))))))
  refine wpAny_bind (HT.slicePart_ ps ?_)
  show wpAny _ _ (if ((-1 : Int) == 0) = true then _ else _) _ _ s
  rw [if_neg (by decide)]
  refine wpAny_bind (HT.slicePart_ pl (wpAny_bind (HT.slicePart_ pu (wpAny_bind (wpAny_pure ?_)))))
  show wpAny _ _ (match Builtin.Slice.sliceAdjust none none (-1) (n : Int) with | (lo, hi) => pure (lo, (-1 : Int), Builtin.Slice.slicePlaces lo hi (-1))) _ _ s
  have e1 : Builtin.Slice.sliceAdjust none none (-1) (n : Int) = ((n : Int) - 1, -1) := rfl
  rw [e1]
  show wpAny _ _ (pure ((n : Int) - 1, (-1 : Int), Builtin.Slice.slicePlaces ((n : Int) - 1) (-1) (-1))) _ _ s
  have e2 : Builtin.Slice.slicePlaces ((n : Int) - 1) (-1) (-1) = n := by
    unfold Builtin.Slice.slicePlaces
    rw [if_neg (by decide)]
    by_cases c : n = 0
    · subst c; rfl
    · rw [if_pos (by omega)]
      show (((n : Int) - 1 - -1 - 1) / 1 + 1).toNat = n
      rw [Int.ediv_one]; omega
  rw [e2]
  exact wpAny_pure h
theorem getItem_tuple_rev {t sl : Addr} {items : Array Value} {vl vu vs : Value} {Q : Value → Shared → Prop} (ht : IsTup s.heap t items) (hs : s.heap.IsSliceOf sl vl vu vs) (pl : IsPart vl none) (pu : IsPart vu none) (ps : IsPart vs (some (-1)))
    (h : Q (.ref s.heap.objs.size) { s with heap := s.heap.push { cls := .type "tuple", data := .seq items.toList.reverse.toArray } })
    (hsz : items.size ≤ sizeLine) : wpAny (model prog w) A (getItem (.ref t) (.ref sl)) Q E s := by
  have htake : sizeOk (.seq items.toList.reverse.toArray) := by
    show items.toList.reverse.toArray.size ≤ sizeLine
    simpa using hsz
  obtain ⟨os, hos, hcs, hds⟩ := id hs
  have hTs : s.TypeIs (.ref sl) "slice" := ⟨os, hos, hcs⟩
  unfold getItem
  try with_reducible refine wpAny_holding ?_
  first | refine wpAny_bind (wpAny_pure ?_) | skip
  refine wpAny_bind (wpAny_sequenceKey ht.typeIs (by decide) ?_)
  refine wpAny_bind (wpAny_callSpecial?_slot (name := Str.ofString "__getitem__") ht.typeIs PyProof.Rows.slot_tuple_getitem
    (wpAny_call_entry PyProof.Rows.slot_tuple_getitem ht.typeIs PyProof.Rows.entry_tuple_getitem ?_ (PyProof.Rows.args_tuple_getitem _ _)))
  show wpAny _ _ (Builtin.Tuple.tupleItemsOf (.ref t) >>= _) _ _ s
  refine wpAny_bind (PyProof.Rows.tupleItemsOf_ ht ?_)
  refine wpAny_bind (wpAny_typeOf hTs ?_)
  rw [if_pos (by decide)]
  refine wpAny_bind (sliceApplied_rev hs pl pu ps ?_)
  have hno : ¬ ((((items.size : Int) - 1) == 0 && (-1 : Int) == 1 && items.size == items.size) = true) := by
    intro q
    rw [Bool.and_eq_true, Bool.and_eq_true] at q
    exact absurd (eq_of_beq q.1.2) (by decide)
  show wpAny _ _ (if (((items.size : Int) - 1) == 0 && (-1 : Int) == 1 && items.size == items.size) = true then _ else _) _ _ s
  rw [if_neg hno, rev_pick]
  first
    | exact wpAny_bind (m := Builtin.Tuple.tupleExact _) (wpAny_newObj_type (wpAny_pure ⟨_, rfl, wpAny_pure h⟩) htake)
    | exact wpAny_bind (m := Builtin.Tuple.tupleExact _) (wpAny_newObj_type (wpAny_bind (wpAny_pure (wpAny_pure ⟨_, rfl, wpAny_pure h⟩))) htake)
    | exact wpAny_bind (wpAny_bind (m := Builtin.Tuple.tupleExact _) (wpAny_newObj_type (wpAny_pure (wpAny_pure ⟨_, rfl, wpAny_pure h⟩)) htake))
    | exact wpAny_bind (wpAny_bind (m := Builtin.Tuple.tupleExact _) (wpAny_newObj_type (wpAny_pure ⟨_, rfl, wpAny_pure h⟩) htake))
end
section
variable {X : Cx}
def tRevT (K : PySem.W.Frag) (te : TE) : TE := fun σ H Q => te σ H fun x H1 => ∃ a xs, x = .ref a ∧ SqT K H1 a xs ∧ ∀ p H2, Same H1 H2 → H1 p = none → H2 p = some (.tup xs.reverse) → Q (.ref p) H2
theorem pe_revT {e : Expr} {te : TE} {k : Nat} {p1 p2 p3 pos : Pos} (he : PE X e te) : PE X (.Subscript e (.Slice none none (some (.UnaryOp .USub (.Constant (.int 1) k p1) p2)) p3) pos) (tRevT X.K te) := by
  refine ⟨fun pins s σ H Q I h => ?_⟩
  refine Subscript_ (thn (he.run pins s σ H _ I h) fun v s1 ⟨x, H1, I1, r1, q1⟩ => ?_)
  obtain ⟨a, xs, ex, hx, q⟩ := q1
  subst ex
  cases r1
  have hst : PO X (some (.UnaryOp .USub (.Constant (.int 1) k p1) p2)) (tPart (tUn (rU fun i => .int (-i)) (tC (.int 1)))) := po_some (pe_un un_neg pe_int)
  refine wpAny_Slice (thn (po_none.run pins s1 σ H1 (fun o H2 => o = none ∧ H2 = H1) I1 ⟨rfl, rfl⟩) fun vl s2 ⟨l, H2, I2, pl, el, e2⟩ => ?_)
  subst el e2
  refine thn (po_none.run pins s2 σ H2 (fun o H3 => o = none ∧ H3 = H2) I2 ⟨rfl, rfl⟩) fun vu s3 ⟨u, H3, I3, pu, eu, e3⟩ => ?_
  subst eu e3
  refine thn (hst.run pins s3 σ H3 (fun o H4 => o = some (-1) ∧ H4 = H3) I3 ⟨1, rfl, -1, rfl, rfl, rfl⟩) fun vs s4 ⟨o, H4, I4, ps, eo, e4⟩ => ?_
  subst eo e4
  have I5 : Inv X pins σ H4 { s4 with heap := s4.heap.push { cls := .type "slice", data := .fields #[vl, vu, vs] } } := I4.kept (t' := s4.toks) fun b ob q => Heap.get?_push_of_some _ q
  obtain ⟨its, r, ht, hz⟩ := I5.tuple hx
  have hlen := r.length
  show wpAny (model X.prog X.w) X.A (subscriptTail e (.Slice none none (some (.UnaryOp .USub (.Constant (.int 1) k p1) p2)) p3) (.ref a) (.ref s4.heap.objs.size)) (EP X pins σ Q) X.xe { s4 with heap := s4.heap.push { cls := .type "slice", data := .fields #[vl, vu, vs] } }
  refine tail_any (ops := [.ref a, .ref s4.heap.objs.size]) ht.typeIs (PyProof.Rows.slot_tuple_getitem.lookup) ?_ (by with_unfolding_all rfl)
  refine getItem_tuple_rev ht (Heap.IsSliceOf.new _ vl vu vs) pl pu ps ?_ (by rw [List.size_toArray]; omega)
  refine ⟨.ref _, _, I5.laid (t' := s4.toks) (o := .tup xs.reverse) (fun b ob q => Heap.get?_push_of_some _ q) (Nat.le_refl _) ?_, rfl, q _ _ (same_upd (I5.hok.fresh (Nat.le_refl _))) (I5.hok.fresh (Nat.le_refl _)) upd_same⟩
  exact ⟨by rw [List.length_reverse]; exact hz, _, r.reverse, IsTup.new _ _⟩
end
end LK
namespace LK
open PySem PySem.Spec PyProof.Rows L2
/-! ### d.get(k) of a written dict with text keys -/
section
variable {X : Cx} {d : Addr} {es : Array DictEntry} {n : Nat} {o e : Expr} {apos cpos : Pos} {td ty : TE}
def tWget (K : PySem.W.Frag) (d : Addr) (td ty : TE) : TE := fun σ H Q => td σ H fun x H1 => x = .ref d ∧ ty σ H1 fun y H2 => ∃ (z : Str) (r : Option Value) (v : V), y = .str z ∧ PySem.W.nsIn K d z = some r ∧ RelV v (r.getD .none) ∧ Q v H2
theorem pe_wget (D : KDict X.K X.w d es n) (ho : PE X o td) (he : PE X e ty) (hbase : attributeBase o "get" X.env (eval o X.env) = eval o X.env := by rfl)
    (hfew : ((backTo cpos (starEach [e] X.env)).all (fun x => !x.1) && (backToKw cpos (keywordEach [] X.env)).all (fun x => x.1.isSome)
    && decide (([e] : List Expr).length + ([] : List Keyword).length + (if ([] : List Keyword).isEmpty then 0 else 1) < 30)) = true := by rfl)
    (hline : (apos.endLine == cpos.line) = true := by rfl) (htr : backTo cpos (starEach [e] X.env) = [(false, eval e X.env)] := by rfl) : PE X (.Call (.Attribute o "get" apos) [e] [] cpos) (tWget X.K d td ty) := by
  refine ⟨fun pins s σ H Q I h => ?_⟩
  refine wpAny_Call_method hbase hfew hline PySem.F.plainAttrs_dict PySem.F.slot_dict_get PySem.F.type_dict_get (thn (ho.run pins s σ H _ I h) fun u s1 ⟨x, H1, I1, rx, ex, q1⟩ => ?_)
  subst ex
  obtain rfl : u = Value.ref d := rx
  have ob := I1.kIn _ _ D.at_
  refine ⟨kd_type D I1, fun b q => ?_, ?_⟩
  · cases q
    exact ⟨_, ob, rfl⟩
  rw [htr]
  refine Calls.callWith_builtin rfl (Calls.evalArgs_plain (Calls.spliced_cons (thn (he.run pins s1 σ H1 _ I1 q1) fun iv s2 ⟨y, H2, I2, ry, z, r, v, ey, hn, rv, q2⟩ => Calls.spliced_nil ?_)))
  subst ey
  obtain ⟨t, rfl⟩ := ry
  refine call_meetsIn PySem.F.slot_dict_get (kd_type D I2) PySem.F.entry_dict_get (PySem.F.args_dict_get_2 _ _) (meets_dict_get (strKind X.prog X.w) d (PySem.strKind_is X.prog X.w z t) D.low)
    ⟨_, PySem.W.mapOf_K (prog := X.prog) I2.kIn D.at_ D.lit, v, H2, I2.tok _, ?_, q2⟩
  rw [PySem.W.find_K D.at_ hn]
  exact rv
end
end LK
namespace LK
open PySem PySem.Spec PyProof.Rows L2
/-! ### comprehensions without tests -/
/-- what is new since H -/
def nw (H H' : Hp) : Hp := fun a => if H a = none then H' a else none
theorem nw_some {H H' : Hp} {a : Addr} {o : HO} (h : nw H H' a = some o) : H a = none ∧ H' a = some o := by
  unfold nw at h
  split at h
  · exact ⟨by assumption, h⟩
  · cases h
theorem nw_of {H H' : Hp} {a : Addr} {o : HO} (h0 : H a = none) (h : H' a = some o) : nw H H' a = some o := by
  unfold nw
  rw [if_pos h0]; exact h
theorem nw_le (H H' : Hp) : Same (nw H H') H' := fun _ _ h => (nw_some h).2
theorem nw_hb {H H' : Hp} {b : Addr} {o : HO} (h : H b = some o) : Same (nw H H') (hb H' b) := fun a u e => by
  obtain ⟨h1, h2⟩ := nw_some e
  have n : a ≠ b := fun q => by rw [q, h] at h1; cases h1
  rw [hb_ne n]; exact h2
/-- new since a later heap is new since an earlier one -/
theorem nw_anti {H0 H H' : Hp} (d : ∀ a, H a = none → H0 a = none) : Same (nw H H') (nw H0 H') := fun a u e => by
  obtain ⟨h1, h2⟩ := nw_some e
  exact nw_of (d a h1) h2
theorem nw_same {H H' H'' : Hp} (s : ∀ a o, H a = none → H' a = some o → H'' a = some o) : Same (nw H H') (nw H H'') := fun a u e => by
  obtain ⟨h1, h2⟩ := nw_some e
  exact nw_of h1 (s _ _ h1 h2)
theorem Kp.dom {b : Addr} {H H' : Hp} {o : HO} (k : Kp b H H') (hb' : H' b = some o) : ∀ a, H' a = none → H a = none := fun a h => by
  cases q : H a with
  | none => rfl
  | some u =>
    by_cases e : a = b
    · subst e; rw [hb'] at h; cases h
    · rw [k.hd q e] at h; cases h
theorem Same.dom {H H' : Hp} (k : Same H H') : ∀ a, H' a = none → H a = none := fun a h => k.free h

/-- a pure one -/
theorem lc_pure {J : It} {n : Nat} {G : Hp → Prop} {Y : Nat → Hp → V → Hp → Prop} (w : Walk J n G Y) {g : TG} {te : TE} {vs : List Nat} {σ : L2.St} {H1 : Hp} {D : Addr} {Qd : Hp → Prop} (hD : H1 D = none) (hn : n ≤ 1000000) (y : Nat → V)
    (hG : ∀ H, Same H1 H → G H)
    (hs : ∀ i x H H', i < n → Same H1 H → Y i H x H' → g x (wipe σ vs) H' fun σ2 H2 => Same H H2 ∧ wipe σ2 vs = wipe σ vs ∧ ∀ Q2 : V → Hp → Prop, (∀ H3, Same H2 H3 → Q2 (y i) H3) → te σ2 H2 Q2)
    (gm : ∀ x σ0 H0 Q0 Q1, (∀ σ2 H2, Q0 σ2 H2 → Q1 σ2 H2) → g x σ0 H0 Q0 → g x σ0 H0 Q1)
    (hq : ∀ H', Same H1 H' → H' D = some (.lst ((List.range n).map y)) → Qd H') :
    ∃ W : Nat → Nat → Hp → Prop, (∃ m, W 0 m (upd H1 D (.lst []))) ∧ ∀ i m H, W i m H →
      (J.stop i H ∧ Qd H) ∨ (J.go i H ∧ ∃ Nx : Hp → Prop, (∀ H', Nx H' → ∃ m', m' < m ∧ W (i + 1) m' H') ∧ ∀ x H', J.yld i H x H' → g x (wipe σ vs) H' fun σ2 H2 => wipe σ2 vs = wipe σ vs ∧ tYes σ2 H2 fun b H3 =>
        if b = true then te σ2 H3 fun y H4 => ∃ acc, H4 D = some (.lst acc) ∧ acc.length < sizeLine ∧ Nx (upd H4 D (.lst (acc ++ [y]))) else Nx H3) := by
  have up : ∀ {H : Hp} {o : HO}, Same H1 H → Same H1 (upd H D o) := fun s a u e => by
    rw [upd_ne (ne_of_none e hD)]; exact s _ _ e
  refine lc_it w (fun i H => Same H1 H ∧ H D = some (.lst ((List.range i).map y))) ⟨up (Same.refl _), upd_same⟩ (fun i H _ h => hG H h.1) (fun i x H H' hi ⟨s1, h1⟩ hY => ?_) (fun H h => hq H h.1 h.2)
  refine gm _ _ _ _ _ (fun σ2 H2 ⟨s2, e2, k⟩ => ⟨e2, ?_⟩) (hs i x H H' hi s1 hY)
  simp only [tYes, eq_self, ite_true]
  refine k _ fun H3 s3 => ⟨_, s3 _ _ (s2 _ _ h1), ?_, up (Same.trans (Same.trans s1 s2) s3), ?_⟩
  · rw [List.length_map, List.length_range]
    exact Nat.lt_of_lt_of_le (Nat.lt_of_lt_of_le hi hn) (by decide)
  · rw [upd_same, List.range_succ, List.map_append]
    rfl
/-- one that draws from a bag -/
theorem lc_bag {J : It} {n k N : Nat} {G : Hp → Prop} {Y : Nat → Hp → V → Hp → Prop} (w : Walk J n G Y) {g : TG} {te : TE} {vs : List Nat} {σ : L2.St} {H1 : Hp} {D b c : Addr} {Qd : Hp → Prop} (hD : H1 D = none) (hB : Bag (N + n * k) H1 b c) (hn : n ≤ 1000000) (Φ : Hp → V → Prop) (mono : ∀ G G' v, Same G G' → Φ G v → Φ G' v)
    (hG : ∀ H, Kp b H1 H → G H)
    (hs : ∀ i x H H' M, i < n → Kp b H1 H → Bag (M + k) H b c → Y i H x H' → g x (wipe σ vs) H' fun σ2 H2 => Same H H2 ∧ wipe σ2 vs = wipe σ vs ∧ ∀ Q2 : V → Hp → Prop, (∀ v H3, Bag M H3 b c → Kp b H2 H3 → Φ (nw H2 H3) v → Q2 v H3) → te σ2 H2 Q2)
    (gm : ∀ x σ0 H0 Q0 Q1, (∀ σ2 H2, Q0 σ2 H2 → Q1 σ2 H2) → g x σ0 H0 Q0 → g x σ0 H0 Q1)
    (hq : ∀ H' ys, Bag N H' b c → Kp b H1 H' → H' D = some (.lst ys) → ys.length = n → (∀ v ∈ ys, Φ (nw (upd H1 D (.lst [])) H') v) → Qd H') :
    ∃ W : Nat → Nat → Hp → Prop, (∃ m, W 0 m (upd H1 D (.lst []))) ∧ ∀ i m H, W i m H →
      (J.stop i H ∧ Qd H) ∨ (J.go i H ∧ ∃ Nx : Hp → Prop, (∀ H', Nx H' → ∃ m', m' < m ∧ W (i + 1) m' H') ∧ ∀ x H', J.yld i H x H' → g x (wipe σ vs) H' fun σ2 H2 => wipe σ2 vs = wipe σ vs ∧ tYes σ2 H2 fun b H3 =>
        if b = true then te σ2 H3 fun y H4 => ∃ acc, H4 D = some (.lst acc) ∧ acc.length < sizeLine ∧ Nx (upd H4 D (.lst (acc ++ [y]))) else Nx H3) := by
  obtain ⟨xb, eb⟩ := hB.at
  obtain ⟨xc, ec⟩ := hB.at2
  have nbD : b ≠ D := fun e => by rw [← e, eb] at hD; cases hD
  have ncD : c ≠ D := fun e => by rw [← e, ec] at hD; cases hD
  have up : ∀ {H : Hp} {o : HO}, Kp b H1 H → Kp b H1 (upd H D o) := fun s a u e => by
    obtain ⟨h1, h2⟩ := hb_some e
    rw [hb_ne h1, upd_ne (ne_of_none h2 hD)]
    exact s.hd h2 h1
  refine lc_it w (fun i H => Kp b H1 H ∧ Bag (N + (n - i) * k) H b c ∧ ∃ ys, H D = some (.lst ys) ∧ ys.length = i ∧ ∀ v ∈ ys, Φ (nw (upd H1 D (.lst [])) H) v) ⟨up (Kp.refl _ _), hB.upd nbD ncD, [], upd_same, rfl, fun v hv => absurd hv (by simp)⟩ (fun i H _ h => hG H h.1) (fun i x H H' hi ⟨s1, B1, ys, h1, hl, hp⟩ hY => ?_) (fun H ⟨s1, B1, ys, h1, hl, hp⟩ => hq H ys (B1.le (Nat.le_add_right _ _)) s1 h1 hl hp)
  refine gm _ _ _ _ _ (fun σ2 H2 ⟨s2, e2, kq⟩ => ⟨e2, ?_⟩) (hs i x H H' (N + (n - (i + 1)) * k) hi s1 (B1.le (by
    have e : n - i = (n - (i + 1)) + 1 := by omega
    rw [e, Nat.add_mul, Nat.one_mul, Nat.add_assoc]; exact Nat.le_refl _)) hY)
  simp only [tYes, eq_self, ite_true]
  have B2 := B1.same s2
  refine kq _ fun v H3 B3 k3 hv => ⟨ys, k3.hd (s2 _ _ h1) nbD.symm, ?_, up (Same.trans (Same.trans s1 (Kp.of s2)) k3), B3.upd nbD ncD, ys ++ [v], upd_same, by rw [List.length_append, hl]; rfl, fun u hu => ?_⟩
  · rw [hl]
    exact Nat.lt_of_lt_of_le (Nat.lt_of_lt_of_le hi hn) (by decide)
  · have kk : ∀ a o, upd H1 D (.lst []) a = none → H3 a = some o → upd H3 D (.lst (ys ++ [v])) a = some o := fun a o q e => by
      have n : a ≠ D := fun z => by rw [z, upd_same] at q; cases q
      rw [upd_ne n]; exact e
    rcases List.mem_append.mp hu with hu | hu
    · refine mono _ _ _ (fun a o e => ?_) (hp u hu)
      obtain ⟨q1, q2⟩ := nw_some e
      have n : a ≠ b := fun z => by rw [z, upd_ne nbD, eb] at q1; cases q1
      exact nw_of q1 (kk _ _ q1 (k3.hd (s2 _ _ q2) n))
    · obtain rfl : u = v := by simpa using hu
      refine mono _ _ _ (fun a o e => ?_) hv
      obtain ⟨q1, q2⟩ := nw_some e
      have d1 : upd H1 D (.lst []) a = none := by
        by_cases n : a = D
        · rw [n, s2 _ _ h1] at q1; cases q1
        · rw [upd_ne n]
          exact Kp.dom (Same.trans s1 (Kp.of s2)) (B2.at.choose_spec) a q1
      exact nw_of d1 (kk _ _ d1 q2)
end LK
namespace LK
open PySem PySem.Spec PyProof.Rows L2
theorem cutV_take (xs : List V) (k : Nat) : cutV xs none (some (k : Int)) = xs.take k := by
  unfold cutV HT.sIx
  simp only [List.drop_zero, Nat.sub_zero]
  by_cases h : (k : Int) < 0
  · omega
  · rw [if_neg h]
    have e : ((k : Int)).toNat = k := Int.toNat_natCast k
    by_cases c : k ≤ xs.length
    · congr 1
      omega
    · rw [List.take_of_length_le (by omega), List.take_of_length_le (by omega)]
theorem cutV_drop (xs : List V) (k : Nat) : cutV xs (some (k : Int)) none = xs.drop k := by
  unfold cutV
  rw [HT.sIx_nat, HT.sIx_none]
  by_cases c : k ≤ xs.length
  · rw [Nat.min_eq_left c, List.take_of_length_le (by simp)]
  · rw [Nat.min_eq_right (by omega), List.drop_eq_nil_of_le (by omega), List.drop_eq_nil_of_le (by omega)]
    simp
end LK
namespace LK
open PySem PySem.Spec PyProof.Rows L2
/-! ### new objects, the heap behind them by a name -/
section
variable {X : Cx} {es : List Expr} {t : TA} {pos : Pos}
def tTupU (t : TA) : TE := fun σ H Q => t σ H fun xs H1 => xs.length ≤ sizeLine ∧ ∀ p H2, Same H1 H2 → H1 p = none → H2 p = some (.tup xs) → Q (.ref p) H2
def tLstU (t : TA) : TE := fun σ H Q => t σ H fun xs H1 => xs.length ≤ sizeLine ∧ ∀ p H2, Same H1 H2 → H1 p = none → H2 p = some (.lst xs) → Q (.ref p) H2
theorem pe_tupU {x1} (h : PA X es t) : PE X (.Tuple es x1 pos) (tTupU t) := by
  refine ⟨fun pins s σ H Q I hq => ?_⟩
  refine wpAny_Tuple_spliced (thn (h.run pos pins s σ H _ I hq) fun us s1 ⟨xs, H1, I1, r, z, q⟩ => ⟨by rw [← r.length]; exact z, ?_⟩)
  have hf : H1 s1.heap.objs.size = none := I1.hok.fresh (Nat.le_refl _)
  refine ⟨.ref s1.heap.objs.size, L2.upd H1 s1.heap.objs.size (.tup xs), I1.laid (t' := s1.toks) (fun b u e => Heap.get?_push_of_some _ e) (Nat.le_refl _) ?_, rfl, q _ _ (same_upd hf) hf upd_same⟩
  exact ⟨z, us, r, ⟨_, Heap.get?_push_size _ rfl, rfl, _, rfl⟩⟩
theorem pe_lstU (h : PA X es t) : PE X (.List es pos) (tLstU t) := by
  refine ⟨fun pins s σ H Q I hq => ?_⟩
  refine wpAny_List_spliced (thn (h.run pos pins s σ H _ I hq) fun us s1 ⟨xs, H1, I1, r, z, q⟩ => ⟨by rw [← r.length]; exact z, ?_⟩)
  have hf : H1 s1.heap.objs.size = none := I1.hok.fresh (Nat.le_refl _)
  refine ⟨.ref s1.heap.objs.size, L2.upd H1 s1.heap.objs.size (.lst xs), I1.laid (t' := s1.toks) (fun b u e => Heap.get?_push_of_some _ e) (Nat.le_refl _) ?_, rfl, q _ _ (same_upd hf) hf upd_same⟩
  exact ⟨z, us, 0, r, Heap.get?_push_size _ rfl⟩
def rSlLU (K : PySem.W.Frag) : V → Option Int → Option Int → Hp → VK → Prop := fun x lo hi H Q => ∃ a xs, x = .ref a ∧ SqL K H a xs ∧ ∀ p H2, Same H H2 → H p = none → H2 p = some (.lst (cutV xs lo hi)) → Q (.ref p) H2
theorem sl_listU : SlR X (rSlLU X.K) := by
  intro pins s σ H x v vl vu lo hi sl Q I rx hs pl pu h
  obtain ⟨a, xs, rfl, hx, q⟩ := h
  exact sl_list pins s σ H _ v vl vu lo hi sl Q I rx hs pl pu ⟨a, xs, rfl, hx, fun p hp => q p _ (same_upd hp) hp upd_same⟩
theorem call_listU : CallR X (.type "list") (fun xs H Q => ∃ p ys, xs = [.ref p] ∧ (SqL X.K H p ys ∨ SqT X.K H p ys) ∧ ∀ l H2, Same H H2 → H l = none → H2 l = some (.lst ys) → Q (.ref l) H2) := cr_imp call_list_of fun xs H Q h => by
  obtain ⟨p, ys, rfl, h, q⟩ := h
  exact ⟨p, ys, rfl, h, fun l hl => q l _ (same_upd hl) hl upd_same⟩
def rCatL : R2 := fun x y H Q => ∃ l b xs zs, x = .ref l ∧ y = .ref b ∧ H l = some (.lst xs) ∧ H b = some (.lst zs) ∧ xs.length + zs.length ≤ sizeLine ∧ ∀ p H2, Same H H2 → H p = none → H2 p = some (.lst (xs ++ zs)) → Q (.ref p) H2
theorem op_catL : OpR X (binaryOp .Add) rCatL := opr_imp op_cat fun x y H Q h => by
  obtain ⟨l, b, xs, zs, rfl, rfl, h1, h2, hz, q⟩ := h
  exact ⟨l, b, xs, zs, rfl, rfl, h1, h2, hz, fun p hp => q p _ (same_upd hp) hp upd_same⟩
def rRepL : R2 := fun x y H Q => ∃ l k xs, x = .ref l ∧ y = .int k ∧ H l = some (.lst xs) ∧ -(2 ^ 63) ≤ k ∧ k < 2 ^ 63 ∧ xs.length * k.toNat ≤ sizeLine ∧ ∀ p H2, Same H H2 → H p = none → H2 p = some (.lst (List.replicate k.toNat xs).flatten) → Q (.ref p) H2
theorem op_repL : OpR X (binaryOp .Mult) rRepL := opr_imp op_rep fun x y H Q h => by
  obtain ⟨l, k, xs, rfl, rfl, h1, h2, h3, hz, q⟩ := h
  exact ⟨l, k, xs, rfl, rfl, h1, h2, h3, hz, fun p hp => q p _ (same_upd hp) hp upd_same⟩
end
end LK
namespace LK
open PySem PySem.Spec PyProof.Rows L2
/-- [f(x) for x in ..], the items known -/
theorem lc_map {J : It} {n : Nat} {G : Hp → Prop} {Y : Nat → Hp → V → Hp → Prop} (w : Walk J n G Y) {te : TE} {i : Nat} {σ : L2.St} {H1 : Hp} {D : Addr} {Qd : Hp → Prop} (xs : List V) (f : V → V) (hD : H1 D = none) (hn : n ≤ 1000000) (hx : xs.length = n)
    (hY : ∀ k H x H', k < n → Y k H x H' → H' = H ∧ xs[k]? = some x) (hG : ∀ H, Same H1 H → G H)
    (hs : ∀ x H, x ∈ xs → Same H1 H → ∀ Q2 : V → Hp → Prop, (∀ H3, Same H H3 → Q2 (f x) H3) → te ((wipe σ [i]).set i (some x)) H Q2)
    (hq : ∀ H', Same H1 H' → H' D = some (.lst (xs.map f)) → Qd H') :
    ∃ W : Nat → Nat → Hp → Prop, (∃ m, W 0 m (L2.upd H1 D (.lst []))) ∧ ∀ i' m H, W i' m H →
      (J.stop i' H ∧ Qd H) ∨ (J.go i' H ∧ ∃ Nx : Hp → Prop, (∀ H', Nx H' → ∃ m', m' < m ∧ W (i' + 1) m' H') ∧ ∀ x H', J.yld i' H x H' → gName i x (wipe σ [i]) H' fun σ2 H2 => wipe σ2 [i] = wipe σ [i] ∧ tYes σ2 H2 fun b H3 =>
        if b = true then te σ2 H3 fun y H4 => ∃ acc, H4 D = some (.lst acc) ∧ acc.length < sizeLine ∧ Nx (L2.upd H4 D (.lst (acc ++ [y]))) else Nx H3) := by
  have e : (List.range n).map (fun k => f (xs.getD k .non)) = xs.map f := by
    refine List.ext_getElem? fun k => ?_
    rw [List.getElem?_map, List.getElem?_map]
    by_cases hk : k < n
    · rw [List.getElem?_range hk, List.getElem?_eq_getElem (by omega)]
      simp [List.getD_eq_getElem?_getD, List.getElem?_eq_getElem (show k < xs.length by omega)]
    · rw [List.getElem?_eq_none (by simpa using hk), List.getElem?_eq_none (by omega)]
      rfl
  refine lc_pure w hD hn (fun k => f (xs.getD k .non)) hG (fun k x H H' hk s1 y => ?_) (fun x σ0 H0 Q0 Q1 h q => h _ _ q) (fun H' s h => hq H' s (by rw [← e]; exact h))
  obtain ⟨rfl, hx2⟩ := hY _ _ _ _ hk y
  refine ⟨Same.refl _, ?_, fun Q2 h2 => hs x H' (List.mem_of_getElem? hx2) s1 Q2 fun H3 s3 => ?_⟩
  · show ((σ.set i none).set i (some x)).set i none = σ.set i none
    rw [List.set_set, List.set_set]
  · have e2 : xs.getD k .non = x := by rw [List.getD_eq_getElem?_getD, hx2]; rfl
    have := h2 H3 s3
    rw [e2] at this
    exact this
/-- the same, drawing from a bag -/
theorem lc_draw {J : It} {n k N : Nat} {G : Hp → Prop} {Y : Nat → Hp → V → Hp → Prop} (w : Walk J n G Y) {te : TE} {i : Nat} {σ : L2.St} {H1 : Hp} {D b c : Addr} {Qd : Hp → Prop} (Φ : Hp → V → Prop) (mono : ∀ G G' v, Same G G' → Φ G v → Φ G' v) (hD : H1 D = none) (hB : Bag (N + n * k) H1 b c) (hn : n ≤ 1000000)
    (hY : ∀ k H x H', Y k H x H' → H' = H) (hG : ∀ H, Kp b H1 H → G H)
    (hs : ∀ x H M, Kp b H1 H → Bag (M + k) H b c → ∀ Q2 : V → Hp → Prop, (∀ v H3, Bag M H3 b c → Kp b H H3 → Φ (nw H H3) v → Q2 v H3) → te ((wipe σ [i]).set i (some x)) H Q2)
    (hq : ∀ H' ys, Bag N H' b c → Kp b H1 H' → H' D = some (.lst ys) → ys.length = n → (∀ v ∈ ys, Φ (nw (L2.upd H1 D (.lst [])) H') v) → Qd H') :
    ∃ W : Nat → Nat → Hp → Prop, (∃ m, W 0 m (L2.upd H1 D (.lst []))) ∧ ∀ i' m H, W i' m H →
      (J.stop i' H ∧ Qd H) ∨ (J.go i' H ∧ ∃ Nx : Hp → Prop, (∀ H', Nx H' → ∃ m', m' < m ∧ W (i' + 1) m' H') ∧ ∀ x H', J.yld i' H x H' → gName i x (wipe σ [i]) H' fun σ2 H2 => wipe σ2 [i] = wipe σ [i] ∧ tYes σ2 H2 fun b H3 =>
        if b = true then te σ2 H3 fun y H4 => ∃ acc, H4 D = some (.lst acc) ∧ acc.length < sizeLine ∧ Nx (L2.upd H4 D (.lst (acc ++ [y]))) else Nx H3) := by
  refine lc_bag w hD hB hn Φ mono hG (fun j x H H' M hk s1 B1 y => ?_) (fun x σ0 H0 Q0 Q1 h q => h _ _ q) hq
  have e := hY _ _ _ _ y
  subst e
  refine ⟨Same.refl _, ?_, fun Q2 h2 => hs x H' M s1 B1 Q2 h2⟩
  show ((σ.set i none).set i (some x)).set i none = σ.set i none
  rw [List.set_set, List.set_set]
def signsV (z : Str) : List V := z.cps.toList.map fun c => V.str ⟨#[c]⟩
theorem signsV_at {z : Str} : ∀ (k : Nat) (H : Hp) (x : V) (H' : Hp), (H' = H ∧ ∃ c, z.cps[k]? = some c ∧ x = V.str ⟨#[c]⟩) → H' = H ∧ (signsV z)[k]? = some x := by
  rintro k H x H' ⟨rfl, c, h, rfl⟩
  refine ⟨rfl, ?_⟩
  unfold signsV
  rw [List.getElem?_map, Array.getElem?_toList, h]
  rfl
theorem signsV_length (z : Str) : (signsV z).length = z.cps.size := by simp [signsV]
theorem all_map_id {α : Type} (p : α → Bool) (l : List α) : (l.map p).all id = l.all p := by
  rw [List.all_map]; rfl
end LK
namespace LK
open PySem PySem.Spec PyProof.Rows L2
/-- [p(c) for c in z], z a text -/
theorem lc_signs {z : Str} {te : TE} {i : Nat} {σ : L2.St} {H1 : Hp} {D : Addr} {Qd : Hp → Prop} (p : Nat → Bool) (hD : H1 D = none) (hz : z.length ≤ 1000000)
    (hs : ∀ c H, c ∈ z.cps.toList → Same H1 H → ∀ Q2 : V → Hp → Prop, (∀ H3, Same H H3 → Q2 (.bl (p c)) H3) → te ((wipe σ [i]).set i (some (.str ⟨#[c]⟩))) H Q2)
    (hq : ∀ H', Same H1 H' → H' D = some (.lst ((z.cps.toList.map p).map V.bl)) → Qd H') :
    ∃ W : Nat → Nat → Hp → Prop, (∃ m, W 0 m (L2.upd H1 D (.lst []))) ∧ ∀ i' m H, W i' m H →
      ((Its z).stop i' H ∧ Qd H) ∨ ((Its z).go i' H ∧ ∃ Nx : Hp → Prop, (∀ H', Nx H' → ∃ m', m' < m ∧ W (i' + 1) m' H') ∧ ∀ x H', (Its z).yld i' H x H' → gName i x (wipe σ [i]) H' fun σ2 H2 => wipe σ2 [i] = wipe σ [i] ∧ tYes σ2 H2 fun b H3 =>
        if b = true then te σ2 H3 fun y H4 => ∃ acc, H4 D = some (.lst acc) ∧ acc.length < sizeLine ∧ Nx (L2.upd H4 D (.lst (acc ++ [y]))) else Nx H3) := by
  refine lc_map walk_str (signsV z) (fun v => match v with | .str y => .bl (p (y.cps.toList.headD 0)) | _ => .non) hD hz (signsV_length z) (fun k H x H' _ y => signsV_at k H x H' y) (fun _ _ => trivial) (fun x H hx s1 Q2 h2 => ?_) (fun H' s h => hq H' s ?_)
  · obtain ⟨c, hc, rfl⟩ := List.mem_map.mp hx
    exact hs c H hc s1 Q2 h2
  · rw [h]
    unfold signsV
    rw [List.map_map, List.map_map]
    rfl
theorem starts_minus {z : Str} (h : Txt.startswith z "-" = true) : ∃ r, z.cps.toList = 45 :: r := by
  have h2 : PySem.StrLaws.At z "-" z.length 0 := by
    unfold Txt.startswith at h
    rw [Bool.and_eq_true] at h
    exact ⟨of_decide_eq_true h.1, h.2⟩
  have e : TL.tl "-" = [45] := by decide +kernel
  have q := (TL.at_iff (by rw [e]; simp) 0).mp h2
  rw [e, List.drop_zero] at q
  unfold TL.pre at q
  have q2 : z.cps.toList.take 1 = [45] := eq_of_beq q
  cases hz : z.cps.toList with
  | nil => rw [hz] at q2; simp at q2
  | cons c r => rw [hz] at q2; simp at q2; rw [q2]; exact ⟨r, rfl⟩
theorem cutS_tail (z : Str) : (cutS z (some 1) none).cps.toList = z.cps.toList.drop 1 := by
  unfold cutS
  have e1 := HT.sIx_nat z.length 0 1
  have l : z.length = z.cps.toList.length := by rw [Array.length_toList]; rfl
  show ((z.cps.toList.drop (HT.sIx z.length 0 (some ((1 : Nat) : Int)))).take (HT.sIx z.length z.length none - HT.sIx z.length 0 (some ((1 : Nat) : Int)))) = _
  rw [e1, HT.sIx_none]
  by_cases c : 1 ≤ z.length
  · rw [Nat.min_eq_left c, List.take_of_length_le (by rw [List.length_drop]; omega)]
  · rw [List.drop_eq_nil_of_le (by omega), List.drop_eq_nil_of_le (by omega)]
    simp
theorem len_cps (z : Str) : z.cps.toList.length = z.length := by rw [Array.length_toList]; rfl
end LK
namespace LK
theorem iteTT {c A B : Prop} [Decidable c] (hc : c) (h : A) : if c then A else B := by rw [if_pos hc]; exact h
theorem iteFF {c A B : Prop} [Decidable c] (hc : ¬ c) (h : B) : if c then A else B := by rw [if_neg hc]; exact h
end LK
namespace LK
open PySem PySem.Spec PyProof.Rows L2
theorem str_append (a b : Str) : (a ++ b).cps.toList = a.cps.toList ++ b.cps.toList := by
  show (a.cps ++ b.cps).toList = _
  exact Array.toList_append
theorem str_append_len (a b : Str) : (a ++ b).length = a.length + b.length := by
  rw [← len_cps, str_append, List.length_append, len_cps, len_cps]
theorem cutS_tail_len (z : Str) : (cutS z (some 1) none).length = z.length - 1 := by
  rw [← len_cps, cutS_tail, List.length_drop, len_cps]
theorem cutS_len (z : Str) (lo hi : Option Int) : (cutS z lo hi).length ≤ z.length := by
  rw [← len_cps, ← len_cps z]
  unfold cutS
  show (List.take _ (List.drop _ _)).length ≤ _
  rw [List.length_take, List.length_drop]
  omega
end LK
namespace LK
open PySem PySem.Spec PyProof.Rows L2
/-- [f(k) for k in range(n)] -/
theorem lc_rng {lo : Int} {n : Nat} {te : TE} {i : Nat} {σ : L2.St} {H1 : Hp} {D : Addr} {Qd : Hp → Prop} (f : Int → V) (hD : H1 D = none) (hn : n ≤ 1000000)
    (hs : ∀ (k : Nat) H, k < n → Same H1 H → ∀ Q2 : V → Hp → Prop, (∀ H3, Same H H3 → Q2 (f (lo + (k : Int))) H3) → te ((wipe σ [i]).set i (some (.int (lo + (k : Int))))) H Q2)
    (hq : ∀ H', Same H1 H' → H' D = some (.lst ((List.range n).map fun (k : Nat) => f (lo + (k : Int)))) → Qd H') :
    ∃ W : Nat → Nat → Hp → Prop, (∃ m, W 0 m (L2.upd H1 D (.lst []))) ∧ ∀ i' m H, W i' m H →
      ((Itr lo n).stop i' H ∧ Qd H) ∨ ((Itr lo n).go i' H ∧ ∃ Nx : Hp → Prop, (∀ H', Nx H' → ∃ m', m' < m ∧ W (i' + 1) m' H') ∧ ∀ x H', (Itr lo n).yld i' H x H' → gName i x (wipe σ [i]) H' fun σ2 H2 => wipe σ2 [i] = wipe σ [i] ∧ tYes σ2 H2 fun b H3 =>
        if b = true then te σ2 H3 fun y H4 => ∃ acc, H4 D = some (.lst acc) ∧ acc.length < sizeLine ∧ Nx (L2.upd H4 D (.lst (acc ++ [y]))) else Nx H3) := by
  refine lc_map walk_range ((List.range n).map fun (k : Nat) => V.int (lo + (k : Int))) (fun v => match v with | .int j => f j | _ => .non) hD hn (by rw [List.length_map, List.length_range]) (fun k H x H' hk y => ?_) (fun _ _ => trivial) (fun x H hx s1 Q2 h2 => ?_) (fun H' s h => hq H' s ?_)
  · refine ⟨y.1, ?_⟩
    rw [List.getElem?_map, List.getElem?_range hk, y.2]
    rfl
  · obtain ⟨k, hk, rfl⟩ := List.mem_map.mp hx
    exact hs k H (List.mem_range.mp hk) s1 Q2 h2
  · rw [h, List.map_map]
    rfl
end LK
namespace LK
open PySem PySem.Spec PyProof.Rows L2
section
variable {X : Cx} {K : PySem.W.Frag}
theorem call_isiDK (hK : X.K = K) : CallR X (.builtin "isinstance") (fun xs H Q => ∃ x T d, xs = [x, .ty T] ∧ Dp K H x d ∧ T ∈ ["str", "int", "bool", "list", "tuple"] ∧ Q (.bl (isTy T d)) H) := by
  subst hK
  exact call_isiD
end
end LK
namespace LK
open PySem PySem.Spec PyProof.Rows L2
section
variable {X : Cx}
/-- tuple(x) of a list: a new tuple -/
theorem call_tupleN : CallR X (.type "tuple") (fun xs H Q => ∃ p ys, xs = [.ref p] ∧ SqL X.K H p ys ∧ ∀ q H', Same H H' → H q = none → H' q = some (.tup ys) → Q (.ref q) H') := cr_imp call_tuple_of fun xs H Q h => by
  obtain ⟨p, ys, rfl, h, q⟩ := h
  exact ⟨p, ys, rfl, .inl ⟨h, fun l hl => q l _ (same_upd hl) hl upd_same⟩⟩
end
theorem strs_of {m : Nat} : ∀ {l : List V}, (∀ v ∈ l, ∃ z, v = V.str z ∧ z.length ≤ m) → ∃ zs : List Str, l = zs.map V.str ∧ ∀ z ∈ zs, z.length ≤ m
  | [], _ => ⟨[], rfl, fun z h => absurd h (by simp)⟩
  | v :: l, h => by
    obtain ⟨z, rfl, hz⟩ := h v List.mem_cons_self
    obtain ⟨zs, rfl, hzs⟩ := strs_of (l := l) fun v hv => h v (List.mem_cons_of_mem _ hv)
    refine ⟨z :: zs, rfl, fun y hy => ?_⟩
    rcases List.mem_cons.mp hy with rfl | hy
    · exact hz
    · exact hzs y hy
theorem sum_le {m : Nat} : ∀ {zs : List Str}, (∀ z ∈ zs, z.length ≤ m) → (zs.map (·.length)).sum ≤ zs.length * m
  | [], _ => by simp
  | z :: zs, h => by
    rw [List.map_cons, List.sum_cons, List.length_cons, Nat.succ_mul]
    have h1 := h z List.mem_cons_self
    have h2 := sum_le (zs := zs) fun y hy => h y (List.mem_cons_of_mem _ hy)
    omega
end LK
namespace LK
open PySem PySem.Spec PyProof.Rows L2
theorem joinL_len (S : List Nat) : ∀ ps : List (List Nat), (TL.joinL S ps).length ≤ (ps.map List.length).sum + ps.length * S.length
  | [] => by simp [TL.joinL]
  | [p] => by simp [TL.joinL]
  | p :: q :: r => by
    have ih := joinL_len S (q :: r)
    show (p ++ (S ++ TL.joinL S (q :: r))).length ≤ _
    rw [List.length_append, List.length_append, List.map_cons, List.sum_cons, List.length_cons, Nat.succ_mul]
    omega
theorem join_len (y : Str) (zs : List Str) : (Txt.join y zs).length ≤ (zs.map (·.length)).sum + zs.length * y.length := by
  rw [TL.join_eq, ← len_cps]
  have e := TL.tl_join y zs
  show (TL.tl (Str.join y zs)).length ≤ _
  rw [e]
  refine Nat.le_trans (joinL_len _ _) ?_
  rw [List.map_map, List.length_map]
  have e1 : ((zs.map (List.length ∘ TL.tl))) = zs.map (·.length) := List.map_congr_left fun z _ => len_cps z
  rw [e1]
  show _ + zs.length * (y.cps.toList).length ≤ _
  rw [len_cps]
  exact Nat.le_refl _
/-- the list that lc_draw has made, as texts -/
theorem kp_new {N : Nat} {b c : Addr} {H H1 : Hp} (B : Bag N H b c) (s : Same H H1) : Kp b H H1 ∧ Bag N H1 b c := ⟨Kp.of s, B.same s⟩
theorem hb_new {N : Nat} {b c p : Addr} {H H1 : Hp} {o : HO} (B : Bag N H b c) (h0 : H p = none) (h1 : H1 p = some o) : hb H1 b p = some o := by
  have n : p ≠ b := fun e => by
    obtain ⟨xs, q⟩ := B.at
    rw [e, q] at h0; cases h0
  rw [hb_ne n]; exact h1
end LK
namespace LK
open PySem PySem.Spec PyProof.Rows L2
def isIntV : V → Bool
  | .int _ => true
  | _ => false
theorem ints_of {l : List V} (h : l.all isIntV = true) : ∀ y ∈ l, ∃ i, y = V.int i := fun y hy => by
  have q := List.all_eq_true.mp h y hy
  cases y <;> first | exact ⟨_, rfl⟩ | simp [isIntV] at q
end LK
namespace LK
open PySem PySem.Spec PyProof.Rows L2
theorem nx_op {t : TS} {D : Ends} {σ : L2.St} {H : Hp} (h : ∀ N : L2.St → Hp → Prop, (∀ σ' H', D.nx σ' H' → N σ' H') → t { D with nx := N } σ H) : t D σ H := h D.nx fun _ _ z => z
/-- a test that changes nothing and whose answer does not matter -/
theorem if_any {c : TT} {t u : TS} {D : Ends} {σ : L2.St} {H : Hp} (hc : ∀ K : Bool → Hp → Prop, (∀ b, K b H) → c σ H K) (hA : t D σ H) (hB : u D σ H) : tIfS c t u D σ H := hc _ fun b => by
  cases b
  · exact iteFF (by decide) hB
  · exact iteTT rfl hA
end LK
namespace LK
open PySem PySem.Spec PyProof.Rows L2
theorem if_anyS {c : TT} {t u : TS} {D : Ends} {σ : L2.St} {H : Hp} (hc : ∀ K : Bool → Hp → Prop, (∀ b H1, Same H H1 → K b H1) → c σ H K) (hA : ∀ H1, Same H H1 → t D σ H1) (hB : ∀ H1, Same H H1 → u D σ H1) : tIfS c t u D σ H := hc _ fun b H1 s => by
  cases b
  · exact iteFF (by decide) (hB H1 s)
  · exact iteTT rfl (hA H1 s)
end LK
namespace LK
open PySem PySem.Spec PyProof.Rows L2
theorem if_of {c : TT} {t u : TS} {D : Ends} {σ : L2.St} {H : Hp} (R : Bool → Prop) (hc : ∀ K : Bool → Hp → Prop, (∀ b H1, R b → Same H H1 → K b H1) → c σ H K) (hA : ∀ H1, R true → Same H H1 → t D σ H1) (hB : ∀ H1, R false → Same H H1 → u D σ H1) : tIfS c t u D σ H := hc _ fun b H1 r s => by
  cases b
  · exact iteFF (by decide) (hB H1 r s)
  · exact iteTT rfl (hA H1 r s)
end LK

set_option Elab.async false
set_option linter.all false
set_option maxRecDepth 100000
namespace PySem
open Sem (wp)
open AutoSeq1 (wpAny_loadPart')
/-! ### enumerate of a tuple -/
theorem meets_enumerate_newT (l : Addr) (items : Array Value) (n : Nat) (dct : Option Addr) (sl : Array (Option Value)) :
    Meets (Builtin.«enumerate.__new__» ⟨[.type "enumerate", .ref l], []⟩) (fun _ R s => s.heap.get? l = some { cls := .type "tuple", dict := dct, data := .seq items n, slots := sl } ∧
      R (.ok (.ret (.ref (s.heap.push { cls := .type "tuple_iterator", data := .fields #[.ref l, .int 0 0] }).objs.size)))
        { s with heap := (s.heap.push { cls := .type "tuple_iterator", data := .fields #[.ref l, .int 0 0] }).push { cls := .type "enumerate", data := .fields #[.none, .bool false, .ref s.heap.objs.size, rawInt 0, .none, .none] } }) :=
  .of_wp fun prog w A R s h => by
    obtain ⟨hp, g, d, tk, os⟩ := s; obtain ⟨hl, h⟩ := h
    have hsub := sub_enumerate
    have hL : Heap.IsTuple (Shared.heap ⟨hp, g, d, tk, os⟩) l items := ⟨_, hl, rfl, n, rfl⟩
    wp_walk using wpAny_loadPart' hl
    refine wpAny_stack_any fun st => wpAny_pure ?_
    split
    · rename_i c _ _ _ _ _
      cases (c == Value.type "enumerate")
      · wp_walk using wpAny_loadPart' hl, wpAny_pyIter_tuple hL
        exact ⟨_, rfl, h⟩
      · wp_walk using wpAny_loadPart' hl, wpAny_pyIter_tuple hL
        exact ⟨_, rfl, h⟩
    · wp_walk using wpAny_loadPart' hl, wpAny_pyIter_tuple hL
      exact ⟨_, rfl, h⟩
theorem call_enumerate_tuple {prog : Program} {w : World} {A : Around} {E : Value → Shared → Prop} {s : Shared} {l : Addr} {items : Array Value} {Q : Value → Shared → Prop} (hL : s.heap.IsTuple l items)
    (h : ∀ h', IsEnum h' (s.heap.objs.size + 1) s.heap.objs.size 0 .none → h'.IsTupleIter s.heap.objs.size l 0 → h'.objs.size = s.heap.objs.size + 2 →
      (∀ b o, s.heap.get? b = some o → h'.get? b = some o) → Q (.ref (s.heap.objs.size + 1)) { s with heap := h' }) :
    wpAny (model prog w) A (call (.type "enumerate") [.ref l]) Q E s := by
  obtain ⟨⟨c, dct, dt, sl⟩, hl, hc, n, hd⟩ := hL
  replace hc : c = .type "tuple" := hc
  replace hd : dt = .seq items n := hd
  subst hc hd
  refine callType_new F.called_enumerate (by decide) (F.typeCall_enumerate_1 _) (F.newCall_enumerate_1 _) (fun obj => F.args_object_init_2 obj _) F.entry_enumerate_new
    (meets_enumerate_newT l items n dct sl) ⟨hl, ?_⟩
  have hz : (s.heap.push { cls := .type "tuple_iterator", data := .fields #[.ref l, .int 0 0] }).objs.size = s.heap.objs.size + 1 := Heap.size_push ..
  show _ ∧ _
  rw [hz]
  have he : IsEnum ((s.heap.push { cls := .type "tuple_iterator", data := .fields #[.ref l, .int 0 0] }).push
      { cls := .type "enumerate", data := .fields #[.none, .bool false, .ref s.heap.objs.size, rawInt 0, .none, .none] }) (s.heap.objs.size + 1) s.heap.objs.size 0 .none := by
    have := Heap.get?_push_size (s.heap.push { cls := .type "tuple_iterator", data := .fields #[.ref l, .int 0 0] })
      (o := { cls := .type "enumerate", data := .fields #[.none, .bool false, .ref s.heap.objs.size, rawInt 0, .none, .none] }) rfl
    rw [hz] at this; exact this
  refine ⟨⟨_, he, rfl⟩, h _ he ⟨_, Heap.get?_push_of_some _ (Heap.get?_push_size _ rfl), rfl, rfl⟩ (by rw [Heap.size_push, hz]) fun b o x => Heap.get?_push_of_some _ (Heap.get?_push_of_some _ x)⟩
end PySem
namespace LK
open PySem PySem.Spec PyProof.Rows L2
def Itet (K : PySem.W.Frag) (a : Addr) : It :=
  ⟨fun i H => ∃ (xs : List V) (x : V), SqT K H a xs ∧ xs[i]? = some x, fun i H v H' => ∃ T x, v = .ref T ∧ H T = none ∧ H' = L2.upd H T (.tup [.int (i : Nat), x]) ∧ ∀ xs, SqT K H a xs → xs[i]? = some x, fun i H => ∃ xs : List V, SqT K H a xs ∧ xs.length ≤ i⟩
theorem turn_enumT {P : Program} {w : World} {K : PySem.W.Frag} {elts : List Expr} {kk : Nat} {tpos : Pos} (a e it : Addr) :
    Turn P w K (.Tuple elts kk tpos) (Itet K a) [e, it] e (fun i h => (∃ old, IsEnum h e it ((i : Nat) : Int) old) ∧ h.IsTupleIter it a i ∧ e ≠ it ∧ a ≠ it ∧ a ≠ e) where
  mem := by simp
  obj := fun i h st b hb => by
    obtain ⟨⟨old, he⟩, ⟨o, ho, hc, hd⟩, _⟩ := st
    have e' : b = e ∨ b = it := by simpa using hb
    rcases e' with z | z
    · rw [z]; exact ⟨_, he, fun v q => nomatch q⟩
    · rw [z]; exact ⟨o, ho, fun v q => by rw [hd] at q; cases q⟩
  keep := fun i h h' st k => let ⟨⟨old, he⟩, hi, hne⟩ := st; ⟨⟨old, k e (by simp) _ he⟩, hi.at fun o q => k it (by simp) o q, hne⟩
  item := by
    intro X hP hw hK hc i pins s σ H E I hf st hg
    subst hP hw hK
    obtain ⟨⟨old, he⟩, hit, hne, hai, hae⟩ := st
    obtain ⟨xs, x, hq, hx⟩ := hg
    obtain ⟨its, rv, p, hz⟩ := I.tuple hq
    obtain ⟨u, hu, ru⟩ := rv.get hx
    have hel : e < s.heap.objs.size := Heap.lt_size he
    have hil : it < s.heap.objs.size := by obtain ⟨_, q, _⟩ := hit; exact Heap.lt_size q
    have hil2 : i < its.toArray.size := by
      have := (List.getElem?_eq_some_iff.mp hu).1
      simpa using this
    refine wpAny_pyNext_enum_itemD (Draws.tuple (A := X.A.in1) (I.ok.hd hc) it a hai its.toArray) he ⟨hit, p⟩ hil2 hne (by simp [hne, hae.symm]) fun y h' tk hy ho hit' hT hsz hk => ?_
    have hy : its.toArray[i]? = some y := hy
    rw [show its.toArray[i]? = some u by simpa using hu] at hy
    cases hy
    obtain ⟨hit1, _⟩ := hit'
    refine ⟨_, rfl, wpAny_letOwnedTupleGo_enum (s := { s with heap := h', toks := tk + 1 }) ho fun h'' he' sb => ?_⟩
    have hT2 : h''.get? s.heap.objs.size = some { cls := .type "tuple", data := .seq #[.int i tk, u] } := (sb.2 _ (Nat.ne_of_gt hel)).trans hT
    have new : ObjOk X.prog X.w (L2.upd H s.heap.objs.size (.tup [.int (i : Nat), x])) h'' s.heap.objs.size (.tup [.int (i : Nat), x]) :=
      ⟨by show 2 ≤ sizeLine; decide, [.int i tk, u], .cons ⟨_, rfl⟩ (.cons ru .nil), ⟨_, hT2, rfl, _, rfl⟩⟩
    have I1 : Inv X pins σ (L2.upd H s.heap.objs.size (.tup [.int (i : Nat), x])) { s with heap := h'', toks := tk + 1 } :=
      I.turnedNew (ch := [e, it]) (fun b ob hb q => (sb.2 b (fun z => hb (by simp [z]))).trans (hk b ob (fun z => hb (by simp [z])) (fun z => hb (by simp [z])) q)) hf (Nat.le_refl _) new
    refine ⟨.ref s.heap.objs.size, _, I1, rfl, ⟨_, x, rfl, I.hok.fresh (Nat.le_refl _), rfl, fun ys hy => by rw [I.tuple_inj hy hq]; exact hx⟩, ⟨⟨u, ?_⟩, hit1.at fun o q => (sb.2 it (Ne.symm hne)).trans q, hne, hai, hae⟩, fun b hb => ?_⟩
    · have e1 : ((i + 1 : Nat) : Int) = (i : Int) + 1 := by omega
      rw [e1]; exact he'
    · have hb' : b < s.heap.objs.size := by
        have e' : b = e ∨ b = it := by simpa using hb
        rcases e' with z | z
        · rw [z]; exact hel
        · rw [z]; exact hil
      rw [upd_ne (Nat.ne_of_lt hb')]
      exact (hf b hb).1
  done := by
    intro X hP hw hK hc i pins s σ H E I hf st hg
    subst hP hw hK
    obtain ⟨⟨old, he⟩, hit, hne, hai, hae⟩ := st
    obtain ⟨xs, hq, hx⟩ := hg
    obtain ⟨its, rv, p, hz⟩ := I.tuple hq
    obtain ⟨f0, f1, f2, f3, f4, f5⟩ := hf it (by simp)
    have hl := rv.length
    have hn : its.toArray[i]? = none := by simp; omega
    have hT : s.TypeIs (.ref e) "enumerate" := ⟨_, he, rfl⟩
    unfold pyNext
    refine wpAny_bind (wpAny_attempt (wpAny_callSpecial?_slot (name := Str.ofString "__next__") hT PySem.F.slot_enumerate_next
      (wpAny_call_entry PySem.F.slot_enumerate_next hT PySem.F.entry_enumerate_next ?_ (PySem.F.args_enumerate_next_1 _))))
    show wpAny _ _ (field (.ref e) 2 >>= _) _ _ _
    refine wpAny_bind (wpAny_field he rfl (x := .ref it) rfl ?_)
    refine wpAny_bind (RZ.nextOf_tuple_end (I.ok.hd hc) hit p hn fun h' x eb hx' => ?_)
    obtain ⟨o, ho, hc'⟩ := hx'
    refine wpAny_bind (wpAny_isInstance (T := "StopIteration") (b := true) ⟨o, ho, hc'⟩ isSubtype_stop ?_)
    exact wpAny_pure ⟨rfl, I.turned (t' := s.toks) (fun b o hb q => eb b o hb q) f0 f1 f3 f4 f5⟩
  self := fun A i s Q E st h => let ⟨⟨_, he⟩, _⟩ := st; wpAny_pyIter_enum he h
def iEnumT (K : PySem.W.Frag) (ta : TA) : TI := fun σ H R => ta σ H fun vs H1 => ∃ a xs, vs = [.ref a] ∧ SqT K H1 a xs ∧ R (Itet K a) H1
theorem pi_enumT {X : Cx} {e : Expr} {ta : TA} {p pos tpos : Pos} {elts : List Expr} {kk : Nat} (hg : Gl X "enumerate") (hm : X.mg "enumerate" = none) (ha : PA X [e] ta) (hs : starEach [e] X.env = [(false, eval e X.env)] := by rfl) :
    PI X (.Tuple elts kk tpos) (.Call (.Name "enumerate" p) [e] [] pos) (iEnumT X.K ta) := by
  refine ⟨fun pins s σ H R I h => ?_⟩
  refine Call_ (ld_blt I hg hm boot_enumerate (PyProof.Rows.callWith_type1 (thn (ha.run pos pins s σ H _ I h) fun us s1 ⟨vs, H1, I1, r1, q1⟩ => ?_) hs rfl))
  obtain ⟨a, xs, ex, hq, q⟩ := q1
  subst ex
  cases r1 with
  | cons r rr =>
    cases rr
    cases r
    obtain ⟨its, rv, p', hz⟩ := I1.tuple hq
    have al : a < s1.heap.objs.size := by obtain ⟨_, q, _⟩ := id p'; exact Heap.lt_size q
    refine call_enumerate_tuple p' fun h' he hit hsz hk => wpAny_pyIter_enum he ?_
    have I2 : Inv X pins σ H1 { s1 with heap := h' } := I1.kept (t' := s1.toks) hk
    refine ⟨s1.heap.objs.size + 1, [s1.heap.objs.size + 1, s1.heap.objs.size], _, _, H1, rfl, I2, turn_enumT a (s1.heap.objs.size + 1) s1.heap.objs.size, ⟨⟨.none, he⟩, hit, Nat.succ_ne_self _, Nat.ne_of_lt al, Nat.ne_of_lt (Nat.lt_succ_of_lt al)⟩, fun b hb => ?_, q⟩
    have e' : b = s1.heap.objs.size + 1 ∨ b = s1.heap.objs.size := by simpa using hb
    have hle : s1.heap.objs.size ≤ b := by
      rcases e' with z | z
      · rw [z]; exact Nat.le_add_right _ _
      · rw [z]; exact Nat.le_refl _
    exact I1.fpOk hle (I1.hok.fresh hle)
/-- of a list or a tuple -/
def iEnumLT (K : PySem.W.Frag) (ta : TA) : TI := fun σ H R => iEnum K ta σ H R ∨ iEnumT K ta σ H R
theorem pi_enumLT {X : Cx} {e : Expr} {ta : TA} {p pos tpos : Pos} {elts : List Expr} {kk : Nat} (hg : Gl X "enumerate") (hm : X.mg "enumerate" = none) (ha : PA X [e] ta) (hs : starEach [e] X.env = [(false, eval e X.env)] := by rfl) :
    PI X (.Tuple elts kk tpos) (.Call (.Name "enumerate" p) [e] [] pos) (iEnumLT X.K ta) :=
  ⟨fun pins s σ H R I h => h.elim ((pi_enum hg hm ha hs).run pins s σ H R I) ((pi_enumT hg hm ha hs).run pins s σ H R I)⟩
theorem pi_enumK {X : Cx} {K : PySem.W.Frag} (hK : X.K = K) {e : Expr} {ta : TA} {p pos tpos : Pos} {elts : List Expr} {kk : Nat} (hg : Gl X "enumerate") (hm : X.mg "enumerate" = none) (ha : PA X [e] ta) (hs : starEach [e] X.env = [(false, eval e X.env)] := by rfl) :
    PI X (.Tuple elts kk tpos) (.Call (.Name "enumerate" p) [e] [] pos) (iEnum K ta) := by subst hK; exact pi_enum hg hm ha hs
theorem walk_enumT {K : PySem.W.Frag} {a : Addr} {xs : List V} : Walk (Itet K a) xs.length (fun H => SqT K H a xs) (YPair (fun i => some (.int (i : Nat))) (fun i => xs[i]?)) := by
  refine ⟨fun i _ hi q => ⟨xs, xs[i], q, by simp [hi]⟩, fun _ q => ⟨xs, q, Nat.le_refl _⟩, fun i H v H' _ q y => ?_⟩
  obtain ⟨T, x, h1, h2, h3, h4⟩ := y
  exact ⟨T, _, x, h1, h2, h3, rfl, h4 xs q⟩
end LK

set_option Elab.async false
set_option linter.all false
set_option maxRecDepth 100000
namespace LK
open PySem PySem.Spec PyProof.Rows L2
/-! ### zip of a tuple and a list: two sources of any kind -/
structure Src (p : Program) (w : World) (it l : Addr) (It : Nat → Heap → Prop) (Con : Array Value → Heap → Prop) : Prop where
  mvI : ∀ {i : Nat} {h g : Heap}, It i h → (∀ o, h.get? it = some o → g.get? it = some o) → It i g
  mvC : ∀ {xs : Array Value} {h g : Heap}, Con xs h → (∀ o, h.get? l = some o → g.get? l = some o) → Con xs g
  fld : ∀ {i : Nat} {h : Heap}, It i h → ∃ o fs, h.get? it = some o ∧ o.data = .fields fs
  more : ∀ {A : Around} {E : Value → Shared → Prop} {s : Shared} {i : Nat} {xs : Array Value} {x : Value} {Q : Value → Shared → Prop}, It i s.heap → Con xs s.heap → xs[i]? = some x →
    (∀ g, It (i + 1) g → Heap.SameBut it s.heap g → Q x { s with heap := g }) → wpAny (model p w) A (Builtin.SmallTypes.nextOf (.ref it)) Q E s
  over : ∀ {A : Around} {E : Value → Shared → Prop} {s : Shared} {i : Nat} {xs : Array Value} {Q : Value → Shared → Prop}, A.handled = none → It i s.heap → Con xs s.heap → xs[i]? = none →
    (∀ g e, Heap.ExtBut it s.heap g → (∃ o, g.get? e = some o ∧ o.cls = .type "StopIteration") → E (.ref e) { s with heap := g }) → wpAny (model p w) A (Builtin.SmallTypes.nextOf (.ref it)) Q E s
theorem src_tup (p : Program) (w : World) (it l : Addr) : Src p w it l (fun i h => h.IsTupleIter it l i) (fun xs h => h.IsTuple l xs) where
  mvI := fun a b => a.at b
  mvC := fun a b => a.at b
  fld := fun ⟨o, e, _, d⟩ => ⟨o, _, e, d⟩
  more := fun a b c k => RZ.nextOf_tuple_item a b c k
  over := fun a b c d k => RZ.nextOf_tuple_end a b c d k
theorem src_lst (p : Program) (w : World) (it l : Addr) : Src p w it l (fun i h => h.IsListIter it l i) (fun xs h => h.IsList l xs) where
  mvI := fun a b => a.at b
  mvC := fun a b => a.at b
  fld := fun ⟨o, e, _, d⟩ => ⟨o, _, e, d⟩
  more := fun a b c k => wpAny_nextOf_list_item a b c k
  over := fun a b c d k => wpAny_nextOf_list_end a b c d k
/-- all that a zip holds, at one point of time -/
structure ZS (z TI TO i1 i2 : Addr) (I1 I2 : Nat → Heap → Prop) (C1 C2 : Array Value → Heap → Prop) (xs ys : Array Value) (h : Heap) (f a b : Value) (k1 k2 : Nat) : Prop where
  oz : IsZip h z TI TO f
  ti : IsPair h TI (.ref i1) (.ref i2)
  tt : IsPair h TO a b
  j1 : I1 k1 h
  j2 : I2 k2 h
  c1 : C1 xs h
  c2 : C2 ys h
section
variable {prog : Program} {w : World} {A : Around} {E : Value → Shared → Prop} {s : Shared} {z TI TO i1 i2 l1 l2 : Addr} {I1 I2 : Nat → Heap → Prop} {C1 C2 : Array Value → Heap → Prop} {xs ys : Array Value} {f a b : Value} {k1 k2 : Nat} {h g : Heap}
theorem ZS.atZ (D : ZipApart z TI TO i1 i2 l1 l2) (S1 : Src prog w i1 l1 I1 C1) (S2 : Src prog w i2 l2 I2 C2) (q : ZS z TI TO i1 i2 I1 I2 C1 C2 xs ys h f a b k1 k2) (e : Heap.ExtBut z h g) {f' : Value} (n : IsZip g z TI TO f') : ZS z TI TO i1 i2 I1 I2 C1 C2 xs ys g f' a b k1 k2 :=
  ⟨n, e _ _ D.TIz q.ti, e _ _ D.TOz q.tt, S1.mvI q.j1 fun o => e _ o D.i1z, S2.mvI q.j2 fun o => e _ o D.i2z, S1.mvC q.c1 fun o => e _ o D.l1z, S2.mvC q.c2 fun o => e _ o D.l2z⟩
theorem ZS.atO (D : ZipApart z TI TO i1 i2 l1 l2) (S1 : Src prog w i1 l1 I1 C1) (S2 : Src prog w i2 l2 I2 C2) (q : ZS z TI TO i1 i2 I1 I2 C1 C2 xs ys h f a b k1 k2) (e : Heap.ExtBut TO h g) {a' b' : Value} (n : IsPair g TO a' b') : ZS z TI TO i1 i2 I1 I2 C1 C2 xs ys g f a' b' k1 k2 :=
  ⟨e _ _ D.TOz.symm q.oz, e _ _ D.TITO q.ti, n, S1.mvI q.j1 fun o => e _ o D.TOi1.symm, S2.mvI q.j2 fun o => e _ o D.TOi2.symm, S1.mvC q.c1 fun o => e _ o D.l1TO, S2.mvC q.c2 fun o => e _ o D.l2TO⟩
theorem ZS.at1 (D : ZipApart z TI TO i1 i2 l1 l2) (S1 : Src prog w i1 l1 I1 C1) (S2 : Src prog w i2 l2 I2 C2) (q : ZS z TI TO i1 i2 I1 I2 C1 C2 xs ys h f a b k1 k2) (e : Heap.ExtBut i1 h g) {k : Nat} (n : I1 k g) : ZS z TI TO i1 i2 I1 I2 C1 C2 xs ys g f a b k k2 :=
  ⟨e _ _ D.i1z.symm q.oz, e _ _ D.TIi1 q.ti, e _ _ D.TOi1 q.tt, n, S2.mvI q.j2 fun o => e _ o D.i12.symm, S1.mvC q.c1 fun o => e _ o D.l1i1, S2.mvC q.c2 fun o => e _ o D.l2i1⟩
theorem ZS.at2 (D : ZipApart z TI TO i1 i2 l1 l2) (S1 : Src prog w i1 l1 I1 C1) (S2 : Src prog w i2 l2 I2 C2) (q : ZS z TI TO i1 i2 I1 I2 C1 C2 xs ys h f a b k1 k2) (e : Heap.ExtBut i2 h g) {k : Nat} (n : I2 k g) : ZS z TI TO i1 i2 I1 I2 C1 C2 xs ys g f a b k1 k :=
  ⟨e _ _ D.i2z.symm q.oz, e _ _ D.TIi2 q.ti, e _ _ D.TOi2 q.tt, S1.mvI q.j1 fun o => e _ o D.i12, n, S1.mvC q.c1 fun o => e _ o D.l1i2, S2.mvC q.c2 fun o => e _ o D.l2i2⟩
/-- what lies beside the zip stays -/
def Stay (z TO i1 i2 : Addr) (h g : Heap) : Prop := ∀ c o, c ≠ z → c ≠ TO → c ≠ i1 → c ≠ i2 → h.get? c = some o → g.get? c = some o
theorem Stay.tr {h1 h2 h3 : Heap} (p : Stay z TO i1 i2 h1 h2) (q : Stay z TO i1 i2 h2 h3) : Stay z TO i1 i2 h1 h3 := fun c o n1 n2 n3 n4 e => q c o n1 n2 n3 n4 (p c o n1 n2 n3 n4 e)
theorem Stay.zz (e : Heap.ExtBut z h g) : Stay z TO i1 i2 h g := fun c o n1 _ _ _ => e c o n1
theorem Stay.o (e : Heap.ExtBut TO h g) : Stay z TO i1 i2 h g := fun c o _ n2 _ _ => e c o n2
theorem Stay.i (e : Heap.ExtBut i1 h g) : Stay z TO i1 i2 h g := fun c o _ _ n3 _ => e c o n3
theorem Stay.j (e : Heap.ExtBut i2 h g) : Stay z TO i1 i2 h g := fun c o _ _ _ n4 => e c o n4
theorem zm_item {x y : Value} {Q : Value → Shared → Prop} (D : ZipApart z TI TO i1 i2 l1 l2) (S1 : Src prog w i1 l1 I1 C1) (S2 : Src prog w i2 l2 I2 C2) (q0 : ZS z TI TO i1 i2 I1 I2 C1 C2 xs ys s.heap .none a b k1 k2) (hx : xs[k1]? = some x) (hy : ys[k2]? = some y)
    (k : ∀ g, ZS z TI TO i1 i2 I1 I2 C1 C2 xs ys g (rawInt s.heap.objs.size) x y (k1 + 1) (k2 + 1) → IsPair g s.heap.objs.size x y → g.objs.size = s.heap.objs.size + 1 → Stay z TO i1 i2 s.heap g → Q (.ref s.heap.objs.size) { s with heap := g }) :
    wpAny (model prog w) A (Builtin.«zip.__next__» ⟨[.ref z], []⟩) (fun r s' => ∃ v, r = .done (.ret v) ∧ Q v s') E s := by
  have oz := q0.oz
  show wpAny (model prog w) _ (field (.ref z) 2 >>= _) _ E _
  refine wpAny_bind (wpAny_field oz rfl (x := .bool false) rfl ?_)
  show wpAny (model prog w) _ (field (.ref z) 3 >>= _) _ E _
  refine wpAny_bind (wpAny_field oz rfl (x := .ref TI) rfl (wpAny_bind (wpAny_seqItems q0.ti rfl ?_)))
  show wpAny (model prog w) _ (Builtin.SmallTypes.ownedTupleIsFree (.ref z) >>= _) _ E _; unfold Builtin.SmallTypes.ownedTupleIsFree
  refine wpAny_bind (wpAny_bind (wpAny_field oz rfl (x := .none) rfl (wpAny_pure ?_)))
  simp only [if_true]
  refine wpAny_bind (wpAny_rule (wpAny_bind (wpAny_field oz rfl (x := .ref TO) rfl (wpAny_bind (wpAny_setField_rec oz (by simp) fun g1 z1 e1 => ?_)))))
  have q1 := q0.atZ D S1 S2 e1.extBut (f' := .ellipsis) z1
  have t1 : Stay z TO i1 i2 s.heap g1 := .zz e1.extBut
  simp only [List.forIn_cons, List.forIn_nil, List.zipIdx_cons, List.zipIdx_nil]
  refine wpAny_bind (wpAny_bind (wpAny_bind (wpAny_onRaise ?_)))
  show wpAny (model prog w) _ (Builtin.SmallTypes.nextOf (.ref i1) >>= _) _ _ _
  refine wpAny_bind (S1.more q1.j1 q1.c1 hx fun g2 n2 e2 => wpAny_pure ?_)
  have q2 := q1.at1 D S1 S2 e2.extBut n2
  have t2 := t1.tr (.i e2.extBut)
  refine wpAny_bind (wpAny_seqItems q2.tt rfl (wpAny_bind (wpAny_updateSeq_pair q2.tt fun g3 n3 e3 => ?_)))
  have q3 := q2.atO D S1 S2 e3.extBut (a' := x) (b' := b) n3
  have t3 := t2.tr (.o e3.extBut)
  refine wpAny_bind (wpAny_letGo (wpAny_pure (wpAny_bind (wpAny_bind (wpAny_onRaise ?_)))))
  show wpAny (model prog w) _ (Builtin.SmallTypes.nextOf (.ref i2) >>= _) _ _ _
  refine wpAny_bind (S2.more q3.j2 q3.c2 hy fun g4 n4 e4 => wpAny_pure ?_)
  have q4 := q3.at2 D S1 S2 e4.extBut n4
  have t4 := t3.tr (.j e4.extBut)
  refine wpAny_bind (wpAny_seqItems q4.tt rfl (wpAny_bind (wpAny_updateSeq_pair q4.tt fun g5 n5 e5 => ?_)))
  have q5 := q4.atO D S1 S2 e5.extBut (a' := x) (b' := y) n5
  have t5 := t4.tr (.o e5.extBut)
  have sz : g5.objs.size = s.heap.objs.size := by rw [e5.1, e4.1, e3.1, e2.1, e1.1]
  refine wpAny_bind (wpAny_letGo (wpAny_pure (wpAny_pure (wpAny_bind (wpAny_seqItems q5.tt rfl (wpAny_bind (wpAny_newTuple ?_)))))))
  show wpAny (model prog w) _ (Builtin.SmallTypes.ownedTupleHandOut (.ref z) (.ref g5.objs.size) >>= _) _ E _; unfold Builtin.SmallTypes.ownedTupleHandOut
  have pz : IsZip (g5.push { cls := .type "tuple", data := .seq #[x, y] }) z TI TO .ellipsis := Heap.get?_push_of_some _ q5.oz
  refine wpAny_bind (wpAny_bind (wpAny_setField_rec pz (by simp) fun g7 z7 e7 => ?_))
  have z7' : IsZip g7 z TI TO (rawInt g5.objs.size) := z7
  refine wpAny_setField_rec z7' (by simp) fun g8 z8 e8 => ?_
  have z8' : IsZip g8 z TI TO (rawInt g5.objs.size) := z8
  have e58 : Heap.ExtBut z g5 g8 := fun c o n e => e8.extBut _ _ n (e7.extBut _ _ n (Heap.get?_push_of_some _ e))
  have q8 := q5.atZ D S1 S2 e58 z8'
  have nz : g5.objs.size ≠ z := Nat.ne_of_gt (Heap.lt_size q5.oz)
  have p8 : IsPair g8 g5.objs.size x y := e8.extBut _ _ nz (e7.extBut _ _ nz (Heap.get?_push_size _ rfl))
  have s8 : g8.objs.size = g5.objs.size + 1 := by rw [e8.1, e7.1, Heap.size_push]
  refine wpAny_pure ⟨.ref g5.objs.size, rfl, ?_⟩
  rw [sz] at q8 p8 s8 ⊢
  exact k g8 q8 p8 s8 (t5.tr (.zz e58))
/-- the last turn: one of the two has no more -/
theorem zm_end {Q : Fin → Shared → Prop} (hh : A.handled = none) (D : ZipApart z TI TO i1 i2 l1 l2) (S1 : Src prog w i1 l1 I1 C1) (S2 : Src prog w i2 l2 I2 C2) (q0 : ZS z TI TO i1 i2 I1 I2 C1 C2 xs ys s.heap .none a b k1 k2) (he : xs[k1]? = none ∨ ys[k2]? = none)
    (k : ∀ g e, Stay z TO i1 i2 s.heap g → (∃ o, g.get? e = some o ∧ o.cls = .type "StopIteration") → E (.ref e) { s with heap := g }) : wpAny (model prog w) A (Builtin.«zip.__next__» ⟨[.ref z], []⟩) Q E s := by
  have oz := q0.oz
  show wpAny (model prog w) _ (field (.ref z) 2 >>= _) _ E _
  refine wpAny_bind (wpAny_field oz rfl (x := .bool false) rfl ?_)
  show wpAny (model prog w) _ (field (.ref z) 3 >>= _) _ E _
  refine wpAny_bind (wpAny_field oz rfl (x := .ref TI) rfl (wpAny_bind (wpAny_seqItems q0.ti rfl ?_)))
  show wpAny (model prog w) _ (Builtin.SmallTypes.ownedTupleIsFree (.ref z) >>= _) _ E _; unfold Builtin.SmallTypes.ownedTupleIsFree
  refine wpAny_bind (wpAny_bind (wpAny_field oz rfl (x := .none) rfl (wpAny_pure ?_)))
  simp only [if_true]
  refine wpAny_bind (wpAny_rule (wpAny_bind (wpAny_field oz rfl (x := .ref TO) rfl (wpAny_bind (wpAny_setField_rec oz (by simp) fun g1 z1 e1 => ?_)))))
  have q1 := q0.atZ D S1 S2 e1.extBut (f' := .ellipsis) z1
  have t1 : Stay z TO i1 i2 s.heap g1 := .zz e1.extBut
  have fin : ∀ {g2 : Heap} {e : Addr}, IsZip g2 z TI TO .ellipsis → Stay z TO i1 i2 s.heap g2 → (∃ o, g2.get? e = some o ∧ o.cls = .type "StopIteration") → ∀ g3, Heap.SameBut z g2 g3 → E (.ref e) { s with heap := g3 } := fun z2 t2 ⟨o, h1, h2⟩ g3 e3 =>
    k _ _ (t2.tr (.zz e3.extBut)) ⟨o, e3.extBut _ _ (fun n => by subst n; rw [z2] at h1; cases h1; simp at h2) h1, h2⟩
  simp only [List.forIn_cons, List.forIn_nil, List.zipIdx_cons, List.zipIdx_nil]
  refine wpAny_bind (wpAny_bind (wpAny_bind (wpAny_onRaise ?_)))
  show wpAny (model prog w) _ (Builtin.SmallTypes.nextOf (.ref i1) >>= _) _ _ _
  by_cases hx : xs[k1]? = none
  · refine wpAny_bind (S1.over hh q1.j1 q1.c1 hx fun g2 e e2 so => ?_)
    have z2 := e2 _ _ D.i1z.symm q1.oz
    exact wpAny_setField_rec z2 (by simp) fun g3 _ e3 => fin z2 (t1.tr (.i e2)) so g3 e3
  · obtain ⟨x, hx1⟩ := Option.ne_none_iff_exists'.mp hx
    have hy := he.resolve_left hx
    refine wpAny_bind (S1.more q1.j1 q1.c1 hx1 fun g2 n2 e2 => wpAny_pure ?_)
    have q2 := q1.at1 D S1 S2 e2.extBut n2
    refine wpAny_bind (wpAny_seqItems q2.tt rfl (wpAny_bind (wpAny_updateSeq_pair q2.tt fun g3 n3 e3 => ?_)))
    have q3 := q2.atO D S1 S2 e3.extBut (a' := x) (b' := b) n3
    refine wpAny_bind (wpAny_letGo (wpAny_pure (wpAny_bind (wpAny_bind (wpAny_onRaise ?_)))))
    show wpAny (model prog w) _ (Builtin.SmallTypes.nextOf (.ref i2) >>= _) _ _ _
    refine wpAny_bind (S2.over hh q3.j2 q3.c2 hy fun g4 e e4 so => ?_)
    have z4 := e4 _ _ D.i2z.symm q3.oz
    exact wpAny_setField_rec z4 (by simp) fun g5 _ e5 => fin z4 (((t1.tr (.i e2.extBut)).tr (.o e3.extBut)).tr (.j e4)) so g5 e5
theorem zm_next {x y : Value} {Q : Option Value → Shared → Prop} (D : ZipApart z TI TO i1 i2 l1 l2) (S1 : Src prog w i1 l1 I1 C1) (S2 : Src prog w i2 l2 I2 C2) (q0 : ZS z TI TO i1 i2 I1 I2 C1 C2 xs ys s.heap .none a b k1 k2) (hx : xs[k1]? = some x) (hy : ys[k2]? = some y)
    (k : ∀ g, ZS z TI TO i1 i2 I1 I2 C1 C2 xs ys g (rawInt s.heap.objs.size) x y (k1 + 1) (k2 + 1) → IsPair g s.heap.objs.size x y → g.objs.size = s.heap.objs.size + 1 → Stay z TO i1 i2 s.heap g → Q (some (.ref s.heap.objs.size)) { s with heap := g }) : wpAny (model prog w) A (pyNext (.ref z)) Q E s := by
  have ty : s.TypeIs (.ref z) "zip" := ⟨_, q0.oz, rfl⟩
  unfold pyNext
  exact wpAny_bind (wpAny_attempt (wpAny_callSpecial?_slot (name := Str.ofString "__next__") ty F.slot_zip_next (wpAny_call_entry F.slot_zip_next ty F.entry_zip_next (zm_item D S1 S2 q0 hx hy fun g p1 p2 p3 p4 => wpAny_pure (k g p1 p2 p3 p4)) (F.args_zip_next_1 _))))
theorem zm_stop {Q : Option Value → Shared → Prop} (hh : A.handled = none) (D : ZipApart z TI TO i1 i2 l1 l2) (S1 : Src prog w i1 l1 I1 C1) (S2 : Src prog w i2 l2 I2 C2) (q0 : ZS z TI TO i1 i2 I1 I2 C1 C2 xs ys s.heap .none a b k1 k2) (he : xs[k1]? = none ∨ ys[k2]? = none)
    (k : ∀ g, Stay z TO i1 i2 s.heap g → Q none { s with heap := g }) : wpAny (model prog w) A (pyNext (.ref z)) Q E s := by
  have ty : s.TypeIs (.ref z) "zip" := ⟨_, q0.oz, rfl⟩
  unfold pyNext
  refine wpAny_bind (wpAny_attempt (wpAny_callSpecial?_slot (name := Str.ofString "__next__") ty F.slot_zip_next (wpAny_call_entry F.slot_zip_next ty F.entry_zip_next (zm_end hh D S1 S2 q0 he fun g e st so => ?_) (F.args_zip_next_1 _))))
  obtain ⟨o, h1, h2⟩ := so
  exact wpAny_bind (wpAny_isInstance (T := "StopIteration") (b := true) ⟨o, h1, h2⟩ isSubtype_stop (wpAny_pure (k _ st)))
end
/-- the five new objects of zip(tuple, list) -/
def zp1 (h : Heap) (l1 : Addr) : Heap := h.push { cls := .type "tuple_iterator", data := .fields #[.ref l1, .int 0 0] }
def zp2 (h : Heap) (l1 l2 : Addr) : Heap := (zp1 h l1).push { cls := .type "list_iterator", data := .fields #[.ref l2, .int 0 0] }
def zp3 (h : Heap) (l1 l2 : Addr) : Heap := (zp2 h l1 l2).push { cls := .type "tuple", data := .seq #[.ref h.objs.size, .ref (zp1 h l1).objs.size] }
def zp4 (h : Heap) (l1 l2 : Addr) : Heap := (zp3 h l1 l2).push { cls := .type "tuple", data := .seq #[.none, .none] }
def zp5 (h : Heap) (l1 l2 : Addr) : Heap := (zp4 h l1 l2).push { cls := .type "zip", data := .fields #[.none, .bool false, .bool false, .ref (zp2 h l1 l2).objs.size, .ref (zp3 h l1 l2).objs.size] }
theorem zp_new (l1 l2 : Addr) (xs ys : Array Value) : Meets (Builtin.«zip.__new__» ⟨[.type "zip", .ref l1, .ref l2], []⟩) fun _ R s => s.heap.IsTuple l1 xs ∧ s.heap.IsList l2 ys ∧ R (.ok (.ret (.ref (zp4 s.heap l1 l2).objs.size))) { s with heap := zp5 s.heap l1 l2 } :=
  .of_wp fun pr wd ar R s h => by
    obtain ⟨hp, gl, dd, tk, os⟩ := s
    obtain ⟨h1, h2, h⟩ := h
    have hsub := sub_zip
    have t1 : Heap.IsTuple (Shared.heap ⟨hp, gl, dd, tk, os⟩) l1 xs := h1
    have t2 : Heap.IsList (Shared.heap ⟨hp.push { cls := .type "tuple_iterator", data := .fields #[.ref l1, .int 0 0] }, gl, dd, tk, os⟩) l2 ys := Heap.IsList.push h2 _
    wp_walk using wpAny_pyIter_tuple t1, wpAny_pyIter_list t2
    exact ⟨_, rfl, h⟩
section
variable {prog : Program} {w : World} {s : Shared} {A : Around} {E : Value → Shared → Prop}
theorem call_zipM {l1 l2 : Addr} {xs ys : Array Value} {Q : Value → Shared → Prop} (h1 : s.heap.IsTuple l1 xs) (h2 : s.heap.IsList l2 ys)
    (k : ∀ g, IsZip g (s.heap.objs.size + 4) (s.heap.objs.size + 2) (s.heap.objs.size + 3) .none → IsPair g (s.heap.objs.size + 2) (.ref s.heap.objs.size) (.ref (s.heap.objs.size + 1)) → IsPair g (s.heap.objs.size + 3) .none .none →
      g.IsTupleIter s.heap.objs.size l1 0 → g.IsListIter (s.heap.objs.size + 1) l2 0 → (∀ c o, s.heap.get? c = some o → g.get? c = some o) → Q (.ref (s.heap.objs.size + 4)) { s with heap := g }) : wpAny (model prog w) A (call (.type "zip") [.ref l1, .ref l2]) Q E s := by
  refine callType_new F.called_zip (by decide) (F.typeCall_zip_2 _ _) (F.newCall_zip_2 _ _) (fun obj => F.args_object_init_3 obj _ _) F.entry_zip_new (zp_new l1 l2 xs ys) ⟨h1, h2, ?_⟩
  have n1 : (zp1 s.heap l1).objs.size = s.heap.objs.size + 1 := Heap.size_push _ _
  have n2 : (zp2 s.heap l1 l2).objs.size = s.heap.objs.size + 2 := (Heap.size_push _ _).trans (by rw [n1])
  have n3 : (zp3 s.heap l1 l2).objs.size = s.heap.objs.size + 3 := (Heap.size_push _ _).trans (by rw [n2])
  have n4 : (zp4 s.heap l1 l2).objs.size = s.heap.objs.size + 4 := (Heap.size_push _ _).trans (by rw [n3])
  have m5 : IsZip (zp5 s.heap l1 l2) (zp4 s.heap l1 l2).objs.size (zp2 s.heap l1 l2).objs.size (zp3 s.heap l1 l2).objs.size .none := Heap.get?_push_size _ rfl
  have m4 : IsPair (zp5 s.heap l1 l2) (zp3 s.heap l1 l2).objs.size .none .none := Heap.get?_push_of_some _ (Heap.get?_push_size _ rfl)
  have m3 : IsPair (zp5 s.heap l1 l2) (zp2 s.heap l1 l2).objs.size (.ref s.heap.objs.size) (.ref (zp1 s.heap l1).objs.size) := Heap.get?_push_of_some _ (Heap.get?_push_of_some _ (Heap.get?_push_size _ rfl))
  have m2 : (zp5 s.heap l1 l2).IsListIter (zp1 s.heap l1).objs.size l2 0 := ⟨_, Heap.get?_push_of_some _ (Heap.get?_push_of_some _ (Heap.get?_push_of_some _ (Heap.get?_push_size _ rfl))), rfl, rfl⟩
  have m1 : (zp5 s.heap l1 l2).IsTupleIter s.heap.objs.size l1 0 := ⟨_, Heap.get?_push_of_some _ (Heap.get?_push_of_some _ (Heap.get?_push_of_some _ (Heap.get?_push_of_some _ (Heap.get?_push_size _ rfl)))), rfl, rfl⟩
  have m0 : ∀ c o, s.heap.get? c = some o → (zp5 s.heap l1 l2).get? c = some o := fun c o e => Heap.get?_push_of_some _ (Heap.get?_push_of_some _ (Heap.get?_push_of_some _ (Heap.get?_push_of_some _ (Heap.get?_push_of_some _ e))))
  rw [n2, n3, n4] at m5
  rw [n3] at m4
  rw [n2, n1] at m3
  rw [n1] at m2
  show _ ∧ _
  rw [n4]
  exact ⟨⟨_, m5, rfl⟩, k _ m5 m3 m4 m1 m2 m0⟩
end
def ItzM (K : PySem.W.Frag) (a b : Addr) : It where
  go := fun i H => ∃ (xs ys : List V) (x y : V), SqT K H a xs ∧ SqL K H b ys ∧ xs[i]? = some x ∧ ys[i]? = some y
  yld := fun i H v H' => ∃ T x y, v = .ref T ∧ H T = none ∧ H' = L2.upd H T (.tup [x, y]) ∧ (∀ xs, SqT K H a xs → xs[i]? = some x) ∧ ∀ ys, SqL K H b ys → ys[i]? = some y
  stop := fun i H => ∃ xs ys : List V, SqT K H a xs ∧ SqL K H b ys ∧ (xs.length ≤ i ∨ ys.length ≤ i)
def tnM (z TI TO i1 i2 a b : Addr) (i : Nat) (h : Heap) : Prop := ∃ x y, IsZip h z TI TO .none ∧ IsPair h TI (.ref i1) (.ref i2) ∧ IsPair h TO x y ∧ h.IsTupleIter i1 a i ∧ h.IsListIter i2 b i
theorem turn_zipM {P : Program} {w : World} {K : PySem.W.Frag} {elts : List Expr} {kk : Nat} {tpos : Pos} {a b z TI TO i1 i2 : Addr} (D : ZipApart z TI TO i1 i2 a b) : Turn P w K (.Tuple elts kk tpos) (ItzM K a b) [z, TI, TO, i1, i2] z (tnM z TI TO i1 i2 a b) where
  mem := List.mem_cons_self
  obj := fun i h ⟨x, y, h1, h2, h3, h4, h5⟩ c hc => by
    obtain ⟨o4, f4, e4, d4⟩ := (src_tup P w i1 a).fld h4
    obtain ⟨o5, f5, e5, d5⟩ := (src_lst P w i2 b).fld h5
    simp only [List.mem_cons, List.not_mem_nil, or_false] at hc
    rcases hc with rfl | rfl | rfl | rfl | rfl
    · exact ⟨_, h1, fun v q => nomatch q⟩
    · exact ⟨_, h2, fun v q => nomatch q⟩
    · exact ⟨_, h3, fun v q => nomatch q⟩
    · exact ⟨o4, e4, fun v q => by rw [d4] at q; cases q⟩
    · exact ⟨o5, e5, fun v q => by rw [d5] at q; cases q⟩
  keep := fun i h g ⟨x, y, h1, h2, h3, h4, h5⟩ k => ⟨x, y, k z (by simp) _ h1, k TI (by simp) _ h2, k TO (by simp) _ h3, (src_tup P w i1 a).mvI h4 fun o => k i1 (by simp) o, (src_lst P w i2 b).mvI h5 fun o => k i2 (by simp) o⟩
  item := by
    rintro X rfl rfl rfl hc i pins s σ H E I hf ⟨x0, y0, h1, h2, h3, h4, h5⟩ ⟨xs, ys, x, y, qx, qy, ex, ey⟩
    obtain ⟨its, rv, p, _⟩ := I.tuple qx
    obtain ⟨jts, rw', p', _⟩ := I.list qy
    obtain ⟨u, eu, ru⟩ := rv.get ex
    obtain ⟨v, ev, rvv⟩ := rw'.get ey
    refine zm_next D (src_tup X.prog X.w i1 a) (src_lst X.prog X.w i2 b) ⟨h1, h2, h3, h4, h5, (show s.heap.IsTuple a its.toArray from p), p'.isList⟩ (x := u) (y := v) (by simpa using eu) (by simpa using ev) fun g q pp sz st => ⟨_, rfl, wpAny_letOwnedTupleGo_zip (s := { s with heap := g }) q.oz fun g2 z2 e2 => ?_⟩
    have q2 := q.atZ D (src_tup X.prog X.w i1 a) (src_lst X.prog X.w i2 b) e2.extBut z2
    have nz : s.heap.objs.size ≠ z := Nat.ne_of_gt (Heap.lt_size h1)
    have pp2 : IsPair g2 s.heap.objs.size u v := e2.extBut _ _ nz pp
    have ok : ObjOk X.prog X.w (L2.upd H s.heap.objs.size (.tup [x, y])) g2 s.heap.objs.size (.tup [x, y]) := ⟨by show 2 ≤ sizeLine; decide, [u, v], .cons ru (.cons rvv .nil), ⟨_, pp2, rfl, _, rfl⟩⟩
    have st2 : Stay z TO i1 i2 s.heap g2 := st.tr (.zz e2.extBut)
    have I2 : Inv X pins σ (L2.upd H s.heap.objs.size (.tup [x, y])) { s with heap := g2 } := I.turnedNew (t' := s.toks) (ch := [z, TI, TO, i1, i2]) (fun c o hb e => st2 c o (fun n => hb (by simp [n])) (fun n => hb (by simp [n])) (fun n => hb (by simp [n])) (fun n => hb (by simp [n])) e) hf (Nat.le_refl _) ok
    refine ⟨.ref s.heap.objs.size, _, I2, rfl, ⟨_, x, y, rfl, I.hok.fresh (Nat.le_refl _), rfl, fun l hl => by rw [I.tuple_inj hl qx]; exact ex, fun l hl => by rw [I.list_inj hl qy]; exact ey⟩, ⟨u, v, q2.oz, q2.ti, q2.tt, q2.j1, q2.j2⟩, fun c hcm => ?_⟩
    have lt : c < s.heap.objs.size := by
      obtain ⟨o4, _, e4, _⟩ := (src_tup X.prog X.w i1 a).fld h4
      obtain ⟨o5, _, e5, _⟩ := (src_lst X.prog X.w i2 b).fld h5
      have m := hcm
      simp only [List.mem_cons, List.not_mem_nil, or_false] at m
      rcases m with rfl | rfl | rfl | rfl | rfl
      · exact Heap.lt_size h1
      · exact Heap.lt_size h2
      · exact Heap.lt_size h3
      · exact Heap.lt_size e4
      · exact Heap.lt_size e5
    rw [upd_ne (Nat.ne_of_lt lt)]
    exact (hf c hcm).1
  done := by
    rintro X rfl rfl rfl hc i pins s σ H E I hf ⟨x0, y0, h1, h2, h3, h4, h5⟩ ⟨xs, ys, qx, qy, he⟩
    obtain ⟨its, rv, p, _⟩ := I.tuple qx
    obtain ⟨jts, rw', p', _⟩ := I.list qy
    have l1 := rv.length
    have l2 := rw'.length
    refine zm_stop (I.ok.hd hc) D (src_tup X.prog X.w i1 a) (src_lst X.prog X.w i2 b) ⟨h1, h2, h3, h4, h5, (show s.heap.IsTuple a its.toArray from p), p'.isList⟩ (he.imp (fun l => by simp; omega) fun l => by simp; omega) fun g st => ⟨rfl, I.turnedL (t' := s.toks) (ch := [z, TI, TO, i1, i2]) (fun c o hb e => st c o (fun n => hb (by simp [n])) (fun n => hb (by simp [n])) (fun n => hb (by simp [n])) (fun n => hb (by simp [n])) e) hf⟩
  self := fun A i s Q E ⟨_, _, h1, _⟩ k => wpAny_pyIter_zip h1 k
def iZipM (K : PySem.W.Frag) (ta : TA) : TI := fun σ H R => ta σ H fun vs H1 => ∃ a b xs ys, vs = [.ref a, .ref b] ∧ SqT K H1 a xs ∧ SqL K H1 b ys ∧ R (ItzM K a b) H1
theorem pi_zipM {X : Cx} {e e2 : Expr} {ta : TA} {p pos tpos : Pos} {elts : List Expr} {kk : Nat} (hg : Gl X "zip") (hm : X.mg "zip" = none) (ha : PA X [e, e2] ta) (hs : starEach [e, e2] X.env = (false, eval e X.env) :: starEach [e2] X.env := by rfl) (hpl : (backTo pos (starEach [e2] X.env)).any (·.1) = false := by rfl) :
    PI X (.Tuple elts kk tpos) (.Call (.Name "zip" p) [e, e2] [] pos) (iZipM X.K ta) := by
  refine ⟨fun pins s σ H R I h => Call_ (ld_blt I hg hm PyProof.Rows.boot_zip (PyProof.Rows.callWith_type1 (thn (ha.run pos pins s σ H _ I h) fun us s1 ⟨vs, H1, I1, r1, a, b, xs, ys, ex, qx, qy, q⟩ => ?_) hs hpl))⟩
  subst ex
  obtain _ | ⟨r, r'⟩ := r1
  obtain _ | ⟨r2, r''⟩ := r'
  cases r''
  cases r
  cases r2
  obtain ⟨its, rv, p1, _⟩ := I1.tuple qx
  obtain ⟨jts, rw', p2, _⟩ := I1.list qy
  obtain ⟨o1, ho1, _⟩ := id p1
  refine call_zipM (show s1.heap.IsTuple a its.toArray from p1) p2.isList fun g z1 z2 z3 z4 z5 k => wpAny_pyIter_zip z1 ?_
  have I2 : Inv X pins σ H1 { s1 with heap := g } := I1.kept (t' := s1.toks) k
  refine ⟨s1.heap.objs.size + 4, [s1.heap.objs.size + 4, s1.heap.objs.size + 2, s1.heap.objs.size + 3, s1.heap.objs.size, s1.heap.objs.size + 1], _, _, H1, rfl, I2, turn_zipM (PySem.W.ktu_apart s1.heap.objs.size a b (Heap.lt_size ho1) p2.lt), ⟨_, _, z1, z2, z3, z4, z5⟩, fun c hc => ?_, q⟩
  have le : s1.heap.objs.size ≤ c := by
    simp only [List.mem_cons, List.not_mem_nil, or_false] at hc
    rcases hc with rfl | rfl | rfl | rfl | rfl
    · exact Nat.le_add_right _ _
    · exact Nat.le_add_right _ _
    · exact Nat.le_add_right _ _
    · exact Nat.le_refl _
    · exact Nat.le_add_right _ _
  exact I1.fpOk le (I1.hok.fresh le)
theorem walk_zipM {K : PySem.W.Frag} {a b : Addr} {xs ys : List V} {n : Nat} (hx : xs.length = n) (hy : ys.length = n) : Walk (ItzM K a b) n (fun H => SqT K H a xs ∧ SqL K H b ys) (YPair (fun i => xs[i]?) fun i => ys[i]?) where
  goes := fun i _ hi q => ⟨xs, ys, xs[i]'(by omega), ys[i]'(by omega), q.1, q.2, List.getElem?_eq_getElem _, List.getElem?_eq_getElem _⟩
  stops := fun _ q => ⟨xs, ys, q.1, q.2, .inl (by omega)⟩
  yields := fun i H v H' _ q ⟨T, x, y, h1, h2, h3, h4, h5⟩ => ⟨T, x, y, h1, h2, h3, h4 xs q.1, h5 ys q.2⟩
end LK

set_option Elab.async false
set_option linter.all false
set_option maxRecDepth 100000
namespace LK
open PySem PySem.Spec PyProof.Rows L2
/-! ### rules with K in the place of X.K -/
section
variable {X : Cx} {K : PySem.W.Frag}
/-- of a list or a tuple -/
def rIxLT (K : PySem.W.Frag) : R2 := fun x y H Q => ∃ p xs i z, x = .ref p ∧ y = .int i ∧ (SqL K H p xs ∨ SqT K H p xs) ∧ atI xs i = some z ∧ Q z H
theorem ix_lt : IxR X (rIxLT X.K) := by
  intro value slice pins s σ H x y v u Q I rx ry h hs
  obtain ⟨p, xs, i, z, e1, e2, hq | hq, he, q⟩ := h
  · exact ix_list value slice pins s σ H x y v u Q I rx ry ⟨p, xs, i, z, e1, e2, hq, he, q⟩ hs
  · exact ix_tup value slice pins s σ H x y v u Q I rx ry ⟨p, xs, i, z, e1, e2, hq, he, q⟩ hs
theorem ix_ltK (hK : X.K = K) : IxR X (rIxLT K) := by subst hK; exact ix_lt
theorem ix_listK (hK : X.K = K) : IxR X (rIxL K) := by subst hK; exact ix_list
theorem ix_tupK (hK : X.K = K) : IxR X (rIxT K) := by subst hK; exact ix_tup
theorem sl_tupUK (hK : X.K = K) : SlR X (rSlU K) := by subst hK; exact sl_tupU
theorem sl_listUK (hK : X.K = K) : SlR X (rSlLU K) := by subst hK; exact sl_listU
theorem op_catUK (hK : X.K = K) : OpR X (binaryOp .Add) (rCatU K) := by subst hK; exact op_catU
theorem op_eqDK (hK : X.K = K) (hu : X.A.units + 64 < cLine) : OpR X (compareOp .Eq) (rEqD K) := by subst hK; exact op_eqD hu
theorem op_neDK (hK : X.K = K) (hu : X.A.units + 64 < cLine) : OpR X (compareOp .NotEq) (rNeD K) := by subst hK; exact op_neD hu
theorem call_tupleNK (hK : X.K = K) : CallR X (.type "tuple") (fun xs H Q => ∃ p ys, xs = [.ref p] ∧ SqL K H p ys ∧ ∀ q H', Same H H' → H q = none → H' q = some (.tup ys) → Q (.ref q) H') := by subst hK; exact call_tupleN
theorem call_tupleUK (hK : X.K = K) : CallR X (.type "tuple") (fun xs H Q => ∃ p ys, xs = [.ref p] ∧ (SqL K H p ys ∨ SqT K H p ys) ∧ ∀ q H', Same H H' → SqT K H' q ys → Q (.ref q) H') := by subst hK; exact call_tupleU
theorem call_listUK (hK : X.K = K) : CallR X (.type "list") (fun xs H Q => ∃ p ys, xs = [.ref p] ∧ (SqL K H p ys ∨ SqT K H p ys) ∧ ∀ l H2, Same H H2 → H l = none → H2 l = some (.lst ys) → Q (.ref l) H2) := by subst hK; exact call_listU
theorem call_len_seqK (hK : X.K = K) : CallR X (.builtin "len") (fun xs H Q => ∃ p ys, xs = [.ref p] ∧ (SqL K H p ys ∨ SqT K H p ys) ∧ Q (.int ys.length) H) := by subst hK; exact call_len_seq
theorem cr_sumK (hK : X.K = K) (hc : X.calm = true) : CallR X (.builtin "sum") (rSum K) := by subst hK; exact cr_sum hc
theorem cr_maxK (hK : X.K = K) (hc : X.calm = true) : CallR X (.builtin "max") (rMax K) := by subst hK; exact cr_max hc
theorem cr_allK (hK : X.K = K) (hc : X.calm = true) : CallR X (.builtin "all") (rAll K) := by subst hK; exact cr_all hc
theorem pi_listK (hK : X.K = K) {tg l : Expr} {tl : TE} (hl : PE X l tl) : PI X tg l (iList K tl) := by subst hK; exact pi_list hl
theorem pi_tupK (hK : X.K = K) {tg l : Expr} {tl : TE} (hl : PE X l tl) : PI X tg l (iTup K tl) := by subst hK; exact pi_tup hl
def iLT (K : PySem.W.Frag) (tl : TE) : TI := fun σ H R => iList K tl σ H R ∨ iTup K tl σ H R
theorem pi_lt {tg l : Expr} {tl : TE} (hl : PE X l tl) : PI X tg l (iLT X.K tl) :=
  ⟨fun pins s σ H R I h => h.elim ((pi_list hl).run pins s σ H R I) ((pi_tup hl).run pins s σ H R I)⟩
theorem pi_ltK (hK : X.K = K) {tg l : Expr} {tl : TE} (hl : PE X l tl) : PI X tg l (iLT K tl) := by subst hK; exact pi_lt hl
end
end LK

set_option Elab.async false
set_option linter.all false
set_option maxRecDepth 100000
namespace LK
open PySem PySem.Spec PyProof.Rows L2
/-! ### sorted(d) of a dict whose keys are tuples of whole numbers -/
theorem perm_lift {α β : Type} {f : α → β} {l m : List β} (h : l.Perm m) : ∀ {L : List α}, m = L.map f → ∃ L' : List α, l = L'.map f ∧ L'.Perm L := by
  induction h with
  | nil =>
    intro L e
    cases L with
    | nil => exact ⟨[], rfl, .nil⟩
    | cons _ _ => cases e
  | cons x _ ih =>
    intro L e
    cases L with
    | nil => cases e
    | cons a L =>
      injection e with e1 e2
      obtain ⟨L', h1, h2⟩ := ih e2
      exact ⟨a :: L', by rw [List.map_cons, ← e1, ← h1], .cons a h2⟩
  | swap x y l =>
    intro L e
    cases L with
    | nil => cases e
    | cons a L =>
      cases L with
      | nil => cases e
      | cons b L =>
        injection e with e1 e2
        injection e2 with e2 e3
        exact ⟨b :: a :: L, by rw [List.map_cons, List.map_cons, ← e1, ← e2, ← e3], .swap a b L⟩
  | trans _ _ ih1 ih2 =>
    intro L e
    obtain ⟨L1, h1, h2⟩ := ih2 e
    obtain ⟨L2, h3, h4⟩ := ih1 h1
    exact ⟨L2, h3, h4.trans h2⟩
section
variable {X : Cx}
theorem call_sortedDT (hcalm : X.calm = true) : CallR X (.builtin "sorted") (fun xs H Q => ∃ (a : Addr) (kvs : List (List L2.Key × V)) (ks : List (List Int)) (d : Nat) (B : Int), xs = [.ref a] ∧ Rd H a (.dT kvs) ∧ kvs.map (·.1) = ks.map (fun k => k.map Sum.inl) ∧ ks.length < 64 ∧ 1 ≤ d ∧ (∀ k ∈ ks, k.length = d ∧ TS.Bd B k) ∧
    ∀ (L' : List (Addr × List Int)) (p : Addr), (L'.map (·.2)).Perm ks → (∀ q ∈ L', H q.1 = some (.tup (q.2.map V.int))) → L'.Pairwise (fun q r => TS.code B q.2 ≤ TS.code B r.2) → H p = none → Q (.ref p) (upd H p (.lst (L'.map fun q => V.ref q.1)))) := by
  intro pins s σ H xs us Q I r q
  obtain ⟨a, kvs, ks, d, B, ex, hd, hks, h64, hd1, hB, q⟩ := q
  subst ex
  obtain ⟨u, eu, rx⟩ := vals1 r
  subst eu
  cases rx
  obtain ⟨z, hs, ts, pr, o, es, ep, ho, hx, hdt, he, hn⟩ := (show ObjOk X.prog X.w H s.heap a (.dT kvs) from hd.ok I.hok)
  have l1 : es.size = ts.length := size_of_entries he
  have l2 : kvs.length = ts.length := Paired.length pr
  have l3 : kvs.length = ks.length := by
    have e := congrArg List.length hks
    rw [List.length_map, List.length_map] at e
    exact e
  -- the keys with their addresses
  have keys : ∀ {kvs : List (List L2.Key × V)} {ts : List (List L2.Key × Addr × Value)} {ks : List (List Int)}, KT H kvs ts → kvs.map (·.1) = ks.map (fun k => k.map Sum.inl) →
      ∃ L : List (Addr × List Int), (ts.map fun x => x.2.1) = L.map (·.1) ∧ L.map (·.2) = ks ∧ ∀ q ∈ L, H q.1 = some (.tup (q.2.map V.int)) := by
    intro kvs ts ks pr
    induction pr generalizing ks with
    | nil =>
      intro e
      cases ks with
      | nil => exact ⟨[], rfl, rfl, fun q hq => nomatch hq⟩
      | cons _ _ => cases e
    | @cons p x ps xs hp _ ih =>
      intro e
      cases ks with
      | nil => cases e
      | cons k ks =>
        injection e with e1 e2
        obtain ⟨L, h1, h2, h3⟩ := ih e2
        refine ⟨(x.2.1, k) :: L, by rw [List.map_cons, List.map_cons, h1], by rw [List.map_cons, h2], fun q hq => ?_⟩
        rcases List.mem_cons.mp hq with rfl | hq
        · have := hp.2.1
          rw [show p.1 = k.map Sum.inl from e1, List.map_map] at this
          exact this
        · exact h3 q hq
  obtain ⟨L, hL1, hL2, hL3⟩ := keys pr hks
  have lL : L.length = ks.length := by rw [← hL2, List.length_map]
  have h16 : es.size ≤ sizeLine := by rw [l1, ← l2, l3, sizeLine_eq]; omega
  refine Calls.call_function_entry PyProof.Rows.kind_sorted PyProof.Rows.plain_sorted PyProof.Rows.entry_sorted (PyProof.Rows.args_sorted1 _) ?_
  unfold Builtin.«sorted»
  refine wpAny_bind (m := checkCount "sorted" 1 1 _) (wpAny_pure ?_)
  refine wpAny_bind (PySem.W.kdu_collect (A := X.A.in1) (kdl_raw hs hx hdt) (I.ok.hd hcalm) ho h16 fun h' tk acc hk it => ?_)
  have ea : acc.toList = L.map fun q => Value.ref q.1 := by
    have e0 : (L.map fun q => Value.ref q.1) = ts.map fun x => Value.ref x.2.1 := by
      have : (L.map fun q => Value.ref q.1) = (L.map (·.1)).map Value.ref := by rw [List.map_map]; rfl
      rw [this, ← hL1, List.map_map]; rfl
    rw [e0]
    have hl : acc.toList.length = ts.length := by rw [Array.length_toList, it.1]; exact l1
    apply List.ext_getElem?
    intro j
    rw [List.getElem?_map]
    cases hj : acc.toList[j]? with
    | none =>
      have h1 := List.getElem?_eq_none_iff.mp hj
      rw [List.getElem?_eq_none (by omega)]
      rfl
    | some v =>
      obtain ⟨en, hen, hv⟩ := it.2 j v (by rw [← Array.getElem?_toList]; exact hj)
      have qe := entry_at he j
      rw [hen] at qe
      cases hb : ts[j]? with
      | none =>
        rw [hb] at qe
        exact nomatch (show some en = none from qe)
      | some b =>
        rw [hb] at qe
        have e2 : en = entryOfKey (tupleKind (mixKind X.prog X.w)) b := Option.some.inj qe
        rw [hv, e2]
        rfl
  have hal : acc.toList.length = ks.length := by rw [ea, List.length_map, lL]
  have I1 : Inv X pins σ H { s with heap := h', toks := tk } := I.kept hk
  refine wpAny_bind (wpAny_newList ?_ (by rw [hal, sizeLine_eq]; omega))
  have hoL : (h'.push (seqObj "list" acc.toList.toArray 0)).get? h'.objs.size = some (seqObj "list" acc.toList.toArray 0) := Heap.get?_push_size _ rfl
  show wpAny _ _ _ _ _ { s with heap := h'.push (seqObj "list" acc.toList.toArray 0), toks := tk }
  have tk2 : ∀ q ∈ L, TS.TupInts (h'.push (seqObj "list" acc.toList.toArray 0)) (.ref q.1) q.2 := fun q hq => tupInts_of (P := X.prog) (w := X.w) (isT_keep (I.isT (.inl (.inl (hL3 q hq)))) fun b u e => Heap.get?_push_of_some _ (hk b u e))
  have x : TS.TupsOk (h'.push (seqObj "list" acc.toList.toArray 0)) d B acc.toList := fun v hv => by
    rw [ea] at hv
    obtain ⟨q, hq, e⟩ := List.mem_map.mp hv
    rw [← e]
    have := hB q.2 (by rw [← hL2]; exact List.mem_map_of_mem hq)
    exact ⟨q.2, tk2 q hq, this.1, this.2⟩
  refine wpAny_bind (wpAny_holding (TS.call_sort_tups (s := { s with heap := h'.push (seqObj "list" acc.toList.toArray 0), toks := tk }) hoL (by rw [hal]; exact h64) hd1 x fun out a1 a2 => ?_))
  obtain ⟨e', he'⟩ := PyProof.Rows.sortedHeap_at (vs := acc.toList) (out := out) hoL
  obtain ⟨L', hL', pm⟩ := perm_lift a1 ea
  have pw : L'.Pairwise (fun q r => TS.code B q.2 ≤ TS.code B r.2) := by
    rw [hL'] at a2
    refine List.Pairwise.imp_of_mem (fun {q r} hq hr hle => ?_) (List.pairwise_map.mp a2)
    have f1 : TS.intsOf (h'.push (seqObj "list" acc.toList.toArray 0)) (.ref q.1) = q.2 := (tk2 q (pm.mem_iff.mp hq)).ints
    have f2 : TS.intsOf (h'.push (seqObj "list" acc.toList.toArray 0)) (.ref r.1) = r.2 := (tk2 r (pm.mem_iff.mp hr)).ints
    rw [← f1, ← f2]
    exact hle
  have hlen : (L'.map fun q => V.ref q.1).length ≤ sizeLine := by
    rw [List.length_map, pm.length_eq, lL, sizeLine_eq]; omega
  refine wpAny_pure ⟨_, rfl, .ref h'.objs.size, upd H h'.objs.size (.lst (L'.map fun q => V.ref q.1)), I1.laid (t' := tk) (fun b u e => ?_) (Nat.le_refl _)
    (show ObjOk X.prog X.w _ _ _ (.lst (L'.map fun q => V.ref q.1)) from ⟨hlen, out.toList, e', by rw [hL']; exact vals_of_refs L', by rw [Array.toArray_toList]; exact he'⟩), rfl, q L' _ (by rw [← hL2]; exact pm.map _) (fun q hq => hL3 q (pm.mem_iff.mp hq)) pw (I1.hok.fresh (Nat.le_refl _))⟩
  have hb : b < h'.objs.size := Heap.lt_size e
  rw [PyProof.Rows.sortedHeap_old (Nat.ne_of_lt hb) (by rw [size_push']; exact Nat.lt_succ_of_lt hb)]
  exact Heap.get?_push_of_some _ e
end
end LK

set_option Elab.async false
set_option linter.all false
set_option maxRecDepth 100000
namespace LK
open PySem PySem.Spec PyProof.Rows L2
/-! ### set(xs) of a long list of tuples, of which few are distinct -/
theorem pigeon {α : Type} [DecidableEq α] : ∀ {l S : List α}, l.Nodup → (∀ x ∈ l, x ∈ S) → l.length ≤ S.length
  | [], _, _, _ => Nat.zero_le _
  | a :: l, S, h, hs => by
    rw [List.nodup_cons] at h
    have ha := hs a List.mem_cons_self
    have := pigeon (l := l) (S := S.erase a) h.2 fun x hx => by
      have ne : x ≠ a := fun e => h.1 (e ▸ hx)
      exact (List.mem_erase_of_ne ne).mpr (hs x (List.mem_cons_of_mem _ hx))
    rw [List.length_erase_of_mem ha] at this
    have p : 0 < S.length := List.length_pos_of_mem ha
    rw [List.length_cons]
    omega
def Stays (h h' : Heap) : Prop := ∀ b o, h.get? b = some o → h'.get? b = some o
abbrev noSet (w : World) : Obj := { cls := .type "set", dict := none, data := .set #[] 0 (.fresh 0 0 (!w.params.followText "set-order")) }
section
variable {P : Program} {w : World} {A : Around} {E : Value → Shared → Prop} {s : Shared}
def InSet (P : Program) (w : World) (h : Heap) (S : Addr) (ks : List (Addr × List Int)) (i : Nat) : Prop := ∃ L es ep t, SetTR P w h S L es ep t ∧ Got ks i L
section
variable {I S : Addr} {fp wr : List Addr} {G : Array GenState → Array GenState → Prop} {Pv : Nat → Value → Prop} {St : Nat → Shared → Prop} {R : Result → Shared → Prop} {ks : List (Addr × List Int)} {D : List (List Int)} {h0 : Heap}
theorem rounds (W : WalksS P w A.in1 I fp wr G ks.length Pv St) (nS : S ∉ fp) (few : D.length ≤ 62) (mem : ∀ p ∈ ks, p.2 ∈ D) (val : ∀ i v, Pv i v → ∃ p, ks[i]? = some p ∧ v = .ref p.1)
    (tup : ∀ p ∈ ks, IsT P w h0 p.2 p.1) (newS : h0.get? S = none) (newW : ∀ b ∈ wr, h0.get? b = none) (un : A.in1.units < cLine) : ∀ (left i : Nat) (s : Shared), i + left = ks.length → St i s → Stays h0 s.heap → InSet P w s.heap S ks i →
    (∀ s', Moved (S :: wr) G s s' → InSet P w s'.heap S ks ks.length → Stays h0 s'.heap → R (.ok (.ret .none)) s') → codeAny (model P w) A (.builtin "set.update.loop" ⟨[.ref S, .ref I], []⟩) R s := by
  have out : S ∉ wr := fun h => nS (W.sub _ h)
  have wide : ∀ b ∈ wr, b ∈ S :: wr := fun b hb => List.mem_cons_of_mem _ hb
  have hold : ∀ {s s' : Shared}, Moved wr G s s' → Stays h0 s.heap → Stays h0 s'.heap := fun m k b o e => m.heap b o (fun hb => nomatch (newW b hb).symm.trans e) (k b o e)
  have take : ∀ {s s' : Shared} {i : Nat} {L : List (Addr × List Int)} {es : Array (Int × Value)} {ep : Nat} {t : SetTable}, Moved wr G s s' → Stays h0 s.heap → SetTR P w s.heap S L es ep t → Got ks i L → SetTR P w s'.heap S L es ep t := fun m k R g =>
    R.keep (fun o e => m.heap S o out e) fun q hq => isT_keep (tup q (List.mem_of_mem_take (g.sub q hq))) (hold m k)
  intro left
  induction left with
  | zero =>
    intro i s hi st kp inn fin
    obtain rfl : i = ks.length := hi
    obtain ⟨L, es, ep, t, R0, g⟩ := inn
    refine codeAny_builtin F.entry_set_update_loop ?_
    rw [Around.under_plainId F.plain_set_update_loop _]
    change wpAny _ A.in1 (pyNext (.ref I) >>= _) _ _ s
    refine wpAny_bind (W.done s _ _ st fun s' m => ?_)
    change wpAny _ A.in1 (ret Value.none) _ _ s'
    exact wpAny_pure (fin s' (m.mono wide) ⟨L, es, ep, t, take m kp R0 g, g⟩ (hold m kp))
  | succ left ih =>
    intro i s hi st kp inn fin
    obtain ⟨L, es, ep, t, R0, g⟩ := inn
    refine codeAny_builtin F.entry_set_update_loop ?_
    rw [Around.under_plainId F.plain_set_update_loop _]
    change wpAny _ A.in1 (pyNext (.ref I) >>= _) _ _ s
    refine wpAny_bind (W.item i s _ _ (by omega) st fun v s1 pv st1 m => ?_)
    obtain ⟨q, hq, rfl⟩ := val i v pv
    have kp1 := hold m kp
    have R1 := take m kp R0 g
    have isq : IsT P w s1.heap q.2 q.1 := isT_keep (tup q (List.mem_of_getElem? hq)) kp1
    have small : L.length ≤ 62 := by
      have := pigeon R1.nd fun x hx => by
        obtain ⟨y, hy, rfl⟩ := List.mem_map.mp hx
        exact mem y (List.mem_of_mem_take (g.sub y hy))
      rw [List.length_map] at this
      exact Nat.le_trans this few
    change wpAny _ A.in1 (holding [Value.ref q.1] (setAdd S (.ref q.1)) >>= _) _ _ s1
    refine wpAny_bind (wpAny_holding ?_)
    unfold setAdd
    refine wpAny_holding ?_
    refine wpAny_bind (wpAny_pyHash_tuple un isq ?_)
    refine add_at (s := { s1 with toks := s1.toks + (q.2.length + 1) }) R1 isq un (by omega) fun b h2 L2 es2 ep2 t2 same R2 c1 c2 => ?_
    have g2 : Got ks (i + 1) L2 := (Classical.em (q.2 ∈ L.map (·.2))).elim (fun c => by rw [c1 c]; exact g.same hq c) fun c => g.more hq (c2 c)
    have kp2 : Stays h0 h2 := fun b o e => (same.2 b fun z => by subst z; exact nomatch newS.symm.trans e).trans (kp1 b o e)
    refine wpAny_pure ⟨plainId_quiet F.plain_set_update_loop _, ih (i + 1) _ (by omega) (W.frame _ s1 _ _ st1 (Nat.le_add_right _ _) fun b hb o e => ?_) kp2 ⟨L2, es2, ep2, t2, R2, g2⟩ fun s3 m3 in3 kp3 => ?_⟩
    · exact (same.2 b (fun z : b = S => nS (z ▸ hb))).trans e
    · refine fin s3 (Moved.trans W.gtrans ((m.mono wide).then_heap (Nat.le_add_right _ _) fun b o nb e => ?_) m3) in3 kp3
      exact (same.2 b (fun z : b = S => nb (by rw [z]; exact List.mem_cons_self))).trans e
end
set_option maxHeartbeats 3200000 in
theorem call_setW {l : Addr} {items : Array Value} {ks : List (Addr × List Int)} {D : List (List Int)} {Q : Value → Shared → Prop} (hh : A.handled = none) (hl : s.heap.IsList l items) (hit : items.toList = ks.map fun q => Value.ref q.1)
    (tup : ∀ q ∈ ks, IsT P w s.heap q.2 q.1) (few : D.length ≤ 62) (mem : ∀ q ∈ ks, q.2 ∈ D) (un : A.units + 3 < cLine)
    (fin : ∀ (h' : Heap) (tk : Nat), InSet P w h' s.heap.objs.size ks ks.length → Stays s.heap h' → Q (.ref s.heap.objs.size) { s with heap := h', toks := tk }) : wpAny (model P w) A (call (.type "set") [.ref l]) Q E s := by
  have size : items.size = ks.length := by rw [← Array.length_toList, hit, List.length_map]
  obtain ⟨c, tl, hmro⟩ := F.called_set.mro
  have fact1 := F.called_set.made
  have fact2 := F.called_set.sub
  refine wpAny_call (codeAny_of_tree ?_)
  change wpAny _ _ (callAny (.type "set") _) _ _ _
  refine wpAny_pure ⟨Code.quiet_builtin _ (by decide +kernel), codeAny_builtin F.entry_type_call ?_⟩
  rw [Around.under_plain (weight_type_call_type "set" [.ref l] []) rfl]
  have fact3 := F.called_set.notType
  have fact4 := F.called_set.canCreate
  have fact5 := F.typeCall_set_1 (.ref l)
  repeat (any_goals (first | assumption | wp_step))

  refine codeAny_mono (code_set_led1 (.ref l) (E := E) (Q₁ := fun obj s1 => obj = .ref s.heap.objs.size ∧ s1 = { s with heap := s.heap.push (noSet w) }) ⟨rfl, rfl⟩) fun r s1 hr => ?_
  rcases r with e | fl
  · exact hr
  · cases fl with
    | ret obj =>
      obtain ⟨rfl, rfl⟩ := hr
      have atS : (s.heap.push (noSet w)).get? s.heap.objs.size = some (noSet w) := Heap.get?_push_size _ rfl
      have hT : Shared.TypeIs { s with heap := s.heap.push (noSet w) } (.ref s.heap.objs.size) "set" := ⟨_, atS, rfl⟩
      have fact6 := F.called_set.init.lookup
      have fact7 := F.called_set.init.bind (.ref s.heap.objs.size)
      repeat (any_goals (first | assumption | wp_step))

      refine codeAny_mono (codeAny_call_builtin (R := wants (fun r s2 => r = .none ∧ ∃ h' tk, s2 = { s with heap := h', toks := tk } ∧ InSet P w h' s.heap.objs.size ks ks.length ∧ Stays s.heap h') E) F.called_set.init.plain F.entry_set_init (check_set_init_1 hT ?_)) fun r2 s2 hr2 => ?_
      · obtain ⟨⟨_, _, _, _⟩, hol, hcl, nl, hdl⟩ := hl
        simp only at hcl hdl
        subst hcl hdl
        have before : l < s.heap.objs.size := Heap.lt_size hol
        have hol1 := Heap.get?_push_of_some (noSet w) hol
        have fact8 := F.sub_list_set
        have fact9 := F.sub_list_frozenset
        have factA : (Value.type "list" == Value.type "dict") = false := by decide
        have hl1 : (s.heap.push (noSet w)).IsList l items := ⟨_, hol1, rfl, nl, rfl⟩
        unfold Builtin.«set.__init__» noKeywords Builtin.Frozenset.updateFrom
        generalize hPI : pyIter = PI
        wp_walk
        subst hPI

        refine wpAny_pyIter_list hl1 (wpAny_bind (wpAny_runValue ?_))
        have hd3 : A.in1.in1.in1.handled = none := by simp [hh]
        have sz : (s.heap.push (noSet w)).objs.size = s.heap.objs.size + 1 := Heap.size_push ..
        have ne1 : l ≠ (s.heap.push (noSet w)).objs.size := Nat.ne_of_lt (Nat.lt_of_lt_of_eq (Nat.lt_succ_of_lt before) sz.symm)
        have free : ∀ b, s.heap.objs.size ≤ b → s.heap.get? b = none := fun b hb => by
          rcases q : s.heap.get? b with _ | o
          · rfl
          · exact (Nat.lt_irrefl _ (Nat.lt_of_le_of_lt hb (Heap.lt_size q))).elim
        have W0 := (Walks.list (prog := P) (w := w) hd3 _ l ne1 items).toS
        rw [size] at W0
        refine rounds (P := P) (w := w) (h0 := s.heap) (S := s.heap.objs.size) W0 (fun z => by
          rcases List.mem_cons.mp z with z | z
          · exact Nat.ne_of_lt (Nat.lt_of_lt_of_eq (Nat.lt_succ_self _) sz.symm) z
          · exact Nat.ne_of_gt before (List.mem_singleton.mp z)) few mem (fun i v hv => ?_) tup (free _ (Nat.le_refl _)) (fun b hb => free b (by rw [List.mem_singleton.mp hb, sz]; exact Nat.le_succ _)) un ks.length 0 _ (Nat.zero_add _) ⟨⟨_, Heap.get?_push_size _ rfl, rfl, rfl⟩, hl1.push _⟩ (fun b o e => Heap.get?_push_of_some _ (Heap.get?_push_of_some _ e)) ⟨[], #[], 0, _, setTR_fresh (Heap.get?_push_of_some _ atS), Got.zero ks⟩ ?_
        · have q : items.toList[i]? = some v := by rw [Array.getElem?_toList]; exact hv
          rw [hit, List.getElem?_map] at q
          obtain ⟨p, hp, e⟩ := Option.map_eq_some_iff.mp q
          exact ⟨p, hp, e.symm⟩
        · rintro ⟨h', g2, d2, tk, os2⟩ m inn kp
          obtain rfl : g2 = s.gens := m.gens
          obtain rfl : d2 = s.drawn := m.drawn
          obtain rfl : os2 = s.os := m.os
          change wpAny _ _ _ _ _ _
          refine wpAny_pure ?_
          change wpAny _ _ (ret Value.none) _ _ _
          exact wpAny_pure ⟨rfl, h', tk, rfl, inn, kp⟩
      · rcases r2 with e | fl2
        · exact hr2
        · cases fl2 with
          | ret r =>
            obtain ⟨rfl, h', tk, rfl, inn, kp⟩ := hr2
            repeat (any_goals (first | assumption | wp_step))
            exact fin h' tk inn kp
          | _ => exact hr2.elim
    | _ => exact hr.elim
end
section
variable {X : Cx}
def rSetW (K : PySem.W.Frag) (P : Program) (w : World) : List V → Hp → VK → Prop := fun xs H Q => ∃ (l : Addr) (ks : List (Addr × List Int)), xs = [V.ref l] ∧ SqL K H l (ks.map fun q => V.ref q.1) ∧ (∀ q ∈ ks, SqT K H q.1 (q.2.map V.int)) ∧ (∃ D : List (List Int), D.length ≤ 62 ∧ ∀ q ∈ ks, q.2 ∈ D) ∧
  ∀ sa L, H sa = none → (∀ q ∈ L, q ∈ ks) → (∀ q ∈ ks, q.2 ∈ L.map (·.2)) → Q (.ref sa) (upd H sa (SetTO P w sa L))
theorem cr_setW (hc : X.calm = true) (hu : X.A.units + 64 < cLine) : CallR X (.type "set") (rSetW X.K X.prog X.w) := by
  intro pins s σ H xs us Q I r h
  obtain ⟨l, ks, rfl, hl, hk, ⟨D, hD, mD⟩, q⟩ := h
  obtain ⟨its, rv, pl, _⟩ := I.list hl
  rw [Vals.ref1 r]
  refine call_setW (P := X.prog) (w := X.w) (ks := ks) (I.ok.hd hc) pl.isList (by simpa using refs_of_vals rv) (fun q hq => I.isT (hk q hq)) hD mD (by omega) fun h' tk inn kp => ?_
  obtain ⟨L, es, ep, t, R, g⟩ := inn
  refine ⟨.ref s.heap.objs.size, upd H s.heap.objs.size (SetTO X.prog X.w s.heap.objs.size L), I.laid (t' := tk) kp (Nat.le_refl _) (setTO_new R.t0), rfl, q _ L (I.hok.fresh (Nat.le_refl _)) (fun p hp => List.mem_of_mem_take (g.sub p hp)) fun p hp => ?_⟩
  exact g.all p (by rw [List.take_length]; exact hp)
end
end LK

set_option Elab.async false
set_option linter.all false
set_option maxRecDepth 100000
namespace LK
open PySem PySem.Spec PyProof.Rows L2
/-! ### ==, != and repr of own objects, by their own methods -/
section
variable {prog : Program} {w : World} {A : Around} {E : Value → Shared → Prop} {s : Shared} {K : PySem.W.Frag} {x C : Addr} {ox : Obj} {od : Option Obj} {name : Str} {b tb : Value}
theorem ifBoundB_K {M : Model} {id : String} {args : List Value} {Q : Option Value → Shared → Prop} (X : K.In s.heap) (I : PySem.W.InstAt s.heap x ox C od) (hs : PySem.W.findIn K (.ref C) name = some (some (.builtin id)))
    (S : ∀ self, bindSpecial (.builtin id) self = pure (.builtin id, [self]))
    (h : wpAny M A (call (.builtin id) (.ref x :: args)) (fun v => Q (some v)) E s) : wpAny M A (callSpecialIfBound? (.ref x) name args) Q E s := by
  simp only [callSpecialIfBound?, bindSpecialIfBound?]
  refine wpAny_holding (wpAny_bind (wpAny_bind (wpAny_bind (I.type.here ((PySem.W.looks_findIn X hs).here ?_)))))
  simp only [S]
  refine wpAny_bind (wpAny_askSetting (wpAny_ite ?_))
  have fin : wpAny M A (call (.builtin id) ([.ref x] ++ args) >>= fun v => pure (some v)) Q E s := wpAny_bind (wpAny_mono h (fun v s' h' => wpAny_pure h') fun _ _ h' => h')
  split
  · exact wpAny_bind (wpAny_pure (wpAny_pure (by exact fin)))
  · exact wpAny_tryCatch (wpAny_bind (wpAny_pure (wpAny_pure (by exact fin))))
theorem cmpB_K {op : CmpOp} {id : String} {Q : Value → Shared → Prop} (hu : A.units < cLine) (X : K.In s.heap) (I : PySem.W.InstAt s.heap x ox C od) (hb : PySem.W.Looks (model prog w) s.heap (typeOf b) tb) (hn : PySem.W.notFirst K C tb = true)
    (hs : PySem.W.findIn K (.ref C) (cmpInfo op).2.1 = some (some (.builtin id))) (S : ∀ self, bindSpecial (.builtin id) self = pure (.builtin id, [self]))
    (h : wpAny (model prog w) A (call (.builtin id) [.ref x, b]) (PySem.W.CmpBack Q) E s) : wpAny (model prog w) A (richCompare op (.ref x) b) Q E s := by
  have one : wpAny (model prog w) A (tryCompare (.ref x) (cmpInfo op).2.1 b) (fun r s' => ∃ v, r = some v ∧ Q v s') E s := by
    unfold tryCompare
    refine wpAny_bind (ifBoundB_K X I hs S (wpAny_mono h (fun v s' hv => ?_) fun _ _ e => e))
    cases v <;> first | exact hv.elim | exact wpAny_pure ⟨_, rfl, hv⟩
  unfold richCompare
  simp only [oneThing_ref]
  refine wpAny_holding (wpAny_bind (wpAny_cRoomFor hu ?_))
  refine wpAny_bind (I.type.here (wpAny_bind (hb.here ?_)))
  split
  · rename_i q
    have e : PySem.W.subIn K tb (.ref C) = some false := by
      rcases Bool.or_eq_true_iff.mp hn with e | e
      · rw [beq_iff_eq.mp e] at q; simp at q
      · exact beq_iff_eq.mp e
    refine wpAny_bind ((PySem.W.looks_subIn X e).here ?_)
    simp only [Bool.false_eq_true, if_false]
    refine wpAny_bind (wpAny_mono one (fun r s' z => ?_) fun _ _ e => e)
    obtain ⟨v, rfl, hq⟩ := z
    exact wpAny_pure hq
  · refine wpAny_bind (wpAny_pure ?_)
    simp only [Bool.false_eq_true, if_false]
    refine wpAny_bind (wpAny_mono one (fun r s' z => ?_) fun _ _ e => e)
    obtain ⟨v, rfl, hq⟩ := z
    exact wpAny_pure hq
theorem objNe_K {f : Addr} (X : K.In s.heap) (I : PySem.W.InstAt s.heap x ox C od) (hs : PySem.W.findIn K (.ref C) "__eq__" = some (some (.ref f))) (hf : PySem.W.isFn K (.ref f) = true) (ht : PySem.W.mroIn K C (.type "object") = some true) (hu : A.in1.units < cLine) {Q : Value → Shared → Prop}
    (hcall : wpAny (model prog w) A.in1 (call (.ref f) [.ref x, b]) (fun v s' => ∃ k, v = .bool k ∧ Q (.bool (!k)) s') E s) :
    wpAny (model prog w) A (call (.builtin "object.__ne__") [.ref x, b]) Q E s := by
  have FB := F.cmp_object
  have sub : PySem.W.Looks (model prog w) s.heap (isInstance (.ref x) (.type "object")) true := I.type.andThen (PySem.W.looks_mroIn X ht)
  refine wpAny_call (codeAny_call_builtin FB.ne.plain F.cmpEntry_ne (@PySem.W.check_slot (model prog w) _ _ s "object.__ne__" "object" "__ne__" (.ref x) [b] [] _ F.cmpKind_ne F.cmpSplit_ne sub (F.cmpArgs_ne (.ref x) b) ?_))
  unfold Builtin.«object.__ne__»
  refine wpAny_bind (wpAny_pure ?_)
  refine wpAny_bind (wpAny_cRoomFor hu ?_)
  refine wpAny_bind (m := callSpecialIfBound? (.ref x) (Str.ofString "__eq__") [b]) (PySem.W.ifBound_K X I hs hf (wpAny_mono hcall (fun r s' hr => ?_) fun _ _ e => e))
  obtain ⟨k, rfl, hq⟩ := hr
  refine wpAny_bind (m := truthy (.bool _)) (wpAny_truthy_bool ?_)
  first | exact wpAny_pure hq | exact wpAny_pure ⟨_, rfl, hq⟩ | exact wpAny_pure (wpAny_pure hq)
theorem repr_K {f : Addr} {Q : Value → Shared → Prop} (X : K.In s.heap) (I : PySem.W.InstAt s.heap x ox C od) (hs : PySem.W.findIn K (.ref C) "__repr__" = some (some (.ref f))) (hf : PySem.W.isFn K (.ref f) = true) (hu : A.in1.units < cLine)
    (hcall : wpAny (model prog w) A.in1 (call (.ref f) [.ref x]) (fun r s' => ∃ m tk, r = .str m tk ∧ Q (.str m tk) s') E s) :
    wpAny (model prog w) A (call (.builtin "repr") [.ref x]) Q E s := by
  refine Calls.call_function_entry F.kind_repr F.plain_repr F.entry_repr (F.args_repr1 _) ?_
  unfold Builtin.«repr»
  refine wpAny_bind (m := oneArg "repr" _) (wpAny_pure ?_)
  refine wpAny_bind (wpAny_cRoomFor hu ?_)
  refine wpAny_bind (m := specialOf (.ref x) (Str.ofString "__repr__")) (wpAny_bind (I.type.here ((PySem.W.looks_findIn X hs).here ?_)))
  show wpAny _ _ (if (some (Value.ref f)).isNone = true then _ else _) _ _ _
  rw [if_neg (by simp)]
  refine wpAny_bind (m := callSpecialIfBound? (.ref x) (Str.ofString "__repr__") _) (PySem.W.ifBound_K X I hs hf (wpAny_mono hcall (fun r s' hr => ?_) fun _ _ y => y))
  obtain ⟨m, tk, rfl, hq⟩ := hr
  refine wpAny_bind (wpAny_isInstance (typeIs_str _ _ _) isSubtype_str_str ?_)
  first
    | exact wpAny_pure ⟨_, rfl, hq⟩
    | (rw [if_pos rfl]; exact wpAny_pure ⟨_, rfl, hq⟩)
    | (simp only [if_true]; exact wpAny_pure ⟨_, rfl, hq⟩)
end
section
variable {X : Cx} {CX : CXT} {n : Nat} {C f : Addr} {fd : FuncData} {ps : List Str} {sp : Sp} {E : XK}
/-- a def is called from within a builtin -/
theorem own_call (F : FnOk X.prog X.w X.K X.mg X.base CX n f fd ps sp) (hb : Binds X.K fd ps []) (hx : Passes CX X E) {A : Around} (hr : Room n A) (hf : A.frames = X.A.frames) {pins : List (Addr × Obj)} {σ : L2.St} {H : Hp} {s : Shared} {xs : List V} {us : List Value} {Q : VK} (I : Inv X pins σ H s) (r : Vals xs us) (h : sp xs H Q E) :
    wpAny (model X.prog X.w) A (call (.ref f) us) (EP X pins σ Q) X.xe s := by
  have e0 : Env0 X.prog X.w X.K X.mg X.base A X.stack s H := by
    have e := I.env0
    exact ⟨by rw [hf]; exact e.frames, e.mod, e.bs, e.bsz, e.funs, e.frf, e.hok, e.bare⟩
  have hl := F.len _ _ _ _ h
  refine wpAny_call (codeAny_mono (F.run A X.stack s H ⟨us, []⟩ us xs Q E hr e0 (by
    have := hb s us I.kIn (by rw [List.append_nil, ← r.length]; exact hl)
    simpa using this) r h) fun r s' hq => ?_)
  cases r with
  | error e => exact hx pins σ H s e s' I hq
  | ok fl =>
    cases fl with
    | ret w => exact I.after hq
    | next => exact False.elim hq
    | brk => exact False.elim hq
    | cont => exact False.elim hq
def rEqO (K : PySem.W.Frag) (C : Addr) (sp : Sp) (E : XK) : R2 := fun x y H Q => ∃ a dx fs t, x = .ref a ∧ H a = some (.ins C dx fs) ∧ TyX K H y t ∧ PySem.W.notFirst K C t = true ∧ sp [x, y] H (fun v H' => ∃ k, v = .bl k ∧ Q (.bl k) H') E
def rNeO (K : PySem.W.Frag) (C : Addr) (sp : Sp) (E : XK) : R2 := fun x y H Q => ∃ a dx fs t, x = .ref a ∧ H a = some (.ins C dx fs) ∧ TyX K H y t ∧ PySem.W.notFirst K C t = true ∧ sp [x, y] H (fun v H' => ∃ k, v = .bl k ∧ Q (.bl (!k)) H') E
theorem op_eqO (F : FnOk X.prog X.w X.K X.mg X.base CX n f fd ps sp) (hr : Room n X.A) (hs : PySem.W.findIn X.K (.ref C) "__eq__" = some (some (.ref f))) (hf : PySem.W.isFn X.K (.ref f) = true) (hb : Binds X.K fd ps []) (hx : Passes CX X E) : OpR X (compareOp .Eq) (rEqO X.K C sp E) := by
  intro pins s σ H x y v u Q I rx ry h
  obtain ⟨a, dx, fs, t, rfl, ha, ty, nf, h⟩ := h
  obtain rfl : v = Value.ref a := rx
  obtain ⟨mA, J, _⟩ := ins_get I.hok ha
  obtain ⟨od, J, _⟩ := J.look
  obtain ⟨P, Z, p, _⟩ := kit_of I ry ty
  obtain ⟨m, hF⟩ := I.fr
  show wpAny (model X.prog X.w) X.A (richCompare .Eq (.ref a) u) (EP X pins σ Q) X.xe s
  refine PySem.W.cmp_K (op := .Eq) hr.units0 hF I.ok.mod.kin J (Z.ty _ _ I.kIn p) nf hs hf ?_
  have rv : Vals [V.ref a, y] [Value.ref a, u] := .cons rfl (.cons ry .nil)
  refine wpAny_mono (own_call F hb hx hr rfl I rv h) (fun r s' q => ?_) fun _ _ x => x
  obtain ⟨z, H', I', rz, k, rfl, q⟩ := q
  obtain rfl : r = Value.bool k := rz
  exact ⟨.bl k, H', I', rfl, q⟩
theorem op_neO (F : FnOk X.prog X.w X.K X.mg X.base CX n f fd ps sp) (hr : Room (n + 1) X.A) (hs : PySem.W.findIn X.K (.ref C) "__eq__" = some (some (.ref f))) (hf : PySem.W.isFn X.K (.ref f) = true) (hn : PySem.W.findIn X.K (.ref C) "__ne__" = some (some (.builtin "object.__ne__")))
    (ht : PySem.W.mroIn X.K C (.type "object") = some true) (hb : Binds X.K fd ps []) (hx : Passes CX X E) : OpR X (compareOp .NotEq) (rNeO X.K C sp E) := by
  intro pins s σ H x y v u Q I rx ry h
  obtain ⟨a, dx, fs, t, rfl, ha, ty, nf, h⟩ := h
  obtain rfl : v = Value.ref a := rx
  obtain ⟨mA, J, _⟩ := ins_get I.hok ha
  obtain ⟨od, J, _⟩ := J.look
  obtain ⟨P, Z, p, _⟩ := kit_of I ry ty
  show wpAny (model X.prog X.w) X.A (richCompare .NotEq (.ref a) u) (EP X pins σ Q) X.xe s
  refine cmpB_K (op := .NotEq) hr.units0 I.kIn J (Z.ty _ _ I.kIn p) nf hn PySem.F.cmp_object.ne.bind ?_
  refine objNe_K I.kIn J hs hf ht hr.in1.units0 ?_
  have rv : Vals [V.ref a, y] [Value.ref a, u] := .cons rfl (.cons ry .nil)
  refine wpAny_mono (own_call F hb hx hr.in1 rfl I rv h) (fun r s' q => ?_) fun _ _ x => x
  obtain ⟨z, H', I', rz, k, rfl, q⟩ := q
  obtain rfl : r = Value.bool k := rz
  exact ⟨k, rfl, .bl (!k), H', I', rfl, q⟩
theorem call_reprO (F : FnOk X.prog X.w X.K X.mg X.base CX n f fd ps sp) (hr : Room (n + 1) X.A) (hs : PySem.W.findIn X.K (.ref C) "__repr__" = some (some (.ref f))) (hf : PySem.W.isFn X.K (.ref f) = true) (hb : Binds X.K fd ps []) (hx : Passes CX X E) :
    CallR X (.builtin "repr") (fun xs H Q => ∃ a dx fs, xs = [.ref a] ∧ H a = some (.ins C dx fs) ∧ sp xs H (fun v H' => ∃ z : Str, v = .str z ∧ Q (.str z) H') E) := by
  intro pins s σ H xs us Q I r h
  obtain ⟨a, dx, fs, rfl, ha, h⟩ := h
  obtain ⟨u, rfl, ru⟩ := vals1 r
  obtain rfl : u = Value.ref a := ru
  obtain ⟨mA, J, _⟩ := ins_get I.hok ha
  obtain ⟨od, J, _⟩ := J.look
  refine repr_K I.kIn J hs hf hr.in1.units0 ?_
  have rv : Vals [V.ref a] [Value.ref a] := .cons rfl .nil
  refine wpAny_mono (own_call F hb hx hr.in1 rfl I rv h) (fun r s' q => ?_) fun _ _ x => x
  obtain ⟨z, H', I', rz, y, rfl, q⟩ := q
  obtain ⟨tk, rfl⟩ := rz
  exact ⟨y, tk, rfl, .str y, H', I', ⟨tk, rfl⟩, q⟩
end
/-- o.m(k = v, ..) -/
def tMethZ (C : Addr) (m : Str) (k : Nat) (sp : Sp) (gV : List V → List V → List V) (E : XK) (ta : TE) (tk : TA) : TE := fun σ H Q => ta σ H fun x H1 => ∃ a dx fs, x = .ref a ∧ H1 a = some (.ins C dx fs) ∧ fs.lookup m = none ∧ tk σ H1 fun zs H2 => zs.length = k ∧ sp (gV [.ref a] zs) H2 Q E
theorem pe_methZ {X : Cx} {CX : CXT} {k : Nat} {C f : Addr} {m : Str} {fd : FuncData} {ps ks : List Str} {sp : Sp} {E : XK} {o : Expr} {apos pos : Pos} {ta : TE} {kws : List Keyword} {tk : TA} {g : List Value → List Value → List Value} {gV : List V → List V → List V} {pl : Sem Bool}
    (he : PE X o ta) (c : Cls X.K C) (hm : Meth X.K C m f) (F : FnOk X.prog X.w X.K X.mg X.base CX k f fd ps sp) (hr : Room k X.A) (hb : KBn X.K fd ps 1 ks g gV) (hx : Passes CX X E) (hkw : PK X kws tk)
    (hall : (backToKw pos (keywordEach kws X.env)).all (·.1.isSome) = true := by rfl) (hks : (backToKw pos (keywordEach kws X.env)).filterMap (·.1) = ks := by rfl)
    (hpl : ((backTo pos (starEach [] X.env)).any (·.1) || (backToKw pos (keywordEach kws X.env)).any (·.1.isNone)) = false := by rfl)
    (ht : eval (.Call (.Attribute o m apos) [] kws pos) X.env = (do
      let ov ← eval o X.env
      standAt apos.atName
      let (f, first) ← holding [ov] (getMethod ov m pl)
      callWith pos f first (backTo pos (starEach [] X.env)) (backToKw pos (keywordEach kws X.env))) := by rfl) :
    PE X (.Call (.Attribute o m apos) [] kws pos) (tMethZ C m ks.length sp gV E ta tk) := by
  refine ⟨fun pins s σ H Q I h => ?_⟩
  refine PySem.W.methodCall_KW (pl := pl) (thn (he.run pins s σ H _ I h) fun u s1 ⟨x, H1, I1, rx, a, dx, fs, ex, ea, l, q⟩ => ?_) ht
  subst ex
  obtain rfl : u = Value.ref a := rx
  refine getmeth_ok I1 ea c hm l ?_
  refine PySem.W.callWith_KW0 (first := [.ref a]) (h₀ := X.base) I.ok.mod.kin hm.kp hall (thn (hkw.run pos pins s1 σ H1 _ I1 q) fun ws s2 ⟨zs, H2, I2, rz, l2, q2⟩ => ⟨I2.kIn, ?_⟩) hpl
  rw [hks]
  have ra : Vals [V.ref a] [Value.ref a] := .cons rfl .nil
  exact run_fnN (us := [.ref a]) (vs := [.ref a]) F hr hb hx I2 ra rz rfl l2 q2
end LK

set_option Elab.async false
set_option linter.all false
set_option maxRecDepth 100000
set_option maxHeartbeats 4000000
/-! ### fields of an own exception whose row of bases ends in tl -/
namespace LK
open PySem PySem.W PySem.Calls PyProof.Rows PySem.HandSPX Builtin Builtin.ObjectAttr
/-- own classes, then tl -/
def Refs (tl l : List Value) : Prop := ∃ cs : List Addr, l = cs.map Value.ref ++ tl
theorem Refs.cons {tl l : List Value} (h : Refs tl l) (C : Addr) : Refs tl (.ref C :: l) := by
  obtain ⟨cs, rfl⟩ := h
  exact ⟨C :: cs, rfl⟩
theorem Refs.contains {tl l : List Value} (h : Refs tl l) (X : String) : l.contains (.type X) = tl.contains (.type X) := by
  obtain ⟨cs, rfl⟩ := h
  induction cs with
  | nil => rfl
  | cons c cs ih => simpa [List.contains_cons] using ih
theorem Refs.passes {tl l : List Value} (h : Refs tl l) {self : Value} (p : refuseLoop self "__setattr__" tl = pure ()) : refuseLoop self "__setattr__" l = pure () := by
  obtain ⟨cs, rfl⟩ := h
  induction cs with
  | nil => exact p
  | cons c cs ih => exact (refuseLoop_ref self "__setattr__" c _).trans ih
theorem Refs.full {tl l : List Value} (h : Refs tl l) (n : tl.isEmpty = false) : l.isEmpty = false := by
  obtain ⟨cs, rfl⟩ := h
  cases cs with
  | nil => exact n
  | cons _ _ => rfl
section
variable {prog : Program} {w : World} {A : Around} {R : Result → Shared → Prop} {hp : Heap} {g : Array GenState} {d : Drawn} {t : Nat} {os : OsState}
/-- object.__setattr__ on it comes to the storing in its own dict -/
theorem store_own {B : String} {tl : List Value} (SF : StoreFacts B tl "object.__setattr__" "object") (tn : tl.isEmpty = false) (to : tl.contains (.type "object") = true) {K : W.Frag} {name : Str} {tk : Tok} {v : Value} {x C : Addr} {od : Option Obj} {ox : Obj} {cd : ClassData}
    (X : K.In hp) (I : W.InstAt hp x ox C od) (hcd : W.clsIn K C = some cd) (hm : Refs tl cd.mro) (ha : W.findIn K (.ref C) name = some none)
    (hq : wpAny (model prog w) A.in1 (storeInOwnDict (.ref x) (.ref C) (.str name tk) name v false) (fun fin s' => match fin with | .done f => R (.ok f) s' | .again c' => c'.quiet = true ∧ codeAny (model prog w) A c' R s') (fun e s' => R (.error e) s') ⟨hp, g, d, t, os⟩) :
    codeAny (model prog w) A (.call (.builtin "object.__setattr__") ⟨[.ref x, .str name tk, v], []⟩) R ⟨hp, g, d, t, os⟩ := by
  have Fo := F.store_object
  have inMro : W.mroIn K C (.type "object") = some true := by
    unfold W.mroIn
    rw [hcd, Option.bind_some, if_neg (by rw [hm.full tn]; decide), hm.contains, to]
  have isObj : W.Looks (model prog w) hp (isInstance (.ref x) (.type "object")) true := I.type.andThen (W.looks_mroIn X inMro)
  have look : W.Looks (model prog w) hp (mroOf (.ref C)) cd.mro := (W.looks_clsIn X hcd).andThen .now
  have taker : W.Looks (model prog w) hp (storeTaker? none) none := .now
  refine codeAny_call_builtin Fo.slot.plain Fo.entry (W.check_slot (M := model prog w) (s := ⟨hp, g, d, t, os⟩) (i := "object.__setattr__") (owner := "object") (n := "__setattr__") (self := .ref x) (rest := [.str name tk, v]) (kw := []) Fo.kind Fo.split isObj (Fo.args _ _ _) ?_)
  rw [W.osa_eq, refuse_eq]
  refine wpAny_bind (wpAny_bind (I.type.at (wpAny_bind (look.at ?_))))
  rw [hm.passes (SF.passes _)]
  exact wpAny_pure (wpAny_bind (I.type.at (wpAny_bind ((W.looks_findIn X ha).at (wpAny_bind (taker.at hq))))))
/-- the first field: a new dict -/
theorem put_new {K : W.Frag} {name : Str} {tk : Tok} {v : Value} {x C : Addr} {fv : Array Value} {cd : ClassData} {Q : Fin → Shared → Prop} {E : Value → Shared → Prop} (X : K.In hp) (hx : hp.get? x = some { cls := .ref C, data := .fields fv }) (hcd : W.clsIn K C = some cd) (hh : cd.hasDict = true)
    (hq : ∀ h' tk' dx, (∀ b o, b ≠ x → hp.get? b = some o → h'.get? b = some o) → hp.objs.size ≤ dx → dx ≠ x → h'.get? x = some { cls := .ref C, dict := some dx, data := .fields fv } → h'.Ns1 dx (fun y => if y = name then some v else none) → Q (.done (.ret .none)) ⟨h', g, d, tk', os⟩) :
    wpAny (model prog w) A (storeInOwnDict (.ref x) (.ref C) (.str name tk) name v false) Q E ⟨hp, g, d, t, os⟩ := by
  have far : x ≠ hp.objs.size := Nat.ne_of_lt (Heap.lt_size hx)
  have cls : W.Looks (model prog w) hp (classData C) cd := W.looks_clsIn X hcd
  cases cd with | mk c1 c2 c3 c4 c5 c6 c7 c8 c9 c10 c11 =>
  cases (show c6 = true from hh)
  unfold storeInOwnDict ownDictForStores
  repeat (first | with_reducible refine HandSPX.store_in_new ?_ ?_ | with_reducible refine wpAny_loadPart_at hx ?_ | with_reducible refine cls.at ?_ | wp_step)
  · exact ⟨_, #[], _, Eq.trans (Heap.get?_update_ne _ _ _ _ far.symm) (Heap.get?_push_at rfl rfl), rfl, (fun e he => by simp at he), fun _ => rfl⟩
  · intro h' tk' ns same
    have keepx := Heap.get?_push_of_some { cls := .type "dict", data := .dict #[] } hx
    have kept : ∀ b o, b ≠ x → hp.get? b = some o → h'.get? b = some o := fun b o nb e => by
      rw [same.2 b (Nat.ne_of_lt (Heap.lt_size e)), Heap.get?_update_ne _ _ _ _ nb]
      exact Heap.get?_push_of_some _ e
    exact hq h' tk' hp.objs.size kept (Nat.le_refl _) far.symm ((same.2 x far).trans (Heap.get?_update_self _ keepx rfl)) ns
/-- a further one -/
theorem put_old {K : W.Frag} {name : Str} {tk : Tok} {v : Value} {x C dx : Addr} {fv : Array Value} {cd : ClassData} {m0 : Str → Option Value} {nl : List Str} {Q : Fin → Shared → Prop} {E : Value → Shared → Prop} (X : K.In hp) (hx : hp.get? x = some { cls := .ref C, dict := some dx, data := .fields fv }) (hns : hp.Ns1 dx m0) (hw : Within m0 nl) (hz : nl.length ≤ 1000) (hcd : W.clsIn K C = some cd) (hh : cd.hasDict = true)
    (hq : ∀ h' tk', (∀ b o, b ≠ dx → hp.get? b = some o → h'.get? b = some o) → h'.Ns1 dx (fun y => if y = name then some v else m0 y) → Q (.done (.ret .none)) ⟨h', g, d, tk', os⟩) :
    wpAny (model prog w) A (storeInOwnDict (.ref x) (.ref C) (.str name tk) name v false) Q E ⟨hp, g, d, t, os⟩ := by
  have cls : W.Looks (model prog w) hp (classData C) cd := W.looks_clsIn X hcd
  cases cd with | mk c1 c2 c3 c4 c5 c6 c7 c8 c9 c10 c11 =>
  cases (show c6 = true from hh)
  unfold storeInOwnDict ownDictForStores
  repeat (first | with_reducible refine OEX.store_in_old hns hw hz ?_ | with_reducible refine wpAny_loadPart_at hx ?_ | with_reducible refine cls.at ?_ | wp_step)
  exact fun h' tk' ns same => hq h' tk' (fun b o nb e => (same.2 b nb).trans e) ns
end
end LK

set_option Elab.async false
set_option linter.all false
set_option maxRecDepth 100000
set_option maxHeartbeats 4000000
namespace LK
open PySem PySem.Spec PyProof.Rows L2
/-- what the head tells of an own exception class, its row of bases ending in tl -/
structure OexM (K : PySem.W.Frag) (C : Addr) (newId : String) (tl : List Value) : Prop where
  cls : ∃ nm q N bs bm sn sub ab col dd k0 k1 k2 k3 k5, K.lookup C = some (excClassObj nm q C N bs bm true sn sub ab col dd k0 k1 k2 k3 k5 newId) ∧ Refs tl bm
  sa : PySem.W.findIn K (.ref C) "__setattr__" = some (some (.builtin "object.__setattr__"))
  exC : PySem.W.subIn K (.ref C) (.type "BaseException") = some true
  tyC : PySem.W.typeIn K (.ref C) = some (.type "type")
  kC : PySem.W.keepIn K (.ref C) = true
/-- what a base itself has -/
structure Base (B newId initId : String) (tl : List Value) : Prop where
  ex : ExcBaseFacts B newId initId tl
  st : StoreFacts B tl "object.__setattr__" "object"
  ne : tl.isEmpty = false
  ob : tl.contains (.type "object") = true
abbrev leTail : List Value := [.type "LookupError", .type "Exception", .type "BaseException", .type "object"]
theorem baseLE : Base "LookupError" "LookupError.__new__" "LookupError.__init__" leTail := ⟨PySem.F.excBase_LookupError, PySem.F.store_LookupError, rfl, by decide +kernel⟩
theorem OexM.cdata {K : PySem.W.Frag} {C : Addr} {newId : String} {tl : List Value} (T : OexM K C newId tl) : ∃ cd, PySem.W.clsIn K C = some cd ∧ cd.hasDict = true ∧ Refs tl cd.mro := by
  obtain ⟨nm, q, N, bs, bm, sn, sub, ab, col, dd, k0, k1, k2, k3, k5, hC, hbm⟩ := T.cls
  refine ⟨_, by unfold PySem.W.clsIn; rw [hC] <;> rfl, rfl, hbm.cons C⟩
section
variable {X : Cx} {pins : List (Addr × Obj)} {σ : L2.St} {H : Hp} {s : Shared} {a C dx : Addr} {f : Str} {y : V} {u : Value} {fs : List (Str × V)} {Q : Unit → Shared → Prop} {E : Value → Shared → Prop} {A : Around} {B newId initId : String} {tl : List Value}
theorem set_new (F : Base B newId initId tl) (T : OexM X.K C newId tl) (I : Inv X pins σ H s) (e : H a = some (exo a C none)) (hno : PySem.W.findIn X.K (.ref C) f = some none) (ry : RelV y u)
    (h : ∀ dx s', H dx = none → dx ≠ a → Inv X pins σ (L2.upd (L2.upd H dx (exd dx [(f, y)])) a (exo a C (some dx))) s' → Q () s') : wpAny (model X.prog X.w) A (setAttr (.ref a) f u) Q E s := by
  obtain ⟨cd, hcl, hd, hm⟩ := T.cdata
  obtain ⟨t1, ho⟩ := exo_at I.hok e
  obtain ⟨hp, g, d, t, os⟩ := s
  have J : PySem.W.InstAt hp a { cls := .ref C, dict := none, data := .fields #[.ref t1, .none, .none, .none, .bool false, .none] } C none := ⟨ho, rfl, rfl, trivial⟩
  refine PySem.W.set_plain I.kIn J T.sa (store_own F.st F.ne F.ob I.kIn J hcl hm hno (put_new I.kIn ho hcl hd fun h' tk' dx kept fresh nx at_ ns => ?_))
  have hnd : H dx = none := I.hok.fresh fresh
  have off : ∀ {b : Addr} {o : Obj}, hp.get? b = some o → b ≠ dx := fun {b o} q => Nat.ne_of_lt (Nat.lt_of_lt_of_le (Heap.lt_size q) fresh)
  have nota : ∀ {b : Addr}, H b = none → b ≠ a := fun {b} n z => by rw [z, e] at n; cases n
  have through : ∀ {b : Addr} {o : HO}, H b = some o → o ≠ exo a C none → L2.upd (L2.upd H dx (exd dx [(f, y)])) a (exo a C (some dx)) b = some o := fun {b o} q ne => by
    rw [upd_ne (at_ne e q ne.symm), upd_ne (ne_of_none q hnd)]
    exact q
  have U : Un X.fs [] H (L2.upd (L2.upd H dx (exd dx [(f, y)])) a (exo a C (some dx))) hp h' := {
    keep := fun b o q n _ _ => kept b o (nota n) q
    slot := fun b o q n _ _ => ⟨o.slots, kept b o (nota n) q⟩
    free := fun b o q n _ => (upd_ne (nota n)).trans ((upd_ne (off q)).trans n)
    there := fun b o q _ => if hb : b = a then ⟨_, hb ▸ at_⟩ else ⟨o, kept b o hb q⟩
    tups := fun b xs q => through q fun z => exo_tup z.symm
    frzs := fun b o v q => through q fun z => exo_frz z.symm
    tbls := fun b ps q => ⟨#[], by rw [through q fun z => exo_tbl z.symm]; simp⟩ }
  refine h dx _ hnd nx (I.un (t' := tk') U fun b o q => ?_)
  by_cases hb : b = a
  · rw [hb, upd_same] at q
    rw [hb]
    cases q
    exact exo_ok at_
  · rw [upd_ne hb] at q
    by_cases hx : b = dx
    · rw [hx, upd_same] at q
      rw [hx]
      cases q
      exact exd_ok ns (relO_put (fs := []) ry fun g => True.intro)
    · rw [upd_ne hx] at q
      refine (I.hok b o q).stay (fun c v hc z => kept c v ?_ z) (fun c hc => through hc fun z => exo_own z.symm) (fun c xs hc => through hc fun z => exo_tup z.symm)
      rcases hc with rfl | hc
      · exact hb
      · exact at_ne e hc exo_own
theorem set_old (F : Base B newId initId tl) (T : OexM X.K C newId tl) (I : Inv X pins σ H s) (e : H a = some (exo a C (some dx))) (ed : H dx = some (exd dx fs)) (hl : fs.length ≤ 900) (hno : PySem.W.findIn X.K (.ref C) f = some none) (ry : RelV y u)
    (h : ∀ s', Inv X pins σ (L2.upd H dx (exd dx ((f, y) :: fs))) s' → Q () s') : wpAny (model X.prog X.w) A (setAttr (.ref a) f u) Q E s := by
  obtain ⟨cd, hcl, hd, hm⟩ := T.cdata
  obtain ⟨t1, ho⟩ := exo_at I.hok e
  obtain ⟨mA, hns, rel⟩ := exd_at I.hok ed
  have hw := within_of rel
  obtain ⟨hp, g, d, t, os⟩ := s
  obtain ⟨oD, _, _, hoD, _⟩ := hns.count hw
  have J : PySem.W.InstAt hp a { cls := .ref C, dict := some dx, data := .fields #[.ref t1, .none, .none, .none, .bool false, .none] } C (some oD) := ⟨ho, rfl, rfl, hoD⟩
  refine PySem.W.set_plain I.kIn J T.sa (store_own F.st F.ne F.ob I.kIn J hcl hm hno (put_old I.kIn ho hns hw (by rw [List.length_map]; omega) hcl hd fun h' tk' kept ns => h _ ?_))
  obtain ⟨o2, es, ep, at2, r2⟩ := id ns
  exact I.write (t' := tk') (x := dx) (e := dx) (o := exd dx ((f, y) :: fs)) (by rw [ed]; exact True.intro) (.inl rfl) kept ⟨o2, at2⟩ (exd_ok ns (relO_put ry rel))
end
/-- self.f = e -/
def tOstM (K : PySem.W.Frag) (newId : String) (tl : List Value) (f : Str) (to te : TE) : TS := fun D σ H => te σ H fun y H1 => to σ H1 fun x H2 => ∃ a C : Addr, x = .ref a ∧ OexM K C newId tl ∧ PySem.W.findIn K (.ref C) f = some none ∧
  ((H2 a = some (exo a C none) ∧ ∀ dx, H2 dx = none → dx ≠ a → D.nx σ (L2.upd (L2.upd H2 dx (exd dx [(f, y)])) a (exo a C (some dx)))) ∨
    ∃ (dx : Addr) (fs : List (Str × V)), H2 a = some (exo a C (some dx)) ∧ H2 dx = some (exd dx fs) ∧ fs.length ≤ 900 ∧ D.nx σ (L2.upd H2 dx (exd dx ((f, y) :: fs))))
section
variable {X : Cx} {o e : Expr} {es : List Expr} {to te : TE} {ta : TA} {f : Str} {p p' p1 p2 pos : Pos} {B newId initId : String} {tl : List Value}
theorem ps_ostM (F : Base B newId initId tl) (ho : PE X o to) (he : PE X e te) (hs : swapsWith e (some (.Attribute o f p')) pos.line X.env = pure false := by rfl) : PS X (.Assign [.Attribute o f p'] e pos) (tOstM X.K newId tl f to te) := by
  refine ⟨fun pins s σ H D I h => plainObj_wpAny_Assign_Attribute (thn (he.run pins s σ H _ I h) fun v s1 q => ?_) hs⟩
  obtain ⟨y, H1, I1, r1, q1⟩ := q
  refine thn (ho.run pins s1 σ H1 _ I1 q1) fun u s2 q => ?_
  obtain ⟨x, H2, I2, r2, a, C, rfl, T, hno, q⟩ := q
  cases (show u = Value.ref a from r2)
  rcases q with ⟨ea, q⟩ | ⟨dx, fs, ea, ed, hl, q⟩
  · exact set_new F T I2 ea hno r1 fun dx s' n ne J => ⟨σ, _, J, q dx n ne⟩
  · exact set_old F T I2 ea ed hl hno r1 fun s' J => ⟨σ, _, J, q⟩
/-- C(e, ..) of such a class, C's own __init__ keeping sp -/
theorem pmk_oexM (F : Base B newId initId tl) {CX : CXT} {x : Str} {C fI : Addr} {k : Nat} {fd : FuncData} {ps : List Str} {sp : Sp} {ds : List Value} {dvs : List V} (T : OexM X.K C newId tl) (iC : PySem.W.findIn X.K (.ref C) "__init__" = some (some (.ref fI))) (tI : PySem.W.typeIn X.K (.ref fI) = some (.type "function"))
    (F1 : FnOk X.prog X.w X.K X.mg X.base CX k fI fd ps sp) (hr : Room (k + 1) X.A) (hb : Binds X.K fd ps ds) (hd : Vals dvs ds) (hx : Passes CX X (fun _ _ _ => False)) (hg : Gl X x) (hm : X.mg x = some (.ref C)) (ha : PA X (e :: es) ta)
    (hdb : (x == ("__debug__" : Str)) = false := by decide) (he : starEach (e :: es) X.env = (false, eval e X.env) :: starEach es X.env := by rfl) (hpl : (backTo pos (starEach es X.env)).any (·.1) = false := by rfl) :
    PMk X (.Call (.Name x p) (e :: es) [] pos) (tMkO C sp dvs ta) := by
  intro pins s σ H Q I h
  obtain ⟨nm, q, N, bs, bm, sn, sub, ab, col, dd, k0, k1, k2, k3, k5, hC, hbm⟩ := T.cls
  refine wpAny_Call_Name_kw (ld_glob I hg hm ?_ hdb)
  refine PySem.W.callWith_K (h₀ := X.base) I.ok.mod.kin T.kC (thn (ha.run pos pins s σ H _ I h) fun us s1 q1 => ?_) he hpl
  obtain ⟨vs, H1, I1, r1, hz, q1⟩ := q1
  refine ⟨I1.kIn, ?_⟩
  show wpAny _ _ (call (.ref C) us) _ _ _
  obtain ⟨hp, g, dr, tk, os⟩ := s1
  generalize hA : hp.objs.size + 1 = a at *
  have hsz : hp.objs.size ≤ a := by rw [← hA]; exact Nat.le_succ _
  have hq := q1 a (I1.hok.fresh hsz)
  have at_ : ((hp.push (PySem.W.kdv_tup us)).push (PySem.HandSPX.excO C hp.objs.size)).get? a = some (PySem.HandSPX.excO C hp.objs.size) := by rw [← hA]; heap_get
  have I2 : Inv X pins σ (L2.upd H1 a (exo a C none)) ⟨(hp.push (PySem.W.kdv_tup us)).push (PySem.HandSPX.excO C hp.objs.size), g, dr, tk, os⟩ :=
    I1.laid (t' := tk) (a := a) (o := exo a C none) (fun b o e => Heap.get?_push_of_some _ (Heap.get?_push_of_some _ e)) hsz (exo_ok at_)
  have r2 : Vals (V.ref a :: (vs ++ dvs)) (Value.ref a :: (us ++ ds)) := .cons rfl (r1.append hd)
  have many : us.length ≤ sizeLine := by
    have l := Paired.length r1
    have b : (1000 : Nat) ≤ sizeLine := by decide
    omega
  have run := F1.run _ X.stack _ _ ⟨Value.ref a :: us, []⟩ (Value.ref a :: (us ++ ds)) _ _ (fun _ _ _ => False) (hr.make C us []) (I2.env0.make C us []) (hb _ (Value.ref a :: us) I2.kIn (r2.length.symm.trans (F1.len _ _ _ _ hq))) r2 hq
  subst hA
  refine wpAny_call (PySem.HandSPX.call_own F.ex (fun Y => hbm.contains Y) (I1.kIn _ _ hC) (PySem.W.looks_findIn I1.kIn iC) (fun self => PySem.W.bind_fn I1.kIn self tI) many (codeAny_mono run fun r s' hq' => ?_))
  match r, hq' with
  | .error er, z => exact hx pins σ _ _ er s' I2 z
  | .ok .next, z => exact z.elim
  | .ok .brk, z => exact z.elim
  | .ok .cont, z => exact z.elim
  | .ok (.ret u), ⟨v, H2, os2, bare2, un2, hok2, rv, ev, d, fs, ea, ed, hd1, q2⟩ =>
    subst ev
    exact ⟨rv, mk_end (raises_own T.exC T.tyC) I1 hsz (fun b o e => Heap.get?_push_of_some _ (Heap.get?_push_of_some _ e)) un2 hok2 os2 bare2 ea ed hd1 q2⟩
end
end LK

set_option Elab.async false
set_option linter.all false
set_option maxRecDepth 100000
set_option maxHeartbeats 4000000
/-! ### own exceptions as values: made with keywords, held at the heap -/
namespace LK
open PySem PySem.W PySem.Calls PyProof.Rows PySem.HandSPX Builtin Builtin.ObjectAttr
section
variable {prog : Program} {w : World} {A : Around} {E : Value → Shared → Prop} {R : Result → Shared → Prop} {hp : Heap} {gs : Array GenState} {dr : Drawn} {tk : Nat} {os : OsState}
variable {nm q : Str} {C N : Addr} {bs bm tl : List Value} {sn : List Str} {sub : List Value} {ab : Bool} {col : Option Bool} {dd : Option Addr} {k0 k1 k2 k3 k5 : Option Value} {B newId initId : String} {us : List Value} {kws : List (Str × Value)} {fI : Addr}
theorem checks_new (F : ExcBaseFacts B newId initId tl) (same : ∀ Y : String, bm.contains (.type Y) = tl.contains (.type Y)) {Q : Unit → Shared → Prop}
    (hC : hp.get? C = some (excClassObj nm q C N bs bm true sn sub ab col dd k0 k1 k2 k3 k5 newId)) (done : Q () ⟨hp, gs, dr, tk, os⟩) :
    wpAny (model prog w) A (checkBuiltinCall newId ⟨.ref C :: us, kws⟩) Q E ⟨hp, gs, dr, tk, os⟩ := by
  have own : (Value.ref C :: bm).contains (.type B) = true := by
    rw [List.contains_cons, same, F.hasB]
    exact Bool.or_true _
  have st := F.noStar
  simp only [checkBuiltinCall, F.newKind, F.newSplit, F.newRow]
  repeat (first
    | refine wpAny_loadPart_at hC ?_
    | (refine wpAny_isSubtype_exc hC ?_; rw [own])
    | refine wpAny_staticBase_exc hC ?_
    | refine wpAny_madeBy_exc hC ?_
    | simp only [bne_self_eq_false, Bool.false_eq_true, if_false]
    | wp_step)
  exact done
theorem makes_new (F : ExcBaseFacts B newId initId tl) (same : ∀ Y : String, bm.contains (.type Y) = tl.contains (.type Y)) (hC : hp.get? C = some (excClassObj nm q C N bs bm true sn sub ab col dd k0 k1 k2 k3 k5 newId)) (few : us.length ≤ sizeLine)
    (done : R (.ok (.ret (.ref (hp.objs.size + 1)))) ⟨(hp.push (W.kdv_tup us)).push (excO C hp.objs.size), gs, dr, tk, os⟩) :
    codeAny (model prog w) A (.builtin newId ⟨.ref C :: us, kws⟩) R ⟨hp, gs, dr, tk, os⟩ := by
  have en := F.ends
  have c1 : (Value.ref C :: bm).contains (.type B) = true := by
    rw [List.contains_cons, same, F.hasB]
    exact Bool.or_true _
  have c2 : (Value.ref C :: bm).contains (.type "AttributeError") = false := by
    rw [List.contains_cons, same, F.noAttr]
    rfl
  have c3 : (Value.ref C :: bm).contains (.type "NameError") = false := by
    rw [List.contains_cons, same, F.noName]
    rfl
  refine codeAny_builtinAt F.entry ?_
  unfold Builtin.«BaseException.__new__»
  refine PySem.wpAt_bind ?_
  show PySem.wpAt _ _ _ (stack >>= _) _ _ _
  refine PySem.wpAt_bind (PySem.wpAt_stack fun _ _ => PySem.wpAt_of_wpAny ?_)
  wp_walk
  refine PySem.wpAt_of_wpAny ?_
  rw [F.owner]
  repeat (first
    | with_reducible refine wpAny_madeHere_exc F.canon hC ?_
    | with_reducible refine wpAny_loadPart_at hC ?_
    | (with_reducible refine wpAny_isSubtype_exc hC ?_; first | rw [c1] | rw [c2] | rw [c3])
    | wp_step)
  show R _ _
  rw [Heap.size_push]
  exact done
theorem type_makes (F : ExcBaseFacts B newId initId tl) (same : ∀ Y : String, bm.contains (.type Y) = tl.contains (.type Y)) {Q : Fin → Shared → Prop} (hC : hp.get? C = some (excClassObj nm q C N bs bm true sn sub ab col dd k0 k1 k2 k3 k5 newId))
    (li : W.Looks (model prog w) hp (typeLookup (.ref C) "__init__") (some (.ref fI))) (lb : ∀ self, W.Looks (model prog w) hp (bindSpecial (.ref fI) self) (.ref fI, [self])) (few : us.length ≤ sizeLine)
    (done : codeAny (model prog w) A (.call (.ref fI) ⟨.ref (hp.objs.size + 1) :: us, kws⟩)
      (fun r s' => match r with | .ok (.ret v) => v = .none ∧ Q (.done (.ret (.ref (hp.objs.size + 1)))) s' | .ok _ => False | .error e => E e s')
      ⟨(hp.push (W.kdv_tup us)).push (excO C hp.objs.size), gs, dr, tk, os⟩) :
    wpAny (model prog w) A (Builtin.«type.__call__» ⟨.ref C :: us, kws⟩) Q E ⟨hp, gs, dr, tk, os⟩ := by
  repeat (first
    | with_reducible refine wpAny_loadPart_at hC ?_
    | with_reducible refine wpAny_madeBy_exc hC ?_
    | wp_step)
  refine codeAny_call_builtin_code (Code.quiet_builtin _ F.quiet) (checks_new F same hC ?_)
  refine makes_new F same hC few ?_
  show wpAny _ _ _ _ _ _
  have up : ∀ b o, hp.get? b = some o → ((hp.push (W.kdv_tup us)).push (excO C hp.objs.size)).get? b = some o := fun b o z => Heap.get?_push_of_some _ (Heap.get?_push_of_some _ z)
  have hC2 := up _ _ hC
  have at_ : ((hp.push (W.kdv_tup us)).push (excO C hp.objs.size)).get? (hp.objs.size + 1) = some (excO C hp.objs.size) := by heap_get
  have itself : (Value.ref C :: bm).contains (.ref C) = true := by simp
  unfold isInstance
  repeat (first
    | with_reducible refine wpAny_loadPart_at at_ ?_
    | (with_reducible refine wpAny_isSubtype_exc hC2 ?_; rw [itself])
    | wp_step)
  show wpAny _ _ (typeLookup (.ref C) _) _ _ _
  refine (li.keeps up).at ?_
  refine wpAny_holding (wpAny_bind (((lb (.ref (hp.objs.size + 1))).keeps up).at ?_))
  refine wpAny_bind (wpAny_call (codeAny_mono done fun r s' z => ?_))
  match r, z with
  | .error e, z => exact z
  | .ok .next, z => exact z.elim
  | .ok .brk, z => exact z.elim
  | .ok .cont, z => exact z.elim
  | .ok (.ret v), ⟨ev, z⟩ =>
    subst ev
    first
      | exact wpAny_pure (wpAny_pure z)
      | (wp_walk; exact z)
theorem call_makes (F : ExcBaseFacts B newId initId tl) (same : ∀ Y : String, bm.contains (.type Y) = tl.contains (.type Y)) (hC : hp.get? C = some (excClassObj nm q C N bs bm true sn sub ab col dd k0 k1 k2 k3 k5 newId))
    (li : W.Looks (model prog w) hp (typeLookup (.ref C) "__init__") (some (.ref fI))) (lb : ∀ self, W.Looks (model prog w) hp (bindSpecial (.ref fI) self) (.ref fI, [self])) (few : us.length ≤ sizeLine)
    (done : codeAny (model prog w) (A.under (.builtin "type.__call__" ⟨.ref C :: us, kws⟩)) (.call (.ref fI) ⟨.ref (hp.objs.size + 1) :: us, kws⟩) (W.InitBack (hp.objs.size + 1) R)
      ⟨(hp.push (W.kdv_tup us)).push (excO C hp.objs.size), gs, dr, tk, os⟩) :
    codeAny (model prog w) A (.call (.ref C) ⟨us, kws⟩) R ⟨hp, gs, dr, tk, os⟩ := by
  have l1 := tc_lookup
  have l2 := tc_bind (.ref C)
  have ty : (⟨hp, gs, dr, tk, os⟩ : Shared).TypeIs (.ref C) "type" := ⟨_, hC, rfl⟩
  refine codeAny_of_tree ?_
  show wpAny _ _ (callAny (.ref C) _) _ _ _
  repeat (any_goals (first
    | assumption
    | with_reducible refine wpAny_loadPart_at hC ?_
    | wp_step))
  refine ⟨rfl, codeAny_call_builtin_at (Code.quiet_builtin _ (by decide +kernel)) entry_typeCall (wpAny_check_type_call_sub hC (type_makes F same hC li lb few ?_))⟩
  refine codeAny_mono done fun r s' z => ?_
  match r, z with
  | .error e, z => exact z
  | .ok .next, z => exact z
  | .ok .brk, z => exact z
  | .ok .cont, z => exact z
  | .ok (.ret v), z => exact z
end
end LK

set_option Elab.async false
set_option linter.all false
set_option maxRecDepth 100000
set_option maxHeartbeats 4000000
namespace LK
open PySem PySem.Spec PyProof.Rows L2
/-! ### an exception's class, as isinstance asks for it -/
structure IsxC (K : PySem.W.Frag) (C : Addr) : Prop where
  cl : (PySem.W.clsIn K C).isSome = true
  ga : PySem.W.findIn K (.ref C) "__getattribute__" = some (some (.builtin "BaseException.__getattribute__"))
  gt : PySem.W.findIn K (.ref C) "__getattr__" = some none
  sub : PySem.W.subIn K (.ref C) (.type "BaseException") = some true
  ha : PySem.W.findIn K (.ref C) "__class__" = some (some (.builtin "object.__class__"))
  hn : PySem.W.specialIn K (.builtin "object.__class__") "__get__" = some (some (.builtin "getset_descriptor.__get__"))
  tk : PySem.W.takesIn K (.builtin "object.__class__") = some true
  hm : PySem.W.mroIn K C (.type "object") = some true
/-! ### an exception object that is held -/
def pinO (a : Addr) (oe : Obj) : HO := .ext fun h => h.get? a = some oe
theorem pinO_ok {P : Program} {w : World} {H : Hp} {h : Heap} {a : Addr} {oe : Obj} (e : h.get? a = some oe) : ObjOk P w H h a (pinO a oe) := ⟨e, ⟨oe, e⟩, fun _ _ q k => k _ q⟩
theorem pinO_at {P : Program} {w : World} {H : Hp} {h : Heap} {a : Addr} {oe : Obj} (hok : HOk P w H h) (e : H a = some (pinO a oe)) : h.get? a = some oe := by
  have x : ObjOk P w H h a (.ext fun h => h.get? a = some oe) := hok a _ e
  exact x.1
/-- at a: an exception of the class C with the fields fs -/
def Err (H : Hp) (a C : Addr) (fs : List (Str × V)) : Prop := ∃ oe vs d, H a = some (pinO a oe) ∧ oe.cls = .ref C ∧ oe.dict = some d ∧ oe.data = .fields vs ∧ H d = some (.xd fs)
theorem Err.same {H H' : Hp} {a C : Addr} {fs : List (Str × V)} (e : Err H a C fs) (s : Same H H') : Err H' a C fs := by
  obtain ⟨oe, vs, d, h1, h2, h3, h4, h5⟩ := e
  exact ⟨oe, vs, d, s _ _ h1, h2, h3, h4, s _ _ h5⟩
/-- a context in which Z tells of exceptions -/
def HasE (X : Cx) (Z : Hp → Addr → Addr → List (Str × V) → Prop) : Prop := ∀ {pins σ H s a C fs}, Inv X pins σ H s → Z H a C fs → ∃ oe vs d, s.heap.get? a = some oe ∧ oe.cls = .ref C ∧ oe.dict = some d ∧ oe.data = .fields vs ∧ H d = some (.xd fs)
theorem hasE_err {X : Cx} : HasE X Err := fun {pins σ H s a C fs} I e => by
  obtain ⟨oe, vs, d, h1, h2, h3, h4, h5⟩ := e
  exact ⟨oe, vs, d, pinO_at I.hok h1, h2, h3, h4, h5⟩
/-- the exception that is pinned -/
def PinE (p : Addr × Obj) (H : Hp) (a C : Addr) (fs : List (Str × V)) : Prop := a = p.1 ∧ ∃ vs d, p.2.cls = .ref C ∧ p.2.dict = some d ∧ p.2.data = .fields vs ∧ H d = some (.xd fs)
theorem hasE_pin {X : Cx} {p : Addr × Obj} (hp : p ∈ X.pn) : HasE X (PinE p) := fun {pins σ H s a C fs} I e => by
  obtain ⟨rfl, vs, d, h2, h3, h4, h5⟩ := e
  exact ⟨p.2, vs, d, (I.pin p (List.mem_append_left _ hp)).1, h2, h3, h4, h5⟩
/-- the exception of a suite, by its class and dict -/
def PinZ (a0 : Addr) (cls : Value) (d : Option Addr) (H : Hp) (a C : Addr) (fs : List (Str × V)) : Prop := a = a0 ∧ cls = .ref C ∧ ∃ dd, d = some dd ∧ H dd = some (.xd fs)
theorem PinZ.pin {a0 : Addr} {cls : Value} {d : Option Addr} {oe : Obj} (hz : Zc cls d oe) (hf : ∃ vs, oe.data = .fields vs) {H : Hp} {a C : Addr} {fs : List (Str × V)} (e : PinZ a0 cls d H a C fs) : PinE (a0, oe) H a C fs := by
  obtain ⟨rfl, rfl, dd, rfl, h⟩ := e
  obtain ⟨vs, hv⟩ := hf
  exact ⟨rfl, vs, dd, hz.1, hz.2, hv, h⟩
theorem hasE_suite {X : Cx} {a0 : Addr} {cls : Value} {d : Option Addr} {oe : Obj} {pn : List (Addr × Obj)} (hz : Zc cls d oe) (hf : ∃ vs, oe.data = .fields vs) : HasE (X.suite a0 ((a0, oe) :: pn)) (PinZ a0 cls d) := fun {pins σ H s a C fs} I e => hasE_pin (p := (a0, oe)) List.mem_cons_self I (e.pin hz hf)
theorem inst_of {X : Cx} {pins : List (Addr × Obj)} {σ : L2.St} {H : Hp} {s : Shared} {a C : Addr} {fs : List (Str × V)} {Z : Hp → Addr → Addr → List (Str × V) → Prop} (hz : HasE X Z) (I : Inv X pins σ H s) (e : Z H a C fs) :
    ∃ oe od, PySem.W.InstAt s.heap a oe C (some od) ∧ ∀ n v, fs.lookup n = some v → ∃ u, PySem.W.lookIn n od = some (some u) ∧ L2.RelV v u := by
  obtain ⟨oe, vs, d, h1, h2, h3, h4, h5⟩ := hz I e
  have hx : ObjOk X.prog X.w H s.heap d (.xd fs) := I.hok d _ h5
  obtain ⟨mA, hns, hr⟩ := hx
  obtain ⟨od, ho, hl⟩ := lookIn_ns hns
  refine ⟨oe, od, ⟨h1, h2, by unfold PySem.W.notCls; rw [h4] <;> rfl, by rw [h3]; exact ho⟩, fun n v l => ?_⟩
  obtain ⟨u, hu, ru⟩ := RelO.some_of (v := v) (o := mA n) (by rw [← l]; exact hr n)
  exact ⟨u, (hl n).trans (congrArg some hu), ru⟩
def tEf (K : PySem.W.Frag) (Z : Hp → Addr → Addr → List (Str × V) → Prop) (n : Str) (te : TE) : TE := fun σ H Q => te σ H fun x H1 => ∃ (a C : Addr) (fs : List (Str × V)) (v : V), x = .ref a ∧ Z H1 a C fs ∧ XfC K C ∧ PySem.W.findIn K (.ref C) n = some none ∧ fs.lookup n = some v ∧ Q v H1
/-- e.f, e an exception that is held or pinned -/
theorem pe_errF {X : Cx} {Z : Hp → Addr → Addr → List (Str × V) → Prop} (hz : HasE X Z) {e : Expr} {te : TE} {pos : Pos} {n : Str} (he : PE X e te) (hb : attributeBase e n X.env (eval e X.env) = eval e X.env := by rfl) : PE X (.Attribute e n pos) (tEf X.K Z n te) := by
  refine ⟨fun pins s σ H Q I h => attr_of hb (thn (he.run pins s σ H _ I h) fun u s1 hh => ?_)⟩
  obtain ⟨x, H1, I1, rx, a, C, fs, v, rfl, ea, T, hno, l, q⟩ := hh
  cases (show u = Value.ref a from rx)
  obtain ⟨oe, od, J, lk⟩ := inst_of hz I1 ea
  obtain ⟨u, hu, ru⟩ := lk _ _ l
  exact HandSPX.exc_get I1.kIn J T.ga T.gg T.exC (PySem.W.findObj_own T.hdC hno rfl hu) (handed_of ru) ⟨v, H1, I1.tok _, ru, q⟩
def rIsEr (K : PySem.W.Frag) (Z : Hp → Addr → Addr → List (Str × V) → Prop) : List V → Hp → VK → Prop := fun xs H Q => ∃ (a C : Addr) (fs : List (Str × V)) (c : V) (cv : Value) (b : Bool), xs = [.ref a, c] ∧ Z H a C fs ∧ IsxC K C ∧ (∀ u, L2.RelV c u → u = cv) ∧ PySem.W.kitOne K (.ref C) cv = some b ∧ Q (.bl b) H
/-- isinstance(e, c) -/
theorem call_isEr {X : Cx} {Z : Hp → Addr → Addr → List (Str × V) → Prop} (hz : HasE X Z) : CallR X (.builtin "isinstance") (rIsEr X.K Z) := by
  intro pins s σ H xs us Q I r h
  obtain ⟨a, C, fs, c, cv, b, rfl, ea, T, hcv, hk, q⟩ := h
  cases r with
  | cons rx rr =>
    cases rr with
    | cons rt rr =>
      cases rr
      cases rx
      cases hcv _ rt
      obtain ⟨oe, od, J, _⟩ := inst_of hz I ea
      exact PySem.W.kia_one (PySem.W.kitx_exc T.cl T.ga T.gt T.sub T.ha T.hn T.tk T.hm) I.kIn J hk (fun z => nomatch z) fun tk => ⟨.bl b, H, I.kept (t' := tk) fun _ _ z => z, rfl, q⟩
/-! ### C(..) as a value -/
/-- what stands behind the own __init__ -/
def Back (a C : Addr) (Q : VK) : VK := fun v H2 => v = .non ∧ ∃ (d : Addr) (fs : List (Str × V)), H2 a = some (exo a C (some d)) ∧ H2 d = some (exd d fs) ∧ ∀ H3, (∀ b, b ≠ a → b ≠ d → H3 b = H2 b) → Err H3 a C fs → Q (.ref a) H3
def tExV (C : Addr) (n m : Nat) (sp : Sp) (gV : List V → List V → List V) (t tk : TA) : TE := fun σ H Q => t σ H fun vs H1 => tk σ H1 fun zs H2 => vs.length = n ∧ zs.length = m ∧ n ≤ 1000 ∧ ∀ a, H2 a = none → sp (gV (.ref a :: vs) zs) (L2.upd H2 a (exo a C none)) (Back a C Q) (fun _ _ _ => False)
/-- the call, the values known -/
structure ExcDef (X : Cx) (CX : CXT) (B newId initId : String) (tl : List Value) (x : Str) (C fI : Addr) (k : Nat) (fd : FuncData) (ps : List Str) (sp : Sp) : Prop where
  F : Base B newId initId tl
  T : OexM X.K C newId tl
  iC : PySem.W.findIn X.K (.ref C) "__init__" = some (some (.ref fI))
  tI : PySem.W.typeIn X.K (.ref fI) = some (.type "function")
  F1 : FnOk X.prog X.w X.K X.mg X.base CX k fI fd ps sp
  hr : Room (k + 1) X.A
  hx : Passes CX X (fun _ _ _ => False)
  hg : Gl X x
  hm : X.mg x = some (.ref C)
section
variable {X : Cx} {CX : CXT} {B newId initId : String} {tl : List Value} {x : Str} {C fI : Addr} {k n : Nat} {fd : FuncData} {ps ks : List Str} {sp : Sp} {g : List Value → List Value → List Value} {gV : List V → List V → List V}
theorem exo_ext {a C : Addr} {d : Option Addr} : ∃ φ, exo a C d = .ext φ := ⟨_, rfl⟩
theorem exd_ext {d : Addr} {fs : List (Str × V)} : ∃ φ, exd d fs = .ext φ := ⟨_, rfl⟩
theorem run_excV (D : ExcDef X CX B newId initId tl x C fI k fd ps sp) (hb : KBn X.K fd ps (n + 1) ks g gV) {pins : List (Addr × Obj)} {σ : L2.St} {H : Hp} {s : Shared} {Q : VK} {us ws : List Value} {vs zs : List V} (I : Inv X pins σ H s) (r : Vals vs us) (rz : Vals zs ws) (l1 : vs.length = n) (l2 : zs.length = ks.length) (few : n ≤ 1000)
    (h : ∀ a, H a = none → sp (gV (.ref a :: vs) zs) (L2.upd H a (exo a C none)) (Back a C Q) (fun _ _ _ => False)) : wpAny (model X.prog X.w) X.A (call (.ref C) us (ks.zip ws)) (EP X pins σ Q) X.xe s := by
  obtain ⟨nm, q, N, bs, bm, sn, sub, ab, col, dd, k0, k1, k2, k3, k5, hC, hbm⟩ := D.T.cls
  obtain ⟨hp, gs, dr, tk, os⟩ := s
  generalize hA : hp.objs.size + 1 = a at *
  have hsz : hp.objs.size ≤ a := by rw [← hA]; exact Nat.le_succ _
  have hq := h a (I.hok.fresh hsz)
  have at_ : ((hp.push (PySem.W.kdv_tup us)).push (PySem.HandSPX.excO C hp.objs.size)).get? a = some (PySem.HandSPX.excO C hp.objs.size) := by rw [← hA]; heap_get
  have I2 : Inv X pins σ (L2.upd H a (exo a C none)) ⟨(hp.push (PySem.W.kdv_tup us)).push (PySem.HandSPX.excO C hp.objs.size), gs, dr, tk, os⟩ :=
    I.laid (t' := tk) (a := a) (o := exo a C none) (fun b o e => Heap.get?_push_of_some _ (Heap.get?_push_of_some _ e)) hsz (exo_ok at_)
  have r1 : Vals (V.ref a :: vs) (Value.ref a :: us) := .cons rfl r
  have r2 := hb.rel r1 rz
  have many : us.length ≤ sizeLine := by
    have l := Paired.length r
    have b : (1000 : Nat) ≤ sizeLine := by decide
    omega
  have run := D.F1.run _ X.stack _ _ ⟨Value.ref a :: us, ks.zip ws⟩ (g (Value.ref a :: us) ws) _ _ (fun _ _ _ => False) (D.hr.make C us (ks.zip ws)) (I2.env0.make C us (ks.zip ws)) (hb.to _ (Value.ref a :: us) ws I2.kIn (r1.length.symm.trans (congrArg Nat.succ l1)) (rz.length.symm.trans l2)) r2 hq
  subst hA
  refine wpAny_call (call_makes D.F.ex (fun Y => hbm.contains Y) (I.kIn _ _ hC) (PySem.W.looks_findIn I.kIn D.iC) (fun self => PySem.W.bind_fn I.kIn self D.tI) many (codeAny_mono run fun r s' hq' => ?_))
  match r, hq' with
  | .error er, z => exact D.hx pins σ _ _ er s' I2 z
  | .ok .next, z => exact z.elim
  | .ok .brk, z => exact z.elim
  | .ok .cont, z => exact z.elim
  | .ok (.ret u), hq' =>
    obtain ⟨v, H2, J, rv, rfl, d, fs, ea, ed, q2⟩ := I2.after hq'
    refine ⟨rv, ?_⟩
    obtain ⟨oe, ov, hoe, o1, o2, o3⟩ : ∃ oe ov, s'.heap.get? (hp.objs.size + 1) = some oe ∧ oe.cls = .ref C ∧ oe.dict = some d ∧ oe.data = .fields ov := by
      obtain ⟨t0, h0⟩ := exo_at J.hok ea
      exact ⟨_, _, h0, rfl, rfl, rfl⟩
    have nda : d ≠ hp.objs.size + 1 := fun z => by
      obtain ⟨mA, ⟨o, es, ep, e1, e2, _⟩, _⟩ := exd_at J.hok ed
      rw [z, hoe] at e1
      cases e1
      rw [o3] at e2
      cases e2
    have J1 := J.write (t' := s'.toks) (x := hp.objs.size + 1) (e := hp.objs.size + 1) (h' := s'.heap) (o := pinO (hp.objs.size + 1) oe) (by rw [ea]; exact True.intro) (.inl rfl) (fun _ _ _ z => z) ⟨_, hoe⟩ (pinO_ok hoe)
    have ed1 : (L2.upd H2 (hp.objs.size + 1) (pinO (hp.objs.size + 1) oe)) d = some (exd d fs) := (upd_ne nda).trans ed
    obtain ⟨mA, hns, rel⟩ := exd_at J1.hok ed1
    obtain ⟨_, es2, ep2, at2, r3⟩ := id hns
    have J2 := J1.write (t' := s'.toks) (x := d) (e := d) (h' := s'.heap) (o := .xd fs) (by rw [ed1]; exact True.intro) (.inl rfl) (fun _ _ _ z => z) ⟨_, at2⟩ ⟨mA, hns, rel⟩
    refine ⟨.ref (hp.objs.size + 1), _, J2, rfl, q2 _ (fun b n1 n2 => ?_) ⟨oe, ov, d, ?_, o1, o2, o3, upd_same⟩⟩
    · rw [upd_ne n2, upd_ne n1]
    · rw [upd_ne nda.symm, upd_same]
variable {e : Expr} {es : List Expr} {kws : List Keyword} {t tk : TA} {p pos : Pos}
/-- C(e, ..) -/
theorem pe_exV (D : ExcDef X CX B newId initId tl x C fI k fd ps sp) (hb : KBn X.K fd ps (n + 1) [] g gV) (ha : PA X (e :: es) t)
    (hdb : (x == ("__debug__" : Str)) = false := by decide) (he : starEach (e :: es) X.env = (false, eval e X.env) :: starEach es X.env := by rfl) (hpl : (backTo pos (starEach es X.env)).any (·.1) = false := by rfl) :
    PE X (.Call (.Name x p) (e :: es) [] pos) (tExV C n 0 sp gV t tNil) := by
  refine ⟨fun pins s σ H Q I h => ?_⟩
  refine wpAny_Call_Name_kw (ld_glob I D.hg D.hm ?_ hdb)
  refine PySem.W.callWith_K (h₀ := X.base) I.ok.mod.kin D.T.kC (thn (ha.run pos pins s σ H _ I h) fun us s1 ⟨vs, H1, I1, r1, l1, l2, few, q⟩ => ⟨I1.kIn, ?_⟩) he hpl
  exact run_excV (ws := []) D hb I1 r1 .nil l1 l2 few q
/-- C() -/
theorem pe_exV0 (D : ExcDef X CX B newId initId tl x C fI k fd ps sp) (hb : KBn X.K fd ps 1 [] g gV) (hdb : (x == ("__debug__" : Str)) = false := by decide) : PE X (.Call (.Name x p) [] [] pos) (tExV C 0 0 sp gV tNil tNil) := by
  refine ⟨fun pins s σ H Q I h => ?_⟩
  refine wpAny_Call_Name_kw (ld_glob I D.hg D.hm ?_ hdb)
  obtain ⟨l1, l2, few, q⟩ := h
  exact PySem.W.callWith_K0 I.kIn D.T.kC (run_excV (us := []) (ws := []) D hb I .nil .nil l1 l2 few q)
/-- C(k = v, ..) -/
theorem pe_exVZ (D : ExcDef X CX B newId initId tl x C fI k fd ps sp) (hb : KBn X.K fd ps 1 ks g gV) (hkw : PK X kws tk) (hall : (backToKw pos (keywordEach kws X.env)).all (·.1.isSome) = true := by rfl) (hks : (backToKw pos (keywordEach kws X.env)).filterMap (·.1) = ks := by rfl)
    (hdb : (x == ("__debug__" : Str)) = false := by decide) (hpl : ((backTo pos (starEach [] X.env)).any (·.1) || (backToKw pos (keywordEach kws X.env)).any (·.1.isNone)) = false := by rfl) :
    PE X (.Call (.Name x p) [] kws pos) (tExV C 0 ks.length sp gV tNil tk) := by
  refine ⟨fun pins s σ H Q I h => ?_⟩
  refine wpAny_Call_Name_kw (ld_glob I D.hg D.hm ?_ hdb)
  refine PySem.W.callWith_KW0 (h₀ := X.base) I.ok.mod.kin D.T.kC hall (thn (hkw.run pos pins s σ H _ I h) fun ws s2 ⟨zs, H2, I2, rz, l1, l2, few, q⟩ => ⟨I2.kIn, ?_⟩) hpl
  rw [hks]
  exact run_excV D hb I2 .nil rz l1 l2 few q
/-- C(e, .., k = v, ..) -/
theorem pe_exVN (D : ExcDef X CX B newId initId tl x C fI k fd ps sp) (hb : KBn X.K fd ps (n + 1) ks g gV) (ha : PA X (e :: es) t) (hkw : PK X kws tk) (hall : (backToKw pos (keywordEach kws X.env)).all (·.1.isSome) = true := by rfl) (hks : (backToKw pos (keywordEach kws X.env)).filterMap (·.1) = ks := by rfl)
    (hdb : (x == ("__debug__" : Str)) = false := by decide) (he : starEach (e :: es) X.env = (false, eval e X.env) :: starEach es X.env := by rfl) (hpl : ((backTo pos (starEach (e :: es) X.env)).any (·.1) || (backToKw pos (keywordEach kws X.env)).any (·.1.isNone)) = false := by rfl) :
    PE X (.Call (.Name x p) (e :: es) kws pos) (tExV C n ks.length sp gV t tk) := by
  refine ⟨fun pins s σ H Q I h => ?_⟩
  refine wpAny_Call_Name_kw (ld_glob I D.hg D.hm ?_ hdb)
  refine PySem.W.callWith_KW (h₀ := X.base) I.ok.mod.kin D.T.kC hall (thn (ha.run pos pins s σ H _ I h) fun us s1 ⟨vs, H1, I1, r, q⟩ => ?_) hpl he
  refine thn (hkw.run pos pins s1 σ H1 _ I1 q) fun ws s2 ⟨zs, H2, I2, rz, l1, l2, few, q2⟩ => ⟨I2.kIn, ?_⟩
  rw [hks]
  exact run_excV D hb I2 r rz l1 l2 few q2
end
end LK

set_option Elab.async false
set_option linter.all false
set_option maxRecDepth 100000
set_option maxHeartbeats 4000000
namespace LK
open PySem PySem.Spec PyProof.Rows L2
open L2H (RoomH PinOk cxH inv_startH roomH_of)
/-! ### a def that is handed the exception of the caller's suite -/
structure FnE (P : Program) (w : World) (K : PySem.W.Frag) (mg : Str → Option Value) (base : Heap) (k : Nat) (f : Addr) (fd : FuncData) (ps : List Str) (sp : Addr × Obj → Sp) : Prop where
  len : ∀ p vs H Q E, sp p vs H Q E → vs.length = ps.length
  run : ∀ (A : Around) (outer : List Env) (s : Shared) (H : Hp) (args : Args) (us : List Value) (vs : List V) (Q : VK) (E : XK) (p : Addr × Obj), RoomH k A → PinOk outer H s p → Env0 P w K mg base A outer s H → BindsTo s fd args (ps.zip us) → Vals vs us → sp p vs H Q E →
    codeAny (model P w) A (.call (.ref f) args) (CR CX0 outer P w H s Q E) s
theorem Fun.okE {P : Program} {w : World} {K : PySem.W.Frag} {mg : Str → Option Value} {base : Heap} {x qual : Str} {st : Stmt} {f : Addr} {fd : FuncData} {N ps : List Str} {k : Nat} {sp : Addr × Obj → Sp} (F : Fun K x qual st f fd) (S : FnScope N ps (defScope st))
    (len : ∀ p vs H Q E, sp p vs H Q E → vs.length = ps.length)
    (hbody : ∀ (cdv : Value) (A : Around) (outer : List Env) (s : Shared) (H : Hp) (vs : List V) (Q : VK) (E : XK) (p : Addr × Obj), sp p vs H Q E →
      ∃ t, PSs (cxH CX0 P w K mg base N qual (defScope st) f cdv A outer s H E p) (defBody st) t ∧ t { nx := fun _ H' => Q .non H', rt := Q } (L2.start N vs) H) : FnE P w K mg base (k + 1) f fd ps sp := by
  obtain ⟨oc, od, kV, doc, pm, an, cdv, ct, osl, rfl, lk, hcd⟩ := F.ex
  refine ⟨len, fun A outer s H args us vs Q E p hr hpin e0 hb r hsp => ?_⟩
  have many := len _ _ _ _ _ hsp
  have inS : K.In s.heap := e0.mod.kin.keeps fun b o z => (e0.bs b o z).1
  have free := e0.mod.nolimit.keeps fun b o z => (e0.bs b o z).1
  refine codeAny_call_function hr.depth (inS _ _ lk) rfl S.co S.gen rfl (PySem.W.codeRec_of inS hcd) (hb _ _ _ _ ?_)
  refine wpAny_newFunctionEnv_cells S.kind (fun y hy => ?_) fun env he s1 x => ?_
  · obtain ⟨n, v⟩ := y
    exact (S.par n (List.of_mem_zip hy).1).imp id fun q => ⟨q, PySem.W.cellsFrom_some _ _ _ (.inl q)⟩
  subst he
  refine ⟨free.keeps x.toInCall.keep, codeAny_func ?_⟩
  obtain ⟨t, ht, hq⟩ := hbody cdv A outer s H vs Q E p hsp
  have I : Inv (cxH CX0 P w K mg base N qual (defScope st) f cdv A outer s H E p) [] (L2.start N vs) H s1 := inv_startH S hpin e0 many r x
  refine wpAny_mono (ht.run [] s1 (L2.start N vs) H _ I hq) (fun fl s' hs => ?_) fun e s' hs => hs
  match fl, hs with
  | .ret u, ⟨v, σ', H', J, rv, q⟩ => exact ⟨v, H', J.os, J.bare, J.base, J.hok, rv, q⟩
  | .next, ⟨σ', H', J, q⟩ => exact ⟨.non, H', J.os, J.bare, J.base, J.hok, rfl, q⟩
  | .brk, ⟨_, _, _, q⟩ => exact q.elim
  | .cont, ⟨_, _, _, q⟩ => exact q.elim
/-- f(e, ..) in a suite, one of the values is the exception p -/
theorem pe_callE {X : Cx} {k : Nat} {f : Addr} {fd : FuncData} {ps : List Str} {sp : Addr × Obj → Sp} {sp' : Sp} {E : XK} {x : Str} {np pos : Pos} {e : Expr} {es : List Expr} {t : TA} {p : Addr × Obj} (imp : ∀ vs H Q E, sp' vs H Q E → sp p vs H Q E) (F : FnE X.prog X.w X.K X.mg X.base k f fd ps sp) (hr : RoomH k X.A) (hp : p ∈ X.pn) (hg : Gl X x) (hm : X.mg x = some (.ref f))
    (hk : PySem.W.keepIn X.K (.ref f) = true) (hb : Binds X.K fd ps []) (ha : PA X (e :: es) t) (hdb : (x == ("__debug__" : Str)) = false := by decide) (he : starEach (e :: es) X.env = (false, eval e X.env) :: starEach es X.env := by rfl) (hpl : (backTo pos (starEach es X.env)).any (·.1) = false := by rfl) :
    PE X (.Call (.Name x np) (e :: es) [] pos) (tCall sp' [] E t) := by
  refine ⟨fun pins s σ H Q I h => ?_⟩
  refine wpAny_Call_Name_kw (ld_glob I hg hm ?_ hdb)
  refine PySem.W.callWith_K (h₀ := X.base) I.ok.mod.kin hk (thn (ha.run pos pins s σ H _ I h) fun us s1 ⟨vs, H1, I1, r, q⟩ => ⟨I1.kIn, ?_⟩) he hpl
  have q2 : sp' (vs ++ []) H1 Q E := q
  rw [List.append_nil] at q2
  replace q := imp _ _ _ _ q2
  have many : us.length = ps.length := r.length.symm.trans (F.len _ _ _ _ _ q)
  have b := hb s1 us I1.kIn (by rw [List.append_nil]; exact many)
  rw [List.append_nil] at b
  have P1 := I1.pin p (List.mem_append_left _ hp)
  have hpin : PinOk X.stack H1 s1 p := ⟨P1.1, P1.2.1, fun z => (List.mem_cons.mp (I1.stkSub p.1 z)).elim P1.2.2.1 P1.2.2.2.1, P1.2.2.2.2⟩
  refine wpAny_call (codeAny_mono (F.run X.A X.stack s1 H1 ⟨us, []⟩ us vs Q E p hr hpin I1.env0 b r q) fun r s' hq => ?_)
  match r, hq with
  | .error _, z => exact z.elim
  | .ok (.ret _), z => exact I1.after z
  | .ok .next, z => exact z.elim
  | .ok .brk, z => exact z.elim
  | .ok .cont, z => exact z.elim
/-! ### several except clauses that name the exception -/
abbrev Suites := List (Value × (Addr → Value → Option Addr → TS))
def offD (i : Nat) (D : Ends) : Ends := { nx := fun σ H => D.nx (σ.set i none) H, rt := D.rt, bk := fun σ H => D.bk (σ.set i none) H, ct := fun σ H => D.ct (σ.set i none) H }
def wSuites (K : PySem.W.Frag) (Wout : WX) (D : Ends) (i : Nat) : Suites → WX
  | [] => Wout
  | (c, ts) :: r => fun cls d σ H => ∃ b, PySem.W.exmOne K cls c = some b ∧ (b = false → wSuites K Wout D i r cls d σ H) ∧ (b = true → ∀ a, H a = none → ts a cls d (offD i D) (σ.set i (some (.ref a))) H)
inductive SuitesOk (X : Cx) (n : Str) : List ExceptHandler → Suites → Prop
  | nil : SuitesOk X n [] []
  | cons {x : Str} {c : Value} {ts : Addr → Value → Option Addr → TS} {b₀ : Stmt} {suite : List Stmt} {np hpos : Pos} {hds : List ExceptHandler} {l : Suites} (named : Names X x c)
      (body : ∀ (a : Addr) (oe : Obj) (cls : Value) (d : Option Addr) (pn : List (Addr × Obj)), Zc cls d oe → (∃ vs, oe.data = .fields vs) → PSs (X.suite a ((a, oe) :: pn)) (b₀ :: suite) (ts a cls d)) (rest : SuitesOk X n hds l) :
      SuitesOk X n (.ExceptHandler (some (.Name x np)) (some n) (b₀ :: suite) hpos :: hds) ((c, ts) :: l)
section
variable {X : Cx} {n : Str} {i : Nat} {body : List Stmt} {h₀ : ExceptHandler} {hds : List ExceptHandler} {l : Suites} {pos : Pos} {tb : WX → TS} {Wout : WX}
theorem ps_try_suites (hs : X.stack = X.env :: X.outer) (hf : X.env.frame = some X.env.locals) (hN : X.N.Nodup) (hi : X.N[i]? = some n) (hln : X.env.kindOf n = some .local) (tk : Takes X Wout)
    (hb : ∀ (W : WX) (pn : List (Addr × Obj)) (xe : Value → Shared → Prop), Takes (X.tr pn xe) W → PSs (X.tr pn xe) body (tb W)) (hh : SuitesOk X n (h₀ :: hds) l) :
    PS X (.Try body (h₀ :: hds) [] [] pos) (fun D σ H => tb (wSuites X.K Wout D i l) D σ H) := by
  refine ⟨fun pins s σ H D I h => ?_⟩
  have ok := I.ok
  have fr1 : X.A.frames = some (X.env :: X.outer) := by rw [ok.frames, hs]
  refine wpAny_Try_except ?_
  refine wpAny_mono ((hb (wSuites X.K Wout D i l) (X.pn ++ pins) _ (fun u s' xx => ?_)).run [] s σ H D (I.toTry (fun e s₁ => wpAny (model X.prog X.w) X.A (noteFrame e X.env) (fun _ s₂ => wpAny (model X.prog X.w) X.A (setFlight e none) (fun _ s₃ =>
    wpAny (model X.prog X.w) X.A (handleBy e X.env (h₀ :: hds)) (SP X pins D) X.xe s₃) X.xe s₂) X.xe s₁)) h) (fun f s1 hsp => ?_) (fun e s1 he => he)
  · obtain ⟨a, B, sI, pins', σ', H', cls, d, rfl, J', nb, up, sky, na, os, ag, wish⟩ := xx
    have J : Inv X pins σ' H' sI := J'.ofTry ok
    have sky2 : Sky B (X.env :: X.outer) a (Zc cls d) X.env.locals s'.heap := by rw [← hs]; exact sky
    show wpAny (model X.prog X.w) X.A (noteFrame (.ref a) X.env) _ _ _
    refine Sky.land Zc.steady fr1 hf sky2 fun h3 fl3 up3 => ?_
    have J3 : Inv X pins σ' H' { s' with heap := h3 } := J.landed nb fl3.1 (up.trans up3) os ag
    obtain ⟨oe3, vs3, he3, hz3, hd3⟩ := fl3.there
    have off : a ∉ frs (X.env :: X.outer) := fun hm => by
      obtain ⟨_, o', e', hnf⟩ := fl3.2.2.1.mem hm
      rw [he3] at e'
      cases e'
      exact hnf _ hd3
    have nL : a ≠ X.env.locals := fun z => off (List.mem_filterMap.mpr ⟨X.env, List.mem_cons_self, by rw [hf, z]⟩)
    have nF : a ∉ X.fs := fun hm => by
      obtain ⟨e, m, q⟩ := List.mem_filterMap.mp hm
      exact off (List.mem_filterMap.mpr ⟨e, List.mem_cons_of_mem _ m, q⟩)
    have S3 := J3.suite he3 hd3 na nL nF
    have LT : PySem.W.Looks (model X.prog X.w) h3 (typeOf (.ref a)) cls := fun A Q E s k q => wpAny_typeOf_ref (k _ _ he3) (by rw [hz3.1]; exact q)
    have go : ∀ {hs2 : List ExceptHandler} {l2 : Suites}, SuitesOk X n hs2 l2 → wSuites X.K Wout D i l2 cls d σ' H' → wpAny (model X.prog X.w) X.A (handleBy (.ref a) X.env hs2) (SP X pins D) X.xe { s' with heap := h3 } := by
      intro hs2 l2 hk
      induction hk with
      | nil =>
        intro wish
        refine wpAny_handleBy_nil ?_
        obtain ⟨k1, k2, k3, oe, vs, T, oT, ts', he, hz, hd, h1, hr⟩ := id fl3
        unfold PySem.passOn
        refine wpAny_bind (wpAny_field he hd h1 ?_)
        rw [if_neg (show ¬ ((Value.ref T == Value.none) = true) from by simp)]
        have fin : wpAny (model X.prog X.w) X.A (setFlight (.ref a) X.env.frame) (fun _ s4 => wpAny (model X.prog X.w) X.A (throw (.ref a) : Sem Flow) (SP X pins D) X.xe s4) X.xe { s' with heap := h3 } := by
          rw [hf]
          exact HandSPX.setFlight_upZ fl3 fun h4 hh4 up4 => wpAny_throw (tk _ _ ⟨a, B, sI, pins, σ', H', cls, d, rfl, J, nb, (up.trans up3).trans up4, .inr (.inr (by rw [hs]; exact hh4)), na, os, ag, wish⟩)
        first
          | exact wpAny_bind (wpAny_pure (wpAny_bind fin))
          | exact wpAny_bind fin
      | @cons x c ts b₀ suite np hpos hs3 l3 named body rest ih =>
        intro wish
        obtain ⟨b, hb1, hno, hyes⟩ := wish
        have LM := PySem.W.exm_one (M := model X.prog X.w) (J3.kIn) LT hb1
        refine wpAny_handleBy_cons (codeAny_handlers_test ?_) (by intro q; cases q)
        have test : ∀ {Q : Value → Shared → Prop} {E : Value → Shared → Prop}, Q c { s' with heap := h3 } → wpAny (model X.prog X.w) (X.A.mark (some (.ref a))) (eval (.Name x np) X.env) Q E { s' with heap := h3 } := fun {Q E} q => by
          obtain ⟨hg, hdbg, hm | ⟨hm, hv, hnn⟩⟩ := named
          · exact ld_glob (X := X.suite a ((a, oe3) :: (X.pn ++ pins))) S3 hg hm q hdbg
          · exact ld_blt (X := X.suite a ((a, oe3) :: (X.pn ++ pins))) S3 hg hm hv q hnn hdbg
        refine test (LM.here ?_)
        match b, hno, hyes with
        | false, hno, _ =>
          show wpAny _ X.A (handleBy (.ref a) X.env hs3) _ _ _
          exact ih (hno rfl)
        | true, _, hyes =>
          refine codeAny_handlers_suite_as ?_
          refine HandSPX.lands_againZ fl3 fun h4 fl4 up4 => ?_
          obtain ⟨oe4, vs4, he4, hz4, hd4⟩ := fl4.there
          have J4 : Inv X pins σ' H' { s' with heap := h4 } := J.landed nb fl4.1 ((up.trans up3).trans up4) os ag
          refine store_ok (X := X.suite a ((a, oe4) :: (X.pn ++ pins))) (v := .ref a) (J4.suite he4 hd4 na nL nF) hN hi (.inl hln) rfl (fun s5 S5 => ?_) (.inr hln)
          refine wpAny_mono ((body a oe4 cls d (X.pn ++ pins) hz4 ⟨_, hd4⟩).run [] s5 _ H' _ S5 (hyes rfl a na)) (fun f s6 hsp => ?_) (fun _ _ z => False.elim z)
          have leave : ∀ {σ6 : L2.St} {H6 : Hp} {Q : Shared → Prop}, Inv (X.suite a ((a, oe4) :: (X.pn ++ pins))) [] σ6 H6 s6 → (∀ s7, Inv X pins (σ6.set i none) H6 s7 → Q s7) →
              wpAny (model X.prog X.w) X.A (do bindName X.env n .none; unbindBehindTheSuite X.env n hpos) (fun _ s7 => Q s7) X.xe s6 := fun {σ6 H6 Q} S6 hq => gone_ok (S6.unsuite ok) hN hi hln hq
          match f, hsp with
          | .next, ⟨_, _, S6, q6⟩ => exact leave S6 fun s7 J7 => ⟨_, _, J7, q6⟩
          | .brk, ⟨_, _, S6, q6⟩ => exact leave S6 fun s7 J7 => ⟨_, _, J7, q6⟩
          | .cont, ⟨_, _, S6, q6⟩ => exact leave S6 fun s7 J7 => ⟨_, _, J7, q6⟩
          | .ret u, ⟨_, _, _, S6, r6, q6⟩ => exact leave S6 fun s7 J7 => ⟨_, _, _, J7, r6, q6⟩
    exact go hh wish
  · match f, hsp with
    | .next, ⟨_, _, J2, q⟩ => exact wpAny_execs_nil ⟨_, _, J2.ofTry ok, q⟩
    | .brk, ⟨_, _, J2, q⟩ => exact ⟨_, _, J2.ofTry ok, q⟩
    | .cont, ⟨_, _, J2, q⟩ => exact ⟨_, _, J2.ofTry ok, q⟩
    | .ret u, ⟨_, _, _, J2, r, q⟩ => exact ⟨_, _, _, J2.ofTry ok, r, q⟩
end
/-! ### raise C() -/
def tMkO0 (C : Addr) (sp : Sp) : L2.St → Hp → XK → Prop := fun _ H Q => ∀ a, H a = none → sp [.ref a] (L2.upd H a (exo a C none))
  (fun v H2 => v = .non ∧ ∃ (d : Addr) (fs : List (Str × V)), H2 a = some (exo a C (some d)) ∧ H2 d = some (exd d fs) ∧ H d = none ∧ Q (.ref C) (some d) (L2.upd (del H2 a) d (.xd fs))) (fun _ _ _ => False)
theorem pmk_ex0 {X : Cx} {CX : CXT} {B newId initId : String} {tl : List Value} {x : Str} {C fI : Addr} {k : Nat} {fd : FuncData} {ps : List Str} {sp : Sp} {p pos : Pos} (D : ExcDef X CX B newId initId tl x C fI k fd ps sp) (hb : Binds X.K fd ps []) (hdb : (x == ("__debug__" : Str)) = false := by decide) :
    PMk X (.Call (.Name x p) [] [] pos) (tMkO0 C sp) := by
  intro pins s σ H Q I h
  obtain ⟨nm, q, N, bs, bm, sn, sub, ab, col, dd, k0, k1, k2, k3, k5, hC, hbm⟩ := D.T.cls
  refine wpAny_Call_Name_kw (ld_glob I D.hg D.hm ?_ hdb)
  refine PySem.W.callWith_K0 I.kIn D.T.kC ?_
  show wpAny _ _ (call (.ref C) []) _ _ _
  obtain ⟨hp, g, dr, tk, os⟩ := s
  generalize hA : hp.objs.size + 1 = a at *
  have hsz : hp.objs.size ≤ a := by rw [← hA]; exact Nat.le_succ _
  have hq := h a (I.hok.fresh hsz)
  have at_ : ((hp.push (PySem.W.kdv_tup [])).push (PySem.HandSPX.excO C hp.objs.size)).get? a = some (PySem.HandSPX.excO C hp.objs.size) := by rw [← hA]; heap_get
  have I2 : Inv X pins σ (L2.upd H a (exo a C none)) ⟨(hp.push (PySem.W.kdv_tup [])).push (PySem.HandSPX.excO C hp.objs.size), g, dr, tk, os⟩ :=
    I.laid (t' := tk) (a := a) (o := exo a C none) (fun b o e => Heap.get?_push_of_some _ (Heap.get?_push_of_some _ e)) hsz (exo_ok at_)
  have r2 : Vals [V.ref a] [Value.ref a] := .cons rfl .nil
  have b := hb _ [Value.ref a] I2.kIn (r2.length.symm.trans (D.F1.len _ _ _ _ hq))
  have run := D.F1.run _ X.stack _ _ ⟨[Value.ref a], []⟩ [Value.ref a] _ _ (fun _ _ _ => False) (D.hr.make C [] []) (I2.env0.make C [] []) b r2 hq
  subst hA
  refine wpAny_call (PySem.HandSPX.call_own D.F.ex (fun Y => hbm.contains Y) (I.kIn _ _ hC) (PySem.W.looks_findIn I.kIn D.iC) (fun self => PySem.W.bind_fn I.kIn self D.tI) (Nat.zero_le _) (codeAny_mono run fun r s' hq' => ?_))
  match r, hq' with
  | .error er, z => exact D.hx pins σ _ _ er s' I2 z
  | .ok .next, z => exact z.elim
  | .ok .brk, z => exact z.elim
  | .ok .cont, z => exact z.elim
  | .ok (.ret u), ⟨v, H2, os2, bare2, un2, hok2, rv, ev, d, fs, ea, ed, hd1, q2⟩ =>
    subst ev
    exact ⟨rv, mk_end (raises_own D.T.exC D.T.tyC) I hsz (fun b o e => Heap.get?_push_of_some _ (Heap.get?_push_of_some _ e)) un2 hok2 os2 bare2 ea ed hd1 q2⟩
end LK

set_option Elab.async false
set_option linter.all false
set_option maxRecDepth 100000
set_option maxHeartbeats 4000000
/-! ### C(..) and o.m(..) whose errors are caught where they stand -/
namespace LK
open PySem PySem.Spec PyProof.Rows L2
section
variable {X : Cx} {CX : CXT} {k n : Nat} {f C : Addr} {fd : FuncData} {ps ks : List Str} {sp : Sp} {E : L2.St → XK} {x : Str} {p pos : Pos} {e : Expr} {es : List Expr} {kws : List Keyword} {t tk : TA} {g : List Value → List Value → List Value} {gV : List V → List V → List V}
/-- a new instance, then __init__; the error by the names' state -/
def tMakeS (C : Addr) (n m : Nat) (sp : Sp) (gV : List V → List V → List V) (E : L2.St → XK) (t tk : TA) : TE := fun σ H Q => t σ H fun vs H1 => tk σ H1 fun zs H2 => vs.length = n ∧ zs.length = m ∧
  ∀ x dx, H2 x = none → H2 dx = none → dx ≠ x → sp (gV (.ref x :: vs) zs) (L2.upd (L2.upd H2 dx (.own x)) x (.ins C dx [])) (fun v H3 => v = .non ∧ Q (.ref x) H3) (E σ)
theorem run_makeS (M : Mk X.K C f) (F : FnOk X.prog X.w X.K X.mg X.base CX k f fd ps sp) (room : Room (k + 1) X.A) (hb : KBn X.K fd ps (n + 1) ks g gV) {σ : L2.St} (pass : PassesAt CX X σ (E σ)) {pins : List (Addr × Obj)} {H : Hp} {s : Shared} {Q : VK} {us ws : List Value} {vs zs : List V}
    (I : Inv X pins σ H s) (r : Vals vs us) (rz : Vals zs ws) (l1 : vs.length = n) (l2 : zs.length = ks.length)
    (h : ∀ x dx, H x = none → H dx = none → dx ≠ x → sp (gV (.ref x :: vs) zs) (L2.upd (L2.upd H dx (.own x)) x (.ins C dx [])) (fun v H2 => v = .non ∧ Q (.ref x) H2) (E σ)) : wpAny (model X.prog X.w) X.A (call (.ref C) us (ks.zip ws)) (EP X pins σ Q) X.xe s := by
  have J := Inv.made (C := C) I
  have want := h (s.heap.objs.size + 1) s.heap.objs.size (I.hok.fresh (Nat.le_succ _)) (I.hok.fresh (Nat.le_refl _)) (Nat.ne_of_lt (Nat.lt_succ_self _))
  have ra : Vals (V.ref (s.heap.objs.size + 1) :: vs) (Value.ref (s.heap.objs.size + 1) :: us) := .cons rfl r
  have many : (Value.ref (s.heap.objs.size + 1) :: us).length = n + 1 := ra.length.symm.trans (congrArg Nat.succ l1)
  have init := F.run _ X.stack _ _ ⟨Value.ref (s.heap.objs.size + 1) :: us, ks.zip ws⟩ (g (Value.ref (s.heap.objs.size + 1) :: us) ws) _ _ (E σ) (room.make C us (ks.zip ws)) (J.env0.make C us (ks.zip ws)) (hb.to _ (Value.ref (s.heap.objs.size + 1) :: us) ws J.kIn many (rz.length.symm.trans l2)) (hb.rel ra rz) want
  refine wpAny_call (make_map (f := f) I.kIn M.makes M.init (beq_iff_eq.mp M.fn) (codeAny_mono init fun out s' end_ => ?_))
  match out, end_ with
  | .error er, z => exact pass pins _ _ er s' J z
  | .ok .next, z => exact z.elim
  | .ok .brk, z => exact z.elim
  | .ok .cont, z => exact z.elim
  | .ok (.ret u), z =>
    obtain ⟨v, H', J', rv, ev, q⟩ := J.after z
    subst ev
    exact ⟨rv, ⟨V.ref (s.heap.objs.size + 1), H', J', rfl, q⟩⟩
theorem pe_makeS (M : Mk X.K C f) (F : FnOk X.prog X.w X.K X.mg X.base CX k f fd ps sp) (room : Room (k + 1) X.A) (hg : Gl X x) (hm : X.mg x = some (.ref C)) (hb : KBn X.K fd ps (n + 1) ks g gV) (pass : ∀ σ, PassesAt CX X σ (E σ)) (ha : PA X (e :: es) t) (hkw : PK X kws tk)
    (hall : (backToKw pos (keywordEach kws X.env)).all (·.1.isSome) = true := by rfl) (hks : (backToKw pos (keywordEach kws X.env)).filterMap (·.1) = ks := by rfl) (hdb : (x == ("__debug__" : Str)) = false := by decide)
    (he : starEach (e :: es) X.env = (false, eval e X.env) :: starEach es X.env := by rfl) (hpl : ((backTo pos (starEach (e :: es) X.env)).any (·.1) || (backToKw pos (keywordEach kws X.env)).any (·.1.isNone)) = false := by rfl) :
    PE X (.Call (.Name x p) (e :: es) kws pos) (tMakeS C n ks.length sp gV E t tk) := by
  refine ⟨fun pins s σ H Q I h => wpAny_Call_Name_kw (ld_glob I hg hm ?_ hdb)⟩
  refine PySem.W.callWith_KW (h₀ := X.base) I.ok.mod.kin M.kp hall (thn (ha.run pos pins s σ H _ I h) fun us s1 ⟨vs, H1, I1, r, q⟩ => thn (hkw.run pos pins s1 σ H1 _ I1 q) fun ws s2 ⟨zs, H2, I2, rz, l1, l2, q2⟩ => ⟨I2.kIn, ?_⟩) hpl he
  rw [hks]
  exact run_makeS M F room hb (pass σ) I2 r rz l1 l2 q2
variable {m : Str} {o : Expr} {apos : Pos} {ta : TE} {pl : Sem Bool}
def tMethS (C : Addr) (m : Str) (sp : Sp) (E : L2.St → XK) (ta : TE) (t : TA) : TE := fun σ H Q => ta σ H fun x H1 => ∃ a dx fs, x = .ref a ∧ H1 a = some (.ins C dx fs) ∧ fs.lookup m = none ∧ t σ H1 fun vs H2 => sp (x :: vs) H2 Q (E σ)
/-- o.m(e, ..), errors by the names' state -/
theorem pe_methS (he : PE X o ta) (c : Cls X.K C) (hm : Meth X.K C m f) (F : FnOk X.prog X.w X.K X.mg X.base CX k f fd ps sp) (room : Room k X.A) (hb : Binds X.K fd ps []) (pass : ∀ σ, PassesAt CX X σ (E σ)) (ha : PA X (e :: es) t)
    (hst : starEach (e :: es) X.env = (false, eval e X.env) :: starEach es X.env := by rfl) (hpl : (backTo pos (starEach es X.env)).any (·.1) = false := by rfl)
    (ht : eval (.Call (.Attribute o m apos) (e :: es) [] pos) X.env = (do let ov ← eval o X.env; standAt apos.atName; let (f, first) ← holding [ov] (getMethod ov m pl); callWith pos f first (backTo pos (starEach (e :: es) X.env)) (backToKw pos (keywordEach [] X.env))) := by rfl) :
    PE X (.Call (.Attribute o m apos) (e :: es) [] pos) (tMethS C m sp E ta t) := by
  refine ⟨fun pins s σ H Q I h => PySem.W.methodCall_KW (pl := pl) (thn (he.run pins s σ H _ I h) fun u s1 ⟨x, H1, I1, rx, a, dx, fs, ex, ea, l, q⟩ => ?_) ht⟩
  subst ex
  obtain rfl : u = Value.ref a := rx
  refine getmeth_ok I1 ea c hm l (PySem.W.callWith_K (first := [.ref a]) (h₀ := X.base) I.ok.mod.kin hm.kp (thn (ha.run pos pins s1 σ H1 _ I1 q) fun us s2 ⟨vs, H2, I2, r, q2⟩ => ⟨I2.kIn, ?_⟩) hst hpl)
  exact run_fnS (us := .ref a :: us) (vs := .ref a :: vs) F room hb (pass σ) I2 (.cons rfl r) q2
end
end LK

set_option Elab.async false
set_option linter.all false
set_option maxRecDepth 100000
namespace LK
open PySem PySem.Spec PyProof.Rows L2
def top (i : Nat) : Stmt := PySem.Challenge.pw_lookingnets_k15_nets_refused.main.body.getD i (.Pass ⟨0, 0, 0, 0⟩)
local macro_rules | `(tactic| walk_at "rs") => `(tactic| simp only [tFld, sFld, tMeth, tMethZ, tMakeK, tMakeS, tMethS, tEf, tProp, tFmt, rEqO, rNeO, cxK, cxNK, tCallZ, tAsg, tOp, rI0, rS0, rB0, rI, rU, tUn, rEq, rNe, rIxL, rIxT, rIxS, rSetL, rSlLU, rSlS, rSlU, rCatL, rCatU, rRepL, rIn, tVar, tC, gName, gSub, tIfS, tTest, tB, tAnd, tOr, tNot, tNotV, tAndV, tOrV, tIf, tCall, tCons, tNil, tCB, tDrop, tRet, tRetN, tNext, tLstU, tTupU, tM0, tM1, tPar, tPar3, tAug, ipI, tBM, tBM0, rAppend, rPop, tBreak, sDPut, tDGet, tDGet2, tCont, tChain, tSl, tPart, tNoPart, L2.start, List.map, List.length_cons, List.length_nil, List.replicate, List.cons_append, List.nil_append, List.append_nil, List.getElem?_cons_zero, List.getElem?_cons_succ, List.set_cons_zero, List.set_cons_succ, Option.some.injEq, V.int.injEq, V.ref.injEq, V.str.injEq, V.bl.injEq, exists_eq_left', exists_eq_left, exists_and_left, decide_eq_true_eq, List.cons.injEq, and_true, true_and, scal, Bool.not_eq_true', decide_eq_false_iff_not, Nat.zero_add, Nat.reduceAdd, Nat.reduceSub, reduceCtorEq, false_and, exists_false, false_or, or_false, CPow, CPowW, CMul, CDiv, Int.reduceToNat, ↓reduceIte, wipe, sw, List.nil_append, List.singleton_append])
local macro_rules | `(tactic| walk_at "st") => `(tactic| (refine seq_op fun N hN => ?_; walk_at "rs"))
local macro_rules | `(tactic| walk_at "sd") => `(tactic| first | assumption | decide | omega)
local macro_rules | `(tactic| walk_at "rd") => `(tactic| repeat (first
  | refine ⟨_, SqL.of (by assumption), ?_⟩ | refine ⟨_, SqL.of upd_same, ?_⟩ | refine ⟨_, .inl (SqL.of (by assumption)), ?_⟩ | refine ⟨_, (by assumption : _ = some (HO.lst _)), ?_⟩ | refine ⟨_, upd_same, ?_⟩
  | refine ⟨_, rfl, ?_⟩ | refine And.intro (by walk_at "sd") ?_))

abbrev s_BadValue : Stmt := inClass (top 5) 0
abbrev N_BadValue : List Str := ["self", "value"]
theorem sc_BadValue : FnScope N_BadValue ["self", "value"] (defScope s_BadValue) := ⟨rfl, rfl, rfl, by decide +kernel, rfl, by decide +kernel, by decide +kernel⟩
abbrev s_BadNet : Stmt := inClass (top 6) 0
abbrev N_BadNet : List Str := ["self", "where"]
theorem sc_BadNet : FnScope N_BadNet ["self", "where"] (defScope s_BadNet) := ⟨rfl, rfl, rfl, by decide +kernel, rfl, by decide +kernel, by decide +kernel⟩
abbrev s_TooMany : Stmt := inClass (top 8) 0
abbrev N_TooMany : List Str := ["self", "what", "count"]
theorem sc_TooMany : FnScope N_TooMany ["self", "what", "count"] (defScope s_TooMany) := ⟨rfl, rfl, rfl, by decide +kernel, rfl, by decide +kernel, by decide +kernel⟩
abbrev s__wall : Stmt := top 1
abbrev N__wall : List Str := ["k"]
theorem sc__wall : FnScope N__wall ["k"] (defScope s__wall) := ⟨rfl, rfl, rfl, by decide +kernel, rfl, by decide +kernel, by decide +kernel⟩

abbrev s_is_number : Stmt := top 12
abbrev N_is_number : List Str := ["value"]
theorem sc_is_number : FnScope N_is_number ["value"] (defScope s_is_number) := ⟨rfl, rfl, rfl, by decide +kernel, rfl, by decide +kernel, by decide +kernel⟩

abbrev s_is_fraction : Stmt := top 13
abbrev N_is_fraction : List Str := ["value", "p", "q"]
theorem sc_is_fraction : FnScope N_is_fraction ["value"] (defScope s_is_fraction) := ⟨rfl, rfl, rfl, by decide +kernel, rfl, by decide +kernel, by decide +kernel⟩

abbrev s_fraction : Stmt := top 14
abbrev N_fraction : List Str := ["p", "q", "divisor"]
theorem sc_fraction : FnScope N_fraction ["p", "q"] (defScope s_fraction) := ⟨rfl, rfl, rfl, by decide +kernel, rfl, by decide +kernel, by decide +kernel⟩

abbrev s_plus : Stmt := top 15
abbrev N_plus : List Str := ["a", "b"]
theorem sc_plus : FnScope N_plus ["a", "b"] (defScope s_plus) := ⟨rfl, rfl, rfl, by decide +kernel, rfl, by decide +kernel, by decide +kernel⟩

abbrev s_are_sizes : Stmt := top 20
abbrev N_are_sizes : List Str := ["signs", "n"]
theorem sc_are_sizes : FnScope N_are_sizes ["signs", "n"] (defScope s_are_sizes) := ⟨rfl, rfl, rfl, by decide +kernel, rfl, by decide +kernel, by decide +kernel⟩

abbrev s_normal_entries : Stmt := top 24
abbrev N_normal_entries : List Str := ["entries", "sums", "column", "factor"]
theorem sc_normal_entries : FnScope N_normal_entries ["entries"] (defScope s_normal_entries) := ⟨rfl, rfl, rfl, by decide +kernel, rfl, by decide +kernel, by decide +kernel⟩

abbrev s_normal_triples : Stmt := top 25
abbrev N_normal_triples : List Str := ["triples", "sums", "left", "right", "factor", "pair"]
theorem sc_normal_triples : FnScope N_normal_triples ["triples"] (defScope s_normal_triples) := ⟨rfl, rfl, rfl, by decide +kernel, rfl, by decide +kernel, by decide +kernel⟩

abbrev s_normal_part : Stmt := top 26
abbrev N_normal_part : List Str := ["kind", "part"]
theorem sc_normal_part : FnScope N_normal_part ["kind", "part"] (defScope s_normal_part) := ⟨rfl, rfl, rfl, by decide +kernel, rfl, by decide +kernel, by decide +kernel⟩

abbrev s_normal_stage : Stmt := top 27
abbrev N_normal_stage : List Str := ["stage", "kind", "parts", "part"]
theorem sc_normal_stage : FnScope N_normal_stage ["stage"] (defScope s_normal_stage) := ⟨rfl, rfl, rfl, by decide +kernel, rfl, by decide +kernel, by decide +kernel⟩

abbrev s_is_column : Stmt := top 28
abbrev N_is_column : List Str := ["value", "width"]
theorem sc_is_column : FnScope N_is_column ["value", "width"] (defScope s_is_column) := ⟨rfl, rfl, rfl, by decide +kernel, rfl, by decide +kernel, by decide +kernel⟩

abbrev s_are_items : Stmt := top 29
abbrev N_are_items : List Str := ["value", "many", "width", "item"]
theorem sc_are_items : FnScope N_are_items ["value", "many", "width"] (defScope s_are_items) := ⟨rfl, rfl, rfl, by decide +kernel, rfl, by decide +kernel, by decide +kernel⟩

abbrev s_is_item : Stmt := top 30
abbrev N_is_item : List Str := ["value", "many", "width", "column"]
theorem sc_is_item : FnScope N_is_item ["value", "many", "width"] (defScope s_is_item) := ⟨rfl, rfl, rfl, by decide +kernel, rfl, by decide +kernel, by decide +kernel⟩

abbrev s_are_rows : Stmt := top 31
abbrev N_are_rows : List Str := ["value", "many", "width", "entries"]
theorem sc_are_rows : FnScope N_are_rows ["value", "many", "width"] (defScope s_are_rows) := ⟨rfl, rfl, rfl, by decide +kernel, rfl, by decide +kernel, by decide +kernel⟩

abbrev s_is_part : Stmt := top 32
abbrev N_is_part : List Str := ["kind", "value", "width"]
theorem sc_is_part : FnScope N_is_part ["kind", "value", "width"] (defScope s_is_part) := ⟨rfl, rfl, rfl, by decide +kernel, rfl, by decide +kernel, by decide +kernel⟩

abbrev s_is_stage : Stmt := top 33
abbrev N_is_stage : List Str := ["value", "width", "kind", "parts", "part"]
theorem sc_is_stage : FnScope N_is_stage ["value", "width"] (defScope s_is_stage) := ⟨rfl, rfl, rfl, by decide +kernel, rfl, by decide +kernel, by decide +kernel⟩

abbrev s_check_stages : Stmt := top 34
abbrev N_check_stages : List Str := ["stages", "width", "at", "stage"]
theorem sc_check_stages : FnScope N_check_stages ["stages", "width"] (defScope s_check_stages) := ⟨rfl, rfl, rfl, by decide +kernel, rfl, by decide +kernel, by decide +kernel⟩

abbrev s__law_bag : Stmt := top 47
abbrev N__law_bag : List Str := ["script", "mixed", "cell"]
theorem sc__law_bag : FnScope N__law_bag ["script"] (defScope s__law_bag) := ⟨rfl, rfl, rfl, by decide +kernel, rfl, by decide +kernel, by decide +kernel⟩

abbrev s__law_draw : Stmt := top 48
abbrev N__law_draw : List Str := ["bag", "many", "cell", "digit"]
theorem sc__law_draw : FnScope N__law_draw ["bag", "many"] (defScope s__law_draw) := ⟨rfl, rfl, rfl, by decide +kernel, rfl, by decide +kernel, by decide +kernel⟩

abbrev s__law_of : Stmt := top 49
abbrev N__law_of : List Str := ["bag", "things"]
theorem sc__law_of : FnScope N__law_of ["bag", "things"] (defScope s__law_of) := ⟨rfl, rfl, rfl, by decide +kernel, rfl, by decide +kernel, by decide +kernel⟩

abbrev s__law_either : Stmt := top 50
abbrev N__law_either : List Str := ["bag", "things"]
theorem sc__law_either : FnScope N__law_either ["bag", "things"] (defScope s__law_either) := ⟨rfl, rfl, rfl, by decide +kernel, rfl, by decide +kernel, by decide +kernel⟩

abbrev s__law_like : Stmt := top 51
abbrev N__law_like : List Str := ["found", "due", "one", "two"]
theorem sc__law_like : FnScope N__law_like ["found", "due"] (defScope s__law_like) := ⟨rfl, rfl, rfl, by decide +kernel, rfl, by decide +kernel, by decide +kernel⟩

abbrev s__law_gcd : Stmt := top 52
abbrev N__law_gcd : List Str := ["a", "b"]
theorem sc__law_gcd : FnScope N__law_gcd ["a", "b"] (defScope s__law_gcd) := ⟨rfl, rfl, rfl, by decide +kernel, rfl, by decide +kernel, by decide +kernel⟩

abbrev s__law_low : Stmt := top 53
abbrev N__law_low : List Str := ["p", "q", "g"]
theorem sc__law_low : FnScope N__law_low ["p", "q"] (defScope s__law_low) := ⟨rfl, rfl, rfl, by decide +kernel, rfl, by decide +kernel, by decide +kernel⟩

abbrev s__law_plus : Stmt := top 54
abbrev N__law_plus : List Str := ["a", "b"]
theorem sc__law_plus : FnScope N__law_plus ["a", "b"] (defScope s__law_plus) := ⟨rfl, rfl, rfl, by decide +kernel, rfl, by decide +kernel, by decide +kernel⟩

abbrev s__law_great : Stmt := top 55
abbrev N__law_great : List Str := ["bag"]
theorem sc__law_great : FnScope N__law_great ["bag"] (defScope s__law_great) := ⟨rfl, rfl, rfl, by decide +kernel, rfl, by decide +kernel, by decide +kernel⟩

abbrev s__law_factor : Stmt := top 56
abbrev N__law_factor : List Str := ["bag", "way", "sign"]
theorem sc__law_factor : FnScope N__law_factor ["bag"] (defScope s__law_factor) := ⟨rfl, rfl, rfl, by decide +kernel, rfl, by decide +kernel, by decide +kernel⟩

abbrev s__law_items : Stmt := top 57
abbrev N__law_items : List Str := ["bag", "many", "width", "most", "found", "k", "spot", "one", "again", "j"]
theorem sc__law_items : FnScope N__law_items ["bag", "many", "width", "most"] (defScope s__law_items) := ⟨rfl, rfl, rfl, by decide +kernel, rfl, by decide +kernel, by decide +kernel⟩

abbrev s__law_normal : Stmt := top 58
abbrev N__law_normal : List Str := ["items", "found", "spot", "total", "one"]
theorem sc__law_normal : FnScope N__law_normal ["items"] (defScope s__law_normal) := ⟨rfl, rfl, rfl, by decide +kernel, rfl, by decide +kernel, by decide +kernel⟩

abbrev s__law_stage : Stmt := top 59
abbrev N__law_stage : List Str := ["bag", "width", "most", "made", "k", "terms"]
theorem sc__law_stage : FnScope N__law_stage ["bag", "width", "most"] (defScope s__law_stage) := ⟨rfl, rfl, rfl, by decide +kernel, rfl, by decide +kernel, by decide +kernel⟩

abbrev s__law_settled_stage : Stmt := top 60
abbrev N__law_settled_stage : List Str := ["stage", "one"]
theorem sc__law_settled_stage : FnScope N__law_settled_stage ["stage"] (defScope s__law_settled_stage) := ⟨rfl, rfl, rfl, by decide +kernel, rfl, by decide +kernel, by decide +kernel⟩

abbrev s__law_sheet : Stmt := top 61
abbrev N__law_sheet : List Str := ["bag", "signs", "n", "width", "stages_y", "found", "k"]
theorem sc__law_sheet : FnScope N__law_sheet ["bag", "signs", "n", "width", "stages_y"] (defScope s__law_sheet) := ⟨rfl, rfl, rfl, by decide +kernel, rfl, by decide +kernel, by decide +kernel⟩

abbrev s__law_settled : Stmt := top 62
abbrev N__law_settled : List Str := ["sheet", "found", "one"]
theorem sc__law_settled : FnScope N__law_settled ["sheet"] (defScope s__law_settled) := ⟨rfl, rfl, rfl, by decide +kernel, rfl, by decide +kernel, by decide +kernel⟩

abbrev s__law_number : Stmt := top 63
abbrev N__law_number : List Str := ["x"]
theorem sc__law_number : FnScope N__law_number ["x"] (defScope s__law_number) := ⟨rfl, rfl, rfl, by decide +kernel, rfl, by decide +kernel, by decide +kernel⟩

abbrev s__law_within : Stmt := top 64
abbrev N__law_within : List Str := ["x", "least", "most_y"]
theorem sc__law_within : FnScope N__law_within ["x", "least", "most_y"] (defScope s__law_within) := ⟨rfl, rfl, rfl, by decide +kernel, rfl, by decide +kernel, by decide +kernel⟩

abbrev s__law_is_fraction : Stmt := top 65
abbrev N__law_is_fraction : List Str := ["x"]
theorem sc__law_is_fraction : FnScope N__law_is_fraction ["x"] (defScope s__law_is_fraction) := ⟨rfl, rfl, rfl, by decide +kernel, rfl, by decide +kernel, by decide +kernel⟩

abbrev s__law_are_items : Stmt := top 66
abbrev N__law_are_items : List Str := ["value", "many", "width", "one", "k"]
theorem sc__law_are_items : FnScope N__law_are_items ["value", "many", "width"] (defScope s__law_are_items) := ⟨rfl, rfl, rfl, by decide +kernel, rfl, by decide +kernel, by decide +kernel⟩

abbrev s__law_is_stage : Stmt := top 67
abbrev N__law_is_stage : List Str := ["value", "width", "size", "one"]
theorem sc__law_is_stage : FnScope N__law_is_stage ["value", "width"] (defScope s__law_is_stage) := ⟨rfl, rfl, rfl, by decide +kernel, rfl, by decide +kernel, by decide +kernel⟩

abbrev s__law_odd : Stmt := top 68
abbrev N__law_odd : List Str := ["bag"]
theorem sc__law_odd : FnScope N__law_odd ["bag"] (defScope s__law_odd) := ⟨rfl, rfl, rfl, by decide +kernel, rfl, by decide +kernel, by decide +kernel⟩

abbrev s__law_odd_fraction : Stmt := top 69
abbrev N__law_odd_fraction : List Str := ["bag", "found"]
theorem sc__law_odd_fraction : FnScope N__law_odd_fraction ["bag"] (defScope s__law_odd_fraction) := ⟨rfl, rfl, rfl, by decide +kernel, rfl, by decide +kernel, by decide +kernel⟩

abbrev s__law_bent_items : Stmt := top 70
abbrev N__law_bent_items : List Str := ["bag", "items", "many", "width", "way", "found", "k", "one", "j"]
theorem sc__law_bent_items : FnScope N__law_bent_items ["bag", "items", "many", "width"] (defScope s__law_bent_items) := ⟨rfl, rfl, rfl, by decide +kernel, rfl, by decide +kernel, by decide +kernel⟩

abbrev s__law_bent_stage : Stmt := top 71
abbrev N__law_bent_stage : List Str := ["bag", "stage", "width", "way", "name", "parts", "k", "one", "size", "j"]
theorem sc__law_bent_stage : FnScope N__law_bent_stage ["bag", "stage", "width"] (defScope s__law_bent_stage) := ⟨rfl, rfl, rfl, by decide +kernel, rfl, by decide +kernel, by decide +kernel⟩

abbrev s__law_bent_rows : Stmt := top 72
abbrev N__law_bent_rows : List Str := ["bag", "rows_y", "width", "way", "found", "k"]
theorem sc__law_bent_rows : FnScope N__law_bent_rows ["bag", "rows_y", "width"] (defScope s__law_bent_rows) := ⟨rfl, rfl, rfl, by decide +kernel, rfl, by decide +kernel, by decide +kernel⟩

abbrev s__law_bent_stages : Stmt := top 73
abbrev N__law_bent_stages : List Str := ["bag", "stages_y", "width", "way", "found", "turn", "k"]
theorem sc__law_bent_stages : FnScope N__law_bent_stages ["bag", "stages_y", "width"] (defScope s__law_bent_stages) := ⟨rfl, rfl, rfl, by decide +kernel, rfl, by decide +kernel, by decide +kernel⟩

abbrev s__law_due : Stmt := top 74
abbrev N__law_due : List Str := ["slots", "k", "width", "what_y", "one"]
theorem sc__law_due : FnScope N__law_due ["slots"] (defScope s__law_due) := ⟨rfl, rfl, rfl, by decide +kernel, rfl, by decide +kernel, by decide +kernel⟩

abbrev s__law_due_stages : Stmt := top 75
abbrev N__law_due_stages : List Str := ["stages_y", "width", "k"]
theorem sc__law_due_stages : FnScope N__law_due_stages ["stages_y", "width"] (defScope s__law_due_stages) := ⟨rfl, rfl, rfl, by decide +kernel, rfl, by decide +kernel, by decide +kernel⟩

abbrev s__law_made : Stmt := top 76
abbrev N__law_made : List Str := ["slots", "net", "e"]
theorem sc__law_made : FnScope N__law_made ["slots"] (defScope s__law_made) := ⟨rfl, rfl, rfl, by decide +kernel, rfl, by decide +kernel, by decide +kernel⟩

abbrev s__law_staged : Stmt := top 77
abbrev N__law_staged : List Str := ["net", "stages_y", "made", "e"]
theorem sc__law_staged : FnScope N__law_staged ["net", "stages_y"] (defScope s__law_staged) := ⟨rfl, rfl, rfl, by decide +kernel, rfl, by decide +kernel, by decide +kernel⟩

abbrev s__law_fits : Stmt := top 78
abbrev N__law_fits : List Str := ["made", "due", "slots", "found"]
theorem sc__law_fits : FnScope N__law_fits ["made", "due", "slots"] (defScope s__law_fits) := ⟨rfl, rfl, rfl, by decide +kernel, rfl, by decide +kernel, by decide +kernel⟩

abbrev s__law_bent : Stmt := top 79
abbrev N__law_bent : List Str := ["bag", "slots", "width", "found", "turn", "k", "more"]
theorem sc__law_bent : FnScope N__law_bent ["bag", "slots", "width"] (defScope s__law_bent) := ⟨rfl, rfl, rfl, by decide +kernel, rfl, by decide +kernel, by decide +kernel⟩

abbrev s_law : Stmt := top 80
abbrev N_law : List Str := ["script", "bag", "signs", "n", "width", "slots", "turn", "bent", "net"]
theorem sc_law : FnScope N_law ["script"] (defScope s_law) := ⟨rfl, rfl, rfl, by decide +kernel, rfl, by decide +kernel, by decide +kernel⟩

abbrev s_Net__init : Stmt := inClass (top 45) 0
abbrev N_Net__init : List Str := ["self", "signs", "n", "width", "rest", "sign_rows", "place_rows", "stages", "entries", "stage"]
theorem sc_Net__init : FnScope N_Net__init ["self", "signs", "n", "width", "rest", "sign_rows", "place_rows", "stages"] (defScope s_Net__init) := ⟨rfl, rfl, rfl, by decide +kernel, rfl, by decide +kernel, by decide +kernel⟩

abbrev s_Net__rest_row : Stmt := inClass (top 45) 1
abbrev N_Net__rest_row : List Str := ["self"]
theorem sc_Net__rest_row : FnScope N_Net__rest_row ["self"] (defScope s_Net__rest_row) := ⟨rfl, rfl, rfl, by decide +kernel, rfl, by decide +kernel, by decide +kernel⟩

abbrev s_Net__sign_rows : Stmt := inClass (top 45) 2
abbrev N_Net__sign_rows : List Str := ["self"]
theorem sc_Net__sign_rows : FnScope N_Net__sign_rows ["self"] (defScope s_Net__sign_rows) := ⟨rfl, rfl, rfl, by decide +kernel, rfl, by decide +kernel, by decide +kernel⟩

abbrev s_Net__place_rows : Stmt := inClass (top 45) 3
abbrev N_Net__place_rows : List Str := ["self"]
theorem sc_Net__place_rows : FnScope N_Net__place_rows ["self"] (defScope s_Net__place_rows) := ⟨rfl, rfl, rfl, by decide +kernel, rfl, by decide +kernel, by decide +kernel⟩

abbrev s_Net__stages : Stmt := inClass (top 45) 4
abbrev N_Net__stages : List Str := ["self"]
theorem sc_Net__stages : FnScope N_Net__stages ["self"] (defScope s_Net__stages) := ⟨rfl, rfl, rfl, by decide +kernel, rfl, by decide +kernel, by decide +kernel⟩

abbrev s_Net__with_stages : Stmt := inClass (top 45) 6
abbrev N_Net__with_stages : List Str := ["self", "stages"]
theorem sc_Net__with_stages : FnScope N_Net__with_stages ["self", "stages"] (defScope s_Net__with_stages) := ⟨rfl, rfl, rfl, by decide +kernel, rfl, by decide +kernel, by decide +kernel⟩

mutual
def okD : PyData → Bool
  | .none => true | .bool _ => true | .int _ => true
  | .str z => decide (z.length ≤ 100000)
  | .list ds => decide (ds.length ≤ 100000) && okAll ds
  | .tuple ds => decide (ds.length ≤ 100000) && okAll ds
  | .dict _ => false
def okAll : List PyData → Bool
  | [] => true
  | d :: ds => okD d && okAll ds
end
theorem okD_tup {ds : List PyData} : okD (.tuple ds) = true ↔ ds.length ≤ 100000 ∧ okAll ds = true := by
  show (decide (ds.length ≤ 100000) && okAll ds) = true ↔ _
  rw [Bool.and_eq_true, decide_eq_true_iff]
theorem okD_lst {ds : List PyData} : okD (.list ds) = true ↔ ds.length ≤ 100000 ∧ okAll ds = true := by
  show (decide (ds.length ≤ 100000) && okAll ds) = true ↔ _
  rw [Bool.and_eq_true, decide_eq_true_iff]
mutual
def dep : PyData → Nat
  | .none => 0 | .bool _ => 0 | .int _ => 0 | .str _ => 0
  | .list ds => depAll ds + 1
  | .tuple ds => depAll ds + 1
  | .dict _ => 0
def depAll : List PyData → Nat
  | [] => 0
  | d :: ds => max (dep d) (depAll ds)
end
def spP (K : PySem.W.Frag) (F : PyData → V) : Sp := fun vs H Q _ => ∃ v d, vs = [v] ∧ Dp K H v d ∧ okD d = true ∧ ∀ H', Same H H' → Q (F d) H'
def SeqV (K : PySem.W.Frag) (G : Hp) (x : V) (ys : List V) : Prop := (∃ p, x = .ref p ∧ SqL K G p ys) ∨ (∃ p, x = .ref p ∧ SqT K G p ys) ∨ ∃ z, x = .str z ∧ z.length ≤ 100000 ∧ ys = z.cps.toList.map fun c => V.str ⟨#[c]⟩
def sp__law_bag (K : PySem.W.Frag) : Sp := fun vs H Q _ => ∃ (a : Addr) (ns : List Int), vs = [.ref a] ∧ SqL K H a (ns.map V.int) ∧ ns.length ≤ 63 ∧ ∀ b c H', Same H H' → Bag 1099511627776 H' b c → H b = none → Q (.ref b) H'
def sp__law_draw : Sp := fun vs H Q _ => ∃ (b c : Addr) (n : Int) (N : Nat), vs = [.ref b, .int n] ∧ Bag (N + 1) H b c ∧ 0 < n ∧ n < 1073741824 ∧ ∀ (r : Int) H', 0 ≤ r → r < n → Bag N H' b c → Kp b H H' → Q (.int r) H'
def sp__law_of (K : PySem.W.Frag) : Sp := fun vs H Q _ => ∃ (b c : Addr) (x : V) (ys : List V) (N : Nat), vs = [.ref b, x] ∧ Bag (N + 1) H b c ∧ SeqV K H x ys ∧ SeqV K (hb H b) x ys ∧ ys ≠ [] ∧ ys.length ≤ 1000000 ∧ ∀ y H', y ∈ ys → Bag N H' b c → Kp b H H' → Q y H'
def sp__law_like (K : PySem.W.Frag) (n : Nat) : Sp := fun vs H Q _ => ∃ v u d, vs = [v, u] ∧ Dp K H v d ∧ Dp K H u d ∧ okD d = true ∧ dep d ≤ n ∧ ∀ H', Same H H' → Q (.bl true) H'
def sw {α : Type} : List α → List α
  | [x, y] => [y, x]
  | l => l
theorem sw_rel : ∀ {zs : List V} {ws : List Value}, Vals zs ws → Vals (sw zs) (sw ws)
  | _, _, .nil => .nil
  | _, _, .cons a .nil => .cons a .nil
  | _, _, .cons a (.cons b .nil) => .cons b (.cons a .nil)
  | _, _, .cons a (.cons b (.cons c r)) => .cons a (.cons b (.cons c r))
/-! ### wide whole numbers -/
def CDivF (_ j : Int) : Prop := j ≠ 0 ∧ j.natAbs.log2 < 9000
theorem op_fdivF {X : Cx} : OpR X (binaryOp .FloorDiv) (rI CDivF fun i j => .int (i.fdiv j)) := opI fun _ _ _ _ _ _ _ hc q => floordiv_int hc.1 q (.inl (PyProof.noPylong_of_log2 hc.2))
/-- powers of wide numbers -/
def CPowW (i j : Int) : Prop := 0 ≤ j ∧ j ≤ 100 ∧ i.natAbs < 2 ^ 100
theorem op_powW {X : Cx} : OpR X (binaryOp .Pow) (rI CPowW fun i j => .int (i ^ j.toNat)) := opI fun i j _ _ _ _ _ hc q => by
  obtain ⟨h0, h1, h2⟩ := hc
  refine pow_int h0 ?_ q
  have hb : Builtin.Int.intBits i ≤ 100 := by
    unfold Builtin.Int.intBits
    split
    · exact Nat.zero_le _
    · have := PySem.Flt.log2_lt_of (n := i.natAbs) (by decide : 0 < 100) h2
      omega
  have : (Builtin.Int.intBits i : Int) * j ≤ 100 * 100 := Int.mul_le_mul (by omega) h1 h0 (by decide)
  exact Int.le_trans this (by decide)
theorem op_fdivU {X : Cx} : OpR X (binaryOp .FloorDiv) (rI CDivW fun i j => .int (i / j)) := op_fdivW
def gA {α : Type} : List α → List α → List α → List α
  | us, [m0, m1], [w0, w1] => us ++ [m0, w0, w1, m1]
  | us, _, _ => us
def gB {α : Type} : List α → List α → List α → List α
  | us, [m0], [w0, w1, w2] => us ++ [w0, w1, w2, m0]
  | us, _, _ => us
def gC {α : Type} : List α → List α → List α → List α
  | us, [m0], [w0, w1, w2] => us ++ [m0, w2, w1, w0]
  | us, _, _ => us
def gD {α : Type} (us _ws zs : List α) : List α := us ++ zs
/-! ### own exceptions -/
abbrev tailVE : List Value := [.type "ValueError", .type "Exception", .type "BaseException", .type "object"]
abbrev tailLE : List Value := leTail
abbrev tailRE : List Value := [.type "RuntimeError", .type "Exception", .type "BaseException", .type "object"]
abbrev tailIE : List Value := [.type "IndexError", .type "LookupError", .type "Exception", .type "BaseException", .type "object"]
theorem baseVE : Base "ValueError" "ValueError.__new__" "ValueError.__init__" tailVE := ⟨PySem.F.excBase_ValueError, PySem.F.store_ValueError, rfl, by decide +kernel⟩
theorem baseRE : Base "RuntimeError" "RuntimeError.__new__" "RuntimeError.__init__" tailRE := ⟨PySem.F.excBase_RuntimeError, PySem.F.store_RuntimeError, rfl, by decide +kernel⟩
theorem baseIE : Base "IndexError" "IndexError.__new__" "IndexError.__init__" tailIE := ⟨PySem.F.excBase_IndexError, PySem.F.store_IndexError, rfl, by decide +kernel⟩
/-! ### an exception under way -/
structure Made (H : Hp) (a C dx : Addr) (fs : List (Str × V)) (H' : Hp) : Prop where
  oth : ∀ b, b ≠ a → b ≠ dx → H' b = H b
  at_ : H' a = some (exo a C (some dx))
  atd : H' dx = some (exd dx fs)
theorem made1 {H : Hp} {a C dx : Addr} {fs : List (Str × V)} (ne : dx ≠ a) : Made H a C dx fs (L2.upd (L2.upd H dx (exd dx fs)) a (exo a C (some dx))) :=
  ⟨fun b n1 n2 => by rw [upd_ne n1, upd_ne n2], upd_same, by rw [upd_ne ne, upd_same]⟩
theorem Made.more {H H1 : Hp} {a C dx : Addr} {fs : List (Str × V)} {f : Str} {y : V} (m : Made H a C dx fs H1) (ne : dx ≠ a) : Made H a C dx ((f, y) :: fs) (L2.upd H1 dx (exd dx ((f, y) :: fs))) :=
  ⟨fun b n1 n2 => by rw [upd_ne n2]; exact m.oth b n1 n2, by rw [upd_ne ne.symm]; exact m.at_, upd_same⟩
def spInit (C : Addr) (nm : Str) (ps : List Str) : Sp := fun vs H Q _ => ∃ (a : Addr) (ws : List V), vs = .ref a :: ws ∧ ws.length = ps.length ∧ H a = some (exo a C none) ∧
  ∀ d H', H d = none → d ≠ a → (∀ b, b ≠ a → b ≠ d → H' b = H b) → H' a = some (exo a C (some d)) → H' d = some (exd d (("code", .str nm) :: (ps.zip ws).reverse)) → Q .non H'
theorem args0 {ws : List V} (h : ws.length = 0) : ws = [] := List.length_eq_zero_iff.mp h
theorem args1 {ws : List V} (h : ws.length = 1) : ∃ x, ws = [x] := match ws, h with | [x], _ => ⟨x, rfl⟩
theorem args2 {ws : List V} (h : ws.length = 2) : ∃ x y, ws = [x, y] := match ws, h with | [x, y], _ => ⟨x, y, rfl⟩
theorem init0 {H : Hp} {a C dx : Addr} {nm : Str} {Q : VK} (hdx : H dx = none) (ne : dx ≠ a) (k : ∀ d H', H d = none → d ≠ a → (∀ b, b ≠ a → b ≠ d → H' b = H b) → H' a = some (exo a C (some d)) → H' d = some (exd d [("code", .str nm)]) → Q .non H') :
    Q .non (L2.upd (L2.upd H dx (exd dx [("code", .str nm)])) a (exo a C (some dx))) := k dx _ hdx ne (made1 (C := C) ne).oth (made1 ne).at_ (made1 ne).atd
/-- the new exception -/
theorem made_of {Q : VK} {H : Hp} {C : Addr} {nm : Str} {ps : List Str} {ws : List V} {E : XK} (hl : ws.length = ps.length) (h : ∀ a H', Same H H' → H a = none → Err H' a C (("code", .str nm) :: (ps.zip ws).reverse) → Q (.ref a) H') :
    ∀ a, H a = none → spInit C nm ps (.ref a :: ws) (L2.upd H a (exo a C none)) (Back a C Q) E := by
  intro a ha
  refine ⟨a, ws, rfl, hl, upd_same, fun d H' hd hda k h1 h2 => ⟨rfl, d, _, h1, h2, fun H3 k3 e => h a H3 (fun b o q => ?_) ha e⟩⟩
  rw [upd_ne hda] at hd
  have n1 : b ≠ a := fun z => by rw [z, ha] at q; cases q
  have n2 : b ≠ d := fun z => by rw [z, hd] at q; cases q
  rw [k3 b n1 n2, k b n1 n2, upd_ne n1]
  exact q
/-- the new exception, raised -/
theorem raised_of {Qx : XK} {H : Hp} {C : Addr} {nm : Str} {ps : List Str} {ws : List V} {E : XK} (hl : ws.length = ps.length) (h : ∀ d H', Same H H' → H d = none → H' d = some (.xd (("code", .str nm) :: (ps.zip ws).reverse)) → Qx (.ref C) (some d) H') :
    ∀ a, H a = none → spInit C nm ps (.ref a :: ws) (L2.upd H a (exo a C none)) (fun v2 H2 => v2 = .non ∧ ∃ (d : Addr) (fs : List (Str × V)), H2 a = some (exo a C (some d)) ∧ H2 d = some (exd d fs) ∧ H d = none ∧ Qx (.ref C) (some d) (L2.upd (del H2 a) d (.xd fs))) E := by
  intro a ha
  refine ⟨a, ws, rfl, hl, upd_same, fun d H' hd hda k h1 h2 => ?_⟩
  rw [upd_ne hda] at hd
  refine ⟨rfl, d, _, h1, h2, hd, h d _ (fun b o q => ?_) hd upd_same⟩
  have n1 : b ≠ a := fun z => by rw [z, ha] at q; cases q
  have n2 : b ≠ d := fun z => by rw [z, hd] at q; cases q
  rw [upd_ne n2, del_ne n1, k b n1 n2, upd_ne n1]
  exact q
set_option maxHeartbeats 0 in
structure Txt (w : World) (K : PySem.W.Frag) (mg : Str → Option Value) where
  n_len : mg "len" = none
  n_int : mg "int" = none
  n_list : mg "list" = none
  n_tuple : mg "tuple" = none
  n_bool : mg "bool" = none
  n_str : mg "str" = none
  n_dict : mg "dict" = none
  n_isinstance : mg "isinstance" = none
  n_all : mg "all" = none
  n_range : mg "range" = none
  n_zip : mg "zip" = none
  n_abs : mg "abs" = none
  n_sorted : mg "sorted" = none
  n_set : mg "set" = none
  n_enumerate : mg "enumerate" = none
  n_repr : mg "repr" = none
  m_gcd : mg "gcd" = some (.builtin "math.gcd")
  a_ZERO : Addr
  m_ZERO : mg "ZERO" = some (.ref a_ZERO)
  s_ZERO : ∀ H, SqT K H a_ZERO [.int 0, .int 1]
  t_MOST_WIDTH : Tok
  m_MOST_WIDTH : mg "MOST_WIDTH" = some (.int 2000 t_MOST_WIDTH)
  t_MOST_STAGES : Tok
  m_MOST_STAGES : mg "MOST_STAGES" = some (.int 100 t_MOST_STAGES)
  C_BadValue : Addr
  f_BadValue : Addr
  d_BadValue : FuncData
  m_BadValue : mg "BadValue" = some (.ref C_BadValue)
  X_BadValue : OexC K C_BadValue
  i_BadValue : PySem.W.findIn K (.ref C_BadValue) "__init__" = some (some (.ref f_BadValue))
  t_BadValue : PySem.W.typeIn K (.ref f_BadValue) = some (.type "function")
  F_BadValue : Fun K "__init__" "BadValue.__init__" s_BadValue f_BadValue d_BadValue
  B_BadValue__init : Binds K d_BadValue ["self", "value"] []
  v_BadValue : PySem.W.findIn K (.ref C_BadValue) "value" = some none
  c_BadValue : PySem.W.findIn K (.ref C_BadValue) "code" = some none
  C_BadNet : Addr
  f_BadNet : Addr
  d_BadNet : FuncData
  m_BadNet : mg "BadNet" = some (.ref C_BadNet)
  X_BadNet : OexM K C_BadNet "ValueError.__new__" tailVE
  i_BadNet : PySem.W.findIn K (.ref C_BadNet) "__init__" = some (some (.ref f_BadNet))
  t_BadNet : PySem.W.typeIn K (.ref f_BadNet) = some (.type "function")
  F_BadNet : Fun K "__init__" "BadNet.__init__" s_BadNet f_BadNet d_BadNet
  B_BadNet__init : Binds K d_BadNet ["self", "where"] []
  xf_BadNet : XfC K C_BadNet
  n_BadNet_where : PySem.W.findIn K (.ref C_BadNet) "where" = some none
  n_BadNet_code : PySem.W.findIn K (.ref C_BadNet) "code" = some none
  C_TooMany : Addr
  f_TooMany : Addr
  d_TooMany : FuncData
  m_TooMany : mg "TooMany" = some (.ref C_TooMany)
  X_TooMany : OexM K C_TooMany "RuntimeError.__new__" tailRE
  i_TooMany : PySem.W.findIn K (.ref C_TooMany) "__init__" = some (some (.ref f_TooMany))
  t_TooMany : PySem.W.typeIn K (.ref f_TooMany) = some (.type "function")
  F_TooMany : Fun K "__init__" "TooMany.__init__" s_TooMany f_TooMany d_TooMany
  B_TooMany__init : Binds K d_TooMany ["self", "what", "count"] []
  xf_TooMany : XfC K C_TooMany
  n_TooMany_what : PySem.W.findIn K (.ref C_TooMany) "what" = some none
  n_TooMany_count : PySem.W.findIn K (.ref C_TooMany) "count" = some none
  n_TooMany_code : PySem.W.findIn K (.ref C_TooMany) "code" = some none
  A_Net : Addr
  m_Net : mg "Net" = some (.ref A_Net)
  C_Net : Cls K A_Net
  cl_Net : PySem.W.findIn K (.ref A_Net) "__class__" = some (some (.builtin "object.__class__"))
  cg_Net : PySem.W.specialIn K (.builtin "object.__class__") "__get__" = some (some (.builtin "getset_descriptor.__get__"))
  ct_Net : PySem.W.takesIn K (.builtin "object.__class__") = some true
  mr_Net : PySem.W.mroIn K A_Net (.type "object") = some true
  kk_Net : PySem.W.kitOne K (.ref A_Net) (.ref A_Net) = some true
  em_BB : PySem.W.exmOne K (.ref C_BadNet) (.ref C_BadNet) = some true
  em_TB : PySem.W.exmOne K (.ref C_TooMany) (.ref C_BadNet) = some false
  em_TT : PySem.W.exmOne K (.ref C_TooMany) (.ref C_TooMany) = some true
  D_rest : Addr
  s_rest : ∀ H, SqT K H D_rest []
  D_stages : Addr
  s_stages : ∀ H, SqT K H D_stages []
  a__wall : Addr
  d__wall : FuncData
  F__wall : Fun K "_wall" "_wall" s__wall a__wall d__wall
  m__wall : mg "_wall" = some (.ref a__wall)
  B__wall : Binds K d__wall ["k"] []
  a_is_number : Addr
  d_is_number : FuncData
  F_is_number : Fun K "is_number" "is_number" s_is_number a_is_number d_is_number
  m_is_number : mg "is_number" = some (.ref a_is_number)
  B_is_number : Binds K d_is_number ["value"] []
  a_is_fraction : Addr
  d_is_fraction : FuncData
  F_is_fraction : Fun K "is_fraction" "is_fraction" s_is_fraction a_is_fraction d_is_fraction
  m_is_fraction : mg "is_fraction" = some (.ref a_is_fraction)
  B_is_fraction : Binds K d_is_fraction ["value"] []
  a_fraction : Addr
  d_fraction : FuncData
  F_fraction : FunD K "fraction" "fraction" (defArgs s_fraction) (defBody s_fraction) (defScope s_fraction) [.int 1] [] a_fraction d_fraction
  m_fraction : mg "fraction" = some (.ref a_fraction)
  B_fraction : Binds K d_fraction ["p", "q"] []
  a_plus : Addr
  d_plus : FuncData
  F_plus : Fun K "plus" "plus" s_plus a_plus d_plus
  m_plus : mg "plus" = some (.ref a_plus)
  B_plus : Binds K d_plus ["a", "b"] []
  a_are_sizes : Addr
  d_are_sizes : FuncData
  F_are_sizes : Fun K "are_sizes" "are_sizes" s_are_sizes a_are_sizes d_are_sizes
  m_are_sizes : mg "are_sizes" = some (.ref a_are_sizes)
  B_are_sizes : Binds K d_are_sizes ["signs", "n"] []
  a_normal_entries : Addr
  d_normal_entries : FuncData
  F_normal_entries : Fun K "normal_entries" "normal_entries" s_normal_entries a_normal_entries d_normal_entries
  m_normal_entries : mg "normal_entries" = some (.ref a_normal_entries)
  B_normal_entries : Binds K d_normal_entries ["entries"] []
  a_normal_triples : Addr
  d_normal_triples : FuncData
  F_normal_triples : Fun K "normal_triples" "normal_triples" s_normal_triples a_normal_triples d_normal_triples
  m_normal_triples : mg "normal_triples" = some (.ref a_normal_triples)
  B_normal_triples : Binds K d_normal_triples ["triples"] []
  a_normal_part : Addr
  d_normal_part : FuncData
  F_normal_part : Fun K "normal_part" "normal_part" s_normal_part a_normal_part d_normal_part
  m_normal_part : mg "normal_part" = some (.ref a_normal_part)
  B_normal_part : Binds K d_normal_part ["kind", "part"] []
  a_normal_stage : Addr
  d_normal_stage : FuncData
  F_normal_stage : Fun K "normal_stage" "normal_stage" s_normal_stage a_normal_stage d_normal_stage
  m_normal_stage : mg "normal_stage" = some (.ref a_normal_stage)
  B_normal_stage : Binds K d_normal_stage ["stage"] []
  a_is_column : Addr
  d_is_column : FuncData
  F_is_column : Fun K "is_column" "is_column" s_is_column a_is_column d_is_column
  m_is_column : mg "is_column" = some (.ref a_is_column)
  B_is_column : Binds K d_is_column ["value", "width"] []
  a_are_items : Addr
  d_are_items : FuncData
  F_are_items : Fun K "are_items" "are_items" s_are_items a_are_items d_are_items
  m_are_items : mg "are_items" = some (.ref a_are_items)
  B_are_items : Binds K d_are_items ["value", "many", "width"] []
  a_is_item : Addr
  d_is_item : FuncData
  F_is_item : Fun K "is_item" "is_item" s_is_item a_is_item d_is_item
  m_is_item : mg "is_item" = some (.ref a_is_item)
  B_is_item : Binds K d_is_item ["value", "many", "width"] []
  a_are_rows : Addr
  d_are_rows : FuncData
  F_are_rows : Fun K "are_rows" "are_rows" s_are_rows a_are_rows d_are_rows
  m_are_rows : mg "are_rows" = some (.ref a_are_rows)
  B_are_rows : Binds K d_are_rows ["value", "many", "width"] []
  a_is_part : Addr
  d_is_part : FuncData
  F_is_part : Fun K "is_part" "is_part" s_is_part a_is_part d_is_part
  m_is_part : mg "is_part" = some (.ref a_is_part)
  B_is_part : Binds K d_is_part ["kind", "value", "width"] []
  a_is_stage : Addr
  d_is_stage : FuncData
  F_is_stage : Fun K "is_stage" "is_stage" s_is_stage a_is_stage d_is_stage
  m_is_stage : mg "is_stage" = some (.ref a_is_stage)
  B_is_stage : Binds K d_is_stage ["value", "width"] []
  a_check_stages : Addr
  d_check_stages : FuncData
  F_check_stages : Fun K "check_stages" "check_stages" s_check_stages a_check_stages d_check_stages
  m_check_stages : mg "check_stages" = some (.ref a_check_stages)
  B_check_stages : Binds K d_check_stages ["stages", "width"] []
  a__law_bag : Addr
  d__law_bag : FuncData
  F__law_bag : Fun K "_law_bag" "_law_bag" s__law_bag a__law_bag d__law_bag
  m__law_bag : mg "_law_bag" = some (.ref a__law_bag)
  B__law_bag : Binds K d__law_bag ["script"] []
  a__law_draw : Addr
  d__law_draw : FuncData
  F__law_draw : Fun K "_law_draw" "_law_draw" s__law_draw a__law_draw d__law_draw
  m__law_draw : mg "_law_draw" = some (.ref a__law_draw)
  B__law_draw : Binds K d__law_draw ["bag", "many"] []
  a__law_of : Addr
  d__law_of : FuncData
  F__law_of : Fun K "_law_of" "_law_of" s__law_of a__law_of d__law_of
  m__law_of : mg "_law_of" = some (.ref a__law_of)
  B__law_of : Binds K d__law_of ["bag", "things"] []
  a__law_either : Addr
  d__law_either : FuncData
  F__law_either : Fun K "_law_either" "_law_either" s__law_either a__law_either d__law_either
  m__law_either : mg "_law_either" = some (.ref a__law_either)
  B__law_either : Binds K d__law_either ["bag", "things"] []
  a__law_like : Addr
  d__law_like : FuncData
  F__law_like : Fun K "_law_like" "_law_like" s__law_like a__law_like d__law_like
  m__law_like : mg "_law_like" = some (.ref a__law_like)
  B__law_like : Binds K d__law_like ["found", "due"] []
  a__law_gcd : Addr
  d__law_gcd : FuncData
  F__law_gcd : Fun K "_law_gcd" "_law_gcd" s__law_gcd a__law_gcd d__law_gcd
  m__law_gcd : mg "_law_gcd" = some (.ref a__law_gcd)
  B__law_gcd : Binds K d__law_gcd ["a", "b"] []
  a__law_low : Addr
  d__law_low : FuncData
  F__law_low : Fun K "_law_low" "_law_low" s__law_low a__law_low d__law_low
  m__law_low : mg "_law_low" = some (.ref a__law_low)
  B__law_low : Binds K d__law_low ["p", "q"] []
  a__law_plus : Addr
  d__law_plus : FuncData
  F__law_plus : Fun K "_law_plus" "_law_plus" s__law_plus a__law_plus d__law_plus
  m__law_plus : mg "_law_plus" = some (.ref a__law_plus)
  B__law_plus : Binds K d__law_plus ["a", "b"] []
  a__law_great : Addr
  d__law_great : FuncData
  F__law_great : Fun K "_law_great" "_law_great" s__law_great a__law_great d__law_great
  m__law_great : mg "_law_great" = some (.ref a__law_great)
  B__law_great : Binds K d__law_great ["bag"] []
  a__law_factor : Addr
  d__law_factor : FuncData
  F__law_factor : Fun K "_law_factor" "_law_factor" s__law_factor a__law_factor d__law_factor
  m__law_factor : mg "_law_factor" = some (.ref a__law_factor)
  B__law_factor : Binds K d__law_factor ["bag"] []
  a__law_items : Addr
  d__law_items : FuncData
  F__law_items : Fun K "_law_items" "_law_items" s__law_items a__law_items d__law_items
  m__law_items : mg "_law_items" = some (.ref a__law_items)
  B__law_items : Binds K d__law_items ["bag", "many", "width", "most"] []
  a__law_normal : Addr
  d__law_normal : FuncData
  F__law_normal : Fun K "_law_normal" "_law_normal" s__law_normal a__law_normal d__law_normal
  m__law_normal : mg "_law_normal" = some (.ref a__law_normal)
  B__law_normal : Binds K d__law_normal ["items"] []
  a__law_stage : Addr
  d__law_stage : FuncData
  F__law_stage : Fun K "_law_stage" "_law_stage" s__law_stage a__law_stage d__law_stage
  m__law_stage : mg "_law_stage" = some (.ref a__law_stage)
  B__law_stage : Binds K d__law_stage ["bag", "width", "most"] []
  a__law_settled_stage : Addr
  d__law_settled_stage : FuncData
  F__law_settled_stage : Fun K "_law_settled_stage" "_law_settled_stage" s__law_settled_stage a__law_settled_stage d__law_settled_stage
  m__law_settled_stage : mg "_law_settled_stage" = some (.ref a__law_settled_stage)
  B__law_settled_stage : Binds K d__law_settled_stage ["stage"] []
  a__law_sheet : Addr
  d__law_sheet : FuncData
  F__law_sheet : Fun K "_law_sheet" "_law_sheet" s__law_sheet a__law_sheet d__law_sheet
  m__law_sheet : mg "_law_sheet" = some (.ref a__law_sheet)
  B__law_sheet : Binds K d__law_sheet ["bag", "signs", "n", "width", "stages_y"] []
  a__law_settled : Addr
  d__law_settled : FuncData
  F__law_settled : Fun K "_law_settled" "_law_settled" s__law_settled a__law_settled d__law_settled
  m__law_settled : mg "_law_settled" = some (.ref a__law_settled)
  B__law_settled : Binds K d__law_settled ["sheet"] []
  a__law_number : Addr
  d__law_number : FuncData
  F__law_number : Fun K "_law_number" "_law_number" s__law_number a__law_number d__law_number
  m__law_number : mg "_law_number" = some (.ref a__law_number)
  B__law_number : Binds K d__law_number ["x"] []
  a__law_within : Addr
  d__law_within : FuncData
  F__law_within : Fun K "_law_within" "_law_within" s__law_within a__law_within d__law_within
  m__law_within : mg "_law_within" = some (.ref a__law_within)
  B__law_within : Binds K d__law_within ["x", "least", "most_y"] []
  a__law_is_fraction : Addr
  d__law_is_fraction : FuncData
  F__law_is_fraction : Fun K "_law_is_fraction" "_law_is_fraction" s__law_is_fraction a__law_is_fraction d__law_is_fraction
  m__law_is_fraction : mg "_law_is_fraction" = some (.ref a__law_is_fraction)
  B__law_is_fraction : Binds K d__law_is_fraction ["x"] []
  a__law_are_items : Addr
  d__law_are_items : FuncData
  F__law_are_items : Fun K "_law_are_items" "_law_are_items" s__law_are_items a__law_are_items d__law_are_items
  m__law_are_items : mg "_law_are_items" = some (.ref a__law_are_items)
  B__law_are_items : Binds K d__law_are_items ["value", "many", "width"] []
  a__law_is_stage : Addr
  d__law_is_stage : FuncData
  F__law_is_stage : Fun K "_law_is_stage" "_law_is_stage" s__law_is_stage a__law_is_stage d__law_is_stage
  m__law_is_stage : mg "_law_is_stage" = some (.ref a__law_is_stage)
  B__law_is_stage : Binds K d__law_is_stage ["value", "width"] []
  a__law_odd : Addr
  d__law_odd : FuncData
  F__law_odd : Fun K "_law_odd" "_law_odd" s__law_odd a__law_odd d__law_odd
  m__law_odd : mg "_law_odd" = some (.ref a__law_odd)
  B__law_odd : Binds K d__law_odd ["bag"] []
  a__law_odd_fraction : Addr
  d__law_odd_fraction : FuncData
  F__law_odd_fraction : Fun K "_law_odd_fraction" "_law_odd_fraction" s__law_odd_fraction a__law_odd_fraction d__law_odd_fraction
  m__law_odd_fraction : mg "_law_odd_fraction" = some (.ref a__law_odd_fraction)
  B__law_odd_fraction : Binds K d__law_odd_fraction ["bag"] []
  a__law_bent_items : Addr
  d__law_bent_items : FuncData
  F__law_bent_items : Fun K "_law_bent_items" "_law_bent_items" s__law_bent_items a__law_bent_items d__law_bent_items
  m__law_bent_items : mg "_law_bent_items" = some (.ref a__law_bent_items)
  B__law_bent_items : Binds K d__law_bent_items ["bag", "items", "many", "width"] []
  a__law_bent_stage : Addr
  d__law_bent_stage : FuncData
  F__law_bent_stage : Fun K "_law_bent_stage" "_law_bent_stage" s__law_bent_stage a__law_bent_stage d__law_bent_stage
  m__law_bent_stage : mg "_law_bent_stage" = some (.ref a__law_bent_stage)
  B__law_bent_stage : Binds K d__law_bent_stage ["bag", "stage", "width"] []
  a__law_bent_rows : Addr
  d__law_bent_rows : FuncData
  F__law_bent_rows : Fun K "_law_bent_rows" "_law_bent_rows" s__law_bent_rows a__law_bent_rows d__law_bent_rows
  m__law_bent_rows : mg "_law_bent_rows" = some (.ref a__law_bent_rows)
  B__law_bent_rows : Binds K d__law_bent_rows ["bag", "rows_y", "width"] []
  a__law_bent_stages : Addr
  d__law_bent_stages : FuncData
  F__law_bent_stages : Fun K "_law_bent_stages" "_law_bent_stages" s__law_bent_stages a__law_bent_stages d__law_bent_stages
  m__law_bent_stages : mg "_law_bent_stages" = some (.ref a__law_bent_stages)
  B__law_bent_stages : Binds K d__law_bent_stages ["bag", "stages_y", "width"] []
  a__law_due : Addr
  d__law_due : FuncData
  F__law_due : Fun K "_law_due" "_law_due" s__law_due a__law_due d__law_due
  m__law_due : mg "_law_due" = some (.ref a__law_due)
  B__law_due : Binds K d__law_due ["slots"] []
  a__law_due_stages : Addr
  d__law_due_stages : FuncData
  F__law_due_stages : Fun K "_law_due_stages" "_law_due_stages" s__law_due_stages a__law_due_stages d__law_due_stages
  m__law_due_stages : mg "_law_due_stages" = some (.ref a__law_due_stages)
  B__law_due_stages : Binds K d__law_due_stages ["stages_y", "width"] []
  a__law_made : Addr
  d__law_made : FuncData
  F__law_made : Fun K "_law_made" "_law_made" s__law_made a__law_made d__law_made
  m__law_made : mg "_law_made" = some (.ref a__law_made)
  B__law_made : Binds K d__law_made ["slots"] []
  a__law_staged : Addr
  d__law_staged : FuncData
  F__law_staged : Fun K "_law_staged" "_law_staged" s__law_staged a__law_staged d__law_staged
  m__law_staged : mg "_law_staged" = some (.ref a__law_staged)
  B__law_staged : Binds K d__law_staged ["net", "stages_y"] []
  a__law_fits : Addr
  d__law_fits : FuncData
  F__law_fits : Fun K "_law_fits" "_law_fits" s__law_fits a__law_fits d__law_fits
  m__law_fits : mg "_law_fits" = some (.ref a__law_fits)
  B__law_fits : Binds K d__law_fits ["made", "due", "slots"] []
  a__law_bent : Addr
  d__law_bent : FuncData
  F__law_bent : Fun K "_law_bent" "_law_bent" s__law_bent a__law_bent d__law_bent
  m__law_bent : mg "_law_bent" = some (.ref a__law_bent)
  B__law_bent : Binds K d__law_bent ["bag", "slots", "width"] []
  a_law : Addr
  d_law : FuncData
  F_law : Fun K "law" "law" s_law a_law d_law
  m_law : mg "law" = some (.ref a_law)
  B_law : Binds K d_law ["script"] []
  na_signs : NoAttr K A_Net "signs"
  na_n : NoAttr K A_Net "n"
  na_width : NoAttr K A_Net "width"
  na__rest_row : NoAttr K A_Net "_rest_row"
  na__sign_rows : NoAttr K A_Net "_sign_rows"
  na__place_rows : NoAttr K A_Net "_place_rows"
  na__stages : NoAttr K A_Net "_stages"
  a_Net__init : Addr
  d_Net__init : FuncData
  F_Net__init : FunD K "__init__" "Net.__init__" (defArgs s_Net__init) (defBody s_Net__init) (defScope s_Net__init) [] [("rest", .ref D_rest), ("stages", .ref D_stages)] a_Net__init d_Net__init
  a_Net__rest_row : Addr
  d_Net__rest_row : FuncData
  F_Net__rest_row : Fun K "rest_row" "Net.rest_row" s_Net__rest_row a_Net__rest_row d_Net__rest_row
  B_Net__rest_row : Binds K d_Net__rest_row ["self"] []
  mt_Net__rest_row : Meth K A_Net "rest_row" a_Net__rest_row
  a_Net__sign_rows : Addr
  d_Net__sign_rows : FuncData
  F_Net__sign_rows : Fun K "sign_rows" "Net.sign_rows" s_Net__sign_rows a_Net__sign_rows d_Net__sign_rows
  B_Net__sign_rows : Binds K d_Net__sign_rows ["self"] []
  mt_Net__sign_rows : Meth K A_Net "sign_rows" a_Net__sign_rows
  a_Net__place_rows : Addr
  d_Net__place_rows : FuncData
  F_Net__place_rows : Fun K "place_rows" "Net.place_rows" s_Net__place_rows a_Net__place_rows d_Net__place_rows
  B_Net__place_rows : Binds K d_Net__place_rows ["self"] []
  mt_Net__place_rows : Meth K A_Net "place_rows" a_Net__place_rows
  a_Net__stages : Addr
  d_Net__stages : FuncData
  F_Net__stages : Fun K "stages" "Net.stages" s_Net__stages a_Net__stages d_Net__stages
  B_Net__stages : Binds K d_Net__stages ["self"] []
  mt_Net__stages : Meth K A_Net "stages" a_Net__stages
  a_Net__with_stages : Addr
  d_Net__with_stages : FuncData
  F_Net__with_stages : Fun K "with_stages" "Net.with_stages" s_Net__with_stages a_Net__with_stages d_Net__with_stages
  B_Net__with_stages : Binds K d_Net__with_stages ["self", "stages"] []
  mt_Net__with_stages : Meth K A_Net "with_stages" a_Net__with_stages
  mk_Net : Mk K A_Net a_Net__init
  mv_Net__init_3_rest_sign_rows_place_rows_stages : List Value
  Z_Net__init_3_rest_sign_rows_place_rows_stages : KBn K d_Net__init ["self", "signs", "n", "width", "rest", "sign_rows", "place_rows", "stages"] 4 ["rest", "sign_rows", "place_rows", "stages"] (fun us ws => gD us mv_Net__init_3_rest_sign_rows_place_rows_stages ws) (fun vs zs => gD vs [] zs)
  Z_Net__with_stages : KBn K d_Net__with_stages ["self", "stages"] 1 ["stages"] (fun us ws => us ++ ws) (fun vs zs => vs ++ zs)

end LK

set_option Elab.async false
set_option linter.all false
set_option maxRecDepth 100000
namespace LK
open PySem PySem.Spec PyProof.Rows L2
local macro_rules | `(tactic| walk_at "rs") => `(tactic| simp only [tFld, sFld, tMeth, tMethZ, tMakeK, tMakeS, tMethS, tEf, tProp, tFmt, rEqO, rNeO, cxK, cxNK, tCallZ, tAsg, tOp, rI0, rS0, rB0, rI, rU, tUn, rEq, rNe, rIxL, rIxT, rIxS, rSetL, rSlLU, rSlS, rSlU, rCatL, rCatU, rRepL, rIn, tVar, tC, gName, gSub, tIfS, tTest, tB, tAnd, tOr, tNot, tNotV, tAndV, tOrV, tIf, tCall, tCons, tNil, tCB, tDrop, tRet, tRetN, tNext, tLstU, tTupU, tM0, tM1, tPar, tPar3, tAug, ipI, tBM, tBM0, rAppend, rPop, tBreak, sDPut, tDGet, tDGet2, tCont, tChain, tSl, tPart, tNoPart, L2.start, List.map, List.length_cons, List.length_nil, List.replicate, List.cons_append, List.nil_append, List.append_nil, List.getElem?_cons_zero, List.getElem?_cons_succ, List.set_cons_zero, List.set_cons_succ, Option.some.injEq, V.int.injEq, V.ref.injEq, V.str.injEq, V.bl.injEq, exists_eq_left', exists_eq_left, exists_and_left, decide_eq_true_eq, List.cons.injEq, and_true, true_and, scal, Bool.not_eq_true', decide_eq_false_iff_not, Nat.zero_add, Nat.reduceAdd, Nat.reduceSub, reduceCtorEq, false_and, exists_false, false_or, or_false, CPow, CPowW, CMul, CDiv, Int.reduceToNat, ↓reduceIte, wipe, sw, List.nil_append, List.singleton_append])
local macro_rules | `(tactic| walk_at "st") => `(tactic| (refine seq_op fun N hN => ?_; walk_at "rs"))
local macro_rules | `(tactic| walk_at "sd") => `(tactic| first | assumption | decide | omega)
local macro_rules | `(tactic| walk_at "rd") => `(tactic| repeat (first
  | refine ⟨_, SqL.of (by assumption), ?_⟩ | refine ⟨_, SqL.of upd_same, ?_⟩ | refine ⟨_, .inl (SqL.of (by assumption)), ?_⟩ | refine ⟨_, (by assumption : _ = some (HO.lst _)), ?_⟩ | refine ⟨_, upd_same, ?_⟩
  | refine ⟨_, rfl, ?_⟩ | refine And.intro (by walk_at "sd") ?_))

def spV (sp : List V → Hp → VK → Prop) : Sp := fun vs H Q _ => sp vs H Q
/-- the two fields of a BadValue -/
def badF (v : V) : List (Str × V) := [("code", .str "BadValue"), ("value", v)]
def sp_BadValue (C : Addr) : Sp := fun vs H Q _ => ∃ (a : Addr) (v : V), vs = [.ref a, v] ∧ H a = some (exo a C none) ∧
  ∀ dx, H dx = none → dx ≠ a → Q .non (L2.upd (L2.upd (L2.upd H dx (exd dx [("value", v)])) a (exo a C (some dx))) dx (exd dx (badF v)))
def isNum : PyData → Bool
  | .int _ => true
  | _ => false
def spP1 (K : PySem.W.Frag) (F : PyData → V) : Sp := fun vs H Q _ => ∃ v d, vs = [v] ∧ Dp K H v d ∧ ∀ H', Same H H' → Q (F d) H'
section
variable {P : Program} {w : World} {K : PySem.W.Frag} {mg : Str → Option Value} {base : Heap}
theorem ok_BadValue (T : Txt w K mg) : FnOk P w K mg base CX0 1 T.f_BadValue T.d_BadValue ["self", "value"] (sp_BadValue T.C_BadValue) := by
  refine T.F_BadValue.ok sc_BadValue (fun vs H Q E h => ?_) (fun cdv A outer s H vs Q E hr h => ?_)
  · obtain ⟨a, v, rfl, _⟩ := h
    rfl
  · obtain ⟨a, v, rfl, ha, k⟩ := h
    refine ⟨_, pss_cons (ps_ost (pv 0) (pv 1)) (pss_one (ps_ost (pv 0) pe_str)), ?_⟩
    refine seq_op fun N hN => ?_
    unfold tOst
    walk_at "rs"
    refine ⟨T.C_BadValue, T.X_BadValue, T.v_BadValue, .inl ⟨ha, fun dx hdx ne => hN _ _ ?_⟩⟩
    clear hN N
    unfold tOst
    walk_at "rs"
    refine ⟨T.C_BadValue, T.X_BadValue, T.c_BadValue, .inr ⟨dx, upd_same, [("value", v)], by rw [upd_ne ne]; exact upd_same, by simp, k dx hdx ne⟩⟩
theorem ok_is_number (T : Txt w K mg) : FnOk P w K mg base CX0 1 T.a_is_number T.d_is_number ["value"] (spP1 K fun d => .bl (isNum d)) := by
  refine T.F_is_number.ok sc_is_number (fun vs H Q E h => ?_) (fun cdv A outer s H vs Q E hr h => ?_)
  · obtain ⟨v, d, rfl, _⟩ := h
    rfl
  · obtain ⟨v, d, rfl, hD, k⟩ := h
    refine ⟨_, (pss_one (ps_ret (pe_and (pe_callB (call_isiDK (K := K) rfl) (by rfl) T.n_isinstance (by decide +kernel) (pa_cons (pv 0) (pa_cons (pe_bltn (v := .ty "int") (u := .type "int") (by rfl) T.n_int (by decide +kernel) rfl) pa_nil))) (pe_one (pe_not (pe_callB (call_isiDK (K := K) rfl) (by rfl) T.n_isinstance (by decide +kernel) (pa_cons (pv 0) (pa_cons (pe_bltn (v := .ty "bool") (u := .type "bool") (by rfl) T.n_bool (by decide +kernel) rfl) pa_nil)))))))), ?_⟩
    walk_at "rs"
    refine ⟨v, "int", ⟨rfl, rfl⟩, d, hD, by decide, ite2 (fun h => ⟨v, "bool", ⟨rfl, rfl⟩, d, hD, by decide, ?_⟩) (fun h => ?_)⟩
    · have e : isNum d = !isTy "bool" d := by cases d <;> first | rfl | cases h
      rw [← e]; exact k H (Same.refl _)
    · have e : isNum d = false := by cases d <;> first | rfl | (exact absurd rfl h)
      have q : Q (.bl (isNum d)) H := k H (Same.refl _)
      rw [e] at q; exact q
/-! ### lowest terms -/
def frG (p q : Int) : Int := if q < 0 then -((Nat.gcd p.natAbs q.natAbs : Nat) : Int) else ((Nat.gcd p.natAbs q.natAbs : Nat) : Int)
def frP (p q : Int) : Int := p.fdiv (frG p q)
def frQ (p q : Int) : Int := q.fdiv (frG p q)
def sp_fraction (C : Addr) : Sp := fun vs H Q E => ∃ p q : Int, vs = [.int p, .int q] ∧ p.natAbs.log2 < 9000 ∧ q.natAbs.log2 < 9000 ∧
  (q ≠ 0 → ∀ t H', Same H H' → H t = none → H' t = some (.tup [.int (frP p q), .int (frQ p q)]) → Q (.ref t) H') ∧
  (q = 0 → ∀ d H', Same H H' → H d = none → H' d = some (.xd (badF (.int q))) → E (.ref C) (some d) H')
theorem gcd_log {p q : Int} (h : q ≠ 0) : (Nat.gcd p.natAbs q.natAbs).log2 ≤ q.natAbs.log2 := by
  have h0 : q.natAbs ≠ 0 := by omega
  have le : Nat.gcd p.natAbs q.natAbs ≤ q.natAbs := Nat.le_of_dvd (by omega) (Nat.gcd_dvd_right _ _)
  have g0 : Nat.gcd p.natAbs q.natAbs ≠ 0 := fun e => h0 (Nat.eq_zero_of_gcd_eq_zero_right e)
  exact (Nat.le_log2 h0).mpr (Nat.le_trans (Nat.log2_self_le g0) le)
theorem mk_bad {C : Addr} {H1 : Hp} {v : V} {Qx : XK} (k : ∀ d H', Same H1 H' → H1 d = none → H' d = some (.xd (badF v)) → Qx (.ref C) (some d) H') : ∀ a, H1 a = none → sp_BadValue C (.ref a :: ([v] ++ [])) (L2.upd H1 a (exo a C none)) (fun v2 H2 => v2 = .non ∧ ∃ (d : Addr) (fs : List (Str × V)), H2 a = some (exo a C (some d)) ∧ H2 d = some (exd d fs) ∧ H1 d = none ∧ Qx (.ref C) (some d) (L2.upd (del H2 a) d (.xd fs))) E0 := by
  intro a ha
  refine ⟨a, v, rfl, upd_same, fun dx hdx ne => ⟨rfl, dx, badF v, ?_, upd_same, ?_, k dx _ ?_ ?_ upd_same⟩⟩
  · rw [upd_ne (Ne.symm ne), upd_same]
  · rw [upd_ne ne] at hdx; exact hdx
  · intro b o e
    rw [upd_ne ne] at hdx
    have n1 : b ≠ a := fun z => by rw [z, ha] at e; cases e
    have n2 : b ≠ dx := fun z => by rw [z, hdx] at e; cases e
    rw [upd_ne n2, del_ne n1, upd_ne n2, upd_ne n1, upd_ne n2, upd_ne n1]
    exact e
  · rw [upd_ne ne] at hdx; exact hdx
theorem mk_badT {C : Addr} {ta : TA} {σ : L2.St} {H0 H1 : Hp} {v : V} {Qx : XK} (ht : ∀ K : List V → Hp → Prop, K [v] H1 → ta σ H0 K) (k : ∀ d H', Same H1 H' → H1 d = none → H' d = some (.xd (badF v)) → Qx (.ref C) (some d) H') : tMkO C (sp_BadValue C) [] ta σ H0 Qx :=
  ht _ ⟨by simp, mk_bad k⟩
theorem ok_fraction (T : Txt w K mg) : FnOk P w K mg base (L2.CX P w) 3 T.a_fraction T.d_fraction ["p", "q"] (sp_fraction T.C_BadValue) := by
  refine T.F_fraction.ok sc_fraction (fun vs H Q E h => ?_) (fun cdv A outer s H vs Q E hr h => ?_)
  · obtain ⟨p, q, rfl, _⟩ := h
    rfl
  · obtain ⟨p, q, rfl, lp, lq, k, kE⟩ := h
    have hr_is_number : Room 1 _ := hr.mono (by decide)
    have G_is_number := ok_is_number (P := P) (base := base) T
    have hr_BadValue : Room 2 _ := hr.mono (by decide)
    have G_BadValue := ok_BadValue (P := P) (base := base) T
    refine ⟨_, (pss_cons (ps_if (PW.pt (pw_or (pt_not (pt_val (pe_call G_is_number hr_is_number (by rfl) T.m_is_number T.F_is_number.kp T.B_is_number .nil pass0 (pa_cons (pv 1) pa_nil)))) (pw_or1 (pt_cmpR op_eqI (pv 1) pe_int (nomark _))))) (pss_one (ps_raise rfl (takes_of rfl rfl rfl rfl) (pmk_oex T.X_BadValue T.i_BadValue T.t_BadValue G_BadValue hr_BadValue T.B_BadValue__init .nil pass0 (by rfl) T.m_BadValue (pa_cons (pv 1) pa_nil)))) pss_nil)
      (pss_cons (ps_set (i := 2) sc_fraction.nd rfl (Or.inl rfl) (pe_callBfun cr_gcd (by rfl) T.m_gcd (pa_cons (pv 0) (pa_cons (pv 1) pa_nil))))
      (pss_cons (ps_if (pt_cmpR op_lt (pv 1) pe_int (nomark _)) (pss_one (ps_set (i := 2) sc_fraction.nd rfl (Or.inl rfl) (pe_un un_neg (pv 2)))) pss_nil)
      (pss_one (ps_ret (pe_tupU (pa_cons (pe_op op_fdivF (pv 0) (pv 2)) (pa_cons (pe_op op_fdivF (pv 1) (pv 2)) pa_nil)))))))), ?_⟩
    refine seq_op fun N hN => ?_
    walk_at "rs"
    refine ⟨_, .int q, rfl, .int q, fun H1 s1 => ⟨true, rfl, iteFF (by decide) (ite2 (fun e => ?_) (fun e => hN _ _ ?_))⟩⟩
    · subst e
      exact mk_badT (fun K h => by walk_at "rs"; exact h) fun d H2 s2 hd h2 => kE rfl d H2 (Same.trans s1 s2) (Same.dom s1 d hd) h2
    clear hN N
    replace k := k e
    clear kE
    have g0 : (Nat.gcd p.natAbs q.natAbs : Nat) ≠ 0 := fun z => e (by have := Nat.eq_zero_of_gcd_eq_zero_right z; omega)
    have gl := gcd_log (p := p) e
    refine seq_op fun N hN => ?_
    walk_at "rs"
    refine ⟨p, q, rfl, hN _ _ ?_⟩
    clear hN N
    refine cut_seq (fun σ H2 => σ = [some (.int p), some (.int q), some (.int (frG p q))] ∧ H2 = H1) (fun N hN => ?_) ?_
    · walk_at "rs"
      unfold frG at hN
      refine ite2 (fun c => ?_) (fun c => ?_)
      · rw [if_pos c] at hN; exact hN _ _ ⟨rfl, rfl⟩
      · rw [if_neg c] at hN; exact hN _ _ ⟨rfl, rfl⟩
    · rintro σ H2 ⟨rfl, rfl⟩
      have n0 : frG p q ≠ 0 := by unfold frG; split <;> omega
      have nl : (frG p q).natAbs.log2 < 9000 := by
        have : (frG p q).natAbs = Nat.gcd p.natAbs q.natAbs := by unfold frG; split <;> omega
        rw [this]; omega
      walk_at "rs"
      exact ⟨⟨n0, nl⟩, ⟨n0, nl⟩, by decide, fun t H3 s3 h03 h3 => k t H3 (Same.trans s1 s3) (Same.dom s1 t h03) h3⟩
/-! ### the reckoning -/
def FrT (p q : Int) : V × V := (.int (frP p q), .int (frQ p q))
/-- a pair of whole numbers at a -/
def Pr (K : PySem.W.Frag) (H : Hp) (a : Addr) (p q : Int) : Prop := SqT K H a [.int p, .int q]
def sp_two (K : PySem.W.Frag) (f g : Int → Int → Int → Int → Int) : Sp := fun vs H Q _ => ∃ (a b : Addr) (p q r s : Int), vs = [.ref a, .ref b] ∧ Pr K H a p q ∧ Pr K H b r s ∧ p.natAbs < 2 ^ 4000 ∧ q.natAbs < 2 ^ 4000 ∧ r.natAbs < 2 ^ 4000 ∧ s.natAbs < 2 ^ 4000 ∧ g p q r s ≠ 0 ∧
  ∀ t H', Same H H' → H t = none → H' t = some (.tup [.int (frP (f p q r s) (g p q r s)), .int (frQ (f p q r s) (g p q r s))]) → Q (.ref t) H'
theorem two_add {i j : Int} {a : Nat} (hi : i.natAbs < 2 ^ a) (hj : j.natAbs < 2 ^ a) : (i + j).natAbs < 2 ^ (a + 1) := by
  have e : 2 ^ (a + 1) = 2 * 2 ^ a := Nat.pow_succ'
  omega
theorem two_sub {i j : Int} {a : Nat} (hi : i.natAbs < 2 ^ a) (hj : j.natAbs < 2 ^ a) : (i - j).natAbs < 2 ^ (a + 1) := by
  have e : 2 ^ (a + 1) = 2 * 2 ^ a := Nat.pow_succ'
  omega
theorem mulW {i j : Int} (hi : i.natAbs < 2 ^ 4000) (hj : j.natAbs < 2 ^ 4000) : CMulW i j := wide_mul hi hj (by decide) (by decide) (by decide)
theorem mulL {i j : Int} (hi : i.natAbs < 2 ^ 4000) (hj : j.natAbs < 2 ^ 4000) : (i * j).natAbs < 2 ^ 8000 := wide_lt (a := 4000) (b := 4000) hi hj
theorem logL {i : Int} {a : Nat} (h : i.natAbs < 2 ^ a) (h0 : 0 < a) (h9 : a ≤ 9000) : i.natAbs.log2 < 9000 := Nat.lt_of_lt_of_le (PySem.Flt.log2_lt_of h0 h) h9
theorem ok_plus (T : Txt w K mg) : FnOk P w K mg base CX0 4 T.a_plus T.d_plus ["a", "b"] (sp_two K (fun p q r s => p * s + r * q) fun _ q _ s => q * s) := by
  refine T.F_plus.ok sc_plus (fun vs H Q E h => ?_) (fun cdv A outer s H vs Q E hr h => ?_)
  · obtain ⟨a, b, p, q, r, s', rfl, _⟩ := h
    rfl
  · obtain ⟨a, b, p, q, r, s', rfl, ha, hb, lp, lq, lr, ls, n0, k⟩ := h
    have hr_fraction : Room 3 _ := hr.mono (by decide)
    have G_fraction := ok_fraction (P := P) (base := base) T
    refine ⟨_, (pss_one (ps_ret (pe_call G_fraction hr_fraction (by rfl) T.m_fraction T.F_fraction.kp T.B_fraction .nil passL (pa_cons (pe_op op_add (pe_op op_mulW (pe_ix ix_tup (pv 0) pe_int (fun _ _ => rfl)) (pe_ix ix_tup (pv 1) pe_int (fun _ _ => rfl))) (pe_op op_mulW (pe_ix ix_tup (pv 1) pe_int (fun _ _ => rfl)) (pe_ix ix_tup (pv 0) pe_int (fun _ _ => rfl)))) (pa_cons (pe_op op_mulW (pe_ix ix_tup (pv 0) pe_int (fun _ _ => rfl)) (pe_ix ix_tup (pv 1) pe_int (fun _ _ => rfl))) pa_nil))))), ?_⟩
    walk_at "rs"
    refine ⟨_, ha, _, rfl, _, hb, _, rfl, _, rfl, _, rfl, mulW lp ls, _, hb, _, rfl, _, ha, _, rfl, _, rfl, _, rfl, mulW lr lq, _, ha, _, rfl, _, hb, _, rfl, _, rfl, _, rfl, mulW lq ls, ?_⟩
    exact ⟨_, _, rfl, logL (two_add (mulL lp ls) (mulL lr lq)) (by decide) (by decide), logL (mulL lq ls) (by decide) (by decide), fun _ => k, fun e => absurd e n0⟩
end
end LK

set_option Elab.async false
set_option linter.all false
set_option maxRecDepth 100000
namespace LK
open PySem PySem.Spec PyProof.Rows L2
local macro_rules | `(tactic| walk_at "rs") => `(tactic| simp only [tFld, sFld, tMeth, tMethZ, tMakeK, tMakeS, tMethS, tEf, tProp, tFmt, rEqO, rNeO, cxK, cxNK, tCallZ, tAsg, tOp, rI0, rS0, rB0, rI, rU, tUn, rEq, rNe, rIxL, rIxT, rIxS, rSetL, rSlLU, rSlS, rSlU, rCatL, rCatU, rRepL, rIn, tVar, tC, gName, gSub, tIfS, tTest, tB, tAnd, tOr, tNot, tNotV, tAndV, tOrV, tIf, tCall, tCons, tNil, tCB, tDrop, tRet, tRetN, tNext, tLstU, tTupU, tM0, tM1, tPar, tPar3, tAug, ipI, tBM, tBM0, rAppend, rPop, tBreak, sDPut, tDGet, tDGet2, tCont, tChain, tSl, tPart, tNoPart, L2.start, List.map, List.length_cons, List.length_nil, List.replicate, List.cons_append, List.nil_append, List.append_nil, List.getElem?_cons_zero, List.getElem?_cons_succ, List.set_cons_zero, List.set_cons_succ, Option.some.injEq, V.int.injEq, V.ref.injEq, V.str.injEq, V.bl.injEq, exists_eq_left', exists_eq_left, exists_and_left, decide_eq_true_eq, List.cons.injEq, and_true, true_and, scal, Bool.not_eq_true', decide_eq_false_iff_not, Nat.zero_add, Nat.reduceAdd, Nat.reduceSub, reduceCtorEq, false_and, exists_false, false_or, or_false, CPow, CPowW, CMul, CDiv, Int.reduceToNat, ↓reduceIte, wipe, sw, List.nil_append, List.singleton_append])
local macro_rules | `(tactic| walk_at "st") => `(tactic| (refine seq_op fun N hN => ?_; walk_at "rs"))
local macro_rules | `(tactic| walk_at "sd") => `(tactic| first | assumption | decide | omega)
local macro_rules | `(tactic| walk_at "rd") => `(tactic| repeat (first
  | refine ⟨_, SqL.of (by assumption), ?_⟩ | refine ⟨_, SqL.of upd_same, ?_⟩ | refine ⟨_, .inl (SqL.of (by assumption)), ?_⟩ | refine ⟨_, (by assumption : _ = some (HO.lst _)), ?_⟩ | refine ⟨_, upd_same, ?_⟩
  | refine ⟨_, rfl, ?_⟩ | refine And.intro (by walk_at "sd") ?_))

theorem eqv_zero (r s : Int) : PyData.eqv (.tuple [.int r, .int s]) (.tuple [.int 0, .int 1]) = (decide (r = 0) && decide (s = 1)) := by
  simp [PyData.eqv, PyData.eqvAll]
  rfl
theorem shaped2 (r s : Int) : SeqAt.shaped (.tuple [.int r, .int s]) = true := by rfl
theorem dp_pair {K : PySem.W.Frag} {H : Hp} {a : Addr} {p q : Int} (h : Pr K H a p q) : Dp K H (.ref a) (.tuple [.int p, .int q]) := .tup h (.cons (.int p) (.cons (.int q) .nil))
theorem abs_if (p : Int) : (if p < 0 then -p else p) = ((p.natAbs : Nat) : Int) := by split <;> omega
theorem fr_spec (p : Int) {q : Int} (h : q ≠ 0) : frP p q * frG p q = p ∧ frQ p q * frG p q = q ∧ 1 ≤ frQ p q ∧ Nat.gcd (frP p q).natAbs (frQ p q).natAbs = 1 ∧ (frP p q).natAbs ≤ p.natAbs ∧ (frQ p q).natAbs ≤ q.natAbs ∧ frG p q ≠ 0 := by
  have g0 : Nat.gcd p.natAbs q.natAbs ≠ 0 := fun z => h (by have := Nat.eq_zero_of_gcd_eq_zero_right z; omega)
  have ga : (frG p q).natAbs = Nat.gcd p.natAbs q.natAbs := by unfold frG; split <;> omega
  have gs : (0 < q ∧ 0 < frG p q) ∨ (q < 0 ∧ frG p q < 0) := by unfold frG; split <;> omega
  have gn : frG p q ≠ 0 := by omega
  have d1 : frG p q ∣ p := Int.natAbs_dvd_natAbs.mp (by rw [ga]; exact Nat.gcd_dvd_left _ _)
  have d2 : frG p q ∣ q := Int.natAbs_dvd_natAbs.mp (by rw [ga]; exact Nat.gcd_dvd_right _ _)
  obtain ⟨a, ea⟩ := d1
  obtain ⟨b, eb⟩ := d2
  have pa : frP p q = a := by
    unfold frP
    generalize frG p q = G at ea gn
    rw [ea, Int.mul_comm]
    exact Int.mul_fdiv_cancel _ gn
  have qb : frQ p q = b := by
    unfold frQ
    generalize frG p q = G at eb gn
    rw [eb, Int.mul_comm]
    exact Int.mul_fdiv_cancel _ gn
  rw [pa, qb]
  have na : p.natAbs = a.natAbs * Nat.gcd p.natAbs q.natAbs := by
    rw [← ga, ← Int.natAbs_mul, Int.mul_comm]; exact congrArg Int.natAbs ea
  have nb : q.natAbs = b.natAbs * Nat.gcd p.natAbs q.natAbs := by
    rw [← ga, ← Int.natAbs_mul, Int.mul_comm]; exact congrArg Int.natAbs eb
  have hg : Nat.gcd a.natAbs b.natAbs = 1 := by
    have e : Nat.gcd (a.natAbs * Nat.gcd p.natAbs q.natAbs) (b.natAbs * Nat.gcd p.natAbs q.natAbs) = Nat.gcd p.natAbs q.natAbs := by rw [← na, ← nb]
    rw [Nat.gcd_mul_right] at e
    exact Nat.eq_of_mul_eq_mul_right (Nat.pos_of_ne_zero g0) (by rw [e, Nat.one_mul])
  refine ⟨by rw [Int.mul_comm]; exact ea.symm, by rw [Int.mul_comm]; exact eb.symm, ?_, hg, ?_, ?_, gn⟩
  · generalize frG p q = G at eb gs
    rcases Int.lt_trichotomy b 0 with c | c | c
    · rcases gs with ⟨h1, h2⟩ | ⟨h1, h2⟩
      · have := Int.mul_neg_of_pos_of_neg h2 c; omega
      · have := Int.mul_pos_of_neg_of_neg h2 c; omega
    · rw [c, Int.mul_zero] at eb; omega
    · omega
  · rw [na]; exact Nat.le_mul_of_pos_right _ (Nat.pos_of_ne_zero g0)
  · rw [nb]; exact Nat.le_mul_of_pos_right _ (Nat.pos_of_ne_zero g0)
theorem pow_le {n a b : Nat} (h : n < 2 ^ a) (hab : a ≤ b) : n < 2 ^ b := Nat.lt_of_lt_of_le h (Nat.pow_le_pow_right (by decide) hab)
theorem abs_div (p : Int) {q : Int} (h : 1 ≤ q) : (p.fdiv q).natAbs ≤ p.natAbs := by
  rw [Int.fdiv_eq_ediv_of_nonneg p (by omega)]
  exact Int.natAbs_ediv_le_natAbs p q
theorem eqv_pair (p q r s : Int) : PyData.eqv (.tuple [.int p, .int q]) (.tuple [.int r, .int s]) = (decide (p = r) && decide (q = s)) := by
  simp [PyData.eqv, PyData.eqvAll]
  rfl
theorem fr_low {p q : Int} (h : 1 ≤ q) (hg : Nat.gcd p.natAbs q.natAbs = 1) : frP p q = p ∧ frQ p q = q := by
  have e : frG p q = 1 := by unfold frG; rw [hg, if_neg (by omega)]; rfl
  obtain ⟨h1, h2, _⟩ := fr_spec p (q := q) (by omega)
  rw [e, Int.mul_one] at h1 h2
  exact ⟨h1, h2⟩
theorem fr_unique {P Q p q : Int} (hQ : Q ≠ 0) (h : P * q = p * Q) (hq : 1 ≤ q) (hg : Nat.gcd p.natAbs q.natAbs = 1) : frP P Q = p ∧ frQ P Q = q := by
  obtain ⟨e1, e2, e3, e4, _, _, g0⟩ := fr_spec P hQ
  have h2 : frP P Q * q = p * frQ P Q := by
    have e : (frP P Q * q) * frG P Q = (p * frQ P Q) * frG P Q := by
      have a : (frP P Q * q) * frG P Q = (frP P Q * frG P Q) * q := by
        rw [Int.mul_assoc, Int.mul_comm q, ← Int.mul_assoc]
      have b : (p * frQ P Q) * frG P Q = p * (frQ P Q * frG P Q) := Int.mul_assoc _ _ _
      rw [a, b, e1, e2, h]
    exact Int.eq_of_mul_eq_mul_right g0 e
  have hn : (frP P Q).natAbs * q.natAbs = p.natAbs * (frQ P Q).natAbs := by rw [← Int.natAbs_mul, ← Int.natAbs_mul, h2]
  have d1 : q.natAbs ∣ (frQ P Q).natAbs := by
    have d : q.natAbs ∣ p.natAbs * (frQ P Q).natAbs := ⟨(frP P Q).natAbs, by rw [← hn, Nat.mul_comm]⟩
    exact Nat.Coprime.dvd_of_dvd_mul_left (Nat.Coprime.symm hg) d
  have d2 : (frQ P Q).natAbs ∣ q.natAbs := by
    have d : (frQ P Q).natAbs ∣ (frP P Q).natAbs * q.natAbs := ⟨p.natAbs, by rw [hn, Nat.mul_comm]⟩
    exact Nat.Coprime.dvd_of_dvd_mul_left (Nat.Coprime.symm e4) d
  have en := Nat.dvd_antisymm d1 d2
  have eq : frQ P Q = q := by omega
  refine ⟨?_, eq⟩
  rw [eq] at h2
  exact Int.eq_of_mul_eq_mul_right (by omega) h2
/-- what a fraction of P and Q is worth -/
theorem fr_worth (P : Int) {Q : Int} (hQ : Q ≠ 0) : frP P Q * Q = P * frQ P Q := by
  obtain ⟨e1, e2, _⟩ := fr_spec P hQ
  have : frP P Q * Q = frP P Q * (frQ P Q * frG P Q) := by rw [e2]
  rw [this, Int.mul_comm (frQ P Q), ← Int.mul_assoc, e1]
end LK

set_option Elab.async false
set_option linter.all false
set_option maxRecDepth 100000
namespace LK
open PySem PySem.Spec PyProof.Rows L2
local macro_rules | `(tactic| walk_at "rs") => `(tactic| simp only [tFld, sFld, tMeth, tMethZ, tMakeK, tMakeS, tMethS, tEf, tProp, tFmt, rEqO, rNeO, cxK, cxNK, tCallZ, tAsg, tOp, rI0, rS0, rB0, rI, rU, tUn, rEq, rNe, rIxL, rIxT, rIxS, rSetL, rSlLU, rSlS, rSlU, rCatL, rCatU, rRepL, rIn, tVar, tC, gName, gSub, tIfS, tTest, tB, tAnd, tOr, tNot, tNotV, tAndV, tOrV, tIf, tCall, tCons, tNil, tCB, tDrop, tRet, tRetN, tNext, tLstU, tTupU, tM0, tM1, tPar, tPar3, tAug, ipI, tBM, tBM0, rAppend, rPop, tBreak, sDPut, tDGet, tDGet2, tCont, tChain, tSl, tPart, tNoPart, L2.start, List.map, List.length_cons, List.length_nil, List.replicate, List.cons_append, List.nil_append, List.append_nil, List.getElem?_cons_zero, List.getElem?_cons_succ, List.set_cons_zero, List.set_cons_succ, Option.some.injEq, V.int.injEq, V.ref.injEq, V.str.injEq, V.bl.injEq, exists_eq_left', exists_eq_left, exists_and_left, decide_eq_true_eq, List.cons.injEq, and_true, true_and, scal, Bool.not_eq_true', decide_eq_false_iff_not, Nat.zero_add, Nat.reduceAdd, Nat.reduceSub, reduceCtorEq, false_and, exists_false, false_or, or_false, CPow, CPowW, CMul, CDiv, Int.reduceToNat, ↓reduceIte, wipe, sw, List.nil_append, List.singleton_append])
local macro_rules | `(tactic| walk_at "st") => `(tactic| (refine seq_op fun N hN => ?_; walk_at "rs"))
local macro_rules | `(tactic| walk_at "sd") => `(tactic| first | assumption | decide | omega)
local macro_rules | `(tactic| walk_at "rd") => `(tactic| repeat (first
  | refine ⟨_, SqL.of (by assumption), ?_⟩ | refine ⟨_, SqL.of upd_same, ?_⟩ | refine ⟨_, .inl (SqL.of (by assumption)), ?_⟩ | refine ⟨_, (by assumption : _ = some (HO.lst _)), ?_⟩ | refine ⟨_, upd_same, ?_⟩
  | refine ⟨_, rfl, ?_⟩ | refine And.intro (by walk_at "sd") ?_))

abbrev Fr := Int × Int
/-- the fraction f, in lowest terms, is X parts of L -/
def Va (L X : Int) (f : Fr) : Prop := 1 ≤ f.2 ∧ Nat.gcd f.1.natAbs f.2.natAbs = 1 ∧ f.1 * L = X * f.2
theorem Va.dvd {L X : Int} {f : Fr} (h : Va L X f) : f.2 ∣ L := by
  obtain ⟨h1, h2, h3⟩ := h
  have d : f.2.natAbs ∣ f.1.natAbs * L.natAbs := ⟨X.natAbs, by rw [← Int.natAbs_mul, h3, Int.natAbs_mul, Nat.mul_comm]⟩
  exact Int.natAbs_dvd_natAbs.mp (Nat.Coprime.dvd_of_dvd_mul_left (Nat.Coprime.symm h2) d)
theorem Va.den {L X : Int} {f : Fr} (h : Va L X f) (hL : 0 < L) : f.2.natAbs ≤ L.natAbs := Nat.le_of_dvd (by omega) (Int.natAbs_dvd_natAbs.mpr h.dvd)
theorem Va.num {L X : Int} {f : Fr} (h : Va L X f) (hL : 0 < L) : f.1.natAbs ≤ X.natAbs := by
  have hd := h.den hL
  have e : f.1.natAbs * L.natAbs = X.natAbs * f.2.natAbs := by rw [← Int.natAbs_mul, ← Int.natAbs_mul, h.2.2]
  have : f.1.natAbs * L.natAbs ≤ X.natAbs * L.natAbs := by rw [e]; exact Nat.mul_le_mul_left _ hd
  exact Nat.le_of_mul_le_mul_right this (by omega)
theorem Va.zero (L : Int) : Va L 0 (0, 1) := ⟨by decide, by decide, by simp⟩
theorem Va.scale {L X : Int} {f : Fr} (h : Va L X f) (k : Int) : Va (L * k) (X * k) f := ⟨h.1, h.2.1, by rw [← Int.mul_assoc, h.2.2, Int.mul_assoc, Int.mul_assoc, Int.mul_comm k]⟩
theorem Va.plus {L X Y : Int} {f g : Fr} (h : Va L X f) (h' : Va L Y g) : Va L (X + Y) (frP (f.1 * g.2 + g.1 * f.2) (f.2 * g.2), frQ (f.1 * g.2 + g.1 * f.2) (f.2 * g.2)) ∧ f.2 * g.2 ≠ 0 := by
  have q0 : f.2 * g.2 ≠ 0 := Int.mul_ne_zero (by have := h.1; omega) (by have := h'.1; omega)
  have wo := fr_worth (f.1 * g.2 + g.1 * f.2) q0
  obtain ⟨_, _, e3, e4, _⟩ := fr_spec (f.1 * g.2 + g.1 * f.2) q0
  refine ⟨⟨e3, e4, ?_⟩, q0⟩
  dsimp only
  generalize frP (f.1 * g.2 + g.1 * f.2) (f.2 * g.2) = P at wo
  generalize frQ (f.1 * g.2 + g.1 * f.2) (f.2 * g.2) = Q at wo
  refine Int.eq_of_mul_eq_mul_right q0 ?_
  have e1 := h.2.2
  have e2 := h'.2.2
  have a1 : P * L * (f.2 * g.2) = (P * (f.2 * g.2)) * L := by simp only [Int.mul_assoc, Int.mul_comm, Int.mul_left_comm]
  have a2 : (f.1 * g.2 + g.1 * f.2) * Q * L = ((f.1 * L) * g.2 + (g.1 * L) * f.2) * Q := by simp only [Int.add_mul, Int.mul_add, Int.mul_assoc, Int.mul_comm, Int.mul_left_comm]
  rw [a1, wo, a2, e1, e2]
  simp only [Int.add_mul, Int.mul_add, Int.mul_assoc, Int.mul_comm, Int.mul_left_comm]
theorem Va.times {L M X Y : Int} {f g : Fr} (h : Va L X f) (h' : Va M Y g) : Va (L * M) (X * Y) (frP (f.1 * g.1) (f.2 * g.2), frQ (f.1 * g.1) (f.2 * g.2)) ∧ f.2 * g.2 ≠ 0 := by
  have q0 : f.2 * g.2 ≠ 0 := Int.mul_ne_zero (by have := h.1; omega) (by have := h'.1; omega)
  have wo := fr_worth (f.1 * g.1) q0
  obtain ⟨_, _, e3, e4, _⟩ := fr_spec (f.1 * g.1) q0
  refine ⟨⟨e3, e4, ?_⟩, q0⟩
  dsimp only
  generalize frP (f.1 * g.1) (f.2 * g.2) = P at wo
  generalize frQ (f.1 * g.1) (f.2 * g.2) = Q at wo
  refine Int.eq_of_mul_eq_mul_right q0 ?_
  have e1 := h.2.2
  have e2 := h'.2.2
  have a1 : P * (L * M) * (f.2 * g.2) = (P * (f.2 * g.2)) * (L * M) := by simp only [Int.mul_assoc, Int.mul_comm, Int.mul_left_comm]
  have a2 : f.1 * g.1 * Q * (L * M) = (f.1 * L) * (g.1 * M) * Q := by simp only [Int.mul_assoc, Int.mul_comm, Int.mul_left_comm]
  rw [a1, wo, a2, e1, e2]
  simp only [Int.mul_assoc, Int.mul_comm, Int.mul_left_comm]
theorem low_eq {f g : Fr} (hf : 1 ≤ f.2) (gf : Nat.gcd f.1.natAbs f.2.natAbs = 1) (hg : 1 ≤ g.2) (gg : Nat.gcd g.1.natAbs g.2.natAbs = 1) (e : f.1 * g.2 = g.1 * f.2) : f = g := by
  obtain ⟨a, b⟩ := fr_unique (P := f.1) (Q := f.2) (p := g.1) (q := g.2) (by omega) e hg gg
  obtain ⟨c, d⟩ := fr_low hf gf
  exact Prod.ext (by rw [← a, c]) (by rw [← b, d])
theorem Va.uniq {L X : Int} {f g : Fr} (hL : 0 < L) (h : Va L X f) (h' : Va L X g) : f = g := by
  refine low_eq h.1 h.2.1 h'.1 h'.2.1 ?_
  refine Int.eq_of_mul_eq_mul_right (show L ≠ 0 by omega) ?_
  have e1 := h.2.2
  have e2 := h'.2.2
  have a1 : f.1 * g.2 * L = (f.1 * L) * g.2 := by simp only [Int.mul_assoc, Int.mul_comm, Int.mul_left_comm]
  have a2 : g.1 * f.2 * L = (g.1 * L) * f.2 := by simp only [Int.mul_assoc, Int.mul_comm, Int.mul_left_comm]
  rw [a1, a2, e1, e2]
  simp only [Int.mul_assoc, Int.mul_comm, Int.mul_left_comm]
theorem Va.pos {L X : Int} {f : Fr} (hL : 0 < L) (h : Va L X f) : 0 < f.1 ↔ 0 < X := by
  have e := h.2.2
  have q1 := h.1
  constructor
  · intro p
    have := Int.mul_pos p hL
    rw [e] at this
    exact Int.pos_of_mul_pos_left this (by omega)
  · intro p
    have := Int.mul_pos p (show 0 < f.2 by omega)
    rw [← e] at this
    exact Int.pos_of_mul_pos_left this hL
/-- the parts of M that f has -/
def num (M : Int) (f : Fr) : Int := f.1 * (M / f.2)
theorem num_va {M : Int} {f : Fr} (h1 : 1 ≤ f.2) (hg : Nat.gcd f.1.natAbs f.2.natAbs = 1) (hd : f.2 ∣ M) : Va M (num M f) f := by
  refine ⟨h1, hg, ?_⟩
  unfold num
  rw [Int.mul_assoc, Int.ediv_mul_cancel hd]
end LK

set_option Elab.async false
set_option linter.all false
set_option maxRecDepth 100000
namespace LK
open PySem PySem.Spec PyProof.Rows L2
local macro_rules | `(tactic| walk_at "rs") => `(tactic| simp only [tFld, sFld, tMeth, tMethZ, tMakeK, tMakeS, tMethS, tEf, tProp, tFmt, rEqO, rNeO, cxK, cxNK, tCallZ, tAsg, tOp, rI0, rS0, rB0, rI, rU, tUn, rEq, rNe, rIxL, rIxT, rIxS, rSetL, rSlLU, rSlS, rSlU, rCatL, rCatU, rRepL, rIn, tVar, tC, gName, gSub, tIfS, tTest, tB, tAnd, tOr, tNot, tNotV, tAndV, tOrV, tIf, tCall, tCons, tNil, tCB, tDrop, tRet, tRetN, tNext, tLstU, tTupU, tM0, tM1, tPar, tPar3, tAug, ipI, tBM, tBM0, rAppend, rPop, tBreak, sDPut, tDGet, tDGet2, tCont, tChain, tSl, tPart, tNoPart, L2.start, List.map, List.length_cons, List.length_nil, List.replicate, List.cons_append, List.nil_append, List.append_nil, List.getElem?_cons_zero, List.getElem?_cons_succ, List.set_cons_zero, List.set_cons_succ, Option.some.injEq, V.int.injEq, V.ref.injEq, V.str.injEq, V.bl.injEq, exists_eq_left', exists_eq_left, exists_and_left, decide_eq_true_eq, List.cons.injEq, and_true, true_and, scal, Bool.not_eq_true', decide_eq_false_iff_not, Nat.zero_add, Nat.reduceAdd, Nat.reduceSub, reduceCtorEq, false_and, exists_false, false_or, or_false, CPow, CPowW, CMul, CDiv, Int.reduceToNat, ↓reduceIte, wipe, sw, List.nil_append, List.singleton_append])
local macro_rules | `(tactic| walk_at "st") => `(tactic| (refine seq_op fun N hN => ?_; walk_at "rs"))
local macro_rules | `(tactic| walk_at "sd") => `(tactic| first | assumption | decide | omega)
local macro_rules | `(tactic| walk_at "rd") => `(tactic| repeat (first
  | refine ⟨_, SqL.of (by assumption), ?_⟩ | refine ⟨_, SqL.of upd_same, ?_⟩ | refine ⟨_, .inl (SqL.of (by assumption)), ?_⟩ | refine ⟨_, (by assumption : _ = some (HO.lst _)), ?_⟩ | refine ⟨_, upd_same, ?_⟩
  | refine ⟨_, rfl, ?_⟩ | refine And.intro (by walk_at "sd") ?_))

section
variable {P : Program} {w : World} {K : PySem.W.Frag} {mg : Str → Option Value} {base : Heap}
theorem ok__law_draw (T : Txt w K mg) : FnOk P w K mg base CX0 1 T.a__law_draw T.d__law_draw ["bag", "many"] sp__law_draw := by
  refine T.F__law_draw.ok sc__law_draw (fun vs H Q E h => ?_) (fun cdv A outer s H vs Q E hr h => ?_)
  · obtain ⟨b, c, n, N0, rfl, _⟩ := h
    rfl
  · obtain ⟨b, c, n, N0, rfl, ⟨cells, i, g, m, d, hB, hC, ncb, hi, hm, hm2, hd, hd2⟩, n0, n1, k⟩ := h
    refine ⟨_, (pss_cons (ps_asg (pe_op op_add (pe_ix ix_list (pv 0) pe_int (fun _ _ => rfl)) pe_int) (pg_sub (pv 0) pe_int set_list))
      (pss_cons (ps_if (PW.pt (pw_and (pt_cmpR op_eqI (pe_ix ix_list (pv 0) pe_int (fun _ _ => rfl)) pe_int (nomark _)) (pw_and1 (pt_cmpR op_lt (pe_ix ix_list (pv 0) pe_int (fun _ _ => rfl)) (pe_callB call_len_seq (by rfl) T.n_len (by decide +kernel) (pa_cons (pe_ix ix_list (pv 0) pe_int (fun _ _ => rfl)) pa_nil)) (nomark _))))) (pss_cons (ps_set (i := 2) sc__law_draw.nd rfl (Or.inl rfl) (pe_callTy call_intI (by rfl) T.n_int (by decide +kernel) (pa_cons (pe_ix ix_list (pe_ix ix_list (pv 0) pe_int (fun _ _ => rfl)) (pe_ix ix_list (pv 0) pe_int (fun _ _ => rfl)) (fun _ _ => rfl)) pa_nil)))
      (pss_cons (ps_asg (pe_op op_add (pe_ix ix_list (pv 0) pe_int (fun _ _ => rfl)) pe_int) (pg_sub (pv 0) pe_int set_list))
      (pss_one (ps_if (pt_cmpR op_ge (pv 2) (pe_op op_powW pe_int pe_int) (nomark _)) (pss_one (ps_asg (pv 2) (pg_sub (pv 0) pe_int set_list))) (pss_one (ps_asg (pe_op op_mod (pe_callTy call_intI (by rfl) T.n_int (by decide +kernel) (pa_cons (pe_op op_powW (pe_op op_add (pe_op op_add (pe_ix ix_list (pv 0) pe_int (fun _ _ => rfl)) (pe_op op_mul (pe_op op_mod (pe_callTy call_intI (by rfl) T.n_int (by decide +kernel) (pa_cons (pv 2) pa_nil)) pe_int) pe_int)) pe_int) pe_int) pa_nil)) pe_int) (pg_sub (pv 0) pe_int set_list))))))) pss_nil)
      (pss_cons (ps_if (pt_cmpR op_gt (pe_ix ix_list (pv 0) pe_int (fun _ _ => rfl)) pe_int (nomark _)) (pss_cons (ps_set (i := 3) sc__law_draw.nd rfl (Or.inl rfl) (pe_op op_mod (pe_callTy call_intI (by rfl) T.n_int (by decide +kernel) (pa_cons (pe_ix ix_list (pv 0) pe_int (fun _ _ => rfl)) pa_nil)) (pv 1)))
      (pss_cons (ps_asg (pe_op op_fdivW (pe_callTy call_intI (by rfl) T.n_int (by decide +kernel) (pa_cons (pe_ix ix_list (pv 0) pe_int (fun _ _ => rfl)) pa_nil)) (pv 1)) (pg_sub (pv 0) pe_int set_list))
      (pss_one (ps_ret (pv 3))))) pss_nil)
      (pss_cons (ps_asg (pe_op op_mod (pe_callTy call_intI (by rfl) T.n_int (by decide +kernel) (pa_cons (pe_op op_powW (pe_op op_add (pe_op op_add (pe_ix ix_list (pv 0) pe_int (fun _ _ => rfl)) (pe_op op_mul (pe_ix ix_list (pv 0) pe_int (fun _ _ => rfl)) pe_int)) pe_int) pe_int) pa_nil)) pe_int) (pg_sub (pv 0) pe_int set_list))
      (pss_one (ps_ret (pe_op op_mod (pe_callTy call_intI (by rfl) T.n_int (by decide +kernel) (pa_cons (pe_op op_fdivW (pe_ix ix_list (pv 0) pe_int (fun _ _ => rfl)) pe_int) pa_nil)) (pv 1)))))))), ?_⟩
    -- bag[4] = bag[4] + 1
    refine seq_op fun N hN => ?_
    walk_at "rs"
    refine ⟨_, SqL.of hB, _, rfl, _, rfl, _, hB, _, rfl, ?_⟩
    refine hN _ _ ?_
    clear hN N
    -- if bag[2] == 0 and bag[1] < len(bag[0]): ..
    have B1 : Bag N0 (upd H b (.lst [.ref c, .int i, .int g, .int m, .int (d + 1)])) b c := ⟨cells, i, g, m, d + 1, upd_same, by rw [upd_ne ncb]; exact hC, ncb, hi, hm, hm2, by omega, by omega⟩
    have K1 : Kp b H (upd H b (.lst [.ref c, .int i, .int g, .int m, .int (d + 1)])) := Kp.upd
    show tSeq _ _ _ _ (upd H b (.lst [.ref c, .int i, .int g, .int m, .int (d + 1)]))
    generalize upd H b (.lst [.ref c, .int i, .int g, .int m, .int (d + 1)]) = H1 at B1 K1 ⊢
    clear hB hC ncb hi hm hm2 hd hd2 i g m d cells
    refine cut_seq (fun σ H2 => ∃ x, σ = [some (.ref b), some (.int n), x, none] ∧ Bag N0 H2 b c ∧ Kp b H H2) (fun N hN => ?_) ?_
    · obtain ⟨cells, i, g, m, d, hB, hC, ncb, hi, hm, hm2, hd, hd2⟩ := id B1
      walk_at "rs"
      refine ⟨_, SqL.of hB, _, rfl, _, rfl, ite2 (fun z => ?_) (fun _ => hN _ _ ⟨_, rfl, B1, K1⟩)⟩
      refine ⟨_, SqL.of hB, _, rfl, _, SqL.of hB, _, rfl, _, rfl, _, .inl (SqL.of hC), _, rfl, ite2 (fun zl => ?_) (fun _ => hN _ _ ⟨_, rfl, B1, K1⟩)⟩
      -- cell = bag[0][bag[1]]
      rw [List.length_map] at zl
      obtain ⟨cl, hcl⟩ : ∃ cl, cells[i.toNat]? = some cl := ⟨cells[i.toNat]'(by omega), List.getElem?_eq_getElem _⟩
      refine seq_op fun N2 hN2 => ?_
      walk_at "rs"
      walk_at "rd"
      refine ⟨_, _, rfl, SqL.of hC, _, at_of (j := i.toNat) (v := .int cl) (by omega) (by rw [List.getElem?_map, hcl] <;> rfl), cl, rfl, hN2 _ _ ?_⟩
      clear hN2 N2
      -- bag[1] = bag[1] + 1
      refine seq_op fun N2 hN2 => ?_
      walk_at "rs"
      walk_at "rd"
      refine hN2 _ _ ?_
      clear hN2 N2
      -- if cell >= 10 ** 18: bag[2] = cell else: ..
      walk_at "rs"
      refine ⟨by decide, ite2 (fun _ => ?_) (fun _ => ?_)⟩
      · refine ⟨_, upd_same, _, rfl, hN _ _ ⟨_, rfl, ?_, ?_⟩⟩
        · exact ⟨cells, i + 1, cl, m, d, upd_same, by rw [upd_ne ncb, upd_ne ncb]; exact hC, ncb, by omega, hm, hm2, hd, hd2⟩
        · exact K1.trans (Kp.upd.trans Kp.upd)
      · walk_at "rd"
        refine hN _ _ ⟨_, rfl, ?_, ?_⟩
        · exact ⟨cells, i + 1, g, _, d, upd_same, by rw [upd_ne ncb, upd_ne ncb]; exact hC, ncb, by omega, Int.emod_nonneg _ (by decide), Int.emod_lt_of_pos _ (by decide), hd, hd2⟩
        · exact K1.trans (Kp.upd.trans Kp.upd)
    · rintro σ H2 ⟨x, rfl, B2, K2⟩
      obtain ⟨cells, i, g, m, d, hB, hC, ncb, hi, hm, hm2, hd, hd2⟩ := id B2
      -- if bag[2] > 0: ..
      refine seq_op fun N hN => ?_
      walk_at "rs"
      refine ⟨_, SqL.of hB, _, rfl, _, rfl, ite2 (fun _ => ?_) (fun _ => hN _ _ ?_)⟩
      · refine seq_op fun N2 hN2 => ?_
        walk_at "rs"
        walk_at "rd"
        refine hN2 _ _ ?_
        clear hN2 N2
        refine seq_op fun N2 hN2 => ?_
        walk_at "rs"
        refine ⟨_, SqL.of hB, _, rfl, _, rfl, ⟨n0, Nat.lt_trans (PySem.Flt.log2_lt_of (by decide : 0 < 30) (show n.natAbs < 2 ^ 30 by omega)) (by decide)⟩, ?_⟩
        walk_at "rd"
        refine hN2 _ _ ?_
        walk_at "rs"
        exact k _ _ (Int.emod_nonneg _ (by omega)) (Int.emod_lt_of_pos _ n0) ⟨cells, i, _, m, d, upd_same, by rw [upd_ne ncb]; exact hC, ncb, hi, hm, hm2, hd, hd2⟩ (K2.trans Kp.upd)
      · clear hN N
        refine seq_op fun N hN => ?_
        walk_at "rs"
        refine ⟨_, SqL.of hB, _, rfl, _, SqL.of hB, _, rfl, _, rfl, .inr (by decide), m, rfl, ⟨by decide, by decide, by omega⟩, by decide, ?_⟩
        walk_at "rd"
        refine hN _ _ ?_
        clear hN N
        walk_at "rs"
        walk_at "rd"
        exact ⟨⟨by decide, Nat.lt_trans (PySem.Flt.log2_lt_of (by decide : 0 < 31) (by decide)) (by decide)⟩, n0, k _ _ (Int.emod_nonneg _ (by omega)) (Int.emod_lt_of_pos _ n0) ⟨cells, i, g, _, d, upd_same, by rw [upd_ne ncb]; exact hC, ncb, hi, Int.emod_nonneg _ (by decide), Int.emod_lt_of_pos _ (by decide), hd, hd2⟩ (K2.trans Kp.upd)⟩

theorem ok__law_bag (T : Txt w K mg) : FnOk P w K mg base CX0 1 T.a__law_bag T.d__law_bag ["script"] (sp__law_bag K) := by
  refine T.F__law_bag.ok sc__law_bag (fun vs H Q E h => ?_) (fun cdv A outer s H vs Q E hr h => ?_)
  · obtain ⟨a, ns, rfl, _⟩ := h
    rfl
  · obtain ⟨a, ns, rfl, hS, hl, k⟩ := h
    refine ⟨_, (pss_cons (ps_set (i := 1) sc__law_bag.nd rfl (Or.inl rfl) pe_int)
      (pss_cons (ps_for PassesOwn.never rfl (pi_list (pe_slice sl_listU (pv 0) po_none (po_some pe_int))) (pg_name (i := 2) sc__law_bag.nd rfl (Or.inl rfl)) (pss_one (ps_set (i := 1) sc__law_bag.nd rfl (Or.inl rfl) (pe_op op_mod (pe_callTy call_intI (by rfl) T.n_int (by decide +kernel) (pa_cons (pe_op op_powW (pe_op op_add (pe_op op_add (pv 1) (pe_op op_mod (pe_callTy call_intI (by rfl) T.n_int (by decide +kernel) (pa_cons (pv 2) pa_nil)) pe_int)) pe_int) pe_int) pa_nil)) pe_int))))
      (pss_one (ps_ret (pe_lstU (pa_cons (pe_callTy call_listU (by rfl) T.n_list (by decide +kernel) (pa_cons (pe_slice sl_listU (pv 0) po_none (po_some pe_int)) pa_nil)) (pa_cons pe_int (pa_cons pe_int (pa_cons (pv 1) (pa_cons pe_int pa_nil)))))))))), ?_⟩
    refine seq_op fun N hN => ?_
    walk_at "rs"
    refine hN _ _ ?_
    clear hN N
    refine cut_seq (fun σ H2 => ∃ m x, σ = [some (.ref a), some (.int m), x] ∧ 0 ≤ m ∧ m < 2305843009213693951 ∧ Same H H2) (fun N hN => ?_) ?_
    · refine ⟨_, rfl, _, rfl, a, _, rfl, hS, fun p H1 s1 h0 h1 => ?_⟩
      refine ⟨p, rfl, ⟨_, SqL.of h1⟩, for_list (K := K) (a := p) (xs := cutV (ns.map V.int) none (some 63)) (fun i σ H2 => ∃ m x, σ = [some (.ref a), some (.int m), x] ∧ 0 ≤ m ∧ m < 2305843009213693951 ∧ Same H1 H2) ⟨_, _, rfl, by decide, by decide, Same.refl _⟩ (fun i σ H2 _ ⟨_, _, _, _, _, s2⟩ => SqL.of (s2 _ _ h1)) ?_ ?_⟩
      · rintro i y σ H2 hi ⟨m, x, rfl, m0, m1, s2⟩
        obtain ⟨u, rfl⟩ : ∃ u, y = V.int u := by
          have q := List.mem_of_getElem? hi
          have q2 : y ∈ (ns.map V.int).take 63 := (cutV_take (ns.map V.int) 63) ▸ q
          obtain ⟨u, _, rfl⟩ := List.mem_map.mp (List.mem_of_mem_take q2)
          exact ⟨u, rfl⟩
        walk_at "rs"
        have u0 := Int.emod_nonneg u (show (2305843009213693921 : Int) ≠ 0 by decide)
        have u1 := Int.emod_lt_of_pos u (show (0 : Int) < 2305843009213693921 by decide)
        refine ⟨by decide, ⟨by decide, by decide, by omega⟩, by decide, ?_⟩
        exact ⟨_, _, ⟨rfl, rfl⟩, Int.emod_nonneg _ (by decide), Int.emod_lt_of_pos _ (by decide), s2⟩
      · rintro σ H2 ⟨m, x, rfl, m0, m1, s2⟩
        exact hN _ _ ⟨m, x, rfl, m0, m1, Same.trans s1 s2⟩
    · rintro σ H2 ⟨m, x, rfl, m0, m1, s2⟩
      walk_at "rs"
      refine ⟨_, Same.seq s2 hS, fun p H3 s3 h30 h3 => ⟨_, .inl (SqL.of h3), fun l H4 s4 h40 h4 => ⟨by decide, fun q H5 s5 h50 h5 => ?_⟩⟩⟩
      have e : cutV (ns.map V.int) none (some 63) = ns.map V.int := by
        refine (cutV_take (ns.map V.int) 63).trans ?_
        rw [List.take_of_length_le (by simpa using hl)]
      rw [e] at h4
      have s25 : Same H2 H5 := Same.trans s3 (Same.trans s4 s5)
      refine k q l H5 (Same.trans s2 s25) ⟨ns, 0, 0, m, 0, h5, s5 _ _ h4, fun z => ?_, Int.le_refl _, m0, m1, Int.le_refl _, by decide⟩ ?_
      · rw [z, h50] at h4; cases h4
      · exact Same.dom s2 q (Same.dom s3 q (Same.dom s4 q h50))
end
end LK

set_option Elab.async false
set_option linter.all false
set_option maxRecDepth 100000
namespace LK
open PySem PySem.Spec PyProof.Rows L2
local macro_rules | `(tactic| walk_at "rs") => `(tactic| simp only [tFld, sFld, tMeth, tMethZ, tMakeK, tMakeS, tMethS, tEf, tProp, tFmt, rEqO, rNeO, cxK, cxNK, tCallZ, tAsg, tOp, rI0, rS0, rB0, rI, rU, tUn, rEq, rNe, rIxL, rIxT, rIxS, rSetL, rSlLU, rSlS, rSlU, rCatL, rCatU, rRepL, rIn, tVar, tC, gName, gSub, tIfS, tTest, tB, tAnd, tOr, tNot, tNotV, tAndV, tOrV, tIf, tCall, tCons, tNil, tCB, tDrop, tRet, tRetN, tNext, tLstU, tTupU, tM0, tM1, tPar, tPar3, tAug, ipI, tBM, tBM0, rAppend, rPop, tBreak, sDPut, tDGet, tDGet2, tCont, tChain, tSl, tPart, tNoPart, L2.start, List.map, List.length_cons, List.length_nil, List.replicate, List.cons_append, List.nil_append, List.append_nil, List.getElem?_cons_zero, List.getElem?_cons_succ, List.set_cons_zero, List.set_cons_succ, Option.some.injEq, V.int.injEq, V.ref.injEq, V.str.injEq, V.bl.injEq, exists_eq_left', exists_eq_left, exists_and_left, decide_eq_true_eq, List.cons.injEq, and_true, true_and, scal, Bool.not_eq_true', decide_eq_false_iff_not, Nat.zero_add, Nat.reduceAdd, Nat.reduceSub, reduceCtorEq, false_and, exists_false, false_or, or_false, CPow, CPowW, CMul, CDiv, Int.reduceToNat, ↓reduceIte, wipe, sw, List.nil_append, List.singleton_append])
local macro_rules | `(tactic| walk_at "st") => `(tactic| (refine seq_op fun N hN => ?_; walk_at "rs"))
local macro_rules | `(tactic| walk_at "sd") => `(tactic| first | assumption | decide | omega)
local macro_rules | `(tactic| walk_at "rd") => `(tactic| repeat (first
  | refine ⟨_, SqL.of (by assumption), ?_⟩ | refine ⟨_, SqL.of upd_same, ?_⟩ | refine ⟨_, .inl (SqL.of (by assumption)), ?_⟩ | refine ⟨_, (by assumption : _ = some (HO.lst _)), ?_⟩ | refine ⟨_, upd_same, ?_⟩
  | refine ⟨_, rfl, ?_⟩ | refine And.intro (by walk_at "sd") ?_))

theorem Kp.bn {b : Addr} {H H' : Hp} (k : Kp b H H') {o : HO} (h : H' b = some o) {p : Addr} (h0 : H' p = none) : H p = none := k.dom h p h0
theorem sqT_hb {N : Nat} {K : PySem.W.Frag} {H : Hp} {b c q : Addr} {xs : List V} (B : Bag N H b c) (h : SqT K H q xs) : SqT K (hb H b) q xs := by
  obtain ⟨yb, eb⟩ := B.at
  rcases h with (h | ⟨o, h⟩) | h
  · refine .inl (.inl ?_)
    rw [hb_ne]; exact h
    intro e; rw [e, eb] at h; cases h
  · refine .inl (.inr ⟨o, ?_⟩)
    rw [hb_ne]; exact h
    intro e; rw [e, eb] at h; cases h
  · exact .inr h
theorem seqT_kp {N : Nat} {K : PySem.W.Frag} {H H' : Hp} {b c q : Addr} {xs : List V} (B : Bag N H b c) (k : Kp b H H') (h : SqT K H q xs) : SqT K H' q xs := Same.seqT (hb_le H' b) (Same.seqT k (sqT_hb B h))
theorem new_ne {N : Nat} {b c p : Addr} {H : Hp} (B : Bag N H b c) (h0 : H p = none) : p ≠ b := fun e => by
  obtain ⟨xb, eb⟩ := B.at
  rw [e, eb] at h0; cases h0
theorem of_lst {N : Nat} {K : PySem.W.Frag} {H : Hp} {b c p : Addr} (B : Bag (N + 1) H b c) {ys : List V} (h : H p = some (.lst ys)) (n : p ≠ b) (ne : ys ≠ []) (hl : ys.length ≤ 1000000) {Q : VK} {E : XK} (k : ∀ y H', y ∈ ys → Bag N H' b c → Kp b H H' → Q y H') : sp__law_of K [.ref b, .ref p] H Q E :=
  ⟨b, c, .ref p, ys, N, rfl, B, .inl ⟨p, rfl, SqL.of h⟩, .inl ⟨p, rfl, SqL.of (by rw [hb_ne n]; exact h)⟩, ne, hl, k⟩
end LK

set_option Elab.async false
set_option linter.all false
set_option maxRecDepth 100000
namespace LK
open PySem PySem.Spec PyProof.Rows L2
local macro_rules | `(tactic| walk_at "rs") => `(tactic| simp only [tFld, sFld, tMeth, tMethZ, tMakeK, tMakeS, tMethS, tEf, tProp, tFmt, rEqO, rNeO, cxK, cxNK, tCallZ, tAsg, tOp, rI0, rS0, rB0, rI, rU, tUn, rEq, rNe, rIxL, rIxT, rIxS, rSetL, rSlLU, rSlS, rSlU, rCatL, rCatU, rRepL, rIn, tVar, tC, gName, gSub, tIfS, tTest, tB, tAnd, tOr, tNot, tNotV, tAndV, tOrV, tIf, tCall, tCons, tNil, tCB, tDrop, tRet, tRetN, tNext, tLstU, tTupU, tM0, tM1, tPar, tPar3, tAug, ipI, tBM, tBM0, rAppend, rPop, tBreak, sDPut, tDGet, tDGet2, tCont, tChain, tSl, tPart, tNoPart, L2.start, List.map, List.length_cons, List.length_nil, List.replicate, List.cons_append, List.nil_append, List.append_nil, List.getElem?_cons_zero, List.getElem?_cons_succ, List.set_cons_zero, List.set_cons_succ, Option.some.injEq, V.int.injEq, V.ref.injEq, V.str.injEq, V.bl.injEq, exists_eq_left', exists_eq_left, exists_and_left, decide_eq_true_eq, List.cons.injEq, and_true, true_and, scal, Bool.not_eq_true', decide_eq_false_iff_not, Nat.zero_add, Nat.reduceAdd, Nat.reduceSub, reduceCtorEq, false_and, exists_false, false_or, or_false, CPow, CPowW, CMul, CDiv, Int.reduceToNat, ↓reduceIte, wipe, sw, List.nil_append, List.singleton_append])
local macro_rules | `(tactic| walk_at "st") => `(tactic| (refine seq_op fun N hN => ?_; walk_at "rs"))
local macro_rules | `(tactic| walk_at "sd") => `(tactic| first | assumption | decide | omega)
local macro_rules | `(tactic| walk_at "rd") => `(tactic| repeat (first
  | refine ⟨_, SqL.of (by assumption), ?_⟩ | refine ⟨_, SqL.of upd_same, ?_⟩ | refine ⟨_, .inl (SqL.of (by assumption)), ?_⟩ | refine ⟨_, (by assumption : _ = some (HO.lst _)), ?_⟩ | refine ⟨_, upd_same, ?_⟩
  | refine ⟨_, rfl, ?_⟩ | refine And.intro (by walk_at "sd") ?_))

theorem dp_kitD {K : PySem.W.Frag} {H : Hp} {v : V} {d : PyData} (h : Dp K H v d) : PySem.W.kitOne K (.type (tyN d)) (.type "dict") = some false := by
  refine kit_ty ?_
  cases h <;> (simp only [tyN]; decide +kernel)
theorem call_isiDT3 {X : Cx} : CallR X (.builtin "isinstance") (fun xs H Q => ∃ x tp d, xs = [x, .ref tp] ∧ H tp = some (.tup [.ty "list", .ty "tuple", .ty "dict"]) ∧ Dp X.K H x d ∧ Q (.bl (isTy "list" d || isTy "tuple" d)) H) := cr_imp call_isiT fun xs H Q h => by
  obtain ⟨x, tp, d, rfl, ht, hd, q⟩ := h
  refine ⟨x, tp, _, .type (tyN d), [.type "list", .type "tuple", .type "dict"], _, rfl, ht, .cons (.ty _) (.cons (.ty _) (.cons (.ty _) .nil)), dp_ty hd, ?_, q⟩
  have h1 := dp_kit hd (T := "list") (by simp)
  have h2 := dp_kit hd (T := "tuple") (by simp)
  have h3 := dp_kitD hd
  unfold PySem.W.kitAny PySem.W.kitAny PySem.W.kitAny PySem.W.kitAny
  rw [h1, h2, h3]
  cases isTy "list" d <;> cases isTy "tuple" d <;> rfl
theorem dep_tup (ds : List PyData) : dep (.tuple ds) = depAll ds + 1 := rfl
theorem dep_lst (ds : List PyData) : dep (.list ds) = depAll ds + 1 := rfl
theorem depAll_get : ∀ {ds : List PyData} {i : Nat} {d : PyData}, ds[i]? = some d → dep d ≤ depAll ds
  | [], _, _, e => by simp at e
  | a :: r, 0, _, e => by simp at e; subst e; exact Nat.le_max_left _ _
  | a :: r, i + 1, _, e => Nat.le_trans (depAll_get (ds := r) (i := i) (by simpa using e)) (Nat.le_max_right _ _)
theorem dpa_get4 {K : PySem.W.Frag} {H : Hp} : ∀ {vs : List V} {ds : List PyData} {i : Nat} {v : V}, DpAll K H vs ds → vs[i]? = some v → ∃ d, ds[i]? = some d ∧ Dp K H v d
  | _, _, _, _, .nil, e => by simp at e
  | _, _, 0, _, .cons r _, e => by simp at e; subst e; exact ⟨_, rfl, r⟩
  | _, _, i + 1, _, .cons _ t, e => by
    obtain ⟨d, h1, h2⟩ := dpa_get4 (i := i) t (by simpa using e)
    exact ⟨d, by simpa using h1, h2⟩
theorem dpa_len4 {K : PySem.W.Frag} {H : Hp} : ∀ {vs : List V} {ds : List PyData}, DpAll K H vs ds → vs.length = ds.length
  | _, _, .nil => rfl
  | _, _, .cons _ t => by simp [dpa_len4 t]
theorem ok_get4 : ∀ {ds : List PyData} {i : Nat} {d : PyData}, okAll ds = true → ds[i]? = some d → okD d = true
  | [], _, _, _, e => by simp at e
  | a :: r, 0, _, h, e => by
    simp at e; subst e
    unfold okAll at h; rw [Bool.and_eq_true] at h; exact h.1
  | a :: r, i + 1, _, h, e => by
    unfold okAll at h; rw [Bool.and_eq_true] at h
    exact ok_get4 (i := i) h.2 (by simpa using e)
theorem isTy_leaf {d : PyData} (h1 : ∀ ds, d ≠ .list ds) (h2 : ∀ ds, d ≠ .tuple ds) : isTy "list" d = false ∧ isTy "tuple" d = false := by
  cases d <;> simp [isTy] <;> first | exact absurd rfl (h1 _) | exact absurd rfl (h2 _)
theorem walk_zipT {K : PySem.W.Frag} {a b : Addr} {xs ys : List V} {n : Nat} (hx : xs.length = n) (hy : ys.length = n) : Walk (RZ.ItzT K a b) n (fun H => SqT K H a xs ∧ SqT K H b ys) (YPair (fun i => xs[i]?) (fun i => ys[i]?)) := by
  refine ⟨fun i _ hi q => ?_, fun _ q => ⟨xs, ys, q.1, q.2, by omega⟩, fun i H v H' _ q y => ?_⟩
  · have h1 : i < xs.length := by omega
    have h2 : i < ys.length := by omega
    exact ⟨xs, ys, xs[i], ys[i], q.1, q.2, by simp [h1], by simp [h2]⟩
  · obtain ⟨T, x, z, h1, h2, h3, h4, h5⟩ := y
    exact ⟨T, x, z, h1, h2, h3, h4 xs q.1, h5 ys q.2⟩
section
variable {P : Program} {w : World} {K : PySem.W.Frag} {mg : Str → Option Value} {base : Heap}
theorem like_step (T : Txt w K mg) (n : Nat) (ih : ∀ m, m + 1 = n → FnOk P w K mg base CX0 (m + 1) T.a__law_like T.d__law_like ["found", "due"] (sp__law_like K m)) : FnOk P w K mg base CX0 (n + 1) T.a__law_like T.d__law_like ["found", "due"] (sp__law_like K n) := by
  refine T.F__law_like.ok sc__law_like (fun vs H Q E h => ?_) (fun cdv A outer s H vs Q E hr h => ?_)
  · obtain ⟨v, u, d, rfl, _⟩ := h
    rfl
  · obtain ⟨v, u, d, rfl, hv, hu, hok, hdep, k⟩ := h
    have leaf : isTy "list" d = false ∧ isTy "tuple" d = false ∨ (∃ ds, (d = .list ds ∨ d = .tuple ds)) := by
      cases d <;> first | exact .inr ⟨_, .inl rfl⟩ | exact .inr ⟨_, .inr rfl⟩ | exact .inl ⟨rfl, rfl⟩
    rcases leaf with ⟨el, et⟩ | ⟨ds, hds⟩
    · refine ⟨_, (pss_cons (ps_if (pt_val (pe_callB call_isiDT (by rfl) T.n_isinstance (by decide +kernel) (pa_cons (pv 1) (pa_cons (pe_tupU (pa_cons (pe_bltn (v := .ty "list") (u := .type "list") (by rfl) T.n_list (by decide +kernel) rfl) (pa_cons (pe_bltn (v := .ty "tuple") (u := .type "tuple") (by rfl) T.n_tuple (by decide +kernel) rfl) pa_nil))) pa_nil)))) pss_never pss_nil) (pss_cons (ps_if (PW.pt (pw_or (pt_cmpR op_isN (pv 1) pe_non (nomark _)) (pw_or1 (pt_cmpR op_isN (pv 0) pe_non (nomark _))))) (pss_one (ps_ret (pe_and (pe_cmpR op_isN (pv 1) pe_non (nomark _)) (pe_one (pe_cmpR op_isN (pv 0) pe_non (nomark _)))))) pss_nil)
      (pss_cons (ps_if (PW.pt (pw_or (pt_val (pe_callB call_isiDT3 (by rfl) T.n_isinstance (by decide +kernel) (pa_cons (pv 0) (pa_cons (pe_tupU (pa_cons (pe_bltn (v := .ty "list") (u := .type "list") (by rfl) T.n_list (by decide +kernel) rfl) (pa_cons (pe_bltn (v := .ty "tuple") (u := .type "tuple") (by rfl) T.n_tuple (by decide +kernel) rfl) (pa_cons (pe_bltn (v := .ty "dict") (u := .type "dict") (by rfl) T.n_dict (by decide +kernel) rfl) pa_nil)))) pa_nil)))) (pw_or1 (pt_cmpR op_neB (pe_callB (call_isiDK (K := K) rfl) (by rfl) T.n_isinstance (by decide +kernel) (pa_cons (pv 0) (pa_cons (pe_bltn (v := .ty "bool") (u := .type "bool") (by rfl) T.n_bool (by decide +kernel) rfl) pa_nil))) (pe_callB (call_isiDK (K := K) rfl) (by rfl) T.n_isinstance (by decide +kernel) (pa_cons (pv 1) (pa_cons (pe_bltn (v := .ty "bool") (u := .type "bool") (by rfl) T.n_bool (by decide +kernel) rfl) pa_nil))) (nomark _))))) (pss_one (ps_ret pe_bl)) pss_nil)
      (pss_cons (ps_if (PW.pt (pw_or (pt_cmpR op_neB (pe_callB (call_isiDK (K := K) rfl) (by rfl) T.n_isinstance (by decide +kernel) (pa_cons (pv 0) (pa_cons (pe_bltn (v := .ty "str") (u := .type "str") (by rfl) T.n_str (by decide +kernel) rfl) pa_nil))) (pe_callB (call_isiDK (K := K) rfl) (by rfl) T.n_isinstance (by decide +kernel) (pa_cons (pv 1) (pa_cons (pe_bltn (v := .ty "str") (u := .type "str") (by rfl) T.n_str (by decide +kernel) rfl) pa_nil))) (nomark _)) (pw_or1 (pt_cmpR op_neB (pe_callB (call_isiDK (K := K) rfl) (by rfl) T.n_isinstance (by decide +kernel) (pa_cons (pv 0) (pa_cons (pe_bltn (v := .ty "int") (u := .type "int") (by rfl) T.n_int (by decide +kernel) rfl) pa_nil))) (pe_callB (call_isiDK (K := K) rfl) (by rfl) T.n_isinstance (by decide +kernel) (pa_cons (pv 1) (pa_cons (pe_bltn (v := .ty "int") (u := .type "int") (by rfl) T.n_int (by decide +kernel) rfl) pa_nil))) (nomark _))))) (pss_one (ps_ret pe_bl)) pss_nil)
      (pss_one (ps_ret (pe_cmpR op_eq (pv 0) (pv 1) (nomark _)))))))), ?_⟩
      refine seq_op fun N hN => ?_
      walk_at "rs"
      refine ⟨by decide, fun p H1 s1 h0 h1 => ⟨_, p, ⟨rfl, rfl⟩, h1, _, dp_same s1 hu, iteFF (by rw [el, et]; decide) (hN _ _ ?_)⟩⟩
      clear hN N h1
      have hv1 := dp_same s1 hv
      have hu1 := dp_same s1 hu
      have k1 := fun H' (s : Same H1 H') => k H' (Same.trans s1 s)
      refine seq_op fun N hN => ?_
      walk_at "rs"
      by_cases cn : d = .none
      · subst cn
        cases hu
        cases hv
        exact iteTT rfl (iteTT rfl (k1 H1 (Same.refl _)))
      · have vn : v ≠ .non := fun e => by subst e; cases hv; exact cn rfl
        have un : u ≠ .non := fun e => by subst e; cases hu; exact cn rfl
        refine iteFF un (iteFF vn (hN _ _ ?_))
        clear hN N
        refine seq_op fun N hN => ?_
        walk_at "rs"
        refine ⟨by decide, fun p2 H2 s2 h02 h12 => ⟨_, p2, ⟨rfl, rfl⟩, h12, _, dp_same s2 hv1, iteFF (by rw [el, et]; decide) ?_⟩⟩
        refine ⟨_, "bool", ⟨rfl, rfl⟩, _, dp_same s2 hv1, by simp, _, "bool", ⟨rfl, rfl⟩, _, dp_same s2 hu1, by simp, iteFF (by simp) (hN _ _ ?_)⟩
        clear hN N
        refine seq_op fun N hN => ?_
        walk_at "rs"
        refine ⟨_, "str", ⟨rfl, rfl⟩, _, dp_same s2 hv1, by simp, _, "str", ⟨rfl, rfl⟩, _, dp_same s2 hu1, by simp, iteFF (by simp) ?_⟩
        refine ⟨_, "int", ⟨rfl, rfl⟩, _, dp_same s2 hv1, by simp, _, "int", ⟨rfl, rfl⟩, _, dp_same s2 hu1, by simp, iteFF (by simp) (hN _ _ ?_)⟩
        clear hN N
        walk_at "rs"
        have kk := k1 H2 s2
        have fin : scal v u = true ∧ Q (.bl (decide (v = u))) H2 := by
          cases hv with
          | non => exact absurd rfl cn
          | bl b => cases hu; exact ⟨rfl, by rw [decide_eq_true rfl]; exact kk⟩
          | int b => cases hu; exact ⟨rfl, by rw [decide_eq_true rfl]; exact kk⟩
          | str b => cases hu; exact ⟨rfl, by rw [decide_eq_true rfl]; exact kk⟩
          | lst _ _ => simp [isTy] at el
          | tup _ _ => simp [isTy] at et
        exact fin
    · obtain ⟨m, rfl⟩ : ∃ m, n = m + 1 := by
        rcases hds with rfl | rfl
        · rw [dep_lst] at hdep; exact ⟨n - 1, by omega⟩
        · rw [dep_tup] at hdep; exact ⟨n - 1, by omega⟩
      have hr__law_like : Room (m + 1) _ := hr
      have G__law_like := ih m rfl
      have hdm : depAll ds ≤ m := by
        rcases hds with rfl | rfl
        · rw [dep_lst] at hdep; omega
        · rw [dep_tup] at hdep; omega
      refine ⟨_, (pss_cons (ps_if (pt_val (pe_callB call_isiDT (by rfl) T.n_isinstance (by decide +kernel) (pa_cons (pv 1) (pa_cons (pe_tupU (pa_cons (pe_bltn (v := .ty "list") (u := .type "list") (by rfl) T.n_list (by decide +kernel) rfl) (pa_cons (pe_bltn (v := .ty "tuple") (u := .type "tuple") (by rfl) T.n_tuple (by decide +kernel) rfl) pa_nil))) pa_nil)))) (pss_cons (ps_if (PW.pt (pw_or (pt_cmpR op_neB (pe_callB (call_isiDK (K := K) rfl) (by rfl) T.n_isinstance (by decide +kernel) (pa_cons (pv 0) (pa_cons (pe_bltn (v := .ty "list") (u := .type "list") (by rfl) T.n_list (by decide +kernel) rfl) pa_nil))) (pe_callB (call_isiDK (K := K) rfl) (by rfl) T.n_isinstance (by decide +kernel) (pa_cons (pv 1) (pa_cons (pe_bltn (v := .ty "list") (u := .type "list") (by rfl) T.n_list (by decide +kernel) rfl) pa_nil))) (nomark _)) (pw_or1 (pt_cmpR op_neB (pe_callB (call_isiDK (K := K) rfl) (by rfl) T.n_isinstance (by decide +kernel) (pa_cons (pv 0) (pa_cons (pe_bltn (v := .ty "tuple") (u := .type "tuple") (by rfl) T.n_tuple (by decide +kernel) rfl) pa_nil))) (pe_callB (call_isiDK (K := K) rfl) (by rfl) T.n_isinstance (by decide +kernel) (pa_cons (pv 1) (pa_cons (pe_bltn (v := .ty "tuple") (u := .type "tuple") (by rfl) T.n_tuple (by decide +kernel) rfl) pa_nil))) (nomark _))))) (pss_one (ps_ret pe_bl)) pss_nil)
      (pss_one (ps_ret (pe_and (pe_cmpR op_eqI (pe_callB call_lenD (by rfl) T.n_len (by decide +kernel) (pa_cons (pv 0) pa_nil)) (pe_callB call_lenD (by rfl) T.n_len (by decide +kernel) (pa_cons (pv 1) pa_nil)) (nomark _)) (pe_one (pe_callB (cr_all rfl) (by rfl) T.n_all (by decide +kernel) (pa_cons (pe_lc (own := [("one", 2), ("two", 3)]) (g := gTup K 2 (gCons (gName 2) (gCons (gName 3) (gNil)))) (tt := tYes) rfl sc__law_like.nd (RZ.pi_zipA (by rfl) T.n_zip (pa_cons (pv 0) (pa_cons (pv 1) pa_nil))) (blkOk_by (own := [("one", 2), ("two", 3)]) (N := N__law_like) (sc := defScope s__law_like) (by decide +kernel)) (fun _ _ _ _ _ => by exact (pg_tup rfl (pgs_cons (pg_name (i := 2) sc__law_like.nd rfl (Or.inl rfl)) (pgs_cons (pg_name (i := 3) sc__law_like.nd rfl (Or.inl rfl)) pgs_nil)))) (fun _ _ _ _ _ => pts_nil) (fun _ _ _ _ _ => (pe_call G__law_like hr__law_like (by rfl) T.m__law_like T.F__law_like.kp T.B__law_like .nil pass0 (pa_cons (pv 2) (pa_cons (pv 3) pa_nil))))) pa_nil))))))) pss_nil) pss_never), ?_⟩
      refine seq_op fun N hN => ?_
      clear hN
      walk_at "rs"
      refine ⟨by decide, fun p H1 s1 h0 h1 => ⟨_, p, ⟨rfl, rfl⟩, h1, _, dp_same s1 hu, iteTT (by rcases hds with rfl | rfl <;> simp [isTy]) ?_⟩⟩
      clear h1
      have hv1 := dp_same s1 hv
      have hu1 := dp_same s1 hu
      have k1 := fun H' (s : Same H1 H') => k H' (Same.trans s1 s)
      refine seq_op fun N2 hN2 => ?_
      walk_at "rs"
      refine ⟨_, "list", ⟨rfl, rfl⟩, _, hv1, by simp, _, "list", ⟨rfl, rfl⟩, _, hu1, by simp, iteFF (by simp) ?_⟩
      refine ⟨_, "tuple", ⟨rfl, rfl⟩, _, hv1, by simp, _, "tuple", ⟨rfl, rfl⟩, _, hu1, by simp, iteFF (by simp) (hN2 _ _ ?_)⟩
      clear hN2 N2
      walk_at "rs"
      have gm : ∀ (x : V) (σ0 : L2.St) (H0 : Hp) (Q0 Q1 : L2.St → Hp → Prop), (∀ σ2 H2, Q0 σ2 H2 → Q1 σ2 H2) → gTup K 2 (gCons (gName 2) (gCons (gName 3) gNil)) x σ0 H0 Q0 → gTup K 2 (gCons (gName 2) (gCons (gName 3) gNil)) x σ0 H0 Q1 :=
        fun x σ0 H0 Q0 Q1 h ⟨a, xs, e1, e2, e3, v, r, e4, v2, r2, e5, e6, q⟩ => ⟨a, xs, e1, e2, e3, v, r, e4, v2, r2, e5, e6, h _ _ q⟩
      have turn : ∀ {xs ys : List V} (hx : DpAll K H1 xs ds) (hy : DpAll K H1 ys ds) (i : Nat) (x : V) (H2 H' : Hp), Same H1 H2 → YPair (fun i => xs[i]?) (fun i => ys[i]?) i H2 x H' →
          gTup K 2 (gCons (gName 2) (gCons (gName 3) gNil)) x (wipe [some v, some u, none, none] [2, 3]) H' fun σ2 H3 => Same H2 H3 ∧ wipe σ2 [2, 3] = wipe [some v, some u, none, none] [2, 3] ∧ ∀ Q2 : V → Hp → Prop, (∀ H4, Same H3 H4 → Q2 (.bl true) H4) → tCall (sp__law_like K m) [] E0 (tCons (tVar 2) (tCons (tVar 3) tNil)) σ2 H3 Q2 := by
        rintro xs ys hx hy i x H2 H' s2 ⟨T0, y1, y2, rfl, hT, rfl, h1, h2⟩
        obtain ⟨d1, e1, hd1⟩ := dpa_get4 hx h1
        obtain ⟨d2, e2, hd2⟩ := dpa_get4 hy h2
        rw [e1] at e2
        cases e2
        have s3 := Same.trans s2 (same_upd (o := .tup [y1, y2]) hT)
        refine ⟨T0, [y1, y2], rfl, .inl (.inl upd_same), rfl, y1, [y2], rfl, y2, [], rfl, rfl, same_upd hT, rfl, fun Q2 hq => ?_⟩
        refine ⟨_, rfl, _, rfl, y1, y2, d1, rfl, dp_same s3 hd1, dp_same s3 hd2, ?_, Nat.le_trans (depAll_get e1) hdm, hq⟩
        refine ok_get4 ?_ e1
        rcases hds with rfl | rfl
        · exact (okD_lst.mp hok).2
        · exact (okD_tup.mp hok).2
      have fin : ∀ {D : Addr} {H' : Hp} {n : Nat}, Same H1 H' → H' D = some (.lst ((List.range n).map fun _ => V.bl true)) → rAll K [V.ref D] H' Q := by
        intro D H' n s h
        refine ⟨D, (List.range n).map fun _ => true, rfl, SqL.of (by rw [h, List.map_map]; rfl), ?_⟩
        rw [all_map_id]
        have e : ((List.range n).all fun _ => true) = true := by simp
        rw [e]
        exact k1 H' s
      refine ⟨_, hv1, .inl ⟨ds, hds, _, hu1, .inl ⟨ds, hds, iteTT rfl ?_⟩⟩⟩
      rcases hds with rfl | rfl
      · cases hv1 with
        | @lst a xs _ ha hda =>
          cases hu1 with
          | @lst b ys _ hb hdb =>
            have lx := dpa_len4 hda
            have ly := dpa_len4 hdb
            have small : ds.length ≤ 1000000 := Nat.le_trans (okD_lst.mp hok).1 (by decide)
            exact ⟨_, rfl, _, rfl, a, b, xs, ys, rfl, .inl ⟨ha, hb, fun D hD => lc_pure (walk_zip (n := ds.length) (by omega)) hD small (fun _ => .bl true) (fun H s => ⟨Same.seq s ha, Same.seq s hb⟩) (fun i x H2 H' _ s2 y => turn hda hdb i x H2 H' s2 y) gm fun H' s h => fin s h⟩⟩
      · cases hv1 with
        | @tup a xs _ ha hda =>
          cases hu1 with
          | @tup b ys _ hb hdb =>
            have lx := dpa_len4 hda
            have ly := dpa_len4 hdb
            have small : ds.length ≤ 1000000 := Nat.le_trans (okD_tup.mp hok).1 (by decide)
            exact ⟨_, rfl, _, rfl, a, b, xs, ys, rfl, .inr ⟨ha, hb, fun D hD => lc_pure (walk_zipT (n := ds.length) lx ly) hD small (fun _ => .bl true) (fun H s => ⟨Same.seqT s ha, Same.seqT s hb⟩) (fun i x H2 H' _ s2 y => turn hda hdb i x H2 H' s2 y) gm fun H' s h => fin s h⟩⟩
theorem ok__law_like (T : Txt w K mg) : ∀ n : Nat, FnOk P w K mg base CX0 (n + 1) T.a__law_like T.d__law_like ["found", "due"] (sp__law_like K n) := by
  intro n
  induction n with
  | zero => exact like_step T 0 fun m e => by omega
  | succ n ih =>
    refine like_step T (n + 1) fun m e => ?_
    obtain rfl : m = n := by omega
    exact ih
end
end LK

set_option Elab.async false
set_option linter.all false
set_option maxRecDepth 100000
namespace LK
open PySem PySem.Spec PyProof.Rows L2
local macro_rules | `(tactic| walk_at "rs") => `(tactic| simp only [tFld, sFld, tMeth, tMethZ, tMakeK, tMakeS, tMethS, tEf, tProp, tFmt, rEqO, rNeO, cxK, cxNK, tCallZ, tAsg, tOp, rI0, rS0, rB0, rI, rU, tUn, rEq, rNe, rIxL, rIxT, rIxS, rSetL, rSlLU, rSlS, rSlU, rCatL, rCatU, rRepL, rIn, tVar, tC, gName, gSub, tIfS, tTest, tB, tAnd, tOr, tNot, tNotV, tAndV, tOrV, tIf, tCall, tCons, tNil, tCB, tDrop, tRet, tRetN, tNext, tLstU, tTupU, tM0, tM1, tPar, tPar3, tAug, ipI, tBM, tBM0, rAppend, rPop, tBreak, sDPut, tDGet, tDGet2, tCont, tChain, tSl, tPart, tNoPart, L2.start, List.map, List.length_cons, List.length_nil, List.replicate, List.cons_append, List.nil_append, List.append_nil, List.getElem?_cons_zero, List.getElem?_cons_succ, List.set_cons_zero, List.set_cons_succ, Option.some.injEq, V.int.injEq, V.ref.injEq, V.str.injEq, V.bl.injEq, exists_eq_left', exists_eq_left, exists_and_left, decide_eq_true_eq, List.cons.injEq, and_true, true_and, scal, Bool.not_eq_true', decide_eq_false_iff_not, Nat.zero_add, Nat.reduceAdd, Nat.reduceSub, reduceCtorEq, false_and, exists_false, false_or, or_false, CPow, CPowW, CMul, CDiv, Int.reduceToNat, ↓reduceIte, wipe, sw, List.nil_append, List.singleton_append])
local macro_rules | `(tactic| walk_at "st") => `(tactic| (refine seq_op fun N hN => ?_; walk_at "rs"))
local macro_rules | `(tactic| walk_at "sd") => `(tactic| first | assumption | decide | omega)
local macro_rules | `(tactic| walk_at "rd") => `(tactic| repeat (first
  | refine ⟨_, SqL.of (by assumption), ?_⟩ | refine ⟨_, SqL.of upd_same, ?_⟩ | refine ⟨_, .inl (SqL.of (by assumption)), ?_⟩ | refine ⟨_, (by assumption : _ = some (HO.lst _)), ?_⟩ | refine ⟨_, upd_same, ?_⟩
  | refine ⟨_, rfl, ?_⟩ | refine And.intro (by walk_at "sd") ?_))

section
variable {P : Program} {w : World} {K : PySem.W.Frag} {mg : Str → Option Value} {base : Heap}
theorem ok__law_gcd (T : Txt w K mg) : FnOk P w K mg base CX0 1 T.a__law_gcd T.d__law_gcd ["a", "b"] (fun vs H Q _ => ∃ p q : Int, vs = [.int p, .int q] ∧ Q (.int ((Nat.gcd p.natAbs q.natAbs : Nat) : Int)) H) := by
  refine T.F__law_gcd.ok sc__law_gcd (fun vs H Q E h => ?_) (fun cdv A outer s H vs Q E hr h => ?_)
  · obtain ⟨p, q, rfl, _⟩ := h
    rfl
  · obtain ⟨p, q, rfl, k⟩ := h
    refine ⟨_, (pss_cons (ps_par (i := 0) (j := 1) (by rfl) sc__law_gcd.nd rfl rfl (by decide) rfl rfl (pa_cons (pe_callB call_abs (by rfl) T.n_abs (by decide +kernel) (pa_cons (pv 0) pa_nil)) (pa_cons (pe_callB call_abs (by rfl) T.n_abs (by decide +kernel) (pa_cons (pv 1) pa_nil)) pa_nil)) (by rfl))
      (pss_cons (ps_while PassesOwn.never (pt_cmpR op_gt (pv 1) pe_int (nomark _)) (pss_one (ps_par (i := 0) (j := 1) (by rfl) sc__law_gcd.nd rfl rfl (by decide) rfl rfl (pa_cons (pv 1) (pa_cons (pe_op op_mod (pe_callTy call_intI (by rfl) T.n_int (by decide +kernel) (pa_cons (pv 0) pa_nil)) (pv 1)) pa_nil)) (by rfl))))
      (pss_one (ps_ret (pv 0))))), ?_⟩
    refine seq_op fun N hN => ?_
    walk_at "rs"
    refine ⟨_, _, ⟨rfl, rfl⟩, hN _ _ ?_⟩
    clear hN N
    refine cut_seq (fun σ H2 => σ = [some (.int ((Nat.gcd p.natAbs q.natAbs : Nat) : Int)), some (.int 0)] ∧ H2 = H) (fun N hN => ?_) ?_
    · refine while_by (fun σ H2 => ∃ a b : Nat, σ = [some (.int (a : Int)), some (.int (b : Int))] ∧ H2 = H ∧ Nat.gcd a b = Nat.gcd p.natAbs q.natAbs) (fun (σ : L2.St) (_ : Hp) => match σ[1]? with
          | some (some (V.int b)) => b.toNat
          | _ => 0) ⟨p.natAbs, q.natAbs, by rw [abs_if, abs_if], rfl, rfl⟩ ?_ ?_
      · rintro σ H2 ⟨a, b, rfl, rfl, hg⟩
        walk_at "rs"
        refine ite2 (fun hb => ?_) (fun hb => ?_)
        · refine ⟨hb, _, _, ⟨rfl, rfl⟩, ⟨b, a % b, ⟨rfl, rfl⟩, ?_⟩, ?_⟩
          · rw [← hg, Nat.gcd_comm a b, Nat.gcd_rec b a, Nat.gcd_comm]
          · show ((a : Int) % (b : Int)).toNat < (b : Int).toNat
            have := Int.emod_lt_of_pos (a : Int) (show (0 : Int) < (b : Int) by omega)
            have := Int.emod_nonneg (a : Int) (show (b : Int) ≠ 0 by omega)
            omega
        · have b0 : b = 0 := by omega
          subst b0
          rw [Nat.gcd_zero_right] at hg
          rw [hg]
          exact hN _ _ ⟨rfl, rfl⟩
      · intro σ H2 Q1 Q2 h hq
        revert hq
        walk_at "rs"
        rintro ⟨v, e, i, rfl, hq⟩
        exact ⟨_, e, i, rfl, h _ _ hq⟩
    · rintro σ H2 ⟨rfl, rfl⟩
      walk_at "rs"
      exact k
def sp_low : Sp := fun vs H Q _ => ∃ p q : Int, vs = [.int p, .int q] ∧ q ≠ 0 ∧ p.natAbs < 2 ^ 8001 ∧ q.natAbs < 2 ^ 8001 ∧ ∀ t H', Same H H' → H t = none → H' t = some (.tup [.int (frP p q), .int (frQ p q)]) → Q (.ref t) H'
theorem ok__law_low (T : Txt w K mg) : FnOk P w K mg base CX0 2 T.a__law_low T.d__law_low ["p", "q"] sp_low := by
  refine T.F__law_low.ok sc__law_low (fun vs H Q E h => ?_) (fun cdv A outer s H vs Q E hr h => ?_)
  · obtain ⟨p, q, rfl, _⟩ := h
    rfl
  · obtain ⟨p, q, rfl, q0, lp, lq, k⟩ := h
    have hr__law_gcd : Room 1 _ := hr
    have G__law_gcd := ok__law_gcd (P := P) (base := base) T
    refine ⟨_, (pss_cons (ps_set (i := 2) sc__law_low.nd rfl (Or.inl rfl) (pe_call G__law_gcd hr__law_gcd (by rfl) T.m__law_gcd T.F__law_gcd.kp T.B__law_gcd .nil pass0 (pa_cons (pv 0) (pa_cons (pv 1) pa_nil))))
      (pss_cons (ps_if (pt_cmpR op_lt (pv 1) pe_int (nomark _)) (pss_one (ps_set (i := 2) sc__law_low.nd rfl (Or.inl rfl) (pe_un un_neg (pv 2)))) pss_nil)
      (pss_one (ps_ret (pe_tupU (pa_cons (pe_op op_fdivF (pv 0) (pv 2)) (pa_cons (pe_op op_fdivF (pv 1) (pv 2)) pa_nil))))))), ?_⟩
    refine seq_op fun N hN => ?_
    walk_at "rs"
    refine ⟨p, q, ⟨rfl, rfl⟩, hN _ _ ?_⟩
    clear hN N
    have g0 : (Nat.gcd p.natAbs q.natAbs : Nat) ≠ 0 := fun z => q0 (by have := Nat.eq_zero_of_gcd_eq_zero_right z; omega)
    have gl := gcd_log (p := p) q0
    have ql := logL lq (by decide) (by decide)
    have n0 : frG p q ≠ 0 := by unfold frG; split <;> omega
    have nl : (frG p q).natAbs.log2 < 9000 := by
      have : (frG p q).natAbs = Nat.gcd p.natAbs q.natAbs := by unfold frG; split <;> omega
      rw [this]; omega
    refine cut_seq (fun σ H3 => σ = [some (.int p), some (.int q), some (.int (frG p q))] ∧ H3 = H) (fun N hN => ?_) ?_
    · walk_at "rs"
      unfold frG at hN
      refine ite2 (fun c => ?_) (fun c => ?_)
      · rw [if_pos c] at hN
        exact hN _ _ ⟨rfl, rfl⟩
      · rw [if_neg c] at hN; exact hN _ _ ⟨rfl, rfl⟩
    · rintro σ H3 ⟨rfl, rfl⟩
      walk_at "rs"
      exact ⟨⟨n0, nl⟩, ⟨n0, nl⟩, by decide, k⟩
def okB (M L : Nat) (f : Int × Int) : Prop := 1 ≤ f.2 ∧ Nat.gcd f.1.natAbs f.2.natAbs = 1 ∧ f.1.natAbs ≤ M ∧ f.2.natAbs ≤ L
theorem okB_low {M L : Nat} {p q : Int} (q0 : q ≠ 0) (hp : p.natAbs ≤ M) (hq : q.natAbs ≤ L) : okB M L (frP p q, frQ p q) := by
  obtain ⟨_, _, e3, e4, e5, e6, _⟩ := fr_spec p q0
  exact ⟨e3, e4, Nat.le_trans e5 hp, Nat.le_trans e6 hq⟩
def sp_drawn (K : PySem.W.Frag) (k M L : Nat) : Sp := fun vs H Q _ => ∃ (b c : Addr) (N : Nat), vs = [.ref b] ∧ Bag (N + k) H b c ∧ ∀ (t : Addr) (f : Int × Int) H', okB M L f → H t = none → H' t = some (.tup [.int f.1, .int f.2]) → Bag N H' b c → Kp b H H' → Q (.ref t) H'
theorem low_at {M L : Nat} {H : Hp} {Q : VK} {E : XK} {p q : Int} (q0 : q ≠ 0) (hp : p.natAbs < 2 ^ 8001) (hq : q.natAbs < 2 ^ 8001) (k : ∀ t H', Same H H' → H t = none → H' t = some (.tup [.int (frP p q), .int (frQ p q)]) → Q (.ref t) H') : sp_low [.int p, .int q] H Q E := ⟨p, q, rfl, q0, hp, hq, k⟩
end
end LK

set_option Elab.async false
set_option linter.all false
set_option maxRecDepth 100000
namespace LK
open PySem PySem.Spec PyProof.Rows L2
local macro_rules | `(tactic| walk_at "rs") => `(tactic| simp only [tFld, sFld, tMeth, tMethZ, tMakeK, tMakeS, tMethS, tEf, tProp, tFmt, rEqO, rNeO, cxK, cxNK, tCallZ, tAsg, tOp, rI0, rS0, rB0, rI, rU, tUn, rEq, rNe, rIxL, rIxT, rIxS, rSetL, rSlLU, rSlS, rSlU, rCatL, rCatU, rRepL, rIn, tVar, tC, gName, gSub, tIfS, tTest, tB, tAnd, tOr, tNot, tNotV, tAndV, tOrV, tIf, tCall, tCons, tNil, tCB, tDrop, tRet, tRetN, tNext, tLstU, tTupU, tM0, tM1, tPar, tPar3, tAug, ipI, tBM, tBM0, rAppend, rPop, tBreak, sDPut, tDGet, tDGet2, tCont, tChain, tSl, tPart, tNoPart, L2.start, List.map, List.length_cons, List.length_nil, List.replicate, List.cons_append, List.nil_append, List.append_nil, List.getElem?_cons_zero, List.getElem?_cons_succ, List.set_cons_zero, List.set_cons_succ, Option.some.injEq, V.int.injEq, V.ref.injEq, V.str.injEq, V.bl.injEq, exists_eq_left', exists_eq_left, exists_and_left, decide_eq_true_eq, List.cons.injEq, and_true, true_and, scal, Bool.not_eq_true', decide_eq_false_iff_not, Nat.zero_add, Nat.reduceAdd, Nat.reduceSub, reduceCtorEq, false_and, exists_false, false_or, or_false, CPow, CPowW, CMul, CDiv, Int.reduceToNat, ↓reduceIte, wipe, sw, List.nil_append, List.singleton_append])
local macro_rules | `(tactic| walk_at "st") => `(tactic| (refine seq_op fun N hN => ?_; walk_at "rs"))
local macro_rules | `(tactic| walk_at "sd") => `(tactic| first | assumption | decide | omega)
local macro_rules | `(tactic| walk_at "rd") => `(tactic| repeat (first
  | refine ⟨_, SqL.of (by assumption), ?_⟩ | refine ⟨_, SqL.of upd_same, ?_⟩ | refine ⟨_, .inl (SqL.of (by assumption)), ?_⟩ | refine ⟨_, (by assumption : _ = some (HO.lst _)), ?_⟩ | refine ⟨_, upd_same, ?_⟩
  | refine ⟨_, rfl, ?_⟩ | refine And.intro (by walk_at "sd") ?_))

section
variable {P : Program} {w : World} {K : PySem.W.Frag} {mg : Str → Option Value} {base : Heap}
def sp_great : Sp := fun vs H Q _ => ∃ (b c : Addr) (N : Nat), vs = [.ref b] ∧ Bag (N + 2) H b c ∧ ∀ (r : Int) H', 0 ≤ r → r < 1000000000000000000 → Bag N H' b c → Kp b H H' → Q (.int r) H'
theorem ok__law_great (T : Txt w K mg) : FnOk P w K mg base CX0 2 T.a__law_great T.d__law_great ["bag"] sp_great := by
  refine T.F__law_great.ok sc__law_great (fun vs H Q E h => ?_) (fun cdv A outer s H vs Q E hr h => ?_)
  · obtain ⟨b, c, N, rfl, _⟩ := h
    rfl
  · obtain ⟨b, c, N0, rfl, B, k⟩ := h
    have hr__law_draw : Room 1 _ := hr
    have G__law_draw := ok__law_draw (P := P) (base := base) T
    refine ⟨_, (pss_one (ps_ret (pe_op op_add (pe_op op_mul (pe_call G__law_draw hr__law_draw (by rfl) T.m__law_draw T.F__law_draw.kp T.B__law_draw .nil pass0 (pa_cons (pv 0) (pa_cons (pe_op op_pow pe_int pe_int) pa_nil))) (pe_op op_pow pe_int pe_int)) (pe_call G__law_draw hr__law_draw (by rfl) T.m__law_draw T.F__law_draw.kp T.B__law_draw .nil pass0 (pa_cons (pv 0) (pa_cons (pe_op op_pow pe_int pe_int) pa_nil)))))), ?_⟩
    walk_at "rs"
    refine ⟨by decide, b, c, 10 ^ 9, N0 + 1, rfl, B, by decide, by decide, fun r1 H1 r10 r11 B1 K1 => ⟨by decide, r1, rfl, .inr (by decide), by decide, b, c, 10 ^ 9, N0, rfl, B1, by decide, by decide, fun r2 H2 r20 r21 B2 K2 => ⟨r2, rfl, k _ _ ?_ ?_ B2 (Same.trans K1 K2)⟩⟩⟩
    · omega
    · omega
theorem ok__law_factor (T : Txt w K mg) : FnOk P w K mg base CX0 3 T.a__law_factor T.d__law_factor ["bag"] (sp_drawn K 7 1000000000000000000 1000000000000000000) := by
  refine T.F__law_factor.ok sc__law_factor (fun vs H Q E h => ?_) (fun cdv A outer s H vs Q E hr h => ?_)
  · obtain ⟨b, c, N, rfl, _⟩ := h
    rfl
  · obtain ⟨b, c, N0, rfl, B, k⟩ := h
    have hr__law_low : Room 2 _ := hr
    have G__law_low := ok__law_low (P := P) (base := base) T
    have hr__law_great : Room 2 _ := hr
    have G__law_great := ok__law_great (P := P) (base := base) T
    have hr__law_draw : Room 1 _ := hr.mono (by decide)
    have G__law_draw := ok__law_draw (P := P) (base := base) T
    refine ⟨_, (pss_cons (ps_set (i := 1) sc__law_factor.nd rfl (Or.inl rfl) (pe_call G__law_draw hr__law_draw (by rfl) T.m__law_draw T.F__law_draw.kp T.B__law_draw .nil pass0 (pa_cons (pv 0) (pa_cons pe_int pa_nil))))
      (pss_cons (ps_if (pt_cmpR op_lt (pv 1) pe_int (nomark _)) (pss_one (ps_ret (pe_tupU (pa_cons (pe_op op_sub (pe_call G__law_draw hr__law_draw (by rfl) T.m__law_draw T.F__law_draw.kp T.B__law_draw .nil pass0 (pa_cons (pv 0) (pa_cons pe_int pa_nil))) pe_int) (pa_cons pe_int pa_nil))))) pss_nil)
      (pss_cons (ps_if (pt_cmpR op_lt (pv 1) pe_int (nomark _)) (pss_one (ps_ret (pe_call G__law_low hr__law_low (by rfl) T.m__law_low T.F__law_low.kp T.B__law_low .nil pass0 (pa_cons (pe_op op_sub (pe_call G__law_draw hr__law_draw (by rfl) T.m__law_draw T.F__law_draw.kp T.B__law_draw .nil pass0 (pa_cons (pv 0) (pa_cons pe_int pa_nil))) pe_int) (pa_cons (pe_op op_add pe_int (pe_call G__law_draw hr__law_draw (by rfl) T.m__law_draw T.F__law_draw.kp T.B__law_draw .nil pass0 (pa_cons (pv 0) (pa_cons pe_int pa_nil)))) pa_nil))))) pss_nil)
      (pss_cons (ps_if (pt_cmpR op_eqI (pv 1) pe_int (nomark _)) (pss_one (ps_ret (pe_call G__law_low hr__law_low (by rfl) T.m__law_low T.F__law_low.kp T.B__law_low .nil pass0 (pa_cons (pe_op op_sub (pe_call G__law_draw hr__law_draw (by rfl) T.m__law_draw T.F__law_draw.kp T.B__law_draw .nil pass0 (pa_cons (pv 0) (pa_cons pe_int pa_nil))) pe_int) (pa_cons (pe_op op_add pe_int (pe_call G__law_draw hr__law_draw (by rfl) T.m__law_draw T.F__law_draw.kp T.B__law_draw .nil pass0 (pa_cons (pv 0) (pa_cons pe_int pa_nil)))) pa_nil))))) pss_nil)
      (pss_cons (ps_set (i := 2) sc__law_factor.nd rfl (Or.inl rfl) (pe_op op_sub pe_int (pe_op op_mulW pe_int (pe_call G__law_draw hr__law_draw (by rfl) T.m__law_draw T.F__law_draw.kp T.B__law_draw .nil pass0 (pa_cons (pv 0) (pa_cons pe_int pa_nil))))))
      (pss_one (ps_ret (pe_call G__law_low hr__law_low (by rfl) T.m__law_low T.F__law_low.kp T.B__law_low .nil pass0 (pa_cons (pe_op op_mulW (pv 2) (pe_call G__law_great hr__law_great (by rfl) T.m__law_great T.F__law_great.kp T.B__law_great .nil pass0 (pa_cons (pv 0) pa_nil))) (pa_cons (pe_op op_add pe_int (pe_op op_fdivW (pe_call G__law_great hr__law_great (by rfl) T.m__law_great T.F__law_great.kp T.B__law_great .nil pass0 (pa_cons (pv 0) pa_nil)) (pe_op op_add pe_int (pe_op op_mulW (pe_call G__law_draw hr__law_draw (by rfl) T.m__law_draw T.F__law_draw.kp T.B__law_draw .nil pass0 (pa_cons (pv 0) (pa_cons pe_int pa_nil))) (pe_op op_pow pe_int pe_int))))) pa_nil)))))))))), ?_⟩
    have fin : ∀ {H1 H2 : Hp} {t : Addr} {p q : Int}, q ≠ 0 → p.natAbs ≤ 1000000000000000000 → q.natAbs ≤ 1000000000000000000 → Bag N0 H1 b c → Kp b H H1 → Same H1 H2 → H1 t = none → H2 t = some (.tup [.int (frP p q), .int (frQ p q)]) → Q (.ref t) H2 := fun q0 hp hq B1 K1 s2 h0 h2 =>
      k _ _ _ (okB_low q0 hp hq) (Kp.bn K1 B1.at.choose_spec h0) h2 (B1.same s2) (Same.trans K1 (Kp.of s2))
    refine seq_op fun N hN => ?_
    walk_at "rs"
    refine ⟨b, c, 10, N0 + 6, rfl, B, by decide, by decide, fun r1 H1 r10 r11 B1 K1 => hN _ _ ?_⟩
    clear hN N
    refine seq_op fun N hN => ?_
    walk_at "rs"
    refine ite2 (fun _ => ?_) (fun _ => hN _ _ ?_)
    · refine ⟨b, c, 7, N0 + 5, rfl, B1, by decide, by decide, fun r2 H2 r20 r21 B2 K2 => ⟨r2, rfl, by decide, fun t H3 s3 h03 h3 => ?_⟩⟩
      exact k t (r2 - 3, 1) H3 ⟨Int.le_refl 1, Nat.gcd_one_right _, by show (r2 - 3).natAbs ≤ _; omega, by show (1 : Int).natAbs ≤ _; decide⟩ (Kp.bn K1 B1.at.choose_spec (Kp.bn K2 B2.at.choose_spec h03)) h3 ((B2.same s3).le (by omega)) (Same.trans K1 (Same.trans K2 (Kp.of s3)))
    clear hN N
    refine seq_op fun N hN => ?_
    walk_at "rs"
    refine ite2 (fun _ => ?_) (fun _ => hN _ _ ?_)
    · refine ⟨b, c, 13, N0 + 5, rfl, B1, by decide, by decide, fun r2 H2 r20 r21 B2 K2 => ⟨r2, rfl, b, c, 6, N0 + 4, rfl, B2, by decide, by decide, fun r4 H4 r40 r41 B4 K4 => ⟨r4, rfl, ?_⟩⟩⟩
      exact low_at (M := 1) (L := 1) (by omega) (pow_le (a := 64) (by omega) (by decide)) (pow_le (a := 64) (by omega) (by decide)) fun t H5 s5 h05 h5 => fin (by omega) (by omega) (by omega) (B4.le (by omega)) (Same.trans K1 (Same.trans K2 K4)) s5 h05 h5
    clear hN N
    refine seq_op fun N hN => ?_
    walk_at "rs"
    refine ite2 (fun _ => ?_) (fun _ => hN _ _ ?_)
    · refine ⟨b, c, 4001, N0 + 5, rfl, B1, by decide, by decide, fun r2 H2 r20 r21 B2 K2 => ⟨r2, rfl, b, c, 97, N0 + 4, rfl, B2, by decide, by decide, fun r4 H4 r40 r41 B4 K4 => ⟨r4, rfl, ?_⟩⟩⟩
      exact low_at (M := 1) (L := 1) (by omega) (pow_le (a := 64) (by omega) (by decide)) (pow_le (a := 64) (by omega) (by decide)) fun t H5 s5 h05 h5 => fin (by omega) (by omega) (by omega) (B4.le (by omega)) (Same.trans K1 (Same.trans K2 K4)) s5 h05 h5
    clear hN N
    refine seq_op fun N hN => ?_
    walk_at "rs"
    refine ⟨b, c, 2, N0 + 5, rfl, B1, by decide, by decide, fun r2 H2 r20 r21 B2 K2 => ⟨r2, rfl, mulW (pow_le (a := 64) (by decide) (by decide)) (pow_le (a := 64) (by omega) (by decide)), hN _ _ ?_⟩⟩
    clear hN N
    walk_at "rs"
    refine ⟨b, c, N0 + 3, rfl, B2.le (by omega), fun r3 H3 r30 r31 B3 K3 => ⟨r3, rfl, mulW (pow_le (a := 64) (by omega) (by decide)) (pow_le (a := 64) (by omega) (by decide)), b, c, N0 + 1, rfl, B3, fun r4 H4 r40 r41 B4 K4 => ⟨b, c, 2, N0, rfl, B4, by decide, by decide, fun r5 H5 r50 r51 B5 K5 => ⟨by decide, r5, rfl, mulW (pow_le (a := 64) (by omega) (by decide)) (pow_le (a := 64) (by decide) (by decide)), r4, rfl, ?_⟩⟩⟩⟩
    have j0 : 0 < 2 + r5 * 10 ^ 9 := by omega
    have d0 : 0 ≤ r4 / (2 + r5 * 10 ^ 9) := Int.ediv_nonneg r40 (by omega)
    have d1 : r4 / (2 + r5 * 10 ^ 9) * 2 ≤ r4 := by
      have e := Int.mul_ediv_self_le (x := r4) (k := 2 + r5 * 10 ^ 9) (by omega)
      have e2 := Int.mul_le_mul_of_nonneg_right (show (2 : Int) ≤ 2 + r5 * 10 ^ 9 by omega) d0
      rw [Int.mul_comm]; omega
    have p1 : ((1 - 2 * r2) * r3).natAbs ≤ 1000000000000000000 := by
      have : r2 = 0 ∨ r2 = 1 := by omega
      rcases this with rfl | rfl <;> omega
    have q1 : (1 + r4 / (2 + r5 * 10 ^ 9)).natAbs ≤ 1000000000000000000 := by omega
    refine ⟨?_, low_at (M := 1) (L := 1) (by omega) (pow_le (a := 64) (Nat.lt_of_le_of_lt p1 (by decide)) (by decide)) (pow_le (a := 64) (Nat.lt_of_le_of_lt q1 (by decide)) (by decide)) fun t H6 s6 h06 h6 => fin (by omega) p1 q1 B5 (Same.trans K1 (Same.trans K2 (Same.trans K3 (Same.trans K4 K5)))) s6 h06 h6⟩
    exact ⟨j0, logL (a := 64) (by omega) (by decide) (by decide)⟩
end
end LK

set_option Elab.async false
set_option linter.all false
set_option maxRecDepth 100000
namespace LK
open PySem PySem.Spec PyProof.Rows L2
local macro_rules | `(tactic| walk_at "rs") => `(tactic| simp only [tFld, sFld, tMeth, tMethZ, tMakeK, tMakeS, tMethS, tEf, tProp, tFmt, rEqO, rNeO, cxK, cxNK, tCallZ, tAsg, tOp, rI0, rS0, rB0, rI, rU, tUn, rEq, rNe, rIxL, rIxT, rIxS, rSetL, rSlLU, rSlS, rSlU, rCatL, rCatU, rRepL, rIn, tVar, tC, gName, gSub, tIfS, tTest, tB, tAnd, tOr, tNot, tNotV, tAndV, tOrV, tIf, tCall, tCons, tNil, tCB, tDrop, tRet, tRetN, tNext, tLstU, tTupU, tM0, tM1, tPar, tPar3, tAug, ipI, tBM, tBM0, rAppend, rPop, tBreak, sDPut, tDGet, tDGet2, tCont, tChain, tSl, tPart, tNoPart, L2.start, List.map, List.length_cons, List.length_nil, List.replicate, List.cons_append, List.nil_append, List.append_nil, List.getElem?_cons_zero, List.getElem?_cons_succ, List.set_cons_zero, List.set_cons_succ, Option.some.injEq, V.int.injEq, V.ref.injEq, V.str.injEq, V.bl.injEq, exists_eq_left', exists_eq_left, exists_and_left, decide_eq_true_eq, List.cons.injEq, and_true, true_and, scal, Bool.not_eq_true', decide_eq_false_iff_not, Nat.zero_add, Nat.reduceAdd, Nat.reduceSub, reduceCtorEq, false_and, exists_false, false_or, or_false, CPow, CPowW, CMul, CDiv, Int.reduceToNat, ↓reduceIte, wipe, sw, List.nil_append, List.singleton_append])
local macro_rules | `(tactic| walk_at "st") => `(tactic| (refine seq_op fun N hN => ?_; walk_at "rs"))
local macro_rules | `(tactic| walk_at "sd") => `(tactic| first | assumption | decide | omega)
local macro_rules | `(tactic| walk_at "rd") => `(tactic| repeat (first
  | refine ⟨_, SqL.of (by assumption), ?_⟩ | refine ⟨_, SqL.of upd_same, ?_⟩ | refine ⟨_, .inl (SqL.of (by assumption)), ?_⟩ | refine ⟨_, (by assumption : _ = some (HO.lst _)), ?_⟩ | refine ⟨_, upd_same, ?_⟩
  | refine ⟨_, rfl, ?_⟩ | refine And.intro (by walk_at "sd") ?_))

/-! ### fractions and their worth -/
def low (f : Fr) : Prop := 1 ≤ f.2 ∧ Nat.gcd f.1.natAbs f.2.natAbs = 1
def plusF (f g : Fr) : Fr := (frP (f.1 * g.2 + g.1 * f.2) (f.2 * g.2), frQ (f.1 * g.2 + g.1 * f.2) (f.2 * g.2))
def rt (f : Fr) : Rat := Rat.divInt f.1 f.2
theorem rt_eq {f g : Fr} (hf : low f) (hg : low g) (e : rt f = rt g) : f = g := by
  have f0 : f.2 ≠ 0 := by have := hf.1; omega
  have g0 : g.2 ≠ 0 := by have := hg.1; omega
  exact low_eq hf.1 hf.2 hg.1 hg.2 ((Rat.divInt_eq_divInt_iff f0 g0).mp e)
theorem den_ne {f g : Fr} (hf : low f) (hg : low g) : f.2 * g.2 ≠ 0 := Int.mul_ne_zero (by have := hf.1; omega) (by have := hg.1; omega)
theorem rt_fr (P : Int) {Q : Int} (h : Q ≠ 0) : rt (frP P Q, frQ P Q) = Rat.divInt P Q ∧ low (frP P Q, frQ P Q) := by
  obtain ⟨_, _, e3, e4, _⟩ := fr_spec P h
  exact ⟨(Rat.divInt_eq_divInt_iff (show frQ P Q ≠ 0 by omega) h).mpr (fr_worth P h), e3, e4⟩
theorem rt_plus {f g : Fr} (hf : low f) (hg : low g) : rt (plusF f g) = rt f + rt g ∧ low (plusF f g) := by
  obtain ⟨a, b⟩ := rt_fr (f.1 * g.2 + g.1 * f.2) (den_ne hf hg)
  refine ⟨?_, b⟩
  have f0 : f.2 ≠ 0 := by have := hf.1; omega
  have g0 : g.2 ≠ 0 := by have := hg.1; omega
  show rt (plusF f g) = Rat.divInt f.1 f.2 + Rat.divInt g.1 g.2
  rw [Rat.divInt_add_divInt _ _ f0 g0]
  exact a
theorem low_zero : low (0, 1) := ⟨by decide, by decide⟩
theorem rt_zero : rt (0, 1) = 0 := by unfold rt; exact Rat.zero_divInt 1
theorem rt_neg {f : Fr} (hf : low f) : rt (-f.1, f.2) = - rt f ∧ low (-f.1, f.2) := ⟨(Rat.neg_divInt f.1 f.2).symm, hf.1, by rw [Int.natAbs_neg]; exact hf.2⟩
theorem low_null {f : Fr} (hf : low f) : f.1 = 0 ↔ f = (0, 1) := by
  constructor
  · intro e
    have := hf.2
    rw [e] at this
    have h1 := hf.1
    have h2 : f.2 = 1 := by
      rw [show (0 : Int).natAbs = 0 from rfl, Nat.gcd_zero_left] at this
      omega
    exact Prod.ext e h2
  · intro e
    rw [e]
/-- bits of a fraction -/
def wt (f : Fr) : Nat := max f.1.natAbs.log2 f.2.natAbs.log2 + 1
theorem wt_lt (f : Fr) : f.1.natAbs < 2 ^ wt f ∧ f.2.natAbs < 2 ^ wt f := by
  unfold wt
  constructor
  · exact Nat.lt_of_lt_of_le (Nat.lt_log2_self) (Nat.pow_le_pow_right (by decide) (Nat.succ_le_succ (Nat.le_max_left _ _)))
  · exact Nat.lt_of_lt_of_le (Nat.lt_log2_self) (Nat.pow_le_pow_right (by decide) (Nat.succ_le_succ (Nat.le_max_right _ _)))
theorem log_lt {n k : Nat} (hk : 0 < k) (h : n < 2 ^ k) : n.log2 < k := PySem.Flt.log2_lt_of hk h
theorem wt_le {f : Fr} {k : Nat} (hk : 0 < k) (h1 : f.1.natAbs < 2 ^ k) (h2 : f.2.natAbs < 2 ^ k) : wt f ≤ k := by
  have a := log_lt hk h1
  have b := log_lt hk h2
  unfold wt
  omega
theorem wt_pos (f : Fr) : 0 < wt f := Nat.succ_pos _
theorem wt_plus {f g : Fr} (hf : low f) (hg : low g) : wt (plusF f g) ≤ wt f + wt g + 1 := by
  obtain ⟨_, _, _, _, e5, e6, _⟩ := fr_spec (f.1 * g.2 + g.1 * f.2) (den_ne hf hg)
  obtain ⟨a1, a2⟩ := wt_lt f
  obtain ⟨b1, b2⟩ := wt_lt g
  refine wt_le (by omega) (Nat.lt_of_le_of_lt e5 ?_) (Nat.lt_of_le_of_lt e6 (pow_le (wide_lt a2 b2) (by omega)))
  refine two_add (wide_lt a1 b2) ?_
  rw [Nat.add_comm]
  exact wide_lt b1 a2
/-! items: a spot and a factor -/
abbrev It := List Int × Fr
def accF (items : List It) (k : List Int) : Fr := items.foldl (fun acc it => if it.1 = k then plusF acc it.2 else acc) (0, 1)
def accR (items : List It) (k : List Int) : Rat := items.foldl (fun acc it => if it.1 = k then acc + rt it.2 else acc) 0
def wtS (items : List It) (k : List Int) : Nat := items.foldl (fun acc it => if it.1 = k then acc + (wt it.2 + 1) else acc) 1
theorem accF_snoc (items : List It) (it : It) (k : List Int) : accF (items ++ [it]) k = if it.1 = k then plusF (accF items k) it.2 else accF items k := by
  unfold accF
  rw [List.foldl_append]
  rfl
theorem accF_fold {items : List It} (h : ∀ it ∈ items, low it.2) (k : List Int) : ∀ {f : Fr} {r : Rat} {n : Nat}, low f → rt f = r → wt f ≤ n → 
    low (items.foldl (fun acc it => if it.1 = k then plusF acc it.2 else acc) f) ∧ rt (items.foldl (fun acc it => if it.1 = k then plusF acc it.2 else acc) f) = items.foldl (fun acc it => if it.1 = k then acc + rt it.2 else acc) r ∧ wt (items.foldl (fun acc it => if it.1 = k then plusF acc it.2 else acc) f) ≤ items.foldl (fun acc it => if it.1 = k then acc + (wt it.2 + 1) else acc) n := by
  induction items with
  | nil => intro f r n a b c; exact ⟨a, b, c⟩
  | cons it items ih =>
    intro f r n a b c
    have hl := h it List.mem_cons_self
    simp only [List.foldl_cons]
    by_cases e : it.1 = k
    · rw [if_pos e, if_pos e, if_pos e]
      obtain ⟨p1, p2⟩ := rt_plus a hl
      refine ih (fun x hx => h x (List.mem_cons_of_mem _ hx)) p2 (by rw [p1, b]) ?_
      have := wt_plus a hl
      omega
    · rw [if_neg e, if_neg e, if_neg e]
      exact ih (fun x hx => h x (List.mem_cons_of_mem _ hx)) a b c
theorem accF_spec {items : List It} (h : ∀ it ∈ items, low it.2) (k : List Int) : low (accF items k) ∧ rt (accF items k) = accR items k ∧ wt (accF items k) ≤ wtS items k := accF_fold h k low_zero rt_zero (by decide)
section
variable {P : Program} {w : World} {K : PySem.W.Frag} {mg : Str → Option Value} {base : Heap}
def sp_plus2 (K : PySem.W.Frag) : Sp := fun vs H Q _ => ∃ (a b : Addr) (f g : Fr), vs = [.ref a, .ref b] ∧ Pr K H a f.1 f.2 ∧ Pr K H b g.1 g.2 ∧ low f ∧ low g ∧ wt f ≤ 3990 ∧ wt g ≤ 3990 ∧
  ∀ t H', Same H H' → H t = none → H' t = some (.tup [.int (plusF f g).1, .int (plusF f g).2]) → Q (.ref t) H'
theorem ok__law_plus (T : Txt w K mg) : FnOk P w K mg base CX0 3 T.a__law_plus T.d__law_plus ["a", "b"] (sp_plus2 K) := by
  refine T.F__law_plus.ok sc__law_plus (fun vs H Q E h => ?_) (fun cdv A outer s H vs Q E hr h => ?_)
  · obtain ⟨a, b, f, g, rfl, _⟩ := h
    rfl
  · obtain ⟨a, b, f, g, rfl, ha, hb, lf, lg, wf, wg, k⟩ := h
    have hr__law_low : Room 2 _ := hr
    have G__law_low := ok__law_low (P := P) (base := base) T
    obtain ⟨a1, a2⟩ := wt_lt f
    obtain ⟨b1, b2⟩ := wt_lt g
    have lp := pow_le a1 (show wt f ≤ 4000 by omega)
    have lq := pow_le a2 (show wt f ≤ 4000 by omega)
    have lr := pow_le b1 (show wt g ≤ 4000 by omega)
    have ls := pow_le b2 (show wt g ≤ 4000 by omega)
    have n0 := den_ne lf lg
    refine ⟨_, (pss_one (ps_ret (pe_call G__law_low hr__law_low (by rfl) T.m__law_low T.F__law_low.kp T.B__law_low .nil pass0 (pa_cons (pe_op op_add (pe_op op_mulW (pe_ix ix_tup (pv 0) pe_int (fun _ _ => rfl)) (pe_ix ix_tup (pv 1) pe_int (fun _ _ => rfl))) (pe_op op_mulW (pe_ix ix_tup (pv 1) pe_int (fun _ _ => rfl)) (pe_ix ix_tup (pv 0) pe_int (fun _ _ => rfl)))) (pa_cons (pe_op op_mulW (pe_ix ix_tup (pv 0) pe_int (fun _ _ => rfl)) (pe_ix ix_tup (pv 1) pe_int (fun _ _ => rfl))) pa_nil))))), ?_⟩
    walk_at "rs"
    refine ⟨_, ha, _, rfl, _, hb, _, rfl, _, rfl, _, rfl, mulW lp ls, _, hb, _, rfl, _, ha, _, rfl, _, rfl, _, rfl, mulW lr lq, _, ha, _, rfl, _, hb, _, rfl, _, rfl, _, rfl, mulW lq ls, ?_⟩
    exact low_at (M := 1) (L := 1) n0 (two_add (mulL lp ls) (mulL lr lq)) (pow_le (mulL lq ls) (by decide)) k
theorem plus_at (T : Txt w K mg) {H : Hp} {Q : VK} {E : XK} {a b : Addr} {f g : Fr} (ha : Pr K H a f.1 f.2) (hb : Pr K H b g.1 g.2) (lf : low f) (lg : low g) (wf : wt f ≤ 3990) (wg : wt g ≤ 3990) (k : ∀ t H', Same H H' → H t = none → H' t = some (.tup [.int (plusF f g).1, .int (plusF f g).2]) → Q (.ref t) H') : sp_two K (fun p q r s => p * s + r * q) (fun _ q _ s => q * s) [.ref a, .ref b] H Q E := by
  obtain ⟨a1, a2⟩ := wt_lt f
  obtain ⟨b1, b2⟩ := wt_lt g
  exact ⟨a, b, f.1, f.2, g.1, g.2, rfl, ha, hb, pow_le a1 (by omega), pow_le a2 (by omega), pow_le b1 (by omega), pow_le b2 (by omega), den_ne lf lg, k⟩
end
end LK

set_option Elab.async false
set_option linter.all false
set_option maxRecDepth 100000
namespace LK
open PySem PySem.Spec PyProof.Rows L2
local macro_rules | `(tactic| walk_at "rs") => `(tactic| simp only [tFld, sFld, tMeth, tMethZ, tMakeK, tMakeS, tMethS, tEf, tProp, tFmt, rEqO, rNeO, cxK, cxNK, tCallZ, tAsg, tOp, rI0, rS0, rB0, rI, rU, tUn, rEq, rNe, rIxL, rIxT, rIxS, rSetL, rSlLU, rSlS, rSlU, rCatL, rCatU, rRepL, rIn, tVar, tC, gName, gSub, tIfS, tTest, tB, tAnd, tOr, tNot, tNotV, tAndV, tOrV, tIf, tCall, tCons, tNil, tCB, tDrop, tRet, tRetN, tNext, tLstU, tTupU, tM0, tM1, tPar, tPar3, tAug, ipI, tBM, tBM0, rAppend, rPop, tBreak, sDPut, tDGet, tDGet2, tCont, tChain, tSl, tPart, tNoPart, L2.start, List.map, List.length_cons, List.length_nil, List.replicate, List.cons_append, List.nil_append, List.append_nil, List.getElem?_cons_zero, List.getElem?_cons_succ, List.set_cons_zero, List.set_cons_succ, Option.some.injEq, V.int.injEq, V.ref.injEq, V.str.injEq, V.bl.injEq, exists_eq_left', exists_eq_left, exists_and_left, decide_eq_true_eq, List.cons.injEq, and_true, true_and, scal, Bool.not_eq_true', decide_eq_false_iff_not, Nat.zero_add, Nat.reduceAdd, Nat.reduceSub, reduceCtorEq, false_and, exists_false, false_or, or_false, CPow, CPowW, CMul, CDiv, Int.reduceToNat, ↓reduceIte, wipe, sw, List.nil_append, List.singleton_append])
local macro_rules | `(tactic| walk_at "st") => `(tactic| (refine seq_op fun N hN => ?_; walk_at "rs"))
local macro_rules | `(tactic| walk_at "sd") => `(tactic| first | assumption | decide | omega)
local macro_rules | `(tactic| walk_at "rd") => `(tactic| repeat (first
  | refine ⟨_, SqL.of (by assumption), ?_⟩ | refine ⟨_, SqL.of upd_same, ?_⟩ | refine ⟨_, .inl (SqL.of (by assumption)), ?_⟩ | refine ⟨_, (by assumption : _ = some (HO.lst _)), ?_⟩ | refine ⟨_, upd_same, ?_⟩
  | refine ⟨_, rfl, ?_⟩ | refine And.intro (by walk_at "sd") ?_))

/-! ### items at the heap -/
theorem seqT_updO {K : PySem.W.Frag} {H : Hp} {a p : Addr} {xs : List V} {o : HO} (hp : ∀ ys, ¬ Rd H p (.tup ys)) (h : SqT K H a xs) : SqT K (L2.upd H p o) a xs := by
  rcases h with h | h
  · have ne : a ≠ p := fun e => hp _ (e ▸ h)
    rcases h with h | ⟨u, h⟩
    · exact .inl (.inl (by rw [upd_ne ne]; exact h))
    · exact .inl (.inr ⟨u, by rw [upd_ne ne]; exact h⟩)
  · exact .inr h
theorem notT_lst {H : Hp} {p : Addr} {ys : List V} (h : H p = some (.lst ys)) : ∀ zs, ¬ Rd H p (.tup zs) := fun zs r => by
  rcases r with r | ⟨u, r⟩ <;> (rw [h] at r; cases r)
theorem notT_dK {H : Hp} {p : Addr} {ys : List (L2.Key × V)} (h : H p = some (.dK ys)) : ∀ zs, ¬ Rd H p (.tup zs) := fun zs r => by
  rcases r with r | ⟨u, r⟩ <;> (rw [h] at r; cases r)
theorem notT_dT {H : Hp} {p : Addr} {ys : List (List L2.Key × V)} (h : H p = some (.dT ys)) : ∀ zs, ¬ Rd H p (.tup zs) := fun zs r => by
  rcases r with r | ⟨u, r⟩ <;> (rw [h] at r; cases r)
inductive Its (K : PySem.W.Frag) (H : Hp) : List V → List It → Prop
  | nil : Its K H [] []
  | cons {a u : Addr} {k : List Int} {f : Fr} {xs : List V} {its : List It} : SqT K H a (k.map V.int ++ [.ref u]) → Pr K H u f.1 f.2 → Its K H xs its → Its K H (.ref a :: xs) ((k, f) :: its)
section
variable {K : PySem.W.Frag} {H H' : Hp}
theorem Its.same (s : Same H H') : ∀ {xs : List V} {its : List It}, Its K H xs its → Its K H' xs its
  | _, _, .nil => .nil
  | _, _, .cons h h2 q => .cons (Same.seqT s h) (Same.seqT s h2) (q.same s)
theorem Its.len : ∀ {xs : List V} {its : List It}, Its K H xs its → xs.length = its.length
  | _, _, .nil => rfl
  | _, _, .cons _ _ q => congrArg Nat.succ q.len
theorem Its.app : ∀ {xs ys : List V} {its jts : List It}, Its K H xs its → Its K H ys jts → Its K H (xs ++ ys) (its ++ jts)
  | _, _, _, _, .nil, r => r
  | _, _, _, _, .cons h h2 q, r => .cons h h2 (q.app r)
theorem Its.rev : ∀ {xs : List V} {its : List It}, Its K H xs its → Its K H xs.reverse its.reverse
  | _, _, .nil => .nil
  | _, _, .cons h h2 q => by rw [List.reverse_cons, List.reverse_cons]; exact q.rev.app (.cons h h2 .nil)
theorem Its.take : ∀ {xs : List V} {its : List It} (n : Nat), Its K H xs its → Its K H (xs.take n) (its.take n)
  | _, _, 0, _ => .nil
  | _, _, _ + 1, .nil => .nil
  | _, _, n + 1, .cons h h2 q => .cons h h2 (q.take n)
theorem Its.drop : ∀ {xs : List V} {its : List It} (n : Nat), Its K H xs its → Its K H (xs.drop n) (its.drop n)
  | _, _, 0, h => h
  | _, _, _ + 1, .nil => .nil
  | _, _, n + 1, .cons _ _ q => q.drop n
theorem Its.get : ∀ {xs : List V} {its : List It} {n : Nat}, Its K H xs its → n < its.length → ∃ a u k f, xs[n]? = some (.ref a) ∧ its[n]? = some (k, f) ∧ SqT K H a (k.map V.int ++ [.ref u]) ∧ Pr K H u f.1 f.2
  | _, _, _, .nil, h => absurd h (Nat.not_lt_zero _)
  | _, _, 0, .cons h h2 _, _ => ⟨_, _, _, _, rfl, rfl, h, h2⟩
  | _, _, n + 1, .cons _ _ q, h => by
    obtain ⟨a, u, k, f, h1, h2, h3⟩ := q.get (n := n) (Nat.lt_of_succ_lt_succ h)
    exact ⟨a, u, k, f, h1, h2, h3⟩
theorem Its.updO {p : Addr} {o : HO} (hp : ∀ ys, ¬ Rd H p (.tup ys)) : ∀ {xs : List V} {its : List It}, Its K H xs its → Its K (L2.upd H p o) xs its
  | _, _, .nil => .nil
  | _, _, .cons h h2 q => .cons (seqT_updO hp h) (seqT_updO hp h2) (q.updO hp)
theorem Its.kp {N : Nat} {b c : Addr} (B : Bag N H b c) (k : Kp b H H') : ∀ {xs : List V} {its : List It}, Its K H xs its → Its K H' xs its
  | _, _, .nil => .nil
  | _, _, .cons h h2 q => .cons (seqT_kp B k h) (seqT_kp B k h2) (q.kp B k)
def dIt (it : It) : PyData := .tuple (it.1.map PyData.int ++ [.tuple [.int it.2.1, .int it.2.2]])
theorem dp_ints : ∀ k : List Int, DpAll K H (k.map V.int) (k.map PyData.int)
  | [] => .nil
  | i :: k => .cons (.int i) (dp_ints k)
theorem dpAll_app : ∀ {xs ys : List V} {ds es : List PyData}, DpAll K H xs ds → DpAll K H ys es → DpAll K H (xs ++ ys) (ds ++ es)
  | _, _, _, _, .nil, r => r
  | _, _, _, _, .cons h q, r => .cons h (dpAll_app q r)
theorem Its.dp : ∀ {xs : List V} {its : List It}, Its K H xs its → DpAll K H xs (its.map dIt)
  | _, _, .nil => .nil
  | _, _, .cons h h2 q => .cons (.tup h (dpAll_app (dp_ints _) (.cons (.tup h2 (.cons (.int _) (.cons (.int _) .nil))) .nil))) q.dp
end
/-! ### the normal form -/
abbrev cd (k : List Int) : Int := TS.code 2000 k
structure Norm (R : List Int → Rat) (l : List It) : Prop where
  srt : l.Pairwise fun a b => cd a.1 < cd b.1
  it : ∀ x ∈ l, low x.2 ∧ x.2.1 ≠ 0 ∧ rt x.2 = R x.1
  all : ∀ k, R k ≠ 0 → ∃ f, (k, f) ∈ l
theorem rt_null {f : Fr} (hf : low f) : rt f = 0 ↔ f.1 = 0 := by
  constructor
  · intro e
    have := rt_eq hf low_zero (by rw [e, rt_zero])
    rw [this]
  · intro e
    rw [(low_null hf).mp e, rt_zero]
theorem srt_eq : ∀ {l m : List It}, (l.Pairwise fun a b => cd a.1 < cd b.1) → (m.Pairwise fun a b => cd a.1 < cd b.1) → (∀ x, x ∈ l ↔ x ∈ m) → l = m
  | [], [], _, _, _ => rfl
  | [], b :: m, _, _, h => by have := (h b).mpr List.mem_cons_self; cases this
  | a :: l, [], _, _, h => by have := (h a).mp List.mem_cons_self; cases this
  | a :: l, b :: m, hl, hm, h => by
    rw [List.pairwise_cons] at hl hm
    have e : a = b := by
      rcases List.mem_cons.mp ((h a).mp List.mem_cons_self) with e | e
      · exact e
      · rcases List.mem_cons.mp ((h b).mpr List.mem_cons_self) with e2 | e2
        · exact e2.symm
        · have h1 := hm.1 a e
          have h2 := hl.1 b e2
          omega
    subst e
    rw [srt_eq hl.2 hm.2 fun x => ?_]
    constructor
    · intro hx
      rcases List.mem_cons.mp ((h x).mp (List.mem_cons_of_mem _ hx)) with e | e
      · subst e
        have := hl.1 x hx
        omega
      · exact e
    · intro hx
      rcases List.mem_cons.mp ((h x).mpr (List.mem_cons_of_mem _ hx)) with e | e
      · subst e
        have := hm.1 x hx
        omega
      · exact e
theorem Norm.uniq {R : List Int → Rat} {l m : List It} (h : Norm R l) (g : Norm R m) : l = m := by
  have sub : ∀ {l m : List It}, Norm R l → Norm R m → ∀ x ∈ l, x ∈ m := fun {l m} h g x hx => by
    obtain ⟨a1, a2, a3⟩ := h.it x hx
    obtain ⟨f, hf⟩ := g.all x.1 (fun z => a2 ((rt_null a1).mp (a3.trans z)))
    obtain ⟨b1, b2, b3⟩ := g.it _ hf
    have e : x.2 = f := rt_eq a1 b1 (a3.trans b3.symm)
    have : x = (x.1, f) := Prod.ext rfl e
    rw [this]; exact hf
  exact srt_eq h.srt g.srt fun x => ⟨sub h g x, sub g h x⟩
theorem accF_none {items : List It} {k : List Int} (h : ∀ it ∈ items, it.1 ≠ k) : accF items k = (0, 1) ∧ accR items k = 0 := by
  unfold accF accR
  have key : ∀ {items : List It}, (∀ it ∈ items, it.1 ≠ k) → ∀ (f : Fr) (r : Rat), items.foldl (fun acc it => if it.1 = k then plusF acc it.2 else acc) f = f ∧ items.foldl (fun acc it => if it.1 = k then acc + rt it.2 else acc) r = r := by
    intro items
    induction items with
    | nil => intro _ f r; exact ⟨rfl, rfl⟩
    | cons it items ih =>
      intro h f r
      simp only [List.foldl_cons]
      rw [if_neg (h it List.mem_cons_self), if_neg (h it List.mem_cons_self)]
      exact ih (fun x hx => h x (List.mem_cons_of_mem _ hx)) f r
  exact key h _ _
/-- sorted spots, of those with a sum that is no 0, with their sums -/
theorem norm_of {items : List It} {L : List (List Int)} (hl : ∀ it ∈ items, low it.2) (srt : L.Pairwise fun a b => cd a < cd b) (all : ∀ it ∈ items, it.1 ∈ L) : Norm (accR items) ((L.filter fun k => decide (accF items k ≠ (0, 1))).map fun k => (k, accF items k)) := by
  refine ⟨?_, fun x hx => ?_, fun k hk => ?_⟩
  · rw [List.pairwise_map]
    exact (srt.filter _).imp fun h => h
  · obtain ⟨k, hk, rfl⟩ := List.mem_map.mp hx
    have := of_decide_eq_true (List.mem_filter.mp hk).2
    obtain ⟨a, b, _⟩ := accF_spec hl k
    exact ⟨a, fun z => this ((low_null a).mp z), b⟩
  · have mk : k ∈ L := Classical.byContradiction fun n => hk (accF_none fun it hit e => n (by rw [← e]; exact all it hit)).2
    obtain ⟨a, b, _⟩ := accF_spec hl k
    refine ⟨accF items k, List.mem_map.mpr ⟨k, List.mem_filter.mpr ⟨mk, decide_eq_true fun z => hk ?_⟩, rfl⟩⟩
    rw [← b, z, rt_zero]
theorem nodup_len {α : Type} [DecidableEq α] : ∀ {l S : List α}, l.Nodup → (∀ x ∈ l, x ∈ S) → l.length ≤ S.length
  | [], _, _, _ => Nat.zero_le _
  | a :: l, S, h, hs => by
    rw [List.nodup_cons] at h
    have ha := hs a List.mem_cons_self
    have := nodup_len (l := l) (S := S.erase a) h.2 fun x hx => by
      have ne : x ≠ a := fun e => h.1 (e ▸ hx)
      exact (List.mem_erase_of_ne ne).mpr (hs x (List.mem_cons_of_mem _ hx))
    rw [List.length_erase_of_mem ha] at this
    have p : 0 < S.length := List.length_pos_of_mem ha
    rw [List.length_cons]
    omega
/-- a comprehension with a test, its items told by R -/
theorem lc_filtR {J : L2.It} {n : Nat} {G : Hp → Prop} {Y : Nat → Hp → V → Hp → Prop} (w : Walk J n G Y) {g : TG} {tt : TT} {te : TE} {vs : List Nat} {σ : L2.St} {H1 : Hp} {D : Addr} {Qd : Hp → Prop} (R : Nat → Hp → List V → Prop) (p : Nat → Bool) (hD : H1 D = none) (hn : n ≤ 1000000)
    (mono : ∀ i H H' ys, Same H H' → R i H ys → R i H' ys) (up : ∀ i H ys zs o, H D = some (.lst zs) → R i H ys → R i (L2.upd H D o) ys) (r0 : ∀ H, R 0 H [])
    (hG : ∀ H, Same H1 H → G H)
    (hs : ∀ i x H H', i < n → Same H1 H → Y i H x H' → g x (wipe σ vs) H' fun σ2 H2 => Same H H2 ∧ wipe σ2 vs = wipe σ vs ∧ (∀ Qt : Bool → Hp → Prop, (∀ H3, Same H2 H3 → Qt (p i) H3) → tt σ2 H2 Qt) ∧ (p i = false → ∀ H3 ys, R i H3 ys → R (i + 1) H3 ys) ∧ (p i = true → ∀ H3, Same H2 H3 → ∀ Q2 : VK, (∀ v H4, Same H3 H4 → (∀ ys, R i H4 ys → R (i + 1) H4 (ys ++ [v])) → Q2 v H4) → te σ2 H3 Q2))
    (gm : ∀ x σ0 H0 Q0 Q1, (∀ σ2 H2, Q0 σ2 H2 → Q1 σ2 H2) → g x σ0 H0 Q0 → g x σ0 H0 Q1)
    (hq : ∀ H' ys, Same H1 H' → H' D = some (.lst ys) → R n H' ys → Qd H') :
    ∃ W : Nat → Nat → Hp → Prop, (∃ m, W 0 m (L2.upd H1 D (.lst []))) ∧ ∀ i m H, W i m H →
      (J.stop i H ∧ Qd H) ∨ (J.go i H ∧ ∃ Nx : Hp → Prop, (∀ H', Nx H' → ∃ m', m' < m ∧ W (i + 1) m' H') ∧ ∀ x H', J.yld i H x H' → g x (wipe σ vs) H' fun σ2 H2 => wipe σ2 vs = wipe σ vs ∧ tt σ2 H2 fun b H3 =>
        if b = true then te σ2 H3 fun y H4 => ∃ acc, H4 D = some (.lst acc) ∧ acc.length < sizeLine ∧ Nx (L2.upd H4 D (.lst (acc ++ [y]))) else Nx H3) := by
  have keep : ∀ {H : Hp} {o : HO}, Same H1 H → Same H1 (L2.upd H D o) := fun s a u e => by
    rw [upd_ne (ne_of_none e hD)]; exact s _ _ e
  refine lc_it w (fun i H => Same H1 H ∧ ∃ ys, H D = some (.lst ys) ∧ ys.length ≤ i ∧ R i H ys) ⟨keep (Same.refl _), [], upd_same, Nat.le_refl _, r0 _⟩ (fun i H _ h => hG H h.1) (fun i x H H' hi ⟨s1, ys, h1, hl, hr⟩ hY => ?_) (fun H ⟨s1, ys, h1, _, hr⟩ => hq H ys s1 h1 hr)
  refine gm _ _ _ _ _ (fun σ2 H2 ⟨s2, e2, kt, kf, ke⟩ => ⟨e2, kt _ fun H3 s3 => ?_⟩) (hs i x H H' hi s1 hY)
  have s23 := Same.trans s2 s3
  have hD3 := s23 _ _ h1
  cases c : p i with
  | true =>
    rw [if_pos rfl]
    refine ke c H3 s3 _ fun v H4 s4 st => ⟨ys, s4 _ _ hD3, ?_, keep (Same.trans s1 (Same.trans s23 s4)), ys ++ [v], upd_same, ?_, up _ _ _ _ _ (s4 _ _ hD3) (st ys (mono _ _ _ _ (Same.trans s23 s4) hr))⟩
    · exact Nat.lt_of_le_of_lt hl (Nat.lt_of_lt_of_le (Nat.lt_of_lt_of_le hi hn) (by decide))
    · rw [List.length_append]
      simp only [List.length_cons, List.length_nil]
      omega
  | false =>
    rw [if_neg (by simp)]
    exact ⟨Same.trans s1 s23, ys, hD3, by omega, kf c H3 ys (mono _ _ _ _ s23 hr)⟩
end LK

set_option Elab.async false
set_option linter.all false
set_option maxRecDepth 100000
namespace LK
open PySem PySem.Spec PyProof.Rows L2
local macro_rules | `(tactic| walk_at "rs") => `(tactic| simp only [tFld, sFld, tMeth, tMethZ, tMakeK, tMakeS, tMethS, tEf, tProp, tFmt, rEqO, rNeO, cxK, cxNK, tCallZ, tAsg, tOp, rI0, rS0, rB0, rI, rU, tUn, rEq, rNe, rIxL, rIxT, rIxS, rSetL, rSlLU, rSlS, rSlU, rCatL, rCatU, rRepL, rIn, tVar, tC, gName, gSub, tIfS, tTest, tB, tAnd, tOr, tNot, tNotV, tAndV, tOrV, tIf, tCall, tCons, tNil, tCB, tDrop, tRet, tRetN, tNext, tLstU, tTupU, tM0, tM1, tPar, tPar3, tAug, ipI, tBM, tBM0, rAppend, rPop, tBreak, sDPut, tDGet, tDGet2, tCont, tChain, tSl, tPart, tNoPart, L2.start, List.map, List.length_cons, List.length_nil, List.replicate, List.cons_append, List.nil_append, List.append_nil, List.getElem?_cons_zero, List.getElem?_cons_succ, List.set_cons_zero, List.set_cons_succ, Option.some.injEq, V.int.injEq, V.ref.injEq, V.str.injEq, V.bl.injEq, exists_eq_left', exists_eq_left, exists_and_left, decide_eq_true_eq, List.cons.injEq, and_true, true_and, scal, Bool.not_eq_true', decide_eq_false_iff_not, Nat.zero_add, Nat.reduceAdd, Nat.reduceSub, reduceCtorEq, false_and, exists_false, false_or, or_false, CPow, CPowW, CMul, CDiv, Int.reduceToNat, ↓reduceIte, wipe, sw, List.nil_append, List.singleton_append])
local macro_rules | `(tactic| walk_at "st") => `(tactic| (refine seq_op fun N hN => ?_; walk_at "rs"))
local macro_rules | `(tactic| walk_at "sd") => `(tactic| first | assumption | decide | omega)
local macro_rules | `(tactic| walk_at "rd") => `(tactic| repeat (first
  | refine ⟨_, SqL.of (by assumption), ?_⟩ | refine ⟨_, SqL.of upd_same, ?_⟩ | refine ⟨_, .inl (SqL.of (by assumption)), ?_⟩ | refine ⟨_, (by assumption : _ = some (HO.lst _)), ?_⟩ | refine ⟨_, upd_same, ?_⟩
  | refine ⟨_, rfl, ?_⟩ | refine And.intro (by walk_at "sd") ?_))

theorem for_lt {K : PySem.W.Frag} {a : Addr} {xs : List V} {g : TG} {tb : TS} {D : Ends} {σ : L2.St} {H : Hp} {tl : TE} (hv : ∀ Q : VK, Q (.ref a) H → tl σ H Q) {H0 : Hp} (h : SqL K H0 a xs ∨ SqT K H0 a xs) (Pv : Nat → L2.St → Hp → Prop) (h0 : Pv 0 σ H) (hl : ∀ i σ H', Pv i σ H' → Same H0 H')
    (hs : ∀ i x σ H, xs[i]? = some x → Pv i σ H → g x σ H fun σ2 H2 => tb { D with nx := Pv (i + 1), ct := Pv (i + 1), bk := D.nx } σ2 H2) (hd : ∀ σ H, Pv xs.length σ H → D.nx σ H) : tFor (iLT K tl) g tb D σ H := by
  rcases h with h | h
  · exact .inl (hv _ ⟨a, rfl, ⟨xs, (hl _ _ _ h0).seq h⟩, for_list (K := K) (a := a) (xs := xs) Pv h0 (fun i σ H2 _ p => (hl i σ H2 p).seq h) hs hd⟩)
  · exact .inr (hv _ ⟨a, rfl, ⟨xs, Same.seqT (hl _ _ _ h0) h⟩, for_tup (K := K) (a := a) (xs := xs) Pv h0 (fun i σ H2 _ p => Same.seqT (hl i σ H2 p) h) hs hd⟩)
theorem gm_name (i : Nat) : ∀ (x : V) (σ0 : L2.St) (H0 : Hp) (Q0 Q1 : L2.St → Hp → Prop), (∀ σ2 H2, Q0 σ2 H2 → Q1 σ2 H2) → gName i x σ0 H0 Q0 → gName i x σ0 H0 Q1 := fun _ _ _ _ _ h q => h _ _ q
theorem gm2 {K : PySem.W.Frag} (i j : Nat) : ∀ (x : V) (σ0 : L2.St) (H0 : Hp) (Q0 Q1 : L2.St → Hp → Prop), (∀ σ2 H2, Q0 σ2 H2 → Q1 σ2 H2) → gTup K 2 (gCons (gName i) (gCons (gName j) gNil)) x σ0 H0 Q0 → gTup K 2 (gCons (gName i) (gCons (gName j) gNil)) x σ0 H0 Q1 :=
  fun x σ0 H0 Q0 Q1 h ⟨a, xs, e1, e2, e3, v, r, e4, v2, r2, e5, e6, q⟩ => ⟨a, xs, e1, e2, e3, v, r, e4, v2, r2, e5, e6, h _ _ q⟩
theorem gm3 {K : PySem.W.Frag} (i j l : Nat) : ∀ (x : V) (σ0 : L2.St) (H0 : Hp) (Q0 Q1 : L2.St → Hp → Prop), (∀ σ2 H2, Q0 σ2 H2 → Q1 σ2 H2) → gTup K 3 (gCons (gName i) (gCons (gName j) (gCons (gName l) gNil))) x σ0 H0 Q0 → gTup K 3 (gCons (gName i) (gCons (gName j) (gCons (gName l) gNil))) x σ0 H0 Q1 :=
  fun x σ0 H0 Q0 Q1 h ⟨a, xs, e1, e2, e3, v, r, e4, v2, r2, e5, v3, r3, e6, e7, q⟩ => ⟨a, xs, e1, e2, e3, v, r, e4, v2, r2, e5, v3, r3, e6, e7, h _ _ q⟩
/-- a triple is taken apart -/
theorem g3_at {K : PySem.W.Frag} {i j l : Nat} {p : Addr} {u v w : V} {σ : L2.St} {H : Hp} {Q : L2.St → Hp → Prop} (h : SqT K H p [u, v, w]) (q : Q (((σ.set i (some u)).set j (some v)).set l (some w)) H) : gTup K 3 (gCons (gName i) (gCons (gName j) (gCons (gName l) gNil))) (.ref p) σ H Q := ⟨p, _, rfl, h, rfl, u, _, rfl, v, _, rfl, w, _, rfl, rfl, q⟩
theorem g2_at {K : PySem.W.Frag} {i j : Nat} {p : Addr} {u v : V} {σ : L2.St} {H : Hp} {Q : L2.St → Hp → Prop} (h : SqT K H p [u, v]) (q : Q ((σ.set i (some u)).set j (some v)) H) : gTup K 2 (gCons (gName i) (gCons (gName j) gNil)) (.ref p) σ H Q := ⟨p, _, rfl, h, rfl, u, _, rfl, v, _, rfl, rfl, q⟩
/-! ### sums in a dict -/
section
variable {κ : Type} [DecidableEq κ]
theorem valV_mem {k : κ} {v : V} : ∀ {kvs : List (κ × V)}, valV kvs k = some v → k ∈ kvs.map (·.1)
  | [], h => by cases h
  | p :: r, h => by
    by_cases e : p.1 = k
    · rw [List.map_cons, e]; exact List.mem_cons_self
    · rw [valV_neg e] at h
      exact List.mem_cons_of_mem _ (valV_mem h)
theorem keys_put (kvs : List (κ × V)) (k : κ) (v : V) : (putK kvs k v).map (·.1) = if (valV kvs k).isSome = true then kvs.map (·.1) else kvs.map (·.1) ++ [k] := by
  unfold putK
  rw [valV_any]
  by_cases c : (valV kvs k).isSome = true
  · rw [if_pos c, if_pos c, List.map_map]
    refine List.map_congr_left fun p _ => ?_
    show (if p.1 = k then (p.1, v) else p).1 = p.1
    split <;> rfl
  · rw [if_neg c, if_neg c, List.map_append]
    rfl
structure SumD (mk : List Int → κ) (d : Nat) (K : PySem.W.Frag) (H : Hp) (kvs : List (κ × V)) (items : List It) : Prop where
  inj : ∀ k k' : List Int, k.length = d → k'.length = d → mk k = mk k' → k = k'
  len : ∀ it ∈ items, it.1.length = d
  nd : (kvs.map (·.1)).Nodup
  key : ∀ x ∈ kvs.map (·.1), ∃ it ∈ items, x = mk it.1
  val : ∀ it ∈ items, ∃ u, valV kvs (mk it.1) = some (.ref u) ∧ Pr K H u (accF items it.1).1 (accF items it.1).2
variable {mk : List Int → κ} {d : Nat} {K : PySem.W.Frag} {H H' : Hp} {kvs : List (κ × V)} {items : List It}
theorem SumD.get (s : SumD mk d K H kvs items) {k : List Int} (hk : k.length = d) : (∃ u, valV kvs (mk k) = some (.ref u) ∧ Pr K H u (accF items k).1 (accF items k).2) ∨ (valV kvs (mk k) = none ∧ accF items k = (0, 1)) := by
  cases hv : valV kvs (mk k) with
  | none =>
    refine .inr ⟨rfl, (accF_none fun it hit e => ?_).1⟩
    obtain ⟨u, h1, _⟩ := s.val it hit
    rw [e, hv] at h1
    cases h1
  | some v =>
    obtain ⟨it, hit, e⟩ := s.key _ (valV_mem hv)
    obtain rfl := s.inj _ _ hk (s.len it hit) e
    obtain ⟨u, h1, h2⟩ := s.val it hit
    rw [hv] at h1
    exact .inl ⟨u, h1, h2⟩
theorem SumD.put (s : SumD mk d K H kvs items) {it : It} (hl : it.1.length = d) {t : Addr} (carry : ∀ u p q, Pr K H u p q → Pr K H' u p q) (ht : Pr K H' t (plusF (accF items it.1) it.2).1 (plusF (accF items it.1) it.2).2) : SumD mk d K H' (putK kvs (mk it.1) (.ref t)) (items ++ [it]) := by
  refine ⟨s.inj, fun x hx => ?_, ?_, fun x hx => ?_, fun x hx => ?_⟩
  · rcases List.mem_append.mp hx with hx | hx
    · exact s.len x hx
    · rw [List.mem_singleton.mp hx]; exact hl
  · rw [keys_put]
    by_cases c : (valV kvs (mk it.1)).isSome = true
    · rw [if_pos c]; exact s.nd
    · rw [if_neg c]
      refine List.nodup_append.mpr ⟨s.nd, by simp, fun x hx y hy e => ?_⟩
      obtain rfl := List.mem_singleton.mp hy
      obtain ⟨jt, hjt, e2⟩ := s.key x hx
      obtain ⟨u, h1, _⟩ := s.val jt hjt
      rw [← e2, e] at h1
      rw [h1] at c
      exact c rfl
  · rw [keys_put] at hx
    have old : x ∈ kvs.map (·.1) → ∃ jt ∈ items ++ [it], x = mk jt.1 := fun h => by
      obtain ⟨jt, hjt, e⟩ := s.key x h
      exact ⟨jt, List.mem_append_left _ hjt, e⟩
    split at hx
    · exact old hx
    · rcases List.mem_append.mp hx with hx | hx
      · exact old hx
      · exact ⟨it, List.mem_append_right _ List.mem_cons_self, List.mem_singleton.mp hx⟩
  · rw [valV_put]
    by_cases e : mk x.1 = mk it.1
    · have lx : x.1.length = d := by
        rcases List.mem_append.mp hx with hx | hx
        · exact s.len x hx
        · rw [List.mem_singleton.mp hx]; exact hl
      have e2 := s.inj _ _ lx hl e
      rw [if_pos e, accF_snoc, e2, if_pos rfl]
      exact ⟨t, rfl, ht⟩
    · rw [if_neg e, accF_snoc, if_neg fun z => e (by rw [z])]
      rcases List.mem_append.mp hx with hx | hx
      · obtain ⟨u, h1, h2⟩ := s.val x hx
        exact ⟨u, h1, carry _ _ _ h2⟩
      · exact absurd (by rw [List.mem_singleton.mp hx]) e
theorem SumD.upd (s : SumD mk d K H kvs items) (carry : ∀ u p q, Pr K H u p q → Pr K H' u p q) : SumD mk d K H' kvs items := ⟨s.inj, s.len, s.nd, s.key, fun it hit => by
  obtain ⟨u, h1, h2⟩ := s.val it hit
  exact ⟨u, h1, carry _ _ _ h2⟩⟩
end
theorem wtS_fold (k : List Int) : ∀ (b : List It) (n m : Nat), n ≤ m → n ≤ b.foldl (fun acc it => if it.1 = k then acc + (wt it.2 + 1) else acc) m
  | [], n, m, h => h
  | it :: b, n, m, h => by
    simp only [List.foldl_cons]
    by_cases e : it.1 = k
    · rw [if_pos e]; exact wtS_fold k b n _ (by omega)
    · rw [if_neg e]; exact wtS_fold k b n _ h
theorem wtS_take (items : List It) (i : Nat) (k : List Int) : wtS (items.take i) k ≤ wtS items k := by
  conv => rhs; rw [← List.take_append_drop i items]
  unfold wtS
  rw [List.foldl_append]
  exact wtS_fold k _ _ _ (Nat.le_refl _)
/-- items that may be handed in -/
structure Fit (d : Nat) (items : List It) : Prop where
  it : ∀ x ∈ items, low x.2 ∧ wt x.2 ≤ 3900 ∧ x.1.length = d ∧ TS.Bd 2000 x.1
  wt : ∀ k, wtS items k ≤ 3900
  few : ∃ S : List (List Int), S.length ≤ 62 ∧ ∀ x ∈ items, x.1 ∈ S
  len : items.length ≤ 1000
section
variable {P : Program} {w : World} {K : PySem.W.Frag} {mg : Str → Option Value} {base : Heap}
def sp_norm (K : PySem.W.Frag) (d : Nat) : Sp := fun vs H Q _ => ∃ (a : Addr) (xs : List V) (items : List It), vs = [.ref a] ∧ (SqL K H a xs ∨ SqT K H a xs) ∧ Its K H xs items ∧ Fit d items ∧
  ∀ (t : Addr) (ys : List V) (its' : List It) H', Same H H' → SqT K H' t ys → Its K H' ys its' → Norm (accR items) its' → its'.length < 64 → Q (.ref t) H'
theorem ok_normal_entries (T : Txt w K mg) : FnOk P w K mg base CX0 5 T.a_normal_entries T.d_normal_entries ["entries"] (sp_norm K 1) := by
  refine T.F_normal_entries.ok sc_normal_entries (fun vs H Q E h => ?_) (fun cdv A outer s H vs Q E hr h => ?_)
  · obtain ⟨a, xs, items, rfl, _⟩ := h
    rfl
  · obtain ⟨a, xs, items, rfl, ha, hi, fit, k⟩ := h
    have hr_plus : Room 4 _ := hr
    have G_plus := ok_plus (P := P) (base := base) T
    have hu1 : (A.deeper (envOfC "normal_entries" (defScope s_normal_entries) s.heap.objs.size T.a_normal_entries cdv)).units + 1 < cLine := Nat.lt_of_le_of_lt (Nat.add_le_add_left (by decide : 1 ≤ 64) _) hr.units
    have lx := hi.len
    refine ⟨_, (pss_cons (ps_set (i := 1) sc_normal_entries.nd rfl (Or.inr rfl) pe_dnewK)
      (pss_cons (ps_for PassesOwn.never rfl (pi_lt (pv 0)) (pg_tup rfl (pgs_cons (pg_name (i := 2) sc_normal_entries.nd rfl (Or.inl rfl)) (pgs_cons (pg_name (i := 3) sc_normal_entries.nd rfl (Or.inl rfl)) pgs_nil))) (pss_one (ps_dput hu1 (pv 1) (pv 2) (pe_call G_plus hr_plus (by rfl) T.m_plus T.F_plus.kp T.B_plus .nil pass0 (pa_cons (pe_dget2 hu1 (pv 1) (pv 2) (pe_glob (v := .ref T.a_ZERO) (by rfl) T.m_ZERO rfl) ⟨rfl, rfl, rfl, rfl⟩) (pa_cons (pv 3) pa_nil))) rfl)))
      (pss_one (ps_ret (pe_callTy call_tupleN (by rfl) T.n_tuple (by decide +kernel) (pa_cons (pe_lc (own := [("column", 2)]) (g := gName 2) (tt := _) rfl sc_normal_entries.nd (pi_list (pe_callB (call_sortedDI rfl) (by rfl) T.n_sorted (by decide +kernel) (pa_cons (pv 1) pa_nil))) (blkOk_by (own := [("column", 2)]) (N := N_normal_entries) (sc := defScope s_normal_entries) (by decide +kernel)) (fun _ _ _ _ _ => pg_name (i := 2) sc_normal_entries.nd rfl (Or.inl rfl)) (fun _ _ _ _ _ => pts_one (pt_cmpR (op_neDK (K := K) rfl hr.units) (pe_dget hu1 (pv 1) (pv 2) (fun _ _ => rfl)) (pe_glob (v := .ref T.a_ZERO) (by rfl) T.m_ZERO rfl) (nomark _))) (fun _ _ _ _ _ => (pe_tupU (pa_cons (pv 2) (pa_cons (pe_dget hu1 (pv 1) (pv 2) (fun _ _ => rfl)) pa_nil))))) pa_nil)))))), ?_⟩
    refine seq_op fun N hN => ?_
    walk_at "rs"
    refine fun D hD => hN _ _ ?_
    clear hN N
    have s0 : Same H (L2.upd H D (.dK [])) := same_upd hD
    refine cut_seq (fun σ G => ∃ (x2 x3 : Option V) (kvs : List (L2.Key × V)), σ = [some (.ref a), some (.ref D), x2, x3] ∧ Same H G ∧ G D = some (.dK kvs) ∧ SumD (fun k => (Sum.inl (k.headD 0) : L2.Key)) 1 K G kvs items) (fun N hN => ?_) ?_
    · refine for_lt (K := K) (a := a) (xs := xs) (fun Q q => ⟨_, rfl, q⟩) ha (fun i σ G => ∃ (x2 x3 : Option V) (kvs : List (L2.Key × V)), σ = [some (.ref a), some (.ref D), x2, x3] ∧ Same H G ∧ G D = some (.dK kvs) ∧ SumD (fun k => (Sum.inl (k.headD 0) : L2.Key)) 1 K G kvs (items.take i)) ⟨_, _, [], rfl, s0, upd_same, ⟨?_, ?_, ?_, ?_, ?_⟩⟩ (fun i σ G ⟨_, _, _, _, s1, _⟩ => s1) ?_ ?_
      · intro k k' h1 h2 e
        match k, k', h1, h2 with
        | [x], [y], _, _ => injection e with e; rw [show x = y from e]
      · intro it hit; simp at hit
      · simp
      · intro x hx; simp at hx
      · intro it hit; simp at hit
      · rintro i x σ G hx ⟨x2, x3, kvs, rfl, s1, hG, sd⟩
        obtain ⟨p, u, ks, f, ex, ee, h1, h2⟩ := hi.get (n := i) (by rw [← lx]; exact (List.getElem?_eq_some_iff.mp hx).1)
        obtain rfl : x = .ref p := by rw [ex] at hx; exact (Option.some.inj hx).symm
        obtain ⟨lf, wf, ld, bd⟩ := fit.it _ (List.mem_of_getElem? ee)
        dsimp only at lf wf ld bd
        obtain ⟨c, rfl⟩ : ∃ c, ks = [c] := by
          match ks, ld with
          | [c], _ => exact ⟨c, rfl⟩
        refine g2_at (Same.seqT s1 h1) ?_
        walk_at "rs"
        have hl : ∀ it ∈ items.take i, low it.2 := fun it hit => (fit.it it (List.mem_of_mem_take hit)).1
        obtain ⟨la, _, wa⟩ := accF_spec hl [c]
        have wb : wt (accF (items.take i) [c]) ≤ 3900 := Nat.le_trans wa (Nat.le_trans (wtS_take items i [c]) (fit.wt [c]))
        have es : items.take (i + 1) = items.take i ++ [([c], f)] := by
          obtain ⟨hk, e⟩ := List.getElem?_eq_some_iff.mp ee
          rw [← List.take_append_getElem hk, e]
        have kl : kvs.length < sizeLine := by
          have := nodup_len sd.nd (S := items.map fun it => (Sum.inl (it.1.headD 0) : L2.Key)) fun x hx => by
            obtain ⟨it, hit, e⟩ := sd.key x hx
            exact List.mem_map.mpr ⟨it, List.mem_of_mem_take hit, e.symm⟩
          rw [List.length_map, List.length_map] at this
          exact Nat.lt_of_le_of_lt (Nat.le_trans this fit.len) (by decide)
        have fin : ∀ (v : Addr), Pr K G v (accF (items.take i) [c]).1 (accF (items.take i) [c]).2 → sp_two K (fun p q r s => p * s + r * q) (fun _ q _ s => q * s) [.ref v, .ref u] G (fun y G2 => ∃ G3, DPut G2 D (.int c) y G3 ∧ ∃ x2 x3, (some (V.int c) = x2 ∧ some (V.ref u) = x3) ∧ Same H G3 ∧ ∃ kvs, G3 D = some (.dK kvs) ∧ SumD (fun k => (Sum.inl (k.headD 0) : L2.Key)) 1 K G3 kvs (items.take (i + 1))) E0 := fun v hv => by
          refine plus_at T hv (Same.seqT s1 h2) la lf (by omega) (by omega) fun t G2 s2 t0 t1 => ?_
          have hG2 := s2 _ _ hG
          have sp := sd.put (it := ([c], f)) rfl (H' := L2.upd G2 D (.dK (putK kvs (Sum.inl c) (.ref t)))) (t := t) (fun u p q h => seqT_updO (notT_dK hG2) (Same.seqT s2 h)) (seqT_updO (notT_dK hG2) (.inl (.inl t1)))
          refine ⟨_, DPut.k (k := Sum.inl c) hG2 kl, _, _, ⟨rfl, rfl⟩, ?_, _, upd_same, ?_⟩
          · intro b o e
            have ne : b ≠ D := fun z => by rw [z, hD] at e; cases e
            rw [upd_ne ne]
            exact s2 _ _ (s1 _ _ e)
          · rw [es]
            exact sp
        refine ⟨.inl ⟨kvs, .inl hG⟩, _, DGet.k (k := Sum.inl c) hG, ?_⟩
        rcases sd.get (k := [c]) rfl with ⟨v, hv, pv⟩ | ⟨hv, ez⟩
        · rw [show valV kvs (Sum.inl c : L2.Key) = some (.ref v) from hv]
          exact fin v pv
        · rw [show valV kvs (Sum.inl c : L2.Key) = none from hv]
          have pz : Pr K G T.a_ZERO (accF (items.take i) [c]).1 (accF (items.take i) [c]).2 := by rw [ez]; exact T.s_ZERO G
          exact fin _ pz
      · rintro σ G ⟨x2, x3, kvs, rfl, s1, hG, sd⟩
        rw [lx, List.take_length] at sd
        exact hN _ _ ⟨_, _, _, rfl, s1, hG, sd⟩
    · rintro σ G ⟨x2, x3, kvs, rfl, s1, hG, sd⟩
      have hl : ∀ it ∈ items, low it.2 := fun it hit => (fit.it it hit).1
      obtain ⟨S, sS, mS⟩ := fit.few
      have ksE : ∃ ks : List Int, kvs.map (·.1) = ks.map Sum.inl := by
        have : ∀ l : List L2.Key, (∀ x ∈ l, ∃ it ∈ items, x = (Sum.inl (it.1.headD 0) : L2.Key)) → ∃ ks : List Int, l = ks.map Sum.inl := by
          intro l
          induction l with
          | nil => intro _; exact ⟨[], rfl⟩
          | cons x l ih =>
            intro h
            obtain ⟨it, _, e⟩ := h x List.mem_cons_self
            obtain ⟨ks, e2⟩ := ih fun y hy => h y (List.mem_cons_of_mem _ hy)
            exact ⟨it.1.headD 0 :: ks, by rw [List.map_cons, e, e2]⟩
        exact this _ sd.key
      obtain ⟨ks, eks⟩ := ksE
      have ndk : ks.Nodup := by
        have := sd.nd
        rw [eks] at this
        exact (List.pairwise_map.mp this).imp fun h e => h (by rw [e])
      have mk : ∀ c, c ∈ ks ↔ ∃ it ∈ items, it.1 = [c] := fun c => by
        constructor
        · intro hc
          obtain ⟨it, hit, e⟩ := sd.key (Sum.inl c) (by rw [eks]; exact List.mem_map_of_mem hc)
          have l1 := sd.len it hit
          refine ⟨it, hit, ?_⟩
          match hk : it.1, l1 with
          | [y], _ => rw [hk] at e; injection e with e; rw [show c = y from e]
        · rintro ⟨it, hit, e⟩
          obtain ⟨u, h1, _⟩ := sd.val it hit
          have := valV_mem h1
          rw [eks, e] at this
          obtain ⟨y, hy, e2⟩ := List.mem_map.mp this
          injection e2 with e2
          rw [show c = y from e2.symm]; exact hy
      have lk : ks.length < 64 := by
        have := nodup_len (l := ks.map fun c => [c]) (S := S) (List.pairwise_map.mpr (ndk.imp fun h e => h (by injection e))) fun x hx => by
          obtain ⟨c, hc, rfl⟩ := List.mem_map.mp hx
          obtain ⟨it, hit, e⟩ := (mk c).mp hc
          rw [← e]; exact mS it hit
        rw [List.length_map] at this
        omega
      walk_at "rs"
      refine ⟨_, rfl, D, rfl, kvs, .inl hG, ks, eks, lk, fun ss p pm pw p0 => ?_⟩
      have sG : Same G (L2.upd G p (.lst (ss.map V.int))) := same_upd p0
      have hp1 : (L2.upd G p (.lst (ss.map V.int))) p = some (.lst (ss.map V.int)) := upd_same
      generalize L2.upd G p (.lst (ss.map V.int)) = G1 at *
      have sd1 : SumD (fun k => (Sum.inl (k.headD 0) : L2.Key)) 1 K G1 kvs items := sd.upd fun u p q h => Same.seqT sG h
      have hG1 := sG _ _ hG
      have lss : ss.length = ks.length := pm.length_eq
      have srt : (ss.map fun c => [c]).Pairwise fun a b => cd a < cd b := by
        rw [List.pairwise_map]
        have nd := pm.nodup_iff.mpr ndk
        refine (pw.and nd).imp fun {x y} h => ?_
        have e1 : ∀ z : Int, cd [z] = z := fun z => by
          show z * 2000 ^ 0 + 0 = z
          omega
        rw [e1, e1]
        exact Int.lt_iff_le_and_ne.mpr h
      have nm := norm_of (items := items) (L := ss.map fun c => [c]) hl srt fun it hit => by
        obtain ⟨_, _, l1, _⟩ := fit.it it hit
        obtain ⟨c, ec⟩ : ∃ c, it.1 = [c] := by
          match hk : it.1, l1 with
          | [y], _ => exact ⟨y, rfl⟩
        rw [ec]
        exact List.mem_map.mpr ⟨c, pm.mem_iff.mpr ((mk c).mpr ⟨it, hit, ec⟩), rfl⟩
      refine ⟨p, rfl, ⟨_, SqL.of hp1⟩, fun M hM => lc_filtR (n := (ss.map V.int).length) walk_list (fun i H ys => Its K H ys ((((ss.take i).map fun c => [c]).filter fun k => decide (accF items k ≠ (0, 1))).map fun k => (k, accF items k))) (fun i => decide (accF items [ss.getD i 0] ≠ (0, 1))) hM (by rw [List.length_map]; omega) (fun i H H' ys s h => h.same s) (fun i H ys zs o hp h => h.updO (notT_lst hp)) (fun H => .nil) (fun H2 s2 => s2.seq (SqL.of hp1)) (fun i x H2 H3 hi s2 y => ?_) (gm_name 2) fun H2 ys s2 h2 r2 => ?_⟩
      · obtain ⟨rfl, hx⟩ := y
        rw [List.length_map] at hi
        have ei : ss[i]? = some (ss.getD i 0) := by rw [List.getD_eq_getElem?_getD, List.getElem?_eq_getElem hi]; rfl
        obtain rfl : x = .int (ss.getD i 0) := by
          have hx : (ss.map V.int)[i]? = some x := hx
          rw [List.getElem?_map, ei] at hx
          exact (Option.some.inj hx).symm
        have et : ss.take (i + 1) = ss.take i ++ [ss.getD i 0] := by
          obtain ⟨hk, e⟩ := List.getElem?_eq_some_iff.mp ei
          rw [← List.take_append_getElem hk, e]
        have hc : ss.getD i 0 ∈ ks := pm.mem_iff.mp (List.mem_of_getElem? ei)
        generalize ss.getD i 0 = c at *
        obtain ⟨it, hit, ec⟩ := (mk c).mp hc
        obtain ⟨u, hv, pu⟩ := sd1.val it hit
        rw [ec] at hv pu
        have hv : valV kvs (Sum.inl c : L2.Key) = some (.ref u) := hv
        refine ⟨Same.refl _, rfl, fun Qt hq => ?_, fun pf H4 ys h => ?_, fun pt H4 s4 Q2 hq => ?_⟩
        · walk_at "rs"
          have hd := DGet.k (k := (Sum.inl c : L2.Key)) (s2 _ _ hG1)
          rw [hv] at hd
          refine ⟨_, hd, _, _, dp_pair (Same.seqT s2 pu), dp_pair (T.s_ZERO _), rfl, rfl, _, rfl, ?_⟩
          rw [eqv_pair]
          have e : (!(decide ((accF items [c]).1 = 0) && decide ((accF items [c]).2 = 1))) = decide (accF items [c] ≠ (0, 1)) := by
            by_cases z : accF items [c] = (0, 1)
            · rw [z]; rfl
            · rw [decide_eq_true (p := accF items [c] ≠ (0, 1)) z]
              by_cases z1 : (accF items [c]).1 = 0
              · rw [decide_eq_false fun z2 => z (Prod.ext z1 z2), Bool.and_false]; rfl
              · rw [decide_eq_false z1]; rfl
          rw [e]
          exact hq _ (Same.refl _)
        · rw [et, List.map_append, List.filter_append, List.map_append]
          simp only [List.map_cons, List.map_nil, List.filter_cons, pf, List.filter_nil]
          simpa using h
        · walk_at "rs"
          have hd := DGet.k (k := (Sum.inl c : L2.Key)) (s4 _ _ (s2 _ _ hG1))
          rw [hv] at hd
          refine ⟨_, hd, by decide, fun q5 H5 s5 n5 t5 => hq _ H5 s5 fun ys h => ?_⟩
          rw [et, List.map_append, List.filter_append, List.map_append]
          refine h.app ?_
          simp only [List.map_cons, List.map_nil, List.filter_cons, pt, List.filter_nil, if_true]
          exact .cons (.inl (.inl t5)) (Same.seqT (Same.trans s2 (Same.trans s4 s5)) pu) .nil
      · rw [List.length_map, List.take_length] at r2
        refine ⟨M, rfl, ys, SqL.of h2, fun t H3 s3 t0 t1 => k t ys _ H3 (Same.trans s1 (Same.trans sG (Same.trans s2 s3))) (.inl (.inl t1)) (r2.same s3) nm ?_⟩
        rw [List.length_map]
        exact Nat.lt_of_le_of_lt (List.length_filter_le _ _) (by rw [List.length_map]; omega)
end
end LK

set_option Elab.async false
set_option linter.all false
set_option maxRecDepth 100000
namespace LK
open PySem PySem.Spec PyProof.Rows L2
local macro_rules | `(tactic| walk_at "rs") => `(tactic| simp only [tFld, sFld, tMeth, tMethZ, tMakeK, tMakeS, tMethS, tEf, tProp, tFmt, rEqO, rNeO, cxK, cxNK, tCallZ, tAsg, tOp, rI0, rS0, rB0, rI, rU, tUn, rEq, rNe, rIxL, rIxT, rIxS, rSetL, rSlLU, rSlS, rSlU, rCatL, rCatU, rRepL, rIn, tVar, tC, gName, gSub, tIfS, tTest, tB, tAnd, tOr, tNot, tNotV, tAndV, tOrV, tIf, tCall, tCons, tNil, tCB, tDrop, tRet, tRetN, tNext, tLstU, tTupU, tM0, tM1, tPar, tPar3, tAug, ipI, tBM, tBM0, rAppend, rPop, tBreak, sDPut, tDGet, tDGet2, tCont, tChain, tSl, tPart, tNoPart, L2.start, List.map, List.length_cons, List.length_nil, List.replicate, List.cons_append, List.nil_append, List.append_nil, List.getElem?_cons_zero, List.getElem?_cons_succ, List.set_cons_zero, List.set_cons_succ, Option.some.injEq, V.int.injEq, V.ref.injEq, V.str.injEq, V.bl.injEq, exists_eq_left', exists_eq_left, exists_and_left, decide_eq_true_eq, List.cons.injEq, and_true, true_and, scal, Bool.not_eq_true', decide_eq_false_iff_not, Nat.zero_add, Nat.reduceAdd, Nat.reduceSub, reduceCtorEq, false_and, exists_false, false_or, or_false, CPow, CPowW, CMul, CDiv, Int.reduceToNat, ↓reduceIte, wipe, sw, List.nil_append, List.singleton_append])
local macro_rules | `(tactic| walk_at "st") => `(tactic| (refine seq_op fun N hN => ?_; walk_at "rs"))
local macro_rules | `(tactic| walk_at "sd") => `(tactic| first | assumption | decide | omega)
local macro_rules | `(tactic| walk_at "rd") => `(tactic| repeat (first
  | refine ⟨_, SqL.of (by assumption), ?_⟩ | refine ⟨_, SqL.of upd_same, ?_⟩ | refine ⟨_, .inl (SqL.of (by assumption)), ?_⟩ | refine ⟨_, (by assumption : _ = some (HO.lst _)), ?_⟩ | refine ⟨_, upd_same, ?_⟩
  | refine ⟨_, rfl, ?_⟩ | refine And.intro (by walk_at "sd") ?_))

theorem inl_inj : ∀ {l m : List Int}, l.map (Sum.inl : Int → L2.Key) = m.map Sum.inl → l = m
  | [], [], _ => rfl
  | [], _ :: _, e => by cases e
  | _ :: _, [], e => by cases e
  | x :: l, y :: m, e => by
    injection e with e1 e2
    injection e1 with e1
    rw [e1, inl_inj e2]
theorem kV_inl (k : List Int) : (k.map (Sum.inl : Int → L2.Key)).map kV = k.map V.int := by rw [List.map_map]; rfl
theorem cd_inj {x y x' y' : Int} (b : TS.Bd 2000 [x, y]) (b' : TS.Bd 2000 [x', y']) (e : cd [x, y] = cd [x', y']) : [x, y] = [x', y'] := by
  have e1 : ∀ a b : Int, cd [a, b] = a * 2000 + b := fun a b => by
    show a * 2000 ^ 1 + (b * 2000 ^ 0 + 0) = _
    omega
  rw [e1, e1] at e
  have h1 := b y (by simp)
  have h2 := b' y' (by simp)
  have : x = x' := by omega
  have : y = y' := by omega
  rw [‹x = x'›, ‹y = y'›]
section
variable {P : Program} {w : World} {K : PySem.W.Frag} {mg : Str → Option Value} {base : Heap}
theorem ok_normal_triples (T : Txt w K mg) : FnOk P w K mg base CX0 5 T.a_normal_triples T.d_normal_triples ["triples"] (sp_norm K 2) := by
  refine T.F_normal_triples.ok sc_normal_triples (fun vs H Q E h => ?_) (fun cdv A outer s H vs Q E hr h => ?_)
  · obtain ⟨a, xs, items, rfl, _⟩ := h
    rfl
  · obtain ⟨a, xs, items, rfl, ha, hi, fit, k⟩ := h
    have hr_plus : Room 4 _ := hr
    have G_plus := ok_plus (P := P) (base := base) T
    have hu1 : (A.deeper (envOfC "normal_triples" (defScope s_normal_triples) s.heap.objs.size T.a_normal_triples cdv)).units + 1 < cLine := Nat.lt_of_le_of_lt (Nat.add_le_add_left (by decide : 1 ≤ 64) _) hr.units
    have lx := hi.len
    refine ⟨_, (pss_cons (ps_set (i := 1) sc_normal_triples.nd rfl (Or.inr rfl) pe_dnewT)
      (pss_cons (ps_for PassesOwn.never rfl (pi_lt (pv 0)) (pg_tup rfl (pgs_cons (pg_name (i := 2) sc_normal_triples.nd rfl (Or.inl rfl)) (pgs_cons (pg_name (i := 3) sc_normal_triples.nd rfl (Or.inl rfl)) (pgs_cons (pg_name (i := 4) sc_normal_triples.nd rfl (Or.inl rfl)) pgs_nil)))) (pss_one (ps_dput hu1 (pv 1) (pe_tupU (pa_cons (pv 2) (pa_cons (pv 3) pa_nil))) (pe_call G_plus hr_plus (by rfl) T.m_plus T.F_plus.kp T.B_plus .nil pass0 (pa_cons (pe_dget2 hu1 (pv 1) (pe_tupU (pa_cons (pv 2) (pa_cons (pv 3) pa_nil))) (pe_glob (v := .ref T.a_ZERO) (by rfl) T.m_ZERO rfl) ⟨rfl, rfl, rfl, rfl⟩) (pa_cons (pv 4) pa_nil))) rfl)))
      (pss_one (ps_ret (pe_callTy call_tupleN (by rfl) T.n_tuple (by decide +kernel) (pa_cons (pe_lc (own := [("pair", 5)]) (g := gName 5) (tt := _) rfl sc_normal_triples.nd (pi_list (pe_callB (call_sortedDT rfl) (by rfl) T.n_sorted (by decide +kernel) (pa_cons (pv 1) pa_nil))) (blkOk_by (own := [("pair", 5)]) (N := N_normal_triples) (sc := defScope s_normal_triples) (by decide +kernel)) (fun _ _ _ _ _ => pg_name (i := 5) sc_normal_triples.nd rfl (Or.inl rfl)) (fun _ _ _ _ _ => pts_one (pt_cmpR (op_neDK (K := K) rfl hr.units) (pe_dget hu1 (pv 1) (pv 5) (fun _ _ => rfl)) (pe_glob (v := .ref T.a_ZERO) (by rfl) T.m_ZERO rfl) (nomark _))) (fun _ _ _ _ _ => (pe_op (op_catUK (K := K) rfl) (pv 5) (pe_tupU (pa_cons (pe_dget hu1 (pv 1) (pv 5) (fun _ _ => rfl)) pa_nil))))) pa_nil)))))), ?_⟩
    refine seq_op fun N hN => ?_
    walk_at "rs"
    refine fun D hD => hN _ _ ?_
    clear hN N
    have s0 : Same H (L2.upd H D (.dT [])) := same_upd hD
    refine cut_seq (fun σ G => ∃ (x2 x3 x4 : Option V) (kvs : List (List L2.Key × V)), σ = [some (.ref a), some (.ref D), x2, x3, x4, none] ∧ Same H G ∧ G D = some (.dT kvs) ∧ SumD (fun k => k.map (Sum.inl : Int → L2.Key)) 2 K G kvs items) (fun N hN => ?_) ?_
    · refine for_lt (K := K) (a := a) (xs := xs) (fun Q q => ⟨_, rfl, q⟩) ha (fun i σ G => ∃ (x2 x3 x4 : Option V) (kvs : List (List L2.Key × V)), σ = [some (.ref a), some (.ref D), x2, x3, x4, none] ∧ Same H G ∧ G D = some (.dT kvs) ∧ SumD (fun k => k.map (Sum.inl : Int → L2.Key)) 2 K G kvs (items.take i)) ⟨_, _, _, [], rfl, s0, upd_same, ⟨?_, ?_, ?_, ?_, ?_⟩⟩ (fun i σ G ⟨_, _, _, _, _, s1, _⟩ => s1) ?_ ?_
      · intro k k' h1 h2 e
        exact inl_inj e
      · intro it hit; simp at hit
      · simp
      · intro x hx; simp at hx
      · intro it hit; simp at hit
      · rintro i x σ G hx ⟨x2, x3, x4, kvs, rfl, s1, hG, sd⟩
        obtain ⟨p, u, ks, f, ex, ee, h1, h2⟩ := hi.get (n := i) (by rw [← lx]; exact (List.getElem?_eq_some_iff.mp hx).1)
        obtain rfl : x = .ref p := by rw [ex] at hx; exact (Option.some.inj hx).symm
        obtain ⟨lf, wf, ld, bd⟩ := fit.it _ (List.mem_of_getElem? ee)
        dsimp only at lf wf ld bd
        obtain ⟨c, d, rfl⟩ : ∃ c d, ks = [c, d] := by
          match ks, ld with
          | [c, d], _ => exact ⟨c, d, rfl⟩
        refine g3_at (Same.seqT s1 h1) ?_
        walk_at "rs"
        have hl : ∀ it ∈ items.take i, low it.2 := fun it hit => (fit.it it (List.mem_of_mem_take hit)).1
        obtain ⟨la, _, wa⟩ := accF_spec hl [c, d]
        have wb : wt (accF (items.take i) [c, d]) ≤ 3900 := Nat.le_trans wa (Nat.le_trans (wtS_take items i [c, d]) (fit.wt [c, d]))
        have es : items.take (i + 1) = items.take i ++ [([c, d], f)] := by
          obtain ⟨hk, e⟩ := List.getElem?_eq_some_iff.mp ee
          rw [← List.take_append_getElem hk, e]
        have kl : kvs.length < sizeLine := by
          have := nodup_len sd.nd (S := items.map fun it => it.1.map (Sum.inl : Int → L2.Key)) fun x hx => by
            obtain ⟨it, hit, e⟩ := sd.key x hx
            exact List.mem_map.mpr ⟨it, List.mem_of_mem_take hit, e.symm⟩
          rw [List.length_map, List.length_map] at this
          exact Nat.lt_of_le_of_lt (Nat.le_trans this fit.len) (by decide)
        refine ⟨.inr ⟨kvs, .inl hG⟩, by decide, fun p1 G1 s2 n1 t1 => ⟨_, DGet.t (k := [Sum.inl c, Sum.inl d]) (s2 _ _ hG) t1, ?_⟩⟩
        have hG1 := s2 _ _ hG
        have pz : ∃ v, (valV kvs ([Sum.inl c, Sum.inl d] : List L2.Key)).getD (V.ref T.a_ZERO) = .ref v ∧ Pr K G1 v (accF (items.take i) [c, d]).1 (accF (items.take i) [c, d]).2 := by
          rcases sd.get (k := [c, d]) rfl with ⟨v, hv, pv⟩ | ⟨hv, ez⟩
          · exact ⟨v, by rw [show valV kvs ([Sum.inl c, Sum.inl d] : List L2.Key) = some (.ref v) from hv]; rfl, Same.seqT s2 pv⟩
          · exact ⟨_, by rw [show valV kvs ([Sum.inl c, Sum.inl d] : List L2.Key) = none from hv]; rfl, by rw [ez]; exact T.s_ZERO G1⟩
        obtain ⟨v, ev, pv⟩ := pz
        rw [ev]
        refine plus_at T pv (Same.seqT (Same.trans s1 s2) h2) la lf (by omega) (by omega) fun t G2 s3 t0 t2 => ⟨by decide, fun p2 G3 s4 n2 t3 => ?_⟩
        have hG3 := s4 _ _ (s3 _ _ hG1)
        have s13 := Same.trans s2 (Same.trans s3 s4)
        have sp := sd.put (it := ([c, d], f)) rfl (H' := L2.upd G3 D (.dT (putK kvs [Sum.inl c, Sum.inl d] (.ref t)))) (t := t) (fun u p q h => seqT_updO (notT_dT hG3) (Same.seqT s13 h)) (seqT_updO (notT_dT hG3) (.inl (.inl (s4 _ _ t2))))
        refine ⟨_, DPut.t (k := [Sum.inl c, Sum.inl d]) hG3 t3 kl, _, _, _, ⟨rfl, rfl, rfl⟩, ?_, _, upd_same, ?_⟩
        · intro b o e
          have ne : b ≠ D := fun z => by rw [z, hD] at e; cases e
          rw [upd_ne ne]
          exact s13 _ _ (s1 _ _ e)
        · rw [es]
          exact sp
      · rintro σ G ⟨x2, x3, x4, kvs, rfl, s1, hG, sd⟩
        rw [lx, List.take_length] at sd
        exact hN _ _ ⟨_, _, _, _, rfl, s1, hG, sd⟩
    · rintro σ G ⟨x2, x3, x4, kvs, rfl, s1, hG, sd⟩
      have hl : ∀ it ∈ items, low it.2 := fun it hit => (fit.it it hit).1
      obtain ⟨S, sS, mS⟩ := fit.few
      have ksE : ∃ ks : List (List Int), kvs.map (·.1) = ks.map (fun k => k.map Sum.inl) ∧ ∀ k ∈ ks, ∃ it ∈ items, it.1 = k := by
        have : ∀ l : List (List L2.Key), (∀ x ∈ l, ∃ it ∈ items, x = it.1.map (Sum.inl : Int → L2.Key)) → ∃ ks : List (List Int), l = ks.map (fun k => k.map Sum.inl) ∧ ∀ k ∈ ks, ∃ it ∈ items, it.1 = k := by
          intro l
          induction l with
          | nil => intro _; exact ⟨[], rfl, fun k hk => by cases hk⟩
          | cons x l ih =>
            intro h
            obtain ⟨it, hit, e⟩ := h x List.mem_cons_self
            obtain ⟨ks, e2, e3⟩ := ih fun y hy => h y (List.mem_cons_of_mem _ hy)
            refine ⟨it.1 :: ks, by rw [List.map_cons, e, e2], fun k hk => ?_⟩
            rcases List.mem_cons.mp hk with rfl | hk
            · exact ⟨it, hit, rfl⟩
            · exact e3 k hk
        exact this _ sd.key
      obtain ⟨ks, eks, mk1⟩ := ksE
      have ndk : ks.Nodup := by
        have := sd.nd
        rw [eks] at this
        exact (List.pairwise_map.mp this).imp fun h e => h (by rw [e])
      have mk : ∀ c, c ∈ ks ↔ ∃ it ∈ items, it.1 = c := fun c => by
        refine ⟨mk1 c, ?_⟩
        rintro ⟨it, hit, rfl⟩
        obtain ⟨u, h1, _⟩ := sd.val it hit
        have := valV_mem h1
        rw [eks] at this
        obtain ⟨y, hy, e2⟩ := List.mem_map.mp this
        rw [← inl_inj e2]; exact hy
      have lk : ks.length < 64 := by
        have := nodup_len (S := S) ndk fun x hx => by
          obtain ⟨it, hit, e⟩ := (mk x).mp hx
          rw [← e]; exact mS it hit
        omega
      have kb : ∀ k ∈ ks, k.length = 2 ∧ TS.Bd 2000 k := fun k hk => by
        obtain ⟨it, hit, e⟩ := (mk k).mp hk
        obtain ⟨_, _, l1, l2⟩ := fit.it it hit
        rw [← e]; exact ⟨l1, l2⟩
      walk_at "rs"
      refine ⟨_, rfl, D, rfl, kvs, .inl hG, ks, eks, lk, 2, by decide, 2000, kb, fun ss p pm hs pw p0 => ?_⟩
      have sG : Same G (L2.upd G p (.lst (ss.map fun q => V.ref q.1))) := same_upd p0
      have hp1 : (L2.upd G p (.lst (ss.map fun q => V.ref q.1))) p = some (.lst (ss.map fun q => V.ref q.1)) := upd_same
      generalize L2.upd G p (.lst (ss.map fun q => V.ref q.1)) = G1 at *
      have sd1 : SumD (fun k => k.map (Sum.inl : Int → L2.Key)) 2 K G1 kvs items := sd.upd fun u p q h => Same.seqT sG h
      have hG1 := sG _ _ hG
      have lss : ss.length = ks.length := by rw [← pm.length_eq, List.length_map]
      have srt : (ss.map (·.2)).Pairwise fun a b => cd a < cd b := by
        have nd := pm.nodup_iff.mpr ndk
        have pw2 : (ss.map (·.2)).Pairwise fun a b => cd a ≤ cd b := List.pairwise_map.mpr pw
        refine (pw2.and nd).imp_of_mem fun {x y} hx hy h => ?_
        refine Int.lt_iff_le_and_ne.mpr ⟨h.1, fun e => h.2 ?_⟩
        obtain ⟨l1, b1⟩ := kb x (pm.mem_iff.mp hx)
        obtain ⟨l2, b2⟩ := kb y (pm.mem_iff.mp hy)
        match x, y, l1, l2, b1, b2, e with
        | [_, _], [_, _], _, _, b1, b2, e => exact cd_inj b1 b2 e
      have nm := norm_of (items := items) (L := ss.map (·.2)) hl srt fun it hit => pm.mem_iff.mpr ((mk it.1).mpr ⟨it, hit, rfl⟩)
      refine ⟨p, rfl, ⟨_, SqL.of hp1⟩, fun M hM => lc_filtR (n := (ss.map fun q => V.ref q.1).length) walk_list (fun i H ys => Its K H ys ((((ss.map fun q : Addr × List Int => q.2).take i).filter fun k => decide (accF items k ≠ (0, 1))).map fun k => (k, accF items k))) (fun i => decide (accF items ((ss.map fun q : Addr × List Int => q.2).getD i []) ≠ (0, 1))) hM (by rw [List.length_map]; omega) (fun i H H' ys s h => h.same s) (fun i H ys zs o hp h => h.updO (notT_lst hp)) (fun H => .nil) (fun H2 s2 => s2.seq (SqL.of hp1)) (fun i x H2 H3 hi s2 y => ?_) (gm_name 5) fun H2 ys s2 h2 r2 => ?_⟩
      · obtain ⟨rfl, hx⟩ := y
        rw [List.length_map] at hi
        have eq : ss[i]? = some ss[i] := List.getElem?_eq_getElem hi
        have ei : (ss.map (·.2))[i]? = some ss[i].2 := by rw [List.getElem?_map, eq]; rfl
        obtain rfl : x = .ref ss[i].1 := by
          have hx : (ss.map fun q => V.ref q.1)[i]? = some x := hx
          rw [List.getElem?_map, eq] at hx
          exact (Option.some.inj hx).symm
        have et : (ss.map (·.2)).take (i + 1) = (ss.map (·.2)).take i ++ [ss[i].2] := by
          obtain ⟨hk, e⟩ := List.getElem?_eq_some_iff.mp ei
          rw [← List.take_append_getElem hk, e]
        have eg : (ss.map (·.2)).getD i [] = ss[i].2 := by rw [List.getD_eq_getElem?_getD, ei]; rfl
        rw [eg]
        have hc : ss[i].2 ∈ ks := pm.mem_iff.mp (List.mem_of_getElem? ei)
        have hq1 := hs ss[i] (List.getElem_mem hi)
        generalize ss[i] = q at *
        obtain ⟨qa, c⟩ := q
        dsimp only at *
        obtain ⟨it, hit, ec⟩ := (mk c).mp hc
        obtain ⟨u, hv, pu⟩ := sd1.val it hit
        rw [ec] at hv pu
        have hv : valV kvs (c.map (Sum.inl : Int → L2.Key)) = some (.ref u) := hv
        have hqk : G1 qa = some (.tup ((c.map (Sum.inl : Int → L2.Key)).map kV)) := by rw [kV_inl]; exact sG _ _ hq1
        refine ⟨Same.refl _, rfl, fun Qt hq => ?_, fun pf H4 ys h => ?_, fun pt H4 s4 Q2 hq => ?_⟩
        · walk_at "rs"
          have hd := DGet.t (k := c.map (Sum.inl : Int → L2.Key)) (s2 _ _ hG1) (s2 _ _ hqk)
          rw [hv] at hd
          refine ⟨_, hd, _, _, dp_pair (Same.seqT s2 pu), dp_pair (T.s_ZERO _), rfl, rfl, _, rfl, ?_⟩
          rw [eqv_pair]
          have e : (!(decide ((accF items c).1 = 0) && decide ((accF items c).2 = 1))) = decide (accF items c ≠ (0, 1)) := by
            by_cases z : accF items c = (0, 1)
            · rw [z]; rfl
            · rw [decide_eq_true (p := accF items c ≠ (0, 1)) z]
              by_cases z1 : (accF items c).1 = 0
              · rw [decide_eq_false fun z2 => z (Prod.ext z1 z2), Bool.and_false]; rfl
              · rw [decide_eq_false z1]; rfl
          rw [e]
          exact hq _ (Same.refl _)
        · rw [et, List.filter_append, List.map_append]
          simp only [List.map_nil, List.filter_cons, pf, List.filter_nil]
          simpa using h
        · walk_at "rs"
          have s24 := Same.trans s2 s4
          have hd := DGet.t (k := c.map (Sum.inl : Int → L2.Key)) (s24 _ _ hG1) (s24 _ _ hqk)
          rw [hv] at hd
          refine ⟨_, hd, by decide, fun q5 H5 s5 n5 t5 => ⟨_, .inl (.inl (s5 _ _ (s24 _ _ (sG _ _ hq1)))), _, .inl (.inl t5), ?_, fun q6 H6 s6 hq6 => hq _ H6 (Same.trans s5 s6) fun ys h => ?_⟩⟩
          · rw [List.length_map, (kb c hc).1]
            exact (show 2 + 1 ≤ sizeLine by decide)
          · rw [et, List.filter_append, List.map_append]
            refine h.app ?_
            simp only [List.map_cons, List.map_nil, List.filter_cons, pt, List.filter_nil, if_true]
            exact .cons hq6 (Same.seqT (Same.trans s24 (Same.trans s5 s6)) pu) .nil
      · rw [List.length_map, show ss.length = (ss.map (·.2)).length from (List.length_map ..).symm, List.take_length] at r2
        refine ⟨M, rfl, ys, SqL.of h2, fun t H3 s3 t0 t1 => k t ys _ H3 (Same.trans s1 (Same.trans sG (Same.trans s2 s3))) (.inl (.inl t1)) (r2.same s3) nm ?_⟩
        rw [List.length_map]
        exact Nat.lt_of_le_of_lt (List.length_filter_le _ _) (by rw [List.length_map]; omega)
end
end LK

set_option Elab.async false
set_option linter.all false
set_option maxRecDepth 100000
namespace LK
open PySem PySem.Spec PyProof.Rows L2
local macro_rules | `(tactic| walk_at "rs") => `(tactic| simp only [tFld, sFld, tMeth, tMethZ, tMakeK, tMakeS, tMethS, tEf, tProp, tFmt, rEqO, rNeO, cxK, cxNK, tCallZ, tAsg, tOp, rI0, rS0, rB0, rI, rU, tUn, rEq, rNe, rIxL, rIxT, rIxS, rSetL, rSlLU, rSlS, rSlU, rCatL, rCatU, rRepL, rIn, tVar, tC, gName, gSub, tIfS, tTest, tB, tAnd, tOr, tNot, tNotV, tAndV, tOrV, tIf, tCall, tCons, tNil, tCB, tDrop, tRet, tRetN, tNext, tLstU, tTupU, tM0, tM1, tPar, tPar3, tAug, ipI, tBM, tBM0, rAppend, rPop, tBreak, sDPut, tDGet, tDGet2, tCont, tChain, tSl, tPart, tNoPart, L2.start, List.map, List.length_cons, List.length_nil, List.replicate, List.cons_append, List.nil_append, List.append_nil, List.getElem?_cons_zero, List.getElem?_cons_succ, List.set_cons_zero, List.set_cons_succ, Option.some.injEq, V.int.injEq, V.ref.injEq, V.str.injEq, V.bl.injEq, exists_eq_left', exists_eq_left, exists_and_left, decide_eq_true_eq, List.cons.injEq, and_true, true_and, scal, Bool.not_eq_true', decide_eq_false_iff_not, Nat.zero_add, Nat.reduceAdd, Nat.reduceSub, reduceCtorEq, false_and, exists_false, false_or, or_false, CPow, CPowW, CMul, CDiv, Int.reduceToNat, ↓reduceIte, wipe, sw, List.nil_append, List.singleton_append])
local macro_rules | `(tactic| walk_at "st") => `(tactic| (refine seq_op fun N hN => ?_; walk_at "rs"))
local macro_rules | `(tactic| walk_at "sd") => `(tactic| first | assumption | decide | omega)
local macro_rules | `(tactic| walk_at "rd") => `(tactic| repeat (first
  | refine ⟨_, SqL.of (by assumption), ?_⟩ | refine ⟨_, SqL.of upd_same, ?_⟩ | refine ⟨_, .inl (SqL.of (by assumption)), ?_⟩ | refine ⟨_, (by assumption : _ = some (HO.lst _)), ?_⟩ | refine ⟨_, upd_same, ?_⟩
  | refine ⟨_, rfl, ?_⟩ | refine And.intro (by walk_at "sd") ?_))

/-- a list that is not of the bag's form stays over draws -/
theorem seqL_kp {K : PySem.W.Frag} {N : Nat} {H H' : Hp} {b c q : Addr} {xs : List V} (B : Bag N H b c) (k : Kp b H H') (n : ∀ (p : Addr) (i : Int) (ys : List V), xs ≠ .ref p :: .int i :: ys) (h : SqL K H q xs) : SqL K H' q xs := by
  obtain ⟨cells, i, g, m, d, hb1, _⟩ := B
  rcases h with (h | ⟨u, h⟩) | h
  · have ne : q ≠ b := fun e => by
      rw [e, hb1] at h
      cases h
      exact n _ _ _ rfl
    exact .inl (.inl (k.hd h ne))
  · have ne : q ≠ b := fun e => by rw [e, hb1] at h; cases h
    exact .inl (.inr ⟨u, k.hd h ne⟩)
  · exact .inr h
theorem Its.refs {K : PySem.W.Frag} {H : Hp} : ∀ {xs : List V} {its : List It}, Its K H xs its → ∀ v ∈ xs, ∃ a, v = .ref a
  | _, _, .nil => fun v hv => absurd hv (by simp)
  | _, _, .cons _ _ q => fun v hv => by
    rcases List.mem_cons.mp hv with rfl | hv
    · exact ⟨_, rfl⟩
    · exact q.refs v hv
theorem Its.noBag {K : PySem.W.Frag} {H : Hp} {xs : List V} {its : List It} (h : Its K H xs its) (p : Addr) (i : Int) (ys : List V) : xs ≠ .ref p :: .int i :: ys := fun e => by
  obtain ⟨a, ha⟩ := h.refs (.int i) (by rw [e]; simp)
  cases ha
def SeqI (K : PySem.W.Frag) (H : Hp) (a : Addr) (xs : List V) : Prop := SqL K H a xs ∨ SqT K H a xs
theorem SeqI.same {K : PySem.W.Frag} {H H' : Hp} {a : Addr} {xs : List V} (s : Same H H') (h : SeqI K H a xs) : SeqI K H' a xs := h.imp s.seq (Same.seqT s)
theorem SeqI.kp {K : PySem.W.Frag} {N : Nat} {H H' : Hp} {b c a : Addr} {xs : List V} {its : List It} (B : Bag N H b c) (k : Kp b H H') (i : Its K H xs its) (h : SeqI K H a xs) : SeqI K H' a xs := h.imp (seqL_kp B k i.noBag) (seqT_kp B k)
end LK

set_option Elab.async false
set_option linter.all false
set_option maxRecDepth 100000
namespace LK
open PySem PySem.Spec PyProof.Rows L2
local macro_rules | `(tactic| walk_at "rs") => `(tactic| simp only [tFld, sFld, tMeth, tMethZ, tMakeK, tMakeS, tMethS, tEf, tProp, tFmt, rEqO, rNeO, cxK, cxNK, tCallZ, tAsg, tOp, rI0, rS0, rB0, rI, rU, tUn, rEq, rNe, rIxL, rIxT, rIxS, rSetL, rSlLU, rSlS, rSlU, rCatL, rCatU, rRepL, rIn, tVar, tC, gName, gSub, tIfS, tTest, tB, tAnd, tOr, tNot, tNotV, tAndV, tOrV, tIf, tCall, tCons, tNil, tCB, tDrop, tRet, tRetN, tNext, tLstU, tTupU, tM0, tM1, tPar, tPar3, tAug, ipI, tBM, tBM0, rAppend, rPop, tBreak, sDPut, tDGet, tDGet2, tCont, tChain, tSl, tPart, tNoPart, L2.start, List.map, List.length_cons, List.length_nil, List.replicate, List.cons_append, List.nil_append, List.append_nil, List.getElem?_cons_zero, List.getElem?_cons_succ, List.set_cons_zero, List.set_cons_succ, Option.some.injEq, V.int.injEq, V.ref.injEq, V.str.injEq, V.bl.injEq, exists_eq_left', exists_eq_left, exists_and_left, decide_eq_true_eq, List.cons.injEq, and_true, true_and, scal, Bool.not_eq_true', decide_eq_false_iff_not, Nat.zero_add, Nat.reduceAdd, Nat.reduceSub, reduceCtorEq, false_and, exists_false, false_or, or_false, CPow, CPowW, CMul, CDiv, Int.reduceToNat, ↓reduceIte, wipe, sw, List.nil_append, List.singleton_append])
local macro_rules | `(tactic| walk_at "st") => `(tactic| (refine seq_op fun N hN => ?_; walk_at "rs"))
local macro_rules | `(tactic| walk_at "sd") => `(tactic| first | assumption | decide | omega)
local macro_rules | `(tactic| walk_at "rd") => `(tactic| repeat (first
  | refine ⟨_, SqL.of (by assumption), ?_⟩ | refine ⟨_, SqL.of upd_same, ?_⟩ | refine ⟨_, .inl (SqL.of (by assumption)), ?_⟩ | refine ⟨_, (by assumption : _ = some (HO.lst _)), ?_⟩ | refine ⟨_, upd_same, ?_⟩
  | refine ⟨_, rfl, ?_⟩ | refine And.intro (by walk_at "sd") ?_))

theorem Kp.get {b p : Addr} {H H' : Hp} {o : HO} (k : Kp b H H') (n : p ≠ b) (h : H p = some o) : H' p = some o := k.hd h n
theorem Kp.upd2 {b p : Addr} {H H' : Hp} {o : HO} (k : Kp b H H') (h : H p = none) : Kp b H (L2.upd H' p o) := fun a u e => by
  obtain ⟨n1, e1⟩ := hb_some e
  have n : a ≠ p := fun z => by rw [z, h] at e1; cases e1
  rw [hb_ne n1, upd_ne n]
  have := k a u e
  rw [hb_ne n1] at this
  exact this
theorem ints_all {w : Int} : ∀ {ys : List V}, (∀ v ∈ ys, ∃ j : Int, v = .int j ∧ 0 ≤ j ∧ j < w) → ∃ k : List Int, ys = k.map V.int ∧ TS.Bd w k
  | [], _ => ⟨[], rfl, fun m hm => by cases hm⟩
  | v :: ys, h => by
    obtain ⟨j, rfl, j0, j1⟩ := h v List.mem_cons_self
    obtain ⟨k, rfl, hk⟩ := ints_all (ys := ys) fun u hu => h u (List.mem_cons_of_mem _ hu)
    refine ⟨j :: k, rfl, fun m hm => ?_⟩
    rcases List.mem_cons.mp hm with rfl | hm
    · exact ⟨j0, j1⟩
    · exact hk m hm
/-- items that are drawn -/
structure IG (d : Nat) (w : Int) (items : List It) : Prop where
  it : ∀ x ∈ items, okB 1000000000000000000 1000000000000000000 x.2 ∧ x.1.length = d ∧ TS.Bd w x.1
theorem IG.nil {d : Nat} {w : Int} : IG d w [] := ⟨fun x hx => by cases hx⟩
theorem IG.app {d : Nat} {w : Int} {a b : List It} (h : IG d w a) (g : IG d w b) : IG d w (a ++ b) := ⟨fun x hx => (List.mem_append.mp hx).elim (h.it x) (g.it x)⟩
theorem IG.one {d : Nat} {w : Int} {k : List Int} {f : Fr} (l : k.length = d) (b : TS.Bd w k) (o : okB 1000000000000000000 1000000000000000000 f) : IG d w [(k, f)] := ⟨fun x hx => by
  obtain rfl := List.mem_singleton.mp hx
  exact ⟨o, l, b⟩⟩
/-- few spots -/
def Few (n : Nat) (items : List It) : Prop := ∃ S : List (List Int), S.length ≤ n ∧ ∀ x ∈ items, x.1 ∈ S
theorem Few.nil : Few 0 [] := ⟨[], Nat.le_refl _, fun x hx => by cases hx⟩
theorem Few.le {n m : Nat} {a : List It} (h : Few n a) (l : n ≤ m) : Few m a := let ⟨S, h1, h2⟩ := h; ⟨S, Nat.le_trans h1 l, h2⟩
theorem Few.app {n m : Nat} {a b : List It} (h : Few n a) (g : Few m b) : Few (n + m) (a ++ b) := by
  obtain ⟨S, h1, h2⟩ := h
  obtain ⟨T, g1, g2⟩ := g
  refine ⟨S ++ T, by rw [List.length_append]; omega, fun x hx => ?_⟩
  rcases List.mem_append.mp hx with hx | hx
  · exact List.mem_append_left _ (h2 x hx)
  · exact List.mem_append_right _ (g2 x hx)
/-- one spot more, whatever stands there -/
theorem Few.spot {n : Nat} {a b : List It} {k : List Int} (h : Few n a) (e : ∀ x ∈ b, x ∈ a ∨ x.1 = k) : Few (n + 1) b := by
  obtain ⟨S, h1, h2⟩ := h
  refine ⟨k :: S, by rw [List.length_cons]; omega, fun x hx => ?_⟩
  rcases e x hx with hx | hx
  · exact List.mem_cons_of_mem _ (h2 x hx)
  · rw [hx]; exact List.mem_cons_self
section
variable {P : Program} {w : World} {K : PySem.W.Frag} {mg : Str → Option Value} {base : Heap}
def sp_items (K : PySem.W.Frag) : Sp := fun vs H Q _ => ∃ (b c : Addr) (N d m : Nat) (wd : Int), vs = [.ref b, .int (d : Int), .int wd, .int (m : Int)] ∧ Bag (N + 1 + m * 17) H b c ∧ 1 ≤ d ∧ d ≤ 2 ∧ 0 < wd ∧ wd ≤ 2000 ∧ m ≤ 9 ∧
  ∀ (p : Addr) (xs : List V) (items : List It) H', Bag N H' b c → Kp b H H' → H p = none → H' p = some (.lst xs) → Its K H' xs items → IG d wd items → items.length ≤ 2 * m → Few m items → Q (.ref p) H'
theorem ok__law_items (T : Txt w K mg) : FnOk P w K mg base CX0 4 T.a__law_items T.d__law_items ["bag", "many", "width", "most"] (sp_items K) := by
  refine T.F__law_items.ok sc__law_items (fun vs H Q E h => ?_) (fun cdv A outer s H vs Q E hr h => ?_)
  · obtain ⟨b, c, N, d, m, wd, rfl, _⟩ := h
    rfl
  · obtain ⟨b, c, N0, d, m, wd, rfl, B, d1, d2, w0, w1, m9, k⟩ := h
    have hr__law_draw : Room 1 _ := hr.mono (by decide)
    have G__law_draw := ok__law_draw (P := P) (base := base) T
    have hr__law_factor : Room 3 _ := hr
    have G__law_factor := ok__law_factor (P := P) (base := base) T
    refine ⟨_, (pss_cons (ps_set (i := 4) sc__law_items.nd rfl (Or.inl rfl) (pe_lstU pa_nil))
      (pss_cons (ps_for PassesOwn.never rfl (pi_range1 (by rfl) T.n_range (pa_cons (pe_call G__law_draw hr__law_draw (by rfl) T.m__law_draw T.F__law_draw.kp T.B__law_draw .nil pass0 (pa_cons (pv 0) (pa_cons (pe_op op_add (pv 3) pe_int) pa_nil))) pa_nil)) (pg_name (i := 5) sc__law_items.nd rfl (Or.inl rfl)) (pss_cons (ps_set (i := 6) sc__law_items.nd rfl (Or.inl rfl) (pe_callTy call_tupleN (by rfl) T.n_tuple (by decide +kernel) (pa_cons (pe_lc (own := [("j", 9)]) (g := gName 9) (tt := tYes) rfl sc__law_items.nd (pi_range1 (by rfl) T.n_range (pa_cons (pv 1) pa_nil)) (blkOk_by (own := [("j", 9)]) (N := N__law_items) (sc := defScope s__law_items) (by decide +kernel)) (fun _ _ _ _ _ => pg_name (i := 9) sc__law_items.nd rfl (Or.inl rfl)) (fun _ _ _ _ _ => pts_nil) (fun _ _ _ _ _ => (pe_call G__law_draw hr__law_draw (by rfl) T.m__law_draw T.F__law_draw.kp T.B__law_draw .nil pass0 (pa_cons (pv 0) (pa_cons (pv 2) pa_nil))))) pa_nil)))
      (pss_cons (ps_set (i := 7) sc__law_items.nd rfl (Or.inl rfl) (pe_call G__law_factor hr__law_factor (by rfl) T.m__law_factor T.F__law_factor.kp T.B__law_factor .nil pass0 (pa_cons (pv 0) pa_nil)))
      (pss_cons (ps_expr (pe_bm PySem.F.plainAttrs_list PySem.F.slot_list_append PySem.F.type_list_append mt_append (pv 4) (pa_cons (pe_op op_catU (pv 6) (pe_tupU (pa_cons (pv 7) pa_nil))) pa_nil)))
      (pss_cons (ps_set (i := 8) sc__law_items.nd rfl (Or.inl rfl) (pe_call G__law_draw hr__law_draw (by rfl) T.m__law_draw T.F__law_draw.kp T.B__law_draw .nil pass0 (pa_cons (pv 0) (pa_cons pe_int pa_nil))))
      (pss_one (ps_if (pt_cmpR op_eqI (pv 8) pe_int (nomark _)) (pss_one (ps_expr (pe_bm PySem.F.plainAttrs_list PySem.F.slot_list_append PySem.F.type_list_append mt_append (pv 4) (pa_cons (pe_op op_catU (pv 6) (pe_tupU (pa_cons (pe_tupU (pa_cons (pe_un un_neg (pe_ix ix_tup (pv 7) pe_int (fun _ _ => rfl))) (pa_cons (pe_ix ix_tup (pv 7) pe_int (fun _ _ => rfl)) pa_nil))) pa_nil))) pa_nil)))) (pss_one (ps_if (pt_cmpR op_eqI (pv 8) pe_int (nomark _)) (pss_one (ps_expr (pe_bm PySem.F.plainAttrs_list PySem.F.slot_list_insert PySem.F.type_list_insert mt_insert (pv 4) (pa_cons pe_int (pa_cons (pe_op op_catU (pv 6) (pe_tupU (pa_cons (pe_call G__law_factor hr__law_factor (by rfl) T.m__law_factor T.F__law_factor.kp T.B__law_factor .nil pass0 (pa_cons (pv 0) pa_nil)) pa_nil))) pa_nil))))) pss_nil)))))))))
      (pss_one (ps_ret (pv 4))))), ?_⟩
    refine seq_op fun N hN => ?_
    walk_at "rs"
    refine ⟨by decide, fun p H1 s1 p0 p1 => hN _ _ ?_⟩
    clear hN N
    have B1 := B.same s1
    have pb := new_ne B p0
    have pc : c ≠ p := fun e => by
      obtain ⟨xc, ec⟩ := B.at2
      rw [← e, ec] at p0; cases p0
    refine cut_seq (fun σ H2 => ∃ (x5 x6 x7 x8 : Option V) (xs : List V) (items : List It), σ = [some (.ref b), some (.int (d : Int)), some (.int wd), some (.int (m : Int)), some (.ref p), x5, x6, x7, x8, none] ∧ Bag N0 H2 b c ∧ Kp b H H2 ∧ H2 p = some (.lst xs) ∧ Its K H2 xs items ∧ IG d wd items ∧ items.length ≤ 2 * m ∧ Few m items) (fun N hN => ?_) ?_
    · walk_at "rs"
      refine ⟨_, rfl, _, rfl, (m : Int), 1, rfl, rfl, b, c, (m : Int) + 1, N0 + m * 17, rfl, B1.le (by omega), by omega, by omega, fun r H2 r0 r1 B2 K2 => ⟨r, rfl, by omega, by omega, for_range (lo := 0) (n := r.toNat) (fun i σ H3 => ∃ (x5 x6 x7 x8 : Option V) (xs : List V) (items : List It), σ = [some (.ref b), some (.int (d : Int)), some (.int wd), some (.int (m : Int)), some (.ref p), x5, x6, x7, x8, none] ∧ Bag (N0 + (m - i) * 17) H3 b c ∧ Kp b H H3 ∧ H3 p = some (.lst xs) ∧ Its K H3 xs items ∧ IG d wd items ∧ items.length ≤ 2 * i ∧ Few i items) ⟨_, _, _, _, [], [], rfl, B2.le (by omega), Same.trans (Kp.of s1) K2, Kp.get K2 pb p1, .nil, .nil, Nat.le_refl _, .nil⟩ ?_ ?_⟩⟩
      · rintro i σ H3 hi ⟨x5, x6, x7, x8, xs, items, rfl, B3, K3, h3, he, ig, il, fw⟩
        have e17 : (m - i) * 17 = (m - (i + 1)) * 17 + 17 := by omega
        rw [e17] at B3
        refine seq_op fun N hN => ?_
        walk_at "rs"
        have B3' : Bag ((N0 + (m - (i + 1)) * 17 + 15) + (d : Int).toNat * 1) H3 b c := B3.le (by omega)
        refine ⟨_, rfl, (d : Int), rfl, by omega, by omega, fun D hD => lc_draw (n := (d : Int).toNat) walk_range (fun _ v => ∃ j : Int, v = V.int j ∧ 0 ≤ j ∧ j < wd) (fun _ _ _ _ h => h) hD B3' (by omega) (fun _ _ _ _ y => y.1) (fun _ _ => trivial) (fun x H4 M K4 B4 Q2 hq => ?_) fun H4 ys B4 K4 hD4 hl4 hy4 => ?_⟩
        · exact ⟨_, rfl, _, rfl, b, c, wd, M, rfl, B4, w0, by omega, fun r1 H5 r10 r11 B5 K5 => hq _ _ B5 K5 ⟨r1, rfl, r10, r11⟩⟩
        · obtain ⟨ks, rfl, bk⟩ := ints_all hy4
          rw [List.length_map, Int.toNat_natCast] at hl4
          refine ⟨D, rfl, _, SqL.of hD4, fun q5 H5 s5 q50 q51 => hN _ _ ?_⟩
          clear hN N
          refine seq_op fun N hN => ?_
          walk_at "rs"
          refine ⟨b, c, N0 + (m - (i + 1)) * 17 + 8, rfl, B4.same s5, fun tf f H6 okf t0 t1 B6 K6 => hN _ _ ?_⟩
          clear hN N
          have B5 := B4.same s5
          have K36 : Kp b H3 H6 := Same.trans K4 (Same.trans (Kp.of s5) K6)
          have h36 := Kp.get K36 pb h3
          have hq6 : SqT K H6 q5 (ks.map V.int) := seqT_kp B5 K6 (.inl (.inl q51))
          have he6 := he.kp B3 K36
          have lx := he.len
          refine seq_op fun N hN => ?_
          walk_at "rs"
          have lks : (ks.map V.int).length + 1 ≤ 10 := by rw [List.length_map]; omega
          refine ⟨.inl ⟨rfl, _, SqL.of h36⟩, by decide, fun p7 H7 s7 n7 t7 => ⟨_, Same.seqT s7 hq6, _, .inl (.inl t7), Nat.le_trans lks (by decide), fun q8 H8 s8 hq8 => ⟨xs, s8 _ _ (s7 _ _ h36), Nat.lt_of_le_of_lt (show xs.length ≤ 1000 by omega) (by decide), hN _ _ ?_⟩⟩⟩
          clear hN N
          have s78 := Same.trans s7 s8
          have h8 := s78 _ _ h36
          have nt := notT_lst h8
          have B9 := (B6.same s78).upd (o := .lst (xs ++ [.ref q8])) (Ne.symm pb) pc
          have K9 : Kp b H (L2.upd H8 p (.lst (xs ++ [.ref q8]))) := Kp.upd2 (Same.trans K3 (Same.trans K36 (Kp.of s78))) p0
          have h9 : (L2.upd H8 p (.lst (xs ++ [.ref q8]))) p = some (.lst (xs ++ [.ref q8])) := upd_same
          have he9 : Its K (L2.upd H8 p (.lst (xs ++ [.ref q8]))) (xs ++ [.ref q8]) (items ++ [(ks, f)]) := ((he6.same s78).updO nt).app (.cons (seqT_updO nt hq8) (seqT_updO nt (.inl (.inl (s78 _ _ t1)))) .nil)
          have hq9 : SqT K (L2.upd H8 p (.lst (xs ++ [.ref q8]))) q5 (ks.map V.int) := seqT_updO nt (Same.seqT s78 hq6)
          have tf9 : Pr K (L2.upd H8 p (.lst (xs ++ [.ref q8]))) tf f.1 f.2 := seqT_updO nt (.inl (.inl (s78 _ _ t1)))
          generalize L2.upd H8 p (.lst (xs ++ [.ref q8])) = H9 at *
          have ig9 := ig.app (IG.one hl4 bk okf)
          have fw9 : Few (i + 1) (items ++ [(ks, f)]) := fw.spot (k := ks) fun x hx => by
            rcases List.mem_append.mp hx with hx | hx
            · exact .inl hx
            · exact .inr (by rw [List.mem_singleton.mp hx])
          refine seq_op fun N hN => ?_
          walk_at "rs"
          refine ⟨b, c, 8, N0 + (m - (i + 1)) * 17 + 7, rfl, B9, by decide, by decide, fun r2 H10 _ _ B10 K10 => hN _ _ ?_⟩
          clear hN N
          have h10 := Kp.get K10 pb h9
          have he10 := he9.kp B9 K10
          have hq10 := seqT_kp B9 K10 hq9
          have tf10 : Pr K H10 tf f.1 f.2 := seqT_kp B9 K10 tf9
          have K10' := Same.trans K9 K10
          walk_at "rs"
          refine ite2 (fun _ => ?_) (fun _ => ite2 (fun _ => ?_) (fun _ => ?_))
          · have of' : okB 1000000000000000000 1000000000000000000 ((-f.1, f.2) : Fr) := ⟨okf.1, by rw [Int.natAbs_neg]; exact okf.2.1, by rw [Int.natAbs_neg]; exact okf.2.2.1, okf.2.2.2⟩
            refine ⟨.inl ⟨rfl, _, SqL.of h10⟩, _, tf10, _, rfl, _, rfl, _, tf10, _, rfl, by decide, fun p1 J1 u1 n1 t1 => ⟨by decide, fun p2 J2 u2 n2 t2 => ⟨_, Same.seqT (Same.trans u1 u2) hq10, _, .inl (.inl t2), Nat.le_trans lks (by decide), fun q3 J3 u3 hq3 => ?_⟩⟩⟩
            have v3 := Same.trans u1 (Same.trans u2 u3)
            have j3 := v3 _ _ h10
            have nt3 := notT_lst j3
            refine ⟨_, j3, Nat.lt_of_le_of_lt (show _ ≤ 1000 by rw [List.length_append]; simp only [List.length_cons, List.length_nil]; omega) (by decide), _, _, _, _, ⟨rfl, rfl, rfl, rfl⟩, ((B10.same v3).le (by omega)).upd (Ne.symm pb) pc, Kp.upd2 (Same.trans K10' (Kp.of v3)) p0, _, upd_same, items ++ [(ks, f)] ++ [(ks, (-f.1, f.2))], ((he10.same v3).updO nt3).app (.cons (seqT_updO nt3 hq3) (seqT_updO nt3 (.inl (.inl (Same.trans u2 u3 _ _ t1)))) .nil), ig9.app (IG.one hl4 bk of'), by simp only [List.length_append, List.length_cons, List.length_nil]; omega, fw.spot (k := ks) fun x hx => ?_⟩
            simp only [List.mem_append, List.mem_cons, List.not_mem_nil, or_false] at hx
            rcases hx with (hx | rfl) | rfl
            · exact .inl hx
            · exact .inr rfl
            · exact .inr rfl
          · refine ⟨.inl ⟨rfl, _, SqL.of h10⟩, b, c, N0 + (m - (i + 1)) * 17, rfl, B10.le (by omega), fun t2 f2 G okf2 t20 t21 BG KG => ⟨by decide, fun p2 J2 u2 n2 v2 => ⟨_, Same.seqT u2 (seqT_kp B10 KG hq10), _, .inl (.inl v2), Nat.le_trans lks (by decide), fun q3 J3 u3 hq3 => ?_⟩⟩⟩
            have v3 := Same.trans u2 u3
            have j3 := v3 _ _ (Kp.get KG pb h10)
            have nt3 := notT_lst j3
            refine ⟨_, _, _, ⟨rfl, rfl⟩, j3, Nat.lt_of_le_of_lt (show _ ≤ 1000 by rw [List.length_append]; simp only [List.length_cons, List.length_nil]; omega) (by decide), by decide, by decide, _, _, _, _, ⟨rfl, rfl, rfl, rfl⟩, (BG.same v3).upd (Ne.symm pb) pc, Kp.upd2 (Same.trans K10' (Same.trans KG (Kp.of v3))) p0, _, upd_same, (ks, f2) :: (items ++ [(ks, f)]), ?_, ?_, by simp only [List.length_append, List.length_cons, List.length_nil]; omega, fw.spot (k := ks) fun x hx => ?_⟩
            · show Its K _ (.ref q3 :: (xs ++ [.ref q8])) _
              exact .cons (seqT_updO nt3 hq3) (seqT_updO nt3 (.inl (.inl (v3 _ _ t21)))) (((he10.kp B10 KG).same v3).updO nt3)
            · exact (IG.one hl4 bk okf2).app ig9
            · simp only [List.mem_append, List.mem_cons, List.not_mem_nil, or_false] at hx
              rcases hx with rfl | hx | rfl
              · exact .inr rfl
              · exact .inl hx
              · exact .inr rfl
          · exact ⟨_, _, _, _, ⟨rfl, rfl, rfl, rfl⟩, B10.le (by omega), K10', _, h10, _, he10, ig9, by simp only [List.length_append, List.length_cons, List.length_nil]; omega, fw9⟩
      · rintro σ H3 ⟨x5, x6, x7, x8, xs, items, rfl, B3, K3, h3, he, ig, il, fw⟩
        exact hN _ _ ⟨_, _, _, _, xs, items, rfl, B3.le (by omega), K3, h3, he, ig, by omega, fw.le (by omega)⟩
    · rintro σ H2 ⟨x5, x6, x7, x8, xs, items, rfl, B2, K2, h2, he, ig, il, fw⟩
      walk_at "rs"
      exact k p xs items H2 B2 K2 p0 h2 he ig il fw
end
end LK

set_option Elab.async false
set_option linter.all false
set_option maxRecDepth 100000
namespace LK
open PySem PySem.Spec PyProof.Rows L2
local macro_rules | `(tactic| walk_at "rs") => `(tactic| simp only [tFld, sFld, tMeth, tMethZ, tMakeK, tMakeS, tMethS, tEf, tProp, tFmt, rEqO, rNeO, cxK, cxNK, tCallZ, tAsg, tOp, rI0, rS0, rB0, rI, rU, tUn, rEq, rNe, rIxL, rIxT, rIxS, rSetL, rSlLU, rSlS, rSlU, rCatL, rCatU, rRepL, rIn, tVar, tC, gName, gSub, tIfS, tTest, tB, tAnd, tOr, tNot, tNotV, tAndV, tOrV, tIf, tCall, tCons, tNil, tCB, tDrop, tRet, tRetN, tNext, tLstU, tTupU, tM0, tM1, tPar, tPar3, tAug, ipI, tBM, tBM0, rAppend, rPop, tBreak, sDPut, tDGet, tDGet2, tCont, tChain, tSl, tPart, tNoPart, L2.start, List.map, List.length_cons, List.length_nil, List.replicate, List.cons_append, List.nil_append, List.append_nil, List.getElem?_cons_zero, List.getElem?_cons_succ, List.set_cons_zero, List.set_cons_succ, Option.some.injEq, V.int.injEq, V.ref.injEq, V.str.injEq, V.bl.injEq, exists_eq_left', exists_eq_left, exists_and_left, decide_eq_true_eq, List.cons.injEq, and_true, true_and, scal, Bool.not_eq_true', decide_eq_false_iff_not, Nat.zero_add, Nat.reduceAdd, Nat.reduceSub, reduceCtorEq, false_and, exists_false, false_or, or_false, CPow, CPowW, CMul, CDiv, Int.reduceToNat, ↓reduceIte, wipe, sw, List.nil_append, List.singleton_append])
local macro_rules | `(tactic| walk_at "st") => `(tactic| (refine seq_op fun N hN => ?_; walk_at "rs"))
local macro_rules | `(tactic| walk_at "sd") => `(tactic| first | assumption | decide | omega)
local macro_rules | `(tactic| walk_at "rd") => `(tactic| repeat (first
  | refine ⟨_, SqL.of (by assumption), ?_⟩ | refine ⟨_, SqL.of upd_same, ?_⟩ | refine ⟨_, .inl (SqL.of (by assumption)), ?_⟩ | refine ⟨_, (by assumption : _ = some (HO.lst _)), ?_⟩ | refine ⟨_, upd_same, ?_⟩
  | refine ⟨_, rfl, ?_⟩ | refine And.intro (by walk_at "sd") ?_))

/-! ### sums in any order -/
theorem accR_shift (k : List Int) : ∀ (b : List It) (r : Rat), b.foldl (fun acc it => if it.1 = k then acc + rt it.2 else acc) r = r + accR b k
  | [], r => by show r = r + 0; rw [Rat.add_zero]
  | it :: b, r => by
    unfold accR
    simp only [List.foldl_cons]
    by_cases e : it.1 = k
    · rw [if_pos e, if_pos e, accR_shift k b (r + rt it.2), accR_shift k b (0 + rt it.2), Rat.zero_add, Rat.add_assoc]
    · rw [if_neg e, if_neg e, accR_shift k b r]
      rfl
theorem accR_app (a b : List It) (k : List Int) : accR (a ++ b) k = accR a k + accR b k := by
  show (a ++ b).foldl _ 0 = _
  rw [List.foldl_append]
  exact accR_shift k b _
theorem accR_one (it : It) (k : List Int) : accR [it] k = if it.1 = k then rt it.2 else 0 := by
  unfold accR
  simp only [List.foldl_cons, List.foldl_nil]
  split
  · rw [Rat.zero_add]
  · rfl
theorem accR_cons (it : It) (b : List It) (k : List Int) : accR (it :: b) k = (if it.1 = k then rt it.2 else 0) + accR b k := by
  rw [show it :: b = [it] ++ b from rfl, accR_app, accR_one]
theorem accR_perm {a b : List It} (h : a.Perm b) (k : List Int) : accR a k = accR b k := by
  induction h with
  | nil => rfl
  | cons x _ ih => rw [accR_cons, accR_cons, ih]
  | swap x y l => rw [accR_cons, accR_cons, accR_cons, accR_cons, ← Rat.add_assoc, ← Rat.add_assoc, Rat.add_comm (if y.1 = k then rt y.2 else 0)]
  | trans _ _ ih1 ih2 => exact ih1.trans ih2
theorem accR_norm {R : List Int → Rat} {l : List It} (h : Norm R l) (k : List Int) : accR l k = R k := by
  have key : ∀ {l : List It}, (l.Pairwise fun a b => cd a.1 < cd b.1) → (∀ x ∈ l, rt x.2 = R x.1) → (accR l k = R k ∧ ∃ x ∈ l, x.1 = k) ∨ (accR l k = 0 ∧ ∀ x ∈ l, x.1 ≠ k) := by
    intro l
    induction l with
    | nil => intro _ _; exact .inr ⟨rfl, fun x hx => by cases hx⟩
    | cons a l ih =>
      intro hs hr
      rw [List.pairwise_cons] at hs
      rw [accR_cons]
      by_cases e : a.1 = k
      · have z : ∀ x ∈ l, x.1 ≠ k := fun x hx e2 => by
          have := hs.1 x hx
          rw [e, e2] at this
          omega
        rw [if_pos e, (accF_none z).2, Rat.add_zero, hr a List.mem_cons_self, e]
        exact .inl ⟨rfl, a, List.mem_cons_self, e⟩
      · rw [if_neg e, Rat.zero_add]
        rcases ih hs.2 fun x hx => hr x (List.mem_cons_of_mem _ hx) with ⟨h1, x, hx, h2⟩ | ⟨h1, h2⟩
        · exact .inl ⟨h1, x, List.mem_cons_of_mem _ hx, h2⟩
        · refine .inr ⟨h1, fun x hx => ?_⟩
          rcases List.mem_cons.mp hx with rfl | hx
          · exact e
          · exact h2 x hx
  rcases key h.srt fun x hx => (h.it x hx).2.2 with ⟨h1, _⟩ | ⟨h1, h2⟩
  · exact h1
  · rw [h1]
    refine Classical.byContradiction fun n => ?_
    obtain ⟨f, hf⟩ := h.all k fun z => n z.symm
    exact h2 _ hf rfl
/-- the items' signs turned about -/
theorem accR_neg (k : List Int) : ∀ {l : List It}, (∀ x ∈ l, low x.2) → accR (l.map fun x => (x.1, (-x.2.1, x.2.2))) k = - accR l k
  | [], _ => by show (0 : Rat) = -0; rw [Rat.neg_zero]
  | a :: l, h => by
    rw [List.map_cons, accR_cons, accR_cons, accR_neg k fun x hx => h x (List.mem_cons_of_mem _ hx), Rat.neg_add]
    show (if a.1 = k then rt (-a.2.1, a.2.2) else 0) + _ = _
    rw [(rt_neg (h a List.mem_cons_self)).1]
    split
    · rfl
    · rw [Rat.neg_zero]
theorem accR_zero (k : List Int) : ∀ l : List It, accR (l.map fun x => (x.1, ((0, 1) : Fr))) k = 0
  | [] => rfl
  | a :: l => by
    rw [List.map_cons, accR_cons, accR_zero k l, Rat.add_zero]
    show (if a.1 = k then rt (0, 1) else 0) = 0
    rw [rt_zero]
    split <;> rfl
/-! bits of the sums -/
theorem wtS_shift (k : List Int) : ∀ (b : List It) (n : Nat), b.foldl (fun acc it => if it.1 = k then acc + (wt it.2 + 1) else acc) n + 1 = n + wtS b k
  | [], n => by show n + 1 = n + 1; rfl
  | it :: b, n => by
    unfold wtS
    simp only [List.foldl_cons]
    by_cases e : it.1 = k
    · rw [if_pos e, if_pos e]
      have h1 := wtS_shift k b (n + (wt it.2 + 1))
      have h2 := wtS_shift k b (1 + (wt it.2 + 1))
      omega
    · rw [if_neg e, if_neg e]
      have h1 := wtS_shift k b n
      show _ = n + wtS b k
      exact h1
theorem wtS_app (a b : List It) (k : List Int) : wtS (a ++ b) k + 1 = wtS a k + wtS b k := by
  show (a ++ b).foldl _ 1 + 1 = _
  rw [List.foldl_append]
  exact wtS_shift k b _
theorem wtS_le {B : Nat} (k : List Int) : ∀ {l : List It}, (∀ x ∈ l, wt x.2 ≤ B) → wtS l k ≤ l.length * (B + 1) + 1
  | [], _ => by show 1 ≤ _; omega
  | a :: l, h => by
    have ih := wtS_le k (l := l) fun x hx => h x (List.mem_cons_of_mem _ hx)
    have e := wtS_app [a] l k
    have e1 : wtS [a] k ≤ B + 2 := by
      unfold wtS
      simp only [List.foldl_cons, List.foldl_nil]
      have := h a List.mem_cons_self
      split <;> omega
    rw [show a :: l = [a] ++ l from rfl, List.length_append, List.length_singleton, Nat.add_mul, Nat.one_mul]
    omega
theorem wt_okB {f : Fr} (h : okB 1000000000000000000 1000000000000000000 f) : wt f ≤ 60 := wt_le (by decide) (Nat.lt_of_le_of_lt h.2.2.1 (by decide)) (Nat.lt_of_le_of_lt h.2.2.2 (by decide))
theorem IG.fit {d : Nat} {w : Int} {items : List It} (h : IG d w items) (hw : w ≤ 2000) (l : items.length ≤ 60) (f : Few 62 items) : Fit d items := by
  refine ⟨fun x hx => ?_, fun k => ?_, ?_, by omega⟩
  · obtain ⟨o, l1, b⟩ := h.it x hx
    exact ⟨⟨o.1, o.2.1⟩, Nat.le_trans (wt_okB o) (by decide), l1, fun m hm => ⟨(b m hm).1, by have := (b m hm).2; omega⟩⟩
  · have := wtS_le (B := 60) k (l := items) fun x hx => wt_okB (h.it x hx).1
    omega
  · obtain ⟨S, h1, h2⟩ := f
    exact ⟨S, by omega, h2⟩
end LK

set_option Elab.async false
set_option linter.all false
set_option maxRecDepth 100000
namespace LK
open PySem PySem.Spec PyProof.Rows L2
local macro_rules | `(tactic| walk_at "rs") => `(tactic| simp only [tFld, sFld, tMeth, tMethZ, tMakeK, tMakeS, tMethS, tEf, tProp, tFmt, rEqO, rNeO, cxK, cxNK, tCallZ, tAsg, tOp, rI0, rS0, rB0, rI, rU, tUn, rEq, rNe, rIxL, rIxT, rIxS, rSetL, rSlLU, rSlS, rSlU, rCatL, rCatU, rRepL, rIn, tVar, tC, gName, gSub, tIfS, tTest, tB, tAnd, tOr, tNot, tNotV, tAndV, tOrV, tIf, tCall, tCons, tNil, tCB, tDrop, tRet, tRetN, tNext, tLstU, tTupU, tM0, tM1, tPar, tPar3, tAug, ipI, tBM, tBM0, rAppend, rPop, tBreak, sDPut, tDGet, tDGet2, tCont, tChain, tSl, tPart, tNoPart, L2.start, List.map, List.length_cons, List.length_nil, List.replicate, List.cons_append, List.nil_append, List.append_nil, List.getElem?_cons_zero, List.getElem?_cons_succ, List.set_cons_zero, List.set_cons_succ, Option.some.injEq, V.int.injEq, V.ref.injEq, V.str.injEq, V.bl.injEq, exists_eq_left', exists_eq_left, exists_and_left, decide_eq_true_eq, List.cons.injEq, and_true, true_and, scal, Bool.not_eq_true', decide_eq_false_iff_not, Nat.zero_add, Nat.reduceAdd, Nat.reduceSub, reduceCtorEq, false_and, exists_false, false_or, or_false, CPow, CPowW, CMul, CDiv, Int.reduceToNat, ↓reduceIte, wipe, sw, List.nil_append, List.singleton_append])
local macro_rules | `(tactic| walk_at "st") => `(tactic| (refine seq_op fun N hN => ?_; walk_at "rs"))
local macro_rules | `(tactic| walk_at "sd") => `(tactic| first | assumption | decide | omega)
local macro_rules | `(tactic| walk_at "rd") => `(tactic| repeat (first
  | refine ⟨_, SqL.of (by assumption), ?_⟩ | refine ⟨_, SqL.of upd_same, ?_⟩ | refine ⟨_, .inl (SqL.of (by assumption)), ?_⟩ | refine ⟨_, (by assumption : _ = some (HO.lst _)), ?_⟩ | refine ⟨_, upd_same, ?_⟩
  | refine ⟨_, rfl, ?_⟩ | refine And.intro (by walk_at "sd") ?_))

/-! ### the law's own normal form -/
theorem eqvAll_ints : ∀ k l : List Int, PyData.eqvAll (k.map PyData.int) (l.map PyData.int) = decide (k = l)
  | [], [] => by simp [PyData.eqvAll]
  | [], _ :: _ => by simp [PyData.eqvAll]
  | _ :: _, [] => by simp [PyData.eqvAll]
  | x :: k, y :: l => by
    simp only [List.map_cons, PyData.eqvAll, eqvAll_ints k l]
    by_cases h : x = y
    · subst h
      by_cases h2 : k = l <;> simp [h2, PyData.eqv]
    · simp [h, PyData.eqv]
theorem sh_ints : ∀ k : List Int, 1 ≤ k.length → k.length ≤ 2 → SeqAt.shaped (.tuple (k.map PyData.int)) = true
  | [_], _, _ => rfl
  | [_, _], _, _ => rfl
  | [], h, _ => by simp at h
  | _ :: _ :: _ :: _, _, h => by simp at h
theorem at_last (ks : List Int) (u : Addr) (l1 : 1 ≤ ks.length) (l2 : ks.length ≤ 2) : atI (ks.map V.int ++ [V.ref u]) (-1) = some (.ref u) := by
  match ks, l1, l2 with
  | [_], _, _ => rfl
  | [_, _], _, _ => rfl
  | [], h, _ => simp at h
  | _ :: _ :: _ :: _, _, h => simp at h
theorem eqv_ints (k l : List Int) : PyData.eqv (.tuple (k.map PyData.int)) (.tuple (l.map PyData.int)) = decide (k = l) := by
  simp only [PyData.eqv]
  exact eqvAll_ints k l
theorem lc_accD {J : L2.It} {n : Nat} {G : Hp → Prop} {Y : Nat → Hp → V → Hp → Prop} (w : Walk J n G Y) {g : TG} {te : TE} {vs : List Nat} {σ : L2.St} {H1 : Hp} {D : Addr} {Qd : Hp → Prop} (R : Nat → Hp → List V → Prop) (hD : H1 D = none) (hn : n ≤ 1000000)
    (mono : ∀ i H H' ys, Same H H' → R i H ys → R i H' ys) (up : ∀ i H ys zs o, H D = some (.lst zs) → R i H ys → R i (L2.upd H D o) ys) (r0 : R 0 (L2.upd H1 D (.lst [])) []) (hG : ∀ H, Same H1 H → G H)
    (hs : ∀ i x H H', i < n → Same H1 H → H D ≠ none → Y i H x H' → g x (wipe σ vs) H' fun σ2 H2 => Same H H2 ∧ wipe σ2 vs = wipe σ vs ∧ ∀ Q2 : V → Hp → Prop, (∀ v H3, Same H2 H3 → (∀ ys, R i H3 ys → R (i + 1) H3 (ys ++ [v])) → Q2 v H3) → te σ2 H2 Q2)
    (gm : ∀ x σ0 H0 Q0 Q1, (∀ σ2 H2, Q0 σ2 H2 → Q1 σ2 H2) → g x σ0 H0 Q0 → g x σ0 H0 Q1)
    (hq : ∀ H' ys, Same H1 H' → H' D = some (.lst ys) → ys.length = n → R n H' ys → Qd H') :
    ∃ W : Nat → Nat → Hp → Prop, (∃ m, W 0 m (L2.upd H1 D (.lst []))) ∧ ∀ i m H, W i m H →
      (J.stop i H ∧ Qd H) ∨ (J.go i H ∧ ∃ Nx : Hp → Prop, (∀ H', Nx H' → ∃ m', m' < m ∧ W (i + 1) m' H') ∧ ∀ x H', J.yld i H x H' → g x (wipe σ vs) H' fun σ2 H2 => wipe σ2 vs = wipe σ vs ∧ tYes σ2 H2 fun b H3 =>
        if b = true then te σ2 H3 fun y H4 => ∃ acc, H4 D = some (.lst acc) ∧ acc.length < sizeLine ∧ Nx (L2.upd H4 D (.lst (acc ++ [y]))) else Nx H3) := by
  have keep : ∀ {H : Hp} {o : HO}, Same H1 H → Same H1 (L2.upd H D o) := fun s a u e => by
    rw [upd_ne (ne_of_none e hD)]; exact s _ _ e
  refine lc_it w (fun i H => Same H1 H ∧ ∃ ys, H D = some (.lst ys) ∧ ys.length = i ∧ R i H ys) ⟨keep (Same.refl _), [], upd_same, rfl, r0⟩ (fun i H _ h => hG H h.1) (fun i x H H' hi ⟨s1, ys, h1, hl, hr⟩ hY => ?_) (fun H ⟨s1, ys, h1, hl, hr⟩ => hq H ys s1 h1 hl hr)
  refine gm _ _ _ _ _ (fun σ2 H2 ⟨s2, e2, kq⟩ => ⟨e2, ?_⟩) (hs i x H H' hi s1 (by rw [h1]; exact Option.some_ne_none _) hY)
  simp only [tYes, eq_self, ite_true]
  refine kq _ fun v H3 s3 st => ?_
  have s13 := Same.trans s2 s3
  have hD3 := s13 _ _ h1
  refine ⟨ys, hD3, ?_, keep (Same.trans s1 s13), ys ++ [v], upd_same, by rw [List.length_append, hl]; rfl, up _ _ _ _ _ hD3 (st ys (mono _ _ _ _ s13 hr))⟩
  rw [hl]
  exact Nat.lt_of_lt_of_le (Nat.lt_of_lt_of_le hi hn) (by decide)
theorem lc_lt2 {K : PySem.W.Frag} {a : Addr} {xs : List V} {g : TG} {te tl : TE} {vs : List Nat} {σ : L2.St} {H1 : Hp} {Q : VK} (hv : ∀ Q : VK, Q (.ref a) H1 → tl σ H1 Q) (h : SqL K H1 a xs ∨ SqT K H1 a xs) (R : Nat → Hp → List V → Prop) (hn : xs.length ≤ 1000000)
    (mono : ∀ i H H' ys, Same H H' → R i H ys → R i H' ys) (up : ∀ D i H ys zs o, H D = some (.lst zs) → R i H ys → R i (L2.upd H D o) ys) (r0 : ∀ H, R 0 H [])
    (hs : ∀ i x H, i < xs.length → Same H1 H → xs[i]? = some x → g x (wipe σ vs) H fun σ2 H2 => Same H H2 ∧ wipe σ2 vs = wipe σ vs ∧ ∀ Q2 : VK, (∀ v H3, Same H2 H3 → (∀ ys, R i H3 ys → R (i + 1) H3 (ys ++ [v])) → Q2 v H3) → te σ2 H2 Q2)
    (gm : ∀ x σ0 H0 Q0 Q1, (∀ σ2 H2, Q0 σ2 H2 → Q1 σ2 H2) → g x σ0 H0 Q0 → g x σ0 H0 Q1)
    (hq : ∀ D H' ys, Same H1 H' → H1 D = none → H' D = some (.lst ys) → ys.length = xs.length → R xs.length H' ys → Q (.ref D) H') : tLc (iLT K tl) g tYes te vs σ H1 Q := by
  have core : ∀ {J : L2.It} {G : Hp → Prop} (w : Walk J xs.length G (YAt xs)) (hG : ∀ H, Same H1 H → G H) (D : Addr) (hD : H1 D = none), _ := fun w hG D hD => lc_accD w (g := g) (te := te) (vs := vs) (σ := σ) (D := D) (Qd := fun H => Q (.ref D) H) R hD hn mono (up D) (r0 _) hG (fun i x H H' hi s n ⟨e, hx⟩ => by
    subst e
    exact hs i x _ hi s hx) gm fun H' ys s e l p => hq D H' ys s hD e l p
  rcases h with h | h
  · exact .inl (hv _ ⟨a, rfl, ⟨xs, h⟩, fun D hD => core walk_list (fun H s => s.seq h) D hD⟩)
  · exact .inr (hv _ ⟨a, rfl, ⟨xs, h⟩, fun D hD => core walk_tup (fun H s => Same.seqT s h) D hD⟩)
section
variable {P : Program} {w : World} {K : PySem.W.Frag} {mg : Str → Option Value} {base : Heap}
theorem ok__law_normal (T : Txt w K mg) (d : Nat) (d1 : 1 ≤ d) (d2 : d ≤ 2) : FnOk P w K mg base CX0 4 T.a__law_normal T.d__law_normal ["items"] (sp_norm K d) := by
  refine T.F__law_normal.ok sc__law_normal (fun vs H Q E h => ?_) (fun cdv A outer s H vs Q E hr h => ?_)
  · obtain ⟨a, xs, items, rfl, _⟩ := h
    rfl
  · obtain ⟨a, xs, items, rfl, ha, hi, fit, k⟩ := h
    have hr__law_plus : Room 3 _ := hr
    have G__law_plus := ok__law_plus (P := P) (base := base) T
    have lx := hi.len
    refine ⟨_, (pss_cons (ps_set (i := 1) sc__law_normal.nd rfl (Or.inl rfl) (pe_lstU pa_nil))
      (pss_cons (ps_for PassesOwn.never rfl (pi_list (pe_callB (cr_sortedT rfl) (by rfl) T.n_sorted (by decide +kernel) (pa_cons (pe_callTy (cr_setW rfl hr.units) (by rfl) T.n_set (by decide +kernel) (pa_cons (pe_lc (own := [("one", 4)]) (g := gName 4) (tt := tYes) rfl sc__law_normal.nd (pi_lt (pv 0)) (blkOk_by (own := [("one", 4)]) (N := N__law_normal) (sc := defScope s__law_normal) (by decide +kernel)) (fun _ _ _ _ _ => pg_name (i := 4) sc__law_normal.nd rfl (Or.inl rfl)) (fun _ _ _ _ _ => pts_nil) (fun _ _ _ _ _ => (pe_slice (sl_tupUK (K := K) rfl) (pv 4) po_none (po_some (pe_un un_neg pe_int))))) pa_nil)) pa_nil))) (pg_name (i := 2) sc__law_normal.nd rfl (Or.inl rfl)) (pss_cons (ps_set (i := 3) sc__law_normal.nd rfl (Or.inl rfl) (pe_tupU (pa_cons pe_int (pa_cons pe_int pa_nil))))
      (pss_cons (ps_for PassesOwn.never rfl (pi_lt (pv 0)) (pg_name (i := 4) sc__law_normal.nd rfl (Or.inl rfl)) (pss_one (ps_if (pt_cmpR (op_eqD hr.units) (pe_slice sl_tupU (pv 4) po_none (po_some (pe_un un_neg pe_int))) (pv 2) (nomark _)) (pss_one (ps_set (i := 3) sc__law_normal.nd rfl (Or.inl rfl) (pe_call G__law_plus hr__law_plus (by rfl) T.m__law_plus T.F__law_plus.kp T.B__law_plus .nil pass0 (pa_cons (pv 3) (pa_cons (pe_ix ix_tup (pv 4) (pe_un un_neg pe_int) (fun _ _ => rfl)) pa_nil))))) pss_nil)))
      (pss_one (ps_if (pt_cmpR op_neI (pe_ix ix_tup (pv 3) pe_int (fun _ _ => rfl)) pe_int (nomark _)) (pss_one (ps_expr (pe_bm PySem.F.plainAttrs_list PySem.F.slot_list_append PySem.F.type_list_append mt_append (pv 1) (pa_cons (pe_op op_catU (pv 2) (pe_tupU (pa_cons (pv 3) pa_nil))) pa_nil)))) pss_nil)))))
      (pss_one (ps_ret (pe_callTy call_tupleN (by rfl) T.n_tuple (by decide +kernel) (pa_cons (pv 1) pa_nil)))))), ?_⟩
    refine seq_op fun N hN => ?_
    walk_at "rs"
    refine ⟨by decide, fun p H1 s1 p0 p1 => hN _ _ ?_⟩
    clear hN N
    refine cut_seq (fun σ G => ∃ (x2 x3 x4 : Option V) (ys : List V) (its' : List It), σ = [some (.ref a), some (.ref p), x2, x3, x4] ∧ Same H G ∧ G p = some (.lst ys) ∧ Its K G ys its' ∧ Norm (accR items) its' ∧ its'.length < 64) (fun N hN => ?_) ?_
    · walk_at "rs"
      have cut1 : ∀ (ks : List Int) (u : Addr), ks.length = d → cutV (ks.map V.int ++ [V.ref u]) none (some (-1)) = ks.map V.int := fun ks u lk => by
        match ks, lk, d1, d2 with
        | [x], _, _, _ => rfl
        | [x, y], _, _, _ => rfl
        | [], h, _, _ => simp at h; omega
        | _ :: _ :: _ :: _, h, _, _ => simp at h; omega
      simp only [tFor, iList, tCB, tCons, tNil]
      refine lc_lt2 (K := K) (a := a) (xs := xs) (fun Q q => ⟨_, rfl, q⟩) (ha.imp s1.seq (Same.seqT s1)) (fun i H ys => ∃ L0 : List (Addr × List Int), ys = L0.map (fun q => V.ref q.1) ∧ (∀ q ∈ L0, SqT K H q.1 (q.2.map V.int)) ∧ L0.map (·.2) = (items.take i).map (·.1)) (by have := fit.len; omega) (fun i H H' ys s ⟨L0, e1, e2, e3⟩ => ⟨L0, e1, fun q hq => Same.seqT s (e2 q hq), e3⟩) (fun D i H ys zs o hp ⟨L0, e1, e2, e3⟩ => ⟨L0, e1, fun q hq => seqT_updO (notT_lst hp) (e2 q hq), e3⟩) (fun H => ⟨[], rfl, fun q hq => absurd hq (by simp), rfl⟩) (fun i x H2 hx s2 hxe => ?_) (gm_name 4) fun D H2 ys s2 D0 D1 ly ⟨L0, e1, e2, e3⟩ => ?_
      · obtain ⟨p2, u, ks, f, ex, ee, h1, h2⟩ := hi.get (n := i) (by omega)
        obtain rfl : x = .ref p2 := by rw [ex] at hxe; exact (Option.some.inj hxe).symm
        obtain ⟨_, _, lk, _⟩ := fit.it _ (List.mem_of_getElem? ee)
        refine ⟨Same.refl _, rfl, fun Q2 hq => ?_⟩
        walk_at "rs"
        refine ⟨_, Same.seqT (Same.trans s1 s2) h1, fun q3 H3 s3 hq3 => hq _ H3 s3 fun ys ⟨L0, e1, e2, e3⟩ => ⟨L0 ++ [(q3, ks)], by rw [e1, List.map_append]; rfl, fun q hqm => ?_, ?_⟩⟩
        · rw [cut1 ks u lk] at hq3
          rcases List.mem_append.mp hqm with hqm | hqm
          · exact e2 q hqm
          · rw [List.mem_singleton.mp hqm]; exact hq3
        · obtain ⟨hk, e⟩ := List.getElem?_eq_some_iff.mp ee
          rw [← List.take_append_getElem hk, e, List.map_append, List.map_append, e3]
          rfl
      · rw [lx, List.take_length] at e3
        have lL0 : L0.length = items.length := by
          have := congrArg List.length e3
          rw [List.length_map, List.length_map] at this
          exact this
        refine ⟨D, L0, rfl, SqL.of (by rw [← e1]; exact D1), e2, ?_, fun sa L sa0 sub all => ?_⟩
        · obtain ⟨S, hS, mS⟩ := fit.few
          refine ⟨S, hS, fun q hq => ?_⟩
          have : q.2 ∈ items.map (·.1) := by rw [← e3]; exact List.mem_map_of_mem hq
          obtain ⟨it, hit, e⟩ := List.mem_map.mp this
          rw [← e]; exact mS it hit
        · change rSortedT K P w [V.ref sa] (L2.upd H2 sa (SetTO P w sa L)) _
          have s2a : Same H2 (L2.upd H2 sa (SetTO P w sa L)) := same_upd sa0
          have spots : ∀ q ∈ L, SqT K (L2.upd H2 sa (SetTO P w sa L)) q.1 (q.2.map V.int) := fun q hq => Same.seqT s2a (e2 q (sub q hq))
          have bnd : ∀ q ∈ L, q.2.length = d ∧ TS.Bd 2000 q.2 := fun q hq => by
            have : q.2 ∈ items.map (·.1) := by rw [← e3]; exact List.mem_map_of_mem (sub q hq)
            obtain ⟨it, hit, e⟩ := List.mem_map.mp this
            obtain ⟨_, _, l, b⟩ := fit.it it hit
            rw [← e]; exact ⟨l, b⟩
          refine ⟨sa, L, d, 2000, rfl, upd_same, spots, d1, bnd, fun L' sp pm nd few pw sp0 => ?_⟩
          have sA : Same (L2.upd H2 sa (SetTO P w sa L)) (L2.upd (L2.upd H2 sa (SetTO P w sa L)) sp (.lst (L'.map fun q => V.ref q.1))) := same_upd sp0
          have hsp : (L2.upd (L2.upd H2 sa (SetTO P w sa L)) sp (.lst (L'.map fun q => V.ref q.1))) sp = some (.lst (L'.map fun q => V.ref q.1)) := upd_same
          have spots' : ∀ q ∈ L', SqT K (L2.upd (L2.upd H2 sa (SetTO P w sa L)) sp (.lst (L'.map fun q => V.ref q.1))) q.1 (q.2.map V.int) := fun q hq => Same.seqT sA (spots q (pm.mem_iff.mp hq))
          have sH : Same H (L2.upd (L2.upd H2 sa (SetTO P w sa L)) sp (.lst (L'.map fun q => V.ref q.1))) := Same.trans s1 (Same.trans s2 (Same.trans s2a sA))
          have pG := Same.trans s2 (Same.trans s2a sA) _ _ p1
          have psp : p ≠ sp := fun e => by
            have := Same.trans s2 s2a _ _ p1
            rw [e, sp0] at this; cases this
          generalize L2.upd (L2.upd H2 sa (SetTO P w sa L)) sp (.lst (L'.map fun q => V.ref q.1)) = G0 at *
          have all' : ∀ it ∈ items, it.1 ∈ L'.map (·.2) := fun it hit => by
            have : it.1 ∈ L0.map (·.2) := by rw [e3]; exact List.mem_map_of_mem hit
            obtain ⟨q, hq, e⟩ := List.mem_map.mp this
            have := all q hq
            rw [e] at this
            exact (pm.map (·.2)).mem_iff.mpr this
          have srt : (L'.map (·.2)).Pairwise fun a b => cd a < cd b := by
            have pw2 : (L'.map (·.2)).Pairwise fun a b => cd a ≤ cd b := List.pairwise_map.mpr pw
            refine (pw2.and nd).imp_of_mem fun {x y} hx hy h => ?_
            refine Int.lt_iff_le_and_ne.mpr ⟨h.1, fun e => h.2 ?_⟩
            obtain ⟨qx, hqx, rfl⟩ := List.mem_map.mp hx
            obtain ⟨qy, hqy, rfl⟩ := List.mem_map.mp hy
            obtain ⟨l1, b1⟩ := bnd qx (pm.mem_iff.mp hqx)
            obtain ⟨l2, b2⟩ := bnd qy (pm.mem_iff.mp hqy)
            have o : ∀ z : Int, cd [z] = z := fun z => by
              show z * 2000 ^ 0 + 0 = z
              omega
            generalize qx.2 = x at *
            generalize qy.2 = y at *
            match x, y, l1, l2, b1, b2, e, d1, d2 with
            | [u], [v], _, _, _, _, e, _, _ => rw [o, o] at e; rw [e]
            | [_, _], [_, _], _, _, b1, b2, e, _, _ => exact cd_inj b1 b2 e
            | [], _, h, _, _, _, _, _, _ => simp at h; omega
            | _ :: _ :: _ :: _, _, h, _, _, _, _, _, _ => simp at h; omega
            | [_], [], _, h, _, _, _, _, _ => simp at h; omega
            | [_], _ :: _ :: _, h, h2, _, _, _, _, _ => simp at h h2; omega
            | [_, _], [], _, h, _, _, _, _, _ => simp at h; omega
            | [_, _], [_], h, h2, _, _, _, _, _ => simp at h h2; omega
            | [_, _], _ :: _ :: _ :: _, _, h, _, _, _, _, _ => simp at h; omega
          have hl : ∀ it ∈ items, low it.2 := fun it hit => (fit.it it hit).1
          have nm := norm_of (items := items) hl srt all'
          refine ⟨sp, rfl, ⟨_, SqL.of hsp⟩, for_list (D := { nx := N, rt := Q }) (K := K) (a := sp) (xs := L'.map fun q => V.ref q.1) (fun i σ G => ∃ (x2 x3 x4 : Option V) (ys : List V), σ = [some (.ref a), some (.ref p), x2, x3, x4] ∧ Same H G ∧ (∀ q ∈ L', SqT K G q.1 (q.2.map V.int)) ∧ G sp = some (.lst (L'.map fun q => V.ref q.1)) ∧ G p = some (.lst ys) ∧ Its K G ys ((((L'.map fun q : Addr × List Int => q.2).take i).filter fun k => decide (accF items k ≠ (0, 1))).map fun k => (k, accF items k))) ⟨_, _, _, [], rfl, sH, spots', hsp, pG, .nil⟩ (fun i σ G _ ⟨_, _, _, _, _, _, _, h, _⟩ => SqL.of h) ?_ ?_⟩
          · rintro i x σ G hx ⟨x2, x3, x4, ys, rfl, sG, sq, hs, hp, hits⟩
            have hi9 : i < L'.length := by
              have := (List.getElem?_eq_some_iff.mp hx).1
              rw [List.length_map] at this
              exact this
            have eq : L'[i]? = some L'[i] := List.getElem?_eq_getElem hi9
            obtain rfl : x = .ref L'[i].1 := by
              rw [List.getElem?_map, eq] at hx
              exact (Option.some.inj hx).symm
            have et : (L'.map fun q : Addr × List Int => q.2).take (i + 1) = (L'.map fun q : Addr × List Int => q.2).take i ++ [L'[i].2] := by
              obtain ⟨hk, e⟩ := List.getElem?_eq_some_iff.mp (show (L'.map fun q : Addr × List Int => q.2)[i]? = some L'[i].2 by rw [List.getElem?_map, eq]; rfl)
              rw [← List.take_append_getElem hk, e]
            have mq : L'[i] ∈ L' := List.getElem_mem hi9
            have hq1 := sq _ mq
            obtain ⟨lc, bc⟩ := bnd _ (pm.mem_iff.mp mq)
            generalize L'[i] = q at *
            obtain ⟨qa, c⟩ := q
            dsimp only at hq1 lc bc et
            show tSeq _ _ _ [some (V.ref a), some (V.ref p), some (V.ref qa), x3, x4] G
            refine seq_op fun N1 hN1 => ?_
            walk_at "rs"
            refine ⟨by decide, fun t0 G1 s3 n0 t01 => hN1 _ _ ?_⟩
            clear hN1 N1
            refine cut_seq (fun σ G2 => ∃ (tt : Addr) (x4 : Option V), σ = [some (.ref a), some (.ref p), some (.ref qa), some (.ref tt), x4] ∧ Same G1 G2 ∧ Pr K G2 tt (accF items c).1 (accF items c).2) (fun N1 hN1 => ?_) ?_
            · refine for_lt (K := K) (a := a) (xs := xs) (fun Q q => ⟨_, rfl, q⟩) (ha.imp (Same.trans sG s3).seq (Same.seqT (Same.trans sG s3))) (fun j σ G2 => ∃ (tt : Addr) (x4 : Option V), σ = [some (.ref a), some (.ref p), some (.ref qa), some (.ref tt), x4] ∧ Same G1 G2 ∧ Pr K G2 tt (accF (items.take j) c).1 (accF (items.take j) c).2) ⟨t0, _, rfl, Same.refl _, .inl (.inl t01)⟩ (fun j σ G2 ⟨_, _, _, h, _⟩ => h) ?_ ?_
              · rintro j x σ G2 hxj ⟨tt, x4, rfl, s4, ptt⟩
                obtain ⟨p2, u, ks, f, ex, ee, h1, h2⟩ := hi.get (n := j) (by rw [← lx]; exact (List.getElem?_eq_some_iff.mp hxj).1)
                obtain rfl : x = .ref p2 := by rw [ex] at hxj; exact (Option.some.inj hxj).symm
                obtain ⟨lf, wf, lk, _⟩ := fit.it _ (List.mem_of_getElem? ee)
                dsimp only at lf wf lk
                have sH2 := Same.trans sG (Same.trans s3 s4)
                have es : items.take (j + 1) = items.take j ++ [(ks, f)] := by
                  obtain ⟨hk, e⟩ := List.getElem?_eq_some_iff.mp ee
                  rw [← List.take_append_getElem hk, e]
                show tIfS _ _ _ _ [some (V.ref a), some (V.ref p), some (V.ref qa), some (V.ref tt), some (V.ref p2)] G2
                walk_at "rs"
                refine ⟨_, Same.seqT sH2 h1, fun q3 G3 s5 hq3 => ?_⟩
                rw [cut1 ks u lk] at hq3
                have s35 := Same.trans s3 (Same.trans s4 s5)
                refine ⟨_, _, .tup hq3 (dp_ints ks), .tup (Same.seqT s35 hq1) (dp_ints c), sh_ints ks (by omega) (by omega), sh_ints c (by omega) (by omega), _, rfl, ?_⟩
                rw [eqv_ints, es, accF_snoc]
                by_cases z : ks = c
                · rw [decide_eq_true z, if_pos rfl, if_pos z]
                  obtain ⟨la, _, wa⟩ := accF_spec (items := items.take j) (fun it hit => (fit.it it (List.mem_of_mem_take hit)).1) c
                  have wb : wt (accF (items.take j) c) ≤ 3900 := Nat.le_trans wa (Nat.le_trans (wtS_take items j c) (fit.wt c))
                  exact ⟨_, Same.seqT (Same.trans sH2 s5) h1, _, at_last ks u (by omega) (by omega), tt, u, _, f, rfl, Same.seqT s5 ptt, Same.seqT (Same.trans sH2 s5) h2, la, lf, by omega, by omega, fun t5 H6 s6 n6 t6 => ⟨t5, _, ⟨rfl, rfl⟩, Same.trans s4 (Same.trans s5 s6), .inl (.inl t6)⟩⟩
                · rw [decide_eq_false z, if_neg (by simp), if_neg z]
                  exact ⟨tt, _, ⟨rfl, rfl⟩, Same.trans s4 s5, Same.seqT s5 ptt⟩
              · rintro σ G2 ⟨tt, x4, rfl, s4, ptt⟩
                rw [lx, List.take_length] at ptt
                exact hN1 _ _ ⟨tt, _, rfl, s4, ptt⟩
            · rintro σ G2 ⟨tt, x4, rfl, s4, ptt⟩
              walk_at "rs"
              have s34 := Same.trans s3 s4
              have sG2 := Same.trans sG s34
              have lowc := (accF_spec hl c).1
              refine ⟨_, ptt, _, rfl, _, rfl, ite2 (fun n9 => ?_) (fun n9 => ?_)⟩
              · have hp2 := s34 _ _ hp
                have nz : accF items c ≠ (0, 1) := fun z => n9 (by rw [z])
                refine ⟨.inl ⟨rfl, _, SqL.of hp2⟩, by decide, fun p5 H5 s5 n5 t5 => ⟨_, Same.seqT (Same.trans s34 s5) hq1, _, .inl (.inl t5), Nat.le_trans (show _ ≤ 10 by rw [List.length_map]; simp only [List.length_cons, List.length_nil]; omega) (by decide), fun q6 H6 s6 hq6 => ?_⟩⟩
                have s36 := Same.trans s34 (Same.trans s5 s6)
                have hp6 := s36 _ _ hp
                have nt6 := notT_lst hp6
                refine ⟨ys, hp6, ?_, _, _, _, ⟨rfl, rfl, rfl⟩, ?_, fun q hq => seqT_updO nt6 (Same.seqT s36 (sq q hq)), ?_, _, upd_same, ?_⟩
                · have := hits.len
                  rw [List.length_map] at this
                  rw [this]
                  refine Nat.lt_of_le_of_lt (List.length_filter_le _ _) (Nat.lt_of_le_of_lt (show _ ≤ 64 by rw [List.length_take, List.length_map]; omega) (by decide))
                · intro b o e
                  have ne : b ≠ p := fun z => by rw [z, p0] at e; cases e
                  rw [upd_ne ne]
                  exact Same.trans sG s36 _ _ e
                · rw [upd_ne (Ne.symm psp)]
                  exact s36 _ _ hs
                · rw [et, List.filter_append, List.map_append]
                  refine ((hits.same s36).updO nt6).app ?_
                  simp only [List.filter_cons, decide_eq_true (p := accF items c ≠ (0, 1)) nz, List.filter_nil, if_true, List.map_cons, List.map_nil]
                  exact .cons (seqT_updO nt6 hq6) (seqT_updO nt6 (Same.seqT (Same.trans s5 s6) ptt)) .nil
              · have z : accF items c = (0, 1) := (low_null lowc).mp (Classical.not_not.mp n9)
                refine ⟨_, _, _, ⟨rfl, rfl, rfl⟩, sG2, fun q hq => Same.seqT s34 (sq q hq), s34 _ _ hs, ys, s34 _ _ hp, ?_⟩
                rw [et, List.filter_append, List.map_append]
                have : decide (accF items c ≠ (0, 1)) = false := decide_eq_false fun n => n z
                simp only [List.filter_cons, this, List.filter_nil, List.map_nil, List.append_nil]
                simpa using hits.same s34
          · rintro σ G ⟨x2, x3, x4, ys, rfl, sG, sq, hs, hp, hits⟩
            rw [List.length_map, show L'.length = (L'.map fun q : Addr × List Int => q.2).length from (List.length_map ..).symm, List.take_length] at hits
            refine hN _ _ ⟨_, _, _, ys, _, rfl, sG, hp, hits, nm, ?_⟩
            rw [List.length_map]
            exact Nat.lt_of_le_of_lt (List.length_filter_le _ _) (by rw [List.length_map]; omega)
    · rintro σ G ⟨x2, x3, x4, ys, its', rfl, sG, hp, hi', nm, l64⟩
      walk_at "rs"
      exact ⟨ys, SqL.of hp, fun t H3 s3 t0 t1 => k t ys its' H3 (Same.trans sG s3) (.inl (.inl t1)) (hi'.same s3) nm l64⟩
end
end LK

set_option Elab.async false
set_option linter.all false
set_option maxRecDepth 100000
namespace LK
open PySem PySem.Spec PyProof.Rows L2
local macro_rules | `(tactic| walk_at "rs") => `(tactic| simp only [tFld, sFld, tMeth, tMethZ, tMakeK, tMakeS, tMethS, tEf, tProp, tFmt, rEqO, rNeO, cxK, cxNK, tCallZ, tAsg, tOp, rI0, rS0, rB0, rI, rU, tUn, rEq, rNe, rIxL, rIxT, rIxS, rSetL, rSlLU, rSlS, rSlU, rCatL, rCatU, rRepL, rIn, tVar, tC, gName, gSub, tIfS, tTest, tB, tAnd, tOr, tNot, tNotV, tAndV, tOrV, tIf, tCall, tCons, tNil, tCB, tDrop, tRet, tRetN, tNext, tLstU, tTupU, tM0, tM1, tPar, tPar3, tAug, ipI, tBM, tBM0, rAppend, rPop, tBreak, sDPut, tDGet, tDGet2, tCont, tChain, tSl, tPart, tNoPart, L2.start, List.map, List.length_cons, List.length_nil, List.replicate, List.cons_append, List.nil_append, List.append_nil, List.getElem?_cons_zero, List.getElem?_cons_succ, List.set_cons_zero, List.set_cons_succ, Option.some.injEq, V.int.injEq, V.ref.injEq, V.str.injEq, V.bl.injEq, exists_eq_left', exists_eq_left, exists_and_left, decide_eq_true_eq, List.cons.injEq, and_true, true_and, scal, Bool.not_eq_true', decide_eq_false_iff_not, Nat.zero_add, Nat.reduceAdd, Nat.reduceSub, reduceCtorEq, false_and, exists_false, false_or, or_false, CPow, CPowW, CMul, CDiv, Int.reduceToNat, ↓reduceIte, wipe, sw, List.nil_append, List.singleton_append])
local macro_rules | `(tactic| walk_at "st") => `(tactic| (refine seq_op fun N hN => ?_; walk_at "rs"))
local macro_rules | `(tactic| walk_at "sd") => `(tactic| first | assumption | decide | omega)
local macro_rules | `(tactic| walk_at "rd") => `(tactic| repeat (first
  | refine ⟨_, SqL.of (by assumption), ?_⟩ | refine ⟨_, SqL.of upd_same, ?_⟩ | refine ⟨_, .inl (SqL.of (by assumption)), ?_⟩ | refine ⟨_, (by assumption : _ = some (HO.lst _)), ?_⟩ | refine ⟨_, upd_same, ?_⟩
  | refine ⟨_, rfl, ?_⟩ | refine And.intro (by walk_at "sd") ?_))

/-! ### what the law knows of its lists -/
theorem wtS_cons (x : It) (b : List It) (k : List Int) : wtS (x :: b) k = (if x.1 = k then wt x.2 + 1 else 0) + wtS b k := by
  have h := wtS_app [x] b k
  have e : wtS [x] k = 1 + (if x.1 = k then wt x.2 + 1 else 0) := by
    unfold wtS
    simp only [List.foldl_cons, List.foldl_nil]
    split <;> rfl
  rw [e] at h
  rw [show x :: b = [x] ++ b from rfl]
  omega
theorem wtS_perm {a b : List It} (h : a.Perm b) (k : List Int) : wtS a k = wtS b k := by
  induction h with
  | nil => rfl
  | cons x _ ih => rw [wtS_cons, wtS_cons, ih]
  | swap x y l => rw [wtS_cons, wtS_cons, wtS_cons, wtS_cons]; omega
  | trans _ _ ih1 ih2 => exact ih1.trans ih2
theorem wtS_none {k : List Int} : ∀ {l : List It}, (∀ x ∈ l, x.1 ≠ k) → wtS l k = 1
  | [], _ => rfl
  | a :: l, h => by
    rw [wtS_cons, if_neg (h a List.mem_cons_self), wtS_none fun x hx => h x (List.mem_cons_of_mem _ hx)]
theorem wtS_srt {k : List Int} {B : Nat} : ∀ {l : List It}, (l.Pairwise fun a b => cd a.1 < cd b.1) → (∀ x ∈ l, x.1 = k → wt x.2 ≤ B) → wtS l k ≤ B + 2
  | [], _, _ => by show 1 ≤ _; omega
  | a :: l, hs, h => by
    rw [List.pairwise_cons] at hs
    rw [wtS_cons]
    by_cases e : a.1 = k
    · have z : ∀ x ∈ l, x.1 ≠ k := fun x hx e2 => by
        have := hs.1 x hx
        rw [e, e2] at this
        omega
      rw [if_pos e, wtS_none z]
      have := h a List.mem_cons_self e
      omega
    · rw [if_neg e]
      have := wtS_srt (k := k) hs.2 fun x hx => h x (List.mem_cons_of_mem _ hx)
      omega
theorem wtS_map {f : Fr → Fr} {k : List Int} : ∀ {l : List It}, (∀ x ∈ l, wt (f x.2) ≤ wt x.2) → wtS (l.map fun x => (x.1, f x.2)) k ≤ wtS l k
  | [], _ => Nat.le_refl _
  | a :: l, h => by
    rw [List.map_cons, wtS_cons, wtS_cons]
    have h1 := h a List.mem_cons_self
    have h2 := wtS_map (k := k) (l := l) fun x hx => h x (List.mem_cons_of_mem _ hx)
    dsimp only
    split <;> omega
theorem Few.of {n : Nat} {a b : List It} (h : Few n a) (e : ∀ x ∈ b, ∃ y ∈ a, y.1 = x.1) : Few n b := by
  obtain ⟨S, h1, h2⟩ := h
  refine ⟨S, h1, fun x hx => ?_⟩
  obtain ⟨y, hy, e⟩ := e x hx
  rw [← e]; exact h2 y hy
theorem Norm.spot {its l : List It} (h : Norm (accR its) l) : ∀ x ∈ l, ∃ y ∈ its, y.1 = x.1 := fun x hx => by
  obtain ⟨a, b, c⟩ := h.it x hx
  refine Classical.byContradiction fun n => b ((rt_null a).mp (c.trans (accF_none fun it hit e => n ⟨it, hit, e⟩).2))
structure Ft (d n m l : Nat) (its : List It) : Prop where
  it : ∀ x ∈ its, low x.2 ∧ wt x.2 ≤ 3900 ∧ x.1.length = d ∧ TS.Bd 2000 x.1
  wt : ∀ k, wtS its k ≤ m
  few : Few n its
  len : its.length ≤ l
theorem Ft.fit {d n m l : Nat} {its : List It} (h : Ft d n m l its) (hn : n ≤ 62) (hm : m ≤ 3900) (hl : l ≤ 1000) : Fit d its := by
  obtain ⟨S, h1, h2⟩ := h.few
  exact ⟨h.it, fun k => Nat.le_trans (h.wt k) hm, ⟨S, by omega, h2⟩, Nat.le_trans h.len hl⟩
theorem Ft.of {d n m l n' m' l' : Nat} {its : List It} (h : Ft d n m l its) (hn : n ≤ n') (hm : m ≤ m') (hl : l ≤ l') : Ft d n' m' l' its := ⟨h.it, fun k => Nat.le_trans (h.wt k) hm, h.few.le hn, Nat.le_trans h.len hl⟩
theorem Ft.app {d n m l n' m' l' : Nat} {a b : List It} (h : Ft d n m l a) (g : Ft d n' m' l' b) : Ft d (n + n') (m + m') (l + l') (a ++ b) := by
  refine ⟨fun x hx => (List.mem_append.mp hx).elim (h.it x) (g.it x), fun k => ?_, h.few.app g.few, by rw [List.length_append]; exact Nat.add_le_add h.len g.len⟩
  have := wtS_app a b k
  have := h.wt k
  have := g.wt k
  omega
/-- with the same spots -/
theorem Ft.app2 {d n m l n' m' l' : Nat} {a b : List It} (h : Ft d n m l a) (g : Ft d n' m' l' b) (e : ∀ x ∈ b, ∃ y ∈ a, y.1 = x.1) : Ft d n (m + m') (l + l') (a ++ b) := by
  obtain ⟨h1, h2, _, h4⟩ := h.app g
  refine ⟨h1, h2, h.few.of fun x hx => ?_, h4⟩
  rcases List.mem_append.mp hx with hx | hx
  · exact ⟨x, hx, rfl⟩
  · exact e x hx
theorem Ft.perm {d n m l : Nat} {a b : List It} (h : Ft d n m l a) (p : b.Perm a) : Ft d n m l b :=
  ⟨fun x hx => h.it x (p.mem_iff.mp hx), fun k => by rw [wtS_perm p]; exact h.wt k, h.few.of fun x hx => ⟨x, p.mem_iff.mp hx, rfl⟩, by rw [p.length_eq]; exact h.len⟩
theorem Ft.map {d n m l : Nat} {a : List It} (h : Ft d n m l a) {f : Fr → Fr} (hf : ∀ x ∈ a, low (f x.2) ∧ LK.wt (f x.2) ≤ LK.wt x.2) : Ft d n m l (a.map fun x => (x.1, f x.2)) := by
  refine ⟨fun x hx => ?_, fun k => Nat.le_trans (wtS_map fun x hx => (hf x hx).2) (h.wt k), h.few.of fun x hx => ?_, by rw [List.length_map]; exact h.len⟩
  · obtain ⟨y, hy, rfl⟩ := List.mem_map.mp hx
    obtain ⟨a1, a2, a3, a4⟩ := h.it y hy
    obtain ⟨b1, b2⟩ := hf y hy
    exact ⟨b1, Nat.le_trans b2 a2, a3, a4⟩
  · obtain ⟨y, hy, rfl⟩ := List.mem_map.mp hx
    exact ⟨y, hy, rfl⟩
theorem Ft.norm {d n m l : Nat} {its nf : List It} (h : Ft d n m l its) (hm : m ≤ 3900) (nm : Norm (accR its) nf) (l64 : nf.length < 64) : Ft d n (m + 2) 63 nf := by
  have hl : ∀ it ∈ its, low it.2 := fun x hx => (h.it x hx).1
  have e : ∀ x ∈ nf, LK.wt x.2 ≤ m := fun x hx => by
    obtain ⟨a1, a2, a3⟩ := nm.it x hx
    obtain ⟨b1, b2, b3⟩ := accF_spec hl x.1
    rw [rt_eq a1 b1 (a3.trans b2.symm)]
    exact Nat.le_trans b3 (h.wt x.1)
  refine ⟨fun x hx => ?_, fun k => wtS_srt nm.srt fun x hx _ => e x hx, h.few.of nm.spot, by omega⟩
  obtain ⟨y, hy, es⟩ := nm.spot x hx
  obtain ⟨_, _, y3, y4⟩ := h.it y hy
  rw [es] at y3 y4
  exact ⟨(nm.it x hx).1, Nat.le_trans (e x hx) hm, y3, y4⟩
theorem IG.ft {d n l : Nat} {wd : Int} {its : List It} (h : IG d wd its) (hw : wd ≤ 2000) (f : Few n its) (hl : its.length ≤ l) : Ft d n (l * 61 + 1) l its := by
  refine ⟨fun x hx => ?_, fun k => ?_, f, hl⟩
  · obtain ⟨o, l1, b⟩ := h.it x hx
    exact ⟨⟨o.1, o.2.1⟩, Nat.le_trans (wt_okB o) (by decide), l1, fun m hm => ⟨(b m hm).1, by have := (b m hm).2; omega⟩⟩
  · have := wtS_le (B := 60) k (l := its) fun x hx => wt_okB (h.it x hx).1
    have : its.length * 61 ≤ l * 61 := Nat.mul_le_mul_right _ hl
    omega
theorem wt_light {f : Fr} (h : okB 2000 97 f) : wt f ≤ 11 := wt_le (by decide) (Nat.lt_of_le_of_lt h.2.2.1 (by decide)) (Nat.lt_of_le_of_lt h.2.2.2 (by decide))
theorem wt_zero : wt (0, 1) = 1 := by decide
theorem wt_neg (f : Fr) : wt (-f.1, f.2) = wt f := by
  unfold wt
  dsimp only
  rw [Int.natAbs_neg]
/-! data of items -/
theorem okAll_ints : ∀ k : List Int, okAll (k.map PyData.int) = true
  | [] => rfl
  | i :: k => by
    show (okD (.int i) && okAll _) = true
    rw [okAll_ints k]
    rfl
theorem okAll_app : ∀ {a b : List PyData}, okAll a = true → okAll b = true → okAll (a ++ b) = true
  | [], _, _, h => h
  | d :: a, b, h, g => by
    unfold okAll at h
    rw [Bool.and_eq_true] at h
    show (okD d && okAll (a ++ b)) = true
    rw [h.1, okAll_app h.2 g]
    rfl
theorem depAll_ints : ∀ k : List Int, depAll (k.map PyData.int) = 0
  | [] => rfl
  | i :: k => by
    show max 0 (depAll _) = 0
    rw [depAll_ints k]
    rfl
theorem depAll_app : ∀ (a b : List PyData), depAll (a ++ b) = max (depAll a) (depAll b)
  | [], b => by show depAll b = max 0 (depAll b); rw [Nat.zero_max]
  | d :: a, b => by
    show max (dep d) (depAll (a ++ b)) = max (max (dep d) (depAll a)) (depAll b)
    rw [depAll_app a b, Nat.max_assoc]
theorem dIt_ok {it : It} (h : it.1.length ≤ 1000) : okD (dIt it) = true ∧ dep (dIt it) ≤ 2 := by
  constructor
  · refine okD_tup.mpr ⟨by rw [List.length_append, List.length_map]; simp only [List.length_cons, List.length_nil]; omega, okAll_app (okAll_ints _) rfl⟩
  · unfold dIt
    rw [dep_tup, depAll_app, depAll_ints]
    show max 0 (max (max 0 (max 0 0) + 1) 0) + 1 ≤ 2
    decide
theorem dIts_ok : ∀ {its : List It}, (∀ x ∈ its, x.1.length ≤ 1000) → okAll (its.map dIt) = true ∧ depAll (its.map dIt) ≤ 2
  | [], _ => ⟨rfl, by decide⟩
  | a :: its, h => by
    obtain ⟨h1, h2⟩ := dIt_ok (h a List.mem_cons_self)
    obtain ⟨g1, g2⟩ := dIts_ok (its := its) fun x hx => h x (List.mem_cons_of_mem _ hx)
    constructor
    · show (okD _ && okAll _) = true
      rw [h1, g1]
      rfl
    · show max _ _ ≤ 2
      omega
def OkIts (its : List It) : Prop := its.length ≤ 100000 ∧ ∀ x ∈ its, x.1.length ≤ 1000
theorem Ft.ok {d n m l : Nat} {its : List It} (h : Ft d n m l its) (d2 : d ≤ 2) (hl : l ≤ 1000) : OkIts its := ⟨Nat.le_trans h.len (Nat.le_trans hl (by decide)), fun x hx => by have := (h.it x hx).2.2.1; omega⟩
section
variable {K : PySem.W.Frag} {H : Hp} {b c : Addr} {d N : Nat} {R : List Int → Rat} {dit its : List It} {Q : VK}
theorem like_atT {t u : Addr} {ys zs : List V} (o : OkIts its) (h1 : SqT K H t ys) (i1 : Its K H ys its) (h2 : SqT K H u zs) (i2 : Its K H zs its) (q : ∀ H', Same H H' → Q (.bl true) H') : sp__law_like K 3 [.ref t, .ref u] H Q E0 := by
  obtain ⟨o1, o2⟩ := dIts_ok o.2
  exact ⟨.ref t, .ref u, .tuple (its.map dIt), rfl, .tup h1 i1.dp, .tup h2 i2.dp, okD_tup.mpr ⟨by rw [List.length_map]; exact o.1, o1⟩, by rw [dep_tup]; omega, q⟩
theorem like_atL {t u : Addr} {ys zs : List V} (o : OkIts its) (h1 : SqL K H t ys) (i1 : Its K H ys its) (h2 : SqL K H u zs) (i2 : Its K H zs its) (q : ∀ H', Same H H' → Q (.bl true) H') : sp__law_like K 3 [.ref t, .ref u] H Q E0 := by
  obtain ⟨o1, o2⟩ := dIts_ok o.2
  exact ⟨.ref t, .ref u, .list (its.map dIt), rfl, .lst h1 i1.dp, .lst h2 i2.dp, okD_lst.mpr ⟨by rw [List.length_map]; exact o.1, o1⟩, by rw [dep_lst]; omega, q⟩
end
end LK

set_option Elab.async false
set_option linter.all false
set_option maxRecDepth 100000
namespace LK
open PySem PySem.Spec PyProof.Rows L2
local macro_rules | `(tactic| walk_at "rs") => `(tactic| simp only [tFld, sFld, tMeth, tMethZ, tMakeK, tMakeS, tMethS, tEf, tProp, tFmt, rEqO, rNeO, cxK, cxNK, tCallZ, tAsg, tOp, rI0, rS0, rB0, rI, rU, tUn, rEq, rNe, rIxL, rIxT, rIxS, rSetL, rSlLU, rSlS, rSlU, rCatL, rCatU, rRepL, rIn, tVar, tC, gName, gSub, tIfS, tTest, tB, tAnd, tOr, tNot, tNotV, tAndV, tOrV, tIf, tCall, tCons, tNil, tCB, tDrop, tRet, tRetN, tNext, tLstU, tTupU, tM0, tM1, tPar, tPar3, tAug, ipI, tBM, tBM0, rAppend, rPop, tBreak, sDPut, tDGet, tDGet2, tCont, tChain, tSl, tPart, tNoPart, L2.start, List.map, List.length_cons, List.length_nil, List.replicate, List.cons_append, List.nil_append, List.append_nil, List.getElem?_cons_zero, List.getElem?_cons_succ, List.set_cons_zero, List.set_cons_succ, Option.some.injEq, V.int.injEq, V.ref.injEq, V.str.injEq, V.bl.injEq, exists_eq_left', exists_eq_left, exists_and_left, decide_eq_true_eq, List.cons.injEq, and_true, true_and, scal, Bool.not_eq_true', decide_eq_false_iff_not, Nat.zero_add, Nat.reduceAdd, Nat.reduceSub, reduceCtorEq, false_and, exists_false, false_or, or_false, CPow, CPowW, CMul, CDiv, Int.reduceToNat, ↓reduceIte, wipe, sw, List.nil_append, List.singleton_append])
local macro_rules | `(tactic| walk_at "st") => `(tactic| (refine seq_op fun N hN => ?_; walk_at "rs"))
local macro_rules | `(tactic| walk_at "sd") => `(tactic| first | assumption | decide | omega)
local macro_rules | `(tactic| walk_at "rd") => `(tactic| repeat (first
  | refine ⟨_, SqL.of (by assumption), ?_⟩ | refine ⟨_, SqL.of upd_same, ?_⟩ | refine ⟨_, .inl (SqL.of (by assumption)), ?_⟩ | refine ⟨_, (by assumption : _ = some (HO.lst _)), ?_⟩ | refine ⟨_, upd_same, ?_⟩
  | refine ⟨_, rfl, ?_⟩ | refine And.intro (by walk_at "sd") ?_))

/-! ### all but the lists stays -/
def Tk (H H' : Hp) : Prop := ∀ a o, H a = some o → (∀ xs, o ≠ .lst xs) → H' a = some o
section
variable {K : PySem.W.Frag} {H H1 H' : Hp} {N : Nat} {b c : Addr}
theorem Tk.of (s : Same H H') : Tk H H' := fun a o e _ => s _ _ e
theorem Tk.refl : Tk H H := Tk.of (Same.refl _)
theorem Tk.trans (h : Tk H H1) (g : Tk H1 H') : Tk H H' := fun a o e n => g _ _ (h _ _ e n) n
theorem Tk.upd {p : Addr} {xs : List V} {o : HO} (h : H p = some (.lst xs)) : Tk H (L2.upd H p o) := fun a u e n => by
  rw [upd_ne fun z => ?_]; exact e
  subst z; rw [h] at e; exact n xs (Option.some.inj e).symm
theorem Tk.hb (B : Bag N H b c) : Tk H (LK.hb H b) := fun a o e n => by
  obtain ⟨xs, q⟩ := B.at
  rw [hb_ne fun z => ?_]; exact e
  subst z; rw [q] at e; exact n xs (Option.some.inj e).symm
theorem Tk.kp (B : Bag N H b c) (k : Kp b H H') : Tk H H' := (Tk.hb B).trans ((Tk.of k).trans (Tk.of (hb_le H' b)))
theorem seqT_tk (h : Tk H H') {a : Addr} {xs : List V} (q : SqT K H a xs) : SqT K H' a xs := by
  rcases q with (q | ⟨o, q⟩) | q
  · exact .inl (.inl (h _ _ q fun xs z => by cases z))
  · exact .inl (.inr ⟨o, h _ _ q fun xs z => by cases z⟩)
  · exact .inr q
theorem Its.tk (s : Tk H H') : ∀ {xs : List V} {its : List It}, Its K H xs its → Its K H' xs its
  | _, _, .nil => .nil
  | _, _, .cons h h2 q => .cons (seqT_tk s h) (seqT_tk s h2) (q.tk s)
end
mutual
def tdD : PyData → Bool
  | .list _ => false | .dict _ => false | .tuple ds => tdAll ds | .none => true | .bool _ => true | .int _ => true | .str _ => true
def tdAll : List PyData → Bool
  | [] => true
  | d :: ds => tdD d && tdAll ds
end
mutual
theorem dp_tk {K : PySem.W.Frag} {H H' : Hp} (e : Tk H H') : ∀ {d : PyData} {v : V}, tdD d = true → Dp K H v d → Dp K H' v d
  | .none, _, _, h => by cases h; exact .non
  | .bool _, _, _, h => by cases h; exact .bl _
  | .int _, _, _, h => by cases h; exact .int _
  | .str _, _, _, h => by cases h; exact .str _
  | .list ds, _, t, h => by unfold tdD at t; cases t
  | .tuple ds, _, t, h => by cases h with | tup a b => exact .tup (seqT_tk e a) (dpa_tk e (by unfold tdD at t; exact t) b)
  | .dict _, _, _, h => by cases h
theorem dpa_tk {K : PySem.W.Frag} {H H' : Hp} (e : Tk H H') : ∀ {ds : List PyData} {vs : List V}, tdAll ds = true → DpAll K H vs ds → DpAll K H' vs ds
  | [], _, _, h => by cases h; exact .nil
  | _ :: _, _, t, h => by
    unfold tdAll at t
    rw [Bool.and_eq_true] at t
    cases h with | cons a b => exact .cons (dp_tk e t.1 a) (dpa_tk e t.2 b)
end
theorem tdAll_of {ds : List PyData} : (∀ d ∈ ds, tdD d = true) → tdAll ds = true := by
  induction ds with
  | nil => intro _; rfl
  | cons d ds ih =>
    intro h
    unfold tdAll
    rw [h d List.mem_cons_self, ih fun x hx => h x (List.mem_cons_of_mem _ hx)]
    rfl
theorem tdAll_app {a b : List PyData} (h : tdAll a = true) (g : tdAll b = true) : tdAll (a ++ b) = true := by
  induction a with
  | nil => exact g
  | cons d a ih =>
    unfold tdAll at h
    rw [Bool.and_eq_true] at h
    show (tdD d && tdAll (a ++ b)) = true
    rw [h.1, ih h.2]
    rfl
theorem tdAll_ints (k : List Int) : tdAll (k.map PyData.int) = true := tdAll_of fun d hd => by
  obtain ⟨i, _, rfl⟩ := List.mem_map.mp hd
  rfl
/-! ### a net's parts -/
structure Pt where
  a : List It
  f : Fr
  b : List It
abbrev Sg := Bool × List Pt
structure Nd where
  s : Int
  n : Int
  w : Int
  rest : List It
  sg : List (List It)
  pl : List (List It)
  st : List Sg
def dI (l : List It) : PyData := .tuple (l.map dIt)
def dF (f : Fr) : PyData := .tuple [.int f.1, .int f.2]
def kS (k : Bool) : Str := if k = true then "heads" else "bend"
def kD (k : Bool) : Nat := if k = true then 2 else 1
def dPl (k : Bool) (p : Pt) : List PyData := if k = true then [dI p.a, dI p.b] else [dI p.a, dF p.f, dI p.b]
def dP (k : Bool) (p : Pt) : PyData := .tuple (dPl k p)
def dS (s : Sg) : PyData := .tuple [.str (kS s.1), .tuple (s.2.map (dP s.1))]
def dRs (l : List (List It)) : PyData := .tuple (l.map dI)
def dSs (l : List Sg) : PyData := .tuple (l.map dS)
def dD (x : Nd) : PyData := .list [.int x.s, .int x.n, .int x.w, dI x.rest, dRs x.sg, dRs x.pl, dSs x.st]
theorem td_It (i : It) : tdD (dIt i) = true := by
  show tdAll (_ ++ _) = true
  exact tdAll_app (tdAll_ints _) rfl
theorem td_map {α : Type} {f : α → PyData} (h : ∀ x, tdD (f x) = true) (l : List α) : tdD (.tuple (l.map f)) = true := by
  show tdAll _ = true
  exact tdAll_of fun d hd => by
    obtain ⟨x, _, rfl⟩ := List.mem_map.mp hd
    exact h x
theorem td_I (l : List It) : tdD (dI l) = true := td_map td_It l
theorem td_P (k : Bool) (p : Pt) : tdD (dP k p) = true := by
  show tdAll (dPl k p) = true
  unfold dPl
  split
  · simp only [tdAll, td_I, Bool.and_self]
  · simp only [tdAll, td_I, dF, tdD, Bool.and_self]
theorem td_S (s : Sg) : tdD (dS s) = true := by
  show tdAll [_, _] = true
  simp only [tdAll, td_map (td_P s.1), Bool.and_true]
  rfl
theorem td_Rs (l : List (List It)) : tdD (dRs l) = true := td_map td_I l
theorem td_Ss (l : List Sg) : tdD (dSs l) = true := td_map td_S l
/-! ### equality of data -/
mutual
def plD : PyData → Bool
  | .list ds => plAll ds | .dict _ => false | .tuple ds => plAll ds | .none => true | .bool _ => false | .int _ => true | .str z => PyData.strOk z
def plAll : List PyData → Bool
  | [] => true
  | d :: ds => plD d && plAll ds
end
mutual
theorem eqv_pl : ∀ {d e : PyData}, plD d = true → plD e = true → (PyData.eqv d e = true ↔ d = e)
  | .none, e, _, h => by cases e <;> simp [PyData.eqv]; all_goals (simp [plD] at h)
  | .int i, e, _, h => by cases e <;> simp [PyData.eqv]; all_goals (simp [plD] at h)
  | .str i, e, _, h => by cases e <;> simp [PyData.eqv]; all_goals (simp [plD] at h)
  | .list ds, e, g, h => by
    cases e <;> simp [PyData.eqv]
    all_goals first | (simp [plD] at h; done) | skip
    exact eqvA_pl (by unfold plD at g; exact g) (by unfold plD at h; exact h)
  | .tuple ds, e, g, h => by
    cases e <;> simp [PyData.eqv]
    all_goals first | (simp [plD] at h; done) | skip
    exact eqvA_pl (by unfold plD at g; exact g) (by unfold plD at h; exact h)
  | .bool _, _, g, _ => by simp [plD] at g
  | .dict _, _, g, _ => by simp [plD] at g
theorem eqvA_pl : ∀ {ds es : List PyData}, plAll ds = true → plAll es = true → (PyData.eqvAll ds es = true ↔ ds = es)
  | [], [], _, _ => by simp [PyData.eqvAll]
  | [], _ :: _, _, _ => by simp [PyData.eqvAll]
  | _ :: _, [], _, _ => by simp [PyData.eqvAll]
  | d :: ds, e :: es, g, h => by
    unfold plAll at g h
    rw [Bool.and_eq_true] at g h
    simp only [PyData.eqvAll, Bool.and_eq_true, List.cons.injEq]
    rw [eqv_pl g.1 h.1, eqvA_pl g.2 h.2]
end
theorem plAll_of {ds : List PyData} : (∀ d ∈ ds, plD d = true) → plAll ds = true := by
  induction ds with
  | nil => intro _; rfl
  | cons d ds ih =>
    intro h
    unfold plAll
    rw [h d List.mem_cons_self, ih fun x hx => h x (List.mem_cons_of_mem _ hx)]
    rfl
theorem plAll_map {α : Type} {f : α → PyData} (h : ∀ x, plD (f x) = true) (l : List α) : plAll (l.map f) = true := plAll_of fun d hd => by
  obtain ⟨x, _, rfl⟩ := List.mem_map.mp hd
  exact h x
theorem plAll_app {a b : List PyData} (h : plAll a = true) (g : plAll b = true) : plAll (a ++ b) = true := by
  induction a with
  | nil => exact g
  | cons d a ih =>
    unfold plAll at h
    rw [Bool.and_eq_true] at h
    show (plD d && plAll (a ++ b)) = true
    rw [h.1, ih h.2]
    rfl
theorem pl_It (i : It) : plD (dIt i) = true := by
  show plAll (_ ++ _) = true
  exact plAll_app (plAll_map (fun _ => rfl) _) rfl
theorem pl_map {α : Type} {f : α → PyData} (h : ∀ x, plD (f x) = true) (l : List α) : plD (.tuple (l.map f)) = true := by
  show plAll _ = true
  exact plAll_map h l
theorem pl_I (l : List It) : plD (dI l) = true := pl_map pl_It l
theorem pl_P (k : Bool) (p : Pt) : plD (dP k p) = true := by
  show plAll (dPl k p) = true
  unfold dPl
  split
  · simp only [plAll, pl_I, Bool.and_self]
  · simp only [plAll, pl_I, dF, plD, Bool.and_self]
theorem pl_S (s : Sg) : plD (dS s) = true := by
  show plAll [_, _] = true
  have : plD (.str (kS s.1)) = true := by
    show PyData.strOk _ = true
    cases s.1 <;> decide +kernel
  simp only [plAll, this, pl_map (pl_P s.1), Bool.and_true]
theorem pl_Rs (l : List (List It)) : plD (dRs l) = true := pl_map pl_I l
theorem pl_Ss (l : List Sg) : plD (dSs l) = true := pl_map pl_S l
theorem pl_D (x : Nd) : plD (dD x) = true := by
  show plAll _ = true
  simp only [plAll, pl_I, pl_Rs, pl_Ss, Bool.and_true, Bool.and_self]
  rfl
/-- what == of two nets is made of -/
def eqN (x y : Nd) : Bool := PyData.eqv (dD x) (dD y)
theorem eqN_iff {x y : Nd} : eqN x y = true ↔ x.s = y.s ∧ x.n = y.n ∧ x.w = y.w ∧ dI x.rest = dI y.rest ∧ dRs x.sg = dRs y.sg ∧ dRs x.pl = dRs y.pl ∧ dSs x.st = dSs y.st := by
  unfold eqN
  rw [eqv_pl (pl_D x) (pl_D y)]
  unfold dD
  simp only [PyData.list.injEq, List.cons.injEq, PyData.int.injEq, and_true]
theorem eqN_refl (x : Nd) : eqN x x = true := eqN_iff.mpr ⟨rfl, rfl, rfl, rfl, rfl, rfl, rfl⟩
theorem eqN_symm (x y : Nd) : eqN x y = eqN y x := by
  rw [Bool.eq_iff_iff, eqN_iff, eqN_iff]
  constructor <;> (rintro ⟨a, b, c, d, e, f, g⟩; exact ⟨a.symm, b.symm, c.symm, d.symm, e.symm, f.symm, g.symm⟩)
theorem eqI {a b : List It} : PyData.eqv (dI a) (dI b) = true ↔ dI a = dI b := eqv_pl (pl_I _) (pl_I _)
theorem eqRs {a b : List (List It)} : PyData.eqv (dRs a) (dRs b) = true ↔ dRs a = dRs b := eqv_pl (pl_Rs _) (pl_Rs _)
theorem eqSs {a b : List Sg} : PyData.eqv (dSs a) (dSs b) = true ↔ dSs a = dSs b := eqv_pl (pl_Ss _) (pl_Ss _)
/-! ### depth and size of data -/
theorem dep_map {α : Type} {f : α → PyData} {n : Nat} (h : ∀ x, dep (f x) ≤ n) : ∀ l : List α, depAll (l.map f) ≤ n
  | [] => Nat.zero_le _
  | x :: l => by
    show max _ _ ≤ n
    have := h x
    have := dep_map h l
    omega
theorem dep_It (i : It) : dep (dIt i) ≤ 2 := by
  unfold dIt
  rw [dep_tup, depAll_app, depAll_ints]
  show max 0 (max (max 0 (max 0 0) + 1) 0) + 1 ≤ 2
  decide
theorem dep_I (l : List It) : dep (dI l) ≤ 3 := by
  unfold dI
  rw [dep_tup]
  have := dep_map dep_It l
  omega
theorem dep_P (k : Bool) (p : Pt) : dep (dP k p) ≤ 4 := by
  unfold dP dPl
  rw [dep_tup]
  have a := dep_I p.a
  have b := dep_I p.b
  have f : dep (dF p.f) = 1 := rfl
  split <;> simp only [depAll] <;> omega
theorem dep_S (s : Sg) : dep (dS s) ≤ 6 := by
  unfold dS
  rw [dep_tup]
  have := dep_map (dep_P s.1) s.2
  simp only [depAll, dep_tup, dep]
  omega
theorem dep_Ss (l : List Sg) : dep (dSs l) ≤ 7 := by
  unfold dSs
  rw [dep_tup]
  have := dep_map dep_S l
  omega
theorem dep_Rs (l : List (List It)) : dep (dRs l) ≤ 4 := by
  unfold dRs
  rw [dep_tup]
  have := dep_map dep_I l
  omega
theorem dep_D (x : Nd) : dep (dD x) ≤ 8 := by
  unfold dD
  rw [dep_lst]
  have a := dep_I x.rest
  have b := dep_Rs x.sg
  have c := dep_Rs x.pl
  have d := dep_Ss x.st
  simp only [depAll, dep]
  omega
mutual
theorem depth_dep : ∀ d : PyData, plD d = true → d.depth = dep d
  | .none, _ => by simp only [PyData.depth, dep]
  | .int _, _ => by simp only [PyData.depth, dep]
  | .str _, _ => by simp only [PyData.depth, dep]
  | .list ds, h => by simp only [PyData.depth, dep]; rw [depth_depA ds (by unfold plD at h; exact h)]
  | .tuple ds, h => by simp only [PyData.depth, dep]; rw [depth_depA ds (by unfold plD at h; exact h)]
  | .bool _, h => by simp [plD] at h
  | .dict _, h => by simp [plD] at h
theorem depth_depA : ∀ ds : List PyData, plAll ds = true → PyData.depthAll ds = depAll ds
  | [], _ => by simp only [PyData.depthAll, depAll]
  | d :: ds, h => by
    unfold plAll at h
    rw [Bool.and_eq_true] at h
    simp only [PyData.depthAll, depAll]
    rw [depth_dep d h.1, depth_depA ds h.2]
end
mutual
theorem lay_ok : ∀ d : PyData, plD d = true → okD d = true → d.canLay0 = true
  | .none, _, _ => by simp only [PyData.canLay0]
  | .int _, _, _ => by simp only [PyData.canLay0]
  | .str z, h, _ => by
    simp only [PyData.canLay0]
    unfold plD at h
    exact h
  | .list ds, h, g => by simp only [PyData.canLay0]; exact lay_okA ds (by unfold plD at h; exact h) (okD_lst.mp g).2
  | .tuple ds, h, g => by simp only [PyData.canLay0]; exact lay_okA ds (by unfold plD at h; exact h) (okD_tup.mp g).2
  | .bool _, h, _ => by simp [plD] at h
  | .dict _, h, _ => by simp [plD] at h
theorem lay_okA : ∀ ds : List PyData, plAll ds = true → okAll ds = true → PyData.canLayAll0 ds = true
  | [], _, _ => by simp only [PyData.canLayAll0]
  | d :: ds, h, g => by
    unfold plAll at h
    unfold okAll at g
    rw [Bool.and_eq_true] at h g
    simp only [PyData.canLayAll0]
    rw [lay_ok d h.1 g.1, lay_okA ds h.2 g.2]
    rfl
end
theorem shaped_ok {d : PyData} (h : plD d = true) (g : okD d = true) (l : dep d ≤ 8) : SeqAt.shaped d = true := by
  show (d.canLay0 && decide (d.depth ≤ 64)) = true
  rw [lay_ok d h g, depth_dep d h, decide_eq_true (by omega)]
  rfl
/-! ### what a net's data may hold -/
def OkI (l : List It) : Prop := l.length < 64 ∧ ∀ x ∈ l, x.1.length ≤ 2
structure OkN (x : Nd) : Prop where
  rest : OkI x.rest
  sg : x.sg.length ≤ 8 ∧ ∀ l ∈ x.sg, OkI l
  pl : x.pl.length ≤ 8 ∧ ∀ l ∈ x.pl, OkI l
  st : x.st.length ≤ 100 ∧ ∀ s ∈ x.st, s.2.length ≤ 100 ∧ ∀ p ∈ s.2, OkI p.a ∧ OkI p.b
theorem okAll_of {ds : List PyData} : (∀ d ∈ ds, okD d = true) → okAll ds = true := by
  induction ds with
  | nil => intro _; rfl
  | cons d ds ih =>
    intro h
    unfold okAll
    rw [h d List.mem_cons_self, ih fun x hx => h x (List.mem_cons_of_mem _ hx)]
    rfl
theorem ok_map {α : Type} {f : α → PyData} {l : List α} (hl : l.length ≤ 100000) (h : ∀ x ∈ l, okD (f x) = true) : okD (.tuple (l.map f)) = true :=
  okD_tup.mpr ⟨by rw [List.length_map]; exact hl, okAll_of fun d hd => by
    obtain ⟨x, hx, rfl⟩ := List.mem_map.mp hd
    exact h x hx⟩
theorem ok_I {l : List It} (h : OkI l) : okD (dI l) = true := ok_map (by have := h.1; omega) fun x hx => (dIt_ok (by have := h.2 x hx; omega)).1
theorem ok_Rs {l : List (List It)} {n : Nat} (hn : n ≤ 100) (h : l.length ≤ n ∧ ∀ x ∈ l, OkI x) : okD (dRs l) = true := ok_map (by omega) fun x hx => ok_I (h.2 x hx)
theorem ok_S {s : Sg} (h : s.2.length ≤ 100 ∧ ∀ p ∈ s.2, OkI p.a ∧ OkI p.b) : okD (dS s) = true := by
  have h1 : okD (.tuple (s.2.map (dP s.1))) = true := ok_map (by omega) fun p hp => by
    obtain ⟨a, b⟩ := h.2 p hp
    show okD (.tuple (dPl s.1 p)) = true
    unfold dPl
    split
    · exact okD_tup.mpr ⟨by show 2 ≤ 100000; decide, by simp only [okAll, ok_I a, ok_I b, Bool.and_self]⟩
    · have hf : okD (dF p.f) = true := okD_tup.mpr ⟨by show 2 ≤ 100000; decide, rfl⟩
      exact okD_tup.mpr ⟨by show 3 ≤ 100000; decide, by simp only [okAll, ok_I a, ok_I b, hf, Bool.and_self]⟩
  refine okD_tup.mpr ⟨by show 2 ≤ 100000; decide, ?_⟩
  have h2 : okD (.str (kS s.1)) = true := by cases s.1 <;> decide
  simp only [okAll, h1, h2, Bool.and_self]
theorem ok_Ss {l : List Sg} (h : l.length ≤ 100 ∧ ∀ s ∈ l, s.2.length ≤ 100 ∧ ∀ p ∈ s.2, OkI p.a ∧ OkI p.b) : okD (dSs l) = true := ok_map (by omega) fun x hx => ok_S (h.2 x hx)
theorem ok_D {x : Nd} (h : OkN x) : okD (dD x) = true := by
  refine okD_lst.mpr ⟨by show 7 ≤ 100000; decide, ?_⟩
  simp only [okAll, ok_I h.rest, ok_Rs (by decide) h.sg, ok_Rs (by decide) h.pl, ok_Ss h.st, Bool.and_self, Bool.and_true]
  rfl
theorem sh_D {x : Nd} (h : OkN x) : SeqAt.shaped (dD x) = true := shaped_ok (pl_D x) (ok_D h) (dep_D x)
theorem sh_I {l : List It} (h : OkI l) : SeqAt.shaped (dI l) = true := shaped_ok (pl_I _) (ok_I h) (Nat.le_trans (dep_I _) (by decide))
theorem sh_Rs {l : List (List It)} (h : l.length ≤ 8 ∧ ∀ x ∈ l, OkI x) : SeqAt.shaped (dRs l) = true := shaped_ok (pl_Rs _) (ok_Rs (by decide) h) (Nat.le_trans (dep_Rs _) (by decide))
theorem sh_Ss {l : List Sg} (h : l.length ≤ 100 ∧ ∀ s ∈ l, s.2.length ≤ 100 ∧ ∀ p ∈ s.2, OkI p.a ∧ OkI p.b) : SeqAt.shaped (dSs l) = true := shaped_ok (pl_Ss _) (ok_Ss h) (Nat.le_trans (dep_Ss _) (by decide))
end LK

set_option Elab.async false
set_option linter.all false
set_option maxRecDepth 100000
namespace LK
open PySem PySem.Spec PyProof.Rows L2
local macro_rules | `(tactic| walk_at "rs") => `(tactic| simp only [tFld, sFld, tMeth, tMethZ, tMakeK, tMakeS, tMethS, tEf, tProp, tFmt, rEqO, rNeO, cxK, cxNK, tCallZ, tAsg, tOp, rI0, rS0, rB0, rI, rU, tUn, rEq, rNe, rIxL, rIxT, rIxS, rSetL, rSlLU, rSlS, rSlU, rCatL, rCatU, rRepL, rIn, tVar, tC, gName, gSub, tIfS, tTest, tB, tAnd, tOr, tNot, tNotV, tAndV, tOrV, tIf, tCall, tCons, tNil, tCB, tDrop, tRet, tRetN, tNext, tLstU, tTupU, tM0, tM1, tPar, tPar3, tAug, ipI, tBM, tBM0, rAppend, rPop, tBreak, sDPut, tDGet, tDGet2, tCont, tChain, tSl, tPart, tNoPart, L2.start, List.map, List.length_cons, List.length_nil, List.replicate, List.cons_append, List.nil_append, List.append_nil, List.getElem?_cons_zero, List.getElem?_cons_succ, List.set_cons_zero, List.set_cons_succ, Option.some.injEq, V.int.injEq, V.ref.injEq, V.str.injEq, V.bl.injEq, exists_eq_left', exists_eq_left, exists_and_left, decide_eq_true_eq, List.cons.injEq, and_true, true_and, scal, Bool.not_eq_true', decide_eq_false_iff_not, Nat.zero_add, Nat.reduceAdd, Nat.reduceSub, reduceCtorEq, false_and, exists_false, false_or, or_false, CPow, CPowW, CMul, CDiv, Int.reduceToNat, ↓reduceIte, wipe, sw, List.nil_append, List.singleton_append])
local macro_rules | `(tactic| walk_at "st") => `(tactic| (refine seq_op fun N hN => ?_; walk_at "rs"))
local macro_rules | `(tactic| walk_at "sd") => `(tactic| first | assumption | decide | omega)
local macro_rules | `(tactic| walk_at "rd") => `(tactic| repeat (first
  | refine ⟨_, SqL.of (by assumption), ?_⟩ | refine ⟨_, SqL.of upd_same, ?_⟩ | refine ⟨_, .inl (SqL.of (by assumption)), ?_⟩ | refine ⟨_, (by assumption : _ = some (HO.lst _)), ?_⟩ | refine ⟨_, upd_same, ?_⟩
  | refine ⟨_, rfl, ?_⟩ | refine And.intro (by walk_at "sd") ?_))

/-! ### the normal form of items, as a function -/
theorem cd_ij {d : Nat} (hd : d = 1 ∨ d = 2) {k l : List Int} (hk : k.length = d) (hl : l.length = d) (bk : TS.Bd 2000 k) (bl : TS.Bd 2000 l) (e : cd k = cd l) : k = l := by
  rcases hd with rfl | rfl
  · match k, hk, l, hl with
    | [x], _, [y], _ =>
      have h1 : cd [x] = x := by simp [cd, TS.code]
      have h2 : cd [y] = y := by simp [cd, TS.code]
      rw [h1, h2] at e
      rw [e]
  · match k, hk, l, hl with
    | [x, y], _, [x', y'], _ => exact cd_inj bk bl e
theorem ins_srt {k : List Int} : ∀ {L : List (List Int)}, (L.Pairwise fun a b => cd a < cd b) → (∀ l ∈ L, cd l ≠ cd k) → ∃ L' : List (List Int), (L'.Pairwise fun a b => cd a < cd b) ∧ ∀ x, x ∈ L' ↔ x = k ∨ x ∈ L
  | [], _, _ => ⟨[k], by simp, fun x => by simp⟩
  | a :: L, h, n => by
    rw [List.pairwise_cons] at h
    by_cases c : cd k < cd a
    · refine ⟨k :: a :: L, ?_, fun x => by simp⟩
      rw [List.pairwise_cons, List.pairwise_cons]
      refine ⟨fun x hx => ?_, h.1, h.2⟩
      rcases List.mem_cons.mp hx with rfl | hx
      · exact c
      · have := h.1 x hx
        omega
    · have na := n a List.mem_cons_self
      obtain ⟨L', s, m⟩ := ins_srt (k := k) h.2 fun l hl => n l (List.mem_cons_of_mem _ hl)
      refine ⟨a :: L', ?_, fun x => ?_⟩
      · rw [List.pairwise_cons]
        refine ⟨fun x hx => ?_, s⟩
        rcases (m x).mp hx with rfl | hx
        · omega
        · exact h.1 x hx
      · rw [List.mem_cons, m x, List.mem_cons]
        constructor <;> (rintro (h | h | h) <;> simp [h])
theorem ex_srt {d : Nat} (hd : d = 1 ∨ d = 2) : ∀ {l : List It}, (∀ x ∈ l, x.1.length = d ∧ TS.Bd 2000 x.1) → ∃ L : List (List Int), (L.Pairwise fun a b => cd a < cd b) ∧ ∀ k, k ∈ L ↔ ∃ x ∈ l, x.1 = k
  | [], _ => ⟨[], .nil, fun k => by simp⟩
  | a :: l, h => by
    obtain ⟨L, s, m⟩ := ex_srt hd (l := l) fun x hx => h x (List.mem_cons_of_mem _ hx)
    by_cases c : a.1 ∈ L
    · refine ⟨L, s, fun k => ?_⟩
      rw [m k]
      constructor
      · rintro ⟨x, hx, e⟩; exact ⟨x, List.mem_cons_of_mem _ hx, e⟩
      · rintro ⟨x, hx, e⟩
        rcases List.mem_cons.mp hx with rfl | hx
        · rw [← e]; exact (m _).mp c
        · exact ⟨x, hx, e⟩
    · obtain ⟨L', s', m'⟩ := ins_srt (k := a.1) s fun l hl e => c (by
        obtain ⟨x, hx, e2⟩ := (m l).mp hl
        obtain ⟨x1, x2⟩ := h x (List.mem_cons_of_mem _ hx)
        obtain ⟨a1, a2⟩ := h a List.mem_cons_self
        rw [e2] at x1 x2
        rw [← cd_ij hd x1 a1 x2 a2 e]; exact hl)
      refine ⟨L', s', fun k => ?_⟩
      rw [m' k, m k]
      constructor
      · rintro (rfl | ⟨x, hx, e⟩)
        · exact ⟨a, List.mem_cons_self, rfl⟩
        · exact ⟨x, List.mem_cons_of_mem _ hx, e⟩
      · rintro ⟨x, hx, e⟩
        rcases List.mem_cons.mp hx with rfl | hx
        · exact .inl e.symm
        · exact .inr ⟨x, hx, e⟩
theorem ex_norm {d : Nat} (hd : d = 1 ∨ d = 2) {l : List It} (h : ∀ x ∈ l, low x.2 ∧ x.1.length = d ∧ TS.Bd 2000 x.1) : ∃ m, Norm (accR l) m := by
  obtain ⟨L, s, m⟩ := ex_srt hd (l := l) fun x hx => ⟨(h x hx).2.1, (h x hx).2.2⟩
  exact ⟨_, norm_of (fun x hx => (h x hx).1) s fun x hx => (m _).mpr ⟨x, hx, rfl⟩⟩
open Classical in
noncomputable def nf (l : List It) : List It := if h : ∃ m, Norm (accR l) m then Classical.choose h else []
theorem nf_eq {l m : List It} (h : Norm (accR l) m) : m = nf l := by
  unfold nf
  rw [dif_pos ⟨m, h⟩]
  exact h.uniq (Classical.choose_spec (⟨m, h⟩ : ∃ m, Norm (accR l) m))
/-- items that may be handed in: m bits at most -/
structure Gi (m d : Nat) (w : Int) (l : List It) : Prop where
  hd : d = 1 ∨ d = 2
  w2 : w ≤ 2000
  ft : Ft d 40 m 63 l
  bd : ∀ x ∈ l, TS.Bd w x.1
theorem Gi.le {m m' d : Nat} {w w' : Int} {l : List It} (g : Gi m d w l) (h : m ≤ m') (hw : w ≤ w') (w2 : w' ≤ 2000) : Gi m' d w' l := ⟨g.hd, w2, g.ft.of (Nat.le_refl _) h (Nat.le_refl _), fun x hx j hj => ⟨(g.bd x hx j hj).1, by have := (g.bd x hx j hj).2; omega⟩⟩
theorem Gi.fit {m d : Nat} {w : Int} {l : List It} (g : Gi m d w l) (h : m ≤ 3900) : Fit d l := g.ft.fit (by decide) h (by decide)
theorem Gi.norm {m d : Nat} {w : Int} {l : List It} (g : Gi m d w l) : Norm (accR l) (nf l) := by
  obtain ⟨n, h⟩ := ex_norm g.hd (l := l) fun x hx => ⟨(g.ft.it x hx).1, (g.ft.it x hx).2.2⟩
  rw [← nf_eq h]; exact h
theorem norm_len {S : List (List Int)} {R : List Int → Rat} : ∀ {l : List It}, Norm R l → (∀ x ∈ l, x.1 ∈ S) → l.length ≤ S.length := by
  intro l h hs
  have nd : (l.map (·.1)).Nodup := by
    rw [List.nodup_iff_pairwise_ne, List.pairwise_map]
    exact h.srt.imp fun {a b} h e => by rw [e] at h; omega
  have := pigeon nd (S := S) fun k hk => by
    obtain ⟨x, hx, rfl⟩ := List.mem_map.mp hk
    exact hs x hx
  rwa [List.length_map] at this
theorem Gi.nf {m d : Nat} {w : Int} {l : List It} (g : Gi m d w l) (h : m ≤ 3900) : Gi (m + 2) d w (nf l) := by
  have nm := g.norm
  have l40 : (LK.nf l).length ≤ 40 := by
    obtain ⟨S, h1, h2⟩ := g.ft.few.of nm.spot
    exact Nat.le_trans (norm_len nm h2) h1
  refine ⟨g.hd, g.w2, g.ft.norm h nm (by omega), fun x hx => ?_⟩
  obtain ⟨y, hy, e⟩ := nm.spot x hx
  rw [← e]; exact g.bd y hy
theorem Gi.nf2 {m d : Nat} {w : Int} {l : List It} (g : Gi m d w l) : LK.nf (LK.nf l) = LK.nf l := by
  have nm := g.norm
  refine (nf_eq ?_).symm
  rw [show accR (LK.nf l) = accR l from funext (accR_norm nm)]
  exact nm
theorem Gi.ok {m d : Nat} {w : Int} {l : List It} (g : Gi m d w l) : OkI l := by
  refine ⟨Nat.lt_succ_of_le g.ft.len, fun x hx => ?_⟩
  have h1 := (g.ft.it x hx).2.2.1
  have h2 := g.hd
  omega
theorem Gi.okn {m d : Nat} {w : Int} {l : List It} (g : Gi m d w l) (h : m ≤ 3900) : OkI (LK.nf l) := (g.nf h).ok
theorem Gi.nil {m d : Nat} {w : Int} (hd : d = 1 ∨ d = 2) (w2 : w ≤ 2000) (h : 1 ≤ m) : Gi m d w [] := ⟨hd, w2, ⟨fun x hx => absurd hx (by simp), fun k => by show 1 ≤ m; exact h, ⟨[], Nat.zero_le _, fun x hx => absurd hx (by simp)⟩, Nat.zero_le _⟩, fun x hx => absurd hx (by simp)⟩
/-! ### parts, stages, nets -/
def dw (k : Bool) : Nat := if k = true then 2 else 1
theorem dw_or (k : Bool) : dw k = 1 ∨ dw k = 2 := by cases k <;> simp [dw]
structure Gp (m : Nat) (w : Int) (k : Bool) (p : Pt) : Prop where
  a : Gi m (dw k) w p.a
  b : Gi m (dw k) w p.b
  f : low p.f ∧ wt p.f ≤ 3900
structure Gs (m : Nat) (w : Int) (s : Sg) : Prop where
  len : s.2.length ≤ 20
  it : ∀ p ∈ s.2, Gp m w s.1 p
structure Gn (m : Nat) (x : Nd) : Prop where
  s : 2 ≤ x.s ∧ x.s ≤ 5
  n : 1 ≤ x.n ∧ x.n ≤ 8
  w : 1 ≤ x.w ∧ x.w ≤ 2000
  rest : Gi m 1 x.w x.rest
  sg : (x.sg.length : Int) = x.s ∧ ∀ l ∈ x.sg, Gi m 1 x.w l
  pl : (x.pl.length : Int) = x.n ∧ ∀ l ∈ x.pl, Gi m 1 x.w l
  st : x.st.length ≤ 100 ∧ ∀ s ∈ x.st, Gs m x.w s
noncomputable def nfP (p : Pt) : Pt := ⟨nf p.a, p.f, nf p.b⟩
noncomputable def nfS (s : Sg) : Sg := (s.1, s.2.map nfP)
noncomputable def nfN (x : Nd) : Nd := ⟨x.s, x.n, x.w, nf x.rest, x.sg.map nf, x.pl.map nf, x.st.map nfS⟩
theorem Gp.nf {m : Nat} {w : Int} {k : Bool} {p : Pt} (g : Gp m w k p) (h : m ≤ 3900) : Gp (m + 2) w k (nfP p) := ⟨g.a.nf h, g.b.nf h, g.f⟩
theorem Gp.nf2 {m : Nat} {w : Int} {k : Bool} {p : Pt} (g : Gp m w k p) : nfP (nfP p) = nfP p := by
  unfold nfP
  dsimp only
  rw [g.a.nf2, g.b.nf2]
theorem Gs.nf {m : Nat} {w : Int} {s : Sg} (g : Gs m w s) (h : m ≤ 3900) : Gs (m + 2) w (nfS s) := ⟨by show (s.2.map nfP).length ≤ 20; rw [List.length_map]; exact g.len, fun p hp => by
  obtain ⟨q, hq, rfl⟩ := List.mem_map.mp hp
  exact (g.it q hq).nf h⟩
theorem map_fix {α : Type} {f : α → α} {l : List α} (h : ∀ x ∈ l, f (f x) = f x) : (l.map f).map f = l.map f := by
  rw [List.map_map]
  exact List.map_congr_left fun x hx => h x hx
theorem Gs.nf2 {m : Nat} {w : Int} {s : Sg} (g : Gs m w s) : nfS (nfS s) = nfS s := by
  unfold nfS
  dsimp only
  rw [map_fix fun p hp => (g.it p hp).nf2]
theorem Gn.nf {m : Nat} {x : Nd} (g : Gn m x) (h : m ≤ 3900) : Gn (m + 2) (nfN x) := by
  refine ⟨g.s, g.n, g.w, g.rest.nf h, ⟨by show ((x.sg.map LK.nf).length : Int) = _; rw [List.length_map]; exact g.sg.1, fun l hl => ?_⟩, ⟨by show ((x.pl.map LK.nf).length : Int) = _; rw [List.length_map]; exact g.pl.1, fun l hl => ?_⟩, ⟨by show (x.st.map nfS).length ≤ 100; rw [List.length_map]; exact g.st.1, fun l hl => ?_⟩⟩
  · obtain ⟨q, hq, rfl⟩ := List.mem_map.mp hl
    exact (g.sg.2 q hq).nf h
  · obtain ⟨q, hq, rfl⟩ := List.mem_map.mp hl
    exact (g.pl.2 q hq).nf h
  · obtain ⟨q, hq, rfl⟩ := List.mem_map.mp hl
    exact (g.st.2 q hq).nf h
theorem Gn.nf2 {m : Nat} {x : Nd} (g : Gn m x) : nfN (nfN x) = nfN x := by
  unfold nfN
  dsimp only
  rw [g.rest.nf2, map_fix fun l hl => (g.sg.2 l hl).nf2, map_fix fun l hl => (g.pl.2 l hl).nf2, map_fix fun l hl => (g.st.2 l hl).nf2]
theorem Gs.ok {m : Nat} {w : Int} {s : Sg} (g : Gs m w s) : s.2.length ≤ 100 ∧ ∀ p ∈ s.2, OkI p.a ∧ OkI p.b := ⟨by have := g.len; omega, fun p hp => ⟨(g.it p hp).a.ok, (g.it p hp).b.ok⟩⟩
theorem Gn.ok {m : Nat} {x : Nd} (g : Gn m x) : OkN x := by
  have h1 := g.sg.1
  have h2 := g.pl.1
  have h3 := g.s
  have h4 := g.n
  exact ⟨g.rest.ok, ⟨by omega, fun l hl => (g.sg.2 l hl).ok⟩, ⟨by omega, fun l hl => (g.pl.2 l hl).ok⟩, ⟨g.st.1, fun s hs => (g.st.2 s hs).ok⟩⟩
theorem Gp.le {m m' : Nat} {w w' : Int} {k : Bool} {p : Pt} (g : Gp m w k p) (h : m ≤ m') (hw : w ≤ w') (w2 : w' ≤ 2000) : Gp m' w' k p := ⟨g.a.le h hw w2, g.b.le h hw w2, g.f⟩
theorem Gs.le {m m' : Nat} {w w' : Int} {s : Sg} (g : Gs m w s) (h : m ≤ m') (hw : w ≤ w') (w2 : w' ≤ 2000) : Gs m' w' s := ⟨g.len, fun p hp => (g.it p hp).le h hw w2⟩
end LK

set_option Elab.async false
set_option linter.all false
set_option maxRecDepth 100000
namespace LK
open PySem PySem.Spec PyProof.Rows L2
local macro_rules | `(tactic| walk_at "rs") => `(tactic| simp only [tFld, sFld, tMeth, tMethZ, tMakeK, tMakeS, tMethS, tEf, tProp, tFmt, rEqO, rNeO, cxK, cxNK, tCallZ, tAsg, tOp, rI0, rS0, rB0, rI, rU, tUn, rEq, rNe, rIxL, rIxT, rIxS, rSetL, rSlLU, rSlS, rSlU, rCatL, rCatU, rRepL, rIn, tVar, tC, gName, gSub, tIfS, tTest, tB, tAnd, tOr, tNot, tNotV, tAndV, tOrV, tIf, tCall, tCons, tNil, tCB, tDrop, tRet, tRetN, tNext, tLstU, tTupU, tM0, tM1, tPar, tPar3, tAug, ipI, tBM, tBM0, rAppend, rPop, tBreak, sDPut, tDGet, tDGet2, tCont, tChain, tSl, tPart, tNoPart, L2.start, List.map, List.length_cons, List.length_nil, List.replicate, List.cons_append, List.nil_append, List.append_nil, List.getElem?_cons_zero, List.getElem?_cons_succ, List.set_cons_zero, List.set_cons_succ, Option.some.injEq, V.int.injEq, V.ref.injEq, V.str.injEq, V.bl.injEq, exists_eq_left', exists_eq_left, exists_and_left, decide_eq_true_eq, List.cons.injEq, and_true, true_and, scal, Bool.not_eq_true', decide_eq_false_iff_not, Nat.zero_add, Nat.reduceAdd, Nat.reduceSub, reduceCtorEq, false_and, exists_false, false_or, or_false, CPow, CPowW, CMul, CDiv, Int.reduceToNat, ↓reduceIte, wipe, sw, List.nil_append, List.singleton_append])
local macro_rules | `(tactic| walk_at "st") => `(tactic| (refine seq_op fun N hN => ?_; walk_at "rs"))
local macro_rules | `(tactic| walk_at "sd") => `(tactic| first | assumption | decide | omega)
local macro_rules | `(tactic| walk_at "rd") => `(tactic| repeat (first
  | refine ⟨_, SqL.of (by assumption), ?_⟩ | refine ⟨_, SqL.of upd_same, ?_⟩ | refine ⟨_, .inl (SqL.of (by assumption)), ?_⟩ | refine ⟨_, (by assumption : _ = some (HO.lst _)), ?_⟩ | refine ⟨_, upd_same, ?_⟩
  | refine ⟨_, rfl, ?_⟩ | refine And.intro (by walk_at "sd") ?_))

/-! ### lists of values and what they stand for -/
inductive Al {α : Type} (R : V → α → Prop) : List V → List α → Prop
  | nil : Al R [] []
  | cons {v : V} {x : α} {vs : List V} {xs : List α} : R v x → Al R vs xs → Al R (v :: vs) (x :: xs)
namespace Al
variable {α β : Type} {R S : V → α → Prop}
theorem imp (h : ∀ v x, R v x → S v x) : ∀ {vs : List V} {xs : List α}, Al R vs xs → Al S vs xs
  | _, _, .nil => .nil
  | _, _, .cons a b => .cons (h _ _ a) (b.imp h)
theorem imp' : ∀ {vs : List V} {xs : List α}, (∀ v x, v ∈ vs → x ∈ xs → R v x → S v x) → Al R vs xs → Al S vs xs
  | _, _, _, .nil => .nil
  | _, _, h, .cons a b => .cons (h _ _ List.mem_cons_self List.mem_cons_self a) (b.imp' fun v x h1 h2 => h v x (List.mem_cons_of_mem _ h1) (List.mem_cons_of_mem _ h2))
theorem len : ∀ {vs : List V} {xs : List α}, Al R vs xs → vs.length = xs.length
  | _, _, .nil => rfl
  | _, _, .cons _ b => congrArg Nat.succ b.len
theorem get : ∀ {vs : List V} {xs : List α} {i : Nat} {v : V}, Al R vs xs → vs[i]? = some v → ∃ x, xs[i]? = some x ∧ R v x
  | _, _, _, _, .nil, h => by simp at h
  | _, _, 0, _, .cons a _, h => by simp at h; subst h; exact ⟨_, rfl, a⟩
  | _, _, i + 1, _, .cons _ b, h => by
    obtain ⟨x, h1, h2⟩ := b.get (i := i) (by simpa using h)
    exact ⟨x, by simpa using h1, h2⟩
theorem get' : ∀ {vs : List V} {xs : List α} {i : Nat} {x : α}, Al R vs xs → xs[i]? = some x → ∃ v, vs[i]? = some v ∧ R v x
  | _, _, _, _, .nil, h => by simp at h
  | _, _, 0, _, .cons a _, h => by simp at h; subst h; exact ⟨_, rfl, a⟩
  | _, _, i + 1, _, .cons _ b, h => by
    obtain ⟨x, h1, h2⟩ := b.get' (i := i) (by simpa using h)
    exact ⟨x, by simpa using h1, h2⟩
theorem mem {vs : List V} {xs : List α} {v : V} (h : Al R vs xs) (m : v ∈ vs) : ∃ x ∈ xs, R v x := by
  obtain ⟨i, hi⟩ := List.getElem?_of_mem m
  obtain ⟨x, h1, h2⟩ := h.get hi
  exact ⟨x, List.mem_of_getElem? h1, h2⟩
theorem app : ∀ {vs us : List V} {xs ys : List α}, Al R vs xs → Al R us ys → Al R (vs ++ us) (xs ++ ys)
  | _, _, _, _, .nil, h => h
  | _, _, _, _, .cons a b, h => .cons a (b.app h)
theorem take : ∀ {vs : List V} {xs : List α} (n : Nat), Al R vs xs → Al R (vs.take n) (xs.take n)
  | _, _, 0, _ => .nil
  | _, _, _ + 1, .nil => .nil
  | _, _, n + 1, .cons a b => .cons a (b.take n)
theorem drop : ∀ {vs : List V} {xs : List α} (n : Nat), Al R vs xs → Al R (vs.drop n) (xs.drop n)
  | _, _, 0, h => h
  | _, _, _ + 1, .nil => .nil
  | _, _, n + 1, .cons _ b => b.drop n
theorem rev : ∀ {vs : List V} {xs : List α}, Al R vs xs → Al R vs.reverse xs.reverse
  | _, _, .nil => .nil
  | _, _, .cons a b => by rw [List.reverse_cons, List.reverse_cons]; exact b.rev.app (.cons a .nil)
theorem set : ∀ {vs : List V} {xs : List α} (n : Nat) {v : V} {x : α}, Al R vs xs → R v x → Al R (vs.set n v) (xs.set n x)
  | _, _, _, _, _, .nil, _ => .nil
  | _, _, 0, _, _, .cons _ b, h => .cons h b
  | _, _, n + 1, _, _, .cons a b, h => .cons a (b.set n h)
theorem of_get : ∀ {vs : List V} {xs : List α}, vs.length = xs.length → (∀ (i : Nat) v x, vs[i]? = some v → xs[i]? = some x → R v x) → Al R vs xs
  | [], [], _, _ => .nil
  | v :: vs, x :: xs, l, h => .cons (h 0 v x rfl rfl) (of_get (by simpa using l) fun i a b h1 h2 => h (i + 1) a b (by simpa using h1) (by simpa using h2))
/-- the values of what is known of each -/
theorem ex : ∀ {vs : List V}, (∀ v ∈ vs, ∃ x, R v x) → ∃ xs : List α, Al R vs xs
  | [], _ => ⟨[], .nil⟩
  | v :: vs, h => by
    obtain ⟨x, hx⟩ := h v List.mem_cons_self
    obtain ⟨xs, hxs⟩ := ex (vs := vs) fun u hu => h u (List.mem_cons_of_mem _ hu)
    exact ⟨x :: xs, .cons hx hxs⟩
theorem mem' {vs : List V} {xs : List α} {x : α} (h : Al R vs xs) (m : x ∈ xs) : ∃ v ∈ vs, R v x := by
  obtain ⟨i, hi⟩ := List.getElem?_of_mem m
  obtain ⟨v, h1, h2⟩ := h.get' hi
  exact ⟨v, List.mem_of_getElem? h1, h2⟩
theorem snoc_take {vs : List V} {xs : List α} {i : Nat} {v : V} {x : α} (h : Al R vs (xs.take i)) (hx : xs[i]? = some x) (hv : R v x) : Al R (vs ++ [v]) (xs.take (i + 1)) := by
  rw [List.take_add_one, hx]
  exact h.app (.cons hv .nil)
end Al
/-! ### handed parts at the heap -/
section
variable {K : PySem.W.Frag} {H H' : Hp}
def IV (K : PySem.W.Frag) (H : Hp) (v : V) (l : List It) : Prop := ∃ a xs, v = .ref a ∧ SeqI K H a xs ∧ Its K H xs l
def RV (K : PySem.W.Frag) (H : Hp) (v : V) (l : List (List It)) : Prop := ∃ a xs, v = .ref a ∧ SeqI K H a xs ∧ Al (IV K H) xs l
def PV (K : PySem.W.Frag) (H : Hp) (k : Bool) (v : V) (p : Pt) : Prop := ∃ a x y, v = .ref a ∧ IV K H x p.a ∧ IV K H y p.b ∧ if k = true then SqT K H a [x, y] else ∃ u, SqT K H a [x, .ref u, y] ∧ Pr K H u p.f.1 p.f.2
def SV (K : PySem.W.Frag) (H : Hp) (v : V) (s : Sg) : Prop := ∃ a p xs, v = .ref a ∧ SqT K H a [.str (kS s.1), .ref p] ∧ SeqI K H p xs ∧ Al (PV K H s.1) xs s.2
def SsV (K : PySem.W.Frag) (H : Hp) (v : V) (l : List Sg) : Prop := ∃ a xs, v = .ref a ∧ SeqI K H a xs ∧ Al (SV K H) xs l
theorem IV.same (s : Same H H') {v : V} {l : List It} : IV K H v l → IV K H' v l := fun ⟨a, xs, e, h, i⟩ => ⟨a, xs, e, h.same s, i.same s⟩
theorem RV.same (s : Same H H') {v : V} {l : List (List It)} : RV K H v l → RV K H' v l := fun ⟨a, xs, e, h, i⟩ => ⟨a, xs, e, h.same s, i.imp fun _ _ => IV.same s⟩
theorem PV.same (s : Same H H') {k : Bool} {v : V} {p : Pt} : PV K H k v p → PV K H' k v p := fun ⟨a, x, y, e, hx, hy, h⟩ => ⟨a, x, y, e, hx.same s, hy.same s, by
  split at h
  · rename_i c; rw [if_pos c]; exact Same.seqT s h
  · rename_i c; rw [if_neg c]; obtain ⟨u, h1, h2⟩ := h; exact ⟨u, Same.seqT s h1, Same.seqT s h2⟩⟩
theorem SV.same (s : Same H H') {v : V} {g : Sg} : SV K H v g → SV K H' v g := fun ⟨a, p, xs, e, h, i, r⟩ => ⟨a, p, xs, e, Same.seqT s h, i.same s, r.imp fun _ _ => PV.same s⟩
theorem SsV.same (s : Same H H') {v : V} {l : List Sg} : SsV K H v l → SsV K H' v l := fun ⟨a, xs, e, h, i⟩ => ⟨a, xs, e, h.same s, i.imp fun _ _ => SV.same s⟩
/-! out of data -/
theorem dpa_ints : ∀ {k : List Int} {xs : List V} {ds : List PyData}, DpAll K H xs (k.map PyData.int ++ ds) → ∃ ys, xs = k.map V.int ++ ys ∧ DpAll K H ys ds
  | [], xs, _, h => ⟨xs, rfl, h⟩
  | i :: k, _, _, .cons a b => by
    cases a
    obtain ⟨ys, rfl, h⟩ := dpa_ints (k := k) b
    exact ⟨ys, rfl, h⟩
theorem its_of : ∀ {l : List It} {xs : List V}, DpAll K H xs (l.map dIt) → Its K H xs l
  | [], _, .nil => .nil
  | (k, f) :: l, _, .cons a b => by
    cases a with
    | tup h1 h2 =>
      obtain ⟨ys, rfl, h3⟩ := dpa_ints (k := k) h2
      cases h3 with
      | cons h4 h5 =>
        cases h5
        cases h4 with
        | tup h6 h7 =>
          cases h7 with
          | cons h8 h9 =>
            cases h8
            cases h9 with
            | cons h10 h11 =>
              cases h10
              cases h11
              exact .cons h1 h6 (its_of b)
theorem iv_of {v : V} {l : List It} (h : Dp K H v (dI l)) : IV K H v l := by
  cases h with
  | tup h1 h2 => exact ⟨_, _, rfl, .inr h1, its_of h2⟩
theorem al_of {α : Type} {f : α → PyData} {R : V → α → Prop} (h : ∀ v x, Dp K H v (f x) → R v x) : ∀ {l : List α} {xs : List V}, DpAll K H xs (l.map f) → Al R xs l
  | [], _, .nil => .nil
  | _ :: _, _, .cons a b => .cons (h _ _ a) (al_of h b)
theorem rv_of {v : V} {l : List (List It)} (h : Dp K H v (dRs l)) : RV K H v l := by
  cases h with
  | tup h1 h2 => exact ⟨_, _, rfl, .inr h1, al_of (fun _ _ => iv_of) h2⟩
theorem pr_of {v : V} {f : Fr} (h : Dp K H v (dF f)) : ∃ u, v = .ref u ∧ Pr K H u f.1 f.2 := by
  cases h with
  | tup h6 h7 =>
    cases h7 with
    | cons h8 h9 =>
      cases h8
      cases h9 with
      | cons h10 h11 =>
        cases h10
        cases h11
        exact ⟨_, rfl, h6⟩
theorem pv_of {k : Bool} {v : V} {p : Pt} (h : Dp K H v (dP k p)) : PV K H k v p := by
  cases h with
  | tup h1 h2 =>
    unfold dPl at h2
    cases k with
    | true =>
      rw [if_pos rfl] at h2
      cases h2 with
      | cons a b => cases b with
        | cons b c =>
          cases c
          exact ⟨_, _, _, rfl, iv_of a, iv_of b, by rw [if_pos rfl]; exact h1⟩
    | false =>
      rw [if_neg (by decide)] at h2
      cases h2 with
      | cons a b => cases b with
        | cons w0 b => cases b with
          | cons b c =>
            cases c
            obtain ⟨u, rfl, hu⟩ := pr_of w0
            exact ⟨_, _, _, rfl, iv_of a, iv_of b, by rw [if_neg (by decide)]; exact ⟨u, h1, hu⟩⟩
theorem sv_of {v : V} {s : Sg} (h : Dp K H v (dS s)) : SV K H v s := by
  cases h with
  | tup h1 h2 =>
    cases h2 with
    | cons a b => cases b with
      | cons b c =>
        cases c
        cases a
        cases b with
        | tup h3 h4 => exact ⟨_, _, _, rfl, h1, .inr h3, al_of (fun _ _ => pv_of) h4⟩
theorem ssv_of {v : V} {l : List Sg} (h : Dp K H v (dSs l)) : SsV K H v l := by
  cases h with
  | tup h1 h2 => exact ⟨_, _, rfl, .inr h1, al_of (fun _ _ => sv_of) h2⟩
/-! to data -/
theorem dpa_al {α : Type} {f : α → PyData} : ∀ {l : List α} {xs : List V}, Al (fun v x => Dp K H v (f x)) xs l → DpAll K H xs (l.map f)
  | _, _, .nil => .nil
  | _, _, .cons a b => .cons a (dpa_al b)
theorem dI_at {a : Addr} {xs : List V} {l : List It} (h : SqT K H a xs) (i : Its K H xs l) : Dp K H (.ref a) (dI l) := .tup h i.dp
theorem dF_at {a : Addr} {f : Fr} (h : Pr K H a f.1 f.2) : Dp K H (.ref a) (dF f) := .tup h (.cons (.int _) (.cons (.int _) .nil))
end
/-! ### what is new: H' without the lists of H -/
def fr (H H' : Hp) : Hp := fun a => match H' a with
  | some (.lst xs) => if H a = none then some (.lst xs) else none
  | o => o
section
variable {H H1 H' H'' : Hp} {N : Nat} {b c : Addr}
theorem fr_le : Same (fr H H') H' := fun a o h => by
  unfold fr at h
  split at h
  · rename_i xs e
    split at h
    · rw [e]; exact h
    · cases h
  · exact h
theorem fr_tk : Tk H' (fr H H') := fun a o h n => by
  unfold fr
  split
  · rename_i xs e; rw [h] at e; exact absurd (Option.some.inj e) (n xs)
  · exact h
theorem fr_new {a : Addr} {xs : List V} (h0 : H a = none) (h : H' a = some (.lst xs)) : fr H H' a = some (.lst xs) := by
  unfold fr
  rw [h]
  dsimp only
  rw [if_pos h0]
theorem fr_lst {a : Addr} {xs : List V} (h : fr H H' a = some (.lst xs)) : H a = none := by
  unfold fr at h
  split at h
  · rename_i ys e
    split at h
    · rename_i q; exact q
    · cases h
  · rename_i n; exact absurd h (n xs)
/-- what changes is old lists alone -/
theorem fr_to (t : Tk H' H'') (l : ∀ a xs, H a = none → H' a = some (.lst xs) → H'' a = some (.lst xs)) : Same (fr H H') (fr H H'') := fun a o h => by
  have h2 := fr_le a o h
  by_cases q : ∃ xs, o = .lst xs
  · obtain ⟨xs, rfl⟩ := q
    exact fr_new (fr_lst h) (l a xs (fr_lst h) h2)
  · have n : ∀ xs, o ≠ .lst xs := fun xs e => q ⟨xs, e⟩
    exact fr_tk a o (t a o h2 n) n
theorem fr_anti (d : ∀ a, H a = none → H1 a = none) : Same (fr H H') (fr H1 H') := fun a o h => by
  have h2 := fr_le a o h
  by_cases q : ∃ xs, o = .lst xs
  · obtain ⟨xs, rfl⟩ := q
    exact fr_new (d a (fr_lst h)) h2
  · exact fr_tk a o h2 fun xs e => q ⟨xs, e⟩
theorem fr_same (s : Same H' H'') : Same (fr H H') (fr H H'') := fr_to (Tk.of s) fun a xs _ h => s _ _ h
theorem fr_kp {M : Nat} (B : Bag N H b c) (B' : Bag M H' b c) (k : Kp b H' H'') : Same (fr H H') (fr H H'') := fr_to (Tk.kp B' k) fun a xs h0 h => k.hd h (new_ne B h0)
theorem fr_hb (B : Bag N H b c) {M : Nat} (B' : Bag M H' b c) : Same (fr H H') (hb H' b) := fun a o h => by
  have h2 := fr_le a o h
  by_cases q : ∃ xs, o = .lst xs
  · obtain ⟨xs, rfl⟩ := q
    rw [hb_ne (new_ne B (fr_lst h))]; exact h2
  · exact Tk.hb B' a o h2 fun xs e => q ⟨xs, e⟩
theorem fr_upd {p : Addr} {xs : List V} {o : HO} (h : H' p = some (.lst xs)) (n : H p ≠ none) : Same (fr H H') (fr H (L2.upd H' p o)) := fr_to (Tk.upd h) fun a ys h0 h1 => by
  have na : a ≠ p := fun z => n (by rw [← z]; exact h0)
  rw [upd_ne na]; exact h1
end
end LK

set_option Elab.async false
set_option linter.all false
set_option maxRecDepth 100000
namespace LK
open PySem PySem.Spec PyProof.Rows L2
local macro_rules | `(tactic| walk_at "rs") => `(tactic| simp only [tFld, sFld, tMeth, tMethZ, tMakeK, tMakeS, tMethS, tEf, tProp, tFmt, rEqO, rNeO, cxK, cxNK, tCallZ, tAsg, tOp, rI0, rS0, rB0, rI, rU, tUn, rEq, rNe, rIxL, rIxT, rIxS, rSetL, rSlLU, rSlS, rSlU, rCatL, rCatU, rRepL, rIn, tVar, tC, gName, gSub, tIfS, tTest, tB, tAnd, tOr, tNot, tNotV, tAndV, tOrV, tIf, tCall, tCons, tNil, tCB, tDrop, tRet, tRetN, tNext, tLstU, tTupU, tM0, tM1, tPar, tPar3, tAug, ipI, tBM, tBM0, rAppend, rPop, tBreak, sDPut, tDGet, tDGet2, tCont, tChain, tSl, tPart, tNoPart, L2.start, List.map, List.length_cons, List.length_nil, List.replicate, List.cons_append, List.nil_append, List.append_nil, List.getElem?_cons_zero, List.getElem?_cons_succ, List.set_cons_zero, List.set_cons_succ, Option.some.injEq, V.int.injEq, V.ref.injEq, V.str.injEq, V.bl.injEq, exists_eq_left', exists_eq_left, exists_and_left, decide_eq_true_eq, List.cons.injEq, and_true, true_and, scal, Bool.not_eq_true', decide_eq_false_iff_not, Nat.zero_add, Nat.reduceAdd, Nat.reduceSub, reduceCtorEq, false_and, exists_false, false_or, or_false, CPow, CPowW, CMul, CDiv, Int.reduceToNat, ↓reduceIte, wipe, sw, List.nil_append, List.singleton_append])
local macro_rules | `(tactic| walk_at "st") => `(tactic| (refine seq_op fun N hN => ?_; walk_at "rs"))
local macro_rules | `(tactic| walk_at "sd") => `(tactic| first | assumption | decide | omega)
local macro_rules | `(tactic| walk_at "rd") => `(tactic| repeat (first
  | refine ⟨_, SqL.of (by assumption), ?_⟩ | refine ⟨_, SqL.of upd_same, ?_⟩ | refine ⟨_, .inl (SqL.of (by assumption)), ?_⟩ | refine ⟨_, (by assumption : _ = some (HO.lst _)), ?_⟩ | refine ⟨_, upd_same, ?_⟩
  | refine ⟨_, rfl, ?_⟩ | refine And.intro (by walk_at "sd") ?_))

/-! ### comprehensions over a list or a tuple -/
/-- the items known by a function -/
theorem lc_lt1 {K : PySem.W.Frag} {a : Addr} {xs : List V} {te tl : TE} {i : Nat} {σ : L2.St} {H1 : Hp} {Q : VK} (f : V → V) (hv : ∀ Q : VK, Q (.ref a) H1 → tl σ H1 Q) (h : SeqI K H1 a xs) (hn : xs.length ≤ 1000000)
    (hs : ∀ x H, x ∈ xs → Same H1 H → ∀ Q2 : VK, (∀ H3, Same H H3 → Q2 (f x) H3) → te ((wipe σ [i]).set i (some x)) H Q2)
    (hq : ∀ D H', Same H1 H' → H1 D = none → H' D = some (.lst (xs.map f)) → Q (.ref D) H') : tLc (iLT K tl) (gName i) tYes te [i] σ H1 Q := by
  rcases h with h | h
  · exact .inl (hv _ ⟨a, rfl, ⟨xs, h⟩, fun D hD => lc_map (walk_list (K := K) (a := a) (xs := xs)) xs f hD hn rfl (fun k H x H' _ y => y) (fun H s => s.seq h) hs fun H' s e => hq D H' s hD e⟩)
  · exact .inr (hv _ ⟨a, rfl, ⟨xs, h⟩, fun D hD => lc_map (walk_tup (K := K) (a := a) (xs := xs)) xs f hD hn rfl (fun k H x H' _ y => y) (fun H s => Same.seqT s h) hs fun H' s e => hq D H' s hD e⟩)
/-- the items new things of tuples and scalars -/
theorem lc_al {α : Type} {K : PySem.W.Frag} {a : Addr} {xs : List V} {te tl : TE} {i : Nat} {σ : L2.St} {H1 : Hp} {Q : VK} (ys : List α) (R : Hp → V → α → Prop) (mono : ∀ G G' v x, Tk G G' → R G v x → R G' v x) (hv : ∀ Q : VK, Q (.ref a) H1 → tl σ H1 Q) (h : SeqI K H1 a xs) (hn : xs.length ≤ 1000000) (hl : xs.length = ys.length)
    (hs : ∀ (j : Nat) (x : V) (y : α) (H : Hp), xs[j]? = some x → ys[j]? = some y → Same H1 H → ∀ Q2 : VK, (∀ v H3, Same H H3 → R H3 v y → Q2 v H3) → te ((wipe σ [i]).set i (some x)) H Q2)
    (hq : ∀ D H' vs, Same H1 H' → H1 D = none → H' D = some (.lst vs) → Al (R H') vs ys → Q (.ref D) H') : tLc (iLT K tl) (gName i) tYes te [i] σ H1 Q := by
  refine lc_lt2 hv h (fun j H vs => Al (R H) vs (ys.take j)) hn (fun j H H' vs s q => q.imp fun _ _ => mono _ _ _ _ (Tk.of s)) (fun D j H vs zs o hD q => q.imp fun _ _ => mono _ _ _ _ (Tk.upd hD)) (fun H => .nil) (fun j x H hj s hx => ?_) (gm_name i) fun D H' vs s hD e _ q => hq D H' vs s hD e ?_
  · have hy : ys[j]? = some (ys[j]'(by omega)) := List.getElem?_eq_getElem (by omega)
    refine ⟨Same.refl _, ?_, fun Q2 h2 => hs j x _ H hx hy s Q2 fun v H3 s3 r => h2 v H3 s3 fun vs q => q.snoc_take hy r⟩
    show ((σ.set i none).set i (some x)).set i none = σ.set i none
    rw [List.set_set, List.set_set]
  · rw [hl, List.take_length] at q; exact q
/-- one that draws, its items new -/
theorem lc_bagF {J : L2.It} {n k N : Nat} {G : Hp → Prop} {Y : Nat → Hp → V → Hp → Prop} (w : Walk J n G Y) {g : TG} {te : TE} {vs : List Nat} {σ : L2.St} {H1 : Hp} {D b c : Addr} {Qd : Hp → Prop} (hD : H1 D = none) (hB : Bag (N + n * k) H1 b c) (hn : n ≤ 1000000) (Φ : Nat → Hp → V → Prop) (mono : ∀ i G G' v, Same G G' → Φ i G v → Φ i G' v)
    (hG : ∀ H, Kp b H1 H → G H)
    (hs : ∀ i x H H' M, i < n → Kp b H1 H → Bag (M + k) H b c → Y i H x H' → g x (wipe σ vs) H' fun σ2 H2 => Same H H2 ∧ wipe σ2 vs = wipe σ vs ∧ ∀ Q2 : V → Hp → Prop, (∀ v H3, Bag M H3 b c → Kp b H2 H3 → Φ i (fr H2 H3) v → Q2 v H3) → te σ2 H2 Q2)
    (gm : ∀ x σ0 H0 Q0 Q1, (∀ σ2 H2, Q0 σ2 H2 → Q1 σ2 H2) → g x σ0 H0 Q0 → g x σ0 H0 Q1)
    (hq : ∀ H' ys, Bag N H' b c → Kp b H1 H' → H' D = some (.lst ys) → ys.length = n → (∀ i v, ys[i]? = some v → Φ i (fr (L2.upd H1 D (.lst [])) H') v) → Qd H') :
    ∃ W : Nat → Nat → Hp → Prop, (∃ m, W 0 m (L2.upd H1 D (.lst []))) ∧ ∀ i m H, W i m H →
      (J.stop i H ∧ Qd H) ∨ (J.go i H ∧ ∃ Nx : Hp → Prop, (∀ H', Nx H' → ∃ m', m' < m ∧ W (i + 1) m' H') ∧ ∀ x H', J.yld i H x H' → g x (wipe σ vs) H' fun σ2 H2 => wipe σ2 vs = wipe σ vs ∧ tYes σ2 H2 fun b H3 =>
        if b = true then te σ2 H3 fun y H4 => ∃ acc, H4 D = some (.lst acc) ∧ acc.length < sizeLine ∧ Nx (L2.upd H4 D (.lst (acc ++ [y]))) else Nx H3) := by
  obtain ⟨xb, eb⟩ := hB.at
  obtain ⟨xc, ec⟩ := hB.at2
  have nbD : b ≠ D := fun e => by rw [← e, eb] at hD; cases hD
  have ncD : c ≠ D := fun e => by rw [← e, ec] at hD; cases hD
  have up : ∀ {H : Hp} {o : HO}, Kp b H1 H → Kp b H1 (L2.upd H D o) := fun s a u e => by
    obtain ⟨h1, h2⟩ := hb_some e
    rw [hb_ne h1, upd_ne (ne_of_none h2 hD)]
    exact s.hd h2 h1
  have D0 : (L2.upd H1 D (.lst [])) D ≠ none := by rw [upd_same]; exact Option.some_ne_none _
  have B0 : Bag (N + n * k) (L2.upd H1 D (.lst [])) b c := hB.upd nbD ncD
  refine lc_it w (fun i H => Kp b H1 H ∧ Bag (N + (n - i) * k) H b c ∧ ∃ ys, H D = some (.lst ys) ∧ ys.length = i ∧ ∀ j v, ys[j]? = some v → Φ j (fr (L2.upd H1 D (.lst [])) H) v) ⟨up (Kp.refl _ _), hB.upd nbD ncD, [], upd_same, rfl, fun j v hv => absurd hv (by simp)⟩ (fun i H _ h => hG H h.1) (fun i x H H' hi ⟨s1, B1, ys, h1, hl, hp⟩ hY => ?_) (fun H ⟨s1, B1, ys, h1, hl, hp⟩ => hq H ys (B1.le (Nat.le_add_right _ _)) s1 h1 hl hp)
  refine gm _ _ _ _ _ (fun σ2 H2 ⟨s2, e2, kq⟩ => ⟨e2, ?_⟩) (hs i x H H' (N + (n - (i + 1)) * k) hi s1 (B1.le (by
    have e : n - i = (n - (i + 1)) + 1 := by omega
    rw [e, Nat.add_mul, Nat.one_mul, Nat.add_assoc]; exact Nat.le_refl _)) hY)
  simp only [tYes, eq_self, ite_true]
  have B2 := B1.same s2
  refine kq _ fun v H3 B3 k3 hv => ?_
  have hD3 := k3.hd (s2 _ _ h1) nbD.symm
  refine ⟨ys, hD3, ?_, up (Same.trans (Same.trans s1 (Kp.of s2)) k3), B3.upd nbD ncD, ys ++ [v], upd_same, by rw [List.length_append, hl]; rfl, fun j u hu => ?_⟩
  · rw [hl]
    exact Nat.lt_of_lt_of_le (Nat.lt_of_lt_of_le hi hn) (by decide)
  · have f3 : Same (fr (L2.upd H1 D (.lst [])) H3) (fr (L2.upd H1 D (.lst [])) (L2.upd H3 D (.lst (ys ++ [v])))) := fr_upd hD3 D0
    by_cases c : j < ys.length
    · rw [List.getElem?_append_left c] at hu
      exact mono _ _ _ _ (Same.trans (Same.trans (fr_same s2) (fr_kp B0 B2 k3)) f3) (hp j u hu)
    · rw [List.getElem?_append_right (by omega)] at hu
      obtain ⟨e1, e2⟩ : j - ys.length = 0 ∧ v = u := by
        cases q : j - ys.length with
        | zero => rw [q] at hu; exact ⟨rfl, by simpa using hu⟩
        | succ m => rw [q] at hu; simp at hu
      subst e2
      obtain rfl : j = i := by omega
      refine mono _ _ _ _ (Same.trans (fr_anti fun a q => ?_) f3) hv
      by_cases n : a = D
      · rw [n, s2 _ _ h1] at q; cases q
      · rw [upd_ne n]
        exact Kp.dom (Same.trans s1 (Kp.of s2)) (B2.at.choose_spec) a q
/-- [f(k) for k in range(n)], drawn -/
theorem lc_drawF {n : Nat} {lo : Int} {k N : Nat} {te : TE} {i : Nat} {σ : L2.St} {H1 : Hp} {D b c : Addr} {Qd : Hp → Prop} (Φ : Hp → V → Prop) (mono : ∀ G G' v, Same G G' → Φ G v → Φ G' v) (hD : H1 D = none) (hB : Bag (N + n * k) H1 b c) (hn : n ≤ 1000000)
    (hs : ∀ x H M, Kp b H1 H → Bag (M + k) H b c → ∀ Q2 : V → Hp → Prop, (∀ v H3, Bag M H3 b c → Kp b H H3 → Φ (fr H H3) v → Q2 v H3) → te ((wipe σ [i]).set i (some x)) H Q2)
    (hq : ∀ H' ys, Bag N H' b c → Kp b H1 H' → H' D = some (.lst ys) → ys.length = n → (∀ v ∈ ys, Φ (fr (L2.upd H1 D (.lst [])) H') v) → Qd H') :
    ∃ W : Nat → Nat → Hp → Prop, (∃ m, W 0 m (L2.upd H1 D (.lst []))) ∧ ∀ i' m H, W i' m H →
      ((Itr lo n).stop i' H ∧ Qd H) ∨ ((Itr lo n).go i' H ∧ ∃ Nx : Hp → Prop, (∀ H', Nx H' → ∃ m', m' < m ∧ W (i' + 1) m' H') ∧ ∀ x H', (Itr lo n).yld i' H x H' → gName i x (wipe σ [i]) H' fun σ2 H2 => wipe σ2 [i] = wipe σ [i] ∧ tYes σ2 H2 fun b H3 =>
        if b = true then te σ2 H3 fun y H4 => ∃ acc, H4 D = some (.lst acc) ∧ acc.length < sizeLine ∧ Nx (L2.upd H4 D (.lst (acc ++ [y]))) else Nx H3) := by
  refine lc_bagF walk_range hD hB hn (fun _ => Φ) (fun _ => mono) (fun _ _ => trivial) (fun j x H H' M hj s1 B1 y => ?_) (fun x σ0 H0 Q0 Q1 h q => h _ _ q) fun H' ys B s e l h => hq H' ys B s e l fun v hv => ?_
  · obtain ⟨rfl, _⟩ := y
    refine ⟨Same.refl _, ?_, fun Q2 h2 => hs x H' M s1 B1 Q2 h2⟩
    show ((σ.set i none).set i (some x)).set i none = σ.set i none
    rw [List.set_set, List.set_set]
  · obtain ⟨j, hj⟩ := List.getElem?_of_mem hv
    exact h j v hj
/-- over a list or a tuple, drawn: the items stand for ys -/
theorem lc_drawA {α : Type} {K : PySem.W.Frag} {a : Addr} {xs : List V} {te tl : TE} {i k N : Nat} {σ : L2.St} {H1 : Hp} {b c : Addr} {Q : VK} (ys : List α) (Φ : Hp → V → α → Prop) (mono : ∀ G G' v x, Same G G' → Φ G v x → Φ G' v x) (hv : ∀ Q : VK, Q (.ref a) H1 → tl σ H1 Q) (hx : SeqI K (LK.hb H1 b) a xs) (hB : Bag (N + xs.length * k) H1 b c) (hn : xs.length ≤ 1000000) (hl : xs.length = ys.length)
    (hs : ∀ (j : Nat) (x : V) (y : α) (H : Hp) (M : Nat), xs[j]? = some x → ys[j]? = some y → Kp b H1 H → Bag (M + k) H b c → ∀ Q2 : V → Hp → Prop, (∀ v H3, Bag M H3 b c → Kp b H H3 → Φ (fr H H3) v y → Q2 v H3) → te ((wipe σ [i]).set i (some x)) H Q2)
    (hq : ∀ D H' vs, Bag N H' b c → Kp b H1 H' → H1 D = none → H' D = some (.lst vs) → Al (Φ (fr (L2.upd H1 D (.lst [])) H')) vs ys → Q (.ref D) H') : tLc (iLT K tl) (gName i) tYes te [i] σ H1 Q := by
  have core : ∀ {J : L2.It} {G : Hp → Prop} (w : Walk J xs.length G (YAt xs)) (hG : ∀ H, Kp b H1 H → G H) (D : Addr) (hD : H1 D = none), _ := fun w hG D hD => lc_bagF w (g := gName i) (te := te) (vs := [i]) (σ := σ) (D := D) (Qd := fun H => Q (.ref D) H) hD hB hn (fun j G v => ∃ y, ys[j]? = some y ∧ Φ G v y) (fun j G G' v s ⟨y, e, p⟩ => ⟨y, e, mono _ _ _ _ s p⟩) hG (fun j x H H' M hj s B1 ⟨e, hx⟩ => by
    subst e
    have hy : ys[j]? = some (ys[j]'(by omega)) := List.getElem?_eq_getElem (by omega)
    refine ⟨Same.refl _, ?_, fun Q2 h2 => hs j x _ _ M hx hy s B1 Q2 fun v H3 B3 k3 p => h2 v H3 B3 k3 ⟨_, hy, p⟩⟩
    show ((σ.set i none).set i (some x)).set i none = σ.set i none
    rw [List.set_set, List.set_set]) (gm_name i) fun H' vs B s e l p => hq D H' vs B s hD e (Al.of_get (by omega) fun j v y h1 h2 => by
      obtain ⟨y', e', p'⟩ := p j v h1
      rw [h2] at e'
      cases e'
      exact p')
  rcases hx with h | h
  · exact .inl (hv _ ⟨a, rfl, ⟨xs, (hb_le H1 b).seq h⟩, fun D hD => core walk_list (fun H s => (hb_le H b).seq (s.seq h)) D hD⟩)
  · exact .inr (hv _ ⟨a, rfl, ⟨xs, Same.seqT (hb_le H1 b) h⟩, fun D hD => core walk_tup (fun H s => Same.seqT (hb_le H b) (Same.seqT s h)) D hD⟩)
end LK

set_option Elab.async false
set_option linter.all false
set_option maxRecDepth 100000
namespace LK
open PySem PySem.Spec PyProof.Rows L2
local macro_rules | `(tactic| walk_at "rs") => `(tactic| simp only [tFld, sFld, tMeth, tMethZ, tMakeK, tMakeS, tMethS, tEf, tProp, tFmt, rEqO, rNeO, cxK, cxNK, tCallZ, tAsg, tOp, rI0, rS0, rB0, rI, rU, tUn, rEq, rNe, rIxL, rIxT, rIxS, rSetL, rSlLU, rSlS, rSlU, rCatL, rCatU, rRepL, rIn, tVar, tC, gName, gSub, tIfS, tTest, tB, tAnd, tOr, tNot, tNotV, tAndV, tOrV, tIf, tCall, tCons, tNil, tCB, tDrop, tRet, tRetN, tNext, tLstU, tTupU, tM0, tM1, tPar, tPar3, tAug, ipI, tBM, tBM0, rAppend, rPop, tBreak, sDPut, tDGet, tDGet2, tCont, tChain, tSl, tPart, tNoPart, L2.start, List.map, List.length_cons, List.length_nil, List.replicate, List.cons_append, List.nil_append, List.append_nil, List.getElem?_cons_zero, List.getElem?_cons_succ, List.set_cons_zero, List.set_cons_succ, Option.some.injEq, V.int.injEq, V.ref.injEq, V.str.injEq, V.bl.injEq, exists_eq_left', exists_eq_left, exists_and_left, decide_eq_true_eq, List.cons.injEq, and_true, true_and, scal, Bool.not_eq_true', decide_eq_false_iff_not, Nat.zero_add, Nat.reduceAdd, Nat.reduceSub, reduceCtorEq, false_and, exists_false, false_or, or_false, CPow, CPowW, CMul, CDiv, Int.reduceToNat, ↓reduceIte, wipe, sw, List.nil_append, List.singleton_append])
local macro_rules | `(tactic| walk_at "st") => `(tactic| (refine seq_op fun N hN => ?_; walk_at "rs"))
local macro_rules | `(tactic| walk_at "sd") => `(tactic| first | assumption | decide | omega)
local macro_rules | `(tactic| walk_at "rd") => `(tactic| repeat (first
  | refine ⟨_, SqL.of (by assumption), ?_⟩ | refine ⟨_, SqL.of upd_same, ?_⟩ | refine ⟨_, .inl (SqL.of (by assumption)), ?_⟩ | refine ⟨_, (by assumption : _ = some (HO.lst _)), ?_⟩ | refine ⟨_, upd_same, ?_⟩
  | refine ⟨_, rfl, ?_⟩ | refine And.intro (by walk_at "sd") ?_))

def isFrac : PyData → Bool
  | .tuple [.int p, .int q] => decide (1 ≤ q) && decide ((Nat.gcd p.natAbs q.natAbs : Nat) = 1)
  | _ => false
section
variable {P : Program} {w : World} {K : PySem.W.Frag} {mg : Str → Option Value} {base : Heap}
theorem ok_is_fraction (T : Txt w K mg) : FnOk P w K mg base CX0 2 T.a_is_fraction T.d_is_fraction ["value"] (spP1 K fun d => .bl (isFrac d)) := by
  refine T.F_is_fraction.ok sc_is_fraction (fun vs H Q E h => ?_) (fun cdv A outer s H vs Q E hr h => ?_)
  · obtain ⟨v, d, rfl, _⟩ := h
    rfl
  · obtain ⟨v, d, rfl, hD, k⟩ := h
    have hr_is_number : Room 1 _ := hr.mono (by decide)
    have G_is_number := ok_is_number (P := P) (base := base) T
    refine ⟨_, (pss_cons (ps_if (PW.pt (pw_or (pt_not (pt_val (pe_callB (call_isiDK (K := K) rfl) (by rfl) T.n_isinstance (by decide +kernel) (pa_cons (pv 0) (pa_cons (pe_bltn (v := .ty "tuple") (u := .type "tuple") (by rfl) T.n_tuple (by decide +kernel) rfl) pa_nil))))) (pw_or1 (pt_cmpR op_neI (pe_callB call_lenD (by rfl) T.n_len (by decide +kernel) (pa_cons (pv 0) pa_nil)) pe_int (nomark _))))) (pss_one (ps_ret pe_bl)) pss_nil)
      (pss_cons (ps_asg (pv 0) (pg_tup rfl (pgs_cons (pg_name (i := 1) sc_is_fraction.nd rfl (Or.inl rfl)) (pgs_cons (pg_name (i := 2) sc_is_fraction.nd rfl (Or.inl rfl)) pgs_nil))))
      (pss_one (ps_ret (pe_and (pe_call G_is_number hr_is_number (by rfl) T.m_is_number T.F_is_number.kp T.B_is_number .nil pass0 (pa_cons (pv 1) pa_nil)) (pe_and (pe_call G_is_number hr_is_number (by rfl) T.m_is_number T.F_is_number.kp T.B_is_number .nil pass0 (pa_cons (pv 2) pa_nil)) (pe_and (pe_cmpR op_ge (pv 2) pe_int (nomark _)) (pe_one (pe_cmpR op_eqI (pe_callBfun cr_gcd (by rfl) T.m_gcd (pa_cons (pv 1) (pa_cons (pv 2) pa_nil))) pe_int (nomark _)))))))))), ?_⟩
    refine seq_op fun N hN => ?_
    walk_at "rs"
    refine ⟨v, "tuple", ⟨rfl, rfl⟩, d, hD, by decide, ite2 (fun h => ?_) (fun h => ⟨d, hD, ?_⟩)⟩
    · have e : isFrac d = false := by cases d <;> first | rfl | cases h
      have q : Q (.bl (isFrac d)) H := k H (Same.refl _)
      rw [e] at q; exact q
    obtain ⟨ds, rfl⟩ : ∃ ds, d = .tuple ds := by cases d <;> first | exact ⟨_, rfl⟩ | (exact absurd rfl h)
    clear h
    refine .inl ⟨ds, .inr rfl, ite2 (fun h2 => ?_) (fun h2 => hN _ _ ?_)⟩
    · have e : isFrac (.tuple ds) = false := by
        rcases ds with _ | ⟨x, _ | ⟨y, _ | ⟨z, r⟩⟩⟩
        · rfl
        · cases x <;> rfl
        · exact absurd rfl h2
        · cases x <;> cases y <;> rfl
      have q : Q (.bl (isFrac (.tuple ds))) H := k H (Same.refl _)
      rw [e] at q; exact q
    clear hN N
    obtain ⟨x, y, rfl⟩ : ∃ x y, ds = [x, y] := by
      rcases ds with _ | ⟨x, _ | ⟨y, _ | ⟨z, r⟩⟩⟩
      · exact absurd (by simp) h2
      · exact absurd (by simp) h2
      · exact ⟨x, y, rfl⟩
      · exact absurd (by simp; omega) h2
    cases hD with
    | tup hs ha =>
    cases ha with
    | cons hx ha =>
    cases ha with
    | cons hy ha =>
    cases ha
    refine seq_op fun N hN => ?_
    walk_at "rs"
    refine ⟨_, _, rfl, hs, rfl, ?_⟩
    unfold gCons gNil
    walk_at "rs"
    refine ⟨_, _, ⟨rfl, rfl⟩, _, _, rfl, rfl, hN _ _ ?_⟩
    clear hN N
    walk_at "rs"
    have no : ∀ (H' : Hp), Same H H' → isFrac (.tuple [x, y]) = false → Q (.bl false) H' := fun H' s' e => by
      have q : Q (.bl (isFrac (.tuple [x, y]))) H' := k H' s'
      rw [e] at q; exact q
    refine ⟨_, x, rfl, hx, fun H1 s1 => ⟨isNum x, rfl, ite2 (fun hp => ?_) (fun hp => no H1 s1 (by cases x <;> first | rfl | exact absurd rfl hp))⟩⟩
    refine ⟨_, y, rfl, dp_same s1 hy, fun H2 s2 => ⟨isNum y, rfl, ite2 (fun hq => ?_) (fun hq => no H2 (Same.trans s1 s2) (by cases x <;> cases y <;> first | rfl | exact absurd rfl hq))⟩⟩
    obtain ⟨p, rfl⟩ : ∃ p, x = .int p := by cases x <;> first | exact ⟨_, rfl⟩ | cases hp
    obtain ⟨q, rfl⟩ : ∃ q, y = .int q := by cases y <;> first | exact ⟨_, rfl⟩ | cases hq
    cases hx
    cases hy
    refine ⟨q, rfl, ite2 (fun h1 => ⟨p, q, rfl, _, rfl, ?_⟩) (fun h1 => no H2 (Same.trans s1 s2) (by
      show (decide (1 ≤ q) && _) = false
      rw [decide_eq_false h1]; rfl))⟩
    have e : isFrac (.tuple [.int p, .int q]) = decide ((((Nat.gcd p.natAbs q.natAbs : Nat) : Int)) = 1) := by
      show (decide (1 ≤ q) && _) = _
      rw [decide_eq_true h1, Bool.true_and]
      exact decide_eq_decide.mpr (by omega)
    rw [← e]; exact k H2 (Same.trans s1 s2)
theorem frac_low {f : Fr} (h : low f) : isFrac (dF f) = true := by
  show (decide (1 ≤ f.2) && decide ((Nat.gcd f.1.natAbs f.2.natAbs : Nat) = 1)) = true
  rw [decide_eq_true h.1, decide_eq_true h.2]
  rfl
theorem frac_at {H : Hp} {Q : VK} {E : XK} {a : Addr} {f : Fr} (h : Pr K H a f.1 f.2) (l : low f) (k : ∀ H', Same H H' → Q (.bl true) H') : spP1 K (fun d => .bl (isFrac d)) [.ref a] H Q E :=
  ⟨.ref a, dF f, rfl, dF_at h, fun H' s => by
    show Q (.bl (isFrac (dF f))) H'
    rw [frac_low l]; exact k H' s⟩
theorem num_at {H : Hp} {Q : VK} {E : XK} {i : Int} (k : ∀ H', Same H H' → Q (.bl true) H') : spP1 K (fun d => .bl (isNum d)) [.int i] H Q E := ⟨.int i, .int i, rfl, .int i, k⟩
/-! ### what any value may be: bounds, columns, items, rows, parts, stages -/
def within (lo hi : Int) : PyData → Bool
  | .int i => decide (lo ≤ i) && decide (i ≤ hi)
  | _ => false
def sqD : PyData → Option (List PyData)
  | .list ds => some ds
  | .tuple ds => some ds
  | _ => none
def isItem (m : Nat) (w : Int) : PyData → Bool
  | .tuple ds => decide (ds.length = m + 1) && (ds.dropLast.all (within 0 (w - 1)) && (match ds.getLast? with | some f => isFrac f | none => false))
  | _ => false
def isItems (m : Nat) (w : Int) (d : PyData) : Bool := match sqD d with
  | some ds => ds.all (isItem m w)
  | none => false
def isRows (m : Int) (w : Int) (d : PyData) : Bool := match sqD d with
  | some ds => decide ((ds.length : Int) = m) && ds.all (isItems 1 w)
  | none => false
def isPart (k : Bool) (w : Int) : PyData → Bool
  | .tuple ds => match k, ds with
    | true, [a, b] => isItems 2 w a && isItems 2 w b
    | false, [a, f, b] => isFrac f && (isItems 1 w a && isItems 1 w b)
    | _, _ => false
  | _ => false
def isKind : PyData → Option Bool
  | .str s => if s = "heads" then some true else if s = "bend" then some false else none
  | _ => none
def isStage (w : Int) : PyData → Bool
  | .tuple [a, b] => match isKind a, sqD b with
    | some k, some ds => ds.all (isPart k w)
    | _, _ => false
  | _ => false
theorem isTyT {d : PyData} (h : isTy "tuple" d = true) : ∃ ds, d = .tuple ds := by
  cases d <;> first | exact ⟨_, rfl⟩ | cases h
theorem isTyS {d : PyData} (h : (isTy "list" d || isTy "tuple" d) = true) : ∃ ds, sqD d = some ds := by
  cases d <;> first | exact ⟨_, rfl⟩ | cases h
theorem isTyN {d : PyData} (h : ¬ (isTy "list" d || isTy "tuple" d) = true) : sqD d = none := by
  cases d <;> first | rfl | exact absurd rfl h
/-- a list or tuple of data at the heap -/
theorem sq_dp {H : Hp} {v : V} {d : PyData} {ds : List PyData} (h : Dp K H v d) (e : sqD d = some ds) : ∃ a xs, v = .ref a ∧ SeqI K H a xs ∧ DpAll K H xs ds := by
  cases h with
  | lst h1 h2 => cases e; exact ⟨_, _, rfl, .inl h1, h2⟩
  | tup h1 h2 => cases e; exact ⟨_, _, rfl, .inr h1, h2⟩
  | _ => cases e
theorem dpa_len {H : Hp} : ∀ {xs : List V} {ds : List PyData}, DpAll K H xs ds → xs.length = ds.length
  | _, _, .nil => rfl
  | _, _, .cons _ b => congrArg Nat.succ (dpa_len b)
theorem dpa_at {H : Hp} : ∀ {xs : List V} {ds : List PyData} {j : Nat} {x : V} {d : PyData}, DpAll K H xs ds → xs[j]? = some x → ds[j]? = some d → Dp K H x d
  | _, _, _, _, _, .nil, h, _ => by simp at h
  | _, _, 0, _, _, .cons a _, h, g => by simp at h g; subst h; subst g; exact a
  | _, _, j + 1, _, _, .cons _ b, h, g => dpa_at (j := j) b (by simpa using h) (by simpa using g)
theorem okA_mem {d : PyData} : ∀ {ds : List PyData}, okAll ds = true → d ∈ ds → okD d = true
  | [], _, h => absurd h (by simp)
  | e :: ds, h, g => by
    have h' : (okD e && okAll ds) = true := h
    rw [Bool.and_eq_true] at h'
    rcases List.mem_cons.mp g with rfl | g
    · exact h'.1
    · exact okA_mem h'.2 g
theorem ok_sq {d : PyData} {ds : List PyData} (h : okD d = true) (e : sqD d = some ds) : ds.length ≤ 100000 ∧ okAll ds = true := by
  cases d <;> first | cases e | skip
  · exact okD_lst.mp h
  · exact okD_tup.mp h
theorem al_bl {α : Type} {F : α → Bool} : ∀ {vs : List V} {ys : List α}, Al (fun v y => v = .bl (F y)) vs ys → vs = (ys.map F).map V.bl
  | _, _, .nil => rfl
  | _, _, .cons a b => by rw [a, al_bl b]; rfl
/-- over a list or tuple of data: a Bool of each -/
theorem lc_bl {K : PySem.W.Frag} {a : Addr} {xs : List V} {ds : List PyData} {te tl : TE} {i : Nat} {σ : L2.St} {H1 : Hp} {Q : VK} (F : PyData → Bool) (hv : ∀ Q : VK, Q (.ref a) H1 → tl σ H1 Q) (h : SeqI K H1 a xs) (hx : DpAll K H1 xs ds) (hn : ds.length ≤ 1000000)
    (hs : ∀ (x : V) (d : PyData) (H : Hp), d ∈ ds → Same H1 H → Dp K H x d → ∀ Q2 : VK, (∀ H3, Same H H3 → Q2 (.bl (F d)) H3) → te ((wipe σ [i]).set i (some x)) H Q2)
    (hq : ∀ D H', Same H1 H' → H' D = some (.lst ((ds.map F).map V.bl)) → Q (.ref D) H') : tLc (iLT K tl) (gName i) tYes te [i] σ H1 Q :=
  lc_al ds (fun _ v y => v = .bl (F y)) (fun _ _ _ _ _ h => h) hv h (by rw [dpa_len hx]; exact hn) (dpa_len hx)
    (fun j x d H h1 h2 s Q2 hk => hs x d H (List.mem_of_getElem? h2) s (dp_same s (dpa_at hx h1 h2)) Q2 fun H3 s3 => hk _ _ s3 rfl)
    (fun D H' vs s _ e al => hq D H' s (by rw [e, al_bl al]))
theorem all_bl {α : Type} {F : α → Bool} (l : List α) : ((l.map F).all id) = l.all F := by
  rw [List.all_map]; rfl
theorem isNumI {H : Hp} {v : V} {d : PyData} (h : Dp K H v d) (e : isNum d = true) : ∃ i, d = .int i ∧ v = .int i := by
  cases h <;> first | exact ⟨_, rfl, rfl⟩ | cases e
theorem within_no {lo hi : Int} {d : PyData} (e : ¬ isNum d = true) : within lo hi d = false := by
  cases d <;> first | rfl | exact absurd rfl e
theorem within_i {lo hi i : Int} : within lo hi (.int i) = (decide (lo ≤ i) && decide (i ≤ hi)) := rfl
def sp_sizes (K : PySem.W.Frag) : Sp := fun vs H Q _ => ∃ v u d e, vs = [v, u] ∧ Dp K H v d ∧ Dp K H u e ∧ ∀ H', Same H H' → Q (.bl (within 2 5 d && within 1 8 e)) H'
theorem ok_are_sizes (T : Txt w K mg) : FnOk P w K mg base CX0 2 T.a_are_sizes T.d_are_sizes ["signs", "n"] (sp_sizes K) := by
  refine T.F_are_sizes.ok sc_are_sizes (fun vs H Q E h => ?_) (fun cdv A outer s H vs Q E hr h => ?_)
  · obtain ⟨v, u, d, e, rfl, _⟩ := h
    rfl
  · obtain ⟨v, u, d, e, rfl, hd, he, k⟩ := h
    have hr_is_number : Room 1 _ := hr
    have G_is_number := ok_is_number (P := P) (base := base) T
    refine ⟨_, (pss_one (ps_ret (pe_and (pe_call G_is_number hr_is_number (by rfl) T.m_is_number T.F_is_number.kp T.B_is_number .nil pass0 (pa_cons (pv 0) pa_nil)) (pe_and (pe_chain op_le op_le pe_int (pv 0) pe_int) (pe_and (pe_call G_is_number hr_is_number (by rfl) T.m_is_number T.F_is_number.kp T.B_is_number .nil pass0 (pa_cons (pv 1) pa_nil)) (pe_one (pe_chain op_le op_le pe_int (pv 1) pe_int))))))), ?_⟩
    walk_at "rs"
    refine ⟨v, d, rfl, hd, fun H1 s1 => ⟨isNum d, rfl, ite2 (fun hp => ?_) (fun hp => ?_)⟩⟩
    · obtain ⟨i, rfl, rfl⟩ := isNumI hd hp
      refine ⟨i, rfl, ite2 (fun h1 => ⟨i, rfl, ite2 (fun h2 => ?_) (fun h2 => ?_)⟩) (fun h1 => ?_)⟩
      · refine ⟨u, e, rfl, dp_same s1 he, fun H2 s2 => ⟨isNum e, rfl, ite2 (fun hq => ?_) (fun hq => ?_)⟩⟩
        · obtain ⟨j, rfl, rfl⟩ := isNumI he hq
          have q := k H2 (Same.trans s1 s2)
          rw [within_i, within_i, decide_eq_true h1, decide_eq_true h2, Bool.true_and, Bool.true_and] at q
          refine ⟨j, rfl, ite2 (fun h3 => ⟨j, rfl, ?_⟩) (fun h3 => ?_)⟩
          · rw [decide_eq_true h3, Bool.true_and] at q; exact q
          · rw [decide_eq_false h3, Bool.false_and] at q; exact q
        · have q := k H2 (Same.trans s1 s2)
          rw [within_no hq, Bool.and_false] at q; exact q
      · have q := k H1 s1
        rw [within_i, decide_eq_false h2, Bool.and_false, Bool.false_and] at q; exact q
      · have q := k H1 s1
        rw [within_i, decide_eq_false h1, Bool.false_and, Bool.false_and] at q; exact q
    · have q := k H1 s1
      rw [within_no hp, Bool.false_and] at q; exact q
def sp_column (K : PySem.W.Frag) : Sp := fun vs H Q _ => ∃ v d, ∃ w : Int, vs = [v, .int w] ∧ Dp K H v d ∧ ∀ H', Same H H' → Q (.bl (within 0 (w - 1) d)) H'
theorem ok_is_column (T : Txt w K mg) : FnOk P w K mg base CX0 2 T.a_is_column T.d_is_column ["value", "width"] (sp_column K) := by
  refine T.F_is_column.ok sc_is_column (fun vs H Q E h => ?_) (fun cdv A outer s H vs Q E hr h => ?_)
  · obtain ⟨s, n, w, rfl, _⟩ := h
    rfl
  · obtain ⟨v, d, w, rfl, hd, k⟩ := h
    have hr_is_number : Room 1 _ := hr
    have G_is_number := ok_is_number (P := P) (base := base) T
    refine ⟨_, (pss_one (ps_ret (pe_and (pe_call G_is_number hr_is_number (by rfl) T.m_is_number T.F_is_number.kp T.B_is_number .nil pass0 (pa_cons (pv 0) pa_nil)) (pe_one (pe_chain op_le op_lt pe_int (pv 0) (pv 1)))))), ?_⟩
    walk_at "rs"
    refine ⟨v, d, rfl, hd, fun H1 s1 => ⟨isNum d, rfl, ite2 (fun hp => ?_) (fun hp => ?_)⟩⟩
    · obtain ⟨i, rfl, rfl⟩ := isNumI hd hp
      have q := k H1 s1
      have e : decide (i ≤ w - 1) = decide (i < w) := decide_eq_decide.mpr (by omega)
      rw [within_i, e] at q
      refine ⟨i, rfl, ite2 (fun h1 => ⟨i, rfl, ?_⟩) (fun h1 => ?_)⟩
      · rw [decide_eq_true h1, Bool.true_and] at q; exact q
      · rw [decide_eq_false h1, Bool.false_and] at q; exact q
    · have q := k H1 s1
      rw [within_no hp] at q; exact q
theorem lc_cut {H : Hp} {σ : L2.St} {a : Addr} {xs : List V} {ds : List PyData} {i : Nat} {te : TE} {Q : VK} (F : PyData → Bool) (h0 : σ[0]? = some (some (.ref a))) (ha : SqT K H a xs) (hx : DpAll K H xs ds) (hn : ds.length ≤ 100000)
    (hs : ∀ x d H', d ∈ ds → Same H H' → Dp K H' x d → ∀ Q2 : VK, (∀ H3, Same H' H3 → Q2 (.bl (F d)) H3) → te ((wipe σ [i]).set i (some x)) H' Q2)
    (hq : ∀ D H', Same H H' → H' D = some (.lst ((ds.dropLast.map F).map V.bl)) → Q (.ref D) H') :
    tLc (iTup K (tSl (rSlU K) (tVar 0) tNoPart (tPart (tUn (rU fun i => .int (-i)) (tC (.int 1)))))) (gName i) tYes te [i] σ H Q := by
  have lx := dpa_len hx
  have ec : cutV xs none (some (-1)) = xs.dropLast := by
    have e0 : HT.sIx xs.length 0 none = 0 := rfl
    have e1 : HT.sIx xs.length xs.length (some (-1)) = xs.length - 1 := by
      show (if (-1 : Int) < 0 then ((-1 : Int) + (xs.length : Int)).toNat else min (-1 : Int).toNat xs.length) = _
      rw [if_pos (by decide)]; omega
    unfold cutV
    rw [e0, e1, List.drop_zero, Nat.sub_zero, List.dropLast_eq_take]
  unfold tLc iTup
  simp only [tSl, rSlU, tVar, tNoPart, tPart, tUn, rU, tC]
  refine ⟨_, h0, 1, rfl, -1, rfl, a, xs, rfl, ha, fun q H1 s1 hq1 => ⟨q, rfl, ⟨_, hq1⟩, fun D hD => lc_accD (walk_tup (K := K) (a := q) (xs := cutV xs none (some (-1)))) (g := gName i) (te := te) (vs := [i]) (σ := σ) (D := D) (Qd := fun H => Q (.ref D) H) (fun j H vs => vs = ((ds.dropLast.take j).map F).map V.bl) hD ?_ (fun _ _ _ _ _ q => q) (fun _ _ _ _ _ _ q => q) rfl (fun H s => Same.seqT s hq1) (fun j x H H' hj s n ⟨e, hx'⟩ => ?_) (gm_name i) fun H' vs s e l p => ?_⟩⟩
  · rw [ec, List.length_dropLast]; omega
  · subst e
    rw [ec] at hx'
    have lj : j < ds.dropLast.length := by
      obtain ⟨h1, _⟩ := List.getElem?_eq_some_iff.mp hx'
      rw [List.length_dropLast] at h1 ⊢
      omega
    have hy : ds.dropLast[j]? = some ds.dropLast[j] := List.getElem?_eq_getElem lj
    have lj' : j < ds.length - 1 := by rw [List.length_dropLast] at lj; exact lj
    have hd : Dp K H' x ds.dropLast[j] := by
      have h1 : xs[j]? = some x := by rw [List.dropLast_eq_take, List.getElem?_take_of_lt (by omega)] at hx'; exact hx'
      have h2 : ds[j]? = some ds.dropLast[j] := by rw [List.getElem_dropLast]; exact List.getElem?_eq_getElem (by omega)
      exact dp_same (Same.trans s1 s) (dpa_at hx h1 h2)
    refine ⟨Same.refl _, ?_, fun Q2 h2 => hs x _ _ (List.dropLast_subset _ (List.getElem_mem lj)) (Same.trans s1 s) hd Q2 fun H3 s3 => h2 _ H3 s3 fun ys q => ?_⟩
    · show ((σ.set i none).set i (some x)).set i none = σ.set i none
      rw [List.set_set, List.set_set]
    · rw [q, List.take_add_one, hy]
      simp
  · refine hq D H' (Same.trans s1 s) ?_
    rw [e, p, ec, List.length_dropLast, lx, ← List.length_dropLast, List.take_length]
theorem cut_last {xs : List V} {x : V} (h : xs.getLast? = some x) : atI xs (-1) = some x := by
  have : xs ≠ [] := fun e => by rw [e] at h; cases h
  have l : 0 < xs.length := List.length_pos_iff.mpr this
  rw [List.getLast?_eq_getElem?] at h
  show atI xs (-1) = some x
  have e : ixN xs.length (-1) = some (xs.length - 1) := by
    unfold ixN
    rw [if_neg (by decide), if_pos (by omega)]
    congr 1
    omega
  unfold atI
  rw [e]; exact h
def sp_item (K : PySem.W.Frag) : Sp := fun vs H Q _ => ∃ (v : V) (d : PyData) (m : Nat) (w : Int), vs = [v, .int (m : Int), .int w] ∧ Dp K H v d ∧ okD d = true ∧ ∀ H', Same H H' → Q (.bl (isItem m w d)) H'
theorem ok_is_item (T : Txt w K mg) : FnOk P w K mg base CX0 3 T.a_is_item T.d_is_item ["value", "many", "width"] (sp_item K) := by
  refine T.F_is_item.ok sc_is_item (fun vs H Q E h => ?_) (fun cdv A outer s H vs Q E hr h => ?_)
  · obtain ⟨v, d, m, w, rfl, _⟩ := h
    rfl
  · obtain ⟨v, d, m, w, rfl, hd, od, kq⟩ := h
    have hr_is_column : Room 2 _ := hr
    have G_is_column := ok_is_column (P := P) (base := base) T
    have hr_is_fraction : Room 2 _ := hr
    have G_is_fraction := ok_is_fraction (P := P) (base := base) T
    refine ⟨_, (pss_cons (ps_if (PW.pt (pw_or (pt_not (pt_val (pe_callB (call_isiDK (K := K) rfl) (by rfl) T.n_isinstance (by decide +kernel) (pa_cons (pv 0) (pa_cons (pe_bltn (v := .ty "tuple") (u := .type "tuple") (by rfl) T.n_tuple (by decide +kernel) rfl) pa_nil))))) (pw_or1 (pt_cmpR op_neI (pe_callB call_len_seq (by rfl) T.n_len (by decide +kernel) (pa_cons (pv 0) pa_nil)) (pe_op op_add (pv 1) pe_int) (nomark _))))) (pss_one (ps_ret pe_bl)) pss_nil)
      (pss_one (ps_ret (pe_and (pe_callB (cr_all rfl) (by rfl) T.n_all (by decide +kernel) (pa_cons (pe_lc (own := [("column", 3)]) (g := gName 3) (tt := tYes) rfl sc_is_item.nd (pi_tup (pe_slice sl_tupU (pv 0) po_none (po_some (pe_un un_neg pe_int)))) (blkOk_by (own := [("column", 3)]) (N := N_is_item) (sc := defScope s_is_item) (by decide +kernel)) (fun _ _ _ _ _ => pg_name (i := 3) sc_is_item.nd rfl (Or.inl rfl)) (fun _ _ _ _ _ => pts_nil) (fun _ _ _ _ _ => (pe_call G_is_column hr_is_column (by rfl) T.m_is_column T.F_is_column.kp T.B_is_column .nil pass0 (pa_cons (pv 3) (pa_cons (pv 2) pa_nil))))) pa_nil)) (pe_one (pe_call G_is_fraction hr_is_fraction (by rfl) T.m_is_fraction T.F_is_fraction.kp T.B_is_fraction .nil pass0 (pa_cons (pe_ix ix_tup (pv 0) (pe_un un_neg pe_int) (fun _ _ => rfl)) pa_nil))))))), ?_⟩
    refine seq_op fun N hN => ?_
    walk_at "rs"
    refine ⟨v, "tuple", ⟨rfl, rfl⟩, d, hd, by decide, ite2 (fun z => ?_) (fun z => ?_)⟩
    · have e : isItem m w d = false := by cases d <;> first | rfl | cases z
      have q := kq H (Same.refl _)
      rw [e] at q; exact q
    obtain ⟨ds, rfl⟩ := isTyT (d := d) (by rw [Bool.not_eq_false] at z; exact z)
    cases hd with
    | @tup a xs _ ha hx =>
    have lx := dpa_len hx
    obtain ⟨l1, o1⟩ := okD_tup.mp od
    refine ⟨a, rfl, xs, .inr ha, ite2 (fun z => ?_) (fun z => hN _ _ ?_)⟩
    · have e : isItem m w (.tuple ds) = false := by
        show (decide _ && _) = false
        rw [decide_eq_false (fun e => z (by rw [lx, e]; rfl))]; rfl
      have q := kq H (Same.refl _)
      rw [e] at q; exact q
    clear hN N
    have lm : ds.length = m + 1 := by rw [lx] at z; omega
    obtain ⟨f, hf⟩ : ∃ f, ds.getLast? = some f := ⟨_, List.getLast?_eq_some_getLast (fun e => by rw [e] at lm; cases lm)⟩
    have hf2 : ds[ds.length - 1]? = some f := by rw [← List.getLast?_eq_getElem?]; exact hf
    obtain ⟨vf, hvf⟩ : ∃ u, xs.getLast? = some u := ⟨_, List.getLast?_eq_some_getLast (fun e => by rw [e] at lx; rw [lm] at lx; cases lx)⟩
    have hvf2 : xs[ds.length - 1]? = some vf := by rw [← lx, ← List.getLast?_eq_getElem?]; exact hvf
    have dvf : Dp K H vf f := dpa_at hx hvf2 hf2
    have eI : isItem m w (.tuple ds) = (ds.dropLast.all (within 0 (w - 1)) && isFrac f) := by
      show (decide _ && (_ && (match ds.getLast? with | some f => isFrac f | none => false))) = _
      rw [decide_eq_true lm, Bool.true_and, hf]
    walk_at "rs"
    refine lc_cut (i := 3) (within 0 (w - 1)) rfl ha hx l1 (fun x y H' hy s hxy Q2 h2 => ?_) fun D H' s e => ?_
    · walk_at "rs"
      exact ⟨x, y, w, rfl, hxy, h2⟩
    · refine ⟨D, _, rfl, SqL.of e, _, rfl, ?_⟩
      rw [all_bl]
      refine ite2 (fun z => ⟨xs, Same.seqT s ha, vf, cut_last hvf, vf, f, rfl, dp_same s dvf, fun H2 s2 => ?_⟩) (fun z => ?_)
      · have q := kq H2 (Same.trans s s2)
        rw [eI, z, Bool.true_and] at q; exact q
      · have q := kq H' s
        rw [eI, Bool.eq_false_iff.mpr z, Bool.false_and] at q; exact q
def sp_ites (K : PySem.W.Frag) : Sp := fun vs H Q _ => ∃ (v : V) (d : PyData) (m : Nat) (w : Int), vs = [v, .int (m : Int), .int w] ∧ Dp K H v d ∧ okD d = true ∧ ∀ H', Same H H' → Q (.bl (isItems m w d)) H'
theorem ok_are_items (T : Txt w K mg) : FnOk P w K mg base CX0 4 T.a_are_items T.d_are_items ["value", "many", "width"] (sp_ites K) := by
  refine T.F_are_items.ok sc_are_items (fun vs H Q E h => ?_) (fun cdv A outer s H vs Q E hr h => ?_)
  · obtain ⟨v, d, m, w, rfl, _⟩ := h
    rfl
  · obtain ⟨v, d, m, w, rfl, hd, od, kq⟩ := h
    have hr_is_item : Room 3 _ := hr
    have G_is_item := ok_is_item (P := P) (base := base) T
    refine ⟨_, (pss_cons (ps_if (pt_not (pt_val (pe_callB call_isiDT (by rfl) T.n_isinstance (by decide +kernel) (pa_cons (pv 0) (pa_cons (pe_tupU (pa_cons (pe_bltn (v := .ty "list") (u := .type "list") (by rfl) T.n_list (by decide +kernel) rfl) (pa_cons (pe_bltn (v := .ty "tuple") (u := .type "tuple") (by rfl) T.n_tuple (by decide +kernel) rfl) pa_nil))) pa_nil))))) (pss_one (ps_ret pe_bl)) pss_nil)
      (pss_one (ps_ret (pe_callB (cr_all rfl) (by rfl) T.n_all (by decide +kernel) (pa_cons (pe_lc (own := [("item", 3)]) (g := gName 3) (tt := tYes) rfl sc_are_items.nd (pi_lt (pv 0)) (blkOk_by (own := [("item", 3)]) (N := N_are_items) (sc := defScope s_are_items) (by decide +kernel)) (fun _ _ _ _ _ => pg_name (i := 3) sc_are_items.nd rfl (Or.inl rfl)) (fun _ _ _ _ _ => pts_nil) (fun _ _ _ _ _ => (pe_call G_is_item hr_is_item (by rfl) T.m_is_item T.F_is_item.kp T.B_is_item .nil pass0 (pa_cons (pv 3) (pa_cons (pv 1) (pa_cons (pv 2) pa_nil)))))) pa_nil))))), ?_⟩
    refine seq_op fun N hN => ?_
    walk_at "rs"
    refine ⟨by decide, fun p H1 s1 p0 p1 => ⟨_, p, ⟨rfl, rfl⟩, p1, d, dp_same s1 hd, ite2 (fun z => ?_) (fun z => hN _ _ ?_)⟩⟩
    · have e : isItems m w d = false := by unfold isItems; rw [isTyN (by rw [z]; decide)]
      have q := kq H1 s1
      rw [e] at q; exact q
    clear hN N
    obtain ⟨ds, e⟩ := isTyS (d := d) (by rw [Bool.not_eq_false] at z; exact z)
    obtain ⟨a, xs, rfl, ha, hx⟩ := sq_dp (dp_same s1 hd) e
    obtain ⟨l1, o1⟩ := ok_sq od e
    walk_at "rs"
    refine lc_bl (isItem m w) (fun Q q => ⟨_, rfl, q⟩) ha hx (by omega) (fun x y G hy s2 hxy Q2 h2 => ?_) fun D G s2 eD => ⟨D, ds.map (isItem m w), rfl, SqL.of eD, ?_⟩
    · walk_at "rs"
      exact ⟨x, y, m, w, rfl, hxy, okA_mem o1 hy, h2⟩
    · have q := kq G (Same.trans s1 s2)
      unfold isItems at q
      rw [e] at q
      rw [all_bl]; exact q
def sp_rows (K : PySem.W.Frag) : Sp := fun vs H Q _ => ∃ (v : V) (d : PyData) (m w : Int), vs = [v, .int m, .int w] ∧ Dp K H v d ∧ okD d = true ∧ ∀ H', Same H H' → Q (.bl (isRows m w d)) H'
theorem ok_are_rows (T : Txt w K mg) : FnOk P w K mg base CX0 5 T.a_are_rows T.d_are_rows ["value", "many", "width"] (sp_rows K) := by
  refine T.F_are_rows.ok sc_are_rows (fun vs H Q E h => ?_) (fun cdv A outer s H vs Q E hr h => ?_)
  · obtain ⟨v, d, m, w, rfl, _⟩ := h
    rfl
  · obtain ⟨v, d, m, w, rfl, hd, od, kq⟩ := h
    have hr_are_items : Room 4 _ := hr
    have G_are_items := ok_are_items (P := P) (base := base) T
    refine ⟨_, (pss_cons (ps_if (PW.pt (pw_or (pt_not (pt_val (pe_callB call_isiDT (by rfl) T.n_isinstance (by decide +kernel) (pa_cons (pv 0) (pa_cons (pe_tupU (pa_cons (pe_bltn (v := .ty "list") (u := .type "list") (by rfl) T.n_list (by decide +kernel) rfl) (pa_cons (pe_bltn (v := .ty "tuple") (u := .type "tuple") (by rfl) T.n_tuple (by decide +kernel) rfl) pa_nil))) pa_nil))))) (pw_or1 (pt_cmpR op_neI (pe_callB call_len_seq (by rfl) T.n_len (by decide +kernel) (pa_cons (pv 0) pa_nil)) (pv 1) (nomark _))))) (pss_one (ps_ret pe_bl)) pss_nil)
      (pss_one (ps_ret (pe_callB (cr_all rfl) (by rfl) T.n_all (by decide +kernel) (pa_cons (pe_lc (own := [("entries", 3)]) (g := gName 3) (tt := tYes) rfl sc_are_rows.nd (pi_lt (pv 0)) (blkOk_by (own := [("entries", 3)]) (N := N_are_rows) (sc := defScope s_are_rows) (by decide +kernel)) (fun _ _ _ _ _ => pg_name (i := 3) sc_are_rows.nd rfl (Or.inl rfl)) (fun _ _ _ _ _ => pts_nil) (fun _ _ _ _ _ => (pe_call G_are_items hr_are_items (by rfl) T.m_are_items T.F_are_items.kp T.B_are_items .nil pass0 (pa_cons (pv 3) (pa_cons pe_int (pa_cons (pv 2) pa_nil)))))) pa_nil))))), ?_⟩
    refine seq_op fun N hN => ?_
    walk_at "rs"
    refine ⟨by decide, fun p H1 s1 p0 p1 => ⟨_, p, ⟨rfl, rfl⟩, p1, d, dp_same s1 hd, ite2 (fun z => ?_) (fun z => ?_)⟩⟩
    · have e : isRows m w d = false := by unfold isRows; rw [isTyN (by rw [z]; decide)]
      have q := kq H1 s1
      rw [e] at q; exact q
    obtain ⟨ds, e⟩ := isTyS (d := d) (by rw [Bool.not_eq_false] at z; exact z)
    obtain ⟨a, xs, rfl, ha, hx⟩ := sq_dp (dp_same s1 hd) e
    obtain ⟨l1, o1⟩ := ok_sq od e
    have lx := dpa_len hx
    refine ⟨a, rfl, xs, ha, ite2 (fun z => ?_) (fun z => hN _ _ ?_)⟩
    · have e' : isRows m w d = false := by unfold isRows; rw [e]; show (decide _ && _) = false; rw [decide_eq_false (by rw [← lx]; exact z)]; rfl
      have q := kq H1 s1
      rw [e'] at q; exact q
    clear hN N
    walk_at "rs"
    refine lc_bl (isItems 1 w) (fun Q q => ⟨_, rfl, q⟩) ha hx (by omega) (fun x y G hy s2 hxy Q2 h2 => ?_) fun D G s2 eD => ⟨D, ds.map (isItems 1 w), rfl, SqL.of eD, ?_⟩
    · walk_at "rs"
      exact ⟨x, y, 1, w, rfl, hxy, okA_mem o1 hy, h2⟩
    · have q := kq G (Same.trans s1 s2)
      unfold isRows at q
      rw [e] at q
      have e2 : ((ds.length : Int) = m) := by rw [← lx]; exact Decidable.not_not.mp z
      dsimp only at q
      rw [decide_eq_true e2, Bool.true_and] at q
      rw [all_bl]; exact q
theorem isKind_kS (k : Bool) : isKind (.str (kS k)) = some k := by cases k <;> rfl
def sp_part (K : PySem.W.Frag) : Sp := fun vs H Q _ => ∃ (k : Bool) (v : V) (d : PyData) (w : Int), vs = [.str (kS k), v, .int w] ∧ Dp K H v d ∧ okD d = true ∧ ∀ H', Same H H' → Q (.bl (isPart k w d)) H'
theorem ok_is_part (T : Txt w K mg) : FnOk P w K mg base CX0 5 T.a_is_part T.d_is_part ["kind", "value", "width"] (sp_part K) := by
  refine T.F_is_part.ok sc_is_part (fun vs H Q E h => ?_) (fun cdv A outer s H vs Q E hr h => ?_)
  · obtain ⟨k, v, d, w, rfl, _⟩ := h
    rfl
  · obtain ⟨k, v, d, w, rfl, hd, od, kq⟩ := h
    have hr_are_items : Room 4 _ := hr
    have G_are_items := ok_are_items (P := P) (base := base) T
    have hr_is_fraction : Room 2 _ := hr.mono (by decide)
    have G_is_fraction := ok_is_fraction (P := P) (base := base) T
    refine ⟨_, (pss_cons (ps_if (pt_not (pt_val (pe_callB (call_isiDK (K := K) rfl) (by rfl) T.n_isinstance (by decide +kernel) (pa_cons (pv 1) (pa_cons (pe_bltn (v := .ty "tuple") (u := .type "tuple") (by rfl) T.n_tuple (by decide +kernel) rfl) pa_nil))))) (pss_one (ps_ret pe_bl)) pss_nil)
      (pss_cons (ps_if (pt_cmpR op_eqS (pv 0) pe_str (nomark _)) (pss_one (ps_ret (pe_and (pe_cmpR op_eqI (pe_callB call_len_seq (by rfl) T.n_len (by decide +kernel) (pa_cons (pv 1) pa_nil)) pe_int (nomark _)) (pe_and (pe_call G_are_items hr_are_items (by rfl) T.m_are_items T.F_are_items.kp T.B_are_items .nil pass0 (pa_cons (pe_ix ix_tup (pv 1) pe_int (fun _ _ => rfl)) (pa_cons pe_int (pa_cons (pv 2) pa_nil)))) (pe_one (pe_call G_are_items hr_are_items (by rfl) T.m_are_items T.F_are_items.kp T.B_are_items .nil pass0 (pa_cons (pe_ix ix_tup (pv 1) pe_int (fun _ _ => rfl)) (pa_cons pe_int (pa_cons (pv 2) pa_nil))))))))) pss_nil)
      (pss_cons (ps_if (PW.pt (pw_or (pt_cmpR op_neI (pe_callB call_len_seq (by rfl) T.n_len (by decide +kernel) (pa_cons (pv 1) pa_nil)) pe_int (nomark _)) (pw_or1 (pt_not (pt_val (pe_call G_is_fraction hr_is_fraction (by rfl) T.m_is_fraction T.F_is_fraction.kp T.B_is_fraction .nil pass0 (pa_cons (pe_ix ix_tup (pv 1) pe_int (fun _ _ => rfl)) pa_nil))))))) (pss_one (ps_ret pe_bl)) pss_nil)
      (pss_one (ps_ret (pe_and (pe_call G_are_items hr_are_items (by rfl) T.m_are_items T.F_are_items.kp T.B_are_items .nil pass0 (pa_cons (pe_ix ix_tup (pv 1) pe_int (fun _ _ => rfl)) (pa_cons pe_int (pa_cons (pv 2) pa_nil)))) (pe_one (pe_call G_are_items hr_are_items (by rfl) T.m_are_items T.F_are_items.kp T.B_are_items .nil pass0 (pa_cons (pe_ix ix_tup (pv 1) pe_int (fun _ _ => rfl)) (pa_cons pe_int (pa_cons (pv 2) pa_nil))))))))))), ?_⟩
    refine seq_op fun N hN => ?_
    walk_at "rs"
    refine ⟨v, "tuple", ⟨rfl, rfl⟩, d, hd, by decide, ite2 (fun z => ?_) (fun z => hN _ _ ?_)⟩
    · have e : isPart k w d = false := by cases d <;> first | rfl | cases z
      have q := kq H (Same.refl _)
      rw [e] at q; exact q
    clear hN N
    obtain ⟨ds, rfl⟩ := isTyT (d := d) (by rw [Bool.not_eq_false] at z; exact z)
    clear z
    cases hd with
    | @tup a xs _ ha hx =>
    have lx := dpa_len hx
    obtain ⟨l1, o1⟩ := okD_tup.mp od
    cases k with
    | true =>
      refine seq_op fun N hN => ?_
      walk_at "rs"
      refine iteTT rfl ⟨xs, .inr ha, ite2 (fun z => ?_) (fun z => ?_)⟩
      · obtain ⟨x, y, rfl⟩ : ∃ x y, ds = [x, y] := by
          rcases ds with _ | ⟨x, _ | ⟨y, _ | ⟨u, r⟩⟩⟩
          · rw [lx] at z; exact absurd z (by simp)
          · rw [lx] at z; exact absurd z (by simp)
          · exact ⟨x, y, rfl⟩
          · rw [lx] at z; exact absurd z (by simp; omega)
        cases hx with
        | @cons vx _ _ _ hx1 hx =>
        cases hx with
        | @cons vy _ _ _ hx2 hx =>
        cases hx
        have ox : okD x = true := okA_mem o1 (by simp)
        have oy : okD y = true := okA_mem o1 (by simp)
        refine ⟨_, ha, vx, rfl, vx, x, 2, w, rfl, hx1, ox, fun H1 s1 => ⟨isItems 2 w x, rfl, ite2 (fun z1 => ⟨_, Same.seqT s1 ha, vy, rfl, vy, y, 2, w, rfl, dp_same s1 hx2, oy, fun H2 s2 => ?_⟩) (fun z1 => ?_)⟩⟩
        · have q := kq H2 (Same.trans s1 s2)
          have e : isPart true w (.tuple [x, y]) = (isItems 2 w x && isItems 2 w y) := rfl
          rw [e, z1, Bool.true_and] at q; exact q
        · have q := kq H1 s1
          have e : isPart true w (.tuple [x, y]) = (isItems 2 w x && isItems 2 w y) := rfl
          rw [e, Bool.eq_false_iff.mpr z1, Bool.false_and] at q; exact q
      · have e : isPart true w (.tuple ds) = false := by
          rcases ds with _ | ⟨x, _ | ⟨y, _ | ⟨u, r⟩⟩⟩
          · rfl
          · rfl
          · rw [lx] at z; exact absurd rfl z
          · rfl
        have q := kq H (Same.refl _)
        rw [e] at q; exact q
    | false =>
      refine seq_op fun N hN => ?_
      walk_at "rs"
      refine iteFF (by decide) (hN _ _ ?_)
      clear hN N
      refine seq_op fun N hN => ?_
      walk_at "rs"
      refine ⟨xs, .inr ha, ite2 (fun z => ?_) (fun z => ?_)⟩
      · have e : isPart false w (.tuple ds) = false := by
          rcases ds with _ | ⟨x, _ | ⟨y, _ | ⟨u, _ | ⟨u', r⟩⟩⟩⟩
          · rfl
          · rfl
          · rfl
          · rw [lx] at z; exact absurd rfl z
          · rfl
        have q := kq H (Same.refl _)
        rw [e] at q; exact q
      obtain ⟨x, y, u, rfl⟩ : ∃ x y u, ds = [x, y, u] := by
        rcases ds with _ | ⟨x, _ | ⟨y, _ | ⟨u, _ | ⟨u', r⟩⟩⟩⟩
        · rw [lx] at z; exact absurd (by simp) z
        · rw [lx] at z; exact absurd (by simp) z
        · rw [lx] at z; exact absurd (by simp) z
        · exact ⟨x, y, u, rfl⟩
        · rw [lx] at z; exact absurd (by simp; omega) z
      clear z
      cases hx with
      | @cons vx _ _ _ hx1 hx =>
      cases hx with
      | @cons vy _ _ _ hx2 hx =>
      cases hx with
      | @cons vu _ _ _ hx3 hx =>
      cases hx
      have ox : okD x = true := okA_mem o1 (by simp)
      have ou : okD u = true := okA_mem o1 (by simp)
      have e : isPart false w (.tuple [x, y, u]) = (isFrac y && (isItems 1 w x && isItems 1 w u)) := rfl
      refine ⟨_, ha, vy, rfl, vy, y, rfl, hx2, fun H1 s1 => ⟨isFrac y, rfl, ite2 (fun z => ?_) (fun z => hN _ _ ?_)⟩⟩
      · have q := kq H1 s1
        rw [e, z, Bool.false_and] at q; exact q
      clear hN N
      rw [Bool.not_eq_false] at z
      rw [e, z, Bool.true_and] at kq
      walk_at "rs"
      refine ⟨_, Same.seqT s1 ha, vx, rfl, vx, x, 1, w, rfl, dp_same s1 hx1, ox, fun H2 s2 => ⟨isItems 1 w x, rfl, ite2 (fun z1 => ⟨_, Same.seqT (Same.trans s1 s2) ha, vu, rfl, vu, u, 1, w, rfl, dp_same (Same.trans s1 s2) hx3, ou, fun H3 s3 => ?_⟩) (fun z1 => ?_)⟩⟩
      · have q := kq H3 (Same.trans (Same.trans s1 s2) s3)
        rw [z1, Bool.true_and] at q; exact q
      · have q := kq H2 (Same.trans s1 s2)
        rw [Bool.eq_false_iff.mpr z1, Bool.false_and] at q; exact q
def sp_stage (K : PySem.W.Frag) : Sp := fun vs H Q _ => ∃ (v : V) (d : PyData) (w : Int), vs = [v, .int w] ∧ Dp K H v d ∧ okD d = true ∧ ∀ H', Same H H' → Q (.bl (isStage w d)) H'
theorem ok_is_stage (T : Txt w K mg) : FnOk P w K mg base CX0 6 T.a_is_stage T.d_is_stage ["value", "width"] (sp_stage K) := by
  refine T.F_is_stage.ok sc_is_stage (fun vs H Q E h => ?_) (fun cdv A outer s H vs Q E hr h => ?_)
  · obtain ⟨v, d, w, rfl, _⟩ := h
    rfl
  · obtain ⟨v, d, w, rfl, hd, od, kq⟩ := h
    have hr_is_part : Room 5 _ := hr
    have G_is_part := ok_is_part (P := P) (base := base) T
    refine ⟨_, (pss_cons (ps_if (PW.pt (pw_or (pt_not (pt_val (pe_callB (call_isiDK (K := K) rfl) (by rfl) T.n_isinstance (by decide +kernel) (pa_cons (pv 0) (pa_cons (pe_bltn (v := .ty "tuple") (u := .type "tuple") (by rfl) T.n_tuple (by decide +kernel) rfl) pa_nil))))) (pw_or1 (pt_cmpR op_neI (pe_callB call_len_seq (by rfl) T.n_len (by decide +kernel) (pa_cons (pv 0) pa_nil)) pe_int (nomark _))))) (pss_one (ps_ret pe_bl)) pss_nil)
      (pss_cons (ps_asg (pv 0) (pg_tup rfl (pgs_cons (pg_name (i := 2) sc_is_stage.nd rfl (Or.inr rfl)) (pgs_cons (pg_name (i := 3) sc_is_stage.nd rfl (Or.inl rfl)) pgs_nil))))
      (pss_cons (ps_if (PW.pt (pw_or (pt_not (pt_val (pe_callB (call_isiDK (K := K) rfl) (by rfl) T.n_isinstance (by decide +kernel) (pa_cons (pv 2) (pa_cons (pe_bltn (v := .ty "str") (u := .type "str") (by rfl) T.n_str (by decide +kernel) rfl) pa_nil))))) (pw_or1 (pt_cmpR op_notIn_seq (pv 2) (pe_tupU (pa_cons pe_str (pa_cons pe_str pa_nil))) (by rfl))))) (pss_one (ps_ret pe_bl)) pss_nil)
      (pss_one (ps_ret (pe_and (pe_callB call_isiDT (by rfl) T.n_isinstance (by decide +kernel) (pa_cons (pv 3) (pa_cons (pe_tupU (pa_cons (pe_bltn (v := .ty "list") (u := .type "list") (by rfl) T.n_list (by decide +kernel) rfl) (pa_cons (pe_bltn (v := .ty "tuple") (u := .type "tuple") (by rfl) T.n_tuple (by decide +kernel) rfl) pa_nil))) pa_nil))) (pe_one (pe_callB (cr_all rfl) (by rfl) T.n_all (by decide +kernel) (pa_cons (pe_lc (own := [("part", 4)]) (g := gName 4) (tt := tYes) rfl sc_is_stage.nd (pi_lt (pv 3)) (blkOk_by (own := [("part", 4)]) (N := N_is_stage) (sc := defScope s_is_stage) (by decide +kernel)) (fun _ _ _ _ _ => pg_name (i := 4) sc_is_stage.nd rfl (Or.inl rfl)) (fun _ _ _ _ _ => pts_nil) (fun _ _ _ _ _ => (pe_call G_is_part hr_is_part (by rfl) T.m_is_part T.F_is_part.kp T.B_is_part .nil pass0 (pa_cons (pv 2) (pa_cons (pv 4) (pa_cons (pv 1) pa_nil)))))) pa_nil))))))))), ?_⟩
    refine seq_op fun N hN => ?_
    walk_at "rs"
    refine ⟨v, "tuple", ⟨rfl, rfl⟩, d, hd, by decide, ite2 (fun z => ?_) (fun z => ?_)⟩
    · have e : isStage w d = false := by cases d <;> first | rfl | cases z
      have q := kq H (Same.refl _)
      rw [e] at q; exact q
    obtain ⟨ds, rfl⟩ := isTyT (d := d) (by rw [Bool.not_eq_false] at z; exact z)
    clear z
    cases hd with
    | @tup a xs _ ha hx =>
    have lx := dpa_len hx
    obtain ⟨l1, o1⟩ := okD_tup.mp od
    refine ⟨a, rfl, xs, .inr ha, ite2 (fun z => ?_) (fun z => hN _ _ ?_)⟩
    · have e : isStage w (.tuple ds) = false := by
        rcases ds with _ | ⟨x, _ | ⟨y, _ | ⟨u, r⟩⟩⟩
        · rfl
        · rfl
        · rw [lx] at z; exact absurd rfl z
        · rfl
      have q := kq H (Same.refl _)
      rw [e] at q; exact q
    clear hN N
    obtain ⟨x, y, rfl⟩ : ∃ x y, ds = [x, y] := by
      rcases ds with _ | ⟨x, _ | ⟨y, _ | ⟨u, r⟩⟩⟩
      · rw [lx] at z; exact absurd (by simp) z
      · rw [lx] at z; exact absurd (by simp) z
      · exact ⟨x, y, rfl⟩
      · rw [lx] at z; exact absurd (by simp; omega) z
    clear z
    cases hx with
    | @cons vx _ _ _ hx1 hx =>
    cases hx with
    | @cons vy _ _ _ hx2 hx =>
    cases hx
    have oy : okD y = true := okA_mem o1 (by simp)
    refine seq_op fun N hN => ?_
    walk_at "rs"
    refine ⟨_, _, rfl, ha, rfl, ?_⟩
    unfold gCons gNil
    walk_at "rs"
    refine ⟨_, _, ⟨rfl, rfl⟩, _, _, rfl, rfl, hN _ _ ?_⟩
    clear hN N
    refine seq_op fun N hN => ?_
    walk_at "rs"
    refine ⟨vx, "str", ⟨rfl, rfl⟩, x, hx1, by decide, ite2 (fun z => ?_) (fun z => ?_)⟩
    · have e : isStage w (.tuple [x, y]) = false := by cases x <;> first | rfl | cases z
      have q := kq H (Same.refl _)
      rw [e] at q; exact q
    obtain ⟨s, rfl⟩ : ∃ s, x = .str s := by cases x <;> first | exact ⟨_, rfl⟩ | exact absurd rfl z
    cases hx1
    clear z
    refine ⟨by decide, fun q1 H1 s1 q10 q11 => ⟨_, .inr (.inl (.inl q11)), rfl, rfl, ite2 (fun z => ?_) (fun z => hN _ _ ?_)⟩⟩
    · have e : isKind (.str s) = none := by
        have h1 : ¬ s = "heads" := fun e => by rw [e] at z; exact absurd z (by decide)
        have h2 : ¬ s = "bend" := fun e => by rw [e] at z; exact absurd z (by decide)
        show (if s = "heads" then some true else if s = "bend" then some false else none) = none
        rw [if_neg h1, if_neg h2]
      have e' : isStage w (.tuple [.str s, y]) = false := by
        show (match isKind (.str s), sqD y with | some k, some ds => ds.all (isPart k w) | _, _ => false) = false
        rw [e]
      have q := kq H1 s1
      rw [e'] at q; exact q
    clear hN N
    obtain ⟨k, rfl⟩ : ∃ k, s = kS k := by
      have z' : ((("heads" : Str) == s) || ((("bend" : Str) == s) || false)) = true := by rw [Bool.not_eq_false] at z; exact z
      rw [Bool.or_false, Bool.or_eq_true, beq_iff_eq, beq_iff_eq] at z'
      rcases z' with h | h
      · exact ⟨true, h.symm⟩
      · exact ⟨false, h.symm⟩
    clear z
    have eS : isStage w (.tuple [.str (kS k), y]) = (match sqD y with | some ds => ds.all (isPart k w) | none => false) := by
      show (match isKind (.str (kS k)), sqD y with | some k, some ds => ds.all (isPart k w) | _, _ => false) = _
      rw [isKind_kS]
      cases sqD y <;> rfl
    rw [eS] at kq
    walk_at "rs"
    refine ⟨by decide, fun q2 H2 s2 q20 q21 => ?_⟩
    have s12 := Same.trans s1 s2
    refine ⟨_, q2, ⟨rfl, rfl⟩, q21, y, dp_same s12 hx2, ite2 (fun z => ?_) (fun z => ?_)⟩
    · obtain ⟨es, e⟩ := isTyS z
      rw [e] at kq
      obtain ⟨b, ys, rfl, hb, hy⟩ := sq_dp (dp_same s12 hx2) e
      obtain ⟨l3, o3⟩ := ok_sq oy e
      refine lc_bl (isPart k w) (fun Q q => ⟨_, rfl, q⟩) hb hy (by omega) (fun x' y' G hy' s3 hxy Q2 h2 => ?_) fun D G s3 eD => ⟨D, es.map (isPart k w), rfl, SqL.of eD, ?_⟩
      · walk_at "rs"
        exact ⟨k, x', y', w, rfl, hxy, okA_mem o3 hy', h2⟩
      · rw [all_bl]; exact kq G (Same.trans s12 s3)
    · have q := kq H2 s12
      rw [isTyN z] at q; exact q
end
end LK

set_option Elab.async false
set_option linter.all false
set_option maxRecDepth 100000
namespace LK
open PySem PySem.Spec PyProof.Rows L2
local macro_rules | `(tactic| walk_at "rs") => `(tactic| simp only [tFld, sFld, tMeth, tMethZ, tMakeK, tMakeS, tMethS, tEf, tProp, tFmt, rEqO, rNeO, cxK, cxNK, tCallZ, tAsg, tOp, rI0, rS0, rB0, rI, rU, tUn, rEq, rNe, rIxL, rIxT, rIxS, rSetL, rSlLU, rSlS, rSlU, rCatL, rCatU, rRepL, rIn, tVar, tC, gName, gSub, tIfS, tTest, tB, tAnd, tOr, tNot, tNotV, tAndV, tOrV, tIf, tCall, tCons, tNil, tCB, tDrop, tRet, tRetN, tNext, tLstU, tTupU, tM0, tM1, tPar, tPar3, tAug, ipI, tBM, tBM0, rAppend, rPop, tBreak, sDPut, tDGet, tDGet2, tCont, tChain, tSl, tPart, tNoPart, L2.start, List.map, List.length_cons, List.length_nil, List.replicate, List.cons_append, List.nil_append, List.append_nil, List.getElem?_cons_zero, List.getElem?_cons_succ, List.set_cons_zero, List.set_cons_succ, Option.some.injEq, V.int.injEq, V.ref.injEq, V.str.injEq, V.bl.injEq, exists_eq_left', exists_eq_left, exists_and_left, decide_eq_true_eq, List.cons.injEq, and_true, true_and, scal, Bool.not_eq_true', decide_eq_false_iff_not, Nat.zero_add, Nat.reduceAdd, Nat.reduceSub, reduceCtorEq, false_and, exists_false, false_or, or_false, CPow, CPowW, CMul, CDiv, Int.reduceToNat, ↓reduceIte, wipe, sw, List.nil_append, List.singleton_append])
local macro_rules | `(tactic| walk_at "st") => `(tactic| (refine seq_op fun N hN => ?_; walk_at "rs"))
local macro_rules | `(tactic| walk_at "sd") => `(tactic| first | assumption | decide | omega)
local macro_rules | `(tactic| walk_at "rd") => `(tactic| repeat (first
  | refine ⟨_, SqL.of (by assumption), ?_⟩ | refine ⟨_, SqL.of upd_same, ?_⟩ | refine ⟨_, .inl (SqL.of (by assumption)), ?_⟩ | refine ⟨_, (by assumption : _ = some (HO.lst _)), ?_⟩ | refine ⟨_, upd_same, ?_⟩
  | refine ⟨_, rfl, ?_⟩ | refine And.intro (by walk_at "sd") ?_))

section
variable {P : Program} {w : World} {K : PySem.W.Frag} {mg : Str → Option Value} {base : Heap}
theorem ok__law_number (T : Txt w K mg) : FnOk P w K mg base CX0 1 T.a__law_number T.d__law_number ["x"] (spP1 K fun d => .bl (isNum d)) := by
  refine T.F__law_number.ok sc__law_number (fun vs H Q E h => ?_) (fun cdv A outer s H vs Q E hr h => ?_)
  · obtain ⟨v, d, rfl, _⟩ := h
    rfl
  · obtain ⟨v, d, rfl, hD, k⟩ := h
    refine ⟨_, (pss_one (ps_ret (pe_and (pe_callB (call_isiDK (K := K) rfl) (by rfl) T.n_isinstance (by decide +kernel) (pa_cons (pv 0) (pa_cons (pe_bltn (v := .ty "int") (u := .type "int") (by rfl) T.n_int (by decide +kernel) rfl) pa_nil))) (pe_one (pe_not (pe_callB (call_isiDK (K := K) rfl) (by rfl) T.n_isinstance (by decide +kernel) (pa_cons (pv 0) (pa_cons (pe_bltn (v := .ty "bool") (u := .type "bool") (by rfl) T.n_bool (by decide +kernel) rfl) pa_nil)))))))), ?_⟩
    walk_at "rs"
    refine ⟨v, "int", ⟨rfl, rfl⟩, d, hD, by decide, ite2 (fun h => ⟨v, "bool", ⟨rfl, rfl⟩, d, hD, by decide, ?_⟩) (fun h => ?_)⟩
    · have e : isNum d = !isTy "bool" d := by cases d <;> first | rfl | cases h
      rw [← e]; exact k H (Same.refl _)
    · have e : isNum d = false := by cases d <;> first | rfl | (exact absurd rfl h)
      have q : Q (.bl (isNum d)) H := k H (Same.refl _)
      rw [e] at q; exact q
def sp_within (K : PySem.W.Frag) : Sp := fun vs H Q _ => ∃ v d, ∃ lo hi : Int, vs = [v, .int lo, .int hi] ∧ Dp K H v d ∧ ∀ H', Same H H' → Q (.bl (within lo hi d)) H'
theorem ok__law_within (T : Txt w K mg) : FnOk P w K mg base CX0 2 T.a__law_within T.d__law_within ["x", "least", "most_y"] (sp_within K) := by
  refine T.F__law_within.ok sc__law_within (fun vs H Q E h => ?_) (fun cdv A outer s H vs Q E hr h => ?_)
  · obtain ⟨v, d, lo, hi, rfl, _⟩ := h
    rfl
  · obtain ⟨v, d, lo, hi, rfl, hd, k⟩ := h
    have hr__law_number : Room 1 _ := hr
    have G__law_number := ok__law_number (P := P) (base := base) T
    refine ⟨_, (pss_one (ps_ret (pe_and (pe_call G__law_number hr__law_number (by rfl) T.m__law_number T.F__law_number.kp T.B__law_number .nil pass0 (pa_cons (pv 0) pa_nil)) (pe_one (pe_chain op_le op_le (pv 1) (pv 0) (pv 2)))))), ?_⟩
    walk_at "rs"
    refine ⟨v, d, rfl, hd, fun H1 s1 => ⟨isNum d, rfl, ite2 (fun hp => ?_) (fun hp => ?_)⟩⟩
    · obtain ⟨i, rfl, rfl⟩ := isNumI hd hp
      have q := k H1 s1
      rw [within_i] at q
      refine ⟨i, rfl, ite2 (fun h1 => ⟨i, rfl, ?_⟩) (fun h1 => ?_)⟩
      · rw [decide_eq_true h1, Bool.true_and] at q; exact q
      · rw [decide_eq_false h1, Bool.false_and] at q; exact q
    · have q := k H1 s1
      rw [within_no hp] at q; exact q
theorem ok__law_is_fraction (T : Txt w K mg) : FnOk P w K mg base CX0 2 T.a__law_is_fraction T.d__law_is_fraction ["x"] (spP1 K fun d => .bl (isFrac d)) := by
  refine T.F__law_is_fraction.ok sc__law_is_fraction (fun vs H Q E h => ?_) (fun cdv A outer s H vs Q E hr h => ?_)
  · obtain ⟨v, d, rfl, _⟩ := h
    rfl
  · obtain ⟨v, d, rfl, hD, k⟩ := h
    have hr__law_number : Room 1 _ := hr
    have G__law_number := ok__law_number (P := P) (base := base) T
    have hr__law_gcd : Room 1 _ := hr
    have G__law_gcd := ok__law_gcd (P := P) (base := base) T
    refine ⟨_, (pss_cons (ps_if (PW.pt (pw_or (pt_not (pt_val (pe_callB (call_isiDK (K := K) rfl) (by rfl) T.n_isinstance (by decide +kernel) (pa_cons (pv 0) (pa_cons (pe_bltn (v := .ty "tuple") (u := .type "tuple") (by rfl) T.n_tuple (by decide +kernel) rfl) pa_nil))))) (pw_or1 (pt_cmpR op_neI (pe_callB call_len_seq (by rfl) T.n_len (by decide +kernel) (pa_cons (pv 0) pa_nil)) pe_int (nomark _))))) (pss_one (ps_ret pe_bl)) pss_nil)
      (pss_cons (ps_if (PW.pt (pw_or (pt_not (pt_val (pe_call G__law_number hr__law_number (by rfl) T.m__law_number T.F__law_number.kp T.B__law_number .nil pass0 (pa_cons (pe_ix ix_tup (pv 0) pe_int (fun _ _ => rfl)) pa_nil)))) (pw_or1 (pt_not (pt_val (pe_call G__law_number hr__law_number (by rfl) T.m__law_number T.F__law_number.kp T.B__law_number .nil pass0 (pa_cons (pe_ix ix_tup (pv 0) pe_int (fun _ _ => rfl)) pa_nil))))))) (pss_one (ps_ret pe_bl)) pss_nil)
      (pss_one (ps_ret (pe_and (pe_cmpR op_ge (pe_ix ix_tup (pv 0) pe_int (fun _ _ => rfl)) pe_int (nomark _)) (pe_one (pe_cmpR op_eqI (pe_call G__law_gcd hr__law_gcd (by rfl) T.m__law_gcd T.F__law_gcd.kp T.B__law_gcd .nil pass0 (pa_cons (pe_ix ix_tup (pv 0) pe_int (fun _ _ => rfl)) (pa_cons (pe_ix ix_tup (pv 0) pe_int (fun _ _ => rfl)) pa_nil))) pe_int (nomark _)))))))), ?_⟩
    refine seq_op fun N hN => ?_
    walk_at "rs"
    have fin : ∀ H', Same H H' → isFrac d = false → Q (.bl false) H' := fun H' s e => by
      have q : Q (.bl (isFrac d)) H' := k H' s
      rw [e] at q; exact q
    refine ⟨v, "tuple", ⟨rfl, rfl⟩, d, hD, by decide, ite2 (fun z => fin H (Same.refl _) (by cases d <;> first | rfl | cases z)) (fun z => ?_)⟩
    obtain ⟨ds, rfl⟩ := isTyT (d := d) (by rw [Bool.not_eq_false] at z; exact z)
    clear z
    cases hD with
    | @tup a xs _ ha hx =>
    have lx := dpa_len hx
    refine ⟨a, rfl, xs, .inr ha, ite2 (fun z => fin H (Same.refl _) ?_) (fun z => hN _ _ ?_)⟩
    · rcases ds with _ | ⟨x, _ | ⟨y, _ | ⟨u, r⟩⟩⟩
      · rfl
      · cases x <;> rfl
      · rw [lx] at z; exact absurd rfl z
      · cases x <;> cases y <;> rfl
    clear hN N
    obtain ⟨x, y, rfl⟩ : ∃ x y, ds = [x, y] := by
      rcases ds with _ | ⟨x, _ | ⟨y, _ | ⟨u, r⟩⟩⟩
      · rw [lx] at z; exact absurd (by simp) z
      · rw [lx] at z; exact absurd (by simp) z
      · exact ⟨x, y, rfl⟩
      · rw [lx] at z; exact absurd (by simp; omega) z
    clear z
    cases hx with
    | @cons vx _ _ _ hx1 hx =>
    cases hx with
    | @cons vy _ _ _ hx2 hx =>
    cases hx
    refine seq_op fun N hN => ?_
    walk_at "rs"
    refine ⟨_, ha, vx, rfl, vx, x, rfl, hx1, fun H1 s1 => ⟨isNum x, rfl, ite2 (fun z => fin H1 s1 (by cases x <;> first | rfl | cases z)) (fun z => ?_)⟩⟩
    refine ⟨_, Same.seqT s1 ha, vy, rfl, vy, y, rfl, dp_same s1 hx2, fun H2 s2 => ⟨isNum y, rfl, ite2 (fun z2 => fin H2 (Same.trans s1 s2) (by cases x <;> cases y <;> first | rfl | cases z2)) (fun z2 => hN _ _ ?_)⟩⟩
    clear hN N
    obtain ⟨i, rfl, rfl⟩ := isNumI hx1 (by rw [Bool.not_eq_false] at z; exact z)
    obtain ⟨j, rfl, rfl⟩ := isNumI hx2 (by rw [Bool.not_eq_false] at z2; exact z2)
    have s12 := Same.trans s1 s2
    walk_at "rs"
    refine ⟨_, Same.seqT s12 ha, _, rfl, j, rfl, ite2 (fun h1 => ⟨_, Same.seqT s12 ha, _, rfl, _, Same.seqT s12 ha, _, rfl, i, j, ⟨rfl, rfl⟩, ?_⟩) (fun h1 => fin H2 s12 (by
      show (decide (1 ≤ j) && _) = false
      rw [decide_eq_false h1]; rfl))⟩
    have e : isFrac (.tuple [.int i, .int j]) = decide ((((Nat.gcd i.natAbs j.natAbs : Nat) : Int)) = 1) := by
      show (decide (1 ≤ j) && _) = _
      rw [decide_eq_true h1, Bool.true_and]
      exact decide_eq_decide.mpr (by omega)
    rw [← e]; exact k H2 s12
def sp_lites (K : PySem.W.Frag) : Sp := fun vs H Q _ => ∃ (v : V) (d : PyData) (m : Nat) (w : Int), vs = [v, .int (m : Int), .int w] ∧ Dp K H v d ∧ okD d = true ∧ m ≤ 1000 ∧ ∀ H', Same H H' → Q (.bl (isItems m w d)) H'
theorem ok__law_are_items (T : Txt w K mg) : FnOk P w K mg base CX0 3 T.a__law_are_items T.d__law_are_items ["value", "many", "width"] (sp_lites K) := by
  refine T.F__law_are_items.ok sc__law_are_items (fun vs H Q E h => ?_) (fun cdv A outer s H vs Q E hr h => ?_)
  · obtain ⟨v, d, m, w, rfl, _⟩ := h
    rfl
  · obtain ⟨v, d, m, w, rfl, hd, od, m9, kq⟩ := h
    have hr__law_is_fraction : Room 2 _ := hr
    have G__law_is_fraction := ok__law_is_fraction (P := P) (base := base) T
    have hr__law_within : Room 2 _ := hr
    have G__law_within := ok__law_within (P := P) (base := base) T
    refine ⟨_, (pss_cons (ps_if (pt_not (pt_val (pe_callB call_isiDT (by rfl) T.n_isinstance (by decide +kernel) (pa_cons (pv 0) (pa_cons (pe_tupU (pa_cons (pe_bltn (v := .ty "list") (u := .type "list") (by rfl) T.n_list (by decide +kernel) rfl) (pa_cons (pe_bltn (v := .ty "tuple") (u := .type "tuple") (by rfl) T.n_tuple (by decide +kernel) rfl) pa_nil))) pa_nil))))) (pss_one (ps_ret pe_bl)) pss_nil)
      (pss_cons (ps_for PassesOwn.never rfl (pi_lt (pv 0)) (pg_name (i := 3) sc__law_are_items.nd rfl (Or.inl rfl)) (pss_cons (ps_if (PW.pt (pw_or (pt_not (pt_val (pe_callB (call_isiDK (K := K) rfl) (by rfl) T.n_isinstance (by decide +kernel) (pa_cons (pv 3) (pa_cons (pe_bltn (v := .ty "tuple") (u := .type "tuple") (by rfl) T.n_tuple (by decide +kernel) rfl) pa_nil))))) (pw_or (pt_cmpR op_neI (pe_callB call_len_seq (by rfl) T.n_len (by decide +kernel) (pa_cons (pv 3) pa_nil)) (pe_op op_add (pv 1) pe_int) (nomark _)) (pw_or1 (pt_not (pt_val (pe_call G__law_is_fraction hr__law_is_fraction (by rfl) T.m__law_is_fraction T.F__law_is_fraction.kp T.B__law_is_fraction .nil pass0 (pa_cons (pe_ix ix_tup (pv 3) (pv 1) (fun _ _ => rfl)) pa_nil)))))))) (pss_one (ps_ret pe_bl)) pss_nil)
      (pss_one (ps_for PassesOwn.never rfl (pi_range1 (by rfl) T.n_range (pa_cons (pv 1) pa_nil)) (pg_name (i := 4) sc__law_are_items.nd rfl (Or.inl rfl)) (pss_one (ps_if (pt_not (pt_val (pe_call G__law_within hr__law_within (by rfl) T.m__law_within T.F__law_within.kp T.B__law_within .nil pass0 (pa_cons (pe_ix ix_tup (pv 3) (pv 4) (fun _ _ => rfl)) (pa_cons pe_int (pa_cons (pe_op op_sub (pv 2) pe_int) pa_nil)))))) (pss_one (ps_ret pe_bl)) pss_nil))))))
      (pss_one (ps_ret pe_bl)))), ?_⟩
    refine seq_op fun N hN => ?_
    walk_at "rs"
    refine ⟨by decide, fun p H1 s1 p0 p1 => ⟨_, p, ⟨rfl, rfl⟩, p1, d, dp_same s1 hd, ite2 (fun z => ?_) (fun z => hN _ _ ?_)⟩⟩
    · have e : isItems m w d = false := by unfold isItems; rw [isTyN (by rw [z]; decide)]
      have q := kq H1 s1
      rw [e] at q; exact q
    clear hN N
    obtain ⟨ds, e⟩ := isTyS (d := d) (by rw [Bool.not_eq_false] at z; exact z)
    obtain ⟨a, xs, rfl, ha, hx⟩ := sq_dp (dp_same s1 hd) e
    obtain ⟨l1, o1⟩ := ok_sq od e
    have lx := dpa_len hx
    have eA : isItems m w d = ds.all (isItem m w) := by unfold isItems; rw [e]
    have no : ∀ (G : Hp) (x : PyData), Same H1 G → x ∈ ds → isItem m w x = false → Q (.bl false) G := fun G x s h1 h2 => by
      have q := kq G (Same.trans s1 s)
      have : ds.all (isItem m w) = false := by
        rw [List.all_eq_false]
        exact ⟨x, h1, by rw [h2]; decide⟩
      rw [eA, this] at q; exact q
    refine seq_op fun N hN => ?_
    refine for_lt (K := K) (a := a) (xs := xs) (fun Q q => ⟨_, rfl, q⟩) ha (fun i σ G => (∃ x3 x4 : Option V, σ = [some (.ref a), some (.int m), some (.int w), x3, x4]) ∧ Same H1 G ∧ (ds.take i).all (isItem m w) = true) ⟨⟨_, _, rfl⟩, Same.refl _, rfl⟩ (fun i σ G q => q.2.1) ?_ ?_
    · rintro i x σ G hx1 ⟨⟨x3, x4, rfl⟩, sG, al⟩
      have li : i < ds.length := by rw [← lx]; exact (List.getElem?_eq_some_iff.mp hx1).1
      have hy : ds[i]? = some ds[i] := List.getElem?_eq_getElem li
      have my : ds[i] ∈ ds := List.getElem_mem li
      have hd1 : Dp K G x ds[i] := dp_same sG (dpa_at hx hx1 hy)
      have oy : okD ds[i] = true := okA_mem o1 my
      have next : ∀ (G2 : Hp), Same G G2 → isItem m w ds[i] = true → ∀ x4' : Option V, (∃ x3 x4 : Option V, [some (V.ref a), some (.int m), some (.int w), some x, x4'] = [some (.ref a), some (.int m), some (.int w), x3, x4]) ∧ Same H1 G2 ∧ (ds.take (i + 1)).all (isItem m w) = true := fun G2 s2 hi x4' => ⟨⟨_, _, rfl⟩, Same.trans sG s2, by
        rw [List.take_add_one, hy, List.all_append, al]
        simp [hi]⟩
      have no1 : ∀ G2 : Hp, Same G G2 → isItem m w ds[i] = false → Q (.bl false) G2 := fun G2 s2 h => no G2 _ (Same.trans sG s2) my h
      generalize ds[i] = y at *
      walk_at "rs"
      refine seq_op fun N2 hN2 => ?_
      walk_at "rs"
      refine ⟨x, "tuple", ⟨rfl, rfl⟩, y, hd1, by decide, ite2 (fun z => no1 G (Same.refl _) (by cases y <;> first | rfl | cases z)) (fun z => ?_)⟩
      obtain ⟨es, rfl⟩ := isTyT (d := y) (by rw [Bool.not_eq_false] at z; exact z)
      clear z
      cases hd1 with
      | @tup b zs _ hb hz =>
      have lz := dpa_len hz
      refine ⟨b, rfl, zs, .inr hb, ite2 (fun z => no1 G (Same.refl _) ?_) (fun z => ?_)⟩
      · show (decide _ && _) = false
        rw [decide_eq_false (fun e => z (by rw [lz, e]; rfl))]; rfl
      have lm : es.length = m + 1 := by rw [lz] at z; omega
      clear z
      obtain ⟨f, hf⟩ : ∃ f, es[m]? = some f := ⟨_, List.getElem?_eq_getElem (by omega)⟩
      obtain ⟨vf, hvf⟩ : ∃ u, zs[m]? = some u := ⟨_, List.getElem?_eq_getElem (by omega)⟩
      have eI : isItem m w (.tuple es) = (es.dropLast.all (within 0 (w - 1)) && isFrac f) := by
        show (decide _ && (_ && (match es.getLast? with | some f => isFrac f | none => false))) = _
        rw [decide_eq_true lm, Bool.true_and, List.getLast?_eq_getElem?, show es.length - 1 = m by omega, hf]
      refine ⟨b, rfl, zs, hb, vf, at_of (j := m) rfl hvf, vf, f, rfl, dpa_at hz hvf hf, fun G1 t1 => ⟨isFrac f, rfl, ite2 (fun z => no1 G1 t1 (by rw [eI, z, Bool.and_false])) (fun z => hN2 _ _ ?_)⟩⟩
      clear hN2 N2
      rw [Bool.not_eq_false] at z
      rw [eI, z, Bool.and_true] at next no1
      refine ⟨_, rfl, (m : Int), rfl, by omega, by omega, for_range (lo := 0) (n := (m : Int).toNat) (fun j σ G' => (∃ x4 : Option V, σ = [some (.ref a), some (.int m), some (.int w), some (.ref b), x4]) ∧ Same G G' ∧ (es.dropLast.take j).all (within 0 (w - 1)) = true) ⟨⟨_, rfl⟩, t1, rfl⟩ ?_ ?_⟩
      · rintro j σ G2 hj ⟨⟨x5, rfl⟩, t2, alj⟩
        have lj : j < es.dropLast.length := by rw [List.length_dropLast]; omega
        have hyj : es.dropLast[j]? = some es.dropLast[j] := List.getElem?_eq_getElem lj
        have hyj2 : es[j]? = some es.dropLast[j] := by rw [List.getElem_dropLast]; exact List.getElem?_eq_getElem (by omega)
        have mj : es.dropLast[j] ∈ es.dropLast := List.getElem_mem lj
        obtain ⟨vj, hvj⟩ : ∃ u, zs[j]? = some u := ⟨_, List.getElem?_eq_getElem (by omega)⟩
        have dj : Dp K G vj es.dropLast[j] := dpa_at hz hvj hyj2
        generalize es.dropLast[j] = y at *
        walk_at "rs"
        refine ⟨zs, Same.seqT t2 hb, vj, at_of (j := j) (by omega) hvj, vj, y, 0, w - 1, rfl, dp_same t2 dj, fun G3 t3 => ⟨within 0 (w - 1) y, rfl, ite2 (fun z => no1 G3 (Same.trans t2 t3) ?_) (fun z => ⟨⟨_, rfl⟩, Same.trans t2 t3, ?_⟩)⟩⟩
        · rw [List.all_eq_false]
          exact ⟨y, mj, by rw [z]; decide⟩
        · rw [Bool.not_eq_false] at z
          rw [List.take_add_one, hyj, List.all_append, alj]
          simp [z]
      · rintro σ G2 ⟨⟨x5, rfl⟩, t2, alj⟩
        rw [show (m : Int).toNat = es.dropLast.length by rw [List.length_dropLast]; omega, List.take_length] at alj
        exact next G2 t2 alj _
    · rintro σ G ⟨⟨x3, x4, rfl⟩, sG, al⟩
      refine hN _ _ ?_
      walk_at "rs"
      have q := kq G (Same.trans s1 sG)
      rw [lx, List.take_length] at al
      rw [eA, al] at q; exact q
theorem kind_no {s : Str} (z : inV (.str s) [.str "heads", .str "bend"] = false) : isKind (.str s) = none := by
  have h1 : ¬ s = "heads" := fun e => by rw [e] at z; exact absurd z (by decide)
  have h2 : ¬ s = "bend" := fun e => by rw [e] at z; exact absurd z (by decide)
  show (if s = "heads" then some true else if s = "bend" then some false else none) = none
  rw [if_neg h1, if_neg h2]
theorem kind_is {s : Str} (z : ¬ inV (.str s) [.str "heads", .str "bend"] = false) : ∃ k, s = kS k := by
  have z' : ((("heads" : Str) == s) || ((("bend" : Str) == s) || false)) = true := by rw [Bool.not_eq_false] at z; exact z
  rw [Bool.or_false, Bool.or_eq_true, beq_iff_eq, beq_iff_eq] at z'
  rcases z' with h | h
  · exact ⟨true, h.symm⟩
  · exact ⟨false, h.symm⟩
theorem stage_none {w : Int} {s : Str} {y : PyData} (e : isKind (.str s) = none) : isStage w (.tuple [.str s, y]) = false := by
  show (match isKind (.str s), sqD y with | some k, some ds => ds.all (isPart k w) | _, _ => false) = false
  rw [e]
theorem stage_kS {w : Int} {k : Bool} {y : PyData} : isStage w (.tuple [.str (kS k), y]) = (match sqD y with | some ds => ds.all (isPart k w) | none => false) := by
  show (match isKind (.str (kS k)), sqD y with | some k, some ds => ds.all (isPart k w) | _, _ => false) = _
  rw [isKind_kS]
  cases sqD y <;> rfl
theorem ok__law_is_stage (T : Txt w K mg) : FnOk P w K mg base CX0 4 T.a__law_is_stage T.d__law_is_stage ["value", "width"] (sp_stage K) := by
  refine T.F__law_is_stage.ok sc__law_is_stage (fun vs H Q E h => ?_) (fun cdv A outer s H vs Q E hr h => ?_)
  · obtain ⟨v, d, w, rfl, _⟩ := h
    rfl
  · obtain ⟨v, d, w, rfl, hd, od, kq⟩ := h
    have hr__law_are_items : Room 3 _ := hr
    have G__law_are_items := ok__law_are_items (P := P) (base := base) T
    have hr__law_is_fraction : Room 2 _ := hr.mono (by decide)
    have G__law_is_fraction := ok__law_is_fraction (P := P) (base := base) T
    refine ⟨_, (pss_cons (ps_if (PW.pt (pw_or (pt_not (pt_val (pe_callB (call_isiDK (K := K) rfl) (by rfl) T.n_isinstance (by decide +kernel) (pa_cons (pv 0) (pa_cons (pe_bltn (v := .ty "tuple") (u := .type "tuple") (by rfl) T.n_tuple (by decide +kernel) rfl) pa_nil))))) (pw_or (pt_cmpR op_neI (pe_callB call_len_seq (by rfl) T.n_len (by decide +kernel) (pa_cons (pv 0) pa_nil)) pe_int (nomark _)) (pw_or1 (pt_not (pt_val (pe_callB (call_isiDK (K := K) rfl) (by rfl) T.n_isinstance (by decide +kernel) (pa_cons (pe_ix ix_tup (pv 0) pe_int (fun _ _ => rfl)) (pa_cons (pe_bltn (v := .ty "str") (u := .type "str") (by rfl) T.n_str (by decide +kernel) rfl) pa_nil))))))))) (pss_one (ps_ret pe_bl)) pss_nil)
      (pss_cons (ps_if (PW.pt (pw_or (pt_cmpR op_notIn_seq (pe_ix ix_tup (pv 0) pe_int (fun _ _ => rfl)) (pe_tupU (pa_cons pe_str (pa_cons pe_str pa_nil))) (by rfl)) (pw_or1 (pt_not (pt_val (pe_callB call_isiDT (by rfl) T.n_isinstance (by decide +kernel) (pa_cons (pe_ix ix_tup (pv 0) pe_int (fun _ _ => rfl)) (pa_cons (pe_tupU (pa_cons (pe_bltn (v := .ty "list") (u := .type "list") (by rfl) T.n_list (by decide +kernel) rfl) (pa_cons (pe_bltn (v := .ty "tuple") (u := .type "tuple") (by rfl) T.n_tuple (by decide +kernel) rfl) pa_nil))) pa_nil)))))))) (pss_one (ps_ret pe_bl)) pss_nil)
      (pss_cons (ps_set (i := 2) sc__law_is_stage.nd rfl (Or.inl rfl) (pe_ifExp (pt_cmpR op_eqS (pe_ix ix_tup (pv 0) pe_int (fun _ _ => rfl)) pe_str (nomark _)) pe_int pe_int))
      (pss_cons (ps_for PassesOwn.never rfl (pi_lt (pe_ix ix_tup (pv 0) pe_int (fun _ _ => rfl))) (pg_name (i := 3) sc__law_is_stage.nd rfl (Or.inl rfl)) (pss_cons (ps_if (PW.pt (pw_or (pt_not (pt_val (pe_callB (call_isiDK (K := K) rfl) (by rfl) T.n_isinstance (by decide +kernel) (pa_cons (pv 3) (pa_cons (pe_bltn (v := .ty "tuple") (u := .type "tuple") (by rfl) T.n_tuple (by decide +kernel) rfl) pa_nil))))) (pw_or1 (pt_cmpR op_neI (pe_callB call_len_seq (by rfl) T.n_len (by decide +kernel) (pa_cons (pv 3) pa_nil)) (pv 2) (nomark _))))) (pss_one (ps_ret pe_bl)) pss_nil)
      (pss_cons (ps_if (PW.pt (pw_or (pt_not (pt_val (pe_call G__law_are_items hr__law_are_items (by rfl) T.m__law_are_items T.F__law_are_items.kp T.B__law_are_items .nil pass0 (pa_cons (pe_ix ix_tup (pv 3) pe_int (fun _ _ => rfl)) (pa_cons (pe_op op_sub pe_int (pv 2)) (pa_cons (pv 1) pa_nil)))))) (pw_or1 (pt_not (pt_val (pe_call G__law_are_items hr__law_are_items (by rfl) T.m__law_are_items T.F__law_are_items.kp T.B__law_are_items .nil pass0 (pa_cons (pe_ix ix_tup (pv 3) (pe_op op_sub (pv 2) pe_int) (fun _ _ => rfl)) (pa_cons (pe_op op_sub pe_int (pv 2)) (pa_cons (pv 1) pa_nil))))))))) (pss_one (ps_ret pe_bl)) pss_nil)
      (pss_one (ps_if (PW.pt (pw_and (pt_cmpR op_eqI (pv 2) pe_int (nomark _)) (pw_and1 (pt_not (pt_val (pe_call G__law_is_fraction hr__law_is_fraction (by rfl) T.m__law_is_fraction T.F__law_is_fraction.kp T.B__law_is_fraction .nil pass0 (pa_cons (pe_ix ix_tup (pv 3) pe_int (fun _ _ => rfl)) pa_nil))))))) (pss_one (ps_ret pe_bl)) pss_nil)))))
      (pss_one (ps_ret pe_bl)))))), ?_⟩
    have fin : ∀ H', Same H H' → isStage w d = false → Q (.bl false) H' := fun H' s e => by
      have q := kq H' s
      rw [e] at q; exact q
    refine seq_op fun N hN => ?_
    walk_at "rs"
    refine ⟨v, "tuple", ⟨rfl, rfl⟩, d, hd, by decide, ite2 (fun z => fin H (Same.refl _) (by cases d <;> first | rfl | cases z)) (fun z => ?_)⟩
    obtain ⟨ds, rfl⟩ := isTyT (d := d) (by rw [Bool.not_eq_false] at z; exact z)
    clear z
    cases hd with
    | @tup a xs _ ha hx =>
    have lx := dpa_len hx
    obtain ⟨l1, o1⟩ := okD_tup.mp od
    refine ⟨a, rfl, xs, .inr ha, ite2 (fun z => fin H (Same.refl _) ?_) (fun z => ?_)⟩
    · rcases ds with _ | ⟨x, _ | ⟨y, _ | ⟨u, r⟩⟩⟩
      · rfl
      · rfl
      · rw [lx] at z; exact absurd rfl z
      · rfl
    obtain ⟨x, y, rfl⟩ : ∃ x y, ds = [x, y] := by
      rcases ds with _ | ⟨x, _ | ⟨y, _ | ⟨u, r⟩⟩⟩
      · rw [lx] at z; exact absurd (by simp) z
      · rw [lx] at z; exact absurd (by simp) z
      · exact ⟨x, y, rfl⟩
      · rw [lx] at z; exact absurd (by simp; omega) z
    clear z
    cases hx with
    | @cons vx _ _ _ hx1 hx =>
    cases hx with
    | @cons vy _ _ _ hx2 hx =>
    cases hx
    have oy : okD y = true := okA_mem o1 (by simp)
    refine ⟨a, rfl, _, ha, vx, rfl, vx, "str", ⟨rfl, rfl⟩, x, hx1, by decide, ite2 (fun z => fin H (Same.refl _) (by cases x <;> first | rfl | cases z)) (fun z => hN _ _ ?_)⟩
    clear hN N
    obtain ⟨s, rfl⟩ : ∃ s, x = .str s := by cases x <;> first | exact ⟨_, rfl⟩ | exact absurd rfl z
    cases hx1
    clear z
    refine seq_op fun N hN => ?_
    walk_at "rs"
    refine ⟨_, ha, _, rfl, by decide, fun q1 H1 s1 q10 q11 => ⟨_, .inr (.inl (.inl q11)), rfl, rfl, ite2 (fun z => fin H1 s1 (stage_none (kind_no z))) (fun z => ?_)⟩⟩
    obtain ⟨k, rfl⟩ := kind_is z
    clear z
    rw [stage_kS] at kq fin
    refine ⟨_, Same.seqT s1 ha, vy, rfl, by decide, fun q2 H2 s2 q20 q21 => ?_⟩
    have s12 := Same.trans s1 s2
    refine ⟨vy, q2, ⟨rfl, rfl⟩, q21, y, dp_same s12 hx2, ite2 (fun z => fin H2 s12 (by rw [isTyN (by rw [z]; decide)])) (fun z => hN _ _ ?_)⟩
    clear hN N
    obtain ⟨es, e⟩ := isTyS (d := y) (by rw [Bool.not_eq_false] at z; exact z)
    clear z
    rw [e] at kq fin
    dsimp only at kq fin
    obtain ⟨b, ys, rfl, hb, hy⟩ := sq_dp (dp_same s12 hx2) e
    obtain ⟨l3, o3⟩ := ok_sq oy e
    have ly := dpa_len hy
    have a2 := Same.seqT s12 ha
    refine cut_seq (fun σ G => σ = [some (.ref a), some (.int w), some (.int (if k = true then 2 else 3)), none] ∧ Same H2 G) (fun N hN => ?_) ?_
    · walk_at "rs"
      refine ⟨_, a2, _, rfl, _, rfl, ite2 (fun z => ?_) (fun z => ?_)⟩
      · have : k = true := by cases k; · exact absurd z (by decide)
                              · rfl
        subst this
        exact hN _ _ ⟨rfl, Same.refl _⟩
      · have : k = false := by cases k; · rfl
                               · exact absurd rfl z
        subst this
        exact hN _ _ ⟨rfl, Same.refl _⟩
    rintro σ G ⟨rfl, sG⟩
    have no : ∀ (G : Hp) (x : PyData), Same H2 G → x ∈ es → isPart k w x = false → Q (.bl false) G := fun G x s h1 h2 => fin G (Same.trans s12 s) (by
      rw [List.all_eq_false]
      exact ⟨x, h1, by rw [h2]; decide⟩)
    refine seq_op fun N hN => ?_
    refine for_lt (K := K) (a := b) (xs := ys) (fun Q q => ⟨_, rfl, a, _, 1, _, rfl, rfl, Same.seqT sG a2, rfl, q⟩) (H0 := H2) hb (fun i σ G => (∃ x3 : Option V, σ = [some (.ref a), some (.int w), some (.int (if k = true then 2 else 3)), x3]) ∧ Same H2 G ∧ (es.take i).all (isPart k w) = true) ⟨⟨_, rfl⟩, sG, rfl⟩ (fun i σ G q => q.2.1) ?_ ?_
    · rintro i x σ G hx1 ⟨⟨x3, rfl⟩, sG, al⟩
      have li : i < es.length := by rw [← ly]; exact (List.getElem?_eq_some_iff.mp hx1).1
      have hyi : es[i]? = some es[i] := List.getElem?_eq_getElem li
      have my : es[i] ∈ es := List.getElem_mem li
      have hd1 : Dp K G x es[i] := dp_same sG (dpa_at hy hx1 hyi)
      have oi : okD es[i] = true := okA_mem o3 my
      have next : ∀ (G2 : Hp), Same G G2 → isPart k w es[i] = true → (∃ x3 : Option V, [some (V.ref a), some (V.int w), some (V.int (if k = true then 2 else 3)), some x] = [some (.ref a), some (.int w), some (.int (if k = true then 2 else 3)), x3]) ∧ Same H2 G2 ∧ (es.take (i + 1)).all (isPart k w) = true := fun G2 s2 hi => ⟨⟨_, rfl⟩, Same.trans sG s2, by
        rw [List.take_add_one, hyi, List.all_append, al]
        simp [hi]⟩
      have no1 : ∀ G2 : Hp, Same G G2 → isPart k w es[i] = false → Q (.bl false) G2 := fun G2 s2 h => no G2 _ (Same.trans sG s2) my h
      generalize es[i] = u at *
      clear no fin kq hx1 al
      walk_at "rs"
      refine seq_op fun N2 hN2 => ?_
      walk_at "rs"
      refine ⟨x, "tuple", ⟨rfl, rfl⟩, u, hd1, by decide, ite2 (fun z => no1 G (Same.refl _) (by cases u <;> first | rfl | cases z)) (fun z => ?_)⟩
      obtain ⟨fs, rfl⟩ := isTyT (d := u) (by rw [Bool.not_eq_false] at z; exact z)
      clear z
      cases hd1 with
      | @tup r zs _ hr' hz =>
      have lz := dpa_len hz
      obtain ⟨l5, o5⟩ := okD_tup.mp oi
      cases k with
      | true =>
        refine ⟨r, rfl, zs, .inr hr', ite2 (fun z => no1 G (Same.refl _) ?_) (fun z => hN2 _ _ ?_)⟩
        · rcases fs with _ | ⟨x', _ | ⟨y', _ | ⟨u', q'⟩⟩⟩
          · rfl
          · rfl
          · rw [lz] at z; exact absurd rfl z
          · rfl
        clear hN2 N2
        obtain ⟨x', y', rfl⟩ : ∃ x y, fs = [x, y] := by
          rcases fs with _ | ⟨x', _ | ⟨y', _ | ⟨u', q'⟩⟩⟩
          · rw [lz] at z; exact absurd (by simp) z
          · rw [lz] at z; exact absurd (by simp) z
          · exact ⟨x', y', rfl⟩
          · rw [lz] at z; exact absurd (by simp; omega) z
        clear z
        cases hz with
        | @cons v1 _ _ _ z1 hz =>
        cases hz with
        | @cons v2 _ _ _ z2 hz =>
        cases hz
        have ox : okD x' = true := okA_mem o5 (by simp)
        have oz : okD y' = true := okA_mem o5 (by simp)
        have eP : isPart true w (.tuple [x', y']) = (isItems 2 w x' && isItems 2 w y') := rfl
        rw [eP] at next no1
        refine seq_op fun N2 hN2 => ?_
        walk_at "rs"
        refine ⟨_, hr', v1, rfl, v1, x', 2, w, rfl, z1, ox, by decide, fun G1 t1 => ⟨isItems 2 w x', rfl, ite2 (fun z => no1 G1 t1 (by rw [z]; rfl)) (fun z => ⟨_, Same.seqT t1 hr', v2, rfl, v2, y', 2, w, rfl, dp_same t1 z2, oz, by decide, fun G2 t2 => ⟨isItems 2 w y', rfl, ite2 (fun z' => no1 G2 (Same.trans t1 t2) (by rw [z', Bool.and_false])) (fun z' => hN2 _ _ ?_)⟩⟩)⟩⟩
        rw [Bool.not_eq_false] at z z'
        rw [z, z'] at next
        walk_at "rs"
        refine iteFF (by decide) ?_
        exact ⟨⟨_, rfl⟩, (next G2 (Same.trans t1 t2) rfl).2⟩
      | false =>
        refine ⟨r, rfl, zs, .inr hr', ite2 (fun z => no1 G (Same.refl _) ?_) (fun z => hN2 _ _ ?_)⟩
        · rcases fs with _ | ⟨x', _ | ⟨y', _ | ⟨u', _ | ⟨u2, q'⟩⟩⟩⟩
          · rfl
          · rfl
          · rfl
          · rw [lz] at z; exact absurd rfl z
          · rfl
        clear hN2 N2
        obtain ⟨x', y', u', rfl⟩ : ∃ x y u, fs = [x, y, u] := by
          rcases fs with _ | ⟨x', _ | ⟨y', _ | ⟨u', _ | ⟨u2, q'⟩⟩⟩⟩
          · rw [lz] at z; exact absurd (by simp) z
          · rw [lz] at z; exact absurd (by simp) z
          · rw [lz] at z; exact absurd (by simp) z
          · exact ⟨x', y', u', rfl⟩
          · rw [lz] at z; exact absurd (by simp; omega) z
        clear z
        cases hz with
        | @cons v1 _ _ _ z1 hz =>
        cases hz with
        | @cons v2 _ _ _ z2 hz =>
        cases hz with
        | @cons v3 _ _ _ z3 hz =>
        cases hz
        have ox : okD x' = true := okA_mem o5 (by simp)
        have oz : okD u' = true := okA_mem o5 (by simp)
        have eP : isPart false w (.tuple [x', y', u']) = (isFrac y' && (isItems 1 w x' && isItems 1 w u')) := rfl
        rw [eP] at next no1
        refine seq_op fun N2 hN2 => ?_
        walk_at "rs"
        refine ⟨_, hr', v1, rfl, v1, x', 1, w, rfl, z1, ox, by decide, fun G1 t1 => ⟨isItems 1 w x', rfl, ite2 (fun z => no1 G1 t1 (by rw [z, Bool.false_and, Bool.and_false])) (fun z => ⟨_, Same.seqT t1 hr', v3, rfl, v3, u', 1, w, rfl, dp_same t1 z3, oz, by decide, fun G2 t2 => ⟨isItems 1 w u', rfl, ite2 (fun z' => no1 G2 (Same.trans t1 t2) (by rw [z', Bool.and_false, Bool.and_false])) (fun z' => hN2 _ _ ?_)⟩⟩)⟩⟩
        clear hN2 N2
        rw [Bool.not_eq_false] at z z'
        rw [z, z'] at next no1
        have t12 := Same.trans t1 t2
        walk_at "rs"
        refine ⟨_, Same.seqT t12 hr', v2, rfl, v2, y', rfl, dp_same t12 z2, fun G3 t3 => ⟨isFrac y', rfl, ite2 (fun z => no1 G3 (Same.trans t12 t3) (by rw [z]; rfl)) (fun z => ⟨⟨_, rfl⟩, (next G3 (Same.trans t12 t3) (by rw [Bool.not_eq_false] at z; rw [z]; rfl)).2⟩)⟩⟩
    · rintro σ G ⟨⟨x3, rfl⟩, sG, al⟩
      refine hN _ _ ?_
      walk_at "rs"
      have q := kq G (Same.trans s12 sG)
      rw [ly, List.take_length] at al
      rw [al] at q; exact q
end
end LK

set_option Elab.async false
set_option linter.all false
set_option maxRecDepth 100000
namespace LK
open PySem PySem.Spec PyProof.Rows L2
local macro_rules | `(tactic| walk_at "rs") => `(tactic| simp only [tFld, sFld, tMeth, tMethZ, tMakeK, tMakeS, tMethS, tEf, tProp, tFmt, rEqO, rNeO, cxK, cxNK, tCallZ, tAsg, tOp, rI0, rS0, rB0, rI, rU, tUn, rEq, rNe, rIxL, rIxT, rIxS, rSetL, rSlLU, rSlS, rSlU, rCatL, rCatU, rRepL, rIn, tVar, tC, gName, gSub, tIfS, tTest, tB, tAnd, tOr, tNot, tNotV, tAndV, tOrV, tIf, tCall, tCons, tNil, tCB, tDrop, tRet, tRetN, tNext, tLstU, tTupU, tM0, tM1, tPar, tPar3, tAug, ipI, tBM, tBM0, rAppend, rPop, tBreak, sDPut, tDGet, tDGet2, tCont, tChain, tSl, tPart, tNoPart, L2.start, List.map, List.length_cons, List.length_nil, List.replicate, List.cons_append, List.nil_append, List.append_nil, List.getElem?_cons_zero, List.getElem?_cons_succ, List.set_cons_zero, List.set_cons_succ, Option.some.injEq, V.int.injEq, V.ref.injEq, V.str.injEq, V.bl.injEq, exists_eq_left', exists_eq_left, exists_and_left, decide_eq_true_eq, List.cons.injEq, and_true, true_and, scal, Bool.not_eq_true', decide_eq_false_iff_not, Nat.zero_add, Nat.reduceAdd, Nat.reduceSub, reduceCtorEq, false_and, exists_false, false_or, or_false, CPow, CPowW, CMul, CDiv, Int.reduceToNat, ↓reduceIte, wipe, sw, List.nil_append, List.singleton_append])
local macro_rules | `(tactic| walk_at "st") => `(tactic| (refine seq_op fun N hN => ?_; walk_at "rs"))
local macro_rules | `(tactic| walk_at "sd") => `(tactic| first | assumption | decide | omega)
local macro_rules | `(tactic| walk_at "rd") => `(tactic| repeat (first
  | refine ⟨_, SqL.of (by assumption), ?_⟩ | refine ⟨_, SqL.of upd_same, ?_⟩ | refine ⟨_, .inl (SqL.of (by assumption)), ?_⟩ | refine ⟨_, (by assumption : _ = some (HO.lst _)), ?_⟩ | refine ⟨_, upd_same, ?_⟩
  | refine ⟨_, rfl, ?_⟩ | refine And.intro (by walk_at "sd") ?_))

/-! ### the error that is due -/
inductive Er
  | bad (c : Str)
  | badAt (k : Nat)
  | many (c : Str) (n : Int)
def Er.dat : Er → PyData
  | .bad c => .tuple [.str "BadNet", .str c]
  | .badAt k => .tuple [.str "BadNet", .int k]
  | .many c n => .tuple [.str "TooMany", .str c, .int n]
def erD : Option Er → PyData
  | none => .none
  | some e => e.dat
def fstBad (w : Int) : List PyData → Nat → Option Nat
  | [], _ => none
  | d :: ds, k => if isStage w d = true then fstBad w ds (k + 1) else some k
def stEr (w : Int) (d : PyData) : Option Er := match sqD d with
  | none => some (.bad "stages")
  | some ds => if 100 < ds.length then some (.many "stages" ds.length) else (fstBad w ds 0).map Er.badAt
theorem fstBad_take {w : Int} : ∀ {ds : List PyData} {k i : Nat} {d : PyData}, (ds.take i).all (isStage w) = true → ds[i]? = some d → fstBad w ds k = if isStage w d = true then fstBad w (ds.drop (i + 1)) (k + i + 1) else some (k + i)
  | [], _, _, _, _, h => by simp at h
  | e :: ds, k, 0, d, _, h => by
    simp at h
    subst h
    rfl
  | e :: ds, k, i + 1, d, al, h => by
    have al' : (isStage w e && (ds.take i).all (isStage w)) = true := by rw [List.take_succ_cons, List.all_cons] at al; exact al
    rw [Bool.and_eq_true] at al'
    have := fstBad_take (w := w) (ds := ds) (k := k + 1) (i := i) (d := d) al'.2 (by simpa using h)
    show (if isStage w e = true then fstBad w ds (k + 1) else some k) = _
    rw [if_pos al'.1, this]
    show _ = if isStage w d = true then fstBad w (ds.drop (i + 1)) (k + (i + 1) + 1) else some (k + (i + 1))
    rw [show k + 1 + i = k + (i + 1) by omega]
theorem fstBad_all {w : Int} : ∀ {ds : List PyData} {k : Nat}, ds.all (isStage w) = true → fstBad w ds k = none
  | [], _, _ => rfl
  | e :: ds, k, h => by
    rw [List.all_cons, Bool.and_eq_true] at h
    show (if isStage w e = true then fstBad w ds (k + 1) else some k) = none
    rw [if_pos h.1]; exact fstBad_all h.2
section
variable {P : Program} {w : World} {K : PySem.W.Frag} {mg : Str → Option Value} {base : Heap}
def sp_dueSt (K : PySem.W.Frag) : Sp := fun vs H Q _ => ∃ (v : V) (d : PyData) (w : Int), vs = [v, .int w] ∧ Dp K H v d ∧ okD d = true ∧ ∀ u H', Same H H' → Dp K H' u (erD (stEr w d)) → Q u H'
theorem ok__law_due_stages (T : Txt w K mg) : FnOk P w K mg base CX0 5 T.a__law_due_stages T.d__law_due_stages ["stages_y", "width"] (sp_dueSt K) := by
  refine T.F__law_due_stages.ok sc__law_due_stages (fun vs H Q E h => ?_) (fun cdv A outer s H vs Q E hr h => ?_)
  · obtain ⟨v, d, w, rfl, _⟩ := h
    rfl
  · obtain ⟨v, d, w, rfl, hd, od, kq⟩ := h
    have hr__law_is_stage : Room 4 _ := hr
    have G__law_is_stage := ok__law_is_stage (P := P) (base := base) T
    refine ⟨_, (pss_cons (ps_if (pt_not (pt_val (pe_callB call_isiDT (by rfl) T.n_isinstance (by decide +kernel) (pa_cons (pv 0) (pa_cons (pe_tupU (pa_cons (pe_bltn (v := .ty "list") (u := .type "list") (by rfl) T.n_list (by decide +kernel) rfl) (pa_cons (pe_bltn (v := .ty "tuple") (u := .type "tuple") (by rfl) T.n_tuple (by decide +kernel) rfl) pa_nil))) pa_nil))))) (pss_one (ps_ret (pe_tupU (pa_cons pe_str (pa_cons pe_str pa_nil))))) pss_nil)
      (pss_cons (ps_if (pt_cmpR op_gt (pe_callB call_len (by rfl) T.n_len (by decide +kernel) (pa_cons (pv 0) pa_nil)) pe_int (nomark _)) (pss_one (ps_ret (pe_tupU (pa_cons pe_str (pa_cons pe_str (pa_cons (pe_callB call_len (by rfl) T.n_len (by decide +kernel) (pa_cons (pv 0) pa_nil)) pa_nil)))))) pss_nil)
      (pss_cons (ps_for PassesOwn.never rfl (pi_range1 (by rfl) T.n_range (pa_cons (pe_callB call_len (by rfl) T.n_len (by decide +kernel) (pa_cons (pv 0) pa_nil)) pa_nil)) (pg_name (i := 2) sc__law_due_stages.nd rfl (Or.inl rfl)) (pss_one (ps_if (pt_not (pt_val (pe_call G__law_is_stage hr__law_is_stage (by rfl) T.m__law_is_stage T.F__law_is_stage.kp T.B__law_is_stage .nil pass0 (pa_cons (pe_ix ix_seq (pv 0) (pv 2) (fun _ _ => rfl)) (pa_cons (pv 1) pa_nil))))) (pss_one (ps_ret (pe_tupU (pa_cons pe_str (pa_cons (pv 2) pa_nil))))) pss_nil)))
      (pss_one (ps_ret pe_non))))), ?_⟩
    refine seq_op fun N hN => ?_
    walk_at "rs"
    refine ⟨by decide, fun p H1 s1 p0 p1 => ⟨_, p, ⟨rfl, rfl⟩, p1, d, dp_same s1 hd, ite2 (fun z => ?_) (fun z => hN _ _ ?_)⟩⟩
    · refine ⟨by decide, fun q H2 s2 q0 q1 => kq _ H2 (Same.trans s1 s2) ?_⟩
      unfold stEr
      rw [isTyN (by rw [z]; decide)]
      exact .tup (SqT.of q1) (.cons (.str _) (.cons (.str _) .nil))
    clear hN N
    obtain ⟨ds, e⟩ := isTyS (d := d) (by rw [Bool.not_eq_false] at z; exact z)
    clear z
    obtain ⟨a, xs, rfl, ha, hx⟩ := sq_dp (dp_same s1 hd) e
    obtain ⟨l1, o1⟩ := ok_sq od e
    have lx := dpa_len hx
    have eS : stEr w d = if 100 < ds.length then some (.many "stages" ds.length) else (fstBad w ds 0).map Er.badAt := by unfold stEr; rw [e]
    refine seq_op fun N hN => ?_
    walk_at "rs"
    have hl : ∀ G, Same H1 G → LenV K (.ref a) G xs.length := fun G s => by
      rcases ha.same s with h | h
      · exact .inl ⟨_, h, rfl⟩
      · exact .inr ⟨_, h, rfl⟩
    refine ⟨_, hl _ (Same.refl _), ite2 (fun z => ⟨_, hl _ (Same.refl _), by decide, fun q H2 s2 q0 q1 => kq _ H2 (Same.trans s1 s2) ?_⟩) (fun z => hN _ _ ?_)⟩
    · rw [eS, if_pos (by omega), ← lx]
      exact .tup (SqT.of q1) (.cons (.str _) (.cons (.str _) (.cons (.int _) .nil)))
    clear hN N
    rw [if_neg (by omega)] at eS
    refine seq_op fun N hN => ?_
    refine ⟨_, rfl, _, xs.length, rfl, hl _ (Same.refl _), (xs.length : Int), rfl, by omega, by omega, for_range (lo := 0) (n := (xs.length : Int).toNat) (fun i σ G => (∃ x2 : Option V, σ = [some (.ref a), some (.int w), x2]) ∧ Same H1 G ∧ (ds.take i).all (isStage w) = true) ⟨⟨_, rfl⟩, Same.refl _, rfl⟩ ?_ ?_⟩
    · rintro i σ G hi ⟨⟨x2, rfl⟩, sG, al⟩
      have li : i < ds.length := by rw [← lx]; omega
      have hyi : ds[i]? = some ds[i] := List.getElem?_eq_getElem li
      have oi : okD ds[i] = true := okA_mem o1 (List.getElem_mem li)
      obtain ⟨vi, hvi⟩ : ∃ u, xs[i]? = some u := ⟨_, List.getElem?_eq_getElem (by omega)⟩
      have di : Dp K G vi ds[i] := dp_same sG (dpa_at hx hvi hyi)
      have eF := fstBad_take (w := w) (k := 0) al hyi
      generalize ds[i] = y at *
      walk_at "rs"
      have hix : ∀ R : V → Hp → Prop, R vi G → rIx K (.ref a) (.int (0 + (i : Int))) G R := fun R q => by
        rcases ha.same sG with h | h
        · exact .inl ⟨a, xs, 0 + (i : Int), vi, rfl, rfl, h, at_of (j := i) (by omega) hvi, q⟩
        · exact .inr (.inl ⟨a, xs, 0 + (i : Int), vi, rfl, rfl, h, at_of (j := i) (by omega) hvi, q⟩)
      refine hix _ ⟨vi, y, w, rfl, di, oi, fun G2 s2 => ⟨isStage w y, rfl, ite2 (fun z => ?_) (fun z => ⟨⟨_, rfl⟩, Same.trans sG s2, ?_⟩)⟩⟩
      · refine ⟨by decide, fun q H2 s3 q0 q1 => kq _ H2 (Same.trans s1 (Same.trans sG (Same.trans s2 s3))) ?_⟩
        rw [eS, eF, z, if_neg (by decide)]
        refine .tup (SqT.of q1) (.cons (.str _) (.cons ?_ .nil))
        show Dp K H2 (.int (0 + (i : Int))) (.int ((0 + i : Nat) : Int))
        rw [show ((0 + i : Nat) : Int) = 0 + (i : Int) by omega]
        exact .int _
      · rw [Bool.not_eq_false] at z
        rw [List.take_add_one, hyi, List.all_append, al]
        simp [z]
    · rintro σ G ⟨⟨x2, rfl⟩, sG, al⟩
      rw [show (xs.length : Int).toNat = ds.length by omega, List.take_length] at al
      refine hN _ _ ?_
      walk_at "rs"
      refine kq _ G (Same.trans s1 sG) ?_
      rw [eS, fstBad_all al]
      exact .non
def numD : PyData → Int
  | .int i => i
  | _ => 0
def netEr : List PyData → Option Er
  | [s, n, x, r, g, p, t] =>
    if (within 2 5 s && (within 1 8 n && within 1 1000000000000000000 x)) = false then some (.bad "size")
    else if 2000 < numD x then some (.many "width" (numD x))
    else if isItems 1 (numD x) r = false then some (.bad "rest")
    else if isRows (numD s) (numD x) g = false then some (.bad "signs")
    else if isRows (numD n) (numD x) p = false then some (.bad "places")
    else stEr (numD x) t
  | _ => none
theorem within_num {H : Hp} {v : V} {lo hi : Int} {d : PyData} (h : Dp K H v d) (e : within lo hi d = true) : ∃ i, d = .int i ∧ v = .int i ∧ lo ≤ i ∧ i ≤ hi := by
  cases h <;> first | cases e | skip
  rw [within_i, Bool.and_eq_true, decide_eq_true_iff, decide_eq_true_iff] at e
  exact ⟨_, rfl, rfl, e.1, e.2⟩
def sp_due (K : PySem.W.Frag) : Sp := fun vs H Q _ => ∃ (a : Addr) (v0 v1 v2 v3 v4 v5 v6 : V) (d0 d1 d2 d3 d4 d5 d6 : PyData), vs = [.ref a] ∧ SqL K H a [v0, v1, v2, v3, v4, v5, v6] ∧ Dp K H v0 d0 ∧ Dp K H v1 d1 ∧ Dp K H v2 d2 ∧ Dp K H v3 d3 ∧ Dp K H v4 d4 ∧ Dp K H v5 d5 ∧ Dp K H v6 d6 ∧ okAll [d0, d1, d2, d3, d4, d5, d6] = true ∧ ∀ u H', Same H H' → Dp K H' u (erD (netEr [d0, d1, d2, d3, d4, d5, d6])) → Q u H'
theorem ok__law_due (T : Txt w K mg) : FnOk P w K mg base CX0 6 T.a__law_due T.d__law_due ["slots"] (sp_due K) := by
  refine T.F__law_due.ok sc__law_due (fun vs H Q E h => ?_) (fun cdv A outer s H vs Q E hr h => ?_)
  · obtain ⟨a, v0, v1, v2, v3, v4, v5, v6, d0, d1, d2, d3, d4, d5, d6, rfl, _⟩ := h
    rfl
  · obtain ⟨a, v0, v1, v2, v3, v4, v5, v6, d0, d1, d2, d3, d4, d5, d6, rfl, ha, h0, h1, h2, h3, h4, h5, h6, od, kq⟩ := h
    have hr__law_within : Room 2 _ := hr.mono (by decide)
    have G__law_within := ok__law_within (P := P) (base := base) T
    have hr__law_are_items : Room 3 _ := hr.mono (by decide)
    have G__law_are_items := ok__law_are_items (P := P) (base := base) T
    have hr__law_due_stages : Room 5 _ := hr
    have G__law_due_stages := ok__law_due_stages (P := P) (base := base) T
    have o3 : okD d3 = true := okA_mem od (by simp)
    have o4 : okD d4 = true := okA_mem od (by simp)
    have o5 : okD d5 = true := okA_mem od (by simp)
    have o6 : okD d6 = true := okA_mem od (by simp)
    refine ⟨_, (pss_cons (ps_for PassesOwn.never rfl (pi_range1 (by rfl) T.n_range (pa_cons pe_int pa_nil)) (pg_name (i := 1) sc__law_due.nd rfl (Or.inl rfl)) (pss_one (ps_if (pt_not (pt_val (pe_call G__law_within hr__law_within (by rfl) T.m__law_within T.F__law_within.kp T.B__law_within .nil pass0 (pa_cons (pe_ix ix_list (pv 0) (pv 1) (fun _ _ => rfl)) (pa_cons (pe_ix ix_list (pe_lstU (pa_cons pe_int (pa_cons pe_int (pa_cons pe_int pa_nil)))) (pv 1) (fun _ _ => rfl)) (pa_cons (pe_ix ix_list (pe_lstU (pa_cons pe_int (pa_cons pe_int (pa_cons (pe_op op_pow pe_int pe_int) pa_nil)))) (pv 1) (fun _ _ => rfl)) pa_nil)))))) (pss_one (ps_ret (pe_tupU (pa_cons pe_str (pa_cons pe_str pa_nil))))) pss_nil)))
      (pss_cons (ps_set (i := 2) sc__law_due.nd rfl (Or.inl rfl) (pe_ix ix_list (pv 0) pe_int (fun _ _ => rfl)))
      (pss_cons (ps_if (pt_cmpR op_gt (pv 2) pe_int (nomark _)) (pss_one (ps_ret (pe_tupU (pa_cons pe_str (pa_cons pe_str (pa_cons (pv 2) pa_nil)))))) pss_nil)
      (pss_cons (ps_if (pt_not (pt_val (pe_call G__law_are_items hr__law_are_items (by rfl) T.m__law_are_items T.F__law_are_items.kp T.B__law_are_items .nil pass0 (pa_cons (pe_ix ix_list (pv 0) pe_int (fun _ _ => rfl)) (pa_cons pe_int (pa_cons (pv 2) pa_nil)))))) (pss_one (ps_ret (pe_tupU (pa_cons pe_str (pa_cons pe_str pa_nil))))) pss_nil)
      (pss_cons (ps_for PassesOwn.never rfl (pi_range2 (by rfl) T.n_range (pa_cons pe_int (pa_cons pe_int pa_nil))) (pg_name (i := 1) sc__law_due.nd rfl (Or.inl rfl)) (pss_cons (ps_set (i := 3) sc__law_due.nd rfl (Or.inl rfl) (pe_ix ix_list (pe_lstU (pa_cons pe_str (pa_cons pe_str pa_nil))) (pe_op op_sub (pv 1) pe_int) (fun _ _ => rfl)))
      (pss_cons (ps_if (PW.pt (pw_or (pt_not (pt_val (pe_callB call_isiDT (by rfl) T.n_isinstance (by decide +kernel) (pa_cons (pe_ix ix_list (pv 0) (pv 1) (fun _ _ => rfl)) (pa_cons (pe_tupU (pa_cons (pe_bltn (v := .ty "list") (u := .type "list") (by rfl) T.n_list (by decide +kernel) rfl) (pa_cons (pe_bltn (v := .ty "tuple") (u := .type "tuple") (by rfl) T.n_tuple (by decide +kernel) rfl) pa_nil))) pa_nil))))) (pw_or1 (pt_cmpR op_neI (pe_callB call_len_seq (by rfl) T.n_len (by decide +kernel) (pa_cons (pe_ix ix_list (pv 0) (pv 1) (fun _ _ => rfl)) pa_nil)) (pe_ix ix_list (pv 0) (pe_op op_sub (pv 1) pe_int) (fun _ _ => rfl)) (nomark _))))) (pss_one (ps_ret (pe_tupU (pa_cons pe_str (pa_cons (pv 3) pa_nil))))) pss_nil)
      (pss_one (ps_for PassesOwn.never rfl (pi_lt (pe_ix ix_list (pv 0) (pv 1) (fun _ _ => rfl))) (pg_name (i := 4) sc__law_due.nd rfl (Or.inl rfl)) (pss_one (ps_if (pt_not (pt_val (pe_call G__law_are_items hr__law_are_items (by rfl) T.m__law_are_items T.F__law_are_items.kp T.B__law_are_items .nil pass0 (pa_cons (pv 4) (pa_cons pe_int (pa_cons (pv 2) pa_nil)))))) (pss_one (ps_ret (pe_tupU (pa_cons pe_str (pa_cons (pv 3) pa_nil))))) pss_nil)))))))
      (pss_one (ps_ret (pe_call G__law_due_stages hr__law_due_stages (by rfl) T.m__law_due_stages T.F__law_due_stages.kp T.B__law_due_stages .nil pass0 (pa_cons (pe_ix ix_list (pv 0) pe_int (fun _ _ => rfl)) (pa_cons (pv 2) pa_nil)))))))))), ?_⟩
    -- the sizes
    have eSz : (within 2 5 d0 && (within 1 8 d1 && within 1 1000000000000000000 d2)) = false → netEr [d0, d1, d2, d3, d4, d5, d6] = some (.bad "size") := fun z => if_pos z
    have bad : ∀ (c : Str) (q : Addr) (G : Hp), Same H G → netEr [d0, d1, d2, d3, d4, d5, d6] = some (.bad c) → G q = some (.tup [.str "BadNet", .str c]) → Q (.ref q) G := fun c q G s e hq => by
      refine kq _ G s ?_
      rw [e]
      exact .tup (SqT.of hq) (.cons (.str _) (.cons (.str _) .nil))
    refine cut_seq (fun σ G => (∃ x1 : Option V, σ = [some (.ref a), x1, none, none, none]) ∧ Same H G ∧ (within 2 5 d0 && (within 1 8 d1 && within 1 1000000000000000000 d2)) = true) (fun N hN => ?_) ?_
    · refine ⟨3, rfl, by omega, by omega, for_range (lo := 0) (n := (3 : Int).toNat) (fun i σ G => (∃ x1 : Option V, σ = [some (.ref a), x1, none, none, none]) ∧ Same H G ∧ (1 ≤ i → within 2 5 d0 = true) ∧ (2 ≤ i → within 1 8 d1 = true) ∧ (3 ≤ i → within 1 1000000000000000000 d2 = true)) ⟨⟨_, rfl⟩, Same.refl _, by omega, by omega, by omega⟩ ?_ ?_⟩
      · rintro i σ G hi ⟨⟨x1, rfl⟩, sG, c0, c1, c2⟩
        walk_at "rs"
        have i3 : i = 0 ∨ i = 1 ∨ i = 2 := by have : (3 : Int).toNat = 3 := rfl; omega
        rcases i3 with rfl | rfl | rfl
        · refine ⟨_, sG.seq ha, v0, rfl, by decide, fun q1 G1 t1 _ q11 => ⟨_, SqL.of q11, .int 2, rfl, by decide, by decide, fun q2 G2 t2 _ q21 => ⟨_, SqL.of q21, .int 5, rfl, v0, d0, 2, 5, rfl, dp_same (Same.trans sG (Same.trans t1 t2)) h0, fun G3 t3 => ⟨within 2 5 d0, rfl, ite2 (fun z => ⟨by decide, fun q G4 t4 _ q4 => bad "size" q G4 (Same.trans sG (Same.trans t1 (Same.trans t2 (Same.trans t3 t4)))) (eSz (by rw [z, Bool.false_and])) q4⟩) (fun z => ⟨⟨_, rfl⟩, Same.trans sG (Same.trans t1 (Same.trans t2 t3)), fun _ => by rw [Bool.not_eq_false] at z; exact z, fun z => absurd z (by omega), fun z => absurd z (by omega)⟩)⟩⟩⟩⟩
        · refine ⟨_, sG.seq ha, v1, rfl, by decide, fun q1 G1 t1 _ q11 => ⟨_, SqL.of q11, .int 1, rfl, by decide, by decide, fun q2 G2 t2 _ q21 => ⟨_, SqL.of q21, .int 8, rfl, v1, d1, 1, 8, rfl, dp_same (Same.trans sG (Same.trans t1 t2)) h1, fun G3 t3 => ⟨within 1 8 d1, rfl, ite2 (fun z => ⟨by decide, fun q G4 t4 _ q4 => bad "size" q G4 (Same.trans sG (Same.trans t1 (Same.trans t2 (Same.trans t3 t4)))) (eSz (by rw [z, Bool.false_and, Bool.and_false])) q4⟩) (fun z => ⟨⟨_, rfl⟩, Same.trans sG (Same.trans t1 (Same.trans t2 t3)), fun _ => c0 (by omega), fun _ => by rw [Bool.not_eq_false] at z; exact z, fun z => absurd z (by omega)⟩)⟩⟩⟩⟩
        · refine ⟨_, sG.seq ha, v2, rfl, by decide, fun q1 G1 t1 _ q11 => ⟨_, SqL.of q11, .int 1, rfl, by decide, by decide, fun q2 G2 t2 _ q21 => ⟨_, SqL.of q21, .int 1000000000000000000, rfl, v2, d2, 1, 1000000000000000000, rfl, dp_same (Same.trans sG (Same.trans t1 t2)) h2, fun G3 t3 => ⟨within 1 1000000000000000000 d2, rfl, ite2 (fun z => ⟨by decide, fun q G4 t4 _ q4 => bad "size" q G4 (Same.trans sG (Same.trans t1 (Same.trans t2 (Same.trans t3 t4)))) (eSz (by rw [z, Bool.and_false, Bool.and_false])) q4⟩) (fun z => ⟨⟨_, rfl⟩, Same.trans sG (Same.trans t1 (Same.trans t2 t3)), fun _ => c0 (by omega), fun _ => c1 (by omega), fun _ => by rw [Bool.not_eq_false] at z; exact z⟩)⟩⟩⟩⟩
      · rintro σ G ⟨⟨x1, rfl⟩, sG, c0, c1, c2⟩
        exact hN _ _ ⟨⟨_, rfl⟩, sG, by rw [c0 (by decide), c1 (by decide), c2 (by decide)]; rfl⟩
    rintro σ G ⟨⟨x1, rfl⟩, sG, cs⟩
    have cs' := cs
    rw [Bool.and_eq_true, Bool.and_eq_true] at cs'
    obtain ⟨i0, rfl, rfl, i02, i05⟩ := within_num h0 cs'.1
    obtain ⟨i1, rfl, rfl, i12, i15⟩ := within_num h1 cs'.2.1
    obtain ⟨wd, rfl, rfl, w1, w18⟩ := within_num h2 cs'.2.2
    clear cs' eSz
    have eN : netEr [.int i0, .int i1, .int wd, d3, d4, d5, d6] = if 2000 < wd then some (.many "width" wd)
      else if isItems 1 wd d3 = false then some (.bad "rest")
      else if isRows i0 wd d4 = false then some (.bad "signs")
      else if isRows i1 wd d5 = false then some (.bad "places")
      else stEr wd d6 := if_neg (by rw [cs]; decide)
    rw [eN] at kq bad
    clear cs eN
    refine seq_op fun N hN => ?_
    walk_at "rs"
    refine ⟨_, sG.seq ha, _, rfl, hN _ _ ?_⟩
    clear hN N
    refine seq_op fun N hN => ?_
    walk_at "rs"
    refine ite2 (fun z => ?_) (fun z => hN _ _ ?_)
    · refine ⟨by decide, fun q G1 t1 _ q1 => kq _ G1 (Same.trans sG t1) ?_⟩
      rw [if_pos z]
      exact .tup (SqT.of q1) (.cons (.str _) (.cons (.str _) (.cons (.int _) .nil)))
    clear hN N
    rw [if_neg z] at kq bad
    refine seq_op fun N hN => ?_
    walk_at "rs"
    refine ⟨_, sG.seq ha, _, rfl, v3, d3, 1, wd, rfl, dp_same sG h3, o3, by decide, fun G1 t1 => ⟨isItems 1 wd d3, rfl, ite2 (fun z => ⟨by decide, fun q G2 t2 _ q2 => bad "rest" q G2 (Same.trans sG (Same.trans t1 t2)) (if_pos z) q2⟩) (fun z => hN _ _ ?_)⟩⟩
    clear hN N
    rw [if_neg z] at kq bad
    replace sG := Same.trans sG t1
    clear z
    refine cut_seq (fun σ G => (∃ x1 x3 x4 : Option V, σ = [some (.ref a), x1, some (.int wd), x3, x4]) ∧ Same H G ∧ isRows i0 wd d4 = true ∧ isRows i1 wd d5 = true) (fun N hN => ?_) ?_
    · refine ⟨4, 6, rfl, ⟨by omega, by omega, by omega, by omega⟩, for_range (lo := 4) (n := ((6 : Int) - 4).toNat) (fun i σ G => (∃ x1 x3 x4 : Option V, σ = [some (.ref a), x1, some (.int wd), x3, x4]) ∧ Same H G ∧ (1 ≤ i → isRows i0 wd d4 = true) ∧ (2 ≤ i → isRows i1 wd d5 = true)) ⟨⟨_, _, _, rfl⟩, sG, by omega, by omega⟩ ?_ ?_⟩
      · rintro i σ G hi ⟨⟨x1, x3, x4, rfl⟩, sG, c0, c1⟩
        have i2 : i = 0 ∨ i = 1 := by have : ((6 : Int) - 4).toNat = 2 := rfl; omega
        walk_at "rs"
        rcases i2 with rfl | rfl
        · clear hN
          refine seq_op fun N hN => ?_
          walk_at "rs"
          refine ⟨by decide, fun q1 G1 t1 _ q11 => ⟨_, SqL.of q11, _, rfl, hN _ _ ?_⟩⟩
          clear hN N
          have s1 := Same.trans sG t1
          refine seq_op fun N hN => ?_
          walk_at "rs"
          refine ⟨_, s1.seq ha, _, rfl, by decide, fun q2 G2 t2 _ q21 => ⟨v4, q2, ⟨rfl, rfl⟩, q21, d4, dp_same (Same.trans s1 t2) h4, ite2 (fun z => ?_) (fun z => ?_)⟩⟩
          · refine ⟨by decide, fun q3 G3 t3 _ q31 => bad "signs" q3 G3 (Same.trans (Same.trans s1 t2) t3) ?_ q31⟩
            have e : isRows i0 wd d4 = false := by unfold isRows; rw [isTyN (by rw [z]; decide)]
            exact if_pos e
          have s2 := Same.trans s1 t2
          obtain ⟨ds, e⟩ := isTyS (d := d4) (by rw [Bool.not_eq_false] at z; exact z)
          clear z
          obtain ⟨b, xs, rfl, hb, hx⟩ := sq_dp h4 e
          obtain ⟨l1, o1⟩ := ok_sq o4 e
          have lx := dpa_len hx
          have eR : isRows i0 wd d4 = (decide ((ds.length : Int) = i0) && ds.all (isItems 1 wd)) := by unfold isRows; rw [e]
          refine ⟨_, s2.seq ha, _, rfl, b, rfl, xs, hb.same s2, _, s2.seq ha, _, rfl, i0, rfl, ite2 (fun z => ⟨by decide, fun q3 G3 t3 _ q31 => bad "signs" q3 G3 (Same.trans s2 t3) ?_ q31⟩) (fun z => hN _ _ ?_)⟩
          · have e : isRows i0 wd d4 = false := by rw [eR, decide_eq_false (by rw [← lx]; exact z)]; rfl
            exact if_pos e
          clear hN N
          have lz : (ds.length : Int) = i0 := by rw [← lx]; exact Decidable.not_not.mp z
          rw [decide_eq_true lz, Bool.true_and] at eR
          refine for_lt (K := K) (a := b) (xs := xs) (fun Q q => ⟨_, rfl, _, rfl, a, _, 4 + ((0 : Nat) : Int), _, rfl, rfl, s2.seq ha, rfl, q⟩) (H0 := H) hb (fun j σ G => (∃ x4 : Option V, σ = [some (.ref a), some (.int (4 + (0 : Nat))), some (.int wd), some (.str "signs"), x4]) ∧ Same H G ∧ (ds.take j).all (isItems 1 wd) = true) ⟨⟨_, rfl⟩, s2, rfl⟩ (fun j σ G q => q.2.1) ?_ ?_
          · rintro j x σ G3 hx1 ⟨⟨x5, rfl⟩, s3, al⟩
            have lj : j < ds.length := by rw [← lx]; exact (List.getElem?_eq_some_iff.mp hx1).1
            have hyj : ds[j]? = some ds[j] := List.getElem?_eq_getElem lj
            have my : ds[j] ∈ ds := List.getElem_mem lj
            have hd1 : Dp K G3 x ds[j] := dp_same s3 (dpa_at hx hx1 hyj)
            have oy : okD ds[j] = true := okA_mem o1 my
            generalize ds[j] = y at *
            walk_at "rs"
            refine ⟨x, y, 1, wd, rfl, hd1, oy, by decide, fun G4 t4 => ⟨isItems 1 wd y, rfl, ite2 (fun z => ⟨by decide, fun q3 G5 t5 _ q31 => bad "signs" q3 G5 (Same.trans (Same.trans s3 t4) t5) ?_ q31⟩) (fun z => ⟨⟨_, rfl⟩, Same.trans s3 t4, ?_⟩)⟩⟩
            · have e : isRows i0 wd d4 = false := by
                rw [eR, List.all_eq_false]
                exact ⟨y, my, by rw [z]; decide⟩
              exact if_pos e
            · rw [Bool.not_eq_false] at z
              rw [List.take_add_one, hyj, List.all_append, al]
              simp [z]
          · rintro σ G3 ⟨⟨x5, rfl⟩, s3, al⟩
            rw [lx, List.take_length] at al
            rw [al] at eR
            exact ⟨⟨_, _, _, rfl⟩, s3, fun _ => eR, fun z => absurd z (by omega)⟩
        · clear hN
          refine seq_op fun N hN => ?_
          walk_at "rs"
          refine ⟨by decide, fun q1 G1 t1 _ q11 => ⟨_, SqL.of q11, _, rfl, hN _ _ ?_⟩⟩
          clear hN N
          have s1 := Same.trans sG t1
          refine seq_op fun N hN => ?_
          walk_at "rs"
          refine ⟨_, s1.seq ha, _, rfl, by decide, fun q2 G2 t2 _ q21 => ⟨v5, q2, ⟨rfl, rfl⟩, q21, d5, dp_same (Same.trans s1 t2) h5, ite2 (fun z => ?_) (fun z => ?_)⟩⟩
          · refine ⟨by decide, fun q3 G3 t3 _ q31 => bad "places" q3 G3 (Same.trans (Same.trans s1 t2) t3) ?_ q31⟩
            have e : isRows i1 wd d5 = false := by unfold isRows; rw [isTyN (by rw [z]; decide)]
            exact (if_neg (by rw [c0 (by decide)]; decide)).trans (if_pos e)
          have s2 := Same.trans s1 t2
          obtain ⟨ds, e⟩ := isTyS (d := d5) (by rw [Bool.not_eq_false] at z; exact z)
          clear z
          obtain ⟨b, xs, rfl, hb, hx⟩ := sq_dp h5 e
          obtain ⟨l1, o1⟩ := ok_sq o5 e
          have lx := dpa_len hx
          have eR : isRows i1 wd d5 = (decide ((ds.length : Int) = i1) && ds.all (isItems 1 wd)) := by unfold isRows; rw [e]
          refine ⟨_, s2.seq ha, _, rfl, b, rfl, xs, hb.same s2, _, s2.seq ha, _, rfl, i1, rfl, ite2 (fun z => ⟨by decide, fun q3 G3 t3 _ q31 => bad "places" q3 G3 (Same.trans s2 t3) ?_ q31⟩) (fun z => hN _ _ ?_)⟩
          · have e : isRows i1 wd d5 = false := by rw [eR, decide_eq_false (by rw [← lx]; exact z)]; rfl
            exact (if_neg (by rw [c0 (by decide)]; decide)).trans (if_pos e)
          clear hN N
          have lz : (ds.length : Int) = i1 := by rw [← lx]; exact Decidable.not_not.mp z
          rw [decide_eq_true lz, Bool.true_and] at eR
          refine for_lt (K := K) (a := b) (xs := xs) (fun Q q => ⟨_, rfl, _, rfl, a, _, 4 + ((1 : Nat) : Int), _, rfl, rfl, s2.seq ha, rfl, q⟩) (H0 := H) hb (fun j σ G => (∃ x4 : Option V, σ = [some (.ref a), some (.int (4 + (1 : Nat))), some (.int wd), some (.str "places"), x4]) ∧ Same H G ∧ (ds.take j).all (isItems 1 wd) = true) ⟨⟨_, rfl⟩, s2, rfl⟩ (fun j σ G q => q.2.1) ?_ ?_
          · rintro j x σ G3 hx1 ⟨⟨x5, rfl⟩, s3, al⟩
            have lj : j < ds.length := by rw [← lx]; exact (List.getElem?_eq_some_iff.mp hx1).1
            have hyj : ds[j]? = some ds[j] := List.getElem?_eq_getElem lj
            have my : ds[j] ∈ ds := List.getElem_mem lj
            have hd1 : Dp K G3 x ds[j] := dp_same s3 (dpa_at hx hx1 hyj)
            have oy : okD ds[j] = true := okA_mem o1 my
            generalize ds[j] = y at *
            walk_at "rs"
            refine ⟨x, y, 1, wd, rfl, hd1, oy, by decide, fun G4 t4 => ⟨isItems 1 wd y, rfl, ite2 (fun z => ⟨by decide, fun q3 G5 t5 _ q31 => bad "places" q3 G5 (Same.trans (Same.trans s3 t4) t5) ?_ q31⟩) (fun z => ⟨⟨_, rfl⟩, Same.trans s3 t4, ?_⟩)⟩⟩
            · have e : isRows i1 wd d5 = false := by
                rw [eR, List.all_eq_false]
                exact ⟨y, my, by rw [z]; decide⟩
              exact (if_neg (by rw [c0 (by decide)]; decide)).trans (if_pos e)
            · rw [Bool.not_eq_false] at z
              rw [List.take_add_one, hyj, List.all_append, al]
              simp [z]
          · rintro σ G3 ⟨⟨x5, rfl⟩, s3, al⟩
            rw [lx, List.take_length] at al
            rw [al] at eR
            exact ⟨⟨_, _, _, rfl⟩, s3, fun _ => c0 (by decide), fun _ => eR⟩
      · rintro σ G ⟨⟨x1, x3, x4, rfl⟩, sG, c0, c1⟩
        exact hN _ _ ⟨⟨_, _, _, rfl⟩, sG, c0 (by decide), c1 (by decide)⟩
    rintro σ G ⟨⟨x1, x3, x4, rfl⟩, sG, c0, c1⟩
    rw [if_neg (by rw [c0]; decide), if_neg (by rw [c1]; decide)] at kq
    walk_at "rs"
    exact ⟨_, sG.seq ha, _, rfl, v6, d6, wd, rfl, dp_same sG h6, o6, fun u G2 t2 hu => kq u G2 (Same.trans sG t2) hu⟩
end
end LK

set_option Elab.async false
set_option linter.all false
set_option maxRecDepth 100000
namespace LK
open PySem PySem.Spec PyProof.Rows L2
local macro_rules | `(tactic| walk_at "rs") => `(tactic| simp only [tFld, sFld, tMeth, tMethZ, tMakeK, tMakeS, tMethS, tEf, tProp, tFmt, rEqO, rNeO, cxK, cxNK, tCallZ, tAsg, tOp, rI0, rS0, rB0, rI, rU, tUn, rEq, rNe, rIxL, rIxT, rIxS, rSetL, rSlLU, rSlS, rSlU, rCatL, rCatU, rRepL, rIn, tVar, tC, gName, gSub, tIfS, tTest, tB, tAnd, tOr, tNot, tNotV, tAndV, tOrV, tIf, tCall, tCons, tNil, tCB, tDrop, tRet, tRetN, tNext, tLstU, tTupU, tM0, tM1, tPar, tPar3, tAug, ipI, tBM, tBM0, rAppend, rPop, tBreak, sDPut, tDGet, tDGet2, tCont, tChain, tSl, tPart, tNoPart, L2.start, List.map, List.length_cons, List.length_nil, List.replicate, List.cons_append, List.nil_append, List.append_nil, List.getElem?_cons_zero, List.getElem?_cons_succ, List.set_cons_zero, List.set_cons_succ, Option.some.injEq, V.int.injEq, V.ref.injEq, V.str.injEq, V.bl.injEq, exists_eq_left', exists_eq_left, exists_and_left, decide_eq_true_eq, List.cons.injEq, and_true, true_and, scal, Bool.not_eq_true', decide_eq_false_iff_not, Nat.zero_add, Nat.reduceAdd, Nat.reduceSub, reduceCtorEq, false_and, exists_false, false_or, or_false, CPow, CPowW, CMul, CDiv, Int.reduceToNat, ↓reduceIte, wipe, sw, List.nil_append, List.singleton_append])
local macro_rules | `(tactic| walk_at "st") => `(tactic| (refine seq_op fun N hN => ?_; walk_at "rs"))
local macro_rules | `(tactic| walk_at "sd") => `(tactic| first | assumption | decide | omega)
local macro_rules | `(tactic| walk_at "rd") => `(tactic| repeat (first
  | refine ⟨_, SqL.of (by assumption), ?_⟩ | refine ⟨_, SqL.of upd_same, ?_⟩ | refine ⟨_, .inl (SqL.of (by assumption)), ?_⟩ | refine ⟨_, (by assumption : _ = some (HO.lst _)), ?_⟩ | refine ⟨_, upd_same, ?_⟩
  | refine ⟨_, rfl, ?_⟩ | refine And.intro (by walk_at "sd") ?_))

/-! ### own exceptions raised -/
section
variable {P : Program} {w : World} {K : PySem.W.Frag} {mg : Str → Option Value} {base : Heap}
theorem ok_BadNet (T : Txt w K mg) : FnOk P w K mg base CX0 1 T.f_BadNet T.d_BadNet ["self", "where"] (spInit T.C_BadNet "BadNet" ["where"]) := by
  refine T.F_BadNet.ok sc_BadNet (fun vs H Q E h => ?_) (fun cdv A outer s H vs Q E hr h => ?_)
  · obtain ⟨a, ws, rfl, hl, _⟩ := h
    exact congrArg Nat.succ hl
  · obtain ⟨a, ws, rfl, hl, ha, k⟩ := h
    obtain ⟨x0, rfl⟩ := args1 hl
    refine ⟨_, (pss_cons (ps_ostM baseVE (pv 0) (pv 1)) (pss_one (ps_ostM baseVE (pv 0) pe_str))), ?_⟩
    refine seq_op fun N hN => ?_
    unfold tOstM
    walk_at "rs"
    refine ⟨T.C_BadNet, T.X_BadNet, T.n_BadNet_where, .inl ⟨ha, fun dx hdx ne => hN _ _ ?_⟩⟩
    clear hN N
    have I1 : Made H a T.C_BadNet dx [("where", x0)] (L2.upd (L2.upd H dx (exd dx [("where", x0)])) a (exo a T.C_BadNet (some dx))) := made1 ne
    generalize (L2.upd (L2.upd H dx (exd dx [("where", x0)])) a (exo a T.C_BadNet (some dx))) = H1 at I1 ⊢
    unfold tOstM
    walk_at "rs"
    exact ⟨T.C_BadNet, T.X_BadNet, T.n_BadNet_code, .inr ⟨dx, I1.at_, [("where", x0)], I1.atd, by simp, k dx _ hdx ne (I1.more ne).oth (I1.more ne).at_ (I1.more ne).atd⟩⟩
theorem ok_TooMany (T : Txt w K mg) : FnOk P w K mg base CX0 1 T.f_TooMany T.d_TooMany ["self", "what", "count"] (spInit T.C_TooMany "TooMany" ["what", "count"]) := by
  refine T.F_TooMany.ok sc_TooMany (fun vs H Q E h => ?_) (fun cdv A outer s H vs Q E hr h => ?_)
  · obtain ⟨a, ws, rfl, hl, _⟩ := h
    exact congrArg Nat.succ hl
  · obtain ⟨a, ws, rfl, hl, ha, k⟩ := h
    obtain ⟨x0, x1, rfl⟩ := args2 hl
    refine ⟨_, (pss_cons (ps_ostM baseRE (pv 0) (pv 1)) (pss_cons (ps_ostM baseRE (pv 0) (pv 2)) (pss_one (ps_ostM baseRE (pv 0) pe_str)))), ?_⟩
    refine seq_op fun N hN => ?_
    unfold tOstM
    walk_at "rs"
    refine ⟨T.C_TooMany, T.X_TooMany, T.n_TooMany_what, .inl ⟨ha, fun dx hdx ne => hN _ _ ?_⟩⟩
    clear hN N
    have I1 : Made H a T.C_TooMany dx [("what", x0)] (L2.upd (L2.upd H dx (exd dx [("what", x0)])) a (exo a T.C_TooMany (some dx))) := made1 ne
    generalize (L2.upd (L2.upd H dx (exd dx [("what", x0)])) a (exo a T.C_TooMany (some dx))) = H1 at I1 ⊢
    refine seq_op fun N hN => ?_
    unfold tOstM
    walk_at "rs"
    refine ⟨T.C_TooMany, T.X_TooMany, T.n_TooMany_count, .inr ⟨dx, I1.at_, [("what", x0)], I1.atd, by simp, hN _ _ ?_⟩⟩
    clear hN N
    have I2 := I1.more (f := "count") (y := x1) ne
    generalize (L2.upd H1 dx (exd dx (("count", x1) :: [("what", x0)]))) = H2 at I2 ⊢
    unfold tOstM
    walk_at "rs"
    exact ⟨T.C_TooMany, T.X_TooMany, T.n_TooMany_code, .inr ⟨dx, I2.at_, [("count", x1), ("what", x0)], I2.atd, by simp, k dx _ hdx ne (I2.more ne).oth (I2.more ne).at_ (I2.more ne).atd⟩⟩
/-- the ends of an error -/
def Er.fs : Er → List (Str × V)
  | .bad c => [("code", .str "BadNet"), ("where", .str c)]
  | .badAt k => [("code", .str "BadNet"), ("where", .int k)]
  | .many c n => [("code", .str "TooMany"), ("count", .int n), ("what", .str c)]
def Er.cls (C1 C2 : Addr) : Er → Addr
  | .bad _ => C1
  | .badAt _ => C1
  | .many _ _ => C2
/-- that an error is raised behind a heap -/
def Rz (C1 C2 : Addr) (e : Er) (H : Hp) (E : XK) : Prop := ∀ d H', Same H H' → H d = none → H' d = some (.xd e.fs) → E (.ref (e.cls C1 C2)) (some d) H'
theorem Rz.same {C1 C2 : Addr} {e : Er} {H H1 : Hp} {E : XK} (h : Rz C1 C2 e H E) (s : Same H H1) : Rz C1 C2 e H1 E := fun d H' s' hd hx => h d H' (s.trans s') (Same.dom s d hd) hx
theorem mk_er {C : Addr} {nm : Str} {ps : List Str} {ws : List V} {ta : TA} {σ : L2.St} {H0 H1 : Hp} {Qx : XK} (hl : ws.length = ps.length) (l9 : ws.length ≤ 100) (ht : ∀ R : List V → Hp → Prop, R ws H1 → ta σ H0 R) (k : ∀ d H', Same H1 H' → H1 d = none → H' d = some (.xd (("code", .str nm) :: (ps.zip ws).reverse)) → Qx (.ref C) (some d) H') : tMkO C (spInit C nm ps) [] ta σ H0 Qx :=
  ht _ ⟨by omega, by rw [List.append_nil]; exact raised_of hl k⟩
def sp_check (K : PySem.W.Frag) (C1 C2 : Addr) : Sp := fun vs H Q E => ∃ (v : V) (d : PyData) (w : Int), vs = [v, .int w] ∧ Dp K H v d ∧ okD d = true ∧ (stEr w d = none → ∀ H', Same H H' → Q .non H') ∧ (∀ e, stEr w d = some e → Rz C1 C2 e H E)
theorem ok_check_stages (T : Txt w K mg) : FnOk P w K mg base (L2.CX P w) 7 T.a_check_stages T.d_check_stages ["stages", "width"] (sp_check K T.C_BadNet T.C_TooMany) := by
  refine T.F_check_stages.okX sc_check_stages (fun vs H Q E h => ?_) (fun cdv A outer s H vs Q E hr h => ?_)
  · obtain ⟨v, d, w, rfl, _⟩ := h
    rfl
  · obtain ⟨v, d, w, rfl, hd, od, kq, ke⟩ := h
    have hr_is_stage : Room 6 _ := hr
    have G_is_stage := ok_is_stage (P := P) (base := base) T
    have hr_init : Room 2 _ := hr.mono (by decide)
    refine ⟨_, (pss_cons (ps_if (pt_not (pt_val (pe_callB call_isiDT (by rfl) T.n_isinstance (by decide +kernel) (pa_cons (pv 0) (pa_cons (pe_tupU (pa_cons (pe_bltn (v := .ty "list") (u := .type "list") (by rfl) T.n_list (by decide +kernel) rfl) (pa_cons (pe_bltn (v := .ty "tuple") (u := .type "tuple") (by rfl) T.n_tuple (by decide +kernel) rfl) pa_nil))) pa_nil))))) (pss_one (ps_raise rfl (takes_of rfl rfl rfl rfl) (pmk_oexM baseVE T.X_BadNet T.i_BadNet T.t_BadNet (ok_BadNet T) hr_init T.B_BadNet__init .nil pass0 (by rfl) T.m_BadNet (pa_cons pe_str pa_nil)))) pss_nil)
      (pss_cons (ps_if (pt_cmpR op_gt (pe_callB call_len_seq (by rfl) T.n_len (by decide +kernel) (pa_cons (pv 0) pa_nil)) (pe_glob (v := .int 100) (by rfl) T.m_MOST_STAGES ⟨_, rfl⟩) (nomark _)) (pss_one (ps_raise rfl (takes_of rfl rfl rfl rfl) (pmk_oexM baseRE T.X_TooMany T.i_TooMany T.t_TooMany (ok_TooMany T) hr_init T.B_TooMany__init .nil pass0 (by rfl) T.m_TooMany (pa_cons pe_str (pa_cons (pe_callB call_len_seq (by rfl) T.n_len (by decide +kernel) (pa_cons (pv 0) pa_nil)) pa_nil))))) pss_nil)
      (pss_one (ps_for (passes_of rfl) rfl (pi_enumLT (by rfl) T.n_enumerate (pa_cons (pv 0) pa_nil)) (pg_tup rfl (pgs_cons (pg_name (i := 2) sc_check_stages.nd rfl (Or.inl rfl)) (pgs_cons (pg_name (i := 3) sc_check_stages.nd rfl (Or.inl rfl)) pgs_nil))) (pss_one (ps_if (pt_not (pt_val (pe_call G_is_stage hr_is_stage (by rfl) T.m_is_stage T.F_is_stage.kp T.B_is_stage .nil pass0 (pa_cons (pv 3) (pa_cons (pv 1) pa_nil))))) (pss_one (ps_raise rfl (takes_of rfl rfl rfl rfl) (pmk_oexM baseVE T.X_BadNet T.i_BadNet T.t_BadNet (ok_BadNet T) hr_init T.B_BadNet__init .nil pass0 (by rfl) T.m_BadNet (pa_cons (pv 2) pa_nil)))) pss_nil)))))), ?_⟩
    refine seq_op fun N hN => ?_
    walk_at "rs"
    refine ⟨by decide, fun p H1 s1 p0 p1 => ⟨_, p, ⟨rfl, rfl⟩, p1, d, dp_same s1 hd, ite2 (fun z => ?_) (fun z => hN _ _ ?_)⟩⟩
    · have e : stEr w d = some (.bad "stages") := by unfold stEr; rw [isTyN (by rw [z]; decide)]
      have q := (ke _ e).same s1
      exact mk_er (ws := [.str "stages"]) rfl (by decide) (fun R h => by walk_at "rs"; exact h) fun d' H2 s2 hd2 h2 => q d' H2 s2 hd2 h2
    clear hN N
    obtain ⟨ds, e⟩ := isTyS (d := d) (by rw [Bool.not_eq_false] at z; exact z)
    clear z
    obtain ⟨a, xs, rfl, ha, hx⟩ := sq_dp (dp_same s1 hd) e
    obtain ⟨l1, o1⟩ := ok_sq od e
    have lx := dpa_len hx
    have eS : stEr w d = if 100 < ds.length then some (.many "stages" ds.length) else (fstBad w ds 0).map Er.badAt := by unfold stEr; rw [e]
    rw [eS] at kq ke
    refine seq_op fun N hN => ?_
    walk_at "rs"
    refine ⟨_, ha, ite2 (fun z => ?_) (fun z => hN _ _ ?_)⟩
    · have q := (ke _ (if_pos (by omega))).same s1
      refine mk_er (ws := [.str "stages", .int (xs.length : Nat)]) rfl (show 2 ≤ 100 by decide) (fun R h => ?_) fun d' H2 s2 hd2 h2 => q d' H2 s2 hd2 (by rw [lx] at h2; exact h2)
      walk_at "rs"
      exact ⟨_, ha, h⟩
    clear hN N
    rw [if_neg (by omega)] at kq ke
    have step : ∀ (i : Nat) (x : V) (σ : L2.St) (H2 H3 : Hp), i < xs.length → ((∃ x2 x3, σ = [some (.ref a), some (.int w), x2, x3]) ∧ Same H1 H2 ∧ (ds.take i).all (isStage w) = true) → YPair (fun i => some (.int (i : Nat))) (fun i => xs[i]?) i H2 x H3 → gTup K 2 (gCons (gName 2) (gCons (gName 3) gNil)) x σ H3 fun σ2 H4 => tIfS (tNot (tB (tCall (sp_stage K) [] E0 (tCons (tVar 3) (tCons (tVar 1) tNil))))) (fun _ σ H => tMkO T.C_BadNet (spInit T.C_BadNet "BadNet" ["where"]) [] (tCons (tVar 2) tNil) σ H fun cls d H' => E cls d H') tNext { nx := fun σ H => (∃ x2 x3, σ = [some (.ref a), some (.int w), x2, x3]) ∧ Same H1 H ∧ (ds.take (i + 1)).all (isStage w) = true, rt := Q, ct := fun σ H => (∃ x2 x3, σ = [some (.ref a), some (.int w), x2, x3]) ∧ Same H1 H ∧ (ds.take (i + 1)).all (isStage w) = true, bk := fun x H' => Q V.non H' } σ2 H4 := by
      rintro i x σ H2 H3 hi ⟨⟨x2, x3, rfl⟩, s2, al⟩ ⟨T0, y1, y2, rfl, hT, rfl, e1, e2⟩
      have li : i < ds.length := by omega
      have hyi : ds[i]? = some ds[i] := List.getElem?_eq_getElem li
      have oi : okD ds[i] = true := okA_mem o1 (List.getElem_mem li)
      have eF := fstBad_take (w := w) (k := 0) al hyi
      have di : Dp K H1 y2 ds[i] := dpa_at hx e2 hyi
      generalize ds[i] = y at *
      refine g2_at (K := K) (.inl (.inl upd_same)) ?_
      have s3 : Same H2 (L2.upd H2 T0 (.tup [y1, y2])) := same_upd hT
      generalize L2.upd H2 T0 (.tup [y1, y2]) = H4 at *
      have s13 := Same.trans s2 s3
      injection e1 with e1
      subst e1
      walk_at "rs"
      refine ⟨y2, y, w, rfl, dp_same s13 di, oi, fun H5 s5 => ⟨isStage w y, rfl, ite2 (fun z => ?_) (fun z => ⟨by first | exact ⟨_, _, rfl, rfl⟩ | exact ⟨_, rfl⟩ | simp, Same.trans s13 s5, ?_⟩)⟩⟩
      · rw [eF, z, if_neg (by decide)] at ke
        have q := (ke _ rfl).same (Same.trans s1 (Same.trans s13 s5))
        exact mk_er (ws := [.int (i : Nat)]) rfl (show 1 ≤ 100 by decide) (fun R h => by walk_at "rs"; exact h) fun d' H6 s6 hd2 h2 => q d' H6 s6 hd2 (by show H6 d' = some (HO.xd [("code", .str "BadNet"), ("where", .int ((0 + i : Nat) : Int))]); rw [Nat.zero_add]; exact h2)
      · rw [Bool.not_eq_false] at z
        rw [List.take_add_one, hyi, List.all_append, al]
        simp [z]
    have fin : ∀ (σ : L2.St) (H2 : Hp), ((∃ x2 x3, σ = [some (.ref a), some (.int w), x2, x3]) ∧ Same H1 H2 ∧ (ds.take xs.length).all (isStage w) = true) → Q V.non H2 := fun σ H2 ⟨_, s2, al⟩ => by
      rw [lx, List.take_length] at al
      exact kq (by rw [fstBad_all al]; rfl) H2 (Same.trans s1 s2)
    rcases ha with ha | ha
    · exact .inl ⟨_, rfl, a, xs, rfl, ha, for_it walk_enum (fun i σ H2 => (∃ x2 x3, σ = [some (.ref a), some (.int w), x2, x3]) ∧ Same H1 H2 ∧ (ds.take i).all (isStage w) = true) ⟨⟨_, _, rfl⟩, Same.refl _, rfl⟩ (fun i σ H2 _ q => q.2.1.seq ha) (fun i x σ H2 H3 hi p y => step i x σ H2 H3 hi p y) fin⟩
    · exact .inr ⟨_, rfl, a, xs, rfl, ha, for_it walk_enumT (fun i σ H2 => (∃ x2 x3, σ = [some (.ref a), some (.int w), x2, x3]) ∧ Same H1 H2 ∧ (ds.take i).all (isStage w) = true) ⟨⟨_, _, rfl⟩, Same.refl _, rfl⟩ (fun i σ H2 _ q => Same.seqT q.2.1 ha) (fun i x σ H2 H3 hi p y => step i x σ H2 H3 hi p y) fin⟩
end
end LK

set_option Elab.async false
set_option linter.all false
set_option maxRecDepth 100000
namespace LK
open PySem PySem.Spec PyProof.Rows L2
local macro_rules | `(tactic| walk_at "rs") => `(tactic| simp only [tFld, sFld, tMeth, tMethZ, tMakeK, tMakeS, tMethS, tEf, tProp, tFmt, rEqO, rNeO, cxK, cxNK, tCallZ, tAsg, tOp, rI0, rS0, rB0, rI, rU, tUn, rEq, rNe, rIxL, rIxT, rIxS, rSetL, rSlLU, rSlS, rSlU, rCatL, rCatU, rRepL, rIn, tVar, tC, gName, gSub, tIfS, tTest, tB, tAnd, tOr, tNot, tNotV, tAndV, tOrV, tIf, tCall, tCons, tNil, tCB, tDrop, tRet, tRetN, tNext, tLstU, tTupU, tM0, tM1, tPar, tPar3, tAug, ipI, tBM, tBM0, rAppend, rPop, tBreak, sDPut, tDGet, tDGet2, tCont, tChain, tSl, tPart, tNoPart, L2.start, List.map, List.length_cons, List.length_nil, List.replicate, List.cons_append, List.nil_append, List.append_nil, List.getElem?_cons_zero, List.getElem?_cons_succ, List.set_cons_zero, List.set_cons_succ, Option.some.injEq, V.int.injEq, V.ref.injEq, V.str.injEq, V.bl.injEq, exists_eq_left', exists_eq_left, exists_and_left, decide_eq_true_eq, List.cons.injEq, and_true, true_and, scal, Bool.not_eq_true', decide_eq_false_iff_not, Nat.zero_add, Nat.reduceAdd, Nat.reduceSub, reduceCtorEq, false_and, exists_false, false_or, or_false, CPow, CPowW, CMul, CDiv, Int.reduceToNat, ↓reduceIte, wipe, sw, List.nil_append, List.singleton_append])
local macro_rules | `(tactic| walk_at "st") => `(tactic| (refine seq_op fun N hN => ?_; walk_at "rs"))
local macro_rules | `(tactic| walk_at "sd") => `(tactic| first | assumption | decide | omega)
local macro_rules | `(tactic| walk_at "rd") => `(tactic| repeat (first
  | refine ⟨_, SqL.of (by assumption), ?_⟩ | refine ⟨_, SqL.of upd_same, ?_⟩ | refine ⟨_, .inl (SqL.of (by assumption)), ?_⟩ | refine ⟨_, (by assumption : _ = some (HO.lst _)), ?_⟩ | refine ⟨_, upd_same, ?_⟩
  | refine ⟨_, rfl, ?_⟩ | refine And.intro (by walk_at "sd") ?_))

/-! ### data that are bounded, and what they stand for when they are right -/
mutual
def bdD (n : Nat) : PyData → Bool
  | .int i => decide (i.natAbs ≤ 1000000000000000000)
  | .list ds => decide (ds.length ≤ n) && bdAll n ds
  | .tuple ds => decide (ds.length ≤ n) && bdAll n ds
  | .dict _ => false
  | _ => true
def bdAll (n : Nat) : List PyData → Bool
  | [] => true
  | d :: ds => bdD n d && bdAll n ds
end
theorem bdA_mem {n : Nat} {d : PyData} : ∀ {ds : List PyData}, bdAll n ds = true → d ∈ ds → bdD n d = true
  | [], _, h => absurd h (by simp)
  | e :: ds, h, g => by
    have h' : (bdD n e && bdAll n ds) = true := h
    rw [Bool.and_eq_true] at h'
    rcases List.mem_cons.mp g with rfl | g
    · exact h'.1
    · exact bdA_mem h'.2 g
theorem bd_sq {n : Nat} {d : PyData} {ds : List PyData} (h : bdD n d = true) (e : sqD d = some ds) : ds.length ≤ n ∧ bdAll n ds = true := by
  have : (decide (ds.length ≤ n) && bdAll n ds) = true := by
    cases d <;> first | cases e | skip
    · exact h
    · exact h
  rw [Bool.and_eq_true, decide_eq_true_iff] at this
  exact this
theorem frac_ex {n : Nat} {d : PyData} (h : isFrac d = true) (b : bdD n d = true) : ∃ f : Fr, d = dF f ∧ okB 1000000000000000000 1000000000000000000 f := by
  unfold isFrac at h
  split at h
  · rename_i p q
    rw [Bool.and_eq_true, decide_eq_true_iff, decide_eq_true_iff] at h
    obtain ⟨_, hb⟩ := bd_sq b rfl
    have hp : bdD n (.int p) = true := bdA_mem hb (by simp)
    have hq : bdD n (.int q) = true := bdA_mem hb (by simp)
    exact ⟨(p, q), rfl, h.1, h.2, of_decide_eq_true hp, of_decide_eq_true hq⟩
  · cases h
theorem cols_ex {w : Int} : ∀ {ds : List PyData}, ds.all (within 0 (w - 1)) = true → ∃ k : List Int, ds = k.map PyData.int ∧ TS.Bd w k
  | [], _ => ⟨[], rfl, fun j hj => absurd hj (by simp)⟩
  | d :: ds, h => by
    rw [List.all_cons, Bool.and_eq_true] at h
    obtain ⟨k, rfl, hk⟩ := cols_ex h.2
    have hd := h.1
    cases d <;> first | cases hd | skip
    rename_i i
    rw [within_i, Bool.and_eq_true, decide_eq_true_iff, decide_eq_true_iff] at hd
    refine ⟨i :: k, rfl, fun j hj => ?_⟩
    rcases List.mem_cons.mp hj with rfl | hj
    · exact ⟨hd.1, by omega⟩
    · exact hk j hj
theorem item_ex {n m : Nat} {w : Int} {d : PyData} (h : isItem m w d = true) (b : bdD n d = true) : ∃ x : It, d = dIt x ∧ okB 1000000000000000000 1000000000000000000 x.2 ∧ x.1.length = m ∧ TS.Bd w x.1 := by
  unfold isItem at h
  split at h
  · rename_i ds
    rw [Bool.and_eq_true, Bool.and_eq_true, decide_eq_true_iff] at h
    obtain ⟨hl, hc, hf⟩ := h
    have hne : ds ≠ [] := fun e => by rw [e] at hl; cases hl
    obtain ⟨_, hb⟩ := bd_sq b rfl
    rw [List.getLast?_eq_some_getLast hne] at hf
    obtain ⟨f, ef, of⟩ := frac_ex hf (bdA_mem hb (List.getLast_mem hne))
    obtain ⟨k, ek, bk⟩ := cols_ex hc
    have e : ds = k.map PyData.int ++ [dF f] := by rw [← ek, ← ef]; exact (List.dropLast_concat_getLast hne).symm
    refine ⟨(k, f), ?_, of, ?_, bk⟩
    · rw [e]; rfl
    · have := congrArg List.length ek
      rw [List.length_dropLast, List.length_map] at this
      show k.length = m
      omega
  · cases h
theorem map_ex {α : Type} {P : α → Prop} {f : α → PyData} : ∀ {ds : List PyData}, (∀ d ∈ ds, ∃ x, d = f x ∧ P x) → ∃ l : List α, ds = l.map f ∧ ∀ x ∈ l, P x
  | [], _ => ⟨[], rfl, fun x hx => absurd hx (by simp)⟩
  | d :: ds, h => by
    obtain ⟨x, rfl, hx⟩ := h d List.mem_cons_self
    obtain ⟨l, rfl, hl⟩ := map_ex (P := P) (f := f) (ds := ds) fun e he => h e (List.mem_cons_of_mem _ he)
    refine ⟨x :: l, rfl, fun y hy => ?_⟩
    rcases List.mem_cons.mp hy with rfl | hy
    · exact hx
    · exact hl y hy
theorem items_gi {m : Nat} {w : Int} {l : List It} (hm : m = 1 ∨ m = 2) (w2 : w ≤ 2000) (h : ∀ x ∈ l, okB 1000000000000000000 1000000000000000000 x.2 ∧ x.1.length = m ∧ TS.Bd w x.1) (l2 : l.length ≤ 20) : Gi 1300 m w l := by
  refine ⟨hm, w2, ⟨fun x hx => ?_, fun k => ?_, ⟨l.map (·.1), by rw [List.length_map]; omega, fun x hx => List.mem_map.mpr ⟨x, hx, rfl⟩⟩, by omega⟩, fun x hx => (h x hx).2.2⟩
  · obtain ⟨h1, h2, h3⟩ := h x hx
    refine ⟨⟨h1.1, h1.2.1⟩, Nat.le_trans (wt_okB h1) (by decide), h2, fun j hj => ⟨(h3 j hj).1, ?_⟩⟩
    have := (h3 j hj).2
    omega
  · have := wtS_le (B := 60) k (l := l) fun x hx => wt_okB (h x hx).1
    omega
theorem items_ex {m : Nat} {w : Int} {d : PyData} (hm : m = 1 ∨ m = 2) (w2 : w ≤ 2000) (h : isItems m w d = true) (b : bdD 20 d = true) : ∃ l : List It, sqD d = some (l.map dIt) ∧ Gi 1300 m w l := by
  unfold isItems at h
  split at h
  · rename_i ds e
    obtain ⟨hl, hb⟩ := bd_sq b e
    rw [List.all_eq_true] at h
    obtain ⟨l, rfl, hx⟩ := map_ex (f := dIt) (P := fun x : It => okB 1000000000000000000 1000000000000000000 x.2 ∧ x.1.length = m ∧ TS.Bd w x.1) (ds := ds) fun d hd => item_ex (h d hd) (bdA_mem hb hd)
    exact ⟨l, e, items_gi hm w2 hx (by rw [List.length_map] at hl; exact hl)⟩
  · cases h
section
variable {K : PySem.W.Frag} {H : Hp}
/-- a list or a tuple of items at the heap -/
theorem iv_sq {v : V} {d : PyData} {l : List It} (h : Dp K H v d) (e : sqD d = some (l.map dIt)) : IV K H v l := by
  obtain ⟨a, xs, rfl, ha, hx⟩ := sq_dp h e
  exact ⟨a, xs, rfl, ha, its_of hx⟩
theorem al_sq {α : Type} {R : V → α → Prop} {Q : PyData → α → Prop} (h : ∀ v d x, Dp K H v d → Q d x → R v x) : ∀ {xs : List V} {ds : List PyData} {l : List α}, DpAll K H xs ds → ds.length = l.length → (∀ (i : Nat) (d : PyData) (x : α), ds[i]? = some d → l[i]? = some x → Q d x) → Al R xs l
  | _, _, [], .nil, _, _ => .nil
  | _, _, x :: l, .cons a b, hl, hq => .cons (h _ _ _ a (hq 0 _ _ rfl rfl)) (al_sq h b (by simpa using hl) fun i d y h1 h2 => hq (i + 1) d y (by simpa using h1) (by simpa using h2))
/-- the things that a list's data stand for -/
theorem all_ex {α : Type} {Q : PyData → α → Prop} : ∀ {ds : List PyData}, (∀ d ∈ ds, ∃ x, Q d x) → ∃ l : List α, ds.length = l.length ∧ (∀ (i : Nat) (d : PyData) (x : α), ds[i]? = some d → l[i]? = some x → Q d x)
  | [], _ => ⟨[], rfl, fun i d x h _ => by simp at h⟩
  | d :: ds, h => by
    obtain ⟨x, hx⟩ := h d List.mem_cons_self
    obtain ⟨l, hl, hq⟩ := all_ex (Q := Q) (ds := ds) fun e he => h e (List.mem_cons_of_mem _ he)
    refine ⟨x :: l, by simp [hl], fun i e y h1 h2 => ?_⟩
    cases i with
    | zero => simp at h1 h2; subst h1; subst h2; exact hx
    | succ i => exact hq i e y (by simpa using h1) (by simpa using h2)
/-- items, as a relation -/
def QI (m : Nat) (w : Int) (d : PyData) (l : List It) : Prop := sqD d = some (l.map dIt) ∧ Gi 1300 m w l
theorem rows_rv {n w : Int} {v : V} {d : PyData} (w2 : w ≤ 2000) (h : isRows n w d = true) (b : bdD 20 d = true) (hd : Dp K H v d) : ∃ l : List (List It), RV K H v l ∧ (l.length : Int) = n ∧ ∀ r ∈ l, Gi 1300 1 w r := by
  unfold isRows at h
  split at h
  · rename_i ds e
    rw [Bool.and_eq_true, decide_eq_true_iff, List.all_eq_true] at h
    obtain ⟨_, hb⟩ := bd_sq b e
    obtain ⟨l, hl, hq⟩ := all_ex (Q := QI 1 w) (ds := ds) fun d hd => items_ex (.inl rfl) w2 (h.2 d hd) (bdA_mem hb hd)
    obtain ⟨a, xs, rfl, ha, hx⟩ := sq_dp hd e
    refine ⟨l, ⟨a, xs, rfl, ha, al_sq (Q := QI 1 w) (fun v d x h1 h2 => iv_sq h1 h2.1) hx hl hq⟩, by rw [← hl]; exact h.1, fun r hr => ?_⟩
    obtain ⟨i, hi⟩ := List.getElem?_of_mem hr
    have li : i < ds.length := by rw [hl]; exact (List.getElem?_eq_some_iff.mp hi).1
    exact (hq i _ r (List.getElem?_eq_getElem li) hi).2
  · cases h
theorem lw01 : low ((0, 1) : Fr) ∧ wt ((0, 1) : Fr) ≤ 3900 := ⟨⟨by decide, by decide⟩, by decide⟩
theorem kind_some {x : PyData} {k : Bool} (h : isKind x = some k) : x = .str (kS k) := by
  unfold isKind at h
  split at h
  · split at h
    · rename_i e; cases h; rw [e]; rfl
    · split at h
      · rename_i e; cases h; rw [e]; rfl
      · cases h
  · cases h
theorem part_pv {k : Bool} {w : Int} {v : V} {d : PyData} (w2 : w ≤ 2000) (h : isPart k w d = true) (b : bdD 20 d = true) (hd : Dp K H v d) : ∃ p : Pt, PV K H k v p ∧ Gp 1300 w k p := by
  unfold isPart at h
  split at h
  · rename_i ds
    obtain ⟨_, hb⟩ := bd_sq b rfl
    cases hd with
    | @tup a xs _ ha hx =>
    cases k with
    | true =>
      rcases ds with _ | ⟨x, _ | ⟨y, _ | ⟨u, r⟩⟩⟩ <;> first | cases h | skip
      have h' : (isItems 2 w x && isItems 2 w y) = true := h
      rw [Bool.and_eq_true] at h'
      obtain ⟨l1, e1, g1⟩ := items_ex (.inr rfl) w2 h'.1 (bdA_mem hb (by simp))
      obtain ⟨l2, e2, g2⟩ := items_ex (.inr rfl) w2 h'.2 (bdA_mem hb (by simp))
      cases hx with
      | cons hx1 hx =>
      cases hx with
      | cons hx2 hx =>
      cases hx
      exact ⟨⟨l1, (0, 1), l2⟩, ⟨a, _, _, rfl, iv_sq hx1 e1, iv_sq hx2 e2, by rw [if_pos rfl]; exact ha⟩, g1, g2, lw01⟩
    | false =>
      rcases ds with _ | ⟨x, _ | ⟨y, _ | ⟨u, _ | ⟨u2, r⟩⟩⟩⟩ <;> first | cases h | skip
      have h' : (isFrac y && (isItems 1 w x && isItems 1 w u)) = true := h
      rw [Bool.and_eq_true, Bool.and_eq_true] at h'
      obtain ⟨f, rfl, of⟩ := frac_ex h'.1 (bdA_mem hb (by simp))
      obtain ⟨l1, e1, g1⟩ := items_ex (.inl rfl) w2 h'.2.1 (bdA_mem hb (by simp))
      obtain ⟨l2, e2, g2⟩ := items_ex (.inl rfl) w2 h'.2.2 (bdA_mem hb (by simp))
      cases hx with
      | cons hx1 hx =>
      cases hx with
      | cons hx2 hx =>
      cases hx with
      | cons hx3 hx =>
      cases hx
      obtain ⟨u, rfl, hu⟩ := pr_of hx2
      exact ⟨⟨l1, f, l2⟩, ⟨a, _, _, rfl, iv_sq hx1 e1, iv_sq hx3 e2, by rw [if_neg (by decide)]; exact ⟨u, ha, hu⟩⟩, g1, g2, ⟨of.1, of.2.1⟩, Nat.le_trans (wt_okB of) (by decide)⟩
  · cases h
theorem al_ex {α : Type} {R : V → α → Prop} {Q : α → Prop} {ds : List PyData} {xs : List V} (hx : DpAll K H xs ds) (h : ∀ v d, d ∈ ds → Dp K H v d → ∃ x, R v x ∧ Q x) : ∃ l : List α, Al R xs l ∧ l.length = ds.length ∧ ∀ x ∈ l, Q x := by
  induction ds generalizing xs with
  | nil => cases hx; exact ⟨[], .nil, rfl, fun x hx => absurd hx (by simp)⟩
  | cons d ds ih =>
    cases hx with
    | cons a b =>
      obtain ⟨x, h1, h2⟩ := h _ d List.mem_cons_self a
      obtain ⟨l, h3, h4, h5⟩ := ih b fun v e he hv => h v e (List.mem_cons_of_mem _ he) hv
      refine ⟨x :: l, .cons h1 h3, by simp [h4], fun y hy => ?_⟩
      rcases List.mem_cons.mp hy with rfl | hy
      · exact h2
      · exact h5 y hy
theorem stage_sv {w : Int} {v : V} {d : PyData} (w2 : w ≤ 2000) (h : isStage w d = true) (b : bdD 20 d = true) (hd : Dp K H v d) : ∃ s : Sg, SV K H v s ∧ Gs 1300 w s := by
  unfold isStage at h
  split at h
  · rename_i x y
    obtain ⟨_, hb⟩ := bd_sq b rfl
    split at h
    · rename_i k ds ek ed
      rw [List.all_eq_true] at h
      obtain ⟨l3, hb2⟩ := bd_sq (bdA_mem hb (by simp)) ed
      obtain rfl := kind_some ek
      cases hd with
      | @tup a xs _ ha hx =>
      cases hx with
      | cons hx1 hx =>
      cases hx with
      | cons hx2 hx =>
      cases hx
      cases hx1
      obtain ⟨p, ys, rfl, hp, hy⟩ := sq_dp hx2 ed
      obtain ⟨l, h1, h2, h3⟩ := al_ex (R := PV K H k) (Q := Gp 1300 w k) hy fun v d hd hv => part_pv w2 (h d hd) (bdA_mem hb2 hd) hv
      exact ⟨(k, l), ⟨a, p, ys, rfl, ha, hp, h1⟩, by show l.length ≤ 20; omega, h3⟩
    · cases h
  · cases h
theorem stages_ssv {w : Int} {v : V} {d : PyData} {ds : List PyData} (w2 : w ≤ 2000) (h : stEr w d = none) (e : sqD d = some ds) (b : ∀ d ∈ ds, bdD 20 d = true) (hd : Dp K H v d) : ∃ l : List Sg, SsV K H v l ∧ l.length ≤ 100 ∧ ∀ s ∈ l, Gs 1300 w s := by
  unfold stEr at h
  rw [e] at h
  dsimp only at h
  split at h
  · cases h
  · rename_i l1
    have al : ∀ d ∈ ds, isStage w d = true := by
      have fb : ∀ (ds : List PyData) (k : Nat), fstBad w ds k = none → ∀ d ∈ ds, isStage w d = true := by
        intro ds
        induction ds with
        | nil => intro k _ d hd; simp at hd
        | cons x ds ih =>
          intro k hk d hd
          have hk' : (if isStage w x = true then fstBad w ds (k + 1) else some k) = none := hk
          split at hk'
          · rename_i hx
            rcases List.mem_cons.mp hd with rfl | hd
            · exact hx
            · exact ih _ hk' d hd
          · cases hk'
      refine fb ds 0 ?_
      cases q : fstBad w ds 0 with
      | none => rfl
      | some k => rw [q] at h; cases h
    obtain ⟨a, xs, rfl, ha, hx⟩ := sq_dp hd e
    obtain ⟨l, h1, h2, h3⟩ := al_ex (R := SV K H) (Q := Gs 1300 w) hx fun v d hd hv => stage_sv w2 (al d hd) (b d hd) hv
    exact ⟨l, ⟨a, xs, rfl, ha, h1⟩, by omega, h3⟩
end
end LK

set_option Elab.async false
set_option linter.all false
set_option maxRecDepth 100000
namespace LK
open PySem PySem.Spec PyProof.Rows L2
local macro_rules | `(tactic| walk_at "rs") => `(tactic| simp only [tFld, sFld, tMeth, tMethZ, tMakeK, tMakeS, tMethS, tEf, tProp, tFmt, rEqO, rNeO, cxK, cxNK, tCallZ, tAsg, tOp, rI0, rS0, rB0, rI, rU, tUn, rEq, rNe, rIxL, rIxT, rIxS, rSetL, rSlLU, rSlS, rSlU, rCatL, rCatU, rRepL, rIn, tVar, tC, gName, gSub, tIfS, tTest, tB, tAnd, tOr, tNot, tNotV, tAndV, tOrV, tIf, tCall, tCons, tNil, tCB, tDrop, tRet, tRetN, tNext, tLstU, tTupU, tM0, tM1, tPar, tPar3, tAug, ipI, tBM, tBM0, rAppend, rPop, tBreak, sDPut, tDGet, tDGet2, tCont, tChain, tSl, tPart, tNoPart, L2.start, List.map, List.length_cons, List.length_nil, List.replicate, List.cons_append, List.nil_append, List.append_nil, List.getElem?_cons_zero, List.getElem?_cons_succ, List.set_cons_zero, List.set_cons_succ, Option.some.injEq, V.int.injEq, V.ref.injEq, V.str.injEq, V.bl.injEq, exists_eq_left', exists_eq_left, exists_and_left, decide_eq_true_eq, List.cons.injEq, and_true, true_and, scal, Bool.not_eq_true', decide_eq_false_iff_not, Nat.zero_add, Nat.reduceAdd, Nat.reduceSub, reduceCtorEq, false_and, exists_false, false_or, or_false, CPow, CPowW, CMul, CDiv, Int.reduceToNat, ↓reduceIte, wipe, sw, List.nil_append, List.singleton_append])
local macro_rules | `(tactic| walk_at "st") => `(tactic| (refine seq_op fun N hN => ?_; walk_at "rs"))
local macro_rules | `(tactic| walk_at "sd") => `(tactic| first | assumption | decide | omega)
local macro_rules | `(tactic| walk_at "rd") => `(tactic| repeat (first
  | refine ⟨_, SqL.of (by assumption), ?_⟩ | refine ⟨_, SqL.of upd_same, ?_⟩ | refine ⟨_, .inl (SqL.of (by assumption)), ?_⟩ | refine ⟨_, (by assumption : _ = some (HO.lst _)), ?_⟩ | refine ⟨_, upd_same, ?_⟩
  | refine ⟨_, rfl, ?_⟩ | refine And.intro (by walk_at "sd") ?_))

/-- the fields of a net -/
def fl (vs : List V) : List (Str × V) := (["signs", "n", "width", "_rest_row", "_sign_rows", "_place_rows", "_stages"] : List Str).zip vs
theorem pf0 ( y : V) : putF "signs" y (fl []) = fl [y] := by rfl
theorem pf1 (v0 y : V) : putF "n" y (fl [v0]) = fl [v0, y] := by rfl
theorem pf2 (v0 v1 y : V) : putF "width" y (fl [v0, v1]) = fl [v0, v1, y] := by rfl
theorem pf3 (v0 v1 v2 y : V) : putF "_rest_row" y (fl [v0, v1, v2]) = fl [v0, v1, v2, y] := by rfl
theorem pf4 (v0 v1 v2 v3 y : V) : putF "_sign_rows" y (fl [v0, v1, v2, v3]) = fl [v0, v1, v2, v3, y] := by rfl
theorem pf5 (v0 v1 v2 v3 v4 y : V) : putF "_place_rows" y (fl [v0, v1, v2, v3, v4]) = fl [v0, v1, v2, v3, v4, y] := by rfl
theorem pf6 (v0 v1 v2 v3 v4 v5 y : V) : putF "_stages" y (fl [v0, v1, v2, v3, v4, v5]) = fl [v0, v1, v2, v3, v4, v5, y] := by rfl
/-- an instance of Net -/
def NA (K : PySem.W.Frag) (H : Hp) (C : Addr) (v : V) (x : Nd) : Prop := ∃ a dx r1 r2 r3 r4, v = .ref a ∧ H a = some (.ins C dx (fl [.int x.s, .int x.n, .int x.w, r1, r2, r3, r4])) ∧ Dp K H r1 (dI x.rest) ∧ Dp K H r2 (dRs x.sg) ∧ Dp K H r3 (dRs x.pl) ∧ Dp K H r4 (dSs x.st)
theorem NA.tk {K : PySem.W.Frag} {H H' : Hp} {C : Addr} {v : V} {x : Nd} (t : Tk H H') : NA K H C v x → NA K H' C v x := fun ⟨a, dx, r1, r2, r3, r4, e, h, h1, h2, h3, h4⟩ =>
  ⟨a, dx, r1, r2, r3, r4, e, t _ _ h (fun xs z => by cases z), dp_tk t (td_I _) h1, dp_tk t (td_Rs _) h2, dp_tk t (td_Rs _) h3, dp_tk t (td_Ss _) h4⟩
theorem NA.same {K : PySem.W.Frag} {H H' : Hp} {C : Addr} {v : V} {x : Nd} (s : Same H H') : NA K H C v x → NA K H' C v x := NA.tk (Tk.of s)
/-! tuples kept -/
mutual
theorem dp_tu {K : PySem.W.Frag} {H H' : Hp} (e : ∀ a xs, SqT K H a xs → SqT K H' a xs) : ∀ {d : PyData} {v : V}, tdD d = true → Dp K H v d → Dp K H' v d
  | .none, _, _, h => by cases h; exact .non
  | .bool _, _, _, h => by cases h; exact .bl _
  | .int _, _, _, h => by cases h; exact .int _
  | .str _, _, _, h => by cases h; exact .str _
  | .list ds, _, t, h => by unfold tdD at t; cases t
  | .tuple ds, _, t, h => by cases h with | tup a b => exact .tup (e _ _ a) (dpa_tu e (by unfold tdD at t; exact t) b)
  | .dict _, _, _, h => by cases h
theorem dpa_tu {K : PySem.W.Frag} {H H' : Hp} (e : ∀ a xs, SqT K H a xs → SqT K H' a xs) : ∀ {ds : List PyData} {vs : List V}, tdAll ds = true → DpAll K H vs ds → DpAll K H' vs ds
  | [], _, _, h => by cases h; exact .nil
  | _ :: _, _, t, h => by
    unfold tdAll at t
    rw [Bool.and_eq_true] at t
    cases h with | cons a b => exact .cons (dp_tu e t.1 a) (dpa_tu e t.2 b)
end
theorem notT_ins {H : Hp} {p C dx : Addr} {fs : List (Str × V)} (h : H p = some (.ins C dx fs)) : ∀ zs, ¬ Rd H p (.tup zs) := fun zs r => by
  rcases r with r | ⟨u, r⟩ <;> (rw [h] at r; cases r)
section
variable {P : Program} {w : World} {K : PySem.W.Frag} {mg : Str → Option Value} {base : Heap}
theorem norm_at {H : Hp} {Q : VK} {E : XK} {v : V} {l : List It} {m d : Nat} {wd : Int} (h : IV K H v l) (g : Gi m d wd l) (hm : m ≤ 3900) (k : ∀ t H', Same H H' → Dp K H' (.ref t) (dI (nf l)) → Q (.ref t) H') : sp_norm K d [v] H Q E := by
  obtain ⟨a, xs, rfl, ha, hi⟩ := h
  refine ⟨a, xs, l, rfl, ha, hi, g.fit hm, fun t ys its' H' s h1 h2 h3 _ => k t H' s ?_⟩
  rw [← nf_eq h3]
  exact dI_at h1 h2
def sp_npart (K : PySem.W.Frag) : Sp := fun vs H Q _ => ∃ (k : Bool) (v : V) (w : Int) (p : Pt), vs = [.str (kS k), v] ∧ PV K H k v p ∧ Gp 3900 w k p ∧ ∀ t H', Same H H' → Dp K H' (.ref t) (dP k (nfP p)) → Q (.ref t) H'
theorem ok_normal_part (T : Txt w K mg) : FnOk P w K mg base CX0 6 T.a_normal_part T.d_normal_part ["kind", "part"] (sp_npart K) := by
  refine T.F_normal_part.ok sc_normal_part (fun vs H Q E h => ?_) (fun cdv A outer s H vs Q E hr h => ?_)
  · obtain ⟨k, v, w, p, rfl, _⟩ := h
    rfl
  · obtain ⟨k, v, w, p, rfl, hv, g, kq⟩ := h
    have hr_normal_entries : Room 5 _ := hr
    have G_normal_entries := ok_normal_entries (P := P) (base := base) T
    have hr_normal_triples : Room 5 _ := hr
    have G_normal_triples := ok_normal_triples (P := P) (base := base) T
    refine ⟨_, (pss_cons (ps_if (pt_cmpR op_eqS (pv 0) pe_str (nomark _)) (pss_one (ps_ret (pe_tupU (pa_cons (pe_call G_normal_triples hr_normal_triples (by rfl) T.m_normal_triples T.F_normal_triples.kp T.B_normal_triples .nil pass0 (pa_cons (pe_ix ix_tup (pv 1) pe_int (fun _ _ => rfl)) pa_nil)) (pa_cons (pe_call G_normal_triples hr_normal_triples (by rfl) T.m_normal_triples T.F_normal_triples.kp T.B_normal_triples .nil pass0 (pa_cons (pe_ix ix_tup (pv 1) pe_int (fun _ _ => rfl)) pa_nil)) pa_nil))))) pss_nil)
      (pss_one (ps_ret (pe_tupU (pa_cons (pe_call G_normal_entries hr_normal_entries (by rfl) T.m_normal_entries T.F_normal_entries.kp T.B_normal_entries .nil pass0 (pa_cons (pe_ix ix_tup (pv 1) pe_int (fun _ _ => rfl)) pa_nil)) (pa_cons (pe_ix ix_tup (pv 1) pe_int (fun _ _ => rfl)) (pa_cons (pe_call G_normal_entries hr_normal_entries (by rfl) T.m_normal_entries T.F_normal_entries.kp T.B_normal_entries .nil pass0 (pa_cons (pe_ix ix_tup (pv 1) pe_int (fun _ _ => rfl)) pa_nil)) pa_nil))))))), ?_⟩
    obtain ⟨a, x, y, rfl, hx, hy, hk⟩ := hv
    cases k with
    | true =>
      rw [if_pos rfl] at hk
      refine seq_op fun N hN => ?_
      walk_at "rs"
      refine iteTT rfl ⟨_, hk, x, rfl, norm_at hx g.a (by decide) fun t1 H1 s1 h1 => ⟨_, Same.seqT s1 hk, y, rfl, norm_at (hy.same s1) g.b (by decide) fun t2 H2 s2 h2 => ⟨by decide, fun t3 H3 s3 _ h3 => ?_⟩⟩⟩
      refine kq t3 H3 (Same.trans s1 (Same.trans s2 s3)) ?_
      exact .tup (.inl (.inl h3)) (.cons (dp_same (Same.trans s2 s3) h1) (.cons (dp_same s3 h2) .nil))
    | false =>
      rw [if_neg (by decide)] at hk
      obtain ⟨u, hk, hu⟩ := hk
      refine seq_op fun N hN => ?_
      walk_at "rs"
      refine iteFF (by decide) (hN _ _ ?_)
      clear hN N
      walk_at "rs"
      refine ⟨_, hk, x, rfl, norm_at hx g.a (by decide) fun t1 H1 s1 h1 => ⟨_, Same.seqT s1 hk, .ref u, rfl, _, Same.seqT s1 hk, y, rfl, norm_at (hy.same s1) g.b (by decide) fun t2 H2 s2 h2 => ⟨by decide, fun t3 H3 s3 _ h3 => ?_⟩⟩⟩
      have s13 := Same.trans s1 (Same.trans s2 s3)
      refine kq t3 H3 s13 ?_
      exact .tup (.inl (.inl h3)) (.cons (dp_same (Same.trans s2 s3) h1) (.cons (dF_at (Same.seqT s13 hu)) (.cons (dp_same s3 h2) .nil)))
def sp_nstage (K : PySem.W.Frag) : Sp := fun vs H Q _ => ∃ (v : V) (w : Int) (s : Sg), vs = [v] ∧ SV K H v s ∧ Gs 3900 w s ∧ ∀ t H', Same H H' → Dp K H' (.ref t) (dS (nfS s)) → Q (.ref t) H'
theorem ok_normal_stage (T : Txt w K mg) : FnOk P w K mg base CX0 7 T.a_normal_stage T.d_normal_stage ["stage"] (sp_nstage K) := by
  refine T.F_normal_stage.ok sc_normal_stage (fun vs H Q E h => ?_) (fun cdv A outer s H vs Q E hr h => ?_)
  · obtain ⟨v, w, s, rfl, _⟩ := h
    rfl
  · obtain ⟨v, w, sg, rfl, hv, g, kq⟩ := h
    have hr_normal_part : Room 6 _ := hr
    have G_normal_part := ok_normal_part (P := P) (base := base) T
    refine ⟨_, (pss_cons (ps_asg (pv 0) (pg_tup rfl (pgs_cons (pg_name (i := 1) sc_normal_stage.nd rfl (Or.inr rfl)) (pgs_cons (pg_name (i := 2) sc_normal_stage.nd rfl (Or.inl rfl)) pgs_nil))))
      (pss_one (ps_ret (pe_tupU (pa_cons (pv 1) (pa_cons (pe_callTy call_tupleN (by rfl) T.n_tuple (by decide +kernel) (pa_cons (pe_lc (own := [("part", 3)]) (g := gName 3) (tt := tYes) rfl sc_normal_stage.nd (pi_lt (pv 2)) (blkOk_by (own := [("part", 3)]) (N := N_normal_stage) (sc := defScope s_normal_stage) (by decide +kernel)) (fun _ _ _ _ _ => pg_name (i := 3) sc_normal_stage.nd rfl (Or.inl rfl)) (fun _ _ _ _ _ => pts_nil) (fun _ _ _ _ _ => (pe_call G_normal_part hr_normal_part (by rfl) T.m_normal_part T.F_normal_part.kp T.B_normal_part .nil pass0 (pa_cons (pv 1) (pa_cons (pv 3) pa_nil))))) pa_nil)) pa_nil)))))), ?_⟩
    obtain ⟨a, p, xs, rfl, ha, hp, hx⟩ := hv
    refine seq_op fun N hN => ?_
    walk_at "rs"
    refine ⟨_, _, rfl, ha, rfl, ?_⟩
    unfold gCons gNil
    walk_at "rs"
    refine ⟨_, _, ⟨rfl, rfl⟩, _, _, rfl, rfl, hN _ _ ?_⟩
    clear hN N
    walk_at "rs"
    have lx := hx.len
    have l3 := g.len
    refine lc_al (sg.2.map fun p => dP sg.1 (nfP p)) (fun H v d => tdD d = true ∧ Dp K H v d) (fun G G' v d t h => ⟨h.1, dp_tk t h.1 h.2⟩) (fun Q q => ⟨_, rfl, q⟩) hp (by omega) (by rw [List.length_map]; exact lx) (fun j x y G hx1 hy1 s1 Q2 h2 => ?_) fun D H1 vs s1 _ h1 al => ?_
    · rw [List.getElem?_map] at hy1
      obtain ⟨p', hp1, rfl⟩ := Option.map_eq_some_iff.mp hy1
      obtain ⟨p2, hp2, hv⟩ := hx.get hx1
      rw [hp1] at hp2
      cases hp2
      walk_at "rs"
      exact ⟨sg.1, x, w, p', rfl, hv.same s1, g.it p' (List.mem_of_getElem? hp1), fun t H' s' q => h2 (.ref t) H' s' ⟨td_P _ _, q⟩⟩
    · walk_at "rs"
      refine ⟨_, SqL.of h1, fun q2 H2 s2 _ h2 => ⟨by decide, fun q3 H3 s3 _ h3 => kq q3 H3 (Same.trans s1 (Same.trans s2 s3)) ?_⟩⟩
      have al2 : DpAll K H3 vs (sg.2.map fun p => dP sg.1 (nfP p)) := by
        have := dpa_al (f := fun d => d) (al.imp fun _ _ h => dp_same (Same.trans s2 s3) h.2)
        rwa [List.map_id'] at this
      have e : (nfS sg).2.map (dP (nfS sg).1) = sg.2.map fun p => dP sg.1 (nfP p) := by
        show (sg.2.map nfP).map (dP sg.1) = _
        rw [List.map_map]; rfl
      refine .tup (.inl (.inl h3)) (.cons (.str _) (.cons (.tup (.inl (.inl (s3 _ _ h2))) ?_) .nil))
      rw [e]; exact al2
end
end LK

set_option Elab.async false
set_option linter.all false
set_option maxRecDepth 100000
namespace LK
open PySem PySem.Spec PyProof.Rows L2
local macro_rules | `(tactic| walk_at "rs") => `(tactic| simp only [tFld, sFld, tMeth, tMethZ, tMakeK, tMakeS, tMethS, tEf, tProp, tFmt, rEqO, rNeO, cxK, cxNK, tCallZ, tAsg, tOp, rI0, rS0, rB0, rI, rU, tUn, rEq, rNe, rIxL, rIxT, rIxS, rSetL, rSlLU, rSlS, rSlU, rCatL, rCatU, rRepL, rIn, tVar, tC, gName, gSub, tIfS, tTest, tB, tAnd, tOr, tNot, tNotV, tAndV, tOrV, tIf, tCall, tCons, tNil, tCB, tDrop, tRet, tRetN, tNext, tLstU, tTupU, tM0, tM1, tPar, tPar3, tAug, ipI, tBM, tBM0, rAppend, rPop, tBreak, sDPut, tDGet, tDGet2, tCont, tChain, tSl, tPart, tNoPart, L2.start, List.map, List.length_cons, List.length_nil, List.replicate, List.cons_append, List.nil_append, List.append_nil, List.getElem?_cons_zero, List.getElem?_cons_succ, List.set_cons_zero, List.set_cons_succ, Option.some.injEq, V.int.injEq, V.ref.injEq, V.str.injEq, V.bl.injEq, exists_eq_left', exists_eq_left, exists_and_left, decide_eq_true_eq, List.cons.injEq, and_true, true_and, scal, Bool.not_eq_true', decide_eq_false_iff_not, Nat.zero_add, Nat.reduceAdd, Nat.reduceSub, reduceCtorEq, false_and, exists_false, false_or, or_false, CPow, CPowW, CMul, CDiv, Int.reduceToNat, ↓reduceIte, wipe, sw, List.nil_append, List.singleton_append])
local macro_rules | `(tactic| walk_at "st") => `(tactic| (refine seq_op fun N hN => ?_; walk_at "rs"))
local macro_rules | `(tactic| walk_at "sd") => `(tactic| first | assumption | decide | omega)
local macro_rules | `(tactic| walk_at "rd") => `(tactic| repeat (first
  | refine ⟨_, SqL.of (by assumption), ?_⟩ | refine ⟨_, SqL.of upd_same, ?_⟩ | refine ⟨_, .inl (SqL.of (by assumption)), ?_⟩ | refine ⟨_, (by assumption : _ = some (HO.lst _)), ?_⟩ | refine ⟨_, upd_same, ?_⟩
  | refine ⟨_, rfl, ?_⟩ | refine And.intro (by walk_at "sd") ?_))

section
variable {P : Program} {w : World} {K : PySem.W.Frag} {mg : Str → Option Value} {base : Heap}
def sp_init (K : PySem.W.Frag) (C C1 C2 : Addr) : Sp := fun vs H Q E => ∃ (a dx : Addr) (Hb : Hp) (v0 v1 v2 vr vg vp vt : V) (d0 d1 d2 d3 d4 d5 d6 : PyData), vs = [.ref a, v0, v1, v2, vr, vg, vp, vt] ∧ H a = some (.ins C dx []) ∧ Hb a = none ∧ Same Hb H ∧
  Dp K Hb v0 d0 ∧ Dp K Hb v1 d1 ∧ Dp K Hb v2 d2 ∧ Dp K Hb vr d3 ∧ Dp K Hb vg d4 ∧ Dp K Hb vp d5 ∧ Dp K Hb vt d6 ∧ okAll [d3, d4, d5, d6] = true ∧ numD d2 ≤ 1000000000000000000 ∧
  (netEr [d0, d1, d2, d3, d4, d5, d6] = none → ∃ x : Nd, v0 = .int x.s ∧ v1 = .int x.n ∧ v2 = .int x.w ∧ IV K Hb vr x.rest ∧ RV K Hb vg x.sg ∧ RV K Hb vp x.pl ∧ SsV K Hb vt x.st ∧ Gn 3900 x ∧ ∀ H', Same Hb H' → NA K H' C (.ref a) (nfN x) → Q .non H') ∧
  (∀ e, netEr [d0, d1, d2, d3, d4, d5, d6] = some e → Rz C1 C2 e Hb E)
theorem Gs.lt3 {m : Nat} {w : Int} {l : List Sg} (h : ∀ s ∈ l, Gs m w s) (hm : m ≤ 3900) (w2 : w ≤ 2000) : ∀ s ∈ l, Gs 3900 w s := fun s hs => (h s hs).le hm (Int.le_refl _) w2
theorem ok_Net__init (T : Txt w K mg) : FnOk P w K mg base (L2.CX P w) 8 T.a_Net__init T.d_Net__init ["self", "signs", "n", "width", "rest", "sign_rows", "place_rows", "stages"] (sp_init K T.A_Net T.C_BadNet T.C_TooMany) := by
  refine T.F_Net__init.ok sc_Net__init (fun vs H Q E h => ?_) (fun cdv A outer s H vs Q E hr h => ?_)
  · obtain ⟨a, dx, Hb, v0, v1, v2, vr, vg, vp, vt, d0, d1, d2, d3, d4, d5, d6, rfl, _⟩ := h
    rfl
  · obtain ⟨a, dx, Hb, v0, v1, v2, vr, vg, vp, vt, d0, d1, d2, d3, d4, d5, d6, rfl, ha, hb0, sb, h0, h1, h2, h3, h4, h5, h6, od, w18, kn, ke⟩ := h
    have hr_are_sizes : Room 2 _ := hr.mono (by decide)
    have G_are_sizes := ok_are_sizes (P := P) (base := base) T
    have hr_is_number : Room 1 _ := hr.mono (by decide)
    have G_is_number := ok_is_number (P := P) (base := base) T
    have hr_are_items : Room 4 _ := hr.mono (by decide)
    have G_are_items := ok_are_items (P := P) (base := base) T
    have hr_are_rows : Room 5 _ := hr.mono (by decide)
    have G_are_rows := ok_are_rows (P := P) (base := base) T
    have hr_check_stages : Room 7 _ := hr
    have G_check_stages := ok_check_stages (P := P) (base := base) T
    have hr_normal_entries : Room 5 _ := hr.mono (by decide)
    have G_normal_entries := ok_normal_entries (P := P) (base := base) T
    have hr_normal_stage : Room 7 _ := hr
    have G_normal_stage := ok_normal_stage (P := P) (base := base) T
    have hr_init : Room 2 _ := hr.mono (by decide)
    refine ⟨_, (pss_cons (ps_if (PW.pt (pw_or (pt_not (pt_val (pe_call G_are_sizes hr_are_sizes (by rfl) T.m_are_sizes T.F_are_sizes.kp T.B_are_sizes .nil pass0 (pa_cons (pv 1) (pa_cons (pv 2) pa_nil))))) (pw_or (pt_not (pt_val (pe_call G_is_number hr_is_number (by rfl) T.m_is_number T.F_is_number.kp T.B_is_number .nil pass0 (pa_cons (pv 3) pa_nil)))) (pw_or1 (pt_cmpR op_lt (pv 3) pe_int (nomark _)))))) (pss_one (ps_raise rfl (takes_of rfl rfl rfl rfl) (pmk_oexM baseVE T.X_BadNet T.i_BadNet T.t_BadNet (ok_BadNet T) hr_init T.B_BadNet__init .nil pass0 (by rfl) T.m_BadNet (pa_cons pe_str pa_nil)))) pss_nil)
      (pss_cons (ps_if (pt_cmpR op_gt (pv 3) (pe_glob (v := .int 2000) (by rfl) T.m_MOST_WIDTH ⟨_, rfl⟩) (nomark _)) (pss_one (ps_raise rfl (takes_of rfl rfl rfl rfl) (pmk_oexM baseRE T.X_TooMany T.i_TooMany T.t_TooMany (ok_TooMany T) hr_init T.B_TooMany__init .nil pass0 (by rfl) T.m_TooMany (pa_cons pe_str (pa_cons (pv 3) pa_nil))))) pss_nil)
      (pss_cons (ps_if (pt_not (pt_val (pe_call G_are_items hr_are_items (by rfl) T.m_are_items T.F_are_items.kp T.B_are_items .nil pass0 (pa_cons (pv 4) (pa_cons pe_int (pa_cons (pv 3) pa_nil)))))) (pss_one (ps_raise rfl (takes_of rfl rfl rfl rfl) (pmk_oexM baseVE T.X_BadNet T.i_BadNet T.t_BadNet (ok_BadNet T) hr_init T.B_BadNet__init .nil pass0 (by rfl) T.m_BadNet (pa_cons pe_str pa_nil)))) pss_nil)
      (pss_cons (ps_if (pt_not (pt_val (pe_call G_are_rows hr_are_rows (by rfl) T.m_are_rows T.F_are_rows.kp T.B_are_rows .nil pass0 (pa_cons (pv 5) (pa_cons (pv 1) (pa_cons (pv 3) pa_nil)))))) (pss_one (ps_raise rfl (takes_of rfl rfl rfl rfl) (pmk_oexM baseVE T.X_BadNet T.i_BadNet T.t_BadNet (ok_BadNet T) hr_init T.B_BadNet__init .nil pass0 (by rfl) T.m_BadNet (pa_cons pe_str pa_nil)))) pss_nil)
      (pss_cons (ps_if (pt_not (pt_val (pe_call G_are_rows hr_are_rows (by rfl) T.m_are_rows T.F_are_rows.kp T.B_are_rows .nil pass0 (pa_cons (pv 6) (pa_cons (pv 2) (pa_cons (pv 3) pa_nil)))))) (pss_one (ps_raise rfl (takes_of rfl rfl rfl rfl) (pmk_oexM baseVE T.X_BadNet T.i_BadNet T.t_BadNet (ok_BadNet T) hr_init T.B_BadNet__init .nil pass0 (by rfl) T.m_BadNet (pa_cons pe_str pa_nil)))) pss_nil)
      (pss_cons (ps_expr (pe_callS G_check_stages hr_check_stages (by rfl) T.m_check_stages T.F_check_stages.kp T.B_check_stages (fun σ => passAt (takes_of rfl rfl rfl rfl) σ) (pa_cons (pv 7) (pa_cons (pv 3) pa_nil))))
      (pss_cons (ps_fld (pv 0) (pv 1) rfl)
      (pss_cons (ps_fld (pv 0) (pv 2) rfl)
      (pss_cons (ps_fld (pv 0) (pv 3) rfl)
      (pss_cons (ps_fld (pv 0) (pe_call G_normal_entries hr_normal_entries (by rfl) T.m_normal_entries T.F_normal_entries.kp T.B_normal_entries .nil pass0 (pa_cons (pv 4) pa_nil)) rfl)
      (pss_cons (ps_fld (pv 0) (pe_callTy call_tupleN (by rfl) T.n_tuple (by decide +kernel) (pa_cons (pe_lc (own := [("entries", 8)]) (g := gName 8) (tt := tYes) rfl sc_Net__init.nd (pi_lt (pv 5)) (blkOk_by (own := [("entries", 8)]) (N := N_Net__init) (sc := defScope s_Net__init) (by decide +kernel)) (fun _ _ _ _ _ => pg_name (i := 8) sc_Net__init.nd rfl (Or.inl rfl)) (fun _ _ _ _ _ => pts_nil) (fun _ _ _ _ _ => (pe_call G_normal_entries hr_normal_entries (by rfl) T.m_normal_entries T.F_normal_entries.kp T.B_normal_entries .nil pass0 (pa_cons (pv 8) pa_nil)))) pa_nil)) rfl)
      (pss_cons (ps_fld (pv 0) (pe_callTy call_tupleN (by rfl) T.n_tuple (by decide +kernel) (pa_cons (pe_lc (own := [("entries", 8)]) (g := gName 8) (tt := tYes) rfl sc_Net__init.nd (pi_lt (pv 6)) (blkOk_by (own := [("entries", 8)]) (N := N_Net__init) (sc := defScope s_Net__init) (by decide +kernel)) (fun _ _ _ _ _ => pg_name (i := 8) sc_Net__init.nd rfl (Or.inl rfl)) (fun _ _ _ _ _ => pts_nil) (fun _ _ _ _ _ => (pe_call G_normal_entries hr_normal_entries (by rfl) T.m_normal_entries T.F_normal_entries.kp T.B_normal_entries .nil pass0 (pa_cons (pv 8) pa_nil)))) pa_nil)) rfl)
      (pss_one (ps_fld (pv 0) (pe_callTy call_tupleN (by rfl) T.n_tuple (by decide +kernel) (pa_cons (pe_lc (own := [("stage", 9)]) (g := gName 9) (tt := tYes) rfl sc_Net__init.nd (pi_lt (pv 7)) (blkOk_by (own := [("stage", 9)]) (N := N_Net__init) (sc := defScope s_Net__init) (by decide +kernel)) (fun _ _ _ _ _ => pg_name (i := 9) sc_Net__init.nd rfl (Or.inl rfl)) (fun _ _ _ _ _ => pts_nil) (fun _ _ _ _ _ => (pe_call G_normal_stage hr_normal_stage (by rfl) T.m_normal_stage T.F_normal_stage.kp T.B_normal_stage .nil pass0 (pa_cons (pv 9) pa_nil)))) pa_nil)) rfl)))))))))))))), ?_⟩
    have rz : ∀ (c : Str) (G : Hp) (σ : L2.St), Same Hb G → netEr [d0, d1, d2, d3, d4, d5, d6] = some (.bad c) → tMkO T.C_BadNet (spInit T.C_BadNet "BadNet" ["where"]) [] (tCons (tC (.str c)) tNil) σ G (fun cls d H' => E cls d H') := fun c G σ s e => mk_er (ws := [.str c]) rfl (show 1 ≤ 100 by decide) (fun R h => by walk_at "rs"; exact h) fun d' H2 s2 hd2 h2 => (ke _ e).same s d' H2 s2 hd2 h2
    have o3 : okD d3 = true := okA_mem od (by simp)
    have o4 : okD d4 = true := okA_mem od (by simp)
    have o5 : okD d5 = true := okA_mem od (by simp)
    have o6 : okD d6 = true := okA_mem od (by simp)
    refine seq_op fun N hN => ?_
    walk_at "rs"
    refine ⟨v0, v1, d0, d1, rfl, dp_same sb h0, dp_same sb h1, fun H1 s1 => ⟨_, rfl, ite2 (fun z => rz "size" H1 _ (sb.trans s1) (if_pos (by rw [← Bool.and_assoc, z]; rfl))) (fun z => ⟨v2, d2, rfl, dp_same (sb.trans s1) h2, fun H2 s2 => ⟨isNum d2, rfl, ite2 (fun z2 => rz "size" H2 _ ((sb.trans s1).trans s2) (if_pos (by rw [within_no (d := d2) (by rw [z2]; decide)]; simp))) (fun z2 => ?_)⟩⟩)⟩⟩
    obtain ⟨wd, rfl, rfl⟩ := isNumI h2 (by rw [Bool.not_eq_false] at z2; exact z2)
    have s12 := s1.trans s2
    refine ⟨wd, rfl, ite2 (fun z3 => rz "size" H2 _ (sb.trans s12) (if_pos (by rw [within_i, decide_eq_false (show ¬ (1 : Int) ≤ wd by omega)]; simp))) (fun z3 => hN _ _ ?_)⟩
    clear hN N
    have cs : (within 2 5 d0 && (within 1 8 d1 && within 1 1000000000000000000 (.int wd))) = true := by
      rw [Bool.not_eq_false, Bool.and_eq_true] at z
      rw [z.1, z.2, within_i, decide_eq_true (show (1 : Int) ≤ wd by omega), decide_eq_true (show wd ≤ 1000000000000000000 from w18)]; rfl
    have cs' := cs
    rw [Bool.and_eq_true, Bool.and_eq_true] at cs'
    obtain ⟨i0, rfl, rfl, i02, i05⟩ := within_num h0 cs'.1
    obtain ⟨i1, rfl, rfl, i12, i15⟩ := within_num h1 cs'.2.1
    have eN : netEr [.int i0, .int i1, .int wd, d3, d4, d5, d6] = if 2000 < wd then some (.many "width" wd)
      else if isItems 1 wd d3 = false then some (.bad "rest")
      else if isRows i0 wd d4 = false then some (.bad "signs")
      else if isRows i1 wd d5 = false then some (.bad "places")
      else stEr wd d6 := if_neg (by rw [cs]; decide)
    rw [eN] at kn ke rz
    clear cs cs' eN z z2
    replace ha := s12 _ _ ha
    replace sb := Same.trans sb s12
    clear s12 s1 s2
    refine seq_op fun N hN => ?_
    walk_at "rs"
    refine ite2 (fun z => ?_) (fun z => hN _ _ ?_)
    · have q := (ke _ (if_pos z)).same sb
      exact mk_er (ws := [.str "width", .int wd]) rfl (show 2 ≤ 100 by decide) (fun R h => by walk_at "rs"; exact h) fun d' H2 s2 hd2 h2 => q d' H2 s2 hd2 h2
    clear hN N
    rw [if_neg z] at kn ke rz
    refine seq_op fun N hN => ?_
    walk_at "rs"
    refine ⟨vr, d3, 1, wd, rfl, dp_same sb h3, o3, fun H3 s3 => ⟨_, rfl, ite2 (fun z => rz "rest" H3 _ (sb.trans s3) (if_pos z)) (fun z => hN _ _ ?_)⟩⟩
    clear hN N
    rw [if_neg z] at kn ke rz
    replace ha := s3 _ _ ha
    replace sb := Same.trans sb s3
    clear s3
    refine seq_op fun N hN => ?_
    walk_at "rs"
    refine ⟨vg, d4, i0, wd, rfl, dp_same sb h4, o4, fun H4 s4 => ⟨_, rfl, ite2 (fun z => rz "signs" H4 _ (sb.trans s4) (if_pos z)) (fun z => hN _ _ ?_)⟩⟩
    clear hN N
    rw [if_neg z] at kn ke rz
    replace ha := s4 _ _ ha
    replace sb := Same.trans sb s4
    clear s4
    refine seq_op fun N hN => ?_
    walk_at "rs"
    refine ⟨vp, d5, i1, wd, rfl, dp_same sb h5, o5, fun H5 s5 => ⟨_, rfl, ite2 (fun z => rz "places" H5 _ (sb.trans s5) (if_pos z)) (fun z => hN _ _ ?_)⟩⟩
    clear hN N
    rw [if_neg z] at kn ke rz
    replace ha := s5 _ _ ha
    replace sb := Same.trans sb s5
    clear s5 rz
    refine seq_op fun N hN => ?_
    unfold tCallS
    walk_at "rs"
    refine ⟨vt, d6, wd, rfl, dp_same sb h6, o6, fun ne H6 s6 => hN _ _ ?_, fun e he => (ke e he).same sb⟩
    clear hN N
    obtain ⟨x, e0, e1, e2, hr1, hg1, hp1, ht1, g, kq⟩ := kn ne
    obtain ⟨gs1, gs2⟩ := g.s
    obtain ⟨gn1, gn2⟩ := g.n
    cases e0
    cases e1
    cases e2
    clear kn ke h0 h1 h2 h3 h4 h5 h6 i02 i05 i12 i15
    replace ha := s6 _ _ ha
    replace sb := Same.trans sb s6
    clear s6
    -- the fields
    have upd1 : ∀ {G : Hp} {o : HO}, Same Hb G → Same Hb (L2.upd G a o) := fun s p o e => by rw [upd_ne (ne_of_none e hb0)]; exact s _ _ e
    refine seq_op fun N hN => ?_
    walk_at "rs"
    refine ⟨_, _, _, ha, T.C_Net, T.na_signs, (by show 0 < 1000; decide), hN _ _ ?_⟩
    clear hN N
    rw [show putF "signs" (V.int x.s) [] = fl [.int x.s] from rfl]
    replace sb := upd1 (o := .ins T.A_Net dx (fl [.int x.s])) sb
    replace ha : (L2.upd H6 a (.ins T.A_Net dx (fl [.int x.s]))) a = some (.ins T.A_Net dx (fl [.int x.s])) := upd_same
    generalize L2.upd H6 a (.ins T.A_Net dx (fl [.int x.s])) = H7 at *
    refine seq_op fun N hN => ?_
    walk_at "rs"
    refine ⟨_, _, _, ha, T.C_Net, T.na_n, (by show 1 < 1000; decide), hN _ _ ?_⟩
    clear hN N
    rw [pf1]
    replace sb := upd1 (o := .ins T.A_Net dx (fl [.int x.s, .int x.n])) sb
    replace ha : (L2.upd H7 a (.ins T.A_Net dx (fl [.int x.s, .int x.n]))) a = some (.ins T.A_Net dx (fl [.int x.s, .int x.n])) := upd_same
    generalize L2.upd H7 a (.ins T.A_Net dx (fl [.int x.s, .int x.n])) = H8 at *
    refine seq_op fun N hN => ?_
    walk_at "rs"
    refine ⟨_, _, _, ha, T.C_Net, T.na_width, (by show 2 < 1000; decide), hN _ _ ?_⟩
    clear hN N
    rw [pf2]
    replace sb := upd1 (o := .ins T.A_Net dx (fl [.int x.s, .int x.n, .int x.w])) sb
    replace ha : (L2.upd H8 a (.ins T.A_Net dx (fl [.int x.s, .int x.n, .int x.w]))) a = some (.ins T.A_Net dx (fl [.int x.s, .int x.n, .int x.w])) := upd_same
    generalize L2.upd H8 a (.ins T.A_Net dx (fl [.int x.s, .int x.n, .int x.w])) = H9 at *
    have tu : ∀ {G : Hp} {fs gs : List (Str × V)}, G a = some (.ins T.A_Net dx fs) → ∀ {d : PyData} {v : V}, tdD d = true → Dp K G v d → Dp K (L2.upd G a (.ins T.A_Net dx gs)) v d := fun e _ _ td h => dp_tu (fun _ _ q => seqT_updO (notT_ins e) q) td h
    -- the resting place
    refine seq_op fun N hN => ?_
    walk_at "rs"
    refine norm_at (hr1.same sb) g.rest (by decide) fun t1 H10 s10 d1 => ⟨_, _, _, s10 _ _ ha, T.C_Net, T.na__rest_row, (by show 3 < 1000; decide), hN _ _ ?_⟩
    clear hN N
    rw [pf3]
    replace ha := s10 _ _ ha
    replace sb := Same.trans sb s10
    replace d1 := tu (gs := fl [.int x.s, .int x.n, .int x.w, .ref t1]) ha (td_I _) d1
    replace sb := upd1 (o := .ins T.A_Net dx (fl [.int x.s, .int x.n, .int x.w, .ref t1])) sb
    replace ha : (L2.upd H10 a (.ins T.A_Net dx (fl [.int x.s, .int x.n, .int x.w, .ref t1]))) a = some (.ins T.A_Net dx (fl [.int x.s, .int x.n, .int x.w, .ref t1])) := upd_same
    generalize L2.upd H10 a (.ins T.A_Net dx (fl [.int x.s, .int x.n, .int x.w, .ref t1])) = H11 at *
    clear s10 H10
    refine seq_op fun N hN => ?_
    walk_at "rs"
    obtain ⟨a4, xs4, e4, ha4, hx4⟩ := hg1.same sb
    subst e4
    refine lc_al (x.sg.map fun l => dI (nf l)) (fun H v d => tdD d = true ∧ Dp K H v d) (fun G G' v d t h => ⟨h.1, dp_tk t h.1 h.2⟩) (fun Q q => ⟨_, rfl, q⟩) ha4 (by have := hx4.len; have := g.sg.1; omega) (by rw [List.length_map]; exact hx4.len) (fun j v y G hx1 hy1 s1 Q2 h2 => ?_) fun D G1 vs s1 _ h1 al => ?_
    · rw [List.getElem?_map] at hy1
      obtain ⟨p', hp1', rfl⟩ := Option.map_eq_some_iff.mp hy1
      obtain ⟨p2, hp2, hv⟩ := hx4.get hx1
      rw [hp1'] at hp2
      cases hp2
      walk_at "rs"
      exact norm_at (hv.same s1) (g.sg.2 _ (List.mem_of_getElem? hp1')) (by decide) fun t H' s' q => h2 (.ref t) H' s' ⟨td_I _, q⟩
    walk_at "rs"
    refine ⟨_, SqL.of h1, fun t2 G2 s2 _ h2 => ⟨_, _, _, s2 _ _ (s1 _ _ ha), T.C_Net, T.na__sign_rows, (by show 4 < 1000; decide), hN _ _ ?_⟩⟩
    clear hN N
    rw [pf4]
    have s12 := Same.trans s1 s2
    have d2 : Dp K G2 (.ref t2) (dRs (x.sg.map nf)) := by
      have al2 := dpa_al (f := fun d => d) (al.imp fun _ _ h => dp_same s2 h.2)
      rw [List.map_id'] at al2
      refine .tup (.inl (.inl h2)) ?_
      rw [List.map_map]; exact al2
    replace ha := s12 _ _ ha
    replace sb := Same.trans sb s12
    replace d1 := tu (gs := fl [.int x.s, .int x.n, .int x.w, .ref t1, .ref t2]) ha (td_I _) (dp_same s12 d1)
    replace d2 := tu (gs := fl [.int x.s, .int x.n, .int x.w, .ref t1, .ref t2]) ha (td_Rs _) d2
    replace sb := upd1 (o := .ins T.A_Net dx (fl [.int x.s, .int x.n, .int x.w, .ref t1, .ref t2])) sb
    replace ha : (L2.upd G2 a (.ins T.A_Net dx (fl [.int x.s, .int x.n, .int x.w, .ref t1, .ref t2]))) a = some (.ins T.A_Net dx (fl [.int x.s, .int x.n, .int x.w, .ref t1, .ref t2])) := upd_same
    generalize L2.upd G2 a (.ins T.A_Net dx (fl [.int x.s, .int x.n, .int x.w, .ref t1, .ref t2])) = H12 at *
    refine seq_op fun N hN => ?_
    walk_at "rs"
    obtain ⟨a5, xs5, e5, ha5, hx5⟩ := hp1.same sb
    subst e5
    refine lc_al (x.pl.map fun l => dI (nf l)) (fun H v d => tdD d = true ∧ Dp K H v d) (fun G G' v d t h => ⟨h.1, dp_tk t h.1 h.2⟩) (fun Q q => ⟨_, rfl, q⟩) ha5 (by have := hx5.len; have := g.pl.1; omega) (by rw [List.length_map]; exact hx5.len) (fun j v y G hx1 hy1 s1 Q2 h2 => ?_) fun D G1 vs s1 _ h1 al => ?_
    · rw [List.getElem?_map] at hy1
      obtain ⟨p', hp1', rfl⟩ := Option.map_eq_some_iff.mp hy1
      obtain ⟨p2, hp2, hv⟩ := hx5.get hx1
      rw [hp1'] at hp2
      cases hp2
      walk_at "rs"
      exact norm_at (hv.same s1) (g.pl.2 _ (List.mem_of_getElem? hp1')) (by decide) fun t H' s' q => h2 (.ref t) H' s' ⟨td_I _, q⟩
    walk_at "rs"
    refine ⟨_, SqL.of h1, fun t3 G2 s2 _ h2 => ⟨_, _, _, s2 _ _ (s1 _ _ ha), T.C_Net, T.na__place_rows, (by show 5 < 1000; decide), hN _ _ ?_⟩⟩
    clear hN N
    rw [pf5]
    have s12 := Same.trans s1 s2
    have d3 : Dp K G2 (.ref t3) (dRs (x.pl.map nf)) := by
      have al2 := dpa_al (f := fun d => d) (al.imp fun _ _ h => dp_same s2 h.2)
      rw [List.map_id'] at al2
      refine .tup (.inl (.inl h2)) ?_
      rw [List.map_map]; exact al2
    replace ha := s12 _ _ ha
    replace sb := Same.trans sb s12
    replace d1 := tu (gs := fl [.int x.s, .int x.n, .int x.w, .ref t1, .ref t2, .ref t3]) ha (td_I _) (dp_same s12 d1)
    replace d2 := tu (gs := fl [.int x.s, .int x.n, .int x.w, .ref t1, .ref t2, .ref t3]) ha (td_Rs _) (dp_same s12 d2)
    replace d3 := tu (gs := fl [.int x.s, .int x.n, .int x.w, .ref t1, .ref t2, .ref t3]) ha (td_Rs _) d3
    replace sb := upd1 (o := .ins T.A_Net dx (fl [.int x.s, .int x.n, .int x.w, .ref t1, .ref t2, .ref t3])) sb
    replace ha : (L2.upd G2 a (.ins T.A_Net dx (fl [.int x.s, .int x.n, .int x.w, .ref t1, .ref t2, .ref t3]))) a = some (.ins T.A_Net dx (fl [.int x.s, .int x.n, .int x.w, .ref t1, .ref t2, .ref t3])) := upd_same
    generalize L2.upd G2 a (.ins T.A_Net dx (fl [.int x.s, .int x.n, .int x.w, .ref t1, .ref t2, .ref t3])) = H13 at *
    walk_at "rs"
    obtain ⟨a6, xs6, e6, ha6, hx6⟩ := ht1.same sb
    subst e6
    refine lc_al (x.st.map fun l => dS (nfS l)) (fun H v d => tdD d = true ∧ Dp K H v d) (fun G G' v d t h => ⟨h.1, dp_tk t h.1 h.2⟩) (fun Q q => ⟨_, rfl, q⟩) ha6 (by have := hx6.len; have := g.st.1; omega) (by rw [List.length_map]; exact hx6.len) (fun j v y G hx1 hy1 s1 Q2 h2 => ?_) fun D G1 vs s1 _ h1 al => ?_
    · rw [List.getElem?_map] at hy1
      obtain ⟨p', hp1', rfl⟩ := Option.map_eq_some_iff.mp hy1
      obtain ⟨p2, hp2, hv⟩ := hx6.get hx1
      rw [hp1'] at hp2
      cases hp2
      walk_at "rs"
      exact ⟨v, x.w, p', rfl, hv.same s1, g.st.2 _ (List.mem_of_getElem? hp1'), fun t H' s' q => h2 (.ref t) H' s' ⟨td_S _, q⟩⟩
    walk_at "rs"
    refine ⟨_, SqL.of h1, fun t4 G2 s2 _ h2 => ⟨_, _, _, s2 _ _ (s1 _ _ ha), T.C_Net, T.na__stages, (by show 6 < 1000; decide), ?_⟩⟩
    rw [pf6]
    have s12 := Same.trans s1 s2
    have d4 : Dp K G2 (.ref t4) (dSs (x.st.map nfS)) := by
      have al2 := dpa_al (f := fun d => d) (al.imp fun _ _ h => dp_same s2 h.2)
      rw [List.map_id'] at al2
      refine .tup (.inl (.inl h2)) ?_
      rw [List.map_map]; exact al2
    replace ha := s12 _ _ ha
    exact kq _ (upd1 (Same.trans sb s12)) ⟨a, dx, _, _, _, _, rfl, upd_same, tu ha (td_I _) (dp_same s12 d1), tu ha (td_Rs _) (dp_same s12 d2), tu ha (td_Rs _) (dp_same s12 d3), tu ha (td_Ss _) d4⟩
end
end LK

set_option Elab.async false
set_option linter.all false
set_option maxRecDepth 100000
namespace LK
open PySem PySem.Spec PyProof.Rows L2
local macro_rules | `(tactic| walk_at "rs") => `(tactic| simp only [tFld, sFld, tMeth, tMethZ, tMakeK, tMakeS, tMethS, tEf, tProp, tFmt, rEqO, rNeO, cxK, cxNK, tCallZ, tAsg, tOp, rI0, rS0, rB0, rI, rU, tUn, rEq, rNe, rIxL, rIxT, rIxS, rSetL, rSlLU, rSlS, rSlU, rCatL, rCatU, rRepL, rIn, tVar, tC, gName, gSub, tIfS, tTest, tB, tAnd, tOr, tNot, tNotV, tAndV, tOrV, tIf, tCall, tCons, tNil, tCB, tDrop, tRet, tRetN, tNext, tLstU, tTupU, tM0, tM1, tPar, tPar3, tAug, ipI, tBM, tBM0, rAppend, rPop, tBreak, sDPut, tDGet, tDGet2, tCont, tChain, tSl, tPart, tNoPart, L2.start, List.map, List.length_cons, List.length_nil, List.replicate, List.cons_append, List.nil_append, List.append_nil, List.getElem?_cons_zero, List.getElem?_cons_succ, List.set_cons_zero, List.set_cons_succ, Option.some.injEq, V.int.injEq, V.ref.injEq, V.str.injEq, V.bl.injEq, exists_eq_left', exists_eq_left, exists_and_left, decide_eq_true_eq, List.cons.injEq, and_true, true_and, scal, Bool.not_eq_true', decide_eq_false_iff_not, Nat.zero_add, Nat.reduceAdd, Nat.reduceSub, reduceCtorEq, false_and, exists_false, false_or, or_false, CPow, CPowW, CMul, CDiv, Int.reduceToNat, ↓reduceIte, wipe, sw, List.nil_append, List.singleton_append])
local macro_rules | `(tactic| walk_at "st") => `(tactic| (refine seq_op fun N hN => ?_; walk_at "rs"))
local macro_rules | `(tactic| walk_at "sd") => `(tactic| first | assumption | decide | omega)
local macro_rules | `(tactic| walk_at "rd") => `(tactic| repeat (first
  | refine ⟨_, SqL.of (by assumption), ?_⟩ | refine ⟨_, SqL.of upd_same, ?_⟩ | refine ⟨_, .inl (SqL.of (by assumption)), ?_⟩ | refine ⟨_, (by assumption : _ = some (HO.lst _)), ?_⟩ | refine ⟨_, upd_same, ?_⟩
  | refine ⟨_, rfl, ?_⟩ | refine And.intro (by walk_at "sd") ?_))

/-! ### drawn parts: lists throughout -/
section
variable {K : PySem.W.Frag} {H H' : Hp}
def IL (K : PySem.W.Frag) (H : Hp) (v : V) (l : List It) : Prop := ∃ a xs, v = .ref a ∧ H a = some (.lst xs) ∧ Its K H xs l
def RL (K : PySem.W.Frag) (H : Hp) (v : V) (l : List (List It)) : Prop := ∃ a xs, v = .ref a ∧ H a = some (.lst xs) ∧ Al (IL K H) xs l
def PL (K : PySem.W.Frag) (H : Hp) (k : Bool) (v : V) (p : Pt) : Prop := ∃ a x y, v = .ref a ∧ IL K H x p.a ∧ IL K H y p.b ∧ if k = true then SqT K H a [x, y] else ∃ u, SqT K H a [x, .ref u, y] ∧ Pr K H u p.f.1 p.f.2
def SL (K : PySem.W.Frag) (H : Hp) (v : V) (s : Sg) : Prop := ∃ a p xs, v = .ref a ∧ SqT K H a [.str (kS s.1), .ref p] ∧ H p = some (.lst xs) ∧ Al (PL K H s.1) xs s.2
def StL (K : PySem.W.Frag) (H : Hp) (v : V) (l : List Sg) : Prop := ∃ a xs, v = .ref a ∧ H a = some (.lst xs) ∧ Al (SL K H) xs l
def ShL (K : PySem.W.Frag) (H : Hp) (v : V) (x : Nd) : Prop := ∃ a vr vg vp vt, v = .ref a ∧ H a = some (.lst [.int x.s, .int x.n, .int x.w, vr, vg, vp, vt]) ∧ IL K H vr x.rest ∧ RL K H vg x.sg ∧ RL K H vp x.pl ∧ StL K H vt x.st
theorem IL.same (s : Same H H') {v : V} {l : List It} : IL K H v l → IL K H' v l := fun ⟨a, xs, e, h, i⟩ => ⟨a, xs, e, s _ _ h, i.same s⟩
theorem RL.same (s : Same H H') {v : V} {l : List (List It)} : RL K H v l → RL K H' v l := fun ⟨a, xs, e, h, i⟩ => ⟨a, xs, e, s _ _ h, i.imp fun _ _ => IL.same s⟩
theorem PL.same (s : Same H H') {k : Bool} {v : V} {p : Pt} : PL K H k v p → PL K H' k v p := fun ⟨a, x, y, e, hx, hy, h⟩ => ⟨a, x, y, e, hx.same s, hy.same s, by
  split at h
  · rename_i c; rw [if_pos c]; exact Same.seqT s h
  · rename_i c; rw [if_neg c]; obtain ⟨u, h1, h2⟩ := h; exact ⟨u, Same.seqT s h1, Same.seqT s h2⟩⟩
theorem SL.same (s : Same H H') {v : V} {g : Sg} : SL K H v g → SL K H' v g := fun ⟨a, p, xs, e, h, i, r⟩ => ⟨a, p, xs, e, Same.seqT s h, s _ _ i, r.imp fun _ _ => PL.same s⟩
theorem StL.same (s : Same H H') {v : V} {l : List Sg} : StL K H v l → StL K H' v l := fun ⟨a, xs, e, h, i⟩ => ⟨a, xs, e, s _ _ h, i.imp fun _ _ => SL.same s⟩
theorem ShL.same (s : Same H H') {v : V} {x : Nd} : ShL K H v x → ShL K H' v x := fun ⟨a, vr, vg, vp, vt, e, h, h1, h2, h3, h4⟩ => ⟨a, vr, vg, vp, vt, e, s _ _ h, h1.same s, h2.same s, h3.same s, h4.same s⟩
theorem IL.iv {v : V} {l : List It} : IL K H v l → IV K H v l := fun ⟨a, xs, e, h, i⟩ => ⟨a, xs, e, .inl (SqL.of h), i⟩
theorem RL.rv {v : V} {l : List (List It)} : RL K H v l → RV K H v l := fun ⟨a, xs, e, h, i⟩ => ⟨a, xs, e, .inl (SqL.of h), i.imp fun _ _ => IL.iv⟩
theorem PL.pv {k : Bool} {v : V} {p : Pt} : PL K H k v p → PV K H k v p := fun ⟨a, x, y, e, hx, hy, h⟩ => ⟨a, x, y, e, hx.iv, hy.iv, h⟩
theorem SL.sv {v : V} {g : Sg} : SL K H v g → SV K H v g := fun ⟨a, p, xs, e, h, i, r⟩ => ⟨a, p, xs, e, h, .inl (SqL.of i), r.imp fun _ _ => PL.pv⟩
theorem StL.sv {v : V} {l : List Sg} : StL K H v l → SsV K H v l := fun ⟨a, xs, e, h, i⟩ => ⟨a, xs, e, .inl (SqL.of h), i.imp fun _ _ => SL.sv⟩
end
/-- items that were drawn -/
theorem IG.gi {d m : Nat} {w : Int} {l : List It} (h : IG d w l) (hd : d = 1 ∨ d = 2) (w2 : w ≤ 2000) (f : Few m l) (hm : m ≤ 9) (hl : l.length ≤ 2 * m) (h3 : m ≤ 3) : Gi 400 d w l := by
  have l6 : l.length ≤ 6 := by omega
  exact ⟨hd, w2, (h.ft w2 f l6).of (by omega) (by decide) (by decide), fun x hx => (h.it x hx).2.2⟩
theorem ok_f {f : Fr} (h : okB 1000000000000000000 1000000000000000000 f) : low f ∧ wt f ≤ 3900 := ⟨⟨h.1, h.2.1⟩, Nat.le_trans (wt_okB h) (by decide)⟩
section
variable {P : Program} {w : World} {K : PySem.W.Frag} {mg : Str → Option Value} {base : Heap}
def sp_either (K : PySem.W.Frag) : Sp := fun vs H Q _ => ∃ (b c a : Addr) (N : Nat) (xs : List V), vs = [.ref b, .ref a] ∧ Bag (N + 1) H b c ∧ H a = some (.lst xs) ∧ a ≠ b ∧ ∀ q H', Bag N H' b c → Kp b H H' → (fr H H' q = some (.lst xs) ∨ SqT K (fr H H') q xs) → Q (.ref q) H'
theorem ok__law_either (T : Txt w K mg) : FnOk P w K mg base CX0 2 T.a__law_either T.d__law_either ["bag", "things"] (sp_either K) := by
  refine T.F__law_either.ok sc__law_either (fun vs H Q E h => ?_) (fun cdv A outer s H vs Q E hr h => ?_)
  · obtain ⟨b, c, a, N, xs, rfl, _⟩ := h
    rfl
  · obtain ⟨b, c, a, N0, xs, rfl, B, ha, nab, k⟩ := h
    have hr__law_draw : Room 1 _ := hr
    have G__law_draw := ok__law_draw (P := P) (base := base) T
    refine ⟨_, (pss_one (ps_ret (pe_ifExp (pt_cmpR op_eqI (pe_call G__law_draw hr__law_draw (by rfl) T.m__law_draw T.F__law_draw.kp T.B__law_draw .nil pass0 (pa_cons (pv 0) (pa_cons pe_int pa_nil))) pe_int (nomark _)) (pe_callTy call_listU (by rfl) T.n_list (by decide +kernel) (pa_cons (pv 1) pa_nil)) (pe_callTy call_tupleU (by rfl) T.n_tuple (by decide +kernel) (pa_cons (pv 1) pa_nil))))), ?_⟩
    walk_at "rs"
    refine ⟨b, c, 2, N0, rfl, B, by decide, by decide, fun r H1 _ _ B1 K1 => ⟨r, rfl, ite2 (fun _ => ?_) (fun _ => ?_)⟩⟩
    · refine ⟨_, .inl (SqL.of (K1.hd ha nab)), fun l H2 s2 l0 l1 => k l H2 (B1.same s2) (Same.trans K1 (Kp.of s2)) (.inl (fr_new (Kp.bn K1 B1.at.choose_spec l0) l1))⟩
    · refine ⟨_, .inl (SqL.of (K1.hd ha nab)), fun l H2 s2 l1 => k l H2 (B1.same s2) (Same.trans K1 (Kp.of s2)) (.inr (seqT_tk fr_tk l1))⟩
/-- items of 18 digits at most, few -/
def SzI (l : List It) : Prop := l.length ≤ 20 ∧ ∀ x ∈ l, okB 1000000000000000000 1000000000000000000 x.2
def Sz (p : Pt) : Prop := SzI p.a ∧ SzI p.b ∧ okB 1000000000000000000 1000000000000000000 p.f
def Gq (w : Int) (k : Bool) (p : Pt) : Prop := Gp 400 w k p ∧ Sz p
theorem IG.sz {d : Nat} {w : Int} {l : List It} (g : IG d w l) (h : l.length ≤ 20) : SzI l := ⟨h, fun x hx => (g.it x hx).1⟩
def sp_lstage (K : PySem.W.Frag) : Sp := fun vs H Q _ => ∃ (b c : Addr) (N : Nat) (w m : Int), vs = [.ref b, .int w, .int m] ∧ Bag (N + 400) H b c ∧ 1 ≤ w ∧ w ≤ 2000 ∧ 0 ≤ m ∧ m ≤ 3 ∧ ∀ v s H', Bag N H' b c → Kp b H H' → SL K (fr H H') v s → Gs 400 w s → (∀ p ∈ s.2, Sz p) → Q v H'
theorem ok__law_stage (T : Txt w K mg) : FnOk P w K mg base CX0 5 T.a__law_stage T.d__law_stage ["bag", "width", "most"] (sp_lstage K) := by
  refine T.F__law_stage.ok sc__law_stage (fun vs H Q E h => ?_) (fun cdv A outer s H vs Q E hr h => ?_)
  · obtain ⟨b, c, N, w, m, rfl, _⟩ := h
    rfl
  · obtain ⟨b, c, N0, wd, m, rfl, B, w1, w2, m0, m3, k⟩ := h
    have hr__law_draw : Room 1 _ := hr.mono (by decide)
    have G__law_draw := ok__law_draw (P := P) (base := base) T
    have hr__law_items : Room 4 _ := hr
    have G__law_items := ok__law_items (P := P) (base := base) T
    have hr__law_factor : Room 3 _ := hr.mono (by decide)
    have G__law_factor := ok__law_factor (P := P) (base := base) T
    refine ⟨_, (pss_cons (ps_if (pt_cmpR op_eqI (pe_call G__law_draw hr__law_draw (by rfl) T.m__law_draw T.F__law_draw.kp T.B__law_draw .nil pass0 (pa_cons (pv 0) (pa_cons pe_int pa_nil))) pe_int (nomark _)) (pss_cons (ps_setLc (i := 3) (own := [("k", 4)]) (g := gName 4) (tt := tYes) rfl sc__law_stage.nd rfl rfl (sw_true rfl rfl rfl (by decide +kernel)) (pi_range1 (by rfl) T.n_range (pa_cons (pe_call G__law_draw hr__law_draw (by rfl) T.m__law_draw T.F__law_draw.kp T.B__law_draw .nil pass0 (pa_cons (pv 0) (pa_cons (pe_op op_add (pv 2) pe_int) pa_nil))) pa_nil)) (blkOk_by (own := [("k", 4)]) (N := N__law_stage) (sc := defScope s__law_stage) (by decide +kernel)) (fun _ _ _ _ _ => pg_name (i := 4) sc__law_stage.nd rfl (Or.inl rfl)) (fun _ _ _ _ _ => pts_nil) (fun _ _ _ _ _ => (pe_tupU (pa_cons (pe_call G__law_items hr__law_items (by rfl) T.m__law_items T.F__law_items.kp T.B__law_items .nil pass0 (pa_cons (pv 0) (pa_cons pe_int (pa_cons (pv 1) (pa_cons pe_int pa_nil))))) (pa_cons (pe_call G__law_items hr__law_items (by rfl) T.m__law_items T.F__law_items.kp T.B__law_items .nil pass0 (pa_cons (pv 0) (pa_cons pe_int (pa_cons (pv 1) (pa_cons pe_int pa_nil))))) pa_nil)))))
      (pss_one (ps_ret (pe_tupU (pa_cons pe_str (pa_cons (pv 3) pa_nil)))))) pss_nil)
      (pss_cons (ps_set (i := 3) sc__law_stage.nd rfl (Or.inl rfl) (pe_lstU pa_nil))
      (pss_cons (ps_for PassesOwn.never rfl (pi_range1 (by rfl) T.n_range (pa_cons (pe_call G__law_draw hr__law_draw (by rfl) T.m__law_draw T.F__law_draw.kp T.B__law_draw .nil pass0 (pa_cons (pv 0) (pa_cons (pe_op op_add (pv 2) pe_int) pa_nil))) pa_nil)) (pg_name (i := 4) sc__law_stage.nd rfl (Or.inl rfl)) (pss_cons (ps_set (i := 5) sc__law_stage.nd rfl (Or.inl rfl) (pe_call G__law_items hr__law_items (by rfl) T.m__law_items T.F__law_items.kp T.B__law_items .nil pass0 (pa_cons (pv 0) (pa_cons pe_int (pa_cons (pv 1) (pa_cons pe_int pa_nil))))))
      (pss_one (ps_expr (pe_bm PySem.F.plainAttrs_list PySem.F.slot_list_append PySem.F.type_list_append mt_append (pv 3) (pa_cons (pe_tupU (pa_cons (pv 5) (pa_cons (pe_call G__law_factor hr__law_factor (by rfl) T.m__law_factor T.F__law_factor.kp T.B__law_factor .nil pass0 (pa_cons (pv 0) pa_nil)) (pa_cons (pe_call G__law_items hr__law_items (by rfl) T.m__law_items T.F__law_items.kp T.B__law_items .nil pass0 (pa_cons (pv 0) (pa_cons pe_int (pa_cons (pv 1) (pa_cons pe_int pa_nil))))) pa_nil)))) pa_nil))))))
      (pss_one (ps_ret (pe_tupU (pa_cons pe_str (pa_cons (pv 3) pa_nil)))))))), ?_⟩
    refine seq_op fun N hN => ?_
    walk_at "rs"
    refine ⟨b, c, 2, N0 + 399, rfl, B, by decide, by decide, fun r H1 _ _ B1 K1 => ⟨r, rfl, ite2 (fun _ => ?_) (fun _ => hN _ _ ?_)⟩⟩
    · refine seq_op fun N2 hN2 => ?_
      walk_at "rs"
      refine ⟨_, rfl, _, rfl, m, 1, rfl, rfl, b, c, m + 1, N0 + 398, rfl, B1.le (by omega), by omega, by omega, fun r1 H2 r10 r11 B2 K2 => ⟨r1, rfl, by omega, by omega, fun D hD => ?_⟩⟩
      have K02 := Same.trans K1 K2
      have d2 : ∀ a, H2 a = none → H a = none := Kp.dom K02 B2.at.choose_spec
      refine lc_drawF (n := r1.toNat) (k := 100) (N := N0 + 1) (fun G v => ∃ p, PL K G true v p ∧ Gq wd true p) (fun G G' v s ⟨p, h1, h2⟩ => ⟨p, h1.same s, h2⟩) hD (B2.le (by omega)) (by omega) (fun x H4 M K4 B4 Q2 hq => ?_) fun H4 vs B4 K4 h4 l4 hv => ?_
      · walk_at "rs"
        refine ⟨b, c, M + 47, 2, 3, wd, rfl, B4.le (by omega), by decide, by decide, by omega, w2, by decide, fun p1 xs1 i1 H5 B5 K5 p10 p11 t1 g1 l1 f1 => ?_⟩
        refine ⟨b, c, M + 12, 2, 2, wd, rfl, B5.le (by omega), by decide, by decide, by omega, w2, by decide, fun p2 xs2 i2 H6 B6 K6 p20 p21 t2 g2 l2 f2 => ⟨by decide, fun t H7 s7 t70 t71 => ?_⟩⟩
        have n1 := new_ne B4 p10
        have q1 := s7 _ _ (K6.hd p11 n1)
        have t17 := ((t1.kp B5 K6).same s7).tk (fr_tk (H := H4))
        have q2 := s7 _ _ p21
        have t27 := (t2.same s7).tk (fr_tk (H := H4))
        have d5 := Kp.bn K5 B5.at.choose_spec p20
        refine hq (.ref t) H7 ((B6.same s7).le (by omega)) (Same.trans K5 (Same.trans K6 (Kp.of s7))) ⟨⟨i1, (0, 1), i2⟩, ⟨t, .ref p1, .ref p2, rfl, ⟨p1, xs1, rfl, fr_new p10 q1, t17⟩, ⟨p2, xs2, rfl, fr_new d5 q2, t27⟩, by rw [if_pos rfl]; exact seqT_tk fr_tk (.inl (.inl t71))⟩, ?_⟩
        exact ⟨⟨g1.gi (.inr rfl) w2 f1 (by decide) l1 (by decide), g2.gi (.inr rfl) w2 f2 (by decide) l2 (by decide), low_zero, (by decide : wt ((0, 1) : Fr) ≤ 3900)⟩, g1.sz (by omega), g2.sz (by omega), (⟨by decide, by decide, by decide, by decide⟩ : okB 1000000000000000000 1000000000000000000 ((0, 1) : Fr))⟩
      · refine hN2 _ _ ?_
        walk_at "rs"
        refine ⟨by decide, fun t H5 s5 t50 t51 => ?_⟩
        obtain ⟨ps, hps⟩ := Al.ex (R := fun v p => PL K (fr (L2.upd H2 D (.lst [])) H4) true v p ∧ Gq wd true p) hv
        have sub : Same (fr (L2.upd H2 D (.lst [])) H4) (fr H H5) := Same.trans (fr_same s5) (fr_anti fun a q => d2 a (by
          by_cases n : a = D
          · rw [n, upd_same] at q; cases q
          · rwa [upd_ne n] at q))
        refine k (.ref t) (true, ps) H5 ((B4.same s5).le (by omega)) (Same.trans K02 (Same.trans K4 (Kp.of s5))) ⟨t, D, vs, rfl, seqT_tk fr_tk (.inl (.inl t51)), fr_new (d2 D hD) (s5 _ _ h4), hps.imp fun _ _ h => h.1.same sub⟩ ⟨?_, fun p hp => ?_⟩ fun p hp => (hps.mem' hp).choose_spec.2.2.2
        · have := hps.len
          show ps.length ≤ 20
          omega
        · obtain ⟨v, _, h⟩ := hps.mem' hp
          exact h.2.1
    · clear hN N
      refine seq_op fun N hN => ?_
      walk_at "rs"
      refine ⟨by decide, fun p0 H2 s2 p00 p01 => hN _ _ ?_⟩
      clear hN N
      have B2 := B1.same s2
      have pb := new_ne B1 p00
      refine cut_seq (fun σ H3 => ∃ (x4 x5 : Option V) (vs : List V), σ = [some (.ref b), some (.int wd), some (.int m), some (.ref p0), x4, x5] ∧ Bag N0 H3 b c ∧ Kp b H1 H3 ∧ (∀ a, H3 a = none → H2 a = none) ∧ H3 p0 = some (.lst vs) ∧ vs.length ≤ 3 ∧ ∀ v ∈ vs, ∃ p, PL K (fr H2 H3) false v p ∧ Gq wd false p) (fun N hN => ?_) ?_
      · walk_at "rs"
        refine ⟨_, rfl, _, rfl, m, 1, rfl, rfl, b, c, m + 1, N0 + 398, rfl, B2.le (by omega), by omega, by omega, fun r1 H4 r10 r11 B4 K4 => ⟨r1, rfl, by omega, by omega, for_range (lo := 0) (n := r1.toNat) (fun i σ H3 => ∃ (x4 x5 : Option V) (vs : List V), σ = [some (.ref b), some (.int wd), some (.int m), some (.ref p0), x4, x5] ∧ Bag (N0 + (r1.toNat - i) * 120) H3 b c ∧ Kp b H1 H3 ∧ (∀ a, H3 a = none → H2 a = none) ∧ H3 p0 = some (.lst vs) ∧ vs.length = i ∧ ∀ v ∈ vs, ∃ p, PL K (fr H2 H3) false v p ∧ Gq wd false p) ⟨_, _, [], rfl, B4.le (by omega), Same.trans (Kp.of s2) K4, Kp.dom K4 B4.at.choose_spec, K4.hd p01 pb, rfl, fun v hv => absurd hv (by simp)⟩ ?_ ?_⟩⟩
        · rintro i σ H3 hi ⟨x4, x5, vs, rfl, B3, K3, D3, h3, l3, hv⟩
          have e17 : (r1.toNat - i) * 120 = (r1.toNat - (i + 1)) * 120 + 120 := by omega
          rw [e17] at B3
          refine seq_op fun N2 hN2 => ?_
          walk_at "rs"
          refine ⟨b, c, N0 + (r1.toNat - (i + 1)) * 120 + 60, 1, 3, wd, rfl, B3.le (by omega), by decide, by decide, by omega, w2, by decide, fun p1 xs1 i1 H5 B5 K5 p10 p11 t1 g1 l1 f1 => hN2 _ _ ?_⟩
          clear hN2 N2
          walk_at "rs"
          have n1 := new_ne B3 p10
          refine ⟨.inl ⟨rfl, _, SqL.of (K5.hd h3 pb)⟩, b, c, N0 + (r1.toNat - (i + 1)) * 120 + 50, rfl, B5.le (by omega), fun tf f H6 okf tf0 tf1 B6 K6 => ?_⟩
          refine ⟨b, c, N0 + (r1.toNat - (i + 1)) * 120, 1, 2, wd, rfl, B6.le (by omega), by decide, by decide, by omega, w2, by decide, fun p2 xs2 i2 H7 B7 K7 p20 p21 t2 g2 l2 f2 => ⟨by decide, fun t H8 s8 t80 t81 => ?_⟩⟩
          have K58 : Kp b H5 H8 := Same.trans K6 (Same.trans K7 (Kp.of s8))
          have K38 : Kp b H3 H8 := Same.trans K5 K58
          have h8 := K38.hd h3 pb
          have d3 := D3
          have B8 := B7.same s8
          have d8 : ∀ a, H8 a = none → H3 a = none := Kp.dom K38 B8.at.choose_spec
          have d5 : ∀ a, H5 a = none → H3 a = none := Kp.dom K5 B5.at.choose_spec
          have d6 : ∀ a, H6 a = none → H5 a = none := Kp.dom K6 B6.at.choose_spec
          have pc : c ≠ p0 := fun e => by
            obtain ⟨xc, ec⟩ := B1.at2
            rw [← e, ec] at p00; cases p00
          have p0s : H2 p0 ≠ none := by rw [p01]; exact Option.some_ne_none _
          have U := fr_upd (H := H2) (o := .lst (vs ++ [.ref t])) h8 p0s
          have q1 := K58.hd p11 n1
          have t1' := ((((t1.kp B5 K6).kp B6 K7).same s8).tk (fr_tk (H := H2))).same U
          have q2 := s8 _ _ p21
          have t2' := ((t2.same s8).tk (fr_tk (H := H2))).same U
          have pf : Pr K H8 tf f.1 f.2 := .inl (.inl ((Same.trans (Kp.of s8) (Same.refl _) : Kp b H7 H8) |> fun kk => s8 _ _ (K7.hd tf1 (new_ne B5 tf0))))
          refine ⟨_, h8, Nat.lt_of_le_of_lt (show vs.length ≤ 1000 by omega) (by decide), _, _, ⟨rfl, rfl⟩, B8.upd pb.symm pc, ?_, ?_, _, upd_same, by rw [List.length_append, l3]; rfl, fun v hv' => ?_⟩
          · exact Kp.upd2 (Same.trans K3 K38) p00
          · intro a q
            have n : a ≠ p0 := fun z => by rw [z, upd_same] at q; cases q
            rw [upd_ne n] at q
            exact d3 a (d8 a q)
          · rcases List.mem_append.mp hv' with hv' | hv'
            · obtain ⟨p, h1, h2⟩ := hv v hv'
              exact ⟨p, (h1.same (fr_kp B2 B3 K38)).same U, h2⟩
            · obtain rfl := List.mem_singleton.mp hv'
              refine ⟨⟨i1, f, i2⟩, ⟨t, .ref p1, .ref p2, rfl, ⟨p1, xs1, rfl, U _ _ (fr_new (d3 _ p10) q1), t1'⟩, ⟨p2, xs2, rfl, U _ _ (fr_new (d3 _ (d5 _ (d6 _ p20))) q2), t2'⟩, ?_⟩, ?_⟩
              · rw [if_neg (by decide)]
                exact ⟨tf, Same.seqT U (seqT_tk fr_tk (.inl (.inl t81))), Same.seqT U (seqT_tk fr_tk pf)⟩
              · exact ⟨⟨g1.gi (.inl rfl) w2 f1 (by decide) l1 (by decide), g2.gi (.inl rfl) w2 f2 (by decide) l2 (by decide), ok_f okf⟩, g1.sz (by omega), g2.sz (by omega), okf⟩
        · rintro σ H3 ⟨x4, x5, vs, rfl, B3, K3, D3, h3, l3, hv⟩
          exact hN _ _ ⟨_, _, vs, rfl, B3.le (by omega), K3, D3, h3, by omega, hv⟩
      · rintro σ H3 ⟨x4, x5, vs, rfl, B3, K3, D3, h3, l3, hv⟩
        walk_at "rs"
        refine ⟨by decide, fun t H5 s5 t50 t51 => ?_⟩
        obtain ⟨ps, hps⟩ := Al.ex (R := fun v p => PL K (fr H2 H3) false v p ∧ Gq wd false p) hv
        have d1 : ∀ a, H1 a = none → H a = none := Kp.dom K1 B1.at.choose_spec
        have d2 : ∀ a, H2 a = none → H a = none := fun a q => d1 a (Same.dom s2 a q)
        have sub : Same (fr H2 H3) (fr H H5) := Same.trans (fr_same s5) (fr_anti d2)
        refine k (.ref t) (false, ps) H5 (B3.same s5) (Same.trans K1 (Same.trans K3 (Kp.of s5))) ⟨t, p0, vs, rfl, seqT_tk fr_tk (.inl (.inl t51)), fr_new (d1 _ p00) (s5 _ _ h3), hps.imp fun _ _ h => h.1.same sub⟩ ⟨?_, fun p hp => ?_⟩ fun p hp => (hps.mem' hp).choose_spec.2.2.2
        · have := hps.len
          show ps.length ≤ 20
          omega
        · obtain ⟨v, _, h⟩ := hps.mem' hp
          exact h.2.1
end
end LK

set_option Elab.async false
set_option linter.all false
set_option maxRecDepth 100000
namespace LK
open PySem PySem.Spec PyProof.Rows L2
local macro_rules | `(tactic| walk_at "rs") => `(tactic| simp only [tFld, sFld, tMeth, tMethZ, tMakeK, tMakeS, tMethS, tEf, tProp, tFmt, rEqO, rNeO, cxK, cxNK, tCallZ, tAsg, tOp, rI0, rS0, rB0, rI, rU, tUn, rEq, rNe, rIxL, rIxT, rIxS, rSetL, rSlLU, rSlS, rSlU, rCatL, rCatU, rRepL, rIn, tVar, tC, gName, gSub, tIfS, tTest, tB, tAnd, tOr, tNot, tNotV, tAndV, tOrV, tIf, tCall, tCons, tNil, tCB, tDrop, tRet, tRetN, tNext, tLstU, tTupU, tM0, tM1, tPar, tPar3, tAug, ipI, tBM, tBM0, rAppend, rPop, tBreak, sDPut, tDGet, tDGet2, tCont, tChain, tSl, tPart, tNoPart, L2.start, List.map, List.length_cons, List.length_nil, List.replicate, List.cons_append, List.nil_append, List.append_nil, List.getElem?_cons_zero, List.getElem?_cons_succ, List.set_cons_zero, List.set_cons_succ, Option.some.injEq, V.int.injEq, V.ref.injEq, V.str.injEq, V.bl.injEq, exists_eq_left', exists_eq_left, exists_and_left, decide_eq_true_eq, List.cons.injEq, and_true, true_and, scal, Bool.not_eq_true', decide_eq_false_iff_not, Nat.zero_add, Nat.reduceAdd, Nat.reduceSub, reduceCtorEq, false_and, exists_false, false_or, or_false, CPow, CPowW, CMul, CDiv, Int.reduceToNat, ↓reduceIte, wipe, sw, List.nil_append, List.singleton_append])
local macro_rules | `(tactic| walk_at "st") => `(tactic| (refine seq_op fun N hN => ?_; walk_at "rs"))
local macro_rules | `(tactic| walk_at "sd") => `(tactic| first | assumption | decide | omega)
local macro_rules | `(tactic| walk_at "rd") => `(tactic| repeat (first
  | refine ⟨_, SqL.of (by assumption), ?_⟩ | refine ⟨_, SqL.of upd_same, ?_⟩ | refine ⟨_, .inl (SqL.of (by assumption)), ?_⟩ | refine ⟨_, (by assumption : _ = some (HO.lst _)), ?_⟩ | refine ⟨_, upd_same, ?_⟩
  | refine ⟨_, rfl, ?_⟩ | refine And.intro (by walk_at "sd") ?_))

/-- over a list, the items new things of tuples and scalars -/
theorem lc_alL {α : Type} {K : PySem.W.Frag} {a : Addr} {xs : List V} {te tl : TE} {i : Nat} {σ : L2.St} {H1 : Hp} {Q : VK} (ys : List α) (R : Hp → V → α → Prop) (mono : ∀ G G' v x, Tk G G' → R G v x → R G' v x) (hv : ∀ Q : VK, Q (.ref a) H1 → tl σ H1 Q) (h : SqL K H1 a xs) (hn : xs.length ≤ 1000000) (hl : xs.length = ys.length)
    (hs : ∀ (j : Nat) (x : V) (y : α) (H : Hp), xs[j]? = some x → ys[j]? = some y → Same H1 H → ∀ Q2 : VK, (∀ v H3, Same H H3 → R H3 v y → Q2 v H3) → te ((wipe σ [i]).set i (some x)) H Q2)
    (hq : ∀ D H' vs, Same H1 H' → H1 D = none → H' D = some (.lst vs) → Al (R H') vs ys → Q (.ref D) H') : tLc (iList K tl) (gName i) tYes te [i] σ H1 Q := by
  refine hv _ ⟨a, rfl, ⟨xs, h⟩, fun D hD => lc_accD (walk_list (K := K) (a := a) (xs := xs)) (g := gName i) (te := te) (vs := [i]) (σ := σ) (D := D) (Qd := fun H => Q (.ref D) H) (fun j H vs => Al (R H) vs (ys.take j)) hD hn (fun j H H' vs s q => q.imp fun _ _ => mono _ _ _ _ (Tk.of s)) (fun j H vs zs o hD q => q.imp fun _ _ => mono _ _ _ _ (Tk.upd hD)) .nil (fun H s => s.seq h) (fun j x H H' hj s n ⟨e, hx⟩ => ?_) (gm_name i) fun H' vs s e l p => hq D H' vs s hD e ?_⟩
  · subst e
    have hy : ys[j]? = some (ys[j]'(by omega)) := List.getElem?_eq_getElem (by omega)
    refine ⟨Same.refl _, ?_, fun Q2 h2 => hs j x _ _ hx hy s Q2 fun v H3 s3 r => h2 v H3 s3 fun vs q => q.snoc_take hy r⟩
    show ((σ.set i none).set i (some x)).set i none = σ.set i none
    rw [List.set_set, List.set_set]
  · rw [hl, List.take_length] at p; exact p
/-- over a list, drawn: the items stand for ys -/
theorem lc_drawL {α : Type} {K : PySem.W.Frag} {a : Addr} {xs : List V} {te tl : TE} {i k N : Nat} {σ : L2.St} {H1 : Hp} {b c : Addr} {Q : VK} (ys : List α) (Φ : Hp → V → α → Prop) (mono : ∀ G G' v x, Same G G' → Φ G v x → Φ G' v x) (hv : ∀ Q : VK, Q (.ref a) H1 → tl σ H1 Q) (hx : H1 a = some (.lst xs)) (nab : a ≠ b) (hB : Bag (N + xs.length * k) H1 b c) (hn : xs.length ≤ 1000000) (hl : xs.length = ys.length)
    (hs : ∀ (j : Nat) (x : V) (y : α) (H : Hp) (M : Nat), xs[j]? = some x → ys[j]? = some y → Kp b H1 H → Bag (M + k) H b c → ∀ Q2 : V → Hp → Prop, (∀ v H3, Bag M H3 b c → Kp b H H3 → Φ (fr H H3) v y → Q2 v H3) → te ((wipe σ [i]).set i (some x)) H Q2)
    (hq : ∀ D H' vs, Bag N H' b c → Kp b H1 H' → H1 D = none → H' D = some (.lst vs) → Al (Φ (fr (L2.upd H1 D (.lst [])) H')) vs ys → Q (.ref D) H') : tLc (iList K tl) (gName i) tYes te [i] σ H1 Q := by
  refine hv _ ⟨a, rfl, ⟨xs, SqL.of hx⟩, fun D hD => lc_bagF (walk_list (K := K) (a := a) (xs := xs)) (g := gName i) (te := te) (vs := [i]) (σ := σ) (D := D) (Qd := fun H => Q (.ref D) H) hD hB hn (fun j G v => ∃ y, ys[j]? = some y ∧ Φ G v y) (fun j G G' v s ⟨y, e, p⟩ => ⟨y, e, mono _ _ _ _ s p⟩) (fun H s => SqL.of (s.hd hx nab)) (fun j x H H' M hj s B1 ⟨e, hx⟩ => ?_) (gm_name i) fun H' vs B s e l p => hq D H' vs B s hD e (Al.of_get (by omega) fun j v y h1 h2 => ?_)⟩
  · subst e
    have hy : ys[j]? = some (ys[j]'(by omega)) := List.getElem?_eq_getElem (by omega)
    refine ⟨Same.refl _, ?_, fun Q2 h2 => hs j x _ _ M hx hy s B1 Q2 fun v H3 B3 k3 p => h2 v H3 B3 k3 ⟨_, hy, p⟩⟩
    show ((σ.set i none).set i (some x)).set i none = σ.set i none
    rw [List.set_set, List.set_set]
  · obtain ⟨y', e', p'⟩ := p j v h1
    rw [h2] at e'
    cases e'
    exact p'
section
variable {P : Program} {w : World} {K : PySem.W.Frag} {mg : Str → Option Value} {base : Heap}
def sp_normX (K : PySem.W.Frag) : Sp := fun vs H Q E => ∃ d, 1 ≤ d ∧ d ≤ 2 ∧ sp_norm K d vs H Q E
theorem ok__law_normalX (T : Txt w K mg) : FnOk P w K mg base CX0 4 T.a__law_normal T.d__law_normal ["items"] (sp_normX K) :=
  ⟨fun vs H Q E ⟨d, d1, d2, h⟩ => (ok__law_normal (P := P) (base := base) T d d1 d2).len vs H Q E h, fun A outer s H args us vs Q E hr he hb hv ⟨d, d1, d2, h⟩ => (ok__law_normal (P := P) (base := base) T d d1 d2).run A outer s H args us vs Q E hr he hb hv h⟩
theorem normX_at {H : Hp} {Q : VK} {E : XK} {v : V} {l : List It} {m d : Nat} {wd : Int} (h : IV K H v l) (g : Gi m d wd l) (hm : m ≤ 3900) (k : ∀ t H', Same H H' → Dp K H' (.ref t) (dI (nf l)) → Q (.ref t) H') : sp_normX K [v] H Q E :=
  ⟨d, by have := g.hd; omega, by have := g.hd; omega, norm_at h g hm k⟩
def sp_sstage (K : PySem.W.Frag) : Sp := fun vs H Q _ => ∃ (v : V) (m : Nat) (w : Int) (s : Sg), vs = [v] ∧ SV K H v s ∧ Gs m w s ∧ m ≤ 3900 ∧ ∀ t H', Same H H' → Dp K H' (.ref t) (dS (nfS s)) → Q (.ref t) H'
theorem ok__law_settled_stage (T : Txt w K mg) : FnOk P w K mg base CX0 5 T.a__law_settled_stage T.d__law_settled_stage ["stage"] (sp_sstage K) := by
  refine T.F__law_settled_stage.ok sc__law_settled_stage (fun vs H Q E h => ?_) (fun cdv A outer s H vs Q E hr h => ?_)
  · obtain ⟨v, m, w, s, rfl, _⟩ := h
    rfl
  · obtain ⟨v, m, w, ⟨kb, ps⟩, rfl, ⟨a, p, xs, rfl, ha, hp, hx⟩, g, hm, kq⟩ := h
    have hr__law_normal : Room 4 _ := hr
    have G__law_normal := ok__law_normalX (P := P) (base := base) T
    refine ⟨_, (pss_cons (ps_if (pt_cmpR op_eqS (pe_ix ix_tup (pv 0) pe_int (fun _ _ => rfl)) pe_str (nomark _)) (pss_one (ps_ret (pe_tupU (pa_cons pe_str (pa_cons (pe_callTy call_tupleN (by rfl) T.n_tuple (by decide +kernel) (pa_cons (pe_lc (own := [("one", 1)]) (g := gName 1) (tt := tYes) rfl sc__law_settled_stage.nd (pi_lt (pe_ix ix_tup (pv 0) pe_int (fun _ _ => rfl))) (blkOk_by (own := [("one", 1)]) (N := N__law_settled_stage) (sc := defScope s__law_settled_stage) (by decide +kernel)) (fun _ _ _ _ _ => pg_name (i := 1) sc__law_settled_stage.nd rfl (Or.inl rfl)) (fun _ _ _ _ _ => pts_nil) (fun _ _ _ _ _ => (pe_tupU (pa_cons (pe_call G__law_normal hr__law_normal (by rfl) T.m__law_normal T.F__law_normal.kp T.B__law_normal .nil pass0 (pa_cons (pe_ix (ix_tupK (K := K) rfl) (pv 1) pe_int (fun _ _ => rfl)) pa_nil)) (pa_cons (pe_call G__law_normal hr__law_normal (by rfl) T.m__law_normal T.F__law_normal.kp T.B__law_normal .nil pass0 (pa_cons (pe_ix (ix_tupK (K := K) rfl) (pv 1) pe_int (fun _ _ => rfl)) pa_nil)) pa_nil))))) pa_nil)) pa_nil))))) pss_nil)
      (pss_one (ps_ret (pe_tupU (pa_cons pe_str (pa_cons (pe_callTy call_tupleN (by rfl) T.n_tuple (by decide +kernel) (pa_cons (pe_lc (own := [("one", 1)]) (g := gName 1) (tt := tYes) rfl sc__law_settled_stage.nd (pi_lt (pe_ix ix_tup (pv 0) pe_int (fun _ _ => rfl))) (blkOk_by (own := [("one", 1)]) (N := N__law_settled_stage) (sc := defScope s__law_settled_stage) (by decide +kernel)) (fun _ _ _ _ _ => pg_name (i := 1) sc__law_settled_stage.nd rfl (Or.inl rfl)) (fun _ _ _ _ _ => pts_nil) (fun _ _ _ _ _ => (pe_tupU (pa_cons (pe_call G__law_normal hr__law_normal (by rfl) T.m__law_normal T.F__law_normal.kp T.B__law_normal .nil pass0 (pa_cons (pe_ix (ix_tupK (K := K) rfl) (pv 1) pe_int (fun _ _ => rfl)) pa_nil)) (pa_cons (pe_ix (ix_tupK (K := K) rfl) (pv 1) pe_int (fun _ _ => rfl)) (pa_cons (pe_call G__law_normal hr__law_normal (by rfl) T.m__law_normal T.F__law_normal.kp T.B__law_normal .nil pass0 (pa_cons (pe_ix (ix_tupK (K := K) rfl) (pv 1) pe_int (fun _ _ => rfl)) pa_nil)) pa_nil)))))) pa_nil)) pa_nil)))))), ?_⟩
    replace ha : SqT K H a [.str (kS kb), .ref p] := ha
    replace hx : Al (PV K H kb) xs ps := hx
    have lx := hx.len
    have l3 : ps.length ≤ 20 := g.len
    have fin : ∀ (ys : List V) (G : Hp), Same H G → DpAll K G ys (ps.map fun p => dP kb (nfP p)) → ∀ q2 H2, Same G H2 → H2 q2 = some (.tup ys) → ∀ q3 H3, Same H2 H3 → H3 q3 = some (.tup [.str (kS kb), .ref q2]) → Q (.ref q3) H3 := fun ys G s1 al q2 H2 s2 h2 q3 H3 s3 h3 => kq q3 H3 (Same.trans s1 (Same.trans s2 s3)) (by
      have e : (nfS (kb, ps)).2.map (dP (nfS (kb, ps)).1) = ps.map fun p => dP kb (nfP p) := by
        show (ps.map nfP).map (dP kb) = _
        rw [List.map_map]; rfl
      refine .tup (.inl (.inl h3)) (.cons (.str _) (.cons (.tup (.inl (.inl (s3 _ _ h2))) ?_) .nil))
      rw [e]; exact dpa_same (Same.trans s2 s3) al)
    have hal : ∀ (G : Hp) (ys : List V), Al (fun v d => tdD d = true ∧ Dp K G v d) ys (ps.map fun p => dP kb (nfP p)) → DpAll K G ys (ps.map fun p => dP kb (nfP p)) := fun G ys al => by
      have := dpa_al (f := fun d => d) (al.imp fun _ _ h => h.2)
      rwa [List.map_id'] at this
    refine seq_op fun N hN => ?_
    walk_at "rs"
    refine ⟨_, ha, _, rfl, _, rfl, ite2 (fun c => ?_) (fun c => hN _ _ ?_)⟩
    · clear hN N
      cases kb with
      | false => exact absurd c (by decide)
      | true =>
      refine lc_al (ps.map fun p => dP true (nfP p)) (fun H v d => tdD d = true ∧ Dp K H v d) (fun G G' v d t h => ⟨h.1, dp_tk t h.1 h.2⟩) (fun Q q => ⟨_, rfl, a, _, 1, _, rfl, rfl, ha, rfl, q⟩) hp (by omega) (by rw [List.length_map]; exact lx) (fun j x y G hx1 hy1 s1 Q2 h2 => ?_) fun D H1 vs s1 _ h1 al => ?_
      · rw [List.getElem?_map] at hy1
        obtain ⟨p', hp1, rfl⟩ := Option.map_eq_some_iff.mp hy1
        obtain ⟨p2, hp2, hv⟩ := hx.get hx1
        rw [hp1] at hp2
        cases hp2
        have gp := g.it p' (List.mem_of_getElem? hp1)
        obtain ⟨a1, x1, y1, rfl, i1, i2, hk⟩ := hv.same s1
        rw [if_pos rfl] at hk
        walk_at "rs"
        refine ⟨_, hk, _, rfl, normX_at i1 gp.a hm fun t1 G1 u1 e1 => ⟨_, Same.seqT u1 hk, _, rfl, normX_at (i2.same u1) gp.b hm fun t2 G2 u2 e2 => ⟨by decide, fun t3 G3 u3 _ e3 => h2 (.ref t3) G3 (Same.trans u1 (Same.trans u2 u3)) ⟨td_P _ _, ?_⟩⟩⟩⟩
        exact .tup (.inl (.inl e3)) (.cons (dp_same (Same.trans u2 u3) e1) (.cons (dp_same u3 e2) .nil))
      · walk_at "rs"
        exact ⟨_, SqL.of h1, fun q2 H2 s2 _ h2 => ⟨by decide, fun q3 H3 s3 _ h3 => fin vs H1 s1 (hal H1 vs al) q2 H2 s2 h2 q3 H3 s3 h3⟩⟩
    · clear hN N
      cases kb with
      | true => exact absurd rfl c
      | false =>
      walk_at "rs"
      refine lc_al (ps.map fun p => dP false (nfP p)) (fun H v d => tdD d = true ∧ Dp K H v d) (fun G G' v d t h => ⟨h.1, dp_tk t h.1 h.2⟩) (fun Q q => ⟨_, rfl, a, _, 1, _, rfl, rfl, ha, rfl, q⟩) hp (by omega) (by rw [List.length_map]; exact lx) (fun j x y G hx1 hy1 s1 Q2 h2 => ?_) fun D H1 vs s1 _ h1 al => ?_
      · rw [List.getElem?_map] at hy1
        obtain ⟨p', hp1, rfl⟩ := Option.map_eq_some_iff.mp hy1
        obtain ⟨p2, hp2, hv⟩ := hx.get hx1
        rw [hp1] at hp2
        cases hp2
        have gp := g.it p' (List.mem_of_getElem? hp1)
        obtain ⟨a1, x1, y1, rfl, i1, i2, hk⟩ := hv.same s1
        rw [if_neg (by decide)] at hk
        obtain ⟨u, hk, hu⟩ := hk
        walk_at "rs"
        refine ⟨_, hk, _, rfl, normX_at i1 gp.a hm fun t1 G1 u1 e1 => ⟨_, Same.seqT u1 hk, _, rfl, _, Same.seqT u1 hk, _, rfl, normX_at (i2.same u1) gp.b hm fun t2 G2 u2 e2 => ⟨by decide, fun t3 G3 u3 _ e3 => h2 (.ref t3) G3 (Same.trans u1 (Same.trans u2 u3)) ⟨td_P _ _, ?_⟩⟩⟩⟩
        exact .tup (.inl (.inl e3)) (.cons (dp_same (Same.trans u2 u3) e1) (.cons (dF_at (Same.seqT (Same.trans u1 (Same.trans u2 u3)) hu)) (.cons (dp_same u3 e2) .nil)))
      · walk_at "rs"
        exact ⟨_, SqL.of h1, fun q2 H2 s2 _ h2 => ⟨by decide, fun q3 H3 s3 _ h3 => fin vs H1 s1 (hal H1 vs al) q2 H2 s2 h2 q3 H3 s3 h3⟩⟩
/-- without the bag and one list more -/
def Zb (b p : Addr) (H : Hp) : Hp := hb (hb H b) p
theorem hb_mono {G G' : Hp} (s : Same G G') (p : Addr) : Same (hb G p) (hb G' p) := fun a o e => by
  obtain ⟨h1, h2⟩ := hb_some e
  rw [hb_ne h1]; exact s _ _ h2
theorem hb_up {G : Hp} {p : Addr} {o : HO} : Same (hb G p) (hb (L2.upd G p o) p) := fun a u e => by
  obtain ⟨h1, h2⟩ := hb_some e
  rw [hb_ne h1, upd_ne h1]; exact h2
theorem hb_upd {G : Hp} {b p : Addr} {o : HO} (n : p ≠ b) : Same (Zb b p G) (Zb b p (L2.upd G p o)) := fun a u e => by
  obtain ⟨h1, h2⟩ := hb_some e
  obtain ⟨h3, h4⟩ := hb_some h2
  show hb (hb _ b) p a = _
  rw [hb_ne h1, hb_ne h3, upd_ne h1]; exact h4
theorem Zb_kp {b p : Addr} {H H' : Hp} (k : Kp b H H') : Same (Zb b p H) (Zb b p H') := hb_mono k p
theorem Zb_le {b p : Addr} {H : Hp} : Same (Zb b p H) (hb H b) := hb_le _ _
theorem Tk.hbl {H : Hp} {p : Addr} {xs : List V} (h : H p = some (.lst xs)) : Tk H (LK.hb H p) := fun a o e n => by
  rw [hb_ne fun z => ?_]; exact e
  subst z; rw [h] at e; exact n xs (Option.some.inj e).symm
theorem Zb_tk {b c p : Addr} {N : Nat} {H : Hp} {xs : List V} (B : Bag N H b c) (h : H p = some (.lst xs)) : Tk H (Zb b p H) := fun a o e n => by
  have h1 := Tk.hb B a o e n
  show hb (hb H b) p a = _
  rw [hb_ne fun z => ?_]; exact h1
  subst z; rw [h] at e; exact n xs (Option.some.inj e).symm
theorem Zb_at {b p q : Addr} {H : Hp} {o : HO} (h : H q = some o) (n1 : q ≠ b) (n2 : q ≠ p) : Zb b p H q = some o := by
  show hb (hb H b) p q = _
  rw [hb_ne n2, hb_ne n1]; exact h
theorem fr_Zb {b c p : Addr} {N M : Nat} {X H : Hp} {xs : List V} (B : Bag N X b c) (B' : Bag M H b c) (hX : X p ≠ none) (h : H p = some (.lst xs)) : Same (fr X H) (Zb b p H) := fun a o e => by
  have h2 := fr_le a o e
  by_cases q : ∃ xs, o = .lst xs
  · obtain ⟨xs, rfl⟩ := q
    have h0 := fr_lst e
    exact Zb_at h2 (new_ne B h0) fun z => hX (z ▸ h0)
  · exact Zb_tk B' h a o h2 fun xs z => q ⟨xs, z⟩
/-- a sheet, its list apart -/
def ShZ (K : PySem.W.Frag) (b : Addr) (H : Hp) (a : Addr) (x : Nd) : Prop := ∃ vr vg vp vt, H a = some (.lst [.int x.s, .int x.n, .int x.w, vr, vg, vp, vt]) ∧ a ≠ b ∧ IL K (Zb b a H) vr x.rest ∧ RL K (Zb b a H) vg x.sg ∧ RL K (Zb b a H) vp x.pl ∧ StL K (Zb b a H) vt x.st
theorem ShZ.shl {K : PySem.W.Frag} {b a : Addr} {H : Hp} {x : Nd} : ShZ K b H a x → ShL K (hb H b) (.ref a) x := fun ⟨vr, vg, vp, vt, e, n, h1, h2, h3, h4⟩ => ⟨a, vr, vg, vp, vt, rfl, by rw [hb_ne n]; exact e, h1.same Zb_le, h2.same Zb_le, h3.same Zb_le, h4.same Zb_le⟩
theorem ShZ.kp {K : PySem.W.Frag} {b a : Addr} {H H' : Hp} {x : Nd} (k : Kp b H H') : ShZ K b H a x → ShZ K b H' a x := fun ⟨vr, vg, vp, vt, e, n, h1, h2, h3, h4⟩ => ⟨vr, vg, vp, vt, k.hd e n, n, h1.same (Zb_kp k), h2.same (Zb_kp k), h3.same (Zb_kp k), h4.same (Zb_kp k)⟩
abbrev SmI : List It → Prop := SzI
structure Smx (x : Nd) : Prop where
  rest : SmI x.rest
  sg : ∀ l ∈ x.sg, SmI l
  pl : ∀ l ∈ x.pl, SmI l
  st : ∀ s ∈ x.st, ∀ p ∈ s.2, Sz p
def sp_sheet (K : PySem.W.Frag) : Sp := fun vs H Q _ => ∃ (b c : Addr) (N : Nat) (s n w y : Int), vs = [.ref b, .int s, .int n, .int w, .int y] ∧ Bag (N + 10000) H b c ∧ 2 ≤ s ∧ s ≤ 5 ∧ 1 ≤ n ∧ n ≤ 8 ∧ 1 ≤ w ∧ w ≤ 2000 ∧ 0 ≤ y ∧ y ≤ 5 ∧
  ∀ q x H', Bag N H' b c → Kp b H H' → H q = none → ShZ K b H' q x → x.w = w → Gn 400 x → x.st.length ≤ 5 → Smx x → Q (.ref q) H'
theorem ok__law_sheet (T : Txt w K mg) : FnOk P w K mg base CX0 6 T.a__law_sheet T.d__law_sheet ["bag", "signs", "n", "width", "stages_y"] (sp_sheet K) := by
  refine T.F__law_sheet.ok sc__law_sheet (fun vs H Q E h => ?_) (fun cdv A outer s H vs Q E hr h => ?_)
  · obtain ⟨b, c, N, s, n, w, y, rfl, _⟩ := h
    rfl
  · obtain ⟨b, c, N0, sz, nz, wz, yz, rfl, B, s1, s2, n1, n2, w1, w2, y1, y2, kq⟩ := h
    have hr__law_items : Room 4 _ := hr.mono (by decide)
    have G__law_items := ok__law_items (P := P) (base := base) T
    have hr__law_stage : Room 5 _ := hr
    have G__law_stage := ok__law_stage (P := P) (base := base) T
    refine ⟨_, (pss_cons (ps_set (i := 5) sc__law_sheet.nd rfl (Or.inl rfl) (pe_lstU (pa_cons (pv 1) (pa_cons (pv 2) (pa_cons (pv 3) (pa_cons (pe_call G__law_items hr__law_items (by rfl) T.m__law_items T.F__law_items.kp T.B__law_items .nil pass0 (pa_cons (pv 0) (pa_cons pe_int (pa_cons (pv 3) (pa_cons pe_int pa_nil))))) pa_nil))))))
      (pss_cons (ps_expr (pe_bm PySem.F.plainAttrs_list PySem.F.slot_list_append PySem.F.type_list_append mt_append (pv 5) (pa_cons (pe_lc (own := [("k", 6)]) (g := gName 6) (tt := tYes) rfl sc__law_sheet.nd (pi_range1 (by rfl) T.n_range (pa_cons (pv 1) pa_nil)) (blkOk_by (own := [("k", 6)]) (N := N__law_sheet) (sc := defScope s__law_sheet) (by decide +kernel)) (fun _ _ _ _ _ => pg_name (i := 6) sc__law_sheet.nd rfl (Or.inl rfl)) (fun _ _ _ _ _ => pts_nil) (fun _ _ _ _ _ => (pe_call G__law_items hr__law_items (by rfl) T.m__law_items T.F__law_items.kp T.B__law_items .nil pass0 (pa_cons (pv 0) (pa_cons pe_int (pa_cons (pv 3) (pa_cons pe_int pa_nil))))))) pa_nil)))
      (pss_cons (ps_expr (pe_bm PySem.F.plainAttrs_list PySem.F.slot_list_append PySem.F.type_list_append mt_append (pv 5) (pa_cons (pe_lc (own := [("k", 6)]) (g := gName 6) (tt := tYes) rfl sc__law_sheet.nd (pi_range1 (by rfl) T.n_range (pa_cons (pv 2) pa_nil)) (blkOk_by (own := [("k", 6)]) (N := N__law_sheet) (sc := defScope s__law_sheet) (by decide +kernel)) (fun _ _ _ _ _ => pg_name (i := 6) sc__law_sheet.nd rfl (Or.inl rfl)) (fun _ _ _ _ _ => pts_nil) (fun _ _ _ _ _ => (pe_call G__law_items hr__law_items (by rfl) T.m__law_items T.F__law_items.kp T.B__law_items .nil pass0 (pa_cons (pv 0) (pa_cons pe_int (pa_cons (pv 3) (pa_cons pe_int pa_nil))))))) pa_nil)))
      (pss_cons (ps_expr (pe_bm PySem.F.plainAttrs_list PySem.F.slot_list_append PySem.F.type_list_append mt_append (pv 5) (pa_cons (pe_lc (own := [("k", 6)]) (g := gName 6) (tt := tYes) rfl sc__law_sheet.nd (pi_range1 (by rfl) T.n_range (pa_cons (pv 4) pa_nil)) (blkOk_by (own := [("k", 6)]) (N := N__law_sheet) (sc := defScope s__law_sheet) (by decide +kernel)) (fun _ _ _ _ _ => pg_name (i := 6) sc__law_sheet.nd rfl (Or.inl rfl)) (fun _ _ _ _ _ => pts_nil) (fun _ _ _ _ _ => (pe_call G__law_stage hr__law_stage (by rfl) T.m__law_stage T.F__law_stage.kp T.B__law_stage .nil pass0 (pa_cons (pv 0) (pa_cons (pv 3) (pa_cons pe_int pa_nil)))))) pa_nil)))
      (pss_one (ps_ret (pv 5))))))), ?_⟩
    refine seq_op fun N hN => ?_
    walk_at "rs"
    refine ⟨b, c, N0 + 9000, 1, 3, wz, rfl, B.le (by omega), by decide, by decide, by omega, w2, by decide, fun p1 xs1 i1 H1 B1 K1 p10 p11 t1 g1 l1 f1 => ⟨by decide, fun p0 H2 s2' q0 q1 => hN _ _ ?_⟩⟩
    clear hN N
    have q00 := Kp.bn K1 B1.at.choose_spec q0
    have pb := new_ne B q00
    have B0 := B
    replace B := B1.same s2'
    have KK : Kp b H H2 := Same.trans K1 (Kp.of s2')
    have np1 : p1 ≠ p0 := fun z => by rw [z, q0] at p11; cases p11
    have d1 : IL K (Zb b p0 H2) (.ref p1) i1 := ⟨p1, xs1, rfl, Zb_at (s2' _ _ p11) (new_ne B0 p10) np1, (t1.same s2').tk (Zb_tk B q1)⟩
    have gr := g1.gi (.inl rfl) w2 f1 (by decide) l1 (by decide)
    have grs := g1.sz (by omega)
    have cne : ∀ {N : Nat} {G : Hp} {D : Addr}, Bag N G b c → G D = none → c ≠ D := fun {N G D} B q e => by
      obtain ⟨xc, ec⟩ := B.at2
      rw [← e, ec] at q; cases q
    have pc : c ≠ p0 := cne B1 q0
    clear s2' q0 p10 p11 t1 f1 l1 g1
    refine seq_op fun N hN => ?_
    walk_at "rs"
    refine ⟨.inl ⟨rfl, _, SqL.of q1⟩, ?_⟩
    refine ⟨_, rfl, sz, rfl, by omega, by omega, fun D4 hD => ?_⟩
    refine lc_drawF (n := (sz).toNat) (k := 35) (N := N0 + 8500) (fun G v => ∃ l, IL K G v l ∧ Gi 400 1 wz l ∧ SmI l) (fun G G' v s ⟨l, h1, h2⟩ => ⟨l, h1.same s, h2⟩) hD (B.le (by omega)) (by omega) (fun x H4 M K4 B4 Q2 hq => ?_) fun H4 vs B4 K4 h4 lv hv => ?_
    · walk_at "rs"
      refine ⟨b, c, M, 1, 2, wz, rfl, B4.le (by omega), by decide, by decide, by omega, w2, by decide, fun p1 xs1 i1 H5 B5 K5 p10 p11 t1 g1 l1 f1 => hq (.ref p1) H5 B5 K5 ⟨i1, ⟨p1, xs1, rfl, fr_new p10 p11, t1.tk fr_tk⟩, g1.gi (.inl rfl) w2 f1 (by decide) l1 (by decide), g1.sz (by omega)⟩⟩
    have e4 := K4.hd q1 pb
    refine ⟨_, e4, by show 4 < sizeLine; rw [sizeLine_eq]; omega, hN _ _ ?_⟩
    clear hN N
    obtain ⟨l4, al4⟩ := Al.ex hv
    have nD : D4 ≠ p0 := fun z => by rw [z, q1] at hD; cases hD
    have nDb := new_ne B hD
    have xD : (L2.upd H2 D4 (.lst [])) p0 ≠ none := by rw [upd_ne nD.symm, q1]; exact Option.some_ne_none _
    have d2 : RL K (Zb b p0 H4) (.ref D4) l4 := ⟨D4, vs, rfl, Zb_at h4 nDb nD, al4.imp fun _ _ h => h.1.same (fr_Zb (B.upd (Ne.symm nDb) (cne B hD)) B4 xD e4)⟩
    have len4 : l4.length = (sz).toNat := by rw [← al4.len]; exact lv
    have gg4 : ∀ l ∈ l4, Gi 400 1 wz l ∧ SmI l := fun l hl => (al4.mem' hl).choose_spec.2.2
    clear al4
    replace d1 := (d1.same (Zb_kp K4)).same (hb_upd (o := .lst [.int sz, .int nz, .int wz, .ref p1, .ref D4]) pb)
    replace d2 := d2.same (hb_upd (o := .lst [.int sz, .int nz, .int wz, .ref p1, .ref D4]) pb)
    replace KK := Kp.upd2 (o := .lst [.int sz, .int nz, .int wz, .ref p1, .ref D4]) (Same.trans KK K4) q00
    replace B := B4.upd (o := .lst [.int sz, .int nz, .int wz, .ref p1, .ref D4]) pb.symm pc
    replace q1 : (L2.upd H4 p0 (.lst [.int sz, .int nz, .int wz, .ref p1, .ref D4])) p0 = some (.lst [.int sz, .int nz, .int wz, .ref p1, .ref D4]) := upd_same
    show tSeq _ _ _ _ (L2.upd H4 p0 (.lst [.int sz, .int nz, .int wz, .ref p1, .ref D4]))
    generalize L2.upd H4 p0 (.lst [.int sz, .int nz, .int wz, .ref p1, .ref D4]) = H6 at *
    clear hD nD nDb xD h4 e4 hv B4 K4 lv
    refine seq_op fun N hN => ?_
    walk_at "rs"
    refine ⟨.inl ⟨rfl, _, SqL.of q1⟩, ?_⟩
    refine ⟨_, rfl, nz, rfl, by omega, by omega, fun D5 hD => ?_⟩
    refine lc_drawF (n := (nz).toNat) (k := 35) (N := N0 + 8000) (fun G v => ∃ l, IL K G v l ∧ Gi 400 1 wz l ∧ SmI l) (fun G G' v s ⟨l, h1, h2⟩ => ⟨l, h1.same s, h2⟩) hD (B.le (by omega)) (by omega) (fun x H4 M K4 B4 Q2 hq => ?_) fun H4 vs B4 K4 h4 lv hv => ?_
    · walk_at "rs"
      refine ⟨b, c, M, 1, 2, wz, rfl, B4.le (by omega), by decide, by decide, by omega, w2, by decide, fun p1 xs1 i1 H5 B5 K5 p10 p11 t1 g1 l1 f1 => hq (.ref p1) H5 B5 K5 ⟨i1, ⟨p1, xs1, rfl, fr_new p10 p11, t1.tk fr_tk⟩, g1.gi (.inl rfl) w2 f1 (by decide) l1 (by decide), g1.sz (by omega)⟩⟩
    have e4 := K4.hd q1 pb
    refine ⟨_, e4, by show 5 < sizeLine; rw [sizeLine_eq]; omega, hN _ _ ?_⟩
    clear hN N
    obtain ⟨l5, al5⟩ := Al.ex hv
    have nD : D5 ≠ p0 := fun z => by rw [z, q1] at hD; cases hD
    have nDb := new_ne B hD
    have xD : (L2.upd H6 D5 (.lst [])) p0 ≠ none := by rw [upd_ne nD.symm, q1]; exact Option.some_ne_none _
    have d3 : RL K (Zb b p0 H4) (.ref D5) l5 := ⟨D5, vs, rfl, Zb_at h4 nDb nD, al5.imp fun _ _ h => h.1.same (fr_Zb (B.upd (Ne.symm nDb) (cne B hD)) B4 xD e4)⟩
    have len5 : l5.length = (nz).toNat := by rw [← al5.len]; exact lv
    have gg5 : ∀ l ∈ l5, Gi 400 1 wz l ∧ SmI l := fun l hl => (al5.mem' hl).choose_spec.2.2
    clear al5
    replace d1 := (d1.same (Zb_kp K4)).same (hb_upd (o := .lst [.int sz, .int nz, .int wz, .ref p1, .ref D4, .ref D5]) pb)
    replace d2 := (d2.same (Zb_kp K4)).same (hb_upd (o := .lst [.int sz, .int nz, .int wz, .ref p1, .ref D4, .ref D5]) pb)
    replace d3 := d3.same (hb_upd (o := .lst [.int sz, .int nz, .int wz, .ref p1, .ref D4, .ref D5]) pb)
    replace KK := Kp.upd2 (o := .lst [.int sz, .int nz, .int wz, .ref p1, .ref D4, .ref D5]) (Same.trans KK K4) q00
    replace B := B4.upd (o := .lst [.int sz, .int nz, .int wz, .ref p1, .ref D4, .ref D5]) pb.symm pc
    replace q1 : (L2.upd H4 p0 (.lst [.int sz, .int nz, .int wz, .ref p1, .ref D4, .ref D5])) p0 = some (.lst [.int sz, .int nz, .int wz, .ref p1, .ref D4, .ref D5]) := upd_same
    show tSeq _ _ _ _ (L2.upd H4 p0 (.lst [.int sz, .int nz, .int wz, .ref p1, .ref D4, .ref D5]))
    generalize L2.upd H4 p0 (.lst [.int sz, .int nz, .int wz, .ref p1, .ref D4, .ref D5]) = H7 at *
    clear hD nD nDb xD h4 e4 hv B4 K4 lv
    refine seq_op fun N hN => ?_
    walk_at "rs"
    refine ⟨.inl ⟨rfl, _, SqL.of q1⟩, ?_⟩
    refine ⟨_, rfl, yz, rfl, by omega, by omega, fun D6 hD => ?_⟩
    refine lc_drawF (n := (yz).toNat) (k := 400) (N := N0 + 0) (fun G v => ∃ l, SL K G v l ∧ Gs 400 wz l ∧ ∀ p ∈ l.2, Sz p) (fun G G' v s ⟨l, h1, h2⟩ => ⟨l, h1.same s, h2⟩) hD (B.le (by omega)) (by omega) (fun x H4 M K4 B4 Q2 hq => ?_) fun H4 vs B4 K4 h4 lv hv => ?_
    · walk_at "rs"
      exact ⟨b, c, M, wz, 3, rfl, B4, w1, w2, by decide, by decide, fun v sg H5 B5 K5 h1 h2 h3 => hq v H5 B5 K5 ⟨sg, h1, h2, h3⟩⟩
    have e4 := K4.hd q1 pb
    refine ⟨_, e4, by show 6 < sizeLine; rw [sizeLine_eq]; omega, hN _ _ ?_⟩
    clear hN N
    obtain ⟨l6, al6⟩ := Al.ex hv
    have nD : D6 ≠ p0 := fun z => by rw [z, q1] at hD; cases hD
    have nDb := new_ne B hD
    have xD : (L2.upd H7 D6 (.lst [])) p0 ≠ none := by rw [upd_ne nD.symm, q1]; exact Option.some_ne_none _
    have d4 : StL K (Zb b p0 H4) (.ref D6) l6 := ⟨D6, vs, rfl, Zb_at h4 nDb nD, al6.imp fun _ _ h => h.1.same (fr_Zb (B.upd (Ne.symm nDb) (cne B hD)) B4 xD e4)⟩
    have len6 : l6.length = (yz).toNat := by rw [← al6.len]; exact lv
    have gg6 : ∀ l ∈ l6, Gs 400 wz l := fun l hl => (al6.mem' hl).choose_spec.2.2.1
    have gz6 : ∀ l ∈ l6, ∀ p ∈ l.2, Sz p := fun l hl => (al6.mem' hl).choose_spec.2.2.2
    clear al6
    replace d1 := (d1.same (Zb_kp K4)).same (hb_upd (o := .lst [.int sz, .int nz, .int wz, .ref p1, .ref D4, .ref D5, .ref D6]) pb)
    replace d2 := (d2.same (Zb_kp K4)).same (hb_upd (o := .lst [.int sz, .int nz, .int wz, .ref p1, .ref D4, .ref D5, .ref D6]) pb)
    replace d3 := (d3.same (Zb_kp K4)).same (hb_upd (o := .lst [.int sz, .int nz, .int wz, .ref p1, .ref D4, .ref D5, .ref D6]) pb)
    replace d4 := d4.same (hb_upd (o := .lst [.int sz, .int nz, .int wz, .ref p1, .ref D4, .ref D5, .ref D6]) pb)
    replace KK := Kp.upd2 (o := .lst [.int sz, .int nz, .int wz, .ref p1, .ref D4, .ref D5, .ref D6]) (Same.trans KK K4) q00
    replace B := B4.upd (o := .lst [.int sz, .int nz, .int wz, .ref p1, .ref D4, .ref D5, .ref D6]) pb.symm pc
    replace q1 : (L2.upd H4 p0 (.lst [.int sz, .int nz, .int wz, .ref p1, .ref D4, .ref D5, .ref D6])) p0 = some (.lst [.int sz, .int nz, .int wz, .ref p1, .ref D4, .ref D5, .ref D6]) := upd_same
    show tRet _ _ _ (L2.upd H4 p0 (.lst [.int sz, .int nz, .int wz, .ref p1, .ref D4, .ref D5, .ref D6]))
    generalize L2.upd H4 p0 (.lst [.int sz, .int nz, .int wz, .ref p1, .ref D4, .ref D5, .ref D6]) = H8 at *
    clear hD nD nDb xD h4 e4 hv B4 K4 lv
    walk_at "rs"
    exact kq p0 ⟨sz, nz, wz, i1, l4, l5, l6⟩ H8 (B.le (by omega)) KK q00 ⟨_, _, _, _, q1, pb, d1, d2, d3, d4⟩ rfl ⟨⟨s1, s2⟩, ⟨n1, n2⟩, ⟨w1, w2⟩, gr, ⟨by show (l4.length : Int) = sz; omega, fun l hl => (gg4 l hl).1⟩, ⟨by show (l5.length : Int) = nz; omega, fun l hl => (gg5 l hl).1⟩, ⟨by show l6.length ≤ 100; omega, gg6⟩⟩ (by show l6.length ≤ 5; omega) ⟨grs, fun l hl => (gg4 l hl).2, fun l hl => (gg5 l hl).2, gz6⟩
end
end LK

set_option Elab.async false
set_option linter.all false
set_option maxRecDepth 100000
namespace LK
open PySem PySem.Spec PyProof.Rows L2
local macro_rules | `(tactic| walk_at "rs") => `(tactic| simp only [tFld, sFld, tMeth, tMethZ, tMakeK, tMakeS, tMethS, tEf, tProp, tFmt, rEqO, rNeO, cxK, cxNK, tCallZ, tAsg, tOp, rI0, rS0, rB0, rI, rU, tUn, rEq, rNe, rIxL, rIxT, rIxS, rSetL, rSlLU, rSlS, rSlU, rCatL, rCatU, rRepL, rIn, tVar, tC, gName, gSub, tIfS, tTest, tB, tAnd, tOr, tNot, tNotV, tAndV, tOrV, tIf, tCall, tCons, tNil, tCB, tDrop, tRet, tRetN, tNext, tLstU, tTupU, tM0, tM1, tPar, tPar3, tAug, ipI, tBM, tBM0, rAppend, rPop, tBreak, sDPut, tDGet, tDGet2, tCont, tChain, tSl, tPart, tNoPart, L2.start, List.map, List.length_cons, List.length_nil, List.replicate, List.cons_append, List.nil_append, List.append_nil, List.getElem?_cons_zero, List.getElem?_cons_succ, List.set_cons_zero, List.set_cons_succ, Option.some.injEq, V.int.injEq, V.ref.injEq, V.str.injEq, V.bl.injEq, exists_eq_left', exists_eq_left, exists_and_left, decide_eq_true_eq, List.cons.injEq, and_true, true_and, scal, Bool.not_eq_true', decide_eq_false_iff_not, Nat.zero_add, Nat.reduceAdd, Nat.reduceSub, reduceCtorEq, false_and, exists_false, false_or, or_false, CPow, CPowW, CMul, CDiv, Int.reduceToNat, ↓reduceIte, wipe, sw, List.nil_append, List.singleton_append])
local macro_rules | `(tactic| walk_at "st") => `(tactic| (refine seq_op fun N hN => ?_; walk_at "rs"))
local macro_rules | `(tactic| walk_at "sd") => `(tactic| first | assumption | decide | omega)
local macro_rules | `(tactic| walk_at "rd") => `(tactic| repeat (first
  | refine ⟨_, SqL.of (by assumption), ?_⟩ | refine ⟨_, SqL.of upd_same, ?_⟩ | refine ⟨_, .inl (SqL.of (by assumption)), ?_⟩ | refine ⟨_, (by assumption : _ = some (HO.lst _)), ?_⟩ | refine ⟨_, upd_same, ?_⟩
  | refine ⟨_, rfl, ?_⟩ | refine And.intro (by walk_at "sd") ?_))

section
variable {P : Program} {w : World} {K : PySem.W.Frag} {mg : Str → Option Value} {base : Heap}
/-- a list of the seven parts of a net, each a list or a tuple -/
def SvV (K : PySem.W.Frag) (H : Hp) (v : V) (x : Nd) : Prop := ∃ a vr vg vp vt, v = .ref a ∧ SqL K H a [.int x.s, .int x.n, .int x.w, vr, vg, vp, vt] ∧ IV K H vr x.rest ∧ RV K H vg x.sg ∧ RV K H vp x.pl ∧ SsV K H vt x.st
def sp_settled (K : PySem.W.Frag) : Sp := fun vs H Q _ => ∃ (v : V) (m : Nat) (x : Nd), vs = [v] ∧ SvV K H v x ∧ Gn m x ∧ m ≤ 3900 ∧ ∀ q H', Same H H' → H q = none → Dp K H' (.ref q) (dD (nfN x)) → Q (.ref q) H'
theorem ok__law_settled (T : Txt w K mg) : FnOk P w K mg base CX0 6 T.a__law_settled T.d__law_settled ["sheet"] (sp_settled K) := by
  refine T.F__law_settled.ok sc__law_settled (fun vs H Q E h => ?_) (fun cdv A outer s H vs Q E hr h => ?_)
  · obtain ⟨v, m, x, rfl, _⟩ := h
    rfl
  · obtain ⟨v, m, x, rfl, ⟨a, vr, vg, vp, vt, rfl, ha, h1, h2, h3, h4⟩, g, hm, kq⟩ := h
    have hr__law_normal : Room 4 _ := hr.mono (by decide)
    have G__law_normal := ok__law_normalX (P := P) (base := base) T
    have hr__law_settled_stage : Room 5 _ := hr
    have G__law_settled_stage := ok__law_settled_stage (P := P) (base := base) T
    refine ⟨_, (pss_cons (ps_set (i := 1) sc__law_settled.nd rfl (Or.inl rfl) (pe_lstU (pa_cons (pe_ix ix_list (pv 0) pe_int (fun _ _ => rfl)) (pa_cons (pe_ix ix_list (pv 0) pe_int (fun _ _ => rfl)) (pa_cons (pe_ix ix_list (pv 0) pe_int (fun _ _ => rfl)) (pa_cons (pe_call G__law_normal hr__law_normal (by rfl) T.m__law_normal T.F__law_normal.kp T.B__law_normal .nil pass0 (pa_cons (pe_ix ix_list (pv 0) pe_int (fun _ _ => rfl)) pa_nil)) pa_nil))))))
      (pss_cons (ps_expr (pe_bm PySem.F.plainAttrs_list PySem.F.slot_list_append PySem.F.type_list_append mt_append (pv 1) (pa_cons (pe_callTy call_tupleN (by rfl) T.n_tuple (by decide +kernel) (pa_cons (pe_lc (own := [("one", 2)]) (g := gName 2) (tt := tYes) rfl sc__law_settled.nd (pi_lt (pe_ix ix_list (pv 0) pe_int (fun _ _ => rfl))) (blkOk_by (own := [("one", 2)]) (N := N__law_settled) (sc := defScope s__law_settled) (by decide +kernel)) (fun _ _ _ _ _ => pg_name (i := 2) sc__law_settled.nd rfl (Or.inl rfl)) (fun _ _ _ _ _ => pts_nil) (fun _ _ _ _ _ => (pe_call G__law_normal hr__law_normal (by rfl) T.m__law_normal T.F__law_normal.kp T.B__law_normal .nil pass0 (pa_cons (pv 2) pa_nil)))) pa_nil)) pa_nil)))
      (pss_cons (ps_expr (pe_bm PySem.F.plainAttrs_list PySem.F.slot_list_append PySem.F.type_list_append mt_append (pv 1) (pa_cons (pe_callTy call_tupleN (by rfl) T.n_tuple (by decide +kernel) (pa_cons (pe_lc (own := [("one", 2)]) (g := gName 2) (tt := tYes) rfl sc__law_settled.nd (pi_lt (pe_ix ix_list (pv 0) pe_int (fun _ _ => rfl))) (blkOk_by (own := [("one", 2)]) (N := N__law_settled) (sc := defScope s__law_settled) (by decide +kernel)) (fun _ _ _ _ _ => pg_name (i := 2) sc__law_settled.nd rfl (Or.inl rfl)) (fun _ _ _ _ _ => pts_nil) (fun _ _ _ _ _ => (pe_call G__law_normal hr__law_normal (by rfl) T.m__law_normal T.F__law_normal.kp T.B__law_normal .nil pass0 (pa_cons (pv 2) pa_nil)))) pa_nil)) pa_nil)))
      (pss_cons (ps_expr (pe_bm PySem.F.plainAttrs_list PySem.F.slot_list_append PySem.F.type_list_append mt_append (pv 1) (pa_cons (pe_callTy call_tupleN (by rfl) T.n_tuple (by decide +kernel) (pa_cons (pe_lc (own := [("one", 2)]) (g := gName 2) (tt := tYes) rfl sc__law_settled.nd (pi_lt (pe_ix ix_list (pv 0) pe_int (fun _ _ => rfl))) (blkOk_by (own := [("one", 2)]) (N := N__law_settled) (sc := defScope s__law_settled) (by decide +kernel)) (fun _ _ _ _ _ => pg_name (i := 2) sc__law_settled.nd rfl (Or.inl rfl)) (fun _ _ _ _ _ => pts_nil) (fun _ _ _ _ _ => (pe_call G__law_settled_stage hr__law_settled_stage (by rfl) T.m__law_settled_stage T.F__law_settled_stage.kp T.B__law_settled_stage .nil pass0 (pa_cons (pv 2) pa_nil)))) pa_nil)) pa_nil)))
      (pss_one (ps_ret (pv 1))))))), ?_⟩
    refine seq_op fun N hN => ?_
    walk_at "rs"
    refine ⟨_, ha, _, rfl, _, ha, _, rfl, _, ha, _, rfl, _, ha, _, rfl, normX_at h1 g.rest hm fun t1 H1 u1 d1 => ⟨by decide, fun q H2 u2 q0 q1 => hN _ _ ?_⟩⟩
    clear hN N
    have q00 := Same.dom u1 q q0
    have sb := Same.trans u1 u2
    replace d1 := dp_same u2 d1
    have up : ∀ {G : Hp} {o : HO}, Same H G → Same H (L2.upd G q o) := fun s p o e => by rw [upd_ne (ne_of_none e q00)]; exact s _ _ e
    have tu : ∀ {G : Hp} {vs : List V} {o : HO}, G q = some (.lst vs) → ∀ {d : PyData} {v : V}, tdD d = true → Dp K G v d → Dp K (L2.upd G q o) v d := fun e _ _ td h => dp_tk (Tk.upd e) td h
    refine seq_op fun N hN => ?_
    walk_at "rs"
    refine ⟨.inl ⟨rfl, _, SqL.of q1⟩, ?_⟩
    obtain ⟨a0, xs0, rfl, ha0, hx0⟩ := h2
    refine lc_al (K := K) (a := a0) (xs := xs0) (x.sg.map fun l => dI (nf l)) (fun H v d => tdD d = true ∧ Dp K H v d) (fun G G' v d t h => ⟨h.1, dp_tk t h.1 h.2⟩) (fun Q q => ⟨_, rfl, a, _, 4, _, rfl, rfl, (sb.seq ha), rfl, q⟩) (ha0.same sb) (by have := hx0.len; have := g.sg.1; have := g.s; have := g.n; omega) (by rw [List.length_map]; exact hx0.len) (fun j v y G hxj hyj s1 Q2 h2' => ?_) fun D G1 vs s1 _ e1 al => ?_
    · rw [List.getElem?_map] at hyj
      obtain ⟨p', hp1, rfl⟩ := Option.map_eq_some_iff.mp hyj
      obtain ⟨p2, hp2, hv⟩ := hx0.get hxj
      rw [hp1] at hp2
      cases hp2
      walk_at "rs"
      exact normX_at (hv.same (Same.trans sb s1)) (g.sg.2 _ (List.mem_of_getElem? hp1)) hm fun t H' s' q => h2' (.ref t) H' s' ⟨td_I _, q⟩
    walk_at "rs"
    refine ⟨_, SqL.of e1, fun t2 G2 s2 _ e2 => ⟨_, s2 _ _ (s1 _ _ q1), by show 4 < sizeLine; rw [sizeLine_eq]; omega, hN _ _ ?_⟩⟩
    clear hN N
    have s12 := Same.trans s1 s2
    have d2 : Dp K G2 (.ref t2) (dRs (x.sg.map nf)) := by
      have al2 := dpa_al (f := fun d => d) (al.imp fun _ _ h => dp_same s2 h.2)
      rw [List.map_id'] at al2
      refine .tup (.inl (.inl e2)) ?_
      rw [List.map_map]; exact al2
    replace q1 := s12 _ _ q1
    replace d1 := tu (o := .lst [.int x.s, .int x.n, .int x.w, .ref t1, .ref t2]) q1 (td_I _) (dp_same s12 d1)
    replace d2 := tu (o := .lst [.int x.s, .int x.n, .int x.w, .ref t1, .ref t2]) q1 (td_Rs _) d2
    replace sb := up (o := .lst [.int x.s, .int x.n, .int x.w, .ref t1, .ref t2]) (Same.trans sb s12)
    replace q1 : (L2.upd G2 q (.lst [.int x.s, .int x.n, .int x.w, .ref t1, .ref t2])) q = some (.lst [.int x.s, .int x.n, .int x.w, .ref t1, .ref t2]) := upd_same
    show tSeq _ _ _ _ (L2.upd G2 q (.lst [.int x.s, .int x.n, .int x.w, .ref t1, .ref t2]))
    generalize L2.upd G2 q (.lst [.int x.s, .int x.n, .int x.w, .ref t1, .ref t2]) = H3 at *
    refine seq_op fun N hN => ?_
    walk_at "rs"
    refine ⟨.inl ⟨rfl, _, SqL.of q1⟩, ?_⟩
    obtain ⟨a1, xs1, rfl, ha1, hx1⟩ := h3
    refine lc_al (K := K) (a := a1) (xs := xs1) (x.pl.map fun l => dI (nf l)) (fun H v d => tdD d = true ∧ Dp K H v d) (fun G G' v d t h => ⟨h.1, dp_tk t h.1 h.2⟩) (fun Q q => ⟨_, rfl, a, _, 5, _, rfl, rfl, (sb.seq ha), rfl, q⟩) (ha1.same sb) (by have := hx1.len; have := g.pl.1; have := g.s; have := g.n; omega) (by rw [List.length_map]; exact hx1.len) (fun j v y G hxj hyj s1 Q2 h2' => ?_) fun D G1 vs s1 _ e1 al => ?_
    · rw [List.getElem?_map] at hyj
      obtain ⟨p', hp1, rfl⟩ := Option.map_eq_some_iff.mp hyj
      obtain ⟨p2, hp2, hv⟩ := hx1.get hxj
      rw [hp1] at hp2
      cases hp2
      walk_at "rs"
      exact normX_at (hv.same (Same.trans sb s1)) (g.pl.2 _ (List.mem_of_getElem? hp1)) hm fun t H' s' q => h2' (.ref t) H' s' ⟨td_I _, q⟩
    walk_at "rs"
    refine ⟨_, SqL.of e1, fun t3 G2 s2 _ e2 => ⟨_, s2 _ _ (s1 _ _ q1), by show 5 < sizeLine; rw [sizeLine_eq]; omega, hN _ _ ?_⟩⟩
    clear hN N
    have s12 := Same.trans s1 s2
    have d3 : Dp K G2 (.ref t3) (dRs (x.pl.map nf)) := by
      have al2 := dpa_al (f := fun d => d) (al.imp fun _ _ h => dp_same s2 h.2)
      rw [List.map_id'] at al2
      refine .tup (.inl (.inl e2)) ?_
      rw [List.map_map]; exact al2
    replace q1 := s12 _ _ q1
    replace d1 := tu (o := .lst [.int x.s, .int x.n, .int x.w, .ref t1, .ref t2, .ref t3]) q1 (td_I _) (dp_same s12 d1)
    replace d2 := tu (o := .lst [.int x.s, .int x.n, .int x.w, .ref t1, .ref t2, .ref t3]) q1 (td_Rs _) (dp_same s12 d2)
    replace d3 := tu (o := .lst [.int x.s, .int x.n, .int x.w, .ref t1, .ref t2, .ref t3]) q1 (td_Rs _) d3
    replace sb := up (o := .lst [.int x.s, .int x.n, .int x.w, .ref t1, .ref t2, .ref t3]) (Same.trans sb s12)
    replace q1 : (L2.upd G2 q (.lst [.int x.s, .int x.n, .int x.w, .ref t1, .ref t2, .ref t3])) q = some (.lst [.int x.s, .int x.n, .int x.w, .ref t1, .ref t2, .ref t3]) := upd_same
    show tSeq _ _ _ _ (L2.upd G2 q (.lst [.int x.s, .int x.n, .int x.w, .ref t1, .ref t2, .ref t3]))
    generalize L2.upd G2 q (.lst [.int x.s, .int x.n, .int x.w, .ref t1, .ref t2, .ref t3]) = H4 at *
    refine seq_op fun N hN => ?_
    walk_at "rs"
    refine ⟨.inl ⟨rfl, _, SqL.of q1⟩, ?_⟩
    obtain ⟨a2, xs2, rfl, ha2, hx2⟩ := h4
    refine lc_al (K := K) (a := a2) (xs := xs2) (x.st.map fun l => dS (nfS l)) (fun H v d => tdD d = true ∧ Dp K H v d) (fun G G' v d t h => ⟨h.1, dp_tk t h.1 h.2⟩) (fun Q q => ⟨_, rfl, a, _, 6, _, rfl, rfl, (sb.seq ha), rfl, q⟩) (ha2.same sb) (by have := hx2.len; have := g.st.1; have := g.s; have := g.n; omega) (by rw [List.length_map]; exact hx2.len) (fun j v y G hxj hyj s1 Q2 h2' => ?_) fun D G1 vs s1 _ e1 al => ?_
    · rw [List.getElem?_map] at hyj
      obtain ⟨p', hp1, rfl⟩ := Option.map_eq_some_iff.mp hyj
      obtain ⟨p2, hp2, hv⟩ := hx2.get hxj
      rw [hp1] at hp2
      cases hp2
      walk_at "rs"
      exact ⟨v, m, x.w, p', rfl, hv.same (Same.trans sb s1), g.st.2 _ (List.mem_of_getElem? hp1), hm, fun t H' s' q => h2' (.ref t) H' s' ⟨td_S _, q⟩⟩
    walk_at "rs"
    refine ⟨_, SqL.of e1, fun t4 G2 s2 _ e2 => ⟨_, s2 _ _ (s1 _ _ q1), by show 6 < sizeLine; rw [sizeLine_eq]; omega, hN _ _ ?_⟩⟩
    clear hN N
    have s12 := Same.trans s1 s2
    have d4 : Dp K G2 (.ref t4) (dSs (x.st.map nfS)) := by
      have al2 := dpa_al (f := fun d => d) (al.imp fun _ _ h => dp_same s2 h.2)
      rw [List.map_id'] at al2
      refine .tup (.inl (.inl e2)) ?_
      rw [List.map_map]; exact al2
    replace q1 := s12 _ _ q1
    replace d1 := tu (o := .lst [.int x.s, .int x.n, .int x.w, .ref t1, .ref t2, .ref t3, .ref t4]) q1 (td_I _) (dp_same s12 d1)
    replace d2 := tu (o := .lst [.int x.s, .int x.n, .int x.w, .ref t1, .ref t2, .ref t3, .ref t4]) q1 (td_Rs _) (dp_same s12 d2)
    replace d3 := tu (o := .lst [.int x.s, .int x.n, .int x.w, .ref t1, .ref t2, .ref t3, .ref t4]) q1 (td_Rs _) (dp_same s12 d3)
    replace d4 := tu (o := .lst [.int x.s, .int x.n, .int x.w, .ref t1, .ref t2, .ref t3, .ref t4]) q1 (td_Ss _) d4
    replace sb := up (o := .lst [.int x.s, .int x.n, .int x.w, .ref t1, .ref t2, .ref t3, .ref t4]) (Same.trans sb s12)
    replace q1 : (L2.upd G2 q (.lst [.int x.s, .int x.n, .int x.w, .ref t1, .ref t2, .ref t3, .ref t4])) q = some (.lst [.int x.s, .int x.n, .int x.w, .ref t1, .ref t2, .ref t3, .ref t4]) := upd_same
    show tRet _ _ _ (L2.upd G2 q (.lst [.int x.s, .int x.n, .int x.w, .ref t1, .ref t2, .ref t3, .ref t4]))
    generalize L2.upd G2 q (.lst [.int x.s, .int x.n, .int x.w, .ref t1, .ref t2, .ref t3, .ref t4]) = H5 at *
    walk_at "rs"
    exact kq q _ sb q00 (.lst (SqL.of q1) (.cons (.int _) (.cons (.int _) (.cons (.int _) (.cons d1 (.cons d2 (.cons d3 (.cons d4 .nil))))))))
end
end LK

set_option Elab.async false
set_option linter.all false
set_option maxRecDepth 100000
namespace LK
open PySem PySem.Spec PyProof.Rows L2
local macro_rules | `(tactic| walk_at "rs") => `(tactic| simp only [tFld, sFld, tMeth, tMethZ, tMakeK, tMakeS, tMethS, tEf, tProp, tFmt, rEqO, rNeO, cxK, cxNK, tCallZ, tAsg, tOp, rI0, rS0, rB0, rI, rU, tUn, rEq, rNe, rIxL, rIxT, rIxS, rSetL, rSlLU, rSlS, rSlU, rCatL, rCatU, rRepL, rIn, tVar, tC, gName, gSub, tIfS, tTest, tB, tAnd, tOr, tNot, tNotV, tAndV, tOrV, tIf, tCall, tCons, tNil, tCB, tDrop, tRet, tRetN, tNext, tLstU, tTupU, tM0, tM1, tPar, tPar3, tAug, ipI, tBM, tBM0, rAppend, rPop, tBreak, sDPut, tDGet, tDGet2, tCont, tChain, tSl, tPart, tNoPart, L2.start, List.map, List.length_cons, List.length_nil, List.replicate, List.cons_append, List.nil_append, List.append_nil, List.getElem?_cons_zero, List.getElem?_cons_succ, List.set_cons_zero, List.set_cons_succ, Option.some.injEq, V.int.injEq, V.ref.injEq, V.str.injEq, V.bl.injEq, exists_eq_left', exists_eq_left, exists_and_left, decide_eq_true_eq, List.cons.injEq, and_true, true_and, scal, Bool.not_eq_true', decide_eq_false_iff_not, Nat.zero_add, Nat.reduceAdd, Nat.reduceSub, reduceCtorEq, false_and, exists_false, false_or, or_false, CPow, CPowW, CMul, CDiv, Int.reduceToNat, ↓reduceIte, wipe, sw, List.nil_append, List.singleton_append])
local macro_rules | `(tactic| walk_at "st") => `(tactic| (refine seq_op fun N hN => ?_; walk_at "rs"))
local macro_rules | `(tactic| walk_at "sd") => `(tactic| first | assumption | decide | omega)
local macro_rules | `(tactic| walk_at "rd") => `(tactic| repeat (first
  | refine ⟨_, SqL.of (by assumption), ?_⟩ | refine ⟨_, SqL.of upd_same, ?_⟩ | refine ⟨_, .inl (SqL.of (by assumption)), ?_⟩ | refine ⟨_, (by assumption : _ = some (HO.lst _)), ?_⟩ | refine ⟨_, upd_same, ?_⟩
  | refine ⟨_, rfl, ?_⟩ | refine And.intro (by walk_at "sd") ?_))

theorem item_is {m d : Nat} {w : Int} {l : List It} (g : Gi m d w l) {x : It} (hx : x ∈ l) : isItem d w (dIt x) = true := by
  have h1 := g.ft.it x hx
  have h2 := g.bd x hx
  show (decide ((x.1.map PyData.int ++ [dF x.2]).length = d + 1) && (((x.1.map PyData.int ++ [dF x.2]).dropLast.all (within 0 (w - 1))) && (match (x.1.map PyData.int ++ [dF x.2]).getLast? with | some f => isFrac f | none => false))) = true
  rw [List.dropLast_concat, List.getLast?_concat, decide_eq_true (by rw [List.length_append, List.length_map]; show x.1.length + 1 = d + 1; rw [h1.2.2.1]), Bool.true_and]
  show (_ && isFrac (dF x.2)) = true
  rw [frac_low h1.1, Bool.and_true, List.all_eq_true]
  intro e he
  obtain ⟨j, hj, rfl⟩ := List.mem_map.mp he
  have := h2 j hj
  rw [within_i, decide_eq_true this.1, decide_eq_true (show j ≤ w - 1 by omega)]
  rfl
theorem items_is {m d : Nat} {w : Int} {l : List It} (g : Gi m d w l) : isItems d w (dI l) = true := by
  show (l.map dIt).all (isItem d w) = true
  rw [List.all_map, List.all_eq_true]
  exact fun x hx => item_is g hx
theorem rows_is {m : Nat} {w n : Int} {l : List (List It)} (h : (l.length : Int) = n) (g : ∀ r ∈ l, Gi m 1 w r) : isRows n w (dRs l) = true := by
  show (decide (((l.map dI).length : Int) = n) && (l.map dI).all (isItems 1 w)) = true
  rw [List.length_map, decide_eq_true h, Bool.true_and, List.all_map, List.all_eq_true]
  exact fun x hx => items_is (g x hx)
theorem netEr_of {m : Nat} {x : Nd} (g : Gn m x) (d : PyData) : netEr [.int x.s, .int x.n, .int x.w, dI x.rest, dRs x.sg, dRs x.pl, d] = stEr x.w d := by
  obtain ⟨s1, s2⟩ := g.s
  obtain ⟨n1, n2⟩ := g.n
  obtain ⟨w1, w2⟩ := g.w
  have c : (within 2 5 (.int x.s) && (within 1 8 (.int x.n) && within 1 1000000000000000000 (.int x.w))) = true := by
    rw [within_i, within_i, within_i, decide_eq_true s1, decide_eq_true s2, decide_eq_true n1, decide_eq_true n2, decide_eq_true w1, decide_eq_true (show x.w ≤ 1000000000000000000 by omega)]
    rfl
  refine (if_neg (by rw [c]; decide)).trans ?_
  show (if 2000 < x.w then _ else if isItems 1 x.w (dI x.rest) = false then _ else if isRows x.s x.w (dRs x.sg) = false then _ else if isRows x.n x.w (dRs x.pl) = false then _ else stEr x.w d) = _
  rw [if_neg (by omega), items_is g.rest, if_neg (by decide), rows_is g.sg.1 g.sg.2, if_neg (by decide), rows_is g.pl.1 g.pl.2, if_neg (by decide)]
section
variable {P : Program} {w : World} {K : PySem.W.Frag} {mg : Str → Option Value} {base : Heap}
def sp_get (K : PySem.W.Frag) (C : Addr) (f : Nd → PyData) : Sp := fun vs H Q _ => ∃ v x, vs = [v] ∧ NA K H C v x ∧ ∀ r, Dp K H r (f x) → Q r H
theorem ok_Net__rest_row (T : Txt w K mg) : FnOk P w K mg base CX0 1 T.a_Net__rest_row T.d_Net__rest_row ["self"] (sp_get K T.A_Net fun x => dI x.rest) := by
  refine T.F_Net__rest_row.ok sc_Net__rest_row (fun vs H Q E h => ?_) (fun cdv A outer s H vs Q E hr h => ?_)
  · obtain ⟨v, x, rfl, _⟩ := h
    rfl
  · obtain ⟨v, x, rfl, ⟨a, dx, r1, r2, r3, r4, rfl, ha, h1, h2, h3, h4⟩, k⟩ := h
    refine ⟨_, (pss_one (ps_ret (pe_fld (pv 0) rfl))), ?_⟩
    walk_at "rs"
    exact ⟨_, _, _, ha, T.C_Net, T.na__rest_row, _, rfl, k _ h1⟩
theorem ok_Net__sign_rows (T : Txt w K mg) : FnOk P w K mg base CX0 1 T.a_Net__sign_rows T.d_Net__sign_rows ["self"] (sp_get K T.A_Net fun x => dRs x.sg) := by
  refine T.F_Net__sign_rows.ok sc_Net__sign_rows (fun vs H Q E h => ?_) (fun cdv A outer s H vs Q E hr h => ?_)
  · obtain ⟨v, x, rfl, _⟩ := h
    rfl
  · obtain ⟨v, x, rfl, ⟨a, dx, r1, r2, r3, r4, rfl, ha, h1, h2, h3, h4⟩, k⟩ := h
    refine ⟨_, (pss_one (ps_ret (pe_fld (pv 0) rfl))), ?_⟩
    walk_at "rs"
    exact ⟨_, _, _, ha, T.C_Net, T.na__sign_rows, _, rfl, k _ h2⟩
theorem ok_Net__place_rows (T : Txt w K mg) : FnOk P w K mg base CX0 1 T.a_Net__place_rows T.d_Net__place_rows ["self"] (sp_get K T.A_Net fun x => dRs x.pl) := by
  refine T.F_Net__place_rows.ok sc_Net__place_rows (fun vs H Q E h => ?_) (fun cdv A outer s H vs Q E hr h => ?_)
  · obtain ⟨v, x, rfl, _⟩ := h
    rfl
  · obtain ⟨v, x, rfl, ⟨a, dx, r1, r2, r3, r4, rfl, ha, h1, h2, h3, h4⟩, k⟩ := h
    refine ⟨_, (pss_one (ps_ret (pe_fld (pv 0) rfl))), ?_⟩
    walk_at "rs"
    exact ⟨_, _, _, ha, T.C_Net, T.na__place_rows, _, rfl, k _ h3⟩
theorem ok_Net__stages (T : Txt w K mg) : FnOk P w K mg base CX0 1 T.a_Net__stages T.d_Net__stages ["self"] (sp_get K T.A_Net fun x => dSs x.st) := by
  refine T.F_Net__stages.ok sc_Net__stages (fun vs H Q E h => ?_) (fun cdv A outer s H vs Q E hr h => ?_)
  · obtain ⟨v, x, rfl, _⟩ := h
    rfl
  · obtain ⟨v, x, rfl, ⟨a, dx, r1, r2, r3, r4, rfl, ha, h1, h2, h3, h4⟩, k⟩ := h
    refine ⟨_, (pss_one (ps_ret (pe_fld (pv 0) rfl))), ?_⟩
    walk_at "rs"
    exact ⟨_, _, _, ha, T.C_Net, T.na__stages, _, rfl, k _ h4⟩
def sp_ws (K : PySem.W.Frag) (C C1 C2 : Addr) : Sp := fun vs H Q E => ∃ v x u d, vs = [v, u] ∧ NA K H C v x ∧ nfN x = x ∧ Gn 3900 x ∧ Dp K H u d ∧ okD d = true ∧
  (stEr x.w d = none → ∃ st, SsV K H u st ∧ st.length ≤ 100 ∧ (∀ s ∈ st, Gs 3900 x.w s) ∧ ∀ t H', Same H H' → NA K H' C t ⟨x.s, x.n, x.w, x.rest, x.sg, x.pl, st.map nfS⟩ → Q t H') ∧
  (∀ e, stEr x.w d = some e → Rz C1 C2 e H E)
theorem ok_Net__with_stages (T : Txt w K mg) : FnOk P w K mg base (L2.CX P w) 10 T.a_Net__with_stages T.d_Net__with_stages ["self", "stages"] (sp_ws K T.A_Net T.C_BadNet T.C_TooMany) := by
  refine T.F_Net__with_stages.okX sc_Net__with_stages (fun vs H Q E h => ?_) (fun cdv A outer s H vs Q E hr h => ?_)
  · obtain ⟨v, x, u, d, rfl, _⟩ := h
    rfl
  · obtain ⟨v, x, u, d, rfl, ⟨a, dx, r1, r2, r3, r4, rfl, ha, h1, h2, h3, h4⟩, fx, g, hd, od, kn, ke⟩ := h
    have hr_Net__init : Room 9 _ := hr
    have G_Net__init := ok_Net__init (P := P) (base := base) T
    refine ⟨_, (pss_one (ps_ret (pe_makeS T.mk_Net G_Net__init hr_Net__init (by rfl) T.m_Net T.Z_Net__init_3_rest_sign_rows_place_rows_stages (fun σ => passAt (takes_of rfl rfl rfl rfl) σ) (pa_cons (pe_fld (pv 0) rfl) (pa_cons (pe_fld (pv 0) rfl) (pa_cons (pe_fld (pv 0) rfl) pa_nil))) (pk_cons (pe_fld (pv 0) rfl) (pk_cons (pe_fld (pv 0) rfl) (pk_cons (pe_fld (pv 0) rfl) (pk_cons (pv 1) pk_nil))))))), ?_⟩
    walk_at "rs"
    refine ⟨_, _, _, ha, T.C_Net, T.na_signs, _, rfl, _, _, _, ha, T.C_Net, T.na_n, _, rfl, _, _, _, ha, T.C_Net, T.na_width, _, rfl, _, _, _, ha, T.C_Net, T.na__rest_row, _, rfl, _, _, _, ha, T.C_Net, T.na__sign_rows, _, rfl, _, _, _, ha, T.C_Net, T.na__place_rows, _, rfl, ?_⟩
    intro z dz hz hdz ne
    have eN := netEr_of g d
    refine ⟨z, dz, H, _, _, _, _, _, _, _, _, _, _, _, _, _, _, rfl, upd_same, hz, fun p o e => by rw [upd_ne (ne_of_none e hz), upd_ne (ne_of_none e hdz)]; exact e, .int _, .int _, .int _, h1, h2, h3, hd, ?_, ?_, fun z0 => ?_, fun e z0 => ke e (by rw [← eN]; exact z0)⟩
    · simp only [okAll, ok_I g.ok.rest, ok_Rs (by decide) g.ok.sg, ok_Rs (by decide) g.ok.pl, od, Bool.and_self]
    · show x.w ≤ _
      have := g.w
      omega
    · obtain ⟨st, hs, ls, gs, k⟩ := kn (by rw [← eN]; exact z0)
      refine ⟨⟨x.s, x.n, x.w, x.rest, x.sg, x.pl, st⟩, rfl, rfl, rfl, iv_of h1, rv_of h2, rv_of h3, hs, ⟨g.s, g.n, g.w, g.rest, g.sg, g.pl, ls, gs⟩, fun H' s' q => ⟨rfl, k _ H' s' ?_⟩⟩
      have e : nfN ⟨x.s, x.n, x.w, x.rest, x.sg, x.pl, st⟩ = ⟨x.s, x.n, x.w, x.rest, x.sg, x.pl, st.map nfS⟩ := by
        have f1 := congrArg Nd.rest fx
        have f2 := congrArg Nd.sg fx
        have f3 := congrArg Nd.pl fx
        unfold nfN at f1 f2 f3 ⊢
        dsimp only at f1 f2 f3 ⊢
        rw [f1, f2, f3]
      rw [← e]; exact q
end
end LK

set_option Elab.async false
set_option linter.all false
set_option maxRecDepth 100000
namespace LK
open PySem PySem.Spec PyProof.Rows L2
local macro_rules | `(tactic| walk_at "rs") => `(tactic| simp only [tFld, sFld, tMeth, tMethZ, tMakeK, tMakeS, tMethS, tEf, tProp, tFmt, rEqO, rNeO, cxK, cxNK, tCallZ, tAsg, tOp, rI0, rS0, rB0, rI, rU, tUn, rEq, rNe, rIxL, rIxT, rIxS, rSetL, rSlLU, rSlS, rSlU, rCatL, rCatU, rRepL, rIn, tVar, tC, gName, gSub, tIfS, tTest, tB, tAnd, tOr, tNot, tNotV, tAndV, tOrV, tIf, tCall, tCons, tNil, tCB, tDrop, tRet, tRetN, tNext, tLstU, tTupU, tM0, tM1, tPar, tPar3, tAug, ipI, tBM, tBM0, rAppend, rPop, tBreak, sDPut, tDGet, tDGet2, tCont, tChain, tSl, tPart, tNoPart, L2.start, List.map, List.length_cons, List.length_nil, List.replicate, List.cons_append, List.nil_append, List.append_nil, List.getElem?_cons_zero, List.getElem?_cons_succ, List.set_cons_zero, List.set_cons_succ, Option.some.injEq, V.int.injEq, V.ref.injEq, V.str.injEq, V.bl.injEq, exists_eq_left', exists_eq_left, exists_and_left, decide_eq_true_eq, List.cons.injEq, and_true, true_and, scal, Bool.not_eq_true', decide_eq_false_iff_not, Nat.zero_add, Nat.reduceAdd, Nat.reduceSub, reduceCtorEq, false_and, exists_false, false_or, or_false, CPow, CPowW, CMul, CDiv, Int.reduceToNat, ↓reduceIte, wipe, sw, List.nil_append, List.singleton_append])
local macro_rules | `(tactic| walk_at "st") => `(tactic| (refine seq_op fun N hN => ?_; walk_at "rs"))
local macro_rules | `(tactic| walk_at "sd") => `(tactic| first | assumption | decide | omega)
local macro_rules | `(tactic| walk_at "rd") => `(tactic| repeat (first
  | refine ⟨_, SqL.of (by assumption), ?_⟩ | refine ⟨_, SqL.of upd_same, ?_⟩ | refine ⟨_, .inl (SqL.of (by assumption)), ?_⟩ | refine ⟨_, (by assumption : _ = some (HO.lst _)), ?_⟩ | refine ⟨_, upd_same, ?_⟩
  | refine ⟨_, rfl, ?_⟩ | refine And.intro (by walk_at "sd") ?_))

theorem pe_errS {X : Cx} {a : Addr} {oe : Obj} {cls : Value} {d : Option Addr} {pn : List (Addr × Obj)} {e : Expr} {te : TE} {pos : Pos} {n : Str} (hz : Zc cls d oe) (hf : ∃ vs, oe.data = .fields vs) (he : PE (X.suite a ((a, oe) :: pn)) e te) (hb : attributeBase e n X.env (eval e X.env) = eval e X.env := by rfl) :
    PE (X.suite a ((a, oe) :: pn)) (.Attribute e n pos) (tEf X.K (PinZ a cls d) n te) := pe_errF (hasE_suite hz hf) he hb
section
variable {P : Program} {w : World} {K : PySem.W.Frag} {mg : Str → Option Value} {base : Heap}
/-- the suites: the error's fields as a tuple -/
def suB (K : PySem.W.Frag) (i : Nat) (ns : List Str) (a : Addr) (cls : Value) (d : Option Addr) : TS := tRet (tTupU (ns.foldr (fun n t => tCons (tEf K (PinZ a cls d) n (tVar i)) t) tNil))
def Er.ns : Er → List Str
  | .bad _ => ["code", "where"]
  | .badAt _ => ["code", "where"]
  | .many _ _ => ["code", "what", "count"]
theorem er_suite (T : Txt w K mg) {e : Er} {H H1 : Hp} {Q : VK} {d : Addr} (s : Same H H1) (k : ∀ u H', Same H H' → Dp K H' u (erD (some e)) → Q u H') (hd : H d = none) (hx : H1 d = some (.xd e.fs)) (a : Addr) {i : Nat} {D : Ends} {σ : L2.St} (hi : i < σ.length) (hD : D.rt = Q) :
    suB K i e.ns a (.ref (e.cls T.C_BadNet T.C_TooMany)) (some d) D (σ.set i (some (.ref a))) H1 := by
  subst hD
  have v : (σ.set i (some (.ref a)))[i]? = some (some (.ref a)) := List.getElem?_set_self hi
  have p : PinZ a (.ref (e.cls T.C_BadNet T.C_TooMany)) (some d) H1 a (e.cls T.C_BadNet T.C_TooMany) e.fs := ⟨rfl, rfl, d, rfl, hx⟩
  simp only [suB, tRet, tTupU]
  cases e with
  | bad c =>
    simp only [Er.ns, List.foldr_cons, List.foldr_nil, tCons, tNil, tEf, tVar]
    refine ⟨_, v, ⟨a, _, _, _, rfl, p, T.xf_BadNet, T.n_BadNet_code, rfl, ⟨_, v, ⟨a, _, _, _, rfl, p, T.xf_BadNet, T.n_BadNet_where, rfl, (by first | (show 2 ≤ sizeLine; decide) | (show 3 ≤ sizeLine; decide)), fun q H2 s2 _ h2 => k _ H2 (s.trans s2) (.tup (SqT.of h2) (.cons (.str _) (.cons (.str _) .nil)))⟩⟩⟩⟩
  | badAt c =>
    simp only [Er.ns, List.foldr_cons, List.foldr_nil, tCons, tNil, tEf, tVar]
    refine ⟨_, v, ⟨a, _, _, _, rfl, p, T.xf_BadNet, T.n_BadNet_code, rfl, ⟨_, v, ⟨a, _, _, _, rfl, p, T.xf_BadNet, T.n_BadNet_where, rfl, (by first | (show 2 ≤ sizeLine; decide) | (show 3 ≤ sizeLine; decide)), fun q H2 s2 _ h2 => k _ H2 (s.trans s2) (.tup (SqT.of h2) (.cons (.str _) (.cons (.int _) .nil)))⟩⟩⟩⟩
  | many c n =>
    simp only [Er.ns, List.foldr_cons, List.foldr_nil, tCons, tNil, tEf, tVar]
    refine ⟨_, v, ⟨a, _, _, _, rfl, p, T.xf_TooMany, T.n_TooMany_code, rfl, ⟨_, v, ⟨a, _, _, _, rfl, p, T.xf_TooMany, T.n_TooMany_what, rfl, ⟨_, v, ⟨a, _, _, _, rfl, p, T.xf_TooMany, T.n_TooMany_count, rfl, (by first | (show 2 ≤ sizeLine; decide) | (show 3 ≤ sizeLine; decide)), fun q H2 s2 _ h2 => k _ H2 (s.trans s2) (.tup (SqT.of h2) (.cons (.str _) (.cons (.str _) (.cons (.int _) .nil))))⟩⟩⟩⟩⟩⟩
def sp_made (K : PySem.W.Frag) (C : Addr) : Sp := fun vs H Q _ => ∃ (a : Addr) (v0 v1 v2 vr vg vp vt : V) (d0 d1 d2 d3 d4 d5 d6 : PyData), vs = [.ref a] ∧ SqL K H a [v0, v1, v2, vr, vg, vp, vt] ∧
  Dp K H v0 d0 ∧ Dp K H v1 d1 ∧ Dp K H v2 d2 ∧ Dp K H vr d3 ∧ Dp K H vg d4 ∧ Dp K H vp d5 ∧ Dp K H vt d6 ∧ okAll [d3, d4, d5, d6] = true ∧ numD d2 ≤ 1000000000000000000 ∧
  (netEr [d0, d1, d2, d3, d4, d5, d6] = none → ∃ x : Nd, v0 = .int x.s ∧ v1 = .int x.n ∧ v2 = .int x.w ∧ IV K H vr x.rest ∧ RV K H vg x.sg ∧ RV K H vp x.pl ∧ SsV K H vt x.st ∧ Gn 3900 x ∧ ∀ v H', Same H H' → NA K H' C v (nfN x) → Q v H') ∧
  (∀ e, netEr [d0, d1, d2, d3, d4, d5, d6] = some e → ∀ u H', Same H H' → Dp K H' u (erD (some e)) → Q u H')
theorem ok__law_made (T : Txt w K mg) : FnOk P w K mg base CX0 10 T.a__law_made T.d__law_made ["slots"] (sp_made K T.A_Net) := by
  refine T.F__law_made.ok sc__law_made (fun vs H Q E h => ?_) (fun cdv A outer s H vs Q E hr h => ?_)
  · obtain ⟨a, v0, v1, v2, vr, vg, vp, vt, d0, d1, d2, d3, d4, d5, d6, rfl, _⟩ := h
    rfl
  · obtain ⟨a, v0, v1, v2, vr, vg, vp, vt, d0, d1, d2, d3, d4, d5, d6, rfl, ha, h0, h1, h2, h3, h4, h5, h6, od, w18, kn, ke⟩ := h
    have hr_Net__init : Room 9 _ := hr
    have G_Net__init := ok_Net__init (P := P) (base := base) T
    refine ⟨_, pss_cons (ps_try_suites (i := 2) rfl rfl sc__law_made.nd rfl rfl L2.takes0 (fun W pn xe tk => pss_one (ps_set (i := 1) sc__law_made.nd rfl (Or.inl rfl) (pe_makeS T.mk_Net G_Net__init hr_Net__init (by rfl) T.m_Net T.Z_Net__init_3_rest_sign_rows_place_rows_stages (fun σ => passAt tk σ) (pa_cons (pe_ix (ix_listK (K := K) rfl) (pv 0) pe_int (fun _ _ => rfl)) (pa_cons (pe_ix (ix_listK (K := K) rfl) (pv 0) pe_int (fun _ _ => rfl)) (pa_cons (pe_ix (ix_listK (K := K) rfl) (pv 0) pe_int (fun _ _ => rfl)) pa_nil))) (pk_cons (pe_ix (ix_listK (K := K) rfl) (pv 0) pe_int (fun _ _ => rfl)) (pk_cons (pe_ix (ix_listK (K := K) rfl) (pv 0) pe_int (fun _ _ => rfl)) (pk_cons (pe_ix (ix_listK (K := K) rfl) (pv 0) pe_int (fun _ _ => rfl)) (pk_cons (pe_ix (ix_listK (K := K) rfl) (pv 0) pe_int (fun _ _ => rfl)) pk_nil)))))))
      (.cons (c := .ref T.C_BadNet) ⟨by rfl, by decide, .inl T.m_BadNet⟩ (fun a oe cls d pn hz hf => pss_one (ps_ret (pe_tupU (pa_cons (pe_errS hz hf (pv 2)) (pa_cons (pe_errS hz hf (pv 2)) pa_nil)))))
      (.cons (c := .ref T.C_TooMany) ⟨by rfl, by decide, .inl T.m_TooMany⟩ (fun a oe cls d pn hz hf => pss_one (ps_ret (pe_tupU (pa_cons (pe_errS hz hf (pv 2)) (pa_cons (pe_errS hz hf (pv 2)) (pa_cons (pe_errS hz hf (pv 2)) pa_nil)))))) .nil)))
      (pss_one (ps_ret (pv 1))), ?_⟩
    refine seq_op fun N hN => ?_
    walk_at "rs"
    refine ⟨_, ha, _, rfl, _, ha, _, rfl, _, ha, _, rfl, _, ha, _, rfl, _, ha, _, rfl, _, ha, _, rfl, _, ha, _, rfl, ?_⟩
    intro z dz hz hdz ne
    refine ⟨z, dz, H, _, _, _, _, _, _, _, _, _, _, _, _, _, _, rfl, upd_same, hz, fun p o e => by rw [upd_ne (ne_of_none e hz), upd_ne (ne_of_none e hdz)]; exact e, h0, h1, h2, h3, h4, h5, h6, od, w18, fun e0 => ?_, fun e e0 => ?_⟩
    · obtain ⟨x, q0, q1, q2, q3, q4, q5, q6, g, k⟩ := kn e0
      refine ⟨x, q0, q1, q2, q3, q4, q5, q6, g, fun H' s' q => ⟨rfl, hN _ _ ?_⟩⟩
      clear hN N
      walk_at "rs"
      exact k _ H' s' q
    · exact by
        intro dd H2 s2 hdd hx
        have er := er_suite (Q := Q) T s2 (fun u H' s' h' => ke e e0 u H' s' h') hdd hx
        cases e with
        | bad c => exact ⟨true, T.em_BB, fun z => (by cases z), fun _ a na => er a (by show 2 < 3; decide) rfl⟩
        | badAt c => exact ⟨true, T.em_BB, fun z => (by cases z), fun _ a na => er a (by show 2 < 3; decide) rfl⟩
        | many c n => exact ⟨false, T.em_TB, fun _ => ⟨true, T.em_TT, fun z => (by cases z), fun _ a na => er a (by show 2 < 3; decide) rfl⟩, fun z => (by cases z)⟩
def sp_staged (K : PySem.W.Frag) (C : Addr) : Sp := fun vs H Q _ => ∃ v x u d, vs = [v, u] ∧ NA K H C v x ∧ nfN x = x ∧ Gn 3900 x ∧ Dp K H u d ∧ okD d = true ∧
  (stEr x.w d = none → ∃ st, SsV K H u st ∧ st.length ≤ 100 ∧ (∀ s ∈ st, Gs 3900 x.w s) ∧ ∀ t H', Same H H' → NA K H' C t ⟨x.s, x.n, x.w, x.rest, x.sg, x.pl, st.map nfS⟩ → Q t H') ∧
  (∀ e, stEr x.w d = some e → ∀ u H', Same H H' → Dp K H' u (erD (some e)) → Q u H')
theorem ok__law_staged (T : Txt w K mg) : FnOk P w K mg base CX0 11 T.a__law_staged T.d__law_staged ["net", "stages_y"] (sp_staged K T.A_Net) := by
  refine T.F__law_staged.ok sc__law_staged (fun vs H Q E h => ?_) (fun cdv A outer s H vs Q E hr h => ?_)
  · obtain ⟨v, x, u, d, rfl, _⟩ := h
    rfl
  · obtain ⟨v, x, u, d, rfl, ⟨a, dx, r1, r2, r3, r4, rfl, ha, h1, h2, h3, h4⟩, fx, g, hd, od, kn, ke⟩ := h
    have hr_Net__with_stages : Room 10 _ := hr
    have G_Net__with_stages := ok_Net__with_stages (P := P) (base := base) T
    refine ⟨_, pss_cons (ps_try_suites (i := 3) rfl rfl sc__law_staged.nd rfl rfl L2.takes0 (fun W pn xe tk => pss_one (ps_set (i := 2) sc__law_staged.nd rfl (Or.inl rfl) (pe_methS (pv 0) T.C_Net T.mt_Net__with_stages G_Net__with_stages hr_Net__with_stages T.B_Net__with_stages (fun σ => passAt tk σ) (pa_cons (pv 1) pa_nil))))
      (.cons (c := .ref T.C_BadNet) ⟨by rfl, by decide, .inl T.m_BadNet⟩ (fun a oe cls d pn hz hf => pss_one (ps_ret (pe_tupU (pa_cons (pe_errS hz hf (pv 3)) (pa_cons (pe_errS hz hf (pv 3)) pa_nil)))))
      (.cons (c := .ref T.C_TooMany) ⟨by rfl, by decide, .inl T.m_TooMany⟩ (fun a oe cls d pn hz hf => pss_one (ps_ret (pe_tupU (pa_cons (pe_errS hz hf (pv 3)) (pa_cons (pe_errS hz hf (pv 3)) (pa_cons (pe_errS hz hf (pv 3)) pa_nil)))))) .nil)))
      (pss_one (ps_ret (pv 2))), ?_⟩
    refine seq_op fun N hN => ?_
    walk_at "rs"
    refine ⟨dx, _, ha, rfl, .ref a, x, u, d, rfl, ⟨a, dx, r1, r2, r3, r4, rfl, ha, h1, h2, h3, h4⟩, fx, g, hd, od, fun e0 => ?_, fun e e0 => ?_⟩
    · obtain ⟨st, hs, ls, gs, k⟩ := kn e0
      refine ⟨st, hs, ls, gs, fun t H' s' q => hN _ _ ?_⟩
      clear hN N
      walk_at "rs"
      exact k _ H' s' q
    · exact by
        intro dd H2 s2 hdd hx
        have er := er_suite (Q := Q) T s2 (fun u H' s' h' => ke e e0 u H' s' h') hdd hx
        cases e with
        | bad c => exact ⟨true, T.em_BB, fun z => (by cases z), fun _ a na => er a (by show 3 < 4; decide) rfl⟩
        | badAt c => exact ⟨true, T.em_BB, fun z => (by cases z), fun _ a na => er a (by show 3 < 4; decide) rfl⟩
        | many c n => exact ⟨false, T.em_TB, fun _ => ⟨true, T.em_TT, fun z => (by cases z), fun _ a na => er a (by show 3 < 4; decide) rfl⟩, fun z => (by cases z)⟩
end
end LK

set_option Elab.async false
set_option linter.all false
set_option maxRecDepth 100000
namespace LK
open PySem PySem.Spec PyProof.Rows L2
local macro_rules | `(tactic| walk_at "rs") => `(tactic| simp only [tFld, sFld, tMeth, tMethZ, tMakeK, tMakeS, tMethS, tEf, tProp, tFmt, rEqO, rNeO, cxK, cxNK, tCallZ, tAsg, tOp, rI0, rS0, rB0, rI, rU, tUn, rEq, rNe, rIxL, rIxT, rIxS, rSetL, rSlLU, rSlS, rSlU, rCatL, rCatU, rRepL, rIn, tVar, tC, gName, gSub, tIfS, tTest, tB, tAnd, tOr, tNot, tNotV, tAndV, tOrV, tIf, tCall, tCons, tNil, tCB, tDrop, tRet, tRetN, tNext, tLstU, tTupU, tM0, tM1, tPar, tPar3, tAug, ipI, tBM, tBM0, rAppend, rPop, tBreak, sDPut, tDGet, tDGet2, tCont, tChain, tSl, tPart, tNoPart, L2.start, List.map, List.length_cons, List.length_nil, List.replicate, List.cons_append, List.nil_append, List.append_nil, List.getElem?_cons_zero, List.getElem?_cons_succ, List.set_cons_zero, List.set_cons_succ, Option.some.injEq, V.int.injEq, V.ref.injEq, V.str.injEq, V.bl.injEq, exists_eq_left', exists_eq_left, exists_and_left, decide_eq_true_eq, List.cons.injEq, and_true, true_and, scal, Bool.not_eq_true', decide_eq_false_iff_not, Nat.zero_add, Nat.reduceAdd, Nat.reduceSub, reduceCtorEq, false_and, exists_false, false_or, or_false, CPow, CPowW, CMul, CDiv, Int.reduceToNat, ↓reduceIte, wipe, sw, List.nil_append, List.singleton_append])
local macro_rules | `(tactic| walk_at "st") => `(tactic| (refine seq_op fun N hN => ?_; walk_at "rs"))
local macro_rules | `(tactic| walk_at "sd") => `(tactic| first | assumption | decide | omega)
local macro_rules | `(tactic| walk_at "rd") => `(tactic| repeat (first
  | refine ⟨_, SqL.of (by assumption), ?_⟩ | refine ⟨_, SqL.of upd_same, ?_⟩ | refine ⟨_, .inl (SqL.of (by assumption)), ?_⟩ | refine ⟨_, (by assumption : _ = some (HO.lst _)), ?_⟩ | refine ⟨_, upd_same, ?_⟩
  | refine ⟨_, rfl, ?_⟩ | refine And.intro (by walk_at "sd") ?_))

section
variable {P : Program} {w : World} {K : PySem.W.Frag} {mg : Str → Option Value} {base : Heap}
def sp_fits (K : PySem.W.Frag) (C : Addr) : Sp := fun vs H Q _ => ∃ v u s : V, vs = [v, u, s] ∧ ((∃ e, Dp K H v (erD (some e)) ∧ Dp K H u (erD (some e)) ∧ okD (erD (some e)) = true) ∨ (u = .non ∧ ∃ m x, NA K H C v (nfN x) ∧ SvV K H s x ∧ Gn m x ∧ m ≤ 3900)) ∧ ∀ H', Same H H' → Q (.bl true) H'
theorem ok__law_fits (T : Txt w K mg) : FnOk P w K mg base CX0 10 T.a__law_fits T.d__law_fits ["made", "due", "slots"] (sp_fits K T.A_Net) := by
  refine T.F__law_fits.ok sc__law_fits (fun vs H Q E h => ?_) (fun cdv A outer s H vs Q E hr h => ?_)
  · obtain ⟨v, u, s, rfl, _⟩ := h
    rfl
  · obtain ⟨v, u, s, rfl, hc, k⟩ := h
    have hr__law_like : Room 9 _ := hr
    have G__law_like := ok__law_like (P := P) (base := base) T 8
    have hr__law_settled : Room 6 _ := hr.mono (by decide)
    have G__law_settled := ok__law_settled (P := P) (base := base) T
    have hr_Net__rest_row : Room 1 _ := hr.mono (by decide)
    have G_Net__rest_row := ok_Net__rest_row (P := P) (base := base) T
    have hr_Net__sign_rows : Room 1 _ := hr.mono (by decide)
    have G_Net__sign_rows := ok_Net__sign_rows (P := P) (base := base) T
    have hr_Net__place_rows : Room 1 _ := hr.mono (by decide)
    have G_Net__place_rows := ok_Net__place_rows (P := P) (base := base) T
    have hr_Net__stages : Room 1 _ := hr.mono (by decide)
    have G_Net__stages := ok_Net__stages (P := P) (base := base) T
    refine ⟨_, (pss_cons (ps_if (pt_cmpR op_notN (pv 1) pe_non (nomark _)) (pss_one (ps_ret (pe_call G__law_like hr__law_like (by rfl) T.m__law_like T.F__law_like.kp T.B__law_like .nil pass0 (pa_cons (pv 0) (pa_cons (pv 1) pa_nil))))) pss_nil)
      (pss_cons (ps_if (pt_not (pt_val (pe_callB call_isi (by rfl) T.n_isinstance (by decide +kernel) (pa_cons (pv 0) (pa_cons (pe_glob (v := .ref T.A_Net) (by rfl) T.m_Net rfl) pa_nil))))) (pss_one (ps_ret pe_bl)) pss_nil)
      (pss_cons (ps_set (i := 3) sc__law_fits.nd rfl (Or.inl rfl) (pe_lstU (pa_cons (pe_fld (pv 0) rfl) (pa_cons (pe_fld (pv 0) rfl) (pa_cons (pe_fld (pv 0) rfl) (pa_cons (pe_meth0 (pv 0) T.C_Net T.mt_Net__rest_row G_Net__rest_row hr_Net__rest_row T.B_Net__rest_row .nil pass0) (pa_cons (pe_meth0 (pv 0) T.C_Net T.mt_Net__sign_rows G_Net__sign_rows hr_Net__sign_rows T.B_Net__sign_rows .nil pass0) (pa_cons (pe_meth0 (pv 0) T.C_Net T.mt_Net__place_rows G_Net__place_rows hr_Net__place_rows T.B_Net__place_rows .nil pass0) (pa_cons (pe_meth0 (pv 0) T.C_Net T.mt_Net__stages G_Net__stages hr_Net__stages T.B_Net__stages .nil pass0) pa_nil)))))))))
      (pss_one (ps_ret (pe_call G__law_like hr__law_like (by rfl) T.m__law_like T.F__law_like.kp T.B__law_like .nil pass0 (pa_cons (pv 3) (pa_cons (pe_call G__law_settled hr__law_settled (by rfl) T.m__law_settled T.F__law_settled.kp T.B__law_settled .nil pass0 (pa_cons (pv 2) pa_nil)) pa_nil)))))))), ?_⟩
    refine seq_op fun N hN => ?_
    walk_at "rs"
    rcases hc with ⟨e, h1, h2, h3⟩ | ⟨rfl, m, x, hn, hs, g, hm⟩
    · have nu : ¬ u = .non := fun z => by subst z; cases e <;> cases h2
      rw [if_pos nu]
      exact ⟨v, u, _, rfl, h1, h2, h3, (by cases e <;> exact (by show 1 ≤ 8; decide)), k⟩
    rw [if_neg (by simp)]
    refine hN _ _ ?_
    clear hN N
    have hn' := hn
    obtain ⟨a, dx, r1, r2, r3, r4, rfl, ha, h1, h2, h3, h4⟩ := hn
    refine seq_op fun N hN => ?_
    walk_at "rs"
    refine ⟨_, _, .ref T.A_Net, .ref T.A_Net, true, rfl, .own _, .base (.ins ha T.C_Net T.cl_Net T.cg_Net T.ct_Net T.mr_Net), T.kk_Net, true, rfl, ?_⟩
    rw [if_neg (by decide)]
    refine hN _ _ ?_
    clear hN N
    refine seq_op fun N hN => ?_
    walk_at "rs"
    refine ⟨_, _, _, ha, T.C_Net, T.na_signs, _, rfl, _, _, _, ha, T.C_Net, T.na_n, _, rfl, _, _, _, ha, T.C_Net, T.na_width, _, rfl, _, _, ha, rfl, .ref a, nfN x, rfl, hn', fun u1 e1 => ⟨_, _, ha, rfl, .ref a, nfN x, rfl, hn', fun u2 e2 => ⟨_, _, ha, rfl, .ref a, nfN x, rfl, hn', fun u3 e3 => ⟨_, _, ha, rfl, .ref a, nfN x, rfl, hn', fun u4 e4 => ⟨(by show 7 ≤ sizeLine; decide), fun q H1 s1 q0 q1 => hN _ _ ?_⟩⟩⟩⟩⟩
    clear hN N
    walk_at "rs"
    obtain ⟨b, vr, vg, vp, vt, rfl, hb, i1, i2, i3, i4⟩ := hs
    refine ⟨.ref b, m, x, rfl, ⟨b, vr, vg, vp, vt, rfl, s1.seq hb, i1.same s1, i2.same s1, i3.same s1, i4.same s1⟩, g, hm, fun q2 H2 s2 q20 d2 => ⟨.ref q, .ref q2, dD (nfN x), rfl, ?_, d2, ok_D (g.nf hm).ok, dep_D _, fun H3 s3 => k H3 (Same.trans s1 (Same.trans s2 s3))⟩⟩
    have s12 := Same.trans s1 s2
    exact .lst (SqL.of (s2 _ _ q1)) (.cons (.int _) (.cons (.int _) (.cons (.int _) (.cons (dp_same s12 e1) (.cons (dp_same s12 e2) (.cons (dp_same s12 e3) (.cons (dp_same s12 e4) .nil)))))))
end
end LK

set_option Elab.async false
set_option linter.all false
set_option maxRecDepth 100000
namespace LK
open PySem PySem.Spec PyProof.Rows L2
local macro_rules | `(tactic| walk_at "rs") => `(tactic| simp only [tFld, sFld, tMeth, tMethZ, tMakeK, tMakeS, tMethS, tEf, tProp, tFmt, rEqO, rNeO, cxK, cxNK, tCallZ, tAsg, tOp, rI0, rS0, rB0, rI, rU, tUn, rEq, rNe, rIxL, rIxT, rIxS, rSetL, rSlLU, rSlS, rSlU, rCatL, rCatU, rRepL, rIn, tVar, tC, gName, gSub, tIfS, tTest, tB, tAnd, tOr, tNot, tNotV, tAndV, tOrV, tIf, tCall, tCons, tNil, tCB, tDrop, tRet, tRetN, tNext, tLstU, tTupU, tM0, tM1, tPar, tPar3, tAug, ipI, tBM, tBM0, rAppend, rPop, tBreak, sDPut, tDGet, tDGet2, tCont, tChain, tSl, tPart, tNoPart, L2.start, List.map, List.length_cons, List.length_nil, List.replicate, List.cons_append, List.nil_append, List.append_nil, List.getElem?_cons_zero, List.getElem?_cons_succ, List.set_cons_zero, List.set_cons_succ, Option.some.injEq, V.int.injEq, V.ref.injEq, V.str.injEq, V.bl.injEq, exists_eq_left', exists_eq_left, exists_and_left, decide_eq_true_eq, List.cons.injEq, and_true, true_and, scal, Bool.not_eq_true', decide_eq_false_iff_not, Nat.zero_add, Nat.reduceAdd, Nat.reduceSub, reduceCtorEq, false_and, exists_false, false_or, or_false, CPow, CPowW, CMul, CDiv, Int.reduceToNat, ↓reduceIte, wipe, sw, List.nil_append, List.singleton_append])
local macro_rules | `(tactic| walk_at "st") => `(tactic| (refine seq_op fun N hN => ?_; walk_at "rs"))
local macro_rules | `(tactic| walk_at "sd") => `(tactic| first | assumption | decide | omega)
local macro_rules | `(tactic| walk_at "rd") => `(tactic| repeat (first
  | refine ⟨_, SqL.of (by assumption), ?_⟩ | refine ⟨_, SqL.of upd_same, ?_⟩ | refine ⟨_, .inl (SqL.of (by assumption)), ?_⟩ | refine ⟨_, (by assumption : _ = some (HO.lst _)), ?_⟩ | refine ⟨_, upd_same, ?_⟩
  | refine ⟨_, rfl, ?_⟩ | refine And.intro (by walk_at "sd") ?_))

/-! ### data that are bounded, of few levels, and can be laid -/
structure Gd (n : Nat) (d : PyData) : Prop where
  ok : okD d = true
  bd : bdD 20 d = true
  lay : d.canLay0 = true
  dep : d.depth ≤ n
theorem Gd.le {n m : Nat} {d : PyData} (g : Gd n d) (h : n ≤ m) : Gd m d := ⟨g.ok, g.bd, g.lay, Nat.le_trans g.dep h⟩
theorem gd_non {n : Nat} : Gd n .none := ⟨rfl, rfl, by simp only [PyData.canLay0], by simp only [PyData.depth]; omega⟩
theorem gd_bl {n : Nat} {b : Bool} : Gd n (.bool b) := ⟨rfl, rfl, by simp only [PyData.canLay0], by simp only [PyData.depth]; omega⟩
theorem gd_int {n : Nat} {i : Int} (h : i.natAbs ≤ 1000000000000000000) : Gd n (.int i) := ⟨rfl, decide_eq_true h, by simp only [PyData.canLay0], by simp only [PyData.depth]; omega⟩
theorem gd_str {n : Nat} {z : Str} (h : z.length ≤ 100000) (g : PyData.strOk z = true) : Gd n (.str z) := ⟨decide_eq_true h, rfl, by simp only [PyData.canLay0]; exact g, by simp only [PyData.depth]; omega⟩
theorem bdAll_of {n : Nat} {ds : List PyData} : (∀ d ∈ ds, bdD n d = true) → bdAll n ds = true := by
  induction ds with
  | nil => intro _; rfl
  | cons d ds ih =>
    intro h
    show (bdD n d && bdAll n ds) = true
    rw [h d List.mem_cons_self, ih fun x hx => h x (List.mem_cons_of_mem _ hx)]
    rfl
theorem layAll_of {ds : List PyData} : (∀ d ∈ ds, d.canLay0 = true) → PyData.canLayAll0 ds = true := by
  induction ds with
  | nil => intro _; simp only [PyData.canLayAll0]
  | cons d ds ih =>
    intro h
    simp only [PyData.canLayAll0]
    rw [h d List.mem_cons_self, ih fun x hx => h x (List.mem_cons_of_mem _ hx)]
    rfl
theorem layAll_mem {d : PyData} : ∀ {ds : List PyData}, PyData.canLayAll0 ds = true → d ∈ ds → d.canLay0 = true
  | [], _, h => absurd h (by simp)
  | e :: ds, h, g => by
    simp only [PyData.canLayAll0, Bool.and_eq_true] at h
    rcases List.mem_cons.mp g with rfl | g
    · exact h.1
    · exact layAll_mem h.2 g
theorem depAll_of {n : Nat} {ds : List PyData} : (∀ d ∈ ds, d.depth ≤ n) → PyData.depthAll ds ≤ n := by
  induction ds with
  | nil => intro _; simp only [PyData.depthAll]; omega
  | cons d ds ih =>
    intro h
    simp only [PyData.depthAll]
    have := h d List.mem_cons_self
    have := ih fun x hx => h x (List.mem_cons_of_mem _ hx)
    omega
theorem depAll_mem {n : Nat} {d : PyData} : ∀ {ds : List PyData}, PyData.depthAll ds ≤ n → d ∈ ds → d.depth ≤ n
  | [], _, h => absurd h (by simp)
  | e :: ds, h, g => by
    simp only [PyData.depthAll] at h
    rcases List.mem_cons.mp g with rfl | g
    · omega
    · exact depAll_mem (by omega) g
theorem gd_tup {n : Nat} {ds : List PyData} (hl : ds.length ≤ 20) (h : ∀ d ∈ ds, Gd n d) : Gd (n + 1) (.tuple ds) := by
  refine ⟨okD_tup.mpr ⟨by omega, okAll_of fun d hd => (h d hd).ok⟩, ?_, ?_, ?_⟩
  · show (decide (ds.length ≤ 20) && bdAll 20 ds) = true
    rw [decide_eq_true hl, bdAll_of fun d hd => (h d hd).bd]; rfl
  · simp only [PyData.canLay0]; exact layAll_of fun d hd => (h d hd).lay
  · simp only [PyData.depth]
    have := depAll_of fun d hd => (h d hd).dep
    omega
theorem gd_lst {n : Nat} {ds : List PyData} (hl : ds.length ≤ 20) (h : ∀ d ∈ ds, Gd n d) : Gd (n + 1) (.list ds) := by
  refine ⟨okD_lst.mpr ⟨by omega, okAll_of fun d hd => (h d hd).ok⟩, ?_, ?_, ?_⟩
  · show (decide (ds.length ≤ 20) && bdAll 20 ds) = true
    rw [decide_eq_true hl, bdAll_of fun d hd => (h d hd).bd]; rfl
  · simp only [PyData.canLay0]; exact layAll_of fun d hd => (h d hd).lay
  · simp only [PyData.depth]
    have := depAll_of fun d hd => (h d hd).dep
    omega
theorem Gd.sq {n : Nat} {d : PyData} {ds : List PyData} (g : Gd n d) (e : sqD d = some ds) : ds.length ≤ 20 ∧ ∀ x ∈ ds, Gd n x ∧ x.depth + 1 ≤ n := by
  obtain ⟨h1, h2⟩ := bd_sq g.bd e
  obtain ⟨_, h3⟩ := ok_sq g.ok e
  have hd := g.dep
  have hl := g.lay
  refine ⟨h1, fun x hx => ?_⟩
  have : x.canLay0 = true ∧ x.depth + 1 ≤ n := by
    cases d <;> first | cases e | skip
    · simp only [PyData.canLay0, PyData.depth] at hl hd
      have := depAll_mem (n := n - 1) (by omega) hx
      exact ⟨layAll_mem hl hx, by omega⟩
    · simp only [PyData.canLay0, PyData.depth] at hl hd
      have := depAll_mem (n := n - 1) (by omega) hx
      exact ⟨layAll_mem hl hx, by omega⟩
  exact ⟨⟨okA_mem h3 hx, bdA_mem h2 hx, this.1, by omega⟩, this.2⟩
theorem Gd.tup {n : Nat} {ds : List PyData} (g : Gd (n + 1) (.tuple ds)) : ds.length ≤ 20 ∧ ∀ x ∈ ds, Gd n x := ⟨(g.sq rfl).1, fun x hx => ⟨((g.sq rfl).2 x hx).1.ok, ((g.sq rfl).2 x hx).1.bd, ((g.sq rfl).2 x hx).1.lay, by have := ((g.sq rfl).2 x hx).2; omega⟩⟩
theorem Gd.lst {n : Nat} {ds : List PyData} (g : Gd (n + 1) (.list ds)) : ds.length ≤ 20 ∧ ∀ x ∈ ds, Gd n x := ⟨(g.sq rfl).1, fun x hx => ⟨((g.sq rfl).2 x hx).1.ok, ((g.sq rfl).2 x hx).1.bd, ((g.sq rfl).2 x hx).1.lay, by have := ((g.sq rfl).2 x hx).2; omega⟩⟩
theorem dpa_in {K : PySem.W.Frag} {H : Hp} {v : V} : ∀ {xs : List V} {ds : List PyData}, DpAll K H xs ds → v ∈ xs → ∃ d ∈ ds, Dp K H v d
  | _, _, .nil, h => absurd h (by simp)
  | _, _, .cons a b, h => by
    rcases List.mem_cons.mp h with rfl | h
    · exact ⟨_, List.mem_cons_self, a⟩
    · obtain ⟨d, hd, h2⟩ := dpa_in b h
      exact ⟨d, List.mem_cons_of_mem _ hd, h2⟩
theorem dpa_take {K : PySem.W.Frag} {H : Hp} : ∀ (n : Nat) {xs : List V} {ds : List PyData}, DpAll K H xs ds → DpAll K H (xs.take n) (ds.take n)
  | 0, _, _, _ => .nil
  | _ + 1, _, _, .nil => .nil
  | n + 1, _, _, .cons a b => .cons a (dpa_take n b)
theorem dpa_drop {K : PySem.W.Frag} {H : Hp} : ∀ (n : Nat) {xs : List V} {ds : List PyData}, DpAll K H xs ds → DpAll K H (xs.drop n) (ds.drop n)
  | 0, _, _, h => h
  | _ + 1, _, _, .nil => .nil
  | n + 1, _, _, .cons _ b => dpa_drop n b
theorem dpa_set {K : PySem.W.Frag} {H : Hp} {v : V} {d : PyData} : ∀ (n : Nat) {xs : List V} {ds : List PyData}, DpAll K H xs ds → Dp K H v d → DpAll K H (xs.set n v) (ds.set n d)
  | _, _, _, .nil, _ => .nil
  | 0, _, _, .cons _ b, h => .cons h b
  | n + 1, _, _, .cons a b, h => .cons a (dpa_set n b h)
theorem dpa_app {K : PySem.W.Frag} {H : Hp} : ∀ {xs ys : List V} {ds es : List PyData}, DpAll K H xs ds → DpAll K H ys es → DpAll K H (xs ++ ys) (ds ++ es)
  | _, _, _, _, .nil, h => h
  | _, _, _, _, .cons a b, h => .cons a (dpa_app b h)
theorem dpa_rev {K : PySem.W.Frag} {H : Hp} : ∀ {xs : List V} {ds : List PyData}, DpAll K H xs ds → DpAll K H xs.reverse ds.reverse
  | _, _, .nil => .nil
  | _, _, .cons a b => by rw [List.reverse_cons, List.reverse_cons]; exact dpa_app (dpa_rev b) (.cons a .nil)
/-! ### a heap without some lists -/
structure ZOk (Z : Hp → Hp) (b c : Addr) (X : Hp) : Prop where
  bag : ∃ M, Bag M X b c
  mono : ∀ {G G' : Hp}, Kp b G G' → Same (Z G) (Z G')
  le : ∀ G : Hp, Same (Z G) (hb G b)
  raw : ∀ {G : Hp} {q : Addr} {o : HO}, X q = none → G q = some o → Z G q = some o
  tkp : ∀ {G : Hp} {M : Nat}, Kp b X G → Bag M G b c → Tk G (Z G)
  loc : ∀ {G : Hp} {p : Addr} {o : HO}, Same (hb (Z G) p) (hb (Z (L2.upd G p o)) p)
section
variable {Z : Hp → Hp} {b c : Addr} {X : Hp}
theorem ZOk.le' (z : ZOk Z b c X) (G : Hp) : Same (Z G) G := Same.trans (z.le G) (hb_le _ _)
theorem ZOk.same (z : ZOk Z b c X) {G G' : Hp} (s : Same G G') : Same (Z G) (Z G') := z.mono (Kp.of s)
theorem ZOk.new (z : ZOk Z b c X) {G G' : Hp} {q : Addr} {o : HO} (s : Same X G) (h : G q = none) (g : G' q = some o) : Z G' q = some o := z.raw (Same.dom s q h) g
theorem ZOk.tk (z : ZOk Z b c X) {G : Hp} (s : Same X G) : Tk G (Z G) := z.tkp (Kp.of s) (z.bag.choose_spec.same s)
theorem ZOk.upK (z : ZOk Z b c X) {X' : Hp} {M : Nat} (k : Kp b X X') (B : Bag M X' b c) : ZOk Z b c X' := ⟨⟨M, B⟩, z.mono, z.le, fun h g => z.raw (Kp.bn k B.at.choose_spec h) g, fun k' B' => z.tkp (Same.trans k k') B', z.loc⟩
theorem ZOk.up (z : ZOk Z b c X) {X' : Hp} (s : Same X X') : ZOk Z b c X' := z.upK (Kp.of s) (z.bag.choose_spec.same s)
theorem zok_hb {N : Nat} (B : Bag N X b c) : ZOk (fun G => hb G b) b c X := ⟨⟨N, B⟩, fun k => k, fun G => Same.refl _, fun h g => by show hb _ b _ = _; rw [hb_ne (new_ne B h)]; exact g, fun k B' => Tk.hb B', fun {G p o} a u e => by
  obtain ⟨h1, h2⟩ := hb_some e
  obtain ⟨h3, h4⟩ := hb_some h2
  show hb (hb _ b) p a = _
  rw [hb_ne h1, hb_ne h3, upd_ne h1]; exact h4⟩
/-- without the lists that were there at first -/
theorem zok_fr {N : Nat} (B : Bag N X b c) : ZOk (fun G => hb (fr X G) b) b c X := by
  refine ⟨⟨N, B⟩, fun {G G'} k a o e => ?_, fun G a o e => ?_, fun {G q o} h g => ?_, fun {G M} k B' a o e n => ?_, fun {G p o} a u e => ?_⟩
  · obtain ⟨h1, h2⟩ := hb_some e
    have h3 := fr_le _ _ h2
    have h4 : G' a = some o := by
      have : hb G b a = some o := by rw [hb_ne h1]; exact h3
      exact (hb_some (k _ _ this)).2
    show hb (fr X G') b a = _
    rw [hb_ne h1]
    by_cases q : ∃ xs, o = .lst xs
    · obtain ⟨xs, rfl⟩ := q
      exact fr_new (fr_lst h2) h4
    · exact fr_tk _ _ h4 fun xs z => q ⟨xs, z⟩
  · obtain ⟨h1, h2⟩ := hb_some e
    rw [hb_ne h1]; exact fr_le _ _ h2
  · show hb (fr X G) b q = _
    rw [hb_ne (new_ne B h)]
    by_cases l : ∃ xs, o = .lst xs
    · obtain ⟨xs, rfl⟩ := l
      exact fr_new h g
    · exact fr_tk _ _ g fun xs z => l ⟨xs, z⟩
  · show hb (fr X G) b a = _
    obtain ⟨xb, hb'⟩ := B'.at
    rw [hb_ne fun z => by subst z; rw [hb'] at e; exact n _ (Option.some.inj e).symm]
    exact fr_tk _ _ e n
  · obtain ⟨h1, h2⟩ := hb_some e
    obtain ⟨h3, h4⟩ := hb_some h2
    show hb (hb (fr X _) b) p a = _
    rw [hb_ne h1, hb_ne h3]
    have h5 := fr_le _ _ h4
    have h6 : (L2.upd G p o) a = some u := by rw [upd_ne h1]; exact h5
    by_cases l : ∃ xs, u = .lst xs
    · obtain ⟨xs, rfl⟩ := l
      exact fr_new (fr_lst h4) h6
    · exact fr_tk _ _ h6 fun xs z => l ⟨xs, z⟩
/-- without one list more -/
def Zp (Z : Hp → Hp) (p : Addr) : Hp → Hp := fun G => hb (Z G) p
theorem ZOk.zp (z : ZOk Z b c X) {p : Addr} {xs : List V} (h : X p = some (.lst xs)) (nb : p ≠ b) : ZOk (Zp Z p) b c X := by
  refine ⟨z.bag, fun k => hb_mono (z.mono k) p, fun G => Same.trans (hb_le _ _) (z.le G), fun {G q o} h0 g => ?_, fun {G M} k B' a o e n => ?_, fun {G q o} a u e => ?_⟩
  · show hb (Z G) p q = _
    rw [hb_ne fun e => by subst e; rw [h] at h0; cases h0]; exact z.raw h0 g
  · show hb (Z G) p a = _
    rw [hb_ne fun e2 => by subst e2; rw [Kp.hd k h nb] at e; exact n _ (Option.some.inj e).symm]; exact z.tkp k B' a o e n
  · obtain ⟨h1, h2⟩ := hb_some e
    obtain ⟨h3, h4⟩ := hb_some h2
    show hb (hb (Z _) p) q a = _
    rw [hb_ne h1, hb_ne h3]
    have h5 : hb (Z G) q a = some u := by rw [hb_ne h1]; exact h4
    exact (hb_some (z.loc _ _ h5)).2
end
/-! ### what a term makes: good data -/
section
variable (K : PySem.W.Frag) (Z : Hp → Hp) (X : Hp) (σ : L2.St)
def DgE (n : Nat) (te : TE) : Prop := ∀ H (Q : VK), Same X H → (∀ v d H', Same H H' → Gd n d → Dp K (Z H') v d → Q v H') → te σ H Q
def DgA (n k : Nat) (ta : TA) : Prop := ∀ H (Q : List V → Hp → Prop), Same X H → (∀ vs ds H', Same H H' → (∀ d ∈ ds, Gd n d) → ds.length = k → DpAll K (Z H') vs ds → Q vs H') → ta σ H Q
/-- a tuple of lo to hi things -/
def DgT (n lo hi : Nat) (te : TE) : Prop := ∀ H (Q : VK), Same X H → (∀ v ds H', Same H H' → (∀ d ∈ ds, Gd n d) → lo ≤ ds.length → ds.length ≤ hi → Dp K (Z H') v (.tuple ds) → Q v H') → te σ H Q
/-- a list of lo to hi things -/
def DgL (n lo hi : Nat) (te : TE) : Prop := ∀ H (Q : VK), Same X H → (∀ p xs ds H', Same H H' → (∀ d ∈ ds, Gd n d) → lo ≤ ds.length → ds.length ≤ hi → Z H' p = some (.lst xs) → DpAll K (Z H') xs ds → Q (.ref p) H') → te σ H Q
/-- a bound of a slice -/
def PtO (tl : TO) : Prop := ∃ o, ∀ H Q, Q o H → tl σ H Q
end
section
variable {K : PySem.W.Frag} {Z : Hp → Hp} {b c : Addr} {N : Nat} {X : Hp} {σ : L2.St} {n k lo hi : Nat} {te tr : TE} {ta tb : TA}
theorem DgT.e (h : DgT K Z X σ n lo hi te) (h2 : hi ≤ 20) : DgE K Z X σ (n + 1) te := fun H Q s k => h H Q s fun v ds H' s' g l1 l2 d => k v _ H' s' (gd_tup (by omega) g) d
theorem DgL.e (h : DgL K Z X σ n lo hi te) (h2 : hi ≤ 20) : DgE K Z X σ (n + 1) te := fun H Q s k => h H Q s fun p xs ds H' s' g l1 l2 hp d => k _ _ H' s' (gd_lst (by omega) g) (.lst (SqL.of hp) d)
theorem DgE.le {m : Nat} (h : DgE K Z X σ n te) (hm : n ≤ m) : DgE K Z X σ m te := fun H Q s k => h H Q s fun v d H' s' g d' => k v d H' s' (g.le hm) d'
theorem da_nil : DgA K Z X σ n 0 tNil := fun H Q s k => k [] [] H (Same.refl _) (fun d hd => absurd hd (by simp)) rfl .nil
theorem da_cons (z : ZOk Z b c X) (h : DgE K Z X σ n te) (g : DgA K Z X σ n k tb) : DgA K Z X σ n (k + 1) (tCons te tb) := fun H Q s q => h H _ s fun v d H1 s1 g1 d1 => g H1 _ (s.trans s1) fun vs ds H2 s2 g2 l2 d2 => q (v :: vs) (d :: ds) H2 (s1.trans s2) (fun e he => by
  rcases List.mem_cons.mp he with rfl | he
  · exact g1
  · exact g2 e he) (by simp [l2]) (.cons (dp_same (z.same s2) d1) d2)
theorem dg_non : DgE K Z X σ n (tC .non) := fun H Q s k => k _ _ H (Same.refl _) gd_non .non
theorem dg_bl {x : Bool} : DgE K Z X σ n (tC (.bl x)) := fun H Q s k => k _ _ H (Same.refl _) gd_bl (.bl _)
theorem dg_int {i : Int} (h : i.natAbs ≤ 1000000000000000000) : DgE K Z X σ n (tC (.int i)) := fun H Q s k => k _ _ H (Same.refl _) (gd_int h) (.int _)
theorem dg_neg {i : Int} (h : i.natAbs ≤ 1000000000000000000) : DgE K Z X σ n (tUn (rU fun i => .int (-i)) (tC (.int i))) := fun H Q s k => ⟨i, rfl, k _ _ H (Same.refl _) (gd_int (by rw [Int.natAbs_neg]; exact h)) (.int _)⟩
theorem dg_str {z : Str} (h : z.length ≤ 100000) (g : PyData.strOk z = true) : DgE K Z X σ n (tC (.str z)) := fun H Q s k => k _ _ H (Same.refl _) (gd_str h g) (.str _)
theorem dg_pow : DgE K Z X σ n (tOp (rI CPow fun i j => V.int (i ^ j.toNat)) (tC (.int 10)) (tC (.int 17))) := fun H Q s k => ⟨10, 17, rfl, rfl, ⟨by decide, by decide, by decide⟩, k _ _ H (Same.refl _) (gd_int (by decide)) (.int _)⟩
theorem dg_var (z : ZOk Z b c X) {i : Nat} {v : V} {d : PyData} (h : σ[i]? = some (some v)) (g : Gd n d) (hd : Dp K (Z X) v d) : DgE K Z X σ n (tVar i) := fun H Q s k => ⟨v, h, k _ _ H (Same.refl _) g (dp_same (z.same s) hd)⟩
theorem dg_varI {i : Nat} {w : Int} (h : σ[i]? = some (some (.int w))) (g : w.natAbs ≤ 1000000000000000000) : DgE K Z X σ n (tVar i) := fun H Q s k => ⟨_, h, k _ _ H (Same.refl _) (gd_int g) (.int _)⟩
theorem dg_subI {i : Nat} {w j : Int} (h : σ[i]? = some (some (.int w))) (g : (w - j).natAbs ≤ 1000000000000000000) : DgE K Z X σ n (tOp (rI0 fun i j => .int (i - j)) (tVar i) (tC (.int j))) := fun H Q s k => ⟨_, h, _, _, rfl, rfl, k _ _ H (Same.refl _) (gd_int g) (.int _)⟩
theorem sz20 {m : Nat} (h : m ≤ 200) : m ≤ sizeLine := Nat.le_trans h (by decide)
theorem dt_disp (z : ZOk Z b c X) (h : DgA K Z X σ n k ta) (hk : k ≤ 200) : DgT K Z X σ n k k (tTupU ta) := fun H Q s q => h H _ s fun vs ds H1 s1 g l d => ⟨sz20 (by rw [dpa_len d]; omega), fun p H2 s2 p0 p1 => q _ ds H2 (s1.trans s2) g (by omega) (by omega) (.tup (SqT.of (z.new (s.trans s1) p0 p1)) (dpa_same (z.same s2) d))⟩
theorem dl_disp (z : ZOk Z b c X) (h : DgA K Z X σ n k ta) (hk : k ≤ 200) : DgL K Z X σ n k k (tLstU ta) := fun H Q s q => h H _ s fun vs ds H1 s1 g l d => ⟨sz20 (by rw [dpa_len d]; omega), fun p H2 s2 p0 p1 => q p vs ds H2 (s1.trans s2) g (by omega) (by omega) (z.new (s.trans s1) p0 p1) (dpa_same (z.same s2) d)⟩
theorem dg_tup (z : ZOk Z b c X) (h : DgA K Z X σ n k ta) (hk : k ≤ 20) : DgE K Z X σ (n + 1) (tTupU ta) := (dt_disp z h (by omega)).e hk
theorem dg_lst (z : ZOk Z b c X) (h : DgA K Z X σ n k ta) (hk : k ≤ 20) : DgE K Z X σ (n + 1) (tLstU ta) := (dl_disp z h (by omega)).e hk
theorem dt_var (z : ZOk Z b c X) {i : Nat} {v : V} {ds : List PyData} (h : σ[i]? = some (some v)) (g : ∀ d ∈ ds, Gd n d) (l1 : lo ≤ ds.length) (l2 : ds.length ≤ hi) (hd : Dp K (Z X) v (.tuple ds)) : DgT K Z X σ n lo hi (tVar i) := fun H Q s k => ⟨v, h, k _ _ H (Same.refl _) g l1 l2 (dp_same (z.same s) hd)⟩
theorem dl_var (z : ZOk Z b c X) {i : Nat} {p : Addr} {xs : List V} {ds : List PyData} (h : σ[i]? = some (some (.ref p))) (g : ∀ d ∈ ds, Gd n d) (l1 : lo ≤ ds.length) (l2 : ds.length ≤ hi) (hp : Z X p = some (.lst xs)) (hd : DpAll K (Z X) xs ds) : DgL K Z X σ n lo hi (tVar i) := fun H Q s k => ⟨_, h, k p xs ds H (Same.refl _) g l1 l2 (z.same s _ _ hp) (dpa_same (z.same s) hd)⟩
theorem cut_gd {ds : List PyData} {i j : Nat} (g : ∀ d ∈ ds, Gd n d) : ∀ d ∈ (ds.drop i).take j, Gd n d := fun d hd => g d (List.mem_of_mem_drop (List.mem_of_mem_take hd))
theorem cut_len {α : Type} {l : List α} {i j : Nat} : ((l.drop i).take j).length ≤ l.length := by rw [List.length_take, List.length_drop]; omega
theorem pt_no : PtO σ tNoPart := ⟨none, fun _ _ q => q⟩
theorem pt_c {i : Int} : PtO σ (tPart (tC (.int i))) := ⟨some i, fun _ _ q => ⟨i, rfl, q⟩⟩
theorem pt_neg {i : Int} : PtO σ (tPart (tUn (rU fun i => .int (-i)) (tC (.int i)))) := ⟨some (-i), fun _ _ q => ⟨i, rfl, _, rfl, q⟩⟩
theorem pt_var {i : Nat} {w : Int} (h : σ[i]? = some (some (.int w))) : PtO σ (tPart (tVar i)) := ⟨some w, fun _ _ q => ⟨_, h, w, rfl, q⟩⟩
theorem pt_suc {i : Nat} {w j : Int} (h : σ[i]? = some (some (.int w))) : PtO σ (tPart (tOp (rI0 fun i j => .int (i + j)) (tVar i) (tC (.int j)))) := ⟨some (w + j), fun _ _ q => ⟨_, h, w, j, rfl, rfl, _, rfl, q⟩⟩
theorem dt_sl {tl th : TO} (z : ZOk Z b c X) (h : DgT K Z X σ n lo hi te) (p1 : PtO σ tl) (p2 : PtO σ th) : DgT K Z X σ n 0 hi (tSl (rSlU K) te tl th) := fun H Q s q => h H _ s fun v ds H1 s1 g l1 l2 d => by
  obtain ⟨o1, p1⟩ := p1
  obtain ⟨o2, p2⟩ := p2
  refine p1 _ _ (p2 _ _ ?_)
  cases d with
  | tup hs hx =>
    rename_i a xs
    refine ⟨a, xs, rfl, Same.seqT (z.le' _) hs, fun r H2 s2 h2 => q _ ((ds.drop (HT.sIx xs.length 0 o1)).take (HT.sIx xs.length xs.length o2 - HT.sIx xs.length 0 o1)) H2 (s1.trans s2) (cut_gd g) (Nat.zero_le _) (Nat.le_trans cut_len l2) (.tup (seqT_tk (z.tk (s.trans (s1.trans s2))) h2) ?_)⟩
    exact dpa_take _ (dpa_drop _ (dpa_same (z.same s2) hx))
theorem dl_sl {tl th : TO} (z : ZOk Z b c X) (h : DgL K Z X σ n lo hi te) (p1 : PtO σ tl) (p2 : PtO σ th) : DgL K Z X σ n 0 hi (tSl (rSlLU K) te tl th) := fun H Q s q => h H _ s fun p xs ds H1 s1 g l1 l2 hp d => by
  obtain ⟨o1, p1⟩ := p1
  obtain ⟨o2, p2⟩ := p2
  refine p1 _ _ (p2 _ _ ?_)
  refine ⟨p, xs, rfl, SqL.of (z.le' _ _ _ hp), fun r H2 s2 h0 h2 => q r _ ((ds.drop (HT.sIx xs.length 0 o1)).take (HT.sIx xs.length xs.length o2 - HT.sIx xs.length 0 o1)) H2 (s1.trans s2) (cut_gd g) (Nat.zero_le _) (Nat.le_trans cut_len l2) (z.new (s.trans s1) h0 h2) ?_⟩
  exact dpa_take _ (dpa_drop _ (dpa_same (z.same s2) d))
theorem dt_cat {lo' hi' : Nat} (z : ZOk Z b c X) (h : DgT K Z X σ n lo hi te) (h2 : DgT K Z X σ n lo' hi' tr) (hm : hi + hi' ≤ 200) : DgT K Z X σ n (lo + lo') (hi + hi') (tOp (rCatU K) te tr) := fun H Q s q => h H _ s fun v ds H1 s1 g l1 l2 d => h2 H1 _ (s.trans s1) fun v' ds' H2 s2 g' l1' l2' d' => by
  cases d with
  | tup hs hx =>
  cases d' with
  | tup hs' hx' =>
    have e1 := dpa_len hx
    have e2 := dpa_len hx'
    refine ⟨_, _, _, _, rfl, rfl, Same.seqT (Same.trans (z.le' _) s2) hs, Same.seqT (z.le' _) hs', sz20 (by omega), fun r H3 s3 h3 => q _ (ds ++ ds') H3 (s1.trans (s2.trans s3)) (fun e he => ?_) (by rw [List.length_append]; omega) (by rw [List.length_append]; omega) (.tup (seqT_tk (z.tk (s.trans (s1.trans (s2.trans s3)))) h3) (dpa_app (dpa_same (z.same (s2.trans s3)) hx) (dpa_same (z.same s3) hx')))⟩
    rcases List.mem_append.mp he with he | he
    · exact g e he
    · exact g' e he
theorem dl_cat {lo' hi' : Nat} (z : ZOk Z b c X) (h : DgL K Z X σ n lo hi te) (h2 : DgL K Z X σ n lo' hi' tr) (hm : hi + hi' ≤ 200) : DgL K Z X σ n (lo + lo') (hi + hi') (tOp rCatL te tr) := fun H Q s q => h H _ s fun p xs ds H1 s1 g l1 l2 hp d => h2 H1 _ (s.trans s1) fun p' xs' ds' H2 s2 g' l1' l2' hp' d' => by
  have e1 := dpa_len d
  have e2 := dpa_len d'
  refine ⟨_, _, _, _, rfl, rfl, s2 _ _ (z.le' _ _ _ hp), z.le' _ _ _ hp', sz20 (by omega), fun r H3 s3 h0 h3 => q r _ (ds ++ ds') H3 (s1.trans (s2.trans s3)) (fun e he => ?_) (by rw [List.length_append]; omega) (by rw [List.length_append]; omega) (z.new (s.trans (s1.trans s2)) h0 h3) (dpa_app (dpa_same (z.same (s2.trans s3)) d) (dpa_same (z.same s3) d'))⟩
  rcases List.mem_append.mp he with he | he
  · exact g e he
  · exact g' e he
theorem dt_rev (z : ZOk Z b c X) (h : DgT K Z X σ n lo hi te) : DgT K Z X σ n lo hi (tRevT K te) := fun H Q s q => h H _ s fun v ds H1 s1 g l1 l2 d => by
  cases d with
  | tup hs hx =>
    exact ⟨_, _, rfl, Same.seqT (z.le' _) hs, fun p H2 s2 p0 p1 => q _ ds.reverse H2 (s1.trans s2) (fun e he => g e (List.mem_reverse.mp he)) (by rw [List.length_reverse]; exact l1) (by rw [List.length_reverse]; exact l2) (.tup (SqT.of (z.new (s.trans s1) p0 p1)) (dpa_rev (dpa_same (z.same s2) hx)))⟩
/-- list(t) of a tuple -/
theorem dl_list (z : ZOk Z b c X) (h : DgT K Z X σ n lo hi te) : DgL K Z X σ n lo hi (tCB (fun xs H Q => ∃ p ys, xs = [V.ref p] ∧ (SqL K H p ys ∨ SqT K H p ys) ∧ ∀ (l : Addr) (H2 : Hp), Same H H2 → H l = none → H2 l = some (HO.lst ys) → Q (V.ref l) H2) (tCons te tNil)) := fun H Q s q => h H _ s fun v ds H1 s1 g l1 l2 d => by
  cases d with
  | tup hs hx =>
    exact ⟨_, _, rfl, .inr (Same.seqT (z.le' _) hs), fun l H2 s2 h0 h2 => q l _ ds H2 (s1.trans s2) g l1 l2 (z.new (s.trans s1) h0 h2) (dpa_same (z.same s2) hx)⟩
/-- tuple(l) of a list -/
theorem dt_tuple (z : ZOk Z b c X) (h : DgL K Z X σ n lo hi te) : DgT K Z X σ n lo hi (tCB (fun xs H Q => ∃ p ys, xs = [V.ref p] ∧ SqL K H p ys ∧ ∀ (q : Addr) (H' : Hp), Same H H' → H q = none → H' q = some (HO.tup ys) → Q (V.ref q) H') (tCons te tNil)) := fun H Q s q => h H _ s fun p xs ds H1 s1 g l1 l2 hp d => ⟨p, xs, rfl, SqL.of (z.le' _ _ _ hp), fun r H2 s2 h0 h2 => q _ ds H2 (s1.trans s2) g l1 l2 (.tup (SqT.of (z.new (s.trans s1) h0 h2)) (dpa_same (z.same s2) d))⟩
/-- t[i], l[i] -/
theorem dg_ixT (z : ZOk Z b c X) {i : Int} (h : DgT K Z X σ n lo hi te) (i0 : 0 ≤ i) (i1 : i.toNat < lo) : DgE K Z X σ n (tOp (rIxT K) te (tC (.int i))) := fun H Q s q => h H _ s fun v ds H1 s1 g l1 l2 d => by
  cases d with
  | tup hs hx =>
    rename_i a xs
    have e1 := dpa_len hx
    have lj : i.toNat < xs.length := by omega
    obtain ⟨d', hd', hy⟩ := dpa_in hx (List.getElem_mem lj)
    exact ⟨_, _, i, _, rfl, rfl, Same.seqT (z.le' _) hs, at_of (j := i.toNat) (by omega) (List.getElem?_eq_getElem lj), q _ d' H1 s1 (g d' hd') hy⟩
theorem dg_ixL (z : ZOk Z b c X) {i : Int} (h : DgL K Z X σ n lo hi te) (i0 : 0 ≤ i) (i1 : i.toNat < lo) : DgE K Z X σ n (tOp (rIxL K) te (tC (.int i))) := fun H Q s q => h H _ s fun p xs ds H1 s1 g l1 l2 hp d => by
  have e1 := dpa_len d
  have lj : i.toNat < xs.length := by omega
  obtain ⟨d', hd', hy⟩ := dpa_in d (List.getElem_mem lj)
  exact ⟨_, _, i, _, rfl, rfl, SqL.of (z.le' _ _ _ hp), at_of (j := i.toNat) (by omega) (List.getElem?_eq_getElem lj), q _ d' H1 s1 (g d' hd') hy⟩
theorem dl_asg {i : Nat} {D : Ends} (h : DgL K Z X σ n lo hi te) (k : ∀ p xs ds H', Same X H' → (∀ d ∈ ds, Gd n d) → lo ≤ ds.length → ds.length ≤ hi → Z H' p = some (.lst xs) → DpAll K (Z H') xs ds → D.nx (σ.set i (some (.ref p))) H') : tAsg te (gName i) D σ X := h X _ (Same.refl _) fun p xs ds H' s g l1 l2 hp hd => k p xs ds H' s g l1 l2 hp hd
/-- one of the things of a list that is made, drawn -/
theorem of_dg {Q : VK} {te : TE} (z : ZOk Z b c X) (B : Bag (N + 1) X b c) (hb0 : σ[0]? = some (some (.ref b))) (h : DgL K Z X σ n lo hi te) (l1 : 1 ≤ lo) (l2 : hi ≤ 200) (q : ∀ v d H', Gd n d → Dp K (Z H') v d → Bag N H' b c → Kp b X H' → Q v H') : tCall (sp__law_of K) [] E0 (tCons (tVar 0) (tCons te tNil)) σ X Q := by
  refine ⟨_, hb0, h X _ (Same.refl _) fun p xs ds H1 s1 g a1 a2 hp d => ?_⟩
  have e1 := dpa_len d
  refine ⟨b, c, .ref p, xs, N, rfl, B.same s1, .inl ⟨p, rfl, SqL.of (z.le' _ _ _ hp)⟩, .inl ⟨p, rfl, SqL.of (z.le _ _ _ hp)⟩, fun z => (by rw [z] at e1; simp at e1; omega), by omega, fun y H2 hy B2 K2 => ?_⟩
  obtain ⟨d', hd', hy'⟩ := dpa_in d hy
  exact q y d' H2 (g d' hd') (dp_same (z.mono K2) hy') B2 (Same.trans (Kp.of s1) K2)
end
end LK

set_option Elab.async false
set_option linter.all false
set_option maxRecDepth 100000
namespace LK
open PySem PySem.Spec PyProof.Rows L2
local macro_rules | `(tactic| walk_at "rs") => `(tactic| simp only [tFld, sFld, tMeth, tMethZ, tMakeK, tMakeS, tMethS, tEf, tProp, tFmt, rEqO, rNeO, cxK, cxNK, tCallZ, tAsg, tOp, rI0, rS0, rB0, rI, rU, tUn, rEq, rNe, rIxL, rIxT, rIxS, rSetL, rSlLU, rSlS, rSlU, rCatL, rCatU, rRepL, rIn, tVar, tC, gName, gSub, tIfS, tTest, tB, tAnd, tOr, tNot, tNotV, tAndV, tOrV, tIf, tCall, tCons, tNil, tCB, tDrop, tRet, tRetN, tNext, tLstU, tTupU, tM0, tM1, tPar, tPar3, tAug, ipI, tBM, tBM0, rAppend, rPop, tBreak, sDPut, tDGet, tDGet2, tCont, tChain, tSl, tPart, tNoPart, L2.start, List.map, List.length_cons, List.length_nil, List.replicate, List.cons_append, List.nil_append, List.append_nil, List.getElem?_cons_zero, List.getElem?_cons_succ, List.set_cons_zero, List.set_cons_succ, Option.some.injEq, V.int.injEq, V.ref.injEq, V.str.injEq, V.bl.injEq, exists_eq_left', exists_eq_left, exists_and_left, decide_eq_true_eq, List.cons.injEq, and_true, true_and, scal, Bool.not_eq_true', decide_eq_false_iff_not, Nat.zero_add, Nat.reduceAdd, Nat.reduceSub, reduceCtorEq, false_and, exists_false, false_or, or_false, CPow, CPowW, CMul, CDiv, Int.reduceToNat, ↓reduceIte, wipe, sw, List.nil_append, List.singleton_append])
local macro_rules | `(tactic| walk_at "st") => `(tactic| (refine seq_op fun N hN => ?_; walk_at "rs"))
local macro_rules | `(tactic| walk_at "sd") => `(tactic| first | assumption | decide | omega)
local macro_rules | `(tactic| walk_at "rd") => `(tactic| repeat (first
  | refine ⟨_, SqL.of (by assumption), ?_⟩ | refine ⟨_, SqL.of upd_same, ?_⟩ | refine ⟨_, .inl (SqL.of (by assumption)), ?_⟩ | refine ⟨_, (by assumption : _ = some (HO.lst _)), ?_⟩ | refine ⟨_, upd_same, ?_⟩
  | refine ⟨_, rfl, ?_⟩ | refine And.intro (by walk_at "sd") ?_))

local macro_rules | `(tactic| walk_at "dg") => `(tactic| repeat (any_goals (first
  | exact da_nil | apply da_cons (by assumption) | exact dg_non | exact dg_bl | exact dg_int (by decide) | exact dg_neg (by decide) | exact dg_str (by decide +kernel) (by decide +kernel) | exact dg_pow
  | exact pt_no | exact pt_c | exact pt_neg | exact pt_var rfl | exact pt_suc rfl
  | apply dt_disp (by assumption) | apply dl_disp (by assumption) | apply dt_cat (by assumption) | apply dl_cat (by assumption) | apply dt_sl (by assumption) | apply dl_sl (by assumption) | apply dt_rev (by assumption) | apply dl_list (by assumption) | apply dt_tuple (by assumption) | apply dg_ixT (by assumption) | apply dg_ixL (by assumption)
  | apply dg_tup (by assumption) | apply dg_lst (by assumption))))
theorem ZOk.fr {Z : Hp → Hp} {b c : Addr} {X G : Hp} {M : Nat} (z : ZOk Z b c X) (k : Kp b X G) (B : Bag M G b c) : Same (LK.fr X G) (Z G) := fun a o e => by
  have h := fr_le _ _ e
  by_cases l : ∃ xs, o = .lst xs
  · obtain ⟨xs, rfl⟩ := l
    exact z.raw (fr_lst e) h
  · exact z.tkp k B a o h fun xs q => l ⟨xs, q⟩
section
variable {P : Program} {w : World} {K : PySem.W.Frag} {mg : Str → Option Value} {base : Heap}
theorem ok__law_of (T : Txt w K mg) : FnOk P w K mg base CX0 2 T.a__law_of T.d__law_of ["bag", "things"] (sp__law_of K) := by
  refine T.F__law_of.ok sc__law_of (fun vs H Q E h => ?_) (fun cdv A outer s H vs Q E hr h => ?_)
  · obtain ⟨b, c, x, ys, N0, rfl, _⟩ := h
    rfl
  · obtain ⟨b, c, x, ys, N0, rfl, B, sq, sqb, ne, hl, k⟩ := h
    have hr__law_draw : Room 1 _ := hr.mono (by decide)
    have G__law_draw := ok__law_draw (P := P) (base := base) T
    refine ⟨_, (pss_one (ps_ret (pe_ix ix_seq (pv 1) (pe_call G__law_draw hr__law_draw (by rfl) T.m__law_draw T.F__law_draw.kp T.B__law_draw .nil pass0 (pa_cons (pv 0) (pa_cons (pe_callB call_len (by rfl) T.n_len (by decide +kernel) (pa_cons (pv 1) pa_nil)) pa_nil))) (fun _ _ => rfl)))), ?_⟩
    walk_at "rs"
    have ln : 0 < ys.length := by cases ys with | nil => exact absurd rfl ne | cons => exact Nat.succ_pos _
    have pick : ∀ (r : Int), 0 ≤ r → r < (ys.length : Int) → ∃ y, atI ys r = some y ∧ y ∈ ys := fun r r0 r1 => by
      have h1 : r.toNat < ys.length := by omega
      exact ⟨ys[r.toNat], at_of (j := r.toNat) (by omega) (List.getElem?_eq_getElem h1), List.getElem_mem h1⟩
    refine ⟨ys.length, ?_, b, c, _, N0, rfl, B, by omega, by omega, fun r H' r0 r1 B' K' => ?_⟩
    · rcases sq with ⟨p, rfl, h⟩ | ⟨p, rfl, h⟩ | ⟨z, rfl, hz, rfl⟩
      · exact .inl ⟨_, h, rfl⟩
      · exact .inr ⟨_, h, rfl⟩
      · refine ⟨Nat.le_trans hz (by decide), ?_⟩
        rw [List.length_map, Array.length_toList] <;> rfl
    · obtain ⟨y, e, hy⟩ := pick r r0 r1
      rcases sqb with ⟨p, rfl, h⟩ | ⟨p, rfl, h⟩ | ⟨z, rfl, hz, rfl⟩
      · exact .inl ⟨p, ys, r, y, rfl, rfl, Same.seq (hb_le _ _) (Same.seq K' h), e, k y H' hy B' K'⟩
      · exact .inr (.inl ⟨p, ys, r, y, rfl, rfl, Same.seqT (hb_le _ _) (Same.seqT K' h), e, k y H' hy B' K'⟩)
      · refine .inr (.inr ?_)
        have h1 : r.toNat < z.cps.toList.length := by rw [List.length_map] at r1; omega
        have e2 : atI z.cps.toList r = some z.cps.toList[r.toNat] := at_ofN (j := r.toNat) (by omega) (List.getElem?_eq_getElem h1)
        refine ⟨z, r, _, rfl, rfl, Nat.le_trans hz (by decide), e2, k _ H' ?_ B' K'⟩
        exact List.mem_map.mpr ⟨_, List.getElem_mem h1, rfl⟩
/-- something drawn of n levels at most -/
def sp_odd (K : PySem.W.Frag) (n : Nat) : Sp := fun vs H Q _ => ∃ (b c : Addr) (N : Nat), vs = [.ref b] ∧ Bag (N + 1) H b c ∧ ∀ v d H', Gd n d → Dp K (fr H H') v d → Bag N H' b c → Kp b H H' → Q v H'
theorem ok__law_odd (T : Txt w K mg) : FnOk P w K mg base CX0 3 T.a__law_odd T.d__law_odd ["bag"] (sp_odd K 2) := by
  refine T.F__law_odd.ok sc__law_odd (fun vs H Q E h => ?_) (fun cdv A outer s H vs Q E hr h => ?_)
  · obtain ⟨b, c, N, rfl, _⟩ := h
    rfl
  · obtain ⟨b, c, N, rfl, B, k⟩ := h
    have hr__law_of : Room 2 _ := hr
    have G__law_of := ok__law_of (P := P) (base := base) T
    refine ⟨_, (pss_one (ps_ret (pe_call G__law_of hr__law_of (by rfl) T.m__law_of T.F__law_of.kp T.B__law_of .nil pass0 (pa_cons (pv 0) (pa_cons (pe_lstU (pa_cons pe_non (pa_cons pe_bl (pa_cons pe_bl (pa_cons (pe_un un_neg pe_int) (pa_cons pe_int (pa_cons pe_int (pa_cons pe_str (pa_cons pe_str (pa_cons (pe_tupU pa_nil) (pa_cons (pe_lstU pa_nil) (pa_cons (pe_tupU (pa_cons pe_int pa_nil)) (pa_cons (pe_lstU (pa_cons pe_int pa_nil)) (pa_cons (pe_tupU (pa_cons pe_int (pa_cons pe_int pa_nil))) (pa_cons (pe_op op_pow pe_int pe_int) (pa_cons pe_str (pa_cons (pe_tupU (pa_cons pe_int (pa_cons (pe_tupU (pa_cons pe_int (pa_cons pe_int pa_nil))) pa_nil))) pa_nil))))))))))))))))) pa_nil))))), ?_⟩
    have z := zok_fr B
    refine of_dg (n := 2) z B rfl (lo := 16) (hi := 16) ?_ (by decide) (by decide) fun v d H' g' hd' B' K' => k v d H' g' (dp_same (hb_le _ _) hd') B' K'
    walk_at "dg"
    all_goals decide
theorem ok__law_odd_fraction (T : Txt w K mg) : FnOk P w K mg base CX0 3 T.a__law_odd_fraction T.d__law_odd_fraction ["bag"] (sp_odd K 2) := by
  refine T.F__law_odd_fraction.ok sc__law_odd_fraction (fun vs H Q E h => ?_) (fun cdv A outer s H vs Q E hr h => ?_)
  · obtain ⟨b, c, N, rfl, _⟩ := h
    rfl
  · obtain ⟨b, c, N, rfl, B, k⟩ := h
    have hr__law_of : Room 2 _ := hr
    have G__law_of := ok__law_of (P := P) (base := base) T
    refine ⟨_, (pss_cons (ps_set (i := 1) sc__law_odd_fraction.nd rfl (Or.inl rfl) (pe_lstU (pa_cons (pe_tupU (pa_cons pe_int (pa_cons pe_int pa_nil))) (pa_cons (pe_tupU (pa_cons pe_int (pa_cons pe_int pa_nil))) (pa_cons (pe_tupU (pa_cons pe_int (pa_cons (pe_un un_neg pe_int) pa_nil))) (pa_cons (pe_tupU (pa_cons pe_int (pa_cons pe_int pa_nil))) (pa_cons (pe_lstU (pa_cons pe_int (pa_cons pe_int pa_nil))) (pa_cons (pe_tupU (pa_cons pe_int pa_nil)) (pa_cons (pe_tupU (pa_cons pe_int (pa_cons pe_int (pa_cons pe_int pa_nil)))) (pa_cons pe_int (pa_cons (pe_tupU (pa_cons pe_bl (pa_cons pe_int pa_nil))) (pa_cons (pe_tupU (pa_cons pe_int (pa_cons pe_bl pa_nil))) (pa_cons (pe_tupU (pa_cons pe_str (pa_cons pe_int pa_nil))) (pa_cons pe_non pa_nil))))))))))))))
      (pss_one (ps_ret (pe_call G__law_of hr__law_of (by rfl) T.m__law_of T.F__law_of.kp T.B__law_of .nil pass0 (pa_cons (pv 0) (pa_cons (pe_op op_catL (pv 1) (pe_lstU (pa_cons (pe_tupU (pa_cons pe_int (pa_cons pe_int pa_nil))) (pa_cons (pe_tupU (pa_cons (pe_un un_neg pe_int) (pa_cons pe_int pa_nil))) (pa_cons (pe_tupU (pa_cons (pe_op op_pow pe_int pe_int) (pa_cons pe_int pa_nil))) (pa_cons (pe_tupU (pa_cons (pe_un un_neg pe_int) (pa_cons pe_int pa_nil))) (pa_cons (pe_tupU (pa_cons (pe_tupU (pa_cons pe_int (pa_cons pe_int pa_nil))) (pa_cons pe_int pa_nil))) (pa_cons (pe_tupU (pa_cons pe_int (pa_cons pe_non pa_nil))) pa_nil)))))))) pa_nil)))))), ?_⟩
    refine seq_op fun N hN => ?_
    have z := zok_fr B
    refine dl_asg (K := K) (n := 2) (lo := 12) (hi := 12) (dl_disp z ?_ (by decide)) fun p xs ds H1 s1 g l1 l2 hp hd => hN _ _ ?_
    · walk_at "dg"
      all_goals decide
    clear hN N
    have B1 := B.same s1
    replace z := z.up s1
    refine of_dg (n := 2) z B1 rfl (lo := 12 + 6) (hi := 12 + 6) (dl_cat z (dl_var z rfl g l1 l2 hp hd) (dl_disp z ?_ (by decide)) (by decide)) (by decide) (by decide) fun v d H' g' hd' B' K' => k v d H' g' (dp_same (hb_le _ _) hd') B' (Same.trans (Kp.of s1) K')
    all_goals walk_at "dg"
    all_goals decide
end
end LK

set_option Elab.async false
set_option linter.all false
set_option maxRecDepth 100000
namespace LK
open PySem PySem.Spec PyProof.Rows L2
local macro_rules | `(tactic| walk_at "rs") => `(tactic| simp only [tFld, sFld, tMeth, tMethZ, tMakeK, tMakeS, tMethS, tEf, tProp, tFmt, rEqO, rNeO, cxK, cxNK, tCallZ, tAsg, tOp, rI0, rS0, rB0, rI, rU, tUn, rEq, rNe, rIxL, rIxT, rIxS, rSetL, rSlLU, rSlS, rSlU, rCatL, rCatU, rRepL, rIn, tVar, tC, gName, gSub, tIfS, tTest, tB, tAnd, tOr, tNot, tNotV, tAndV, tOrV, tIf, tCall, tCons, tNil, tCB, tDrop, tRet, tRetN, tNext, tLstU, tTupU, tM0, tM1, tPar, tPar3, tAug, ipI, tBM, tBM0, rAppend, rPop, tBreak, sDPut, tDGet, tDGet2, tCont, tChain, tSl, tPart, tNoPart, L2.start, List.map, List.length_cons, List.length_nil, List.replicate, List.cons_append, List.nil_append, List.append_nil, List.getElem?_cons_zero, List.getElem?_cons_succ, List.set_cons_zero, List.set_cons_succ, Option.some.injEq, V.int.injEq, V.ref.injEq, V.str.injEq, V.bl.injEq, exists_eq_left', exists_eq_left, exists_and_left, decide_eq_true_eq, List.cons.injEq, and_true, true_and, scal, Bool.not_eq_true', decide_eq_false_iff_not, Nat.zero_add, Nat.reduceAdd, Nat.reduceSub, reduceCtorEq, false_and, exists_false, false_or, or_false, CPow, CPowW, CMul, CDiv, Int.reduceToNat, ↓reduceIte, wipe, sw, List.nil_append, List.singleton_append])
local macro_rules | `(tactic| walk_at "st") => `(tactic| (refine seq_op fun N hN => ?_; walk_at "rs"))
local macro_rules | `(tactic| walk_at "sd") => `(tactic| first | assumption | decide | omega)
local macro_rules | `(tactic| walk_at "rd") => `(tactic| repeat (first
  | refine ⟨_, SqL.of (by assumption), ?_⟩ | refine ⟨_, SqL.of upd_same, ?_⟩ | refine ⟨_, .inl (SqL.of (by assumption)), ?_⟩ | refine ⟨_, (by assumption : _ = some (HO.lst _)), ?_⟩ | refine ⟨_, upd_same, ?_⟩
  | refine ⟨_, rfl, ?_⟩ | refine And.intro (by walk_at "sd") ?_))

section
variable {K : PySem.W.Frag} {Z : Hp → Hp} {b c p : Addr} {X G : Hp} {N M : Nat} {ds : List PyData}
/-- a list of one's own, of data -/
structure LL (K : PySem.W.Frag) (Z : Hp → Hp) (b c : Addr) (X : Hp) (N : Nat) (G : Hp) (p : Addr) (ds : List PyData) : Prop where
  z : ZOk Z b c X
  bag : Bag N G b c
  kp : Kp b X G
  new : X p = none
  at_ : ∃ xs, G p = some (.lst xs) ∧ DpAll K (Zp Z p G) xs ds
theorem LL.nb (l : LL K Z b c X N G p ds) : p ≠ b := new_ne l.z.bag.choose_spec l.new
theorem LL.nc (l : LL K Z b c X N G p ds) : c ≠ p := fun z => by
  obtain ⟨xc, ec⟩ := l.z.bag.choose_spec.at2
  rw [z, l.new] at ec; cases ec
theorem LL.mk0 {H1 H2 : Hp} {xs : List V} (z : ZOk Z b c X) (B : Bag N H1 b c) (k : Kp b X H1) (s : Same H1 H2) (h : H1 p = none) (hp : H2 p = some (.lst xs)) (hd : DpAll K (Z H1) xs ds) : LL K Z b c X N H2 p ds := by
  refine ⟨z, B.same s, Same.trans k (Kp.of s), Kp.bn k B.at.choose_spec h, xs, hp, dpa_same (fun a o e => ?_) hd⟩
  have h2 := z.le' _ _ _ e
  show hb (Z H2) p a = _
  rw [hb_ne (ne_of_none h2 h)]; exact z.same s _ _ e
theorem LL.step {G' : Hp} (l : LL K Z b c X N G p ds) (B : Bag M G' b c) (k : Kp b G G') : LL K Z b c X M G' p ds := by
  obtain ⟨xs, h1, h2⟩ := l.at_
  exact ⟨l.z, B, Same.trans l.kp k, l.new, xs, k.hd h1 l.nb, dpa_same (hb_mono (l.z.mono k) p) h2⟩
theorem LL.le (l : LL K Z b c X N G p ds) (h : M ≤ N) : LL K Z b c X M G p ds := ⟨l.z, l.bag.le h, l.kp, l.new, l.at_⟩
theorem LL.zok (l : LL K Z b c X N G p ds) : ZOk (Zp Z p) b c G := by
  obtain ⟨xs, h1, h2⟩ := l.at_
  exact (l.z.upK l.kp l.bag).zp h1 l.nb
theorem LL.set {xs : List V} {i : Nat} {v : V} {d : PyData} (l : LL K Z b c X N G p ds) (h : G p = some (.lst xs)) (hx : DpAll K (Zp Z p G) xs ds) (hv : Dp K (Zp Z p G) v d) : LL K Z b c X N (L2.upd G p (.lst (xs.set i v))) p (ds.set i d) :=
  ⟨l.z, l.bag.upd l.nb.symm l.nc, Kp.upd2 l.kp l.new, l.new, _, upd_same, dpa_same l.z.loc (dpa_set i hx hv)⟩
theorem LL.raw {xs : List V} (l : LL K Z b c X N G p ds) (h : G p = some (.lst xs)) : Z G p = some (.lst xs) := l.z.raw l.new h
theorem LL.dp (l : LL K Z b c X N G p ds) : Dp K (Z G) (.ref p) (.list ds) := by
  obtain ⟨xs, h1, h2⟩ := l.at_
  exact .lst (SqL.of (l.raw h1)) (dpa_same (hb_le _ _) h2)
/-- its things as a list or as a tuple -/
theorem LL.either {Q : VK} {E : XK} (l : LL K Z b c X (N + 1) G p ds) (q : ∀ u e H', (e = .list ds ∨ e = .tuple ds) → Dp K (Z H') u e → Bag N H' b c → Kp b X H' → Q u H') : sp_either K [.ref b, .ref p] G Q E := by
  obtain ⟨xs, h1, h2⟩ := l.at_
  refine ⟨b, c, p, N, xs, rfl, l.bag, h1, l.nb, fun r H' B' K' h => ?_⟩
  have s1 : Same (fr G H') (Z H') := (l.z.upK l.kp l.bag).fr K' B'
  have hx : DpAll K (Z H') xs ds := dpa_same (Same.trans (hb_mono (l.z.mono K') p) (hb_le _ _)) h2
  have kk := Same.trans l.kp K'
  rcases h with h | h
  · exact q _ _ H' (.inl rfl) (.lst (SqL.of (s1 _ _ h)) hx) B' kk
  · exact q _ _ H' (.inr rfl) (.tup (Same.seqT s1 h) hx) B' kk
/-- l = [..] -/
theorem LL.asg {i n k : Nat} {σ : L2.St} {D : Ends} {ta : TA} (l : LL K Z b c X N G p ds) (h : DgA K Z G σ n k ta) (hk : k ≤ 200) (q : ∀ r es G', LL K Z b c X N G' r es → (∀ e ∈ es, Gd n e) → es.length = k → D.nx (σ.set i (some (.ref r))) G') : tAsg (tLstU ta) (gName i) D σ G :=
  h G _ (Same.refl _) fun vs es H3 s3 g le d => ⟨sz20 (by rw [dpa_len d]; omega), fun r H4 s4 n4 h4 => q r es H4 (LL.mk0 l.z (l.bag.same s3) (Same.trans l.kp (Kp.of s3)) s4 n4 h4 d) g le⟩
theorem gd_either {n : Nat} {e : PyData} (h : e = .list ds ∨ e = .tuple ds) (l : ds.length ≤ 20) (g : ∀ d ∈ ds, Gd n d) : Gd (n + 1) e := by
  rcases h with rfl | rfl
  · exact gd_lst l g
  · exact gd_tup l g
theorem mem_set {α : Type} {l : List α} {i : Nat} {v x : α} (h : x ∈ l.set i v) : x = v ∨ x ∈ l := (List.mem_or_eq_of_mem_set h).symm
theorem ixN_ok {n : Nat} {k : Int} (h0 : 0 ≤ k) (h : k.toNat < n) : ixN n k = some k.toNat := by
  unfold ixN
  rw [if_pos h0, if_pos (by omega)]
/-- l[k] = v -/
theorem gsub_ll {i j : Nat} {σ : L2.St} {k : Int} {v : V} {d : PyData} {Q : L2.St → Hp → Prop} (l : LL K Z b c X N G p ds) (h1 : σ[i]? = some (some (.ref p))) (h2 : σ[j]? = some (some (.int k))) (k0 : 0 ≤ k) (k1 : k.toNat < ds.length) (hv : Dp K (Zp Z p G) v d)
    (q : ∀ G', LL K Z b c X N G' p (ds.set k.toNat d) → Q σ G') : gSub (tVar i) (tVar j) rSetL v σ G Q := by
  obtain ⟨xs, q0, q1⟩ := l.at_
  have := dpa_len q1
  exact ⟨_, h1, _, h2, p, xs, k, k.toNat, rfl, rfl, q0, ixN_ok k0 (by omega), q _ (l.set q0 q1 hv)⟩
theorem if_int {i : Nat} {x j : Int} {g : Int → Int → Bool} {σ : L2.St} {t u : TS} {D : Ends} (h : σ[i]? = some (some (.int x))) (h1 : g x j = true → t D σ G) (h2 : g x j = false → u D σ G) : tIfS (tTest (tOp (rI0 fun i j => .bl (g i j)) (tVar i) (tC (.int j)))) t u D σ G := by
  refine ⟨_, h, x, j, rfl, rfl, _, rfl, ?_⟩
  cases e : g x j with
  | true => rw [if_pos rfl]; exact h1 e
  | false => rw [if_neg (by decide)]; exact h2 e
/-- x = f(b) -/
theorem asg_call {i : Nat} {sp : Sp} {ta : TA} {D : Ends} {σ : L2.St} (h : tCall sp [] E0 ta σ G fun v H => D.nx (σ.set i (some v)) H) : tAsg (tCall sp [] E0 ta) (gName i) D σ G := h
/-- a + (f(b),) -/
theorem cat_draw1 {σ : L2.St} {tA tF : TE} {n lo hi : Nat} {Q : VK} (l : LL K Z b c X N G p ds) (hA : DgT K (Zp Z p) G σ n lo hi tA)
    (hF : ∀ (G' : Hp) (R : VK), Kp b G G' → LL K Z b c X N G' p ds → (∀ v d G2, Gd n d → Dp K (Zp Z p G2) v d → LL K Z b c X M G2 p ds → Kp b G' G2 → R v G2) → tF σ G' R) (hm : hi ≤ 100)
    (q : ∀ v es G', (∀ d ∈ es, Gd n d) → es.length ≤ hi + 1 → Dp K (Zp Z p G') v (.tuple es) → LL K Z b c X M G' p ds → Kp b G G' → Q v G') : tOp (rCatU K) tA (tTupU (tCons tF tNil)) σ G Q := by
  refine hA G _ (Same.refl _) fun v1 es1 H1 s1 g1 l1 l2 d1 => ?_
  have L1 := l.step (l.bag.same s1) (Kp.of s1)
  refine hF H1 _ (Kp.of s1) L1 fun v d H2 g hv L2 k2 => ⟨(by show 1 ≤ sizeLine; decide), fun p3 H3 s3 n3 h3 => ?_⟩
  cases d1 with
  | tup hs hx =>
    rename_i a1 xs1
    have e1 := dpa_len hx
    have z := l.zok
    have L3 := L2.step (L2.bag.same s3) (Kp.of s3)
    refine ⟨a1, p3, xs1, [v], rfl, rfl, Same.seqT (z.le' _) (Same.seqT (z.mono (Same.trans k2 (Kp.of s3))) hs), SqT.of h3, sz20 (by rw [List.length_singleton]; omega), fun r H4 s4 h4 => ?_⟩
    have L4 := L3.step (L3.bag.same s4) (Kp.of s4)
    refine q _ (es1 ++ [d]) H4 (fun e he => ?_) (by rw [List.length_append, List.length_singleton]; omega) (.tup (seqT_tk (L4.zok.tk (Same.refl _)) h4) (dpa_app (dpa_same (z.mono (Same.trans k2 (Kp.of (Same.trans s3 s4)))) hx) (.cons (dp_same (z.same (Same.trans s3 s4)) hv) .nil))) L4 (Same.trans (Kp.of s1) (Same.trans k2 (Kp.of (Same.trans s3 s4))))
    rcases List.mem_append.mp he with he | he
    · exact g1 e he
    · rcases List.mem_singleton.mp he with rfl
      exact g
/-- a + (f(b),) + c -/
theorem cat_draw {σ : L2.St} {tA tF tB : TE} {n lo hi lo' hi' : Nat} {Q : VK} (l : LL K Z b c X N G p ds) (hA : DgT K (Zp Z p) G σ n lo hi tA)
    (hF : ∀ (G' : Hp) (R : VK), Kp b G G' → LL K Z b c X N G' p ds → (∀ v d G2, Gd n d → Dp K (Zp Z p G2) v d → LL K Z b c X M G2 p ds → Kp b G' G2 → R v G2) → tF σ G' R) (hm : hi ≤ 50)
    (hB : ∀ G', Kp b G G' → LL K Z b c X M G' p ds → DgT K (Zp Z p) G' σ n lo' hi' tB) (hm2 : hi' ≤ 50)
    (q : ∀ v es G', (∀ d ∈ es, Gd n d) → es.length ≤ hi + 1 + hi' → Dp K (Zp Z p G') v (.tuple es) → LL K Z b c X M G' p ds → Kp b G G' → Q v G') : tOp (rCatU K) (tOp (rCatU K) tA (tTupU (tCons tF tNil))) tB σ G Q := by
  refine cat_draw1 l hA hF (by omega) fun v1 es1 H1 g1 l1 d1 L1 k1 => ?_
  refine hB H1 k1 L1 H1 _ (Same.refl _) fun v2 es2 H2 s2 g2 l2 l3 d2 => ?_
  cases d1 with
  | tup hs hx =>
  cases d2 with
  | tup hs2 hx2 =>
    have e1 := dpa_len hx
    have e2 := dpa_len hx2
    have z := l.zok
    have L2 := L1.step (L1.bag.same s2) (Kp.of s2)
    refine ⟨_, _, _, _, rfl, rfl, Same.seqT (Same.trans (z.le' _) s2) hs, Same.seqT (z.le' _) hs2, sz20 (by omega), fun r H3 s3 h3 => ?_⟩
    have L3 := L2.step (L2.bag.same s3) (Kp.of s3)
    refine q _ (es1 ++ es2) H3 (fun e he => ?_) (by rw [List.length_append]; omega) (.tup (seqT_tk (L3.zok.tk (Same.refl _)) h3) (dpa_app (dpa_same (z.same (Same.trans s2 s3)) hx) (dpa_same (z.same s3) hx2))) L3 (Same.trans k1 (Kp.of (Same.trans s2 s3)))
    rcases List.mem_append.mp he with he | he
    · exact g1 e he
    · exact g2 e he
theorem tup_ex {d : PyData} {H : Hp} {v : V} {us : List PyData} (h : Dp K H v d) (e : d = .tuple us) : Dp K H v (.tuple us) := e ▸ h
end
end LK

set_option Elab.async false
set_option linter.all false
set_option maxRecDepth 100000
namespace LK
open PySem PySem.Spec PyProof.Rows L2
local macro_rules | `(tactic| walk_at "rs") => `(tactic| simp only [tFld, sFld, tMeth, tMethZ, tMakeK, tMakeS, tMethS, tEf, tProp, tFmt, rEqO, rNeO, cxK, cxNK, tCallZ, tAsg, tOp, rI0, rS0, rB0, rI, rU, tUn, rEq, rNe, rIxL, rIxT, rIxS, rSetL, rSlLU, rSlS, rSlU, rCatL, rCatU, rRepL, rIn, tVar, tC, gName, gSub, tIfS, tTest, tB, tAnd, tOr, tNot, tNotV, tAndV, tOrV, tIf, tCall, tCons, tNil, tCB, tDrop, tRet, tRetN, tNext, tLstU, tTupU, tM0, tM1, tPar, tPar3, tAug, ipI, tBM, tBM0, rAppend, rPop, tBreak, sDPut, tDGet, tDGet2, tCont, tChain, tSl, tPart, tNoPart, L2.start, List.map, List.length_cons, List.length_nil, List.replicate, List.cons_append, List.nil_append, List.append_nil, List.getElem?_cons_zero, List.getElem?_cons_succ, List.set_cons_zero, List.set_cons_succ, Option.some.injEq, V.int.injEq, V.ref.injEq, V.str.injEq, V.bl.injEq, exists_eq_left', exists_eq_left, exists_and_left, decide_eq_true_eq, List.cons.injEq, and_true, true_and, scal, Bool.not_eq_true', decide_eq_false_iff_not, Nat.zero_add, Nat.reduceAdd, Nat.reduceSub, reduceCtorEq, false_and, exists_false, false_or, or_false, CPow, CPowW, CMul, CDiv, Int.reduceToNat, ↓reduceIte, wipe, sw, List.nil_append, List.singleton_append])
local macro_rules | `(tactic| walk_at "st") => `(tactic| (refine seq_op fun N hN => ?_; walk_at "rs"))
local macro_rules | `(tactic| walk_at "sd") => `(tactic| first | assumption | decide | omega)
local macro_rules | `(tactic| walk_at "rd") => `(tactic| repeat (first
  | refine ⟨_, SqL.of (by assumption), ?_⟩ | refine ⟨_, SqL.of upd_same, ?_⟩ | refine ⟨_, .inl (SqL.of (by assumption)), ?_⟩ | refine ⟨_, (by assumption : _ = some (HO.lst _)), ?_⟩ | refine ⟨_, upd_same, ?_⟩
  | refine ⟨_, rfl, ?_⟩ | refine And.intro (by walk_at "sd") ?_))

local macro_rules | `(tactic| walk_at "dg") => `(tactic| repeat (any_goals (first
  | exact da_nil | apply da_cons (by assumption) | exact dg_non | exact dg_bl | exact dg_int (by decide) | exact dg_neg (by decide) | exact dg_str (by decide +kernel) (by decide +kernel) | exact dg_pow
  | exact pt_no | exact pt_c | exact pt_neg | exact pt_var rfl | exact pt_suc rfl
  | apply dt_disp (by assumption) | apply dl_disp (by assumption) | apply dt_cat (by assumption) | apply dl_cat (by assumption) | apply dt_sl (by assumption) | apply dl_sl (by assumption) | apply dt_rev (by assumption) | apply dl_list (by assumption) | apply dt_tuple (by assumption) | apply dg_ixT (by assumption) | apply dg_ixL (by assumption)
  | apply dg_tup (by assumption) | apply dg_lst (by assumption))))
section
variable {P : Program} {w : World} {K : PySem.W.Frag} {mg : Str → Option Value} {base : Heap}
/-- items: a list of tuples of m + 1 things -/
def ShI (m : Nat) (d : PyData) : Prop := Gd 3 d ∧ ∃ ds, d = .list ds ∧ ∀ e ∈ ds, ∃ es, e = .tuple es ∧ es.length = m + 1
def sp_bI (K : PySem.W.Frag) : Sp := fun vs H Q _ => ∃ (b c : Addr) (N m : Nat) (v : V) (d : PyData) (w : Int) (Z : Hp → Hp), vs = [.ref b, v, .int m, .int w] ∧ ZOk Z b c H ∧ Bag (N + 6) H b c ∧ (m = 1 ∨ m = 2) ∧ 1 ≤ w ∧ w ≤ 2000 ∧ Dp K (Z H) v d ∧ ShI m d ∧
  ∀ u e H', Gd 4 e → Dp K (Z H') u e → Bag N H' b c → Kp b H H' → Q u H'
theorem ok__law_bent_items (T : Txt w K mg) : FnOk P w K mg base CX0 4 T.a__law_bent_items T.d__law_bent_items ["bag", "items", "many", "width"] (sp_bI K) := by
  refine T.F__law_bent_items.ok sc__law_bent_items (fun vs H Q E h => ?_) (fun cdv A outer s H vs Q E hr h => ?_)
  · obtain ⟨b, c, N, m, v, d, w, Z, rfl, _⟩ := h
    rfl
  · obtain ⟨b, c, N0, m, v, d, w, Z, rfl, zx, B, hm, w1, w2, hd, ⟨gd, ds, rfl, sh⟩, kq⟩ := h
    have hr__law_draw : Room 1 _ := hr.mono (by decide)
    have G__law_draw := ok__law_draw (P := P) (base := base) T
    have hr__law_of : Room 2 _ := hr.mono (by decide)
    have G__law_of := ok__law_of (P := P) (base := base) T
    have hr__law_odd : Room 3 _ := hr
    have G__law_odd := ok__law_odd (P := P) (base := base) T
    have hr__law_odd_fraction : Room 3 _ := hr
    have G__law_odd_fraction := ok__law_odd_fraction (P := P) (base := base) T
    have hr__law_either : Room 2 _ := hr.mono (by decide)
    have G__law_either := ok__law_either (P := P) (base := base) T
    refine ⟨_, (pss_cons (ps_par (i := 4) (j := 5) (by rfl) sc__law_bent_items.nd rfl rfl (by decide) rfl rfl (pa_cons (pe_call G__law_draw hr__law_draw (by rfl) T.m__law_draw T.F__law_draw.kp T.B__law_draw .nil pass0 (pa_cons (pv 0) (pa_cons pe_int pa_nil))) (pa_cons (pe_callTy call_listU (by rfl) T.n_list (by decide +kernel) (pa_cons (pv 1) pa_nil)) pa_nil)) (by rfl))
      (pss_cons (ps_if (pt_cmpR op_eqI (pv 4) pe_int (nomark _)) (pss_one (ps_ret (pe_call G__law_odd hr__law_odd (by rfl) T.m__law_odd T.F__law_odd.kp T.B__law_odd .nil pass0 (pa_cons (pv 0) pa_nil)))) pss_nil)
      (pss_cons (ps_if (pt_not (pt_truth (pv 5) (by intro _; rfl))) (pss_one (ps_set (i := 5) sc__law_bent_items.nd rfl (Or.inl rfl) (pe_lstU (pa_cons (pe_op op_catU (pe_callTy call_tupleN (by rfl) T.n_tuple (by decide +kernel) (pa_cons (pe_op op_repL (pe_lstU (pa_cons pe_int pa_nil)) (pv 2)) pa_nil)) (pe_tupU (pa_cons (pe_tupU (pa_cons pe_int (pa_cons pe_int pa_nil))) pa_nil))) pa_nil)))) pss_nil)
      (pss_cons (ps_set (i := 6) sc__law_bent_items.nd rfl (Or.inl rfl) (pe_call G__law_draw hr__law_draw (by rfl) T.m__law_draw T.F__law_draw.kp T.B__law_draw .nil pass0 (pa_cons (pv 0) (pa_cons (pe_callB call_len_seq (by rfl) T.n_len (by decide +kernel) (pa_cons (pv 5) pa_nil)) pa_nil))))
      (pss_cons (ps_set (i := 7) sc__law_bent_items.nd rfl (Or.inl rfl) (pe_ix ix_list (pv 5) (pv 6) (fun _ _ => rfl)))
      (pss_cons (ps_if (pt_cmpR op_eqI (pv 4) pe_int (nomark _)) (pss_one (ps_asg (pe_call G__law_of hr__law_of (by rfl) T.m__law_of T.F__law_of.kp T.B__law_of .nil pass0 (pa_cons (pv 0) (pa_cons (pe_lstU (pa_cons (pe_callTy call_listU (by rfl) T.n_list (by decide +kernel) (pa_cons (pv 7) pa_nil)) (pa_cons (pe_slice sl_tupU (pv 7) po_none (po_some (pe_un un_neg pe_int))) (pa_cons (pe_op op_catU (pv 7) (pe_tupU (pa_cons pe_int pa_nil))) (pa_cons (pe_ix ix_tup (pv 7) pe_int (fun _ _ => rfl)) (pa_cons pe_non (pa_cons (pe_revT (pv 7)) pa_nil))))))) pa_nil))) (pg_sub (pv 5) (pv 6) set_list))) (pss_one (ps_if (pt_cmpR op_lt (pv 4) pe_int (nomark _)) (pss_cons (ps_set (i := 8) sc__law_bent_items.nd rfl (Or.inl rfl) (pe_call G__law_draw hr__law_draw (by rfl) T.m__law_draw T.F__law_draw.kp T.B__law_draw .nil pass0 (pa_cons (pv 0) (pa_cons (pv 2) pa_nil))))
      (pss_one (ps_asg (pe_op op_catU (pe_op op_catU (pe_slice sl_tupU (pv 7) po_none (po_some (pv 8))) (pe_tupU (pa_cons (pe_call G__law_of hr__law_of (by rfl) T.m__law_of T.F__law_of.kp T.B__law_of .nil pass0 (pa_cons (pv 0) (pa_cons (pe_lstU (pa_cons (pv 3) (pa_cons (pe_op op_sub (pv 3) pe_int) (pa_cons (pe_un un_neg pe_int) (pa_cons pe_bl (pa_cons pe_str (pa_cons pe_non (pa_cons (pe_tupU (pa_cons pe_int pa_nil)) (pa_cons pe_int (pa_cons pe_int pa_nil)))))))))) pa_nil))) pa_nil))) (pe_slice sl_tupU (pv 7) (po_some (pe_op op_add (pv 8) pe_int)) po_none)) (pg_sub (pv 5) (pv 6) set_list)))) (pss_one (ps_asg (pe_op op_catU (pe_slice sl_tupU (pv 7) po_none (po_some (pe_un un_neg pe_int))) (pe_tupU (pa_cons (pe_call G__law_odd_fraction hr__law_odd_fraction (by rfl) T.m__law_odd_fraction T.F__law_odd_fraction.kp T.B__law_odd_fraction .nil pass0 (pa_cons (pv 0) pa_nil)) pa_nil))) (pg_sub (pv 5) (pv 6) set_list))))))
      (pss_one (ps_ret (pe_call G__law_either hr__law_either (by rfl) T.m__law_either T.F__law_either.kp T.B__law_either .nil pass0 (pa_cons (pv 0) (pa_cons (pv 5) pa_nil))))))))))), ?_⟩
    refine seq_op fun N hN => ?_
    walk_at "rs"
    refine ⟨b, c, 6, N0 + 5, rfl, B.le (by omega), by decide, by decide, fun way H1 y0 y1 B1 K1 => ?_⟩
    cases hd with
    | @lst a xs _ ha hx =>
    refine ⟨a, rfl, xs, .inl (Same.seq (Same.trans (zx.mono K1) (zx.le' _)) ha), fun p H2 s2 p0 p1 => ⟨_, _, ⟨rfl, rfl⟩, hN _ _ ?_⟩⟩
    clear hN N
    have L0 := LL.mk0 zx B1 K1 s2 p0 p1 (dpa_same (zx.mono K1) hx)
    have gl := gd.lst
    clear hx ha
    refine seq_op fun N hN => ?_
    walk_at "rs"
    refine ite2 (fun z => ⟨b, c, N0 + 4, rfl, L0.bag, fun u e H' g hu B' K' => kq u e H' (g.le (by decide)) (dp_same ((zx.upK L0.kp L0.bag).fr K' B') hu) (B'.le (by omega)) (Same.trans L0.kp K')⟩) (fun z => hN _ _ ?_)
    clear hN N
    refine cut_seq (fun σ G => ∃ (q : Addr) (es : List PyData), σ = [some (.ref b), some (.ref a), some (.int m), some (.int w), some (.int way), some (.ref q), none, none, none] ∧ LL K Z b c H (N0 + 5) G q es ∧ 0 < es.length ∧ es.length ≤ 20 ∧ ∀ e ∈ es, Gd 2 e ∧ ∃ us, e = .tuple us ∧ us.length = m + 1) (fun N hN => ?_) ?_
    · walk_at "rs"
      obtain ⟨xs0, q0, q1⟩ := L0.at_
      have lx := dpa_len q1
      refine ⟨!xs0.isEmpty, .inl ⟨xs0, SqL.of q0, rfl⟩, ite2 (fun z => ?_) (fun z => hN _ _ ⟨p, ds, rfl, L0, ?_, gl.1, fun e he => ⟨gl.2 e he, sh e he⟩⟩)⟩
      · refine ⟨by decide, fun p1 G1 s1 _ h1 => ⟨_, h1, by omega, by omega, ?_, fun p2 G2 s2' _ h2 => ⟨_, SqL.of h2, fun p3 G3 s3 n3 h3 => ⟨by decide, fun p4 G4 s4 n4 h4 => ⟨by decide, fun p5 G5 s5 n5 h5 => ⟨_, SqT.of ((s4.trans s5) _ _ h3), _, SqT.of h5, ?_, fun p6 G6 s6 h6 => ⟨by decide, fun p7 G7 s7 n7 h7 => hN _ _ ?_⟩⟩⟩⟩⟩⟩⟩
        · show 1 * m ≤ sizeLine
          exact sz20 (by omega)
        · show (List.replicate (m : Int).toNat [V.int 0]).flatten.length + 1 ≤ sizeLine
          refine sz20 ?_
          rcases hm with rfl | rfl <;> decide
        · have s06 := Same.trans s1 (Same.trans s2' (Same.trans s3 (Same.trans s4 (Same.trans s5 s6))))
          have k6 : Kp b H G6 := Same.trans L0.kp (Kp.of s06)
          have B6 := L0.bag.same s06
          have tk6 := zx.tkp k6 B6
          have hf : DpAll K (Z G6) [V.ref p4] [.tuple [.int 1, .int 1]] := .cons (.tup (seqT_tk tk6 (SqT.of ((Same.trans s5 s6) _ _ h4))) (.cons (.int _) (.cons (.int _) .nil))) .nil
          have hz : DpAll K (Z G6) (List.replicate (m : Int).toNat [V.int 0]).flatten (List.replicate m (.int 0)) := by
            rcases hm with rfl | rfl
            · exact .cons (.int _) .nil
            · exact .cons (.int _) (.cons (.int _) .nil)
          refine ⟨p7, [.tuple (List.replicate m (.int 0) ++ [.tuple [.int 1, .int 1]])], rfl, LL.mk0 zx B6 k6 s7 n7 h7 (.cons (.tup (seqT_tk tk6 h6) (dpa_app hz hf)) .nil), (by show 0 < 1; decide), (by show 1 ≤ 20; decide), fun e he => ?_⟩
          rcases List.mem_singleton.mp he with rfl
          refine ⟨gd_tup (by rcases hm with rfl | rfl <;> decide) fun e he => ?_, _, rfl, by rw [List.length_append, List.length_replicate]; rfl⟩
          rcases List.mem_append.mp he with he | he
          · rcases List.eq_of_mem_replicate he with rfl
            exact gd_int (by decide)
          · rcases List.mem_singleton.mp he with rfl
            exact gd_tup (by decide) fun e he => by
              simp only [List.mem_cons, List.mem_nil_iff, or_false, or_self] at he
              subst he
              exact gd_int (by decide)
      · cases xs0 with
        | nil => exact absurd rfl z
        | cons => simp at lx; omega
    · rintro σ G ⟨q, es, rfl, L1, l1, l20, sq⟩
      clear L0 sh gl gd
      obtain ⟨xs0, q0, q1⟩ := L1.at_
      have lx := dpa_len q1
      refine seq_op fun N hN => ?_
      walk_at "rs"
      refine ⟨_, .inl (SqL.of q0), b, c, _, N0 + 4, rfl, L1.bag, by omega, by omega, fun k H3 k0 k1 B3 K3 => hN _ _ ?_⟩
      clear hN N
      replace L1 := L1.step B3 K3
      have q2 := K3.hd q0 L1.nb
      have q1' := dpa_same (hb_mono (zx.mono K3) q) q1
      have kx : k.toNat < xs0.length := by omega
      have ke : k.toNat < es.length := by omega
      have hek : es[k.toNat]? = some es[k.toNat] := List.getElem?_eq_getElem ke
      have hxk : xs0[k.toNat]? = some xs0[k.toNat] := List.getElem?_eq_getElem kx
      have hone := dpa_at q1' hxk hek
      obtain ⟨g1, us, eu, lu⟩ := sq es[k.toNat] (List.getElem_mem ke)
      rw [eu] at hone g1
      generalize xs0[k.toNat] = one at hone hxk
      refine seq_op fun N hN => ?_
      walk_at "rs"
      refine ⟨_, SqL.of q2, _, at_of (j := k.toNat) (by omega) hxk, hN _ _ ?_⟩
      clear hN N
      clear q0 q1 q1' q2 hxk hek K3 B3 lx kx eu
      refine cut_seq (fun σ G => ∃ (y8 : Option V) (es : List PyData), σ = [some (.ref b), some (.ref a), some (.int m), some (.int w), some (.int way), some (.ref q), some (.int k), some one, y8] ∧ LL K Z b c H (N0 + 1) G q es ∧ es.length ≤ 20 ∧ ∀ e ∈ es, Gd 3 e) (fun N hN => ?_) ?_
      · have z := L1.zok
        have gu := g1.tup.2
        have o1 : DgT K (Zp Z q) H3 [some (.ref b), some (.ref a), some (.int m), some (.int w), some (.int way), some (.ref q), some (.int k), some one, none] 1 (m + 1) (m + 1) (tVar 7) := dt_var z rfl gu (by omega) (by omega) hone
        have o1' : DgT K (Zp Z q) H3 [some (.ref b), some (.ref a), some (.int m), some (.int w), some (.int way), some (.ref q), some (.int k), some one, none] 2 (m + 1) (m + 1) (tVar 7) := dt_var z rfl (fun d hd => (gu d hd).le (by decide)) (by omega) (by omega) hone
        have fin : ∀ (y8 : Option V) (G' : Hp) (d : PyData), Gd 3 d → LL K Z b c H (N0 + 1) G' q (es.set k.toNat d) → N [some (.ref b), some (.ref a), some (.int m), some (.int w), some (.int way), some (.ref q), some (.int k), some one, y8] G' := fun y8 G' d gd' L => hN _ _ ⟨y8, _, rfl, L, by rw [List.length_set]; exact l20, fun e he => by
          rcases mem_set he with rfl | he
          · exact gd'
          · exact (sq e he).1.le (by decide)⟩
        clear hN
        refine if_int rfl (fun _ => ?_) (fun _ => if_int rfl (fun _ => ?_) (fun _ => ?_))
        · refine of_dg (n := 2) (lo := 6) (hi := 6) (c := c) (N := N0 + 1) z (L1.bag.le (by omega)) rfl ?_ (by decide) (by decide) fun v d H4 g' hv B4 K4 => gsub_ll (L1.step B4 K4) rfl rfl k0 ke hv fun G' L' => fin _ G' d (g'.le (by decide)) L'
          exact dl_disp z (da_cons z ((dl_list z o1).e (by omega)) (da_cons z ((dt_sl z o1 pt_no pt_neg).e (by omega)) (da_cons z ((dt_cat z o1 (dt_disp z (da_cons z (dg_int (by decide)) da_nil) (by decide)) (by omega)).e (by omega)) (da_cons z ((dg_ixT z o1 (by decide) (by show 0 < m + 1; omega)).le (by decide)) (da_cons z dg_non (da_cons z ((dt_rev z o1).e (by omega)) da_nil)))))) (by decide)
        · refine seq_op fun N2 hN2 => ?_
          walk_at "rs"
          refine ⟨b, c, m, N0 + 3, rfl, L1.bag, by omega, by omega, fun j H4 j0 j1 B4 K4 => hN2 _ _ ?_⟩
          clear hN2 N2
          replace L1 := L1.step B4 K4
          replace z := L1.zok
          replace hone := dp_same (hb_mono (zx.mono K4) q) hone
          have o2 : ∀ G', Kp b H4 G' → ∀ M, LL K Z b c H M G' q es → DgT K (Zp Z q) G' [some (.ref b), some (.ref a), some (.int m), some (.int w), some (.int way), some (.ref q), some (.int k), some one, some (.int j)] 1 (m + 1) (m + 1) (tVar 7) := fun G' k' M L' => dt_var L'.zok rfl gu (by omega) (by omega) (dp_same (hb_mono (zx.mono k') q) hone)
          refine cat_draw (K := K) (n := 1) (M := N0 + 1) (hi := m + 1) (hi' := m + 1) L1 (dt_sl z (o2 _ (Same.refl _) _ L1) pt_no (pt_var rfl)) ?_ (by omega) (fun G' k' L' => dt_sl L'.zok (o2 _ k' _ L') (pt_suc rfl) pt_no) (by omega) fun v es' G' g' l' hv L' k' => gsub_ll L' rfl rfl k0 ke hv fun G2 L2 => fin _ G2 _ (gd_tup (by omega) fun d hd => (g' d hd).le (by decide)) L2
          intro G' R k' L' hR
          refine of_dg (n := 1) (lo := 9) (hi := 9) (c := c) (N := N0 + 1) L'.zok (L'.bag.le (by omega)) rfl ?_ (by decide) (by decide) fun v d H5 g' hv B5 K5 => hR v d H5 g' hv (L'.step B5 K5) K5
          have z' := L'.zok
          exact dl_disp z' (da_cons z' (dg_varI rfl (by omega)) (da_cons z' (dg_subI rfl (by omega)) (da_cons z' (dg_neg (by decide)) (da_cons z' dg_bl (da_cons z' (dg_str (by decide +kernel) (by decide +kernel)) (da_cons z' dg_non (da_cons z' (dg_tup z' (da_cons z' (dg_int (by decide)) da_nil) (by decide)) (da_cons z' (dg_int (by decide)) (da_cons z' (dg_int (by decide)) da_nil))))))))) (by decide)
        · refine cat_draw1 (K := K) (n := 2) (M := N0 + 1) (hi := m + 1) L1 (dt_sl z o1' pt_no pt_neg) ?_ (by omega) fun v es' G' g' l' hv L' k' => gsub_ll L' rfl rfl k0 ke hv fun G2 L2 => fin _ G2 _ (gd_tup (by omega) g') L2
          intro G' R k' L' hR
          exact ⟨.ref b, rfl, b, c, N0 + 1, rfl, L'.bag.le (by omega), fun v d H5 g' hv B5 K5 => hR v d H5 g' (dp_same (L'.zok.fr K5 B5) hv) (L'.step B5 K5) K5⟩
      · rintro σ G ⟨y8, es, rfl, L2, l20, gg⟩
        walk_at "rs"
        exact L2.either fun u e H' he hu B' K' => kq u e H' (gd_either he l20 gg) hu B' K'
end
end LK

set_option Elab.async false
set_option linter.all false
set_option maxRecDepth 100000
namespace LK
open PySem PySem.Spec PyProof.Rows L2
local macro_rules | `(tactic| walk_at "rs") => `(tactic| simp only [tFld, sFld, tMeth, tMethZ, tMakeK, tMakeS, tMethS, tEf, tProp, tFmt, rEqO, rNeO, cxK, cxNK, tCallZ, tAsg, tOp, rI0, rS0, rB0, rI, rU, tUn, rEq, rNe, rIxL, rIxT, rIxS, rSetL, rSlLU, rSlS, rSlU, rCatL, rCatU, rRepL, rIn, tVar, tC, gName, gSub, tIfS, tTest, tB, tAnd, tOr, tNot, tNotV, tAndV, tOrV, tIf, tCall, tCons, tNil, tCB, tDrop, tRet, tRetN, tNext, tLstU, tTupU, tM0, tM1, tPar, tPar3, tAug, ipI, tBM, tBM0, rAppend, rPop, tBreak, sDPut, tDGet, tDGet2, tCont, tChain, tSl, tPart, tNoPart, L2.start, List.map, List.length_cons, List.length_nil, List.replicate, List.cons_append, List.nil_append, List.append_nil, List.getElem?_cons_zero, List.getElem?_cons_succ, List.set_cons_zero, List.set_cons_succ, Option.some.injEq, V.int.injEq, V.ref.injEq, V.str.injEq, V.bl.injEq, exists_eq_left', exists_eq_left, exists_and_left, decide_eq_true_eq, List.cons.injEq, and_true, true_and, scal, Bool.not_eq_true', decide_eq_false_iff_not, Nat.zero_add, Nat.reduceAdd, Nat.reduceSub, reduceCtorEq, false_and, exists_false, false_or, or_false, CPow, CPowW, CMul, CDiv, Int.reduceToNat, ↓reduceIte, wipe, sw, List.nil_append, List.singleton_append])
local macro_rules | `(tactic| walk_at "st") => `(tactic| (refine seq_op fun N hN => ?_; walk_at "rs"))
local macro_rules | `(tactic| walk_at "sd") => `(tactic| first | assumption | decide | omega)
local macro_rules | `(tactic| walk_at "rd") => `(tactic| repeat (first
  | refine ⟨_, SqL.of (by assumption), ?_⟩ | refine ⟨_, SqL.of upd_same, ?_⟩ | refine ⟨_, .inl (SqL.of (by assumption)), ?_⟩ | refine ⟨_, (by assumption : _ = some (HO.lst _)), ?_⟩ | refine ⟨_, upd_same, ?_⟩
  | refine ⟨_, rfl, ?_⟩ | refine And.intro (by walk_at "sd") ?_))

local macro_rules | `(tactic| walk_at "dg") => `(tactic| repeat (any_goals (first
  | exact da_nil | apply da_cons (by assumption) | exact dg_non | exact dg_bl | exact dg_int (by decide) | exact dg_neg (by decide) | exact dg_str (by decide +kernel) (by decide +kernel) | exact dg_pow
  | exact pt_no | exact pt_c | exact pt_neg | exact pt_var rfl | exact pt_suc rfl
  | apply dt_disp (by assumption) | apply dl_disp (by assumption) | apply dt_cat (by assumption) | apply dl_cat (by assumption) | apply dt_sl (by assumption) | apply dl_sl (by assumption) | apply dt_rev (by assumption) | apply dl_list (by assumption) | apply dt_tuple (by assumption) | apply dg_ixT (by assumption) | apply dg_ixL (by assumption)
  | apply dg_tup (by assumption) | apply dg_lst (by assumption))))
section
variable {P : Program} {w : World} {K : PySem.W.Frag} {mg : Str → Option Value} {base : Heap}
theorem LL.all {K : PySem.W.Frag} {Z : Hp → Hp} {b c p : Addr} {X G : Hp} {N : Nat} {ds : List PyData} {xs : List V} (l : LL K Z b c X N G p ds) (h : G p = some (.lst xs)) : DpAll K (Z G) xs ds ∧ DpAll K (Zp Z p G) xs ds := by
  obtain ⟨xs', h1, h2⟩ := l.at_
  rw [h] at h1
  cases h1
  exact ⟨dpa_same (hb_le _ _) h2, h2⟩
theorem LL.z' {K : PySem.W.Frag} {Z : Hp → Hp} {b c p : Addr} {X G : Hp} {N : Nat} {ds : List PyData} (l : LL K Z b c X N G p ds) : ZOk Z b c G := l.z.upK l.kp l.bag
def sp_bR (K : PySem.W.Frag) : Sp := fun vs H Q _ => ∃ (b c : Addr) (N : Nat) (v : V) (ds : List PyData) (w : Int) (Z : Hp → Hp), vs = [.ref b, v, .int w] ∧ ZOk Z b c H ∧ Bag (N + 9) H b c ∧ 1 ≤ w ∧ w ≤ 2000 ∧ Dp K (Z H) v (.list ds) ∧ 0 < ds.length ∧ ds.length ≤ 12 ∧ (∀ e ∈ ds, ShI 1 e) ∧
  ∀ u e H', Gd 5 e → Dp K (Z H') u e → Bag N H' b c → Kp b H H' → Q u H'
theorem ok__law_bent_rows (T : Txt w K mg) : FnOk P w K mg base CX0 5 T.a__law_bent_rows T.d__law_bent_rows ["bag", "rows_y", "width"] (sp_bR K) := by
  refine T.F__law_bent_rows.ok sc__law_bent_rows (fun vs H Q E h => ?_) (fun cdv A outer s H vs Q E hr h => ?_)
  · obtain ⟨b, c, N, v, ds, w, Z, rfl, _⟩ := h
    rfl
  · obtain ⟨b, c, N0, v, ds, w, Z, rfl, zx, B, w1, w2, hd, l1, l12, sh, kq⟩ := h
    have hr__law_draw : Room 1 _ := hr.mono (by decide)
    have G__law_draw := ok__law_draw (P := P) (base := base) T
    have hr__law_odd : Room 3 _ := hr.mono (by decide)
    have G__law_odd := ok__law_odd (P := P) (base := base) T
    have hr__law_bent_items : Room 4 _ := hr
    have G__law_bent_items := ok__law_bent_items (P := P) (base := base) T
    have hr__law_either : Room 2 _ := hr.mono (by decide)
    have G__law_either := ok__law_either (P := P) (base := base) T
    refine ⟨_, (pss_cons (ps_par (i := 3) (j := 4) (by rfl) sc__law_bent_rows.nd rfl rfl (by decide) rfl rfl (pa_cons (pe_call G__law_draw hr__law_draw (by rfl) T.m__law_draw T.F__law_draw.kp T.B__law_draw .nil pass0 (pa_cons (pv 0) (pa_cons pe_int pa_nil))) (pa_cons (pe_callTy call_listU (by rfl) T.n_list (by decide +kernel) (pa_cons (pv 1) pa_nil)) pa_nil)) (by rfl))
      (pss_cons (ps_set (i := 5) sc__law_bent_rows.nd rfl (Or.inl rfl) (pe_call G__law_draw hr__law_draw (by rfl) T.m__law_draw T.F__law_draw.kp T.B__law_draw .nil pass0 (pa_cons (pv 0) (pa_cons (pe_callB call_len_seq (by rfl) T.n_len (by decide +kernel) (pa_cons (pv 4) pa_nil)) pa_nil))))
      (pss_cons (ps_if (pt_cmpR op_eqI (pv 3) pe_int (nomark _)) (pss_one (ps_ret (pe_call G__law_odd hr__law_odd (by rfl) T.m__law_odd T.F__law_odd.kp T.B__law_odd .nil pass0 (pa_cons (pv 0) pa_nil)))) pss_nil)
      (pss_cons (ps_if (pt_cmpR op_eqI (pv 3) pe_int (nomark _)) (pss_one (ps_ret (pe_op op_catL (pv 4) (pe_lstU (pa_cons (pe_lstU pa_nil) pa_nil))))) pss_nil)
      (pss_cons (ps_if (pt_cmpR op_eqI (pv 3) pe_int (nomark _)) (pss_one (ps_ret (pe_slice sl_listU (pv 4) (po_some pe_int) po_none))) pss_nil)
      (pss_cons (ps_asg (pe_call G__law_bent_items hr__law_bent_items (by rfl) T.m__law_bent_items T.F__law_bent_items.kp T.B__law_bent_items .nil pass0 (pa_cons (pv 0) (pa_cons (pe_ix ix_list (pv 4) (pv 5) (fun _ _ => rfl)) (pa_cons pe_int (pa_cons (pv 2) pa_nil))))) (pg_sub (pv 4) (pv 5) set_list))
      (pss_one (ps_ret (pe_call G__law_either hr__law_either (by rfl) T.m__law_either T.F__law_either.kp T.B__law_either .nil pass0 (pa_cons (pv 0) (pa_cons (pv 4) pa_nil))))))))))), ?_⟩
    refine seq_op fun N hN => ?_
    walk_at "rs"
    refine ⟨b, c, 6, N0 + 8, rfl, B.le (by omega), by decide, by decide, fun way H1 y0 y1 B1 K1 => ?_⟩
    cases hd with
    | @lst a xs _ ha hx =>
    refine ⟨a, rfl, xs, .inl (Same.seq (Same.trans (zx.mono K1) (zx.le' _)) ha), fun p H2 s2 p0 p1 => ⟨_, _, ⟨rfl, rfl⟩, hN _ _ ?_⟩⟩
    clear hN N
    have L0 := LL.mk0 zx B1 K1 s2 p0 p1 (dpa_same (zx.mono K1) hx)
    have lx := dpa_len hx
    clear hx ha
    have gsh : ∀ e ∈ ds, Gd 3 e := fun e he => (sh e he).1
    refine seq_op fun N hN => ?_
    walk_at "rs"
    refine ⟨_, .inl (SqL.of p1), b, c, _, N0 + 7, rfl, L0.bag, by omega, by omega, fun k H3 k0 k1 B3 K3 => hN _ _ ?_⟩
    clear hN N
    replace L0 := L0.step B3 K3
    replace p1 := K3.hd p1 L0.nb
    clear B3 K3 s2 p0 B1 K1 H1 H2
    refine seq_op fun N hN => ?_
    walk_at "rs"
    refine ite2 (fun z => ⟨b, c, N0 + 6, rfl, L0.bag, fun u e H' g hu B' K' => kq u e H' (g.le (by decide)) (dp_same (L0.z'.fr K' B') hu) (B'.le (by omega)) (Same.trans L0.kp K')⟩) (fun z => hN _ _ ?_)
    clear hN N
    have dv : DgL K Z H3 [some (.ref b), some (.ref a), some (.int w), some (.int way), some (.ref p), some (.int k)] 3 1 12 (tVar 4) := dl_var L0.z' rfl gsh (by omega) (by omega) (L0.raw p1) (L0.all p1).1
    refine seq_op fun N hN => ?_
    refine if_int rfl (fun _ => ?_) (fun _ => hN _ _ ?_)
    · have dl := (dl_cat (n := 3) L0.z' dv (dl_disp (n := 3) L0.z' (da_cons L0.z' (dg_lst (n := 2) L0.z' da_nil (by decide)) da_nil) (by decide)) (by decide)).e (by decide)
      exact dl H3 _ (Same.refl _) fun v d H' s' g hv => kq v d H' (g.le (by decide)) hv ((L0.bag.same s').le (by omega)) (Same.trans L0.kp (Kp.of s'))
    clear hN N
    refine seq_op fun N hN => ?_
    refine if_int rfl (fun _ => ?_) (fun _ => hN _ _ ?_)
    · have dl := (dl_sl L0.z' dv (pt_c (i := 1)) pt_no).e (by decide)
      exact dl H3 _ (Same.refl _) fun v d H' s' g hv => kq v d H' (g.le (by decide)) hv ((L0.bag.same s').le (by omega)) (Same.trans L0.kp (Kp.of s'))
    clear hN N
    refine seq_op fun N hN => ?_
    have hek : ds[k.toNat]? = some ds[k.toNat] := List.getElem?_eq_getElem (by omega)
    have hxk : xs[k.toNat]? = some xs[k.toNat] := List.getElem?_eq_getElem (by omega)
    have hone := dpa_at (L0.all p1).2 hxk hek
    have she := sh ds[k.toNat] (List.getElem_mem (by omega))
    generalize xs[k.toNat] = one at hone hxk
    refine ⟨_, rfl, _, rfl, _, rfl, p, xs, k, one, rfl, rfl, SqL.of p1, at_of (j := k.toNat) (by omega) hxk, _, rfl, b, c, N0 + 1, 1, one, _, w, Zp Z p, rfl, L0.zok, L0.bag.le (by omega), .inl rfl, w1, w2, hone, she, fun u e H4 g hu B4 K4 => gsub_ll (L0.step B4 K4) rfl rfl k0 (by omega) hu fun G' L' => hN _ _ ?_⟩
    clear hN N
    walk_at "rs"
    refine L'.either fun u e2 H' he hu B' K' => kq u e2 H' (gd_either he (by rw [List.length_set]; omega) fun d hd => ?_) hu B' K'
    rcases mem_set hd with rfl | hd
    · exact g
    · exact (gsh d hd).le (by decide)
end
end LK

set_option Elab.async false
set_option linter.all false
set_option maxRecDepth 100000
namespace LK
open PySem PySem.Spec PyProof.Rows L2
local macro_rules | `(tactic| walk_at "rs") => `(tactic| simp only [tFld, sFld, tMeth, tMethZ, tMakeK, tMakeS, tMethS, tEf, tProp, tFmt, rEqO, rNeO, cxK, cxNK, tCallZ, tAsg, tOp, rI0, rS0, rB0, rI, rU, tUn, rEq, rNe, rIxL, rIxT, rIxS, rSetL, rSlLU, rSlS, rSlU, rCatL, rCatU, rRepL, rIn, tVar, tC, gName, gSub, tIfS, tTest, tB, tAnd, tOr, tNot, tNotV, tAndV, tOrV, tIf, tCall, tCons, tNil, tCB, tDrop, tRet, tRetN, tNext, tLstU, tTupU, tM0, tM1, tPar, tPar3, tAug, ipI, tBM, tBM0, rAppend, rPop, tBreak, sDPut, tDGet, tDGet2, tCont, tChain, tSl, tPart, tNoPart, L2.start, List.map, List.length_cons, List.length_nil, List.replicate, List.cons_append, List.nil_append, List.append_nil, List.getElem?_cons_zero, List.getElem?_cons_succ, List.set_cons_zero, List.set_cons_succ, Option.some.injEq, V.int.injEq, V.ref.injEq, V.str.injEq, V.bl.injEq, exists_eq_left', exists_eq_left, exists_and_left, decide_eq_true_eq, List.cons.injEq, and_true, true_and, scal, Bool.not_eq_true', decide_eq_false_iff_not, Nat.zero_add, Nat.reduceAdd, Nat.reduceSub, reduceCtorEq, false_and, exists_false, false_or, or_false, CPow, CPowW, CMul, CDiv, Int.reduceToNat, ↓reduceIte, wipe, sw, List.nil_append, List.singleton_append])
local macro_rules | `(tactic| walk_at "st") => `(tactic| (refine seq_op fun N hN => ?_; walk_at "rs"))
local macro_rules | `(tactic| walk_at "sd") => `(tactic| first | assumption | decide | omega)
local macro_rules | `(tactic| walk_at "rd") => `(tactic| repeat (first
  | refine ⟨_, SqL.of (by assumption), ?_⟩ | refine ⟨_, SqL.of upd_same, ?_⟩ | refine ⟨_, .inl (SqL.of (by assumption)), ?_⟩ | refine ⟨_, (by assumption : _ = some (HO.lst _)), ?_⟩ | refine ⟨_, upd_same, ?_⟩
  | refine ⟨_, rfl, ?_⟩ | refine And.intro (by walk_at "sd") ?_))

/-! ### terms that make good data and draw -/
section
variable (K : PySem.W.Frag) (Z : Hp → Hp) (b c : Addr) (X : Hp) (σ : L2.St)
def DrE (n N M : Nat) (te : TE) : Prop := ∀ H (Q : VK), Kp b X H → Bag N H b c → (∀ v d H', Kp b H H' → Bag M H' b c → Gd n d → Dp K (Z H') v d → Q v H') → te σ H Q
def DrA (n N M k : Nat) (ta : TA) : Prop := ∀ H (Q : List V → Hp → Prop), Kp b X H → Bag N H b c → (∀ vs ds H', Kp b H H' → Bag M H' b c → (∀ d ∈ ds, Gd n d) → ds.length = k → DpAll K (Z H') vs ds → Q vs H') → ta σ H Q
end
section
variable {K : PySem.W.Frag} {Z : Hp → Hp} {b c : Addr} {X : Hp} {σ : L2.St} {n m N M L k : Nat} {te : TE} {ta : TA}
theorem dr_e (z : ZOk Z b c X) (h : ∀ X', Kp b X X' → ZOk Z b c X' → DgE K Z X' σ n te) : DrE K Z b c X σ n N N te := fun H Q k B q => h H k (z.upK k B) H Q (Same.refl _) fun v d H' s g hd => q v d H' (Kp.of s) (B.same s) g hd
theorem DrE.le (h : DrE K Z b c X σ n N M te) (hm : n ≤ m) : DrE K Z b c X σ m N M te := fun H Q k B q => h H Q k B fun v d H' k' B' g hd => q v d H' k' B' (g.le hm) hd
theorem dra_nil : DrA K Z b c X σ n N N 0 tNil := fun H Q k B q => q [] [] H (Same.refl _) B (fun d hd => absurd hd (by simp)) rfl .nil
theorem dra_cons (z : ZOk Z b c X) (h : DrE K Z b c X σ n N M te) (g : DrA K Z b c X σ n M L k ta) : DrA K Z b c X σ n N L (k + 1) (tCons te ta) := fun H Q k B q => h H _ k B fun v d H1 k1 B1 g1 d1 => g H1 _ (Same.trans k k1) B1 fun vs ds H2 k2 B2 g2 l2 d2 => q (v :: vs) (d :: ds) H2 (Same.trans k1 k2) B2 (fun e he => by
  rcases List.mem_cons.mp he with rfl | he
  · exact g1
  · exact g2 e he) (by simp [l2]) (.cons (dp_same (z.mono k2) d1) d2)
theorem dr_tup (z : ZOk Z b c X) (h : DrA K Z b c X σ n N M k ta) (hk : k ≤ 20) : DrE K Z b c X σ (n + 1) N M (tTupU ta) := fun H Q kk B q => h H _ kk B fun vs ds H1 k1 B1 g l d => ⟨sz20 (by rw [dpa_len d]; omega), fun p H2 s2 p0 p1 => q _ _ H2 (Same.trans k1 (Kp.of s2)) (B1.same s2) (gd_tup (by omega) g) (.tup (SqT.of ((z.upK (Same.trans kk k1) B1).new (Same.refl _) p0 p1)) (dpa_same (z.same s2) d))⟩
theorem dr_lst (z : ZOk Z b c X) (h : DrA K Z b c X σ n N M k ta) (hk : k ≤ 20) : DrE K Z b c X σ (n + 1) N M (tLstU ta) := fun H Q kk B q => h H _ kk B fun vs ds H1 k1 B1 g l d => ⟨sz20 (by rw [dpa_len d]; omega), fun p H2 s2 p0 p1 => q _ _ H2 (Same.trans k1 (Kp.of s2)) (B1.same s2) (gd_lst (by omega) g) (.lst (SqL.of ((z.upK (Same.trans kk k1) B1).new (Same.refl _) p0 p1)) (dpa_same (z.same s2) d))⟩
theorem dr_odd (z : ZOk Z b c X) (h0 : σ[0]? = some (some (.ref b))) : DrE K Z b c X σ 2 (N + 1) N (tCall (sp_odd K 2) [] E0 (tCons (tVar 0) tNil)) := fun H Q kk B q => ⟨.ref b, h0, b, c, N, rfl, B, fun v d H' g hd B' k' => q v d H' k' B' g (dp_same ((z.upK kk B).fr k' B') hd)⟩
/-- one of the things of a list that is made with draws -/
theorem of_dr {Q : VK} (z : ZOk Z b c X) (B : Bag N X b c) (h0 : σ[0]? = some (some (.ref b))) (h : DrA K Z b c X σ n N (M + 1) k ta) (k1 : 1 ≤ k) (k2 : k ≤ 100) (q : ∀ v d H', Gd n d → Dp K (Z H') v d → Bag M H' b c → Kp b X H' → Q v H') : tCall (sp__law_of K) [] E0 (tCons (tVar 0) (tCons (tLstU ta) tNil)) σ X Q := by
  refine ⟨_, h0, h X _ (Same.refl _) B fun vs ds H1 kk B1 g l d => ⟨sz20 (by rw [dpa_len d]; omega), fun p H2 s2 p0 p1 => ?_⟩⟩
  have e1 := dpa_len d
  have z1 := (z.upK kk B1).new (Same.refl _) p0 p1
  refine ⟨b, c, .ref p, vs, M, rfl, B1.same s2, .inl ⟨p, rfl, SqL.of p1⟩, .inl ⟨p, rfl, SqL.of (z.le _ _ _ z1)⟩, fun z => (by rw [z] at e1; simp at e1; omega), by omega, fun y H3 hy B3 K3 => ?_⟩
  obtain ⟨d', hd', hy'⟩ := dpa_in d hy
  exact q y d' H3 (g d' hd') (dp_same (Same.trans (z.same s2) (z.mono K3)) hy') B3 (Same.trans kk (Same.trans (Kp.of s2) K3))
/-- l[i] = v, the place by any term -/
theorem gsub_llE {p : Addr} {G : Hp} {ds : List PyData} {i : Nat} {ti : TE} {k : Int} {v : V} {d : PyData} {Q : L2.St → Hp → Prop} (l : LL K Z b c X N G p ds) (h1 : σ[i]? = some (some (.ref p))) (h2 : ∀ R : VK, R (.int k) G → ti σ G R) (k0 : 0 ≤ k) (k1 : k.toNat < ds.length) (hv : Dp K (Zp Z p G) v d)
    (q : ∀ G', LL K Z b c X N G' p (ds.set k.toNat d) → Q σ G') : gSub (tVar i) ti rSetL v σ G Q := by
  obtain ⟨xs, q0, q1⟩ := l.at_
  have := dpa_len q1
  exact ⟨_, h1, h2 _ ⟨p, xs, k, k.toNat, rfl, rfl, q0, ixN_ok k0 (by omega), q _ (l.set q0 q1 hv)⟩⟩
end
end LK

set_option Elab.async false
set_option linter.all false
set_option maxRecDepth 100000
namespace LK
open PySem PySem.Spec PyProof.Rows L2
local macro_rules | `(tactic| walk_at "rs") => `(tactic| simp only [tFld, sFld, tMeth, tMethZ, tMakeK, tMakeS, tMethS, tEf, tProp, tFmt, rEqO, rNeO, cxK, cxNK, tCallZ, tAsg, tOp, rI0, rS0, rB0, rI, rU, tUn, rEq, rNe, rIxL, rIxT, rIxS, rSetL, rSlLU, rSlS, rSlU, rCatL, rCatU, rRepL, rIn, tVar, tC, gName, gSub, tIfS, tTest, tB, tAnd, tOr, tNot, tNotV, tAndV, tOrV, tIf, tCall, tCons, tNil, tCB, tDrop, tRet, tRetN, tNext, tLstU, tTupU, tM0, tM1, tPar, tPar3, tAug, ipI, tBM, tBM0, rAppend, rPop, tBreak, sDPut, tDGet, tDGet2, tCont, tChain, tSl, tPart, tNoPart, L2.start, List.map, List.length_cons, List.length_nil, List.replicate, List.cons_append, List.nil_append, List.append_nil, List.getElem?_cons_zero, List.getElem?_cons_succ, List.set_cons_zero, List.set_cons_succ, Option.some.injEq, V.int.injEq, V.ref.injEq, V.str.injEq, V.bl.injEq, exists_eq_left', exists_eq_left, exists_and_left, decide_eq_true_eq, List.cons.injEq, and_true, true_and, scal, Bool.not_eq_true', decide_eq_false_iff_not, Nat.zero_add, Nat.reduceAdd, Nat.reduceSub, reduceCtorEq, false_and, exists_false, false_or, or_false, CPow, CPowW, CMul, CDiv, Int.reduceToNat, ↓reduceIte, wipe, sw, List.nil_append, List.singleton_append])
local macro_rules | `(tactic| walk_at "st") => `(tactic| (refine seq_op fun N hN => ?_; walk_at "rs"))
local macro_rules | `(tactic| walk_at "sd") => `(tactic| first | assumption | decide | omega)
local macro_rules | `(tactic| walk_at "rd") => `(tactic| repeat (first
  | refine ⟨_, SqL.of (by assumption), ?_⟩ | refine ⟨_, SqL.of upd_same, ?_⟩ | refine ⟨_, .inl (SqL.of (by assumption)), ?_⟩ | refine ⟨_, (by assumption : _ = some (HO.lst _)), ?_⟩ | refine ⟨_, upd_same, ?_⟩
  | refine ⟨_, rfl, ?_⟩ | refine And.intro (by walk_at "sd") ?_))

section
variable {P : Program} {w : World} {K : PySem.W.Frag} {mg : Str → Option Value} {base : Heap}
/-- a head or a unit, its items lists -/
def ShP (k : Bool) (d : PyData) : Prop := if k = true then ∃ x y, d = .tuple [x, y] ∧ ShI 2 x ∧ ShI 2 y else ∃ x f y, d = .tuple [x, f, y] ∧ ShI 1 x ∧ ShI 1 y
/-- a stage, its parts and items lists -/
def ShS (d : PyData) : Prop := Gd 6 d ∧ ∃ k ps, d = .tuple [.str (kS k), .list ps] ∧ ∀ p ∈ ps, ShP k p
theorem kS_gd {n : Nat} (k : Bool) : Gd n (.str (kS k)) := by
  cases k
  · exact gd_str (by decide +kernel) (by decide +kernel)
  · exact gd_str (by decide +kernel) (by decide +kernel)
theorem stage_ret {Z : Hp → Hp} {b c a q : Addr} {X G : Hp} {N : Nat} {es : List PyData} {s : Str} {y : V} {σ : L2.St} {D : Ends} (L : LL K Z b c X (N + 1) G q es) (h0 : σ[0]? = some (some (.ref b))) (h1 : σ[1]? = some (some (.ref a))) (h5 : σ[5]? = some (some (.ref q))) (hS : SqT K (Z G) a [.str s, y]) (gs : Gd 6 (.str s)) (hl : es.length ≤ 20) (g : ∀ e ∈ es, Gd 5 e)
    (kq : ∀ u e H', Gd 7 e → Dp K (Z H') u e → Bag N H' b c → Kp b X H' → D.rt u H') : tRet (tTupU (tCons (tOp (rIxT K) (tVar 1) (tC (.int 0))) (tCons (tCall (sp_either K) [] E0 (tCons (tVar 0) (tCons (tVar 5) tNil))) tNil))) D σ G := by
  refine ⟨_, h1, a, _, 0, .str s, rfl, rfl, Same.seqT (L.z.le' _) hS, rfl, _, h0, _, h5, ?_⟩
  simp only [tNil, List.cons_append, List.nil_append]
  refine L.either fun u e H' he hu B' K' => ⟨(by show 2 ≤ sizeLine; decide), fun r H2 s2 r0 r1 => kq _ (.tuple [.str s, e]) H2 ?_ ?_ (B'.same s2) (Same.trans K' (Kp.of s2))⟩
  · refine gd_tup (by show 2 ≤ 20; decide) fun d hd => ?_
    rcases List.mem_cons.mp hd with rfl | hd
    · exact gs
    · rcases List.mem_singleton.mp hd with rfl
      exact gd_either he hl g
  · exact .tup (SqT.of ((L.z.upK K' B').new (Same.refl _) r0 r1)) (.cons (.str _) (.cons (dp_same (L.z.same s2) hu) .nil))
def sp_bS (K : PySem.W.Frag) : Sp := fun vs H Q _ => ∃ (b c : Addr) (N : Nat) (v : V) (d : PyData) (w : Int) (Z : Hp → Hp), vs = [.ref b, v, .int w] ∧ ZOk Z b c H ∧ Bag (N + 12) H b c ∧ 1 ≤ w ∧ w ≤ 2000 ∧ Dp K (Z H) v d ∧ ShS d ∧
  ∀ u e H', Gd 7 e → Dp K (Z H') u e → Bag N H' b c → Kp b H H' → Q u H'
theorem ok__law_bent_stage (T : Txt w K mg) : FnOk P w K mg base CX0 5 T.a__law_bent_stage T.d__law_bent_stage ["bag", "stage", "width"] (sp_bS K) := by
  refine T.F__law_bent_stage.ok sc__law_bent_stage (fun vs H Q E h => ?_) (fun cdv A outer s H vs Q E hr h => ?_)
  · obtain ⟨b, c, N, v, d, w, Z, rfl, _⟩ := h
    rfl
  · obtain ⟨b, c, N0, v, d, w, Z, rfl, zx, B, w1, w2, hd, ⟨gd, kb, ps, rfl, sh⟩, kq⟩ := h
    have hr__law_draw : Room 1 _ := hr.mono (by decide)
    have G__law_draw := ok__law_draw (P := P) (base := base) T
    have hr__law_of : Room 2 _ := hr.mono (by decide)
    have G__law_of := ok__law_of (P := P) (base := base) T
    have hr__law_odd : Room 3 _ := hr.mono (by decide)
    have G__law_odd := ok__law_odd (P := P) (base := base) T
    have hr__law_odd_fraction : Room 3 _ := hr.mono (by decide)
    have G__law_odd_fraction := ok__law_odd_fraction (P := P) (base := base) T
    have hr__law_bent_items : Room 4 _ := hr
    have G__law_bent_items := ok__law_bent_items (P := P) (base := base) T
    have hr__law_either : Room 2 _ := hr.mono (by decide)
    have G__law_either := ok__law_either (P := P) (base := base) T
    refine ⟨_, (pss_cons (ps_set (i := 3) sc__law_bent_stage.nd rfl (Or.inl rfl) (pe_call G__law_draw hr__law_draw (by rfl) T.m__law_draw T.F__law_draw.kp T.B__law_draw .nil pass0 (pa_cons (pv 0) (pa_cons pe_int pa_nil))))
      (pss_cons (ps_if (pt_cmpR op_eqI (pv 3) pe_int (nomark _)) (pss_one (ps_ret (pe_call G__law_odd hr__law_odd (by rfl) T.m__law_odd T.F__law_odd.kp T.B__law_odd .nil pass0 (pa_cons (pv 0) pa_nil)))) pss_nil)
      (pss_cons (ps_if (pt_cmpR op_eqI (pv 3) pe_int (nomark _)) (pss_cons (ps_set (i := 4) sc__law_bent_stage.nd rfl (Or.inl rfl) (pe_call G__law_of hr__law_of (by rfl) T.m__law_of T.F__law_of.kp T.B__law_of .nil pass0 (pa_cons (pv 0) (pa_cons (pe_lstU (pa_cons pe_str (pa_cons pe_str (pa_cons pe_str (pa_cons pe_str (pa_cons pe_str (pa_cons pe_non (pa_cons pe_int (pa_cons (pe_lstU (pa_cons pe_str pa_nil)) (pa_cons (pe_tupU pa_nil) pa_nil)))))))))) pa_nil))))
      (pss_one (ps_ret (pe_tupU (pa_cons (pv 4) (pa_cons (pe_ix ix_tup (pv 1) pe_int (fun _ _ => rfl)) pa_nil)))))) pss_nil)
      (pss_cons (ps_if (pt_cmpR op_eqI (pv 3) pe_int (nomark _)) (pss_one (ps_ret (pe_call G__law_of hr__law_of (by rfl) T.m__law_of T.F__law_of.kp T.B__law_of .nil pass0 (pa_cons (pv 0) (pa_cons (pe_lstU (pa_cons (pe_tupU (pa_cons (pe_ix ix_tup (pv 1) pe_int (fun _ _ => rfl)) pa_nil)) (pa_cons (pe_op op_catU (pv 1) (pe_tupU (pa_cons (pe_tupU pa_nil) pa_nil))) (pa_cons (pe_callTy call_listU (by rfl) T.n_list (by decide +kernel) (pa_cons (pv 1) pa_nil)) (pa_cons (pe_tupU (pa_cons (pe_ix ix_tup (pv 1) pe_int (fun _ _ => rfl)) (pa_cons (pe_ix ix_tup (pv 1) pe_int (fun _ _ => rfl)) pa_nil))) (pa_cons (pe_tupU (pa_cons (pe_ix ix_tup (pv 1) pe_int (fun _ _ => rfl)) (pa_cons (pe_call G__law_odd hr__law_odd (by rfl) T.m__law_odd T.F__law_odd.kp T.B__law_odd .nil pass0 (pa_cons (pv 0) pa_nil)) pa_nil))) pa_nil)))))) pa_nil))))) pss_nil)
      (pss_cons (ps_if (pt_not (pt_truth (pe_ix ix_tup (pv 1) pe_int (fun _ _ => rfl)) (by intro _; rfl))) (pss_one (ps_ret (pe_tupU (pa_cons (pe_ix ix_tup (pv 1) pe_int (fun _ _ => rfl)) (pa_cons (pe_lstU (pa_cons (pe_call G__law_odd hr__law_odd (by rfl) T.m__law_odd T.F__law_odd.kp T.B__law_odd .nil pass0 (pa_cons (pv 0) pa_nil)) pa_nil)) pa_nil))))) pss_nil)
      (pss_cons (ps_set (i := 5) sc__law_bent_stage.nd rfl (Or.inl rfl) (pe_callTy call_listU (by rfl) T.n_list (by decide +kernel) (pa_cons (pe_ix ix_tup (pv 1) pe_int (fun _ _ => rfl)) pa_nil)))
      (pss_cons (ps_set (i := 6) sc__law_bent_stage.nd rfl (Or.inl rfl) (pe_call G__law_draw hr__law_draw (by rfl) T.m__law_draw T.F__law_draw.kp T.B__law_draw .nil pass0 (pa_cons (pv 0) (pa_cons (pe_callB call_len_seq (by rfl) T.n_len (by decide +kernel) (pa_cons (pv 5) pa_nil)) pa_nil))))
      (pss_cons (ps_set (i := 7) sc__law_bent_stage.nd rfl (Or.inl rfl) (pe_callTy call_listU (by rfl) T.n_list (by decide +kernel) (pa_cons (pe_ix ix_list (pv 5) (pv 6) (fun _ _ => rfl)) pa_nil)))
      (pss_cons (ps_set (i := 8) sc__law_bent_stage.nd rfl (Or.inl rfl) (pe_callB call_len_seq (by rfl) T.n_len (by decide +kernel) (pa_cons (pv 7) pa_nil)))
      (pss_cons (ps_if (pt_cmpR op_eqI (pv 3) pe_int (nomark _)) (pss_cons (ps_asg (pe_call G__law_of hr__law_of (by rfl) T.m__law_of T.F__law_of.kp T.B__law_of .nil pass0 (pa_cons (pv 0) (pa_cons (pe_lstU (pa_cons (pv 7) (pa_cons (pe_callTy call_tupleN (by rfl) T.n_tuple (by decide +kernel) (pa_cons (pe_slice sl_listU (pv 7) (po_some pe_int) po_none) pa_nil)) (pa_cons (pe_op op_catU (pe_callTy call_tupleN (by rfl) T.n_tuple (by decide +kernel) (pa_cons (pv 7) pa_nil)) (pe_tupU (pa_cons (pe_tupU pa_nil) pa_nil))) (pa_cons pe_non (pa_cons (pe_tupU pa_nil) (pa_cons (pe_ix ix_list (pv 7) pe_int (fun _ _ => rfl)) pa_nil))))))) pa_nil))) (pg_sub (pv 5) (pv 6) set_list))
      (pss_one (ps_ret (pe_tupU (pa_cons (pe_ix ix_tup (pv 1) pe_int (fun _ _ => rfl)) (pa_cons (pe_call G__law_either hr__law_either (by rfl) T.m__law_either T.F__law_either.kp T.B__law_either .nil pass0 (pa_cons (pv 0) (pa_cons (pv 5) pa_nil))) pa_nil)))))) pss_nil)
      (pss_cons (ps_set (i := 9) sc__law_bent_stage.nd rfl (Or.inl rfl) (pe_op op_mul (pe_call G__law_draw hr__law_draw (by rfl) T.m__law_draw T.F__law_draw.kp T.B__law_draw .nil pass0 (pa_cons (pv 0) (pa_cons pe_int pa_nil))) (pe_op op_sub (pv 8) pe_int)))
      (pss_cons (ps_if (PW.pt (pw_and (pt_cmpR op_eqI (pv 3) pe_int (nomark _)) (pw_and1 (pt_cmpR op_eqI (pv 8) pe_int (nomark _))))) (pss_one (ps_asg (pe_call G__law_odd_fraction hr__law_odd_fraction (by rfl) T.m__law_odd_fraction T.F__law_odd_fraction.kp T.B__law_odd_fraction .nil pass0 (pa_cons (pv 0) pa_nil)) (pg_sub (pv 7) pe_int set_list))) (pss_one (ps_asg (pe_call G__law_bent_items hr__law_bent_items (by rfl) T.m__law_bent_items T.F__law_bent_items.kp T.B__law_bent_items .nil pass0 (pa_cons (pv 0) (pa_cons (pe_ix ix_list (pv 7) (pv 9) (fun _ _ => rfl)) (pa_cons (pe_op op_sub pe_int (pv 8)) (pa_cons (pv 2) pa_nil))))) (pg_sub (pv 7) (pv 9) set_list))))
      (pss_cons (ps_asg (pe_callTy call_tupleN (by rfl) T.n_tuple (by decide +kernel) (pa_cons (pv 7) pa_nil)) (pg_sub (pv 5) (pv 6) set_list))
      (pss_one (ps_ret (pe_tupU (pa_cons (pe_ix ix_tup (pv 1) pe_int (fun _ _ => rfl)) (pa_cons (pe_call G__law_either hr__law_either (by rfl) T.m__law_either T.F__law_either.kp T.B__law_either .nil pass0 (pa_cons (pv 0) (pa_cons (pv 5) pa_nil))) pa_nil)))))))))))))))))), ?_⟩
    obtain ⟨gt1, gt2⟩ := gd.tup
    have gps := (gt2 (.list ps) (by simp)).lst
    have gs : ∀ {n : Nat}, Gd n (.str (kS kb)) := kS_gd kb
    have hd0 := hd
    cases hd with
    | @tup a ws _ ha hx =>
    cases hx with
    | cons hx1 hx =>
    cases hx with
    | cons hx2 hx =>
    cases hx
    cases hx1
    cases hx2 with
    | @lst ap xs _ hap hxs =>
    have lx := dpa_len hxs
    have dS : ∀ {X' : Hp} {σ' : L2.St}, Kp b H X' → ZOk Z b c X' → σ'[1]? = some (some (.ref a)) → DgT K Z X' σ' 5 2 2 (tVar 1) := fun k z h => dt_var z h gt2 (Nat.le_refl 2) (Nat.le_refl 2) (dp_same (zx.mono k) hd0)
    refine seq_op fun N hN => ?_
    walk_at "rs"
    refine ⟨b, c, 8, N0 + 11, rfl, B.le (by omega), by decide, by decide, fun way H1 y0 y1 B1 K1 => hN _ _ ?_⟩
    clear hN N
    have z1 := zx.upK K1 B1
    refine seq_op fun N hN => ?_
    refine if_int rfl (fun _ => ?_) (fun _ => hN _ _ ?_)
    · exact ⟨_, rfl, b, c, N0 + 10, rfl, B1, fun u e H' g hu B' K' => kq u e H' (g.le (by decide)) (dp_same (z1.fr K' B') hu) (B'.le (by omega)) (Same.trans K1 K')⟩
    clear hN N
    refine seq_op fun N hN => ?_
    refine if_int rfl (fun _ => ?_) (fun _ => hN _ _ ?_)
    · refine seq_op fun N2 hN2 => ?_
      refine of_dg (n := 1) (lo := 9) (hi := 9) (c := c) (N := N0 + 10) z1 B1 rfl ?_ (by decide) (by decide) fun v d H2 g hv B2 K2 => hN2 _ _ ?_
      · exact dl_disp z1 (da_cons z1 (dg_str (by decide +kernel) (by decide +kernel)) (da_cons z1 (dg_str (by decide +kernel) (by decide +kernel)) (da_cons z1 (dg_str (by decide +kernel) (by decide +kernel)) (da_cons z1 (dg_str (by decide +kernel) (by decide +kernel)) (da_cons z1 (dg_str (by decide +kernel) (by decide +kernel)) (da_cons z1 dg_non (da_cons z1 (dg_int (by decide)) (da_cons z1 (dg_lst z1 (da_cons z1 (dg_str (by decide +kernel) (by decide +kernel)) da_nil) (by decide)) (da_cons z1 (dg_tup z1 da_nil (by decide)) da_nil))))))))) (by decide)
      · have z2 := z1.upK K2 B2
        have K12 := Same.trans K1 K2
        exact dg_tup (n := 5) z2 (da_cons z2 (dg_var z2 rfl (g.le (by decide)) hv) (da_cons z2 (dg_ixT (i := 1) z2 (dS K12 z2 rfl) (by decide) (by decide)) da_nil)) (by decide) H2 _ (Same.refl _) fun u e H' s' g hu => kq u e H' (g.le (by decide)) hu ((B2.same s').le (by omega)) (Same.trans K12 (Kp.of s'))
    clear hN N
    refine seq_op fun N hN => ?_
    refine if_int rfl (fun _ => ?_) (fun _ => hN _ _ ?_)
    · refine of_dr (n := 6) (k := 5) (c := c) (N := N0 + 11) (M := N0 + 9) z1 B1 rfl ?_ (by decide) (by decide) fun u e H' g hu B' K' => kq u e H' (g.le (by decide)) hu (B'.le (by omega)) (Same.trans K1 K')
      refine dra_cons (M := N0 + 11) z1 (dr_e z1 fun X' k z => dg_tup z (da_cons z (dg_ixT z (dS (Same.trans K1 k) z rfl) (by decide) (by decide)) da_nil) (by decide)) ?_
      refine dra_cons (M := N0 + 11) z1 (dr_e z1 fun X' k z => (dt_cat z (dS (Same.trans K1 k) z rfl) (dt_disp z (da_cons z (dg_tup z da_nil (by decide)) da_nil) (by decide)) (by decide)).e (by decide)) ?_
      refine dra_cons (M := N0 + 11) z1 (dr_e z1 fun X' k z => (dl_list z (dS (Same.trans K1 k) z rfl)).e (by decide)) ?_
      refine dra_cons (M := N0 + 11) z1 (dr_e z1 fun X' k z => dg_tup z (da_cons z (dg_ixT z (dS (Same.trans K1 k) z rfl) (by decide) (by decide)) (da_cons z (dg_ixT z (dS (Same.trans K1 k) z rfl) (by decide) (by decide)) da_nil)) (by decide)) ?_
      exact dra_cons z1 (dr_tup z1 (dra_cons (M := N0 + 11) z1 (dr_e z1 fun X' k z => dg_ixT z (dS (Same.trans K1 k) z rfl) (by decide) (by decide)) (dra_cons z1 ((dr_odd z1 rfl).le (by decide)) dra_nil)) (by decide)) dra_nil
    clear hN N
    have hS1 : SqT K (Z H1) a [.str (kS kb), .ref ap] := Same.seqT (zx.mono K1) ha
    have hap1 : SqL K (Z H1) ap xs := Same.seq (zx.mono K1) hap
    have hxs1 := dpa_same (zx.mono K1) hxs
    refine seq_op fun N hN => ?_
    refine ⟨_, rfl, a, _, 1, .ref ap, rfl, rfl, Same.seqT (z1.le' _) hS1, rfl, !xs.isEmpty, .inl ⟨xs, Same.seq (z1.le' _) hap1, rfl⟩, ite2 (fun z => ?_) (fun z => hN _ _ ?_)⟩
    · exact dr_tup (n := 5) (N := N0 + 11) (M := N0 + 10) z1 (dra_cons (M := N0 + 11) z1 (dr_e z1 fun X' k z => dg_ixT z (dS (Same.trans K1 k) z rfl) (by decide) (by decide)) (dra_cons z1 ((dr_lst z1 (dra_cons z1 (dr_odd z1 rfl) dra_nil) (by decide)).le (by decide)) dra_nil)) (by decide) H1 _ (Same.refl _) B1 fun u e H' k' B' g hu => kq u e H' (g.le (by decide)) hu (B'.le (by omega)) (Same.trans K1 k')
    clear hN N
    have lpos : 0 < xs.length := by
      cases xs with
      | nil => exact absurd rfl z
      | cons => exact Nat.succ_pos _
    clear z
    refine seq_op fun N hN => ?_
    refine ⟨_, rfl, a, _, 1, .ref ap, rfl, rfl, Same.seqT (z1.le' _) hS1, rfl, ap, xs, rfl, .inl (Same.seq (z1.le' _) hap1), fun p H2 s2 p0 p1 => hN _ _ ?_⟩
    clear hN N
    have L0 := LL.mk0 zx B1 K1 s2 p0 p1 hxs1
    clear p0 s2
    refine seq_op fun N hN => ?_
    walk_at "rs"
    refine ⟨_, .inl (SqL.of p1), b, c, _, N0 + 10, rfl, L0.bag, by omega, by have := gps.1; omega, fun k H3 k0 k1 B3 K3 => hN _ _ ?_⟩
    clear hN N
    replace L0 := L0.step B3 K3
    replace p1 := K3.hd p1 L0.nb
    clear B3 K3 hS1 hap1 hxs1
    have hek : ps[k.toNat]? = some ps[k.toNat] := List.getElem?_eq_getElem (by omega)
    have hxk : xs[k.toNat]? = some xs[k.toNat] := List.getElem?_eq_getElem (by omega)
    have hone := dpa_at (L0.all p1).2 hxk hek
    have she := sh ps[k.toNat] (List.getElem_mem (by omega))
    have gde := gps.2 ps[k.toNat] (List.getElem_mem (by omega))
    generalize xs[k.toNat] = one at hone hxk
    obtain ⟨us, eus, lus⟩ : ∃ us, ps[k.toNat] = .tuple us ∧ ((kb = true ∧ us.length = 2 ∧ (∀ i u, us[i]? = some u → (i = 0 ∨ i = 1) → ShI 2 u)) ∨ (kb = false ∧ us.length = 3 ∧ (∀ i u, us[i]? = some u → (i = 0 ∨ i = 2) → ShI 1 u))) := by
      unfold ShP at she
      split at she
      · obtain ⟨x, y, e, h1, h2⟩ := she
        refine ⟨_, e, .inl ⟨by assumption, rfl, fun i u hi h => ?_⟩⟩
        rcases h with rfl | rfl <;> (simp at hi; subst hi; assumption)
      · obtain ⟨x, f, y, e, h1, h2⟩ := she
        refine ⟨_, e, .inr ⟨by simp_all, rfl, fun i u hi h => ?_⟩⟩
        rcases h with rfl | rfl <;> (simp at hi; subst hi; assumption)
    rw [eus] at hone gde
    have gus := gde.tup
    cases hone with
    | @tup ao os _ hao hos =>
    refine seq_op fun N hN => ?_
    walk_at "rs"
    refine ⟨_, SqL.of p1, _, at_of (j := k.toNat) (by omega) hxk, ao, rfl, os, .inr (Same.seqT (L0.zok.le' _) hao), fun q H4 s4 q0 q1 => hN _ _ ?_⟩
    clear hN N
    have L1 := LL.mk0 L0.zok L0.bag (Same.refl _) s4 q0 q1 hos
    have lo := dpa_len hos
    refine seq_op fun N hN => ?_
    walk_at "rs"
    refine ⟨_, .inl (SqL.of q1), hN _ _ ?_⟩
    clear hN N
    have ke : k.toNat < ps.length := by omega
    have lu3 : 2 ≤ us.length ∧ us.length ≤ 3 := by rcases lus with h | h <;> (have := h.2.1; omega)
    have g4 : ∀ e ∈ ps, Gd 5 e := fun e he => (gps.2 e he).le (by decide)
    have fin : ∀ {D : Ends} {y4 y9 : Option V} {G : Hp} {d : PyData} (hD : D.rt = Q), Gd 5 d → LL K Z b c H (N0 + 1) G p (ps.set k.toNat d) → tRet (tTupU (tCons (tOp (rIxT K) (tVar 1) (tC (.int 0))) (tCons (tCall (sp_either K) [] E0 (tCons (tVar 0) (tCons (tVar 5) tNil))) tNil))) D [some (.ref b), some (.ref a), some (.int w), some (.int way), y4, some (.ref p), some (.int k), some (.ref q), some (.int os.length), y9] G := fun {D y4 y9 G d} hD g L => stage_ret L rfl rfl rfl (Same.seqT (zx.mono L.kp) ha) gs (by rw [List.length_set]; exact gps.1) (fun e he => by
      rcases mem_set he with rfl | he
      · exact g
      · exact g4 e he) (by rw [hD]; exact kq)
    refine seq_op fun N hN => ?_
    refine if_int rfl (fun _ => ?_) (fun _ => hN _ _ ?_)
    · have z := L1.z'
      have ov : DgL K (Zp Z p) H4 [some (.ref b), some (.ref a), some (.int w), some (.int way), none, some (.ref p), some (.int k), some (.ref q), some (.int os.length), none] 3 2 3 (tVar 7) := dl_var z rfl gus.2 lu3.1 lu3.2 (L1.raw q1) (L1.all q1).1
      refine seq_op fun N2 hN2 => ?_
      refine of_dg (n := 4) (lo := 6) (hi := 6) (c := c) (N := N0 + 9) z L1.bag rfl ?_ (by decide) (by decide) fun v d H5 g hv B5 K5 => gsub_ll ((L0.step L1.bag L1.kp).step B5 K5) rfl rfl k0 ke hv fun G' L' => hN2 _ _ ?_
      · exact dl_disp z (da_cons z (ov.e (by decide)) (da_cons z ((dt_tuple z (dl_sl z ov (pt_c (i := 1)) pt_no)).e (by decide)) (da_cons z ((dt_cat z (dt_tuple z ov) (dt_disp z (da_cons z (dg_tup z da_nil (by decide)) da_nil) (by decide)) (by decide)).e (by decide)) (da_cons z dg_non (da_cons z (dg_tup z da_nil (by decide)) (da_cons z ((dg_ixL z ov (by decide) (by decide)).le (by decide)) da_nil)))))) (by decide)
      · exact fin rfl (g.le (by decide)) (L'.le (by omega))
    clear hN N
    refine seq_op fun N hN => ?_
    walk_at "rs"
    refine ⟨b, c, 2, N0 + 9, rfl, L1.bag, by decide, by decide, fun r H5 r0 r1 B5 K5 => ⟨r, rfl, .inl ⟨by omega, by omega⟩, hN _ _ ?_⟩⟩
    clear hN N
    replace L1 := L1.step B5 K5
    replace q1 := K5.hd q1 L1.nb
    clear B5 K5 hos
    obtain ⟨j, ej⟩ : ∃ j : Int, j = r * (((os.length : Nat) : Int) - 1) := ⟨_, rfl⟩
    rw [← ej]
    have hj : (j = 0 ∨ j = (us.length : Int) - 1) := by
      rcases (show r = 0 ∨ r = 1 by omega) with rfl | rfl
      · left; rw [ej]; omega
      · right; rw [ej]; omega
    clear ej
    refine cut_seq (fun σ G => ∃ us' : List PyData, σ = [some (.ref b), some (.ref a), some (.int w), some (.int way), none, some (.ref p), some (.int k), some (.ref q), some (.int os.length), some (.int j)] ∧ LL K (Zp Z p) b c H3 (N0 + 1) G q us' ∧ us'.length = us.length ∧ ∀ u ∈ us', Gd 4 u) (fun N hN => ?_) ?_
    · have put : ∀ (i : Nat) (d : PyData) (G : Hp), Gd 4 d → LL K (Zp Z p) b c H3 (N0 + 1) G q (us.set i d) → N [some (.ref b), some (.ref a), some (.int w), some (.int way), none, some (.ref p), some (.int k), some (.ref q), some (.int os.length), some (.int j)] G := fun i d G g L => hN _ _ ⟨_, rfl, L, by rw [List.length_set], fun u hu => by
        rcases mem_set hu with rfl | hu
        · exact g
        · exact (gus.2 u hu).le (by decide)⟩
      clear hN
      have odd : us.length = 3 → tAsg (tCall (sp_odd K 2) [] E0 (tCons (tVar 0) tNil)) (gSub (tVar 7) (tC (.int 1)) rSetL) { nx := N, rt := Q } [some (.ref b), some (.ref a), some (.int w), some (.int way), none, some (.ref p), some (.int k), some (.ref q), some (.int os.length), some (.int j)] H5 := fun h3 =>
        ⟨_, rfl, b, c, N0 + 8, rfl, L1.bag, fun v d H' g hv B' K' => gsub_llE (k := 1) (L1.step B' K') rfl (fun R h => h) (by decide) (by rw [h3]; decide) (dp_same (L1.zok.fr K' B') hv) fun G' L' => put 1 d G' (g.le (by decide)) (L'.le (by omega))⟩
      have even : tAsg (tCall (sp_bI K) [] E0 (tCons (tVar 0) (tCons (tOp (rIxL K) (tVar 7) (tVar 9)) (tCons (tOp (rI0 fun i j => .int (i - j)) (tC (.int 4)) (tVar 8)) (tCons (tVar 2) tNil))))) (gSub (tVar 7) (tVar 9) rSetL) { nx := N, rt := Q } [some (.ref b), some (.ref a), some (.int w), some (.int way), none, some (.ref p), some (.int k), some (.ref q), some (.int os.length), some (.int j)] H5 := by
        have je : j.toNat < us.length := by omega
        have h1 : us[j.toNat]? = some us[j.toNat] := List.getElem?_eq_getElem je
        have h2 : os[j.toNat]? = some os[j.toNat] := List.getElem?_eq_getElem (by omega)
        have hu := dpa_at (L1.all q1).2 h2 h1
        refine ⟨_, rfl, _, rfl, _, rfl, q, os, j, _, rfl, rfl, SqL.of q1, at_of (j := j.toNat) (by omega) h2, _, rfl, 4, _, rfl, rfl, _, rfl, ?_⟩
        obtain ⟨m, hm, hs, e⟩ : ∃ m : Nat, (m = 1 ∨ m = 2) ∧ ShI m us[j.toNat] ∧ (4 : Int) - ((os.length : Nat) : Int) = (m : Nat) := by
          rcases lus with ⟨_, l2, h⟩ | ⟨_, l3, h⟩
          · exact ⟨2, .inr rfl, h _ _ h1 (by omega), by omega⟩
          · exact ⟨1, .inl rfl, h _ _ h1 (by omega), by omega⟩
        simp only [tNil, List.cons_append, List.nil_append]
        rw [e]
        exact ⟨b, c, N0 + 3, m, _, _, w, Zp (Zp Z p) q, rfl, L1.zok, L1.bag, hm, w1, w2, hu, hs, fun u e H' g hv B' K' => gsub_ll (L1.step B' K') rfl rfl (by omega) je hv fun G' L' => put _ _ G' g (L'.le (by omega))⟩
      refine ⟨_, rfl, way, 4, rfl, rfl, _, rfl, ?_⟩
      by_cases c4 : way = 4
      · rw [decide_eq_true c4]
        dsimp only
        rw [if_pos rfl]
        refine ⟨_, rfl, _, 3, rfl, rfl, _, rfl, ?_⟩
        by_cases c3 : ((os.length : Nat) : Int) = 3
        · rw [decide_eq_true c3]
          dsimp only
          rw [if_pos rfl]
          exact odd (by omega)
        · rw [decide_eq_false c3]
          dsimp only
          rw [if_neg (by decide)]
          exact even
      · rw [decide_eq_false c4]
        dsimp only
        rw [if_neg (by decide), if_neg (by decide)]
        exact even
    · rintro σ G ⟨us', rfl, L2, lu', gu'⟩
      obtain ⟨os', e1, e2⟩ := L2.at_
      have ov : DgL K (Zp Z p) G [some (.ref b), some (.ref a), some (.int w), some (.int way), none, some (.ref p), some (.int k), some (.ref q), some (.int os.length), some (.int j)] 4 2 3 (tVar 7) := dl_var L2.z' rfl gu' (by omega) (by omega) (L2.raw e1) (L2.all e1).1
      refine seq_op fun N hN => ?_
      refine dt_tuple L2.z' ov G _ (Same.refl _) fun v ds' G2 s g l2 l3 hv => gsub_ll ((L0.step L2.bag L2.kp).step (L2.bag.same s) (Kp.of s)) rfl rfl k0 ke hv fun G' L' => hN _ _ ?_
      exact fin rfl (gd_tup (by omega) g) L'
end
end LK

set_option Elab.async false
set_option linter.all false
set_option maxRecDepth 100000
namespace LK
open PySem PySem.Spec PyProof.Rows L2
local macro_rules | `(tactic| walk_at "rs") => `(tactic| simp only [tFld, sFld, tMeth, tMethZ, tMakeK, tMakeS, tMethS, tEf, tProp, tFmt, rEqO, rNeO, cxK, cxNK, tCallZ, tAsg, tOp, rI0, rS0, rB0, rI, rU, tUn, rEq, rNe, rIxL, rIxT, rIxS, rSetL, rSlLU, rSlS, rSlU, rCatL, rCatU, rRepL, rIn, tVar, tC, gName, gSub, tIfS, tTest, tB, tAnd, tOr, tNot, tNotV, tAndV, tOrV, tIf, tCall, tCons, tNil, tCB, tDrop, tRet, tRetN, tNext, tLstU, tTupU, tM0, tM1, tPar, tPar3, tAug, ipI, tBM, tBM0, rAppend, rPop, tBreak, sDPut, tDGet, tDGet2, tCont, tChain, tSl, tPart, tNoPart, L2.start, List.map, List.length_cons, List.length_nil, List.replicate, List.cons_append, List.nil_append, List.append_nil, List.getElem?_cons_zero, List.getElem?_cons_succ, List.set_cons_zero, List.set_cons_succ, Option.some.injEq, V.int.injEq, V.ref.injEq, V.str.injEq, V.bl.injEq, exists_eq_left', exists_eq_left, exists_and_left, decide_eq_true_eq, List.cons.injEq, and_true, true_and, scal, Bool.not_eq_true', decide_eq_false_iff_not, Nat.zero_add, Nat.reduceAdd, Nat.reduceSub, reduceCtorEq, false_and, exists_false, false_or, or_false, CPow, CPowW, CMul, CDiv, Int.reduceToNat, ↓reduceIte, wipe, sw, List.nil_append, List.singleton_append])
local macro_rules | `(tactic| walk_at "st") => `(tactic| (refine seq_op fun N hN => ?_; walk_at "rs"))
local macro_rules | `(tactic| walk_at "sd") => `(tactic| first | assumption | decide | omega)
local macro_rules | `(tactic| walk_at "rd") => `(tactic| repeat (first
  | refine ⟨_, SqL.of (by assumption), ?_⟩ | refine ⟨_, SqL.of upd_same, ?_⟩ | refine ⟨_, .inl (SqL.of (by assumption)), ?_⟩ | refine ⟨_, (by assumption : _ = some (HO.lst _)), ?_⟩ | refine ⟨_, upd_same, ?_⟩
  | refine ⟨_, rfl, ?_⟩ | refine And.intro (by walk_at "sd") ?_))

/-! ### data that are equal have one shape -/
mutual
theorem eqv_depth : ∀ {d e : PyData}, PyData.eqv d e = true → d.depth = e.depth
  | .none, e, h => by cases e <;> simp [PyData.eqv] at h; rfl
  | .bool _, e, h => by cases e <;> simp [PyData.eqv] at h <;> simp only [PyData.depth]
  | .int _, e, h => by cases e <;> simp [PyData.eqv] at h <;> simp only [PyData.depth]
  | .str _, e, h => by cases e <;> simp [PyData.eqv] at h; simp only [PyData.depth]
  | .list ds, e, h => by
    cases e <;> simp [PyData.eqv] at h
    simp only [PyData.depth]
    rw [eqvA_depth h]
  | .tuple ds, e, h => by
    cases e <;> simp [PyData.eqv] at h
    simp only [PyData.depth]
    rw [eqvA_depth h]
  | .dict _, e, h => by cases e <;> simp [PyData.eqv] at h
theorem eqvA_depth : ∀ {ds es : List PyData}, PyData.eqvAll ds es = true → PyData.depthAll ds = PyData.depthAll es
  | [], [], _ => rfl
  | [], _ :: _, h => by simp [PyData.eqvAll] at h
  | _ :: _, [], h => by simp [PyData.eqvAll] at h
  | d :: ds, e :: es, h => by
    simp only [PyData.eqvAll, Bool.and_eq_true] at h
    simp only [PyData.depthAll]
    rw [eqv_depth h.1, eqvA_depth h.2]
end
theorem eqvA_len : ∀ {ds es : List PyData}, PyData.eqvAll ds es = true → ds.length = es.length
  | [], [], _ => rfl
  | [], _ :: _, h => by simp [PyData.eqvAll] at h
  | _ :: _, [], h => by simp [PyData.eqvAll] at h
  | d :: ds, e :: es, h => by
    simp only [PyData.eqvAll, Bool.and_eq_true] at h
    simp [eqvA_len h.2]
theorem eqvA_mem {e : PyData} : ∀ {ds es : List PyData}, PyData.eqvAll ds es = true → e ∈ es → ∃ d ∈ ds, PyData.eqv d e = true
  | [], [], _, m => absurd m (by simp)
  | [], _ :: _, h, _ => by simp [PyData.eqvAll] at h
  | _ :: _, [], h, _ => by simp [PyData.eqvAll] at h
  | d :: ds, e' :: es, h, m => by
    simp only [PyData.eqvAll, Bool.and_eq_true] at h
    rcases List.mem_cons.mp m with rfl | m
    · exact ⟨d, List.mem_cons_self, h.1⟩
    · obtain ⟨d', h1, h2⟩ := eqvA_mem h.2 m
      exact ⟨d', List.mem_cons_of_mem _ h1, h2⟩
theorem eqv_tup {ds : List PyData} {e : PyData} (h : PyData.eqv (.tuple ds) e = true) : ∃ es, e = .tuple es ∧ PyData.eqvAll ds es = true := by
  cases e <;> simp [PyData.eqv] at h
  exact ⟨_, rfl, h⟩
theorem eqv_lst {ds : List PyData} {e : PyData} (h : PyData.eqv (.list ds) e = true) : ∃ es, e = .list es ∧ PyData.eqvAll ds es = true := by
  cases e <;> simp [PyData.eqv] at h
  exact ⟨_, rfl, h⟩
theorem eqv_str {s : Str} {e : PyData} (h : PyData.eqv (.str s) e = true) : e = .str s := by
  cases e <;> simp [PyData.eqv] at h
  rw [h]
theorem Gd.eqv {n m : Nat} {d e : PyData} (g : Gd n e) (h : PyData.eqv d e = true) (gd : Gd m d) : Gd m e := ⟨g.ok, g.bd, g.lay, by rw [← eqv_depth h]; exact gd.dep⟩
theorem shI_eqv {n m : Nat} {d e : PyData} (s : ShI m d) (h : PyData.eqv d e = true) (g : Gd n e) : ShI m e := by
  obtain ⟨gd, ds, rfl, sh⟩ := s
  refine ⟨g.eqv h gd, ?_⟩
  obtain ⟨es, rfl, ha⟩ := eqv_lst h
  refine ⟨es, rfl, fun e he => ?_⟩
  obtain ⟨d, hd, h2⟩ := eqvA_mem ha he
  obtain ⟨us, rfl, l⟩ := sh d hd
  obtain ⟨ws, rfl, h3⟩ := eqv_tup h2
  exact ⟨ws, rfl, by rw [← eqvA_len h3]; exact l⟩
theorem shP_eqv {n : Nat} {k : Bool} {d e : PyData} (s : ShP k d) (h : PyData.eqv d e = true) (g : Gd (n + 1) e) : ShP k e := by
  unfold ShP at s ⊢
  split at s
  · rename_i c
    obtain ⟨x, y, rfl, h1, h2⟩ := s
    obtain ⟨es, rfl, ha⟩ := eqv_tup h
    rw [if_pos c]
    obtain ⟨l, gg⟩ := g.tup
    rcases es with _ | ⟨x', _ | ⟨y', _ | ⟨z', r⟩⟩⟩ <;> simp [PyData.eqvAll] at ha
    exact ⟨x', y', rfl, shI_eqv h1 ha.1 (gg x' (by simp)), shI_eqv h2 ha.2 (gg y' (by simp))⟩
  · rename_i c
    obtain ⟨x, f, y, rfl, h1, h2⟩ := s
    obtain ⟨es, rfl, ha⟩ := eqv_tup h
    rw [if_neg c]
    obtain ⟨l, gg⟩ := g.tup
    rcases es with _ | ⟨x', _ | ⟨f', _ | ⟨y', _ | ⟨z', r⟩⟩⟩⟩ <;> simp [PyData.eqvAll] at ha
    exact ⟨x', f', y', rfl, shI_eqv h1 ha.1 (gg x' (by simp)), shI_eqv h2 ha.2.2 (gg y' (by simp))⟩
theorem shS_eqv {n : Nat} {d e : PyData} (s : ShS d) (h : PyData.eqv d e = true) (g : Gd n e) : ShS e := by
  obtain ⟨gd, k, ps, rfl, sh⟩ := s
  have ge := g.eqv h gd
  refine ⟨ge, k, ?_⟩
  obtain ⟨es, rfl, ha⟩ := eqv_tup h
  rcases es with _ | ⟨x', _ | ⟨y', _ | ⟨z', r⟩⟩⟩ <;> simp [PyData.eqvAll] at ha
  obtain rfl := eqv_str ha.1
  obtain ⟨ps', rfl, h2⟩ := eqv_lst ha.2
  have g2 := (ge.tup.2 (.list ps') (by simp)).lst.2
  refine ⟨ps', rfl, fun p hp => ?_⟩
  obtain ⟨d, hd, h3⟩ := eqvA_mem h2 hp
  exact shP_eqv (sh d hd) h3 (g2 p hp)
theorem shaped_gd {n : Nat} {d : PyData} (g : Gd n d) (h : n ≤ 64) : SeqAt.shaped d = true := by
  show (d.canLay0 && decide (d.depth ≤ 64)) = true
  rw [g.lay, decide_eq_true (Nat.le_trans g.dep h)]
  rfl
theorem shaped_lst {n : Nat} {ds : List PyData} (g : ∀ d ∈ ds, Gd n d) (h : n + 1 ≤ 64) : SeqAt.shaped (.list ds) = true := by
  show ((PyData.list ds).canLay0 && decide ((PyData.list ds).depth ≤ 64)) = true
  have h1 : (PyData.list ds).canLay0 = true := by simp only [PyData.canLay0]; exact layAll_of fun d hd => (g d hd).lay
  have h2 : (PyData.list ds).depth ≤ 64 := by
    simp only [PyData.depth]
    have := depAll_of fun d hd => (g d hd).dep
    omega
  rw [h1, decide_eq_true h2]
  rfl
end LK

set_option Elab.async false
set_option linter.all false
set_option maxRecDepth 100000
namespace LK
open PySem PySem.Spec PyProof.Rows L2
local macro_rules | `(tactic| walk_at "rs") => `(tactic| simp only [tFld, sFld, tMeth, tMethZ, tMakeK, tMakeS, tMethS, tEf, tProp, tFmt, rEqO, rNeO, cxK, cxNK, tCallZ, tAsg, tOp, rI0, rS0, rB0, rI, rU, tUn, rEq, rNe, rIxL, rIxT, rIxS, rSetL, rSlLU, rSlS, rSlU, rCatL, rCatU, rRepL, rIn, tVar, tC, gName, gSub, tIfS, tTest, tB, tAnd, tOr, tNot, tNotV, tAndV, tOrV, tIf, tCall, tCons, tNil, tCB, tDrop, tRet, tRetN, tNext, tLstU, tTupU, tM0, tM1, tPar, tPar3, tAug, ipI, tBM, tBM0, rAppend, rPop, tBreak, sDPut, tDGet, tDGet2, tCont, tChain, tSl, tPart, tNoPart, L2.start, List.map, List.length_cons, List.length_nil, List.replicate, List.cons_append, List.nil_append, List.append_nil, List.getElem?_cons_zero, List.getElem?_cons_succ, List.set_cons_zero, List.set_cons_succ, Option.some.injEq, V.int.injEq, V.ref.injEq, V.str.injEq, V.bl.injEq, exists_eq_left', exists_eq_left, exists_and_left, decide_eq_true_eq, List.cons.injEq, and_true, true_and, scal, Bool.not_eq_true', decide_eq_false_iff_not, Nat.zero_add, Nat.reduceAdd, Nat.reduceSub, reduceCtorEq, false_and, exists_false, false_or, or_false, CPow, CPowW, CMul, CDiv, Int.reduceToNat, ↓reduceIte, wipe, sw, List.nil_append, List.singleton_append])
local macro_rules | `(tactic| walk_at "st") => `(tactic| (refine seq_op fun N hN => ?_; walk_at "rs"))
local macro_rules | `(tactic| walk_at "sd") => `(tactic| first | assumption | decide | omega)
local macro_rules | `(tactic| walk_at "rd") => `(tactic| repeat (first
  | refine ⟨_, SqL.of (by assumption), ?_⟩ | refine ⟨_, SqL.of upd_same, ?_⟩ | refine ⟨_, .inl (SqL.of (by assumption)), ?_⟩ | refine ⟨_, (by assumption : _ = some (HO.lst _)), ?_⟩ | refine ⟨_, upd_same, ?_⟩
  | refine ⟨_, rfl, ?_⟩ | refine And.intro (by walk_at "sd") ?_))

local macro_rules | `(tactic| walk_at "dg") => `(tactic| repeat (any_goals (first
  | exact da_nil | apply da_cons (by assumption) | exact dg_non | exact dg_bl | exact dg_int (by decide) | exact dg_neg (by decide) | exact dg_str (by decide +kernel) (by decide +kernel) | exact dg_pow
  | exact pt_no | exact pt_c | exact pt_neg | exact pt_var rfl | exact pt_suc rfl
  | apply dt_disp (by assumption) | apply dl_disp (by assumption) | apply dt_cat (by assumption) | apply dl_cat (by assumption) | apply dt_sl (by assumption) | apply dl_sl (by assumption) | apply dt_rev (by assumption) | apply dl_list (by assumption) | apply dt_tuple (by assumption) | apply dg_ixT (by assumption) | apply dg_ixL (by assumption)
  | apply dg_tup (by assumption) | apply dg_lst (by assumption))))
section
variable {P : Program} {w : World} {K : PySem.W.Frag} {mg : Str → Option Value} {base : Heap}
/-- what is handed as stages -/
def SOk (e : PyData) : Prop := okD e = true ∧ ∀ ds, sqD e = some ds → ∀ d ∈ ds, bdD 20 d = true
theorem Gd.sok {n : Nat} {e : PyData} (g : Gd n e) : SOk e := ⟨g.ok, fun ds h d hd => ((g.sq h).2 d hd).1.bd⟩
theorem sok_either {n : Nat} {e : PyData} {es : List PyData} (h : e = .list es ∨ e = .tuple es) (l : es.length ≤ 200) (g : ∀ d ∈ es, Gd n d) : SOk e := by
  have o := okAll_of fun d hd => (g d hd).ok
  rcases h with rfl | rfl
  · exact ⟨okD_lst.mpr ⟨by omega, o⟩, fun ds h d hd => by cases h; exact (g d hd).bd⟩
  · exact ⟨okD_tup.mpr ⟨by omega, o⟩, fun ds h d hd => by cases h; exact (g d hd).bd⟩
theorem dpa_rep {K : PySem.W.Frag} {H : Hp} {v : V} {d : PyData} (h : Dp K H v d) : ∀ n : Nat, DpAll K H (List.replicate n [v]).flatten (List.replicate n d)
  | 0 => .nil
  | n + 1 => .cons h (dpa_rep h n)
def sp_bT (K : PySem.W.Frag) : Sp := fun vs H Q _ => ∃ (b c : Addr) (N : Nat) (v : V) (ss : List PyData) (w : Int) (Z : Hp → Hp), vs = [.ref b, v, .int w] ∧ ZOk Z b c H ∧ Bag (N + 40) H b c ∧ 1 ≤ w ∧ w ≤ 2000 ∧ Dp K (Z H) v (.list ss) ∧ ss.length ≤ 5 ∧ (∀ s ∈ ss, ShS s) ∧
  ∀ u e H', SOk e → Dp K (Z H') u e → Bag N H' b c → Kp b H H' → Q u H'
theorem ok__law_bent_stages (T : Txt w K mg) : FnOk P w K mg base CX0 6 T.a__law_bent_stages T.d__law_bent_stages ["bag", "stages_y", "width"] (sp_bT K) := by
  refine T.F__law_bent_stages.ok sc__law_bent_stages (fun vs H Q E h => ?_) (fun cdv A outer s H vs Q E hr h => ?_)
  · obtain ⟨b, c, N, v, ss, w, Z, rfl, _⟩ := h
    rfl
  · obtain ⟨b, c, N0, v, ss, w, Z, rfl, zx, B, w1, w2, hd, l5, sh, kq⟩ := h
    have hr__law_draw : Room 1 _ := hr.mono (by decide)
    have G__law_draw := ok__law_draw (P := P) (base := base) T
    have hr__law_odd : Room 3 _ := hr.mono (by decide)
    have G__law_odd := ok__law_odd (P := P) (base := base) T
    have hr__law_bent_stage : Room 5 _ := hr
    have G__law_bent_stage := ok__law_bent_stage (P := P) (base := base) T
    have hr__law_either : Room 2 _ := hr.mono (by decide)
    have G__law_either := ok__law_either (P := P) (base := base) T
    have hu65 : (A.deeper (envOfC "_law_bent_stages" (defScope s__law_bent_stages) s.heap.objs.size T.a__law_bent_stages cdv)).units + 65 < cLine := Nat.lt_of_le_of_lt (Nat.add_le_add_left (by decide : 65 ≤ 16 * 5 + 200) _) hr.un
    refine ⟨_, (pss_cons (ps_par (i := 3) (j := 4) (by rfl) sc__law_bent_stages.nd rfl rfl (by decide) rfl rfl (pa_cons (pe_call G__law_draw hr__law_draw (by rfl) T.m__law_draw T.F__law_draw.kp T.B__law_draw .nil pass0 (pa_cons (pv 0) (pa_cons pe_int pa_nil))) (pa_cons (pe_callTy call_listU (by rfl) T.n_list (by decide +kernel) (pa_cons (pv 1) pa_nil)) pa_nil)) (by rfl))
      (pss_cons (ps_if (pt_cmpR op_eqI (pv 3) pe_int (nomark _)) (pss_one (ps_ret (pe_call G__law_odd hr__law_odd (by rfl) T.m__law_odd T.F__law_odd.kp T.B__law_odd .nil pass0 (pa_cons (pv 0) pa_nil)))) pss_nil)
      (pss_cons (ps_if (pt_not (pt_truth (pv 4) (by intro _; rfl))) (pss_one (ps_set (i := 4) sc__law_bent_stages.nd rfl (Or.inl rfl) (pe_lstU (pa_cons (pe_tupU (pa_cons pe_str (pa_cons (pe_lstU (pa_cons (pe_tupU (pa_cons (pe_lstU pa_nil) (pa_cons (pe_tupU (pa_cons pe_int (pa_cons pe_int pa_nil))) (pa_cons (pe_lstU (pa_cons (pe_tupU (pa_cons pe_int (pa_cons (pe_tupU (pa_cons pe_int (pa_cons pe_int pa_nil))) pa_nil))) pa_nil)) pa_nil)))) pa_nil)) pa_nil))) pa_nil)))) pss_nil)
      (pss_cons (ps_for PassesOwn.never rfl (pi_range1 (by rfl) T.n_range (pa_cons (pe_op op_add pe_int (pe_call G__law_draw hr__law_draw (by rfl) T.m__law_draw T.F__law_draw.kp T.B__law_draw .nil pass0 (pa_cons (pv 0) (pa_cons pe_int pa_nil)))) pa_nil)) (pg_name (i := 5) sc__law_bent_stages.nd rfl (Or.inl rfl)) (pss_cons (ps_set (i := 6) sc__law_bent_stages.nd rfl (Or.inl rfl) (pe_call G__law_draw hr__law_draw (by rfl) T.m__law_draw T.F__law_draw.kp T.B__law_draw .nil pass0 (pa_cons (pv 0) (pa_cons (pe_callB call_len_seq (by rfl) T.n_len (by decide +kernel) (pa_cons (pv 4) pa_nil)) pa_nil))))
      (pss_one (ps_if (PW.pt (pw_and (pt_val (pe_callB (call_isiDK (K := K) rfl) (by rfl) T.n_isinstance (by decide +kernel) (pa_cons (pe_ix ix_list (pv 4) (pv 6) (fun _ _ => rfl)) (pa_cons (pe_bltn (v := .ty "tuple") (u := .type "tuple") (by rfl) T.n_tuple (by decide +kernel) rfl) pa_nil)))) (pw_and1 (pt_cmpR (op_inD hu65) (pe_ix ix_list (pv 4) (pv 6) (fun _ _ => rfl)) (pv 1) (by rfl))))) (pss_one (ps_asg (pe_call G__law_bent_stage hr__law_bent_stage (by rfl) T.m__law_bent_stage T.F__law_bent_stage.kp T.B__law_bent_stage .nil pass0 (pa_cons (pv 0) (pa_cons (pe_ix ix_list (pv 4) (pv 6) (fun _ _ => rfl)) (pa_cons (pv 2) pa_nil)))) (pg_sub (pv 4) (pv 6) set_list))) pss_nil))))
      (pss_cons (ps_if (pt_cmpR op_eqI (pv 3) pe_int (nomark _)) (pss_one (ps_set (i := 4) sc__law_bent_stages.nd rfl (Or.inl rfl) (pe_op op_catL (pv 4) (pe_op op_repL (pe_lstU (pa_cons (pe_tupU (pa_cons pe_str (pa_cons (pe_tupU pa_nil) pa_nil))) pa_nil)) (pe_op op_sub (pe_op op_add pe_int (pe_call G__law_draw hr__law_draw (by rfl) T.m__law_draw T.F__law_draw.kp T.B__law_draw .nil pass0 (pa_cons (pv 0) (pa_cons pe_int pa_nil)))) (pe_callB call_len_seq (by rfl) T.n_len (by decide +kernel) (pa_cons (pv 4) pa_nil))))))) pss_nil)
      (pss_one (ps_ret (pe_call G__law_either hr__law_either (by rfl) T.m__law_either T.F__law_either.kp T.B__law_either .nil pass0 (pa_cons (pv 0) (pa_cons (pv 4) pa_nil)))))))))), ?_⟩
    have gss : ∀ s ∈ ss, Gd 6 s := fun s hs => (sh s hs).1
    have hd0 := hd
    cases hd with
    | @lst a xs _ ha hx =>
    refine seq_op fun N hN => ?_
    walk_at "rs"
    refine ⟨b, c, 7, N0 + 39, rfl, B.le (by omega), by decide, by decide, fun way H1 y0 y1 B1 K1 => ?_⟩
    refine ⟨xs, .inl (Same.seq (Same.trans (zx.mono K1) (zx.le' _)) ha), fun p H2 s2 p0 p1 => ⟨_, _, ⟨rfl, rfl⟩, hN _ _ ?_⟩⟩
    clear hN N
    have L0 := LL.mk0 zx B1 K1 s2 p0 p1 (dpa_same (zx.mono K1) hx)
    have lx := dpa_len hx
    clear hx ha
    refine seq_op fun N hN => ?_
    refine if_int rfl (fun _ => ?_) (fun _ => hN _ _ ?_)
    · exact ⟨_, rfl, b, c, N0 + 38, rfl, L0.bag, fun u e H' g hu B' K' => kq u e H' g.sok (dp_same (L0.z'.fr K' B') hu) (B'.le (by omega)) (Same.trans L0.kp K')⟩
    clear hN N
    refine cut_seq (fun σ G => ∃ (q : Addr) (es : List PyData), σ = [some (.ref b), some (.ref a), some (.int w), some (.int way), some (.ref q), none, none] ∧ LL K Z b c H (N0 + 38) G q es ∧ 0 < es.length ∧ es.length ≤ 5 ∧ ∀ e ∈ es, Gd 7 e) (fun N hN => ?_) ?_
    · obtain ⟨xs0, q0, q1⟩ := L0.at_
      have lx := dpa_len q1
      refine ⟨_, rfl, !xs0.isEmpty, .inl ⟨xs0, SqL.of q0, rfl⟩, ite2 (fun z => ?_) (fun z => hN _ _ ⟨p, ss, rfl, L0.le (by omega), ?_, l5, fun e he => (gss e he).le (by decide)⟩)⟩
      · have z := L0.z'
        refine LL.asg (n := 6) (k := 1) L0 ?_ (by decide) fun r es G' L' g le => hN _ _ ⟨r, es, rfl, L'.le (by omega), by omega, by omega, fun e he => (g e he).le (by decide)⟩
        walk_at "dg"
        all_goals decide
      · cases xs0 with
        | nil => exact absurd rfl z
        | cons => simp at lx; omega
    clear L0 p1 p0 s2
    rintro σ G ⟨q, es, rfl, L1, l1, l15, ge⟩
    refine cut_seq (fun σ G => ∃ (y5 y6 : Option V) (es : List PyData), σ = [some (.ref b), some (.ref a), some (.int w), some (.int way), some (.ref q), y5, y6] ∧ LL K Z b c H (N0 + 10) G q es ∧ 0 < es.length ∧ es.length ≤ 5 ∧ ∀ e ∈ es, Gd 7 e) (fun N hN => ?_) ?_
    · walk_at "rs"
      refine ⟨_, rfl, b, c, 2, N0 + 37, rfl, L1.bag, by decide, by decide, fun r H3 r0 r1 B3 K3 => ⟨1, r, rfl, rfl, 1 + r, rfl, by omega, by omega, for_range (lo := 0) (n := (1 + r).toNat) (fun i σ G => ∃ (y5 y6 : Option V) (es : List PyData), σ = [some (.ref b), some (.ref a), some (.int w), some (.int way), some (.ref q), y5, y6] ∧ LL K Z b c H (N0 + 10 + (2 - i) * 13) G q es ∧ 0 < es.length ∧ es.length ≤ 5 ∧ ∀ e ∈ es, Gd 7 e) ⟨_, _, es, rfl, (L1.step B3 K3).le (by omega), l1, l15, ge⟩ ?_ ?_⟩⟩
      · rintro i σ G3 hi ⟨y5, y6, es, rfl, L2, l1, l15, ge⟩
        obtain ⟨xs2, e1, e2⟩ := L2.at_
        have lx2 := dpa_len e2
        refine seq_op fun N2 hN2 => ?_
        walk_at "rs"
        refine ⟨_, .inl (SqL.of e1), b, c, _, N0 + 10 + (2 - (i + 1)) * 13 + 12, rfl, L2.bag.le (by omega), by omega, by omega, fun k H4 k0 k1 B4 K4 => hN2 _ _ ?_⟩
        clear hN2 N2
        replace L2 := L2.step B4 K4
        replace e1 := K4.hd e1 L2.nb
        have kl : k.toNat < es.length := by omega
        have hek : es[k.toNat]? = some es[k.toNat] := List.getElem?_eq_getElem kl
        have hxk : xs2[k.toNat]? = some xs2[k.toNat] := List.getElem?_eq_getElem (by omega)
        have hone := dpa_at (L2.all e1).2 hxk hek
        have g1 := ge es[k.toNat] (List.getElem_mem kl)
        generalize es[k.toNat] = d1 at hone g1 hek
        generalize xs2[k.toNat] = one at hone hxk
        have keep : ∃ (y5 y6 : Option V) (es : List PyData), [some (.ref b), some (.ref a), some (.int w), some (.int way), some (.ref q), some (.int (0 + i)), some (.int k)] = [some (.ref b), some (.ref a), some (.int w), some (.int way), some (.ref q), y5, y6] ∧ LL K Z b c H (N0 + 10 + (2 - (i + 1)) * 13) H4 q es ∧ 0 < es.length ∧ es.length ≤ 5 ∧ ∀ e ∈ es, Gd 7 e := ⟨_, _, es, rfl, L2.le (by omega), l1, l15, ge⟩
        have at4 : atI xs2 k = some one := at_of (j := k.toNat) (by omega) hxk
        refine ⟨_, rfl, _, rfl, q, xs2, k, one, rfl, rfl, SqL.of e1, at4, one, "tuple", rfl, d1, dp_same (L2.zok.le' _) hone, by decide, _, rfl, ?_⟩
        refine ite2 (fun ht => ?_) (fun ht => ?_)
        · refine ⟨_, rfl, _, rfl, q, xs2, k, one, rfl, rfl, SqL.of e1, at4, _, rfl, d1, ss, dp_same (L2.zok.le' _) hone, dp_same (Same.trans (zx.mono L2.kp) (zx.le' _)) hd0, shaped_gd g1 (by decide), shaped_lst gss (by decide), _, rfl, ite2 (fun hin => ?_) (fun _ => keep)⟩
          obtain ⟨z, hz, ez⟩ := List.any_eq_true.mp hin
          exact ⟨_, rfl, _, rfl, _, rfl, q, xs2, k, one, rfl, rfl, SqL.of e1, at4, _, rfl, b, c, N0 + 10 + (2 - (i + 1)) * 13, one, d1, w, Zp Z q, rfl, L2.zok, L2.bag, w1, w2, hone, shS_eqv (sh z hz) ez g1, fun u e H' g hu B' K' => gsub_ll (L2.step B' K') rfl rfl k0 kl hu fun G' L' => ⟨_, _, _, rfl, L', by rw [List.length_set]; exact l1, by rw [List.length_set]; exact l15, fun e' he => by
            rcases mem_set he with rfl | he
            · exact g
            · exact ge e' he⟩⟩
        · exact ite2 (fun z => absurd z (by decide)) (fun _ => keep)
      · rintro σ G3 ⟨y5, y6, es, rfl, L2, l1, l15, ge⟩
        exact hN _ _ ⟨_, _, es, rfl, L2.le (by omega), l1, l15, ge⟩
    · rintro σ G ⟨y5, y6, es, rfl, L2, l1, l15, ge⟩
      refine cut_seq (fun σ G => ∃ (y5 y6 : Option V) (r : Addr) (es : List PyData), σ = [some (.ref b), some (.ref a), some (.int w), some (.int way), some (.ref r), y5, y6] ∧ LL K Z b c H (N0 + 9) G r es ∧ es.length ≤ 200 ∧ ∀ e ∈ es, Gd 7 e) (fun N hN => ?_) ?_
      · refine if_int rfl (fun _ => ?_) (fun _ => hN _ _ ⟨_, _, q, es, rfl, L2.le (by omega), by omega, ge⟩)
        obtain ⟨xs2, e1, e2⟩ := L2.at_
        have lx2 := dpa_len e2
        walk_at "rs"
        refine ⟨by decide, fun t1 G1 s1 n1 h1 => ⟨by decide, fun t2 G2 s2 n2 h2 => ⟨by decide, fun t3 G3 s3 n3 h3 => ?_⟩⟩⟩
        have s13 := Same.trans s1 (Same.trans s2 s3)
        have z2 := L2.z'
        have B3 := L2.bag.same s13
        have hd3 : Dp K (Z G3) (.ref t2) (.tuple [.str "heads", .tuple []]) := .tup (SqT.of (z2.new s1 n2 (s3 _ _ h2))) (.cons (.str _) (.cons (.tup (SqT.of (z2.new (Same.refl _) n1 ((Same.trans s2 s3) _ _ h1))) .nil) .nil))
        refine ⟨b, c, 4, N0 + 9, rfl, B3, by decide, by decide, fun r G4 r0 r1 B4 K4 => ⟨r, rfl, xs2, .inl (SqL.of (K4.hd (s13 _ _ e1) L2.nb)), [.ref t2], K4.hd h3 (new_ne (L2.bag.same (Same.trans s1 s2)) n3), by omega, by omega, ?_, fun p5 G5 s5 n5 h5 => ⟨xs2, s5 _ _ (K4.hd (s13 _ _ e1) L2.nb), _, h5, ?_, fun p6 G6 s6 n6 h6 => hN _ _ ⟨_, _, p6, es ++ List.replicate (100 + r - (xs2.length : Nat)).toNat (.tuple [.str "heads", .tuple []]), rfl, LL.mk0 zx (B4.same s5) (Same.trans L2.kp (Same.trans (Kp.of s13) (Same.trans K4 (Kp.of s5)))) s6 n6 h6 ?_, ?_, fun e he => ?_⟩⟩⟩⟩
        · exact sz20 (by show 1 * _ ≤ 200; omega)
        · have e6 := dpa_len (dpa_rep (dp_same (Same.trans (zx.mono (Kp.of (Same.refl G3))) (zx.le' _)) hd3) (100 + r - (xs2.length : Nat)).toNat)
          rw [List.length_replicate] at e6
          rw [e6]
          exact sz20 (by omega)
        · refine dpa_app (dpa_same (zx.mono (Same.trans (Kp.of s13) (Same.trans K4 (Kp.of s5)))) (L2.all e1).1) (dpa_rep (dp_same (zx.mono (Same.trans K4 (Kp.of s5))) hd3) _)
        · rw [List.length_append, List.length_replicate]; omega
        · rcases List.mem_append.mp he with he | he
          · exact ge e he
          · rcases List.eq_of_mem_replicate he with rfl
            refine gd_tup (by decide) fun d hd => ?_
            rcases List.mem_cons.mp hd with rfl | hd
            · exact gd_str (by decide +kernel) (by decide +kernel)
            · rcases List.mem_singleton.mp hd with rfl
              exact gd_tup (by decide) fun d hd => absurd hd (by simp)
      · rintro σ G ⟨y5, y6, r, es, rfl, L3, l3, ge3⟩
        walk_at "rs"
        exact (L3.le (by omega)).either fun u e H' he hu B' K' => kq u e H' (sok_either he l3 ge3) hu B' K'
end
end LK

set_option Elab.async false
set_option linter.all false
set_option maxRecDepth 100000
namespace LK
open PySem PySem.Spec PyProof.Rows L2
local macro_rules | `(tactic| walk_at "rs") => `(tactic| simp only [tFld, sFld, tMeth, tMethZ, tMakeK, tMakeS, tMethS, tEf, tProp, tFmt, rEqO, rNeO, cxK, cxNK, tCallZ, tAsg, tOp, rI0, rS0, rB0, rI, rU, tUn, rEq, rNe, rIxL, rIxT, rIxS, rSetL, rSlLU, rSlS, rSlU, rCatL, rCatU, rRepL, rIn, tVar, tC, gName, gSub, tIfS, tTest, tB, tAnd, tOr, tNot, tNotV, tAndV, tOrV, tIf, tCall, tCons, tNil, tCB, tDrop, tRet, tRetN, tNext, tLstU, tTupU, tM0, tM1, tPar, tPar3, tAug, ipI, tBM, tBM0, rAppend, rPop, tBreak, sDPut, tDGet, tDGet2, tCont, tChain, tSl, tPart, tNoPart, L2.start, List.map, List.length_cons, List.length_nil, List.replicate, List.cons_append, List.nil_append, List.append_nil, List.getElem?_cons_zero, List.getElem?_cons_succ, List.set_cons_zero, List.set_cons_succ, Option.some.injEq, V.int.injEq, V.ref.injEq, V.str.injEq, V.bl.injEq, exists_eq_left', exists_eq_left, exists_and_left, decide_eq_true_eq, List.cons.injEq, and_true, true_and, scal, Bool.not_eq_true', decide_eq_false_iff_not, Nat.zero_add, Nat.reduceAdd, Nat.reduceSub, reduceCtorEq, false_and, exists_false, false_or, or_false, CPow, CPowW, CMul, CDiv, Int.reduceToNat, ↓reduceIte, wipe, sw, List.nil_append, List.singleton_append])
local macro_rules | `(tactic| walk_at "st") => `(tactic| (refine seq_op fun N hN => ?_; walk_at "rs"))
local macro_rules | `(tactic| walk_at "sd") => `(tactic| first | assumption | decide | omega)
local macro_rules | `(tactic| walk_at "rd") => `(tactic| repeat (first
  | refine ⟨_, SqL.of (by assumption), ?_⟩ | refine ⟨_, SqL.of upd_same, ?_⟩ | refine ⟨_, .inl (SqL.of (by assumption)), ?_⟩ | refine ⟨_, (by assumption : _ = some (HO.lst _)), ?_⟩ | refine ⟨_, upd_same, ?_⟩
  | refine ⟨_, rfl, ?_⟩ | refine And.intro (by walk_at "sd") ?_))

local macro_rules | `(tactic| walk_at "dg") => `(tactic| repeat (any_goals (first
  | exact da_nil | apply da_cons (by assumption) | exact dg_non | exact dg_bl | exact dg_int (by decide) | exact dg_neg (by decide) | exact dg_str (by decide +kernel) (by decide +kernel) | exact dg_pow
  | exact pt_no | exact pt_c | exact pt_neg | exact pt_var rfl | exact pt_suc rfl
  | apply dt_disp (by assumption) | apply dl_disp (by assumption) | apply dt_cat (by assumption) | apply dl_cat (by assumption) | apply dt_sl (by assumption) | apply dl_sl (by assumption) | apply dt_rev (by assumption) | apply dl_list (by assumption) | apply dt_tuple (by assumption) | apply dg_ixT (by assumption) | apply dg_ixL (by assumption)
  | apply dg_tup (by assumption) | apply dg_lst (by assumption))))
section
variable {P : Program} {w : World} {K : PySem.W.Frag} {mg : Str → Option Value} {base : Heap}
theorem LL.old {Z : Hp → Hp} {b c p : Addr} {X G : Hp} {N : Nat} {ds : List PyData} (l : LL K Z b c X N G p ds) : Same (Z X) (Zp Z p G) := fun a o e => by
  have h := l.z.le' _ _ _ e
  show hb (Z G) p a = _
  rw [hb_ne (ne_of_none h l.new)]
  exact l.z.mono l.kp _ _ e
theorem pick3 {Z : Hp → Hp} {b c : Addr} {X : Hp} {σ : L2.St} {n j : Nat} {k : Int} {t1 t2 t3 : TE} {Q : VK} (z : ZOk Z b c X) (D1 : DgL K Z X σ n 4 4 t1) (D2 : DgL K Z X σ n 4 4 t2) (D3 : DgL K Z X σ n 6 6 t3) (hk : σ[j]? = some (some (.int k))) (k0 : 0 ≤ k) (k3 : k < 3)
    (q : ∀ p xs ds G', Same X G' → (∀ d ∈ ds, Gd n d) → 4 ≤ ds.length → ds.length ≤ 6 → Z G' p = some (.lst xs) → DpAll K (Z G') xs ds → Q (.ref p) G') : tOp (rIxL K) (tLstU (tCons t1 (tCons t2 (tCons t3 tNil)))) (tVar j) σ X Q := by
  simp only [tOp, tLstU, tCons, tNil, tVar]
  refine D1 X _ (Same.refl _) fun p1 xs1 ds1 H1 s1 g1 l1 l1' q1 d1 => ?_
  refine D2 H1 _ s1 fun p2 xs2 ds2 H2 s2 g2 l2 l2' q2 d2 => ?_
  refine D3 H2 _ (s1.trans s2) fun p3 xs3 ds3 H3 s3 g3 l3 l3' q3 d3 => ?_
  refine ⟨(by show 3 ≤ sizeLine; decide), fun p4 H4 s4 n4 h4 => ⟨_, hk, p4, [.ref p1, .ref p2, .ref p3], k, ?_⟩⟩
  have s24 := Same.trans s2 (Same.trans s3 s4)
  have s34 := Same.trans s3 s4
  have kk : k = 0 ∨ k = 1 ∨ k = 2 := by omega
  rcases kk with rfl | rfl | rfl
  · exact ⟨.ref p1, rfl, rfl, SqL.of h4, rfl, q p1 xs1 ds1 H4 (s1.trans s24) g1 l1 (by omega) (z.same s24 _ _ q1) (dpa_same (z.same s24) d1)⟩
  · exact ⟨.ref p2, rfl, rfl, SqL.of h4, rfl, q p2 xs2 ds2 H4 (s1.trans s24) g2 l2 (by omega) (z.same s34 _ _ q2) (dpa_same (z.same s34) d2)⟩
  · exact ⟨.ref p3, rfl, rfl, SqL.of h4, rfl, q p3 xs3 ds3 H4 (s1.trans s24) g3 (by omega) l3' (z.same s4 _ _ q3) (dpa_same (z.same s4) d3)⟩
/-- rows, lists of items -/
def ShR (d : PyData) : Prop := ∃ rs, d = .list rs ∧ 0 < rs.length ∧ rs.length ≤ 12 ∧ ∀ e ∈ rs, ShI 1 e
/-- a sheet as data: lists throughout -/
def ShD (ds : List PyData) : Prop := ∃ (s n w : Int) (d3 d4 d5 : PyData) (ss : List PyData), ds = [.int s, .int n, .int w, d3, d4, d5, .list ss] ∧ s.natAbs ≤ 2000 ∧ n.natAbs ≤ 2000 ∧ w.natAbs ≤ 2000 ∧ ShI 1 d3 ∧ ShR d4 ∧ ShR d5 ∧ ss.length ≤ 5 ∧ ∀ s ∈ ss, ShS s
/-- the arguments, some bent -/
def FOk (es : List PyData) : Prop := es.length = 7 ∧ (∀ i e, es[i]? = some e → i < 6 → Gd 5 e) ∧ ∀ e, es[6]? = some e → SOk e
theorem ShR.gd {d : PyData} (h : ShR d) : Gd 5 d := by
  obtain ⟨rs, rfl, l1, l2, sh⟩ := h
  exact (gd_lst (by omega) fun e he => (sh e he).1).le (by decide)
theorem ShD.fok {ds : List PyData} (h : ShD ds) : FOk ds := by
  obtain ⟨s, n, w, d3, d4, d5, ss, rfl, h0, h1, h2, h3, h4, h5, l, h6⟩ := h
  refine ⟨rfl, fun i e he hi => ?_, fun e he => ?_⟩
  · rcases (show i = 0 ∨ i = 1 ∨ i = 2 ∨ i = 3 ∨ i = 4 ∨ i = 5 by omega) with rfl | rfl | rfl | rfl | rfl | rfl <;> (simp at he; subst he)
    · exact gd_int (by omega)
    · exact gd_int (by omega)
    · exact gd_int (by omega)
    · exact h3.1.le (by decide)
    · exact h4.gd
    · exact h5.gd
  · simp at he
    subst he
    exact sok_either (.inl rfl) (by omega) fun d hd => (h6 d hd).1
theorem FOk.set {es : List PyData} (h : FOk es) {j : Nat} {d : PyData} (g : j < 6 → Gd 5 d) (g6 : j = 6 → SOk d) : FOk (es.set j d) := by
  obtain ⟨h1, h2, h3⟩ := h
  refine ⟨by rw [List.length_set]; exact h1, fun i e he hi => ?_, fun e he => ?_⟩
  · rw [List.getElem?_set] at he
    split at he
    · rename_i c
      subst c
      split at he
      · cases he; exact g hi
      · cases he
    · exact h2 i e he hi
  · rw [List.getElem?_set] at he
    split at he
    · rename_i c
      split at he
      · cases he; exact g6 c
      · cases he
    · exact h3 e he
def sp_bent (K : PySem.W.Frag) : Sp := fun vs H Q _ => ∃ (b c : Addr) (N : Nat) (a : Addr) (ds : List PyData) (w : Int), vs = [.ref b, .ref a, .int w] ∧ Bag (N + 130) H b c ∧ 1 ≤ w ∧ w ≤ 2000 ∧ Dp K (hb H b) (.ref a) (.list ds) ∧ ShD ds ∧
  ∀ r es H', FOk es → Dp K (hb H' b) (.ref r) (.list es) → Bag N H' b c → Kp b H H' → Q (.ref r) H'
theorem ok__law_bent (T : Txt w K mg) : FnOk P w K mg base CX0 7 T.a__law_bent T.d__law_bent ["bag", "slots", "width"] (sp_bent K) := by
  refine T.F__law_bent.ok sc__law_bent (fun vs H Q E h => ?_) (fun cdv A outer s H vs Q E hr h => ?_)
  · obtain ⟨b, c, N, a, ds, w, rfl, _⟩ := h
    rfl
  · obtain ⟨b, c, N0, a, ds, w, rfl, B, w1, w2, hd, shd, kq⟩ := h
    have hr__law_draw : Room 1 _ := hr.mono (by decide)
    have G__law_draw := ok__law_draw (P := P) (base := base) T
    have hr__law_of : Room 2 _ := hr.mono (by decide)
    have G__law_of := ok__law_of (P := P) (base := base) T
    have hr__law_bent_items : Room 4 _ := hr.mono (by decide)
    have G__law_bent_items := ok__law_bent_items (P := P) (base := base) T
    have hr__law_bent_rows : Room 5 _ := hr.mono (by decide)
    have G__law_bent_rows := ok__law_bent_rows (P := P) (base := base) T
    have hr__law_bent_stages : Room 6 _ := hr
    have G__law_bent_stages := ok__law_bent_stages (P := P) (base := base) T
    refine ⟨_, (pss_cons (ps_set (i := 3) sc__law_bent.nd rfl (Or.inl rfl) (pe_callTy call_listU (by rfl) T.n_list (by decide +kernel) (pa_cons (pv 1) pa_nil)))
      (pss_cons (ps_for PassesOwn.never rfl (pi_range1 (by rfl) T.n_range (pa_cons (pe_call G__law_draw hr__law_draw (by rfl) T.m__law_draw T.F__law_draw.kp T.B__law_draw .nil pass0 (pa_cons (pv 0) (pa_cons pe_int pa_nil))) pa_nil)) (pg_name (i := 4) sc__law_bent.nd rfl (Or.inl rfl)) (pss_cons (ps_set (i := 5) sc__law_bent.nd rfl (Or.inl rfl) (pe_call G__law_draw hr__law_draw (by rfl) T.m__law_draw T.F__law_draw.kp T.B__law_draw .nil pass0 (pa_cons (pv 0) (pa_cons pe_int pa_nil))))
      (pss_one (ps_if (pt_cmpR op_lt (pv 5) pe_int (nomark _)) (pss_cons (ps_set (i := 6) sc__law_bent.nd rfl (Or.inl rfl) (pe_ix ix_list (pe_lstU (pa_cons (pe_lstU (pa_cons pe_int (pa_cons pe_int (pa_cons pe_int (pa_cons pe_int pa_nil))))) (pa_cons (pe_lstU (pa_cons pe_int (pa_cons pe_int (pa_cons pe_int (pa_cons pe_int pa_nil))))) (pa_cons (pe_lstU (pa_cons pe_int (pa_cons pe_int (pa_cons pe_int (pa_cons pe_int (pa_cons (pe_op op_pow pe_int pe_int) (pa_cons (pe_op op_sub (pv 2) pe_int) pa_nil))))))) pa_nil)))) (pv 5) (fun _ _ => rfl)))
      (pss_one (ps_asg (pe_call G__law_of hr__law_of (by rfl) T.m__law_of T.F__law_of.kp T.B__law_of .nil pass0 (pa_cons (pv 0) (pa_cons (pe_op op_catL (pv 6) (pe_lstU (pa_cons pe_bl (pa_cons pe_non (pa_cons pe_str (pa_cons (pe_un un_neg pe_int) (pa_cons (pe_tupU (pa_cons pe_int (pa_cons pe_int pa_nil))) (pa_cons (pe_lstU (pa_cons pe_int pa_nil)) pa_nil)))))))) pa_nil))) (pg_sub (pv 3) (pv 5) set_list)))) (pss_one (ps_if (pt_cmpR op_eqI (pv 5) pe_int (nomark _)) (pss_one (ps_asg (pe_call G__law_bent_items hr__law_bent_items (by rfl) T.m__law_bent_items T.F__law_bent_items.kp T.B__law_bent_items .nil pass0 (pa_cons (pv 0) (pa_cons (pe_ix ix_list (pv 1) (pv 5) (fun _ _ => rfl)) (pa_cons pe_int (pa_cons (pv 2) pa_nil))))) (pg_sub (pv 3) (pv 5) set_list))) (pss_one (ps_if (pt_cmpR op_lt (pv 5) pe_int (nomark _)) (pss_one (ps_asg (pe_call G__law_bent_rows hr__law_bent_rows (by rfl) T.m__law_bent_rows T.F__law_bent_rows.kp T.B__law_bent_rows .nil pass0 (pa_cons (pv 0) (pa_cons (pe_ix ix_list (pv 1) (pv 5) (fun _ _ => rfl)) (pa_cons (pv 2) pa_nil)))) (pg_sub (pv 3) (pv 5) set_list))) (pss_one (ps_asg (pe_call G__law_bent_stages hr__law_bent_stages (by rfl) T.m__law_bent_stages T.F__law_bent_stages.kp T.B__law_bent_stages .nil pass0 (pa_cons (pv 0) (pa_cons (pe_ix ix_list (pv 1) (pv 5) (fun _ _ => rfl)) (pa_cons (pv 2) pa_nil)))) (pg_sub (pv 3) (pv 5) set_list)))))))))))
      (pss_one (ps_ret (pv 3))))), ?_⟩
    have zx := zok_hb B
    cases hd with
    | @lst _ xs _ ha hx =>
    have lx := dpa_len hx
    refine seq_op fun N hN => ?_
    walk_at "rs"
    refine ⟨xs, .inl (Same.seq (hb_le _ _) ha), fun p H2 s2 p0 p1 => hN _ _ ?_⟩
    clear hN N
    have L0 := LL.mk0 zx B (Same.refl _) s2 p0 p1 hx
    refine seq_op fun N hN => ?_
    walk_at "rs"
    refine ⟨_, rfl, b, c, 4, N0 + 129, rfl, L0.bag, by decide, by decide, fun r H3 r0 r1 B3 K3 => ⟨r, rfl, by omega, by omega, for_range (lo := 0) (n := r.toNat) (fun i σ G => ∃ (y4 y5 y6 : Option V) (es : List PyData), σ = [some (.ref b), some (.ref a), some (.int w), some (.ref p), y4, y5, y6] ∧ LL K (fun G => hb G b) b c H (N0 + (3 - i) * 42) G p es ∧ FOk es) ⟨_, _, _, ds, rfl, (L0.step B3 K3).le (by omega), shd.fok⟩ ?_ ?_⟩⟩
    · rintro i σ G hi ⟨y4, y5, y6, es, rfl, L1, fo⟩
      refine seq_op fun N2 hN2 => ?_
      walk_at "rs"
      refine ⟨b, c, 7, N0 + (3 - (i + 1)) * 42 + 41, rfl, L1.bag.le (by omega), by decide, by decide, fun k H4 k0 k1 B4 K4 => hN2 _ _ ?_⟩
      clear hN2 N2
      replace L1 := L1.step B4 K4
      obtain ⟨xs1, e1, e2⟩ := L1.at_
      have lf := fo.1
      have put : ∀ {y6 : Option V} {d : PyData} (G' : Hp), (k.toNat < 6 → Gd 5 d) → (k.toNat = 6 → SOk d) → LL K (fun G => hb G b) b c H (N0 + (3 - (i + 1)) * 42) G' p (es.set k.toNat d) → ∃ (y4' y5' y6' : Option V) (es : List PyData), [some (V.ref b), some (.ref a), some (.int w), some (.ref p), some (.int (0 + i)), some (.int k), y6] = [some (.ref b), some (.ref a), some (.int w), some (.ref p), y4', y5', y6'] ∧ LL K (fun G => hb G b) b c H (N0 + (3 - (i + 1)) * 42) G' p es ∧ FOk es := fun G' g g6 L' => ⟨_, _, _, _, rfl, L', fo.set g g6⟩
      have hsl : SqL K H4 a xs := Same.seq (Same.trans L1.kp (hb_le _ _)) ha
      have hz : DpAll K (Zp (fun G => hb G b) p H4) xs ds := dpa_same L1.old hx
      obtain ⟨sN, nN, wN, d3, d4, d5, ss, eds, i0, i1, i2, i3, i4, i5, l5, i6⟩ := id shd
      have lds : ds.length = 7 := by rw [eds]; rfl
      have kl : k.toNat < xs.length := by omega
      have hxk : xs[k.toNat]? = some xs[k.toNat] := List.getElem?_eq_getElem kl
      have atk : atI xs k = some xs[k.toNat] := at_of (j := k.toNat) (by omega) hxk
      have hdk : ∀ d, ds[k.toNat]? = some d → Dp K (Zp (fun G => hb G b) p H4) xs[k.toNat] d := fun d h => dpa_at hz hxk h
      generalize xs[k.toNat] = one at atk hdk
      have z := L1.zok
      refine if_int rfl (fun c3 => ?_) (fun c3 => if_int rfl (fun c4 => ?_) (fun c4 => if_int rfl (fun c5 => ?_) (fun c5 => ?_)))
      · have c3 := of_decide_eq_true c3
        refine seq_op fun N2 hN2 => ?_
        refine pick3 (K := K) (n := 1) z (dl_disp z ?_ (by decide)) (dl_disp z ?_ (by decide)) (dl_disp z ?_ (by decide)) rfl k0 c3 fun q xs3 ds3 G' s g l4 l6 hq hd3 => hN2 _ _ ?_
        · walk_at "dg"
        · walk_at "dg"
        · exact da_cons z (dg_int (by decide)) (da_cons z (dg_int (by decide)) (da_cons z (dg_int (by decide)) (da_cons z (dg_int (by decide)) (da_cons z dg_pow (da_cons z (dg_subI rfl (by omega)) da_nil)))))
        · have z' := z.up s
          refine of_dg (n := 1) (lo := 4 + 6) (hi := 6 + 6) (c := c) (N := N0 + (3 - (i + 1)) * 42) z' ((L1.bag.same s).le (by omega)) rfl (dl_cat z' (dl_var z' rfl g l4 l6 hq hd3) (dl_disp z' ?_ (by decide)) (by decide)) (by decide) (by decide) fun v d H5 g' hv B5 K5 => gsub_ll ((L1.step (L1.bag.same s) (Kp.of s)).step B5 K5) rfl rfl k0 (by omega) hv fun G2 L2 => put G2 (fun _ => g'.le (by decide)) (fun h => absurd h (by omega)) L2
          walk_at "dg"
          all_goals decide
      · have c4 := of_decide_eq_true c4
        subst c4
        exact ⟨_, rfl, _, rfl, _, rfl, a, xs, 3, one, rfl, rfl, hsl, atk, _, rfl, b, c, N0 + (3 - (i + 1)) * 42, 1, one, d3, w, _, rfl, z, L1.bag.le (by omega), .inl rfl, w1, w2, hdk d3 (by rw [eds]; rfl), i3, fun u e H' g hu B' K' => gsub_ll (L1.step B' K') rfl rfl k0 (by omega) hu fun G2 L2 => put G2 (fun _ => g.le (by decide)) (fun h => absurd h (by decide)) L2⟩
      · have c5 := of_decide_eq_true c5
        have c3 := of_decide_eq_false c3
        have c4 := of_decide_eq_false c4
        have k45 : k = 4 ∨ k = 5 := by omega
        obtain ⟨d, hdd, rs, rfl, l1, l12, rsh⟩ : ∃ d, ds[k.toNat]? = some d ∧ ShR d := by
          rcases k45 with rfl | rfl
          · exact ⟨d4, by rw [eds]; rfl, i4⟩
          · exact ⟨d5, by rw [eds]; rfl, i5⟩
        exact ⟨_, rfl, _, rfl, _, rfl, a, xs, k, one, rfl, rfl, hsl, atk, _, rfl, b, c, N0 + (3 - (i + 1)) * 42, one, rs, w, _, rfl, z, L1.bag.le (by omega), w1, w2, hdk _ hdd, l1, l12, rsh, fun u e H' g hu B' K' => gsub_ll (L1.step B' K') rfl rfl k0 (by omega) hu fun G2 L2 => put G2 (fun _ => g) (fun h => absurd h (by omega)) L2⟩
      · have c5 := of_decide_eq_false c5
        have k6 : k = 6 := by omega
        subst k6
        exact ⟨_, rfl, _, rfl, _, rfl, a, xs, 6, one, rfl, rfl, hsl, atk, _, rfl, b, c, N0 + (3 - (i + 1)) * 42, one, ss, w, _, rfl, z, L1.bag.le (by omega), w1, w2, hdk _ (by rw [eds]; rfl), l5, i6, fun u e H' g hu B' K' => gsub_ll (L1.step B' K') rfl rfl k0 (by omega) hu fun G2 L2 => put G2 (fun h => absurd h (by decide)) (fun _ => g) L2⟩
    · rintro σ G ⟨y4, y5, y6, es, rfl, L1, fo⟩
      refine hN _ _ ?_
      clear hN
      walk_at "rs"
      exact kq p es G fo L1.dp (L1.bag.le (by omega)) L1.kp
end
end LK

set_option Elab.async false
set_option linter.all false
set_option maxRecDepth 100000
namespace LK
open PySem PySem.Spec PyProof.Rows L2
local macro_rules | `(tactic| walk_at "rs") => `(tactic| simp only [tFld, sFld, tMeth, tMethZ, tMakeK, tMakeS, tMethS, tEf, tProp, tFmt, rEqO, rNeO, cxK, cxNK, tCallZ, tAsg, tOp, rI0, rS0, rB0, rI, rU, tUn, rEq, rNe, rIxL, rIxT, rIxS, rSetL, rSlLU, rSlS, rSlU, rCatL, rCatU, rRepL, rIn, tVar, tC, gName, gSub, tIfS, tTest, tB, tAnd, tOr, tNot, tNotV, tAndV, tOrV, tIf, tCall, tCons, tNil, tCB, tDrop, tRet, tRetN, tNext, tLstU, tTupU, tM0, tM1, tPar, tPar3, tAug, ipI, tBM, tBM0, rAppend, rPop, tBreak, sDPut, tDGet, tDGet2, tCont, tChain, tSl, tPart, tNoPart, L2.start, List.map, List.length_cons, List.length_nil, List.replicate, List.cons_append, List.nil_append, List.append_nil, List.getElem?_cons_zero, List.getElem?_cons_succ, List.set_cons_zero, List.set_cons_succ, Option.some.injEq, V.int.injEq, V.ref.injEq, V.str.injEq, V.bl.injEq, exists_eq_left', exists_eq_left, exists_and_left, decide_eq_true_eq, List.cons.injEq, and_true, true_and, scal, Bool.not_eq_true', decide_eq_false_iff_not, Nat.zero_add, Nat.reduceAdd, Nat.reduceSub, reduceCtorEq, false_and, exists_false, false_or, or_false, CPow, CPowW, CMul, CDiv, Int.reduceToNat, ↓reduceIte, wipe, sw, List.nil_append, List.singleton_append])
local macro_rules | `(tactic| walk_at "st") => `(tactic| (refine seq_op fun N hN => ?_; walk_at "rs"))
local macro_rules | `(tactic| walk_at "sd") => `(tactic| first | assumption | decide | omega)
local macro_rules | `(tactic| walk_at "rd") => `(tactic| repeat (first
  | refine ⟨_, SqL.of (by assumption), ?_⟩ | refine ⟨_, SqL.of upd_same, ?_⟩ | refine ⟨_, .inl (SqL.of (by assumption)), ?_⟩ | refine ⟨_, (by assumption : _ = some (HO.lst _)), ?_⟩ | refine ⟨_, upd_same, ?_⟩
  | refine ⟨_, rfl, ?_⟩ | refine And.intro (by walk_at "sd") ?_))

/-! ### a sheet's data: lists throughout -/
def lI (l : List It) : PyData := .list (l.map dIt)
def dPL (k : Bool) (p : Pt) : PyData := .tuple (if k = true then [lI p.a, lI p.b] else [lI p.a, dF p.f, lI p.b])
def dSL (s : Sg) : PyData := .tuple [.str (kS s.1), .list (s.2.map (dPL s.1))]
def dX (x : Nd) : List PyData := [.int x.s, .int x.n, .int x.w, lI x.rest, .list (x.sg.map lI), .list (x.pl.map lI), .list (x.st.map dSL)]
section
variable {K : PySem.W.Frag} {H : Hp}
theorem IL.dp {v : V} {l : List It} : IL K H v l → Dp K H v (lI l) := fun ⟨a, xs, e, h, i⟩ => by subst e; exact .lst (SqL.of h) i.dp
theorem RL.dp {v : V} {l : List (List It)} : RL K H v l → Dp K H v (.list (l.map lI)) := fun ⟨a, xs, e, h, i⟩ => by subst e; exact .lst (SqL.of h) (dpa_al (i.imp fun _ _ h => h.dp))
theorem PL.dp {k : Bool} {v : V} {p : Pt} : PL K H k v p → Dp K H v (dPL k p) := fun ⟨a, x, y, e, hx, hy, h⟩ => by
  subst e
  unfold dPL
  split at h
  · rename_i c
    rw [if_pos c]
    exact .tup h (.cons hx.dp (.cons hy.dp .nil))
  · rename_i c
    rw [if_neg c]
    obtain ⟨u, h1, h2⟩ := h
    exact .tup h1 (.cons hx.dp (.cons (dF_at h2) (.cons hy.dp .nil)))
theorem SL.dp {v : V} {s : Sg} : SL K H v s → Dp K H v (dSL s) := fun ⟨a, p, xs, e, h, i, r⟩ => by
  subst e
  exact .tup h (.cons (.str _) (.cons (.lst (SqL.of i) (dpa_al (r.imp fun _ _ h => h.dp))) .nil))
theorem StL.dp {v : V} {l : List Sg} : StL K H v l → Dp K H v (.list (l.map dSL)) := fun ⟨a, xs, e, h, i⟩ => by subst e; exact .lst (SqL.of h) (dpa_al (i.imp fun _ _ h => h.dp))
end
theorem dF_gd {f : Fr} (h : okB 1000000000000000000 1000000000000000000 f) : Gd 1 (dF f) := gd_tup (by show 2 ≤ 20; decide) fun d hd => by
  rcases List.mem_cons.mp hd with rfl | hd
  · exact gd_int h.2.2.1
  · rcases List.mem_singleton.mp hd with rfl
    exact gd_int h.2.2.2
theorem dIt_gd {m : Nat} {w : Int} {x : It} (hm : m = 1 ∨ m = 2) (w2 : w ≤ 2000) (h : okB 1000000000000000000 1000000000000000000 x.2) (l : x.1.length = m) (b : TS.Bd w x.1) : Gd 2 (dIt x) := gd_tup (by rw [List.length_append, List.length_map]; show _ + 1 ≤ 20; omega) fun d hd => by
  rcases List.mem_append.mp hd with hd | hd
  · obtain ⟨j, hj, rfl⟩ := List.mem_map.mp hd
    have := b j hj
    exact gd_int (by omega)
  · rcases List.mem_singleton.mp hd with rfl
    exact dF_gd h
theorem lI_sh {m n : Nat} {w : Int} {l : List It} (g : Gi n m w l) (z : SzI l) : ShI m (lI l) := by
  refine ⟨gd_lst (by rw [List.length_map]; exact z.1) fun d hd => ?_, _, rfl, fun e he => ?_⟩
  · obtain ⟨x, hx, rfl⟩ := List.mem_map.mp hd
    exact dIt_gd g.hd g.w2 (z.2 x hx) (g.ft.it x hx).2.2.1 (g.bd x hx)
  · obtain ⟨x, hx, rfl⟩ := List.mem_map.mp he
    exact ⟨_, rfl, by rw [List.length_append, List.length_map, (g.ft.it x hx).2.2.1]; rfl⟩
theorem dPL_sh {n : Nat} {w : Int} {k : Bool} {p : Pt} (g : Gp n w k p) (z : Sz p) : ShP k (dPL k p) ∧ Gd 4 (dPL k p) := by
  unfold ShP dPL
  cases k with
  | true =>
    have h1 : ShI 2 (lI p.a) := lI_sh (m := 2) g.a z.1
    have h2 : ShI 2 (lI p.b) := lI_sh (m := 2) g.b z.2.1
    refine ⟨by rw [if_pos rfl, if_pos rfl]; exact ⟨_, _, rfl, h1, h2⟩, ?_⟩
    rw [if_pos rfl]
    exact gd_tup (by show 2 ≤ 20; decide) fun d hd => by
      rcases List.mem_cons.mp hd with rfl | hd
      · exact h1.1
      · rcases List.mem_singleton.mp hd with rfl
        exact h2.1
  | false =>
    have h1 : ShI 1 (lI p.a) := lI_sh (m := 1) g.a z.1
    have h2 : ShI 1 (lI p.b) := lI_sh (m := 1) g.b z.2.1
    refine ⟨by rw [if_neg (by decide), if_neg (by decide)]; exact ⟨_, _, _, rfl, h1, h2⟩, ?_⟩
    rw [if_neg (by decide)]
    exact gd_tup (by show 3 ≤ 20; decide) fun d hd => by
      rcases List.mem_cons.mp hd with rfl | hd
      · exact h1.1
      · rcases List.mem_cons.mp hd with rfl | hd
        · exact (dF_gd z.2.2).le (by decide)
        · rcases List.mem_singleton.mp hd with rfl
          exact h2.1
theorem dSL_sh {n : Nat} {w : Int} {s : Sg} (g : Gs n w s) (z : ∀ p ∈ s.2, Sz p) : ShS (dSL s) := by
  refine ⟨gd_tup (by show 2 ≤ 20; decide) fun d hd => ?_, s.1, _, rfl, fun p hp => ?_⟩
  · rcases List.mem_cons.mp hd with rfl | hd
    · exact kS_gd _
    · rcases List.mem_singleton.mp hd with rfl
      exact gd_lst (by rw [List.length_map]; exact g.len) fun d hd => by
        obtain ⟨p, hp, rfl⟩ := List.mem_map.mp hd
        exact (dPL_sh (g.it p hp) (z p hp)).2
  · obtain ⟨q, hq, rfl⟩ := List.mem_map.mp hp
    exact (dPL_sh (g.it q hq) (z q hq)).1
theorem dX_sh {x : Nd} (g : Gn 400 x) (z : Smx x) (l5 : x.st.length ≤ 5) : ShD (dX x) := by
  have s := g.s
  have n := g.n
  have w := g.w
  have l1 := g.sg.1
  have l2 := g.pl.1
  refine ⟨x.s, x.n, x.w, _, _, _, _, rfl, by omega, by omega, by omega, lI_sh g.rest z.rest, ⟨_, rfl, by rw [List.length_map]; omega, by rw [List.length_map]; omega, fun e he => ?_⟩, ⟨_, rfl, by rw [List.length_map]; omega, by rw [List.length_map]; omega, fun e he => ?_⟩, by rw [List.length_map]; exact l5, fun e he => ?_⟩
  · obtain ⟨r, hr, rfl⟩ := List.mem_map.mp he
    exact lI_sh (g.sg.2 r hr) (z.sg r hr)
  · obtain ⟨r, hr, rfl⟩ := List.mem_map.mp he
    exact lI_sh (g.pl.2 r hr) (z.pl r hr)
  · obtain ⟨r, hr, rfl⟩ := List.mem_map.mp he
    exact dSL_sh (g.st.2 r hr) (z.st r hr)
/-! ### a sheet is right -/
theorem itemsL_is {m d : Nat} {w : Int} {l : List It} (g : Gi m d w l) : isItems d w (lI l) = true := items_is g
theorem rowsL_is {m : Nat} {w n : Int} {l : List (List It)} (h : (l.length : Int) = n) (g : ∀ r ∈ l, Gi m 1 w r) : isRows n w (.list (l.map lI)) = true := by
  show (decide (((l.map lI).length : Int) = n) && (l.map lI).all (isItems 1 w)) = true
  rw [List.length_map, decide_eq_true h, Bool.true_and, List.all_map, List.all_eq_true]
  exact fun x hx => itemsL_is (g x hx)
theorem stageL_is {m : Nat} {w : Int} {s : Sg} (g : Gs m w s) : isStage w (dSL s) = true := by
  have hk : isKind (.str (kS s.1)) = some s.1 := by cases s.1 <;> rfl
  show (match isKind (.str (kS s.1)), sqD (.list (s.2.map (dPL s.1))) with
    | some k, some ds => ds.all (isPart k w)
    | _, _ => false) = true
  rw [hk]
  show (s.2.map (dPL s.1)).all (isPart s.1 w) = true
  rw [List.all_map, List.all_eq_true]
  intro p hp
  have gp := g.it p hp
  show isPart s.1 w (dPL s.1 p) = true
  obtain ⟨k, ps⟩ := s
  dsimp only at gp ⊢
  cases k with
  | true =>
    show (isItems 2 w (lI p.a) && isItems 2 w (lI p.b)) = true
    rw [itemsL_is (d := 2) gp.a, itemsL_is (d := 2) gp.b]; rfl
  | false =>
    show (isFrac (dF p.f) && (isItems 1 w (lI p.a) && isItems 1 w (lI p.b))) = true
    rw [frac_low gp.f.1, itemsL_is (d := 1) gp.a, itemsL_is (d := 1) gp.b]; rfl
theorem stagesL_is {m : Nat} {w : Int} {l : List Sg} (h : l.length ≤ 100) (g : ∀ s ∈ l, Gs m w s) : stEr w (.list (l.map dSL)) = none := by
  show (if 100 < (l.map dSL).length then some (Er.many "stages" (l.map dSL).length) else (fstBad w (l.map dSL) 0).map Er.badAt) = none
  rw [List.length_map, if_neg (by omega), fstBad_all]
  · rfl
  · rw [List.all_map, List.all_eq_true]
    exact fun s hs => stageL_is (g s hs)
theorem dX_is {m : Nat} {x : Nd} (g : Gn m x) : netEr (dX x) = none := by
  obtain ⟨s1, s2⟩ := g.s
  obtain ⟨n1, n2⟩ := g.n
  obtain ⟨w1, w2⟩ := g.w
  have c : (within 2 5 (.int x.s) && (within 1 8 (.int x.n) && within 1 1000000000000000000 (.int x.w))) = true := by
    rw [within_i, within_i, within_i, decide_eq_true s1, decide_eq_true s2, decide_eq_true n1, decide_eq_true n2, decide_eq_true w1, decide_eq_true (show x.w ≤ 1000000000000000000 by omega)]
    rfl
  refine (if_neg (by rw [c]; decide)).trans ?_
  show (if 2000 < x.w then _ else if isItems 1 x.w (lI x.rest) = false then _ else if isRows x.s x.w (.list (x.sg.map lI)) = false then _ else if isRows x.n x.w (.list (x.pl.map lI)) = false then _ else stEr x.w (.list (x.st.map dSL))) = _
  rw [if_neg (by omega), itemsL_is g.rest, if_neg (by decide), rowsL_is g.sg.1 g.sg.2, if_neg (by decide), rowsL_is g.pl.1 g.pl.2, if_neg (by decide), stagesL_is g.st.1 g.st.2]
end LK

set_option Elab.async false
set_option linter.all false
set_option maxRecDepth 100000
namespace LK
open PySem PySem.Spec PyProof.Rows L2
local macro_rules | `(tactic| walk_at "rs") => `(tactic| simp only [tFld, sFld, tMeth, tMethZ, tMakeK, tMakeS, tMethS, tEf, tProp, tFmt, rEqO, rNeO, cxK, cxNK, tCallZ, tAsg, tOp, rI0, rS0, rB0, rI, rU, tUn, rEq, rNe, rIxL, rIxT, rIxS, rSetL, rSlLU, rSlS, rSlU, rCatL, rCatU, rRepL, rIn, tVar, tC, gName, gSub, tIfS, tTest, tB, tAnd, tOr, tNot, tNotV, tAndV, tOrV, tIf, tCall, tCons, tNil, tCB, tDrop, tRet, tRetN, tNext, tLstU, tTupU, tM0, tM1, tPar, tPar3, tAug, ipI, tBM, tBM0, rAppend, rPop, tBreak, sDPut, tDGet, tDGet2, tCont, tChain, tSl, tPart, tNoPart, L2.start, List.map, List.length_cons, List.length_nil, List.replicate, List.cons_append, List.nil_append, List.append_nil, List.getElem?_cons_zero, List.getElem?_cons_succ, List.set_cons_zero, List.set_cons_succ, Option.some.injEq, V.int.injEq, V.ref.injEq, V.str.injEq, V.bl.injEq, exists_eq_left', exists_eq_left, exists_and_left, decide_eq_true_eq, List.cons.injEq, and_true, true_and, scal, Bool.not_eq_true', decide_eq_false_iff_not, Nat.zero_add, Nat.reduceAdd, Nat.reduceSub, reduceCtorEq, false_and, exists_false, false_or, or_false, CPow, CPowW, CMul, CDiv, Int.reduceToNat, ↓reduceIte, wipe, sw, List.nil_append, List.singleton_append])
local macro_rules | `(tactic| walk_at "st") => `(tactic| (refine seq_op fun N hN => ?_; walk_at "rs"))
local macro_rules | `(tactic| walk_at "sd") => `(tactic| first | assumption | decide | omega)
local macro_rules | `(tactic| walk_at "rd") => `(tactic| repeat (first
  | refine ⟨_, SqL.of (by assumption), ?_⟩ | refine ⟨_, SqL.of upd_same, ?_⟩ | refine ⟨_, .inl (SqL.of (by assumption)), ?_⟩ | refine ⟨_, (by assumption : _ = some (HO.lst _)), ?_⟩ | refine ⟨_, upd_same, ?_⟩
  | refine ⟨_, rfl, ?_⟩ | refine And.intro (by walk_at "sd") ?_))

theorem ite_none {α : Type} {c : Prop} [Decidable c] {a : α} {o : Option α} (h : (if c then some a else o) = none) : ¬ c ∧ o = none := by
  by_cases q : c
  · rw [if_pos q] at h; cases h
  · rw [if_neg q] at h; exact ⟨q, h⟩
theorem numD_gd {n : Nat} {d : PyData} (g : Gd n d) : numD d ≤ 1000000000000000000 := by
  have b := g.bd
  cases d <;> first | (show (0 : Int) ≤ _; decide) | skip
  rename_i i
  have : decide (i.natAbs ≤ 1000000000000000000) = true := b
  rw [decide_eq_true_iff] at this
  show i ≤ _
  omega
theorem stEr_ok {w : Int} {d : PyData} {e : Er} (h : stEr w d = some e) : okD (erD (some e)) = true := by
  unfold stEr at h
  split at h
  · cases h; decide +kernel
  · split at h
    · cases h
      exact okD_tup.mpr ⟨by show 3 ≤ 100000; decide, by simp only [okAll, okD]; decide⟩
    · obtain ⟨k, _, rfl⟩ := Option.map_eq_some_iff.mp h
      exact okD_tup.mpr ⟨by show 2 ≤ 100000; decide, by simp only [okAll, okD]; decide⟩
theorem netEr_ok {d0 d1 d2 d3 d4 d5 d6 : PyData} {e : Er} (h : netEr [d0, d1, d2, d3, d4, d5, d6] = some e) : okD (erD (some e)) = true := by
  have h' : (if (within 2 5 d0 && (within 1 8 d1 && within 1 1000000000000000000 d2)) = false then some (.bad "size")
    else if 2000 < numD d2 then some (.many "width" (numD d2))
    else if isItems 1 (numD d2) d3 = false then some (.bad "rest")
    else if isRows (numD d0) (numD d2) d4 = false then some (.bad "signs")
    else if isRows (numD d1) (numD d2) d5 = false then some (.bad "places")
    else stEr (numD d2) d6) = some e := h
  split at h'
  · cases h'; decide +kernel
  split at h'
  · cases h'
    exact okD_tup.mpr ⟨by show 3 ≤ 100000; decide, by simp only [okAll, okD]; decide⟩
  split at h'
  · cases h'; decide +kernel
  split at h'
  · cases h'; decide +kernel
  split at h'
  · cases h'; decide +kernel
  exact stEr_ok h'
section
variable {K : PySem.W.Frag} {H : Hp}
/-- what is known of the bent arguments at the heap -/
theorem bent_known {vs : List V} {es : List PyData} (hx : DpAll K H vs es) (fo : FOk es) : ∃ (v0 v1 v2 vr vg vp vt : V) (d0 d1 d2 d3 d4 d5 d6 : PyData), vs = [v0, v1, v2, vr, vg, vp, vt] ∧ es = [d0, d1, d2, d3, d4, d5, d6] ∧
    Dp K H v0 d0 ∧ Dp K H v1 d1 ∧ Dp K H v2 d2 ∧ Dp K H vr d3 ∧ Dp K H vg d4 ∧ Dp K H vp d5 ∧ Dp K H vt d6 ∧ okAll [d3, d4, d5, d6] = true ∧ okAll [d0, d1, d2, d3, d4, d5, d6] = true ∧ numD d2 ≤ 1000000000000000000 ∧
    (netEr [d0, d1, d2, d3, d4, d5, d6] = none → ∃ x : Nd, v0 = .int x.s ∧ v1 = .int x.n ∧ v2 = .int x.w ∧ IV K H vr x.rest ∧ RV K H vg x.sg ∧ RV K H vp x.pl ∧ SsV K H vt x.st ∧ Gn 1300 x) := by
  obtain ⟨l7, g, s6⟩ := fo
  rcases es with _ | ⟨d0, _ | ⟨d1, _ | ⟨d2, _ | ⟨d3, _ | ⟨d4, _ | ⟨d5, _ | ⟨d6, _ | ⟨d7, r⟩⟩⟩⟩⟩⟩⟩⟩ <;> first | (simp at l7; done) | skip
  have g0 := g 0 d0 rfl (by decide)
  have g1 := g 1 d1 rfl (by decide)
  have g2 := g 2 d2 rfl (by decide)
  have g3 := g 3 d3 rfl (by decide)
  have g4 := g 4 d4 rfl (by decide)
  have g5 := g 5 d5 rfl (by decide)
  have g6 := s6 d6 rfl
  clear g s6
  cases hx with | cons h0 hx =>
  cases hx with | cons h1 hx =>
  cases hx with | cons h2 hx =>
  cases hx with | cons h3 hx =>
  cases hx with | cons h4 hx =>
  cases hx with | cons h5 hx =>
  cases hx with | cons h6 hx =>
  cases hx
  refine ⟨_, _, _, _, _, _, _, d0, d1, d2, d3, d4, d5, d6, rfl, rfl, h0, h1, h2, h3, h4, h5, h6, by simp only [okAll, g3.ok, g4.ok, g5.ok, g6.1, Bool.and_self], by simp only [okAll, g0.ok, g1.ok, g2.ok, g3.ok, g4.ok, g5.ok, g6.1, Bool.and_self], numD_gd g2, fun e => ?_⟩
  obtain ⟨c1, e⟩ := ite_none e
  rw [Bool.not_eq_false, Bool.and_eq_true, Bool.and_eq_true] at c1
  obtain ⟨i0, rfl, rfl, a1, a2⟩ := within_num h0 c1.1
  obtain ⟨i1, rfl, rfl, a3, a4⟩ := within_num h1 c1.2.1
  obtain ⟨wd, rfl, rfl, w1, w18⟩ := within_num h2 c1.2.2
  obtain ⟨c2, e⟩ := ite_none e
  have w2 : wd ≤ 2000 := Int.not_lt.mp c2
  obtain ⟨c3, e⟩ := ite_none e
  rw [Bool.not_eq_false] at c3
  obtain ⟨c4, e⟩ := ite_none e
  rw [Bool.not_eq_false] at c4
  obtain ⟨c5, e⟩ := ite_none e
  rw [Bool.not_eq_false] at c5
  obtain ⟨lr, er, gr⟩ := items_ex (.inl rfl) w2 c3 g3.bd
  obtain ⟨lg, hg, lgl, gg⟩ := rows_rv w2 c4 g4.bd h4
  obtain ⟨lp, hp, lpl, gp⟩ := rows_rv w2 c5 g5.bd h5
  have e' : stEr wd d6 = none := e
  cases q : sqD d6 with
  | none =>
    unfold stEr at e'
    rw [q] at e'
    cases e'
  | some ds =>
    obtain ⟨st, hs, ls, gs⟩ := stages_ssv w2 e' q (g6.2 ds q) h6
    exact ⟨⟨i0, i1, wd, lr, lg, lp, st⟩, rfl, rfl, rfl, iv_sq h3 er, hg, hp, hs, ⟨⟨a1, a2⟩, ⟨a3, a4⟩, ⟨w1, w2⟩, gr, ⟨lgl, gg⟩, ⟨lpl, gp⟩, ⟨ls, gs⟩⟩⟩
theorem Gi.m {m m' d : Nat} {w : Int} {l : List It} (g : Gi m d w l) (h : m ≤ m') : Gi m' d w l := g.le h (Int.le_refl _) g.w2
theorem Gn.le {m m' : Nat} {x : Nd} (g : Gn m x) (h : m ≤ m') : Gn m' x := ⟨g.s, g.n, g.w, g.rest.m h, ⟨g.sg.1, fun l hl => (g.sg.2 l hl).m h⟩, ⟨g.pl.1, fun l hl => (g.pl.2 l hl).m h⟩, ⟨g.st.1, fun s hs => (g.st.2 s hs).le h (Int.le_refl _) g.w.2⟩⟩
end
end LK

set_option Elab.async false
set_option linter.all false
set_option maxRecDepth 100000
namespace LK
open PySem PySem.Spec PyProof.Rows L2
local macro_rules | `(tactic| walk_at "rs") => `(tactic| simp only [tFld, sFld, tMeth, tMethZ, tMakeK, tMakeS, tMethS, tEf, tProp, tFmt, rEqO, rNeO, cxK, cxNK, tCallZ, tAsg, tOp, rI0, rS0, rB0, rI, rU, tUn, rEq, rNe, rIxL, rIxT, rIxS, rSetL, rSlLU, rSlS, rSlU, rCatL, rCatU, rRepL, rIn, tVar, tC, gName, gSub, tIfS, tTest, tB, tAnd, tOr, tNot, tNotV, tAndV, tOrV, tIf, tCall, tCons, tNil, tCB, tDrop, tRet, tRetN, tNext, tLstU, tTupU, tM0, tM1, tPar, tPar3, tAug, ipI, tBM, tBM0, rAppend, rPop, tBreak, sDPut, tDGet, tDGet2, tCont, tChain, tSl, tPart, tNoPart, L2.start, List.map, List.length_cons, List.length_nil, List.replicate, List.cons_append, List.nil_append, List.append_nil, List.getElem?_cons_zero, List.getElem?_cons_succ, List.set_cons_zero, List.set_cons_succ, Option.some.injEq, V.int.injEq, V.ref.injEq, V.str.injEq, V.bl.injEq, exists_eq_left', exists_eq_left, exists_and_left, decide_eq_true_eq, List.cons.injEq, and_true, true_and, scal, Bool.not_eq_true', decide_eq_false_iff_not, Nat.zero_add, Nat.reduceAdd, Nat.reduceSub, reduceCtorEq, false_and, exists_false, false_or, or_false, CPow, CPowW, CMul, CDiv, Int.reduceToNat, ↓reduceIte, wipe, sw, List.nil_append, List.singleton_append])
local macro_rules | `(tactic| walk_at "st") => `(tactic| (refine seq_op fun N hN => ?_; walk_at "rs"))
local macro_rules | `(tactic| walk_at "sd") => `(tactic| first | assumption | decide | omega)
local macro_rules | `(tactic| walk_at "rd") => `(tactic| repeat (first
  | refine ⟨_, SqL.of (by assumption), ?_⟩ | refine ⟨_, SqL.of upd_same, ?_⟩ | refine ⟨_, .inl (SqL.of (by assumption)), ?_⟩ | refine ⟨_, (by assumption : _ = some (HO.lst _)), ?_⟩ | refine ⟨_, upd_same, ?_⟩
  | refine ⟨_, rfl, ?_⟩ | refine And.intro (by walk_at "sd") ?_))

section
variable {P : Program} {w : World} {K : PySem.W.Frag} {mg : Str → Option Value} {base : Heap}
def sp_law (K : PySem.W.Frag) : Sp := fun vs H Q _ => ∃ (a : Addr) (ns : List Int), vs = [.ref a] ∧ SqL K H a (ns.map V.int) ∧ ns.length ≤ 63 ∧ ∀ H', Q (.bl true) H'
theorem NA.hb {H : Hp} {b c : Addr} {N : Nat} {C : Addr} {v : V} {x : Nd} (B : Bag N H b c) (h : NA K H C v x) : NA K (LK.hb H b) C v x := NA.tk (Tk.hb B) h
theorem StL.ssv {H : Hp} {v : V} {l : List Sg} : StL K H v l → SsV K H v l := fun ⟨a, xs, e, h, i⟩ => ⟨a, xs, e, .inl (SqL.of h), i.imp fun _ _ => SL.sv⟩
theorem ok_law (T : Txt w K mg) : FnOk P w K mg base CX0 12 T.a_law T.d_law ["script"] (sp_law K) := by
  refine T.F_law.ok sc_law (fun vs H Q E h => ?_) (fun cdv A outer s H vs Q E hr h => ?_)
  · obtain ⟨a, ns, rfl, _⟩ := h
    rfl
  · obtain ⟨a, ns, rfl, ha, l63, kq⟩ := h
    have hr__law_bag : Room 1 _ := hr.mono (by decide)
    have G__law_bag := ok__law_bag (P := P) (base := base) T
    have hr__law_draw : Room 1 _ := hr.mono (by decide)
    have G__law_draw := ok__law_draw (P := P) (base := base) T
    have hr__law_sheet : Room 6 _ := hr.mono (by decide)
    have G__law_sheet := ok__law_sheet (P := P) (base := base) T
    have hr__law_bent : Room 7 _ := hr.mono (by decide)
    have G__law_bent := ok__law_bent (P := P) (base := base) T
    have hr__law_bent_stages : Room 6 _ := hr.mono (by decide)
    have G__law_bent_stages := ok__law_bent_stages (P := P) (base := base) T
    have hr__law_made : Room 10 _ := hr.mono (by decide)
    have G__law_made := ok__law_made (P := P) (base := base) T
    have hr__law_staged : Room 11 _ := hr
    have G__law_staged := ok__law_staged (P := P) (base := base) T
    have hr__law_due : Room 6 _ := hr.mono (by decide)
    have G__law_due := ok__law_due (P := P) (base := base) T
    have hr__law_due_stages : Room 5 _ := hr.mono (by decide)
    have G__law_due_stages := ok__law_due_stages (P := P) (base := base) T
    have hr__law_fits : Room 10 _ := hr.mono (by decide)
    have G__law_fits := ok__law_fits (P := P) (base := base) T
    refine ⟨_, (pss_cons (ps_set (i := 1) sc_law.nd rfl (Or.inl rfl) (pe_call G__law_bag hr__law_bag (by rfl) T.m__law_bag T.F__law_bag.kp T.B__law_bag .nil pass0 (pa_cons (pv 0) pa_nil)))
      (pss_cons (ps_par (i := 2) (j := 3) (by rfl) sc_law.nd rfl rfl (by decide) rfl rfl (pa_cons (pe_op op_add pe_int (pe_call G__law_draw hr__law_draw (by rfl) T.m__law_draw T.F__law_draw.kp T.B__law_draw .nil pass0 (pa_cons (pv 1) (pa_cons pe_int pa_nil)))) (pa_cons (pe_op op_add pe_int (pe_call G__law_draw hr__law_draw (by rfl) T.m__law_draw T.F__law_draw.kp T.B__law_draw .nil pass0 (pa_cons (pv 1) (pa_cons pe_int pa_nil)))) pa_nil)) (by rfl))
      (pss_cons (ps_set (i := 4) sc_law.nd rfl (Or.inl rfl) (pe_ifExp (pt_cmpR op_gt (pe_call G__law_draw hr__law_draw (by rfl) T.m__law_draw T.F__law_draw.kp T.B__law_draw .nil pass0 (pa_cons (pv 1) (pa_cons pe_int pa_nil))) pe_int (nomark _)) (pe_op op_add pe_int (pe_call G__law_draw hr__law_draw (by rfl) T.m__law_draw T.F__law_draw.kp T.B__law_draw .nil pass0 (pa_cons (pv 1) (pa_cons pe_int pa_nil)))) pe_int))
      (pss_cons (ps_set (i := 5) sc_law.nd rfl (Or.inl rfl) (pe_call G__law_sheet hr__law_sheet (by rfl) T.m__law_sheet T.F__law_sheet.kp T.B__law_sheet .nil pass0 (pa_cons (pv 1) (pa_cons (pv 2) (pa_cons (pv 3) (pa_cons (pv 4) (pa_cons (pe_call G__law_draw hr__law_draw (by rfl) T.m__law_draw T.F__law_draw.kp T.B__law_draw .nil pass0 (pa_cons (pv 1) (pa_cons pe_int pa_nil))) pa_nil)))))))
      (pss_cons (ps_for PassesOwn.never rfl (pi_range1 (by rfl) T.n_range (pa_cons pe_int pa_nil)) (pg_name (i := 6) sc_law.nd rfl (Or.inl rfl)) (pss_cons (ps_set (i := 7) sc_law.nd rfl (Or.inl rfl) (pe_call G__law_bent hr__law_bent (by rfl) T.m__law_bent T.F__law_bent.kp T.B__law_bent .nil pass0 (pa_cons (pv 1) (pa_cons (pv 5) (pa_cons (pv 4) pa_nil)))))
      (pss_one (ps_if (pt_not (pt_val (pe_call G__law_fits hr__law_fits (by rfl) T.m__law_fits T.F__law_fits.kp T.B__law_fits .nil pass0 (pa_cons (pe_call G__law_made hr__law_made (by rfl) T.m__law_made T.F__law_made.kp T.B__law_made .nil pass0 (pa_cons (pv 7) pa_nil)) (pa_cons (pe_call G__law_due hr__law_due (by rfl) T.m__law_due T.F__law_due.kp T.B__law_due .nil pass0 (pa_cons (pv 7) pa_nil)) (pa_cons (pv 7) pa_nil)))))) (pss_one (ps_ret pe_bl)) pss_nil))))
      (pss_cons (ps_set (i := 8) sc_law.nd rfl (Or.inl rfl) (pe_call G__law_made hr__law_made (by rfl) T.m__law_made T.F__law_made.kp T.B__law_made .nil pass0 (pa_cons (pv 5) pa_nil)))
      (pss_cons (ps_if (pt_not (pt_val (pe_call G__law_fits hr__law_fits (by rfl) T.m__law_fits T.F__law_fits.kp T.B__law_fits .nil pass0 (pa_cons (pv 8) (pa_cons pe_non (pa_cons (pv 5) pa_nil)))))) (pss_one (ps_ret pe_bl)) pss_nil)
      (pss_cons (ps_for PassesOwn.never rfl (pi_range1 (by rfl) T.n_range (pa_cons pe_int pa_nil)) (pg_name (i := 6) sc_law.nd rfl (Or.inl rfl)) (pss_cons (ps_set (i := 7) sc_law.nd rfl (Or.inl rfl) (pe_op op_catL (pe_slice sl_listU (pv 5) po_none (po_some pe_int)) (pe_lstU (pa_cons (pe_call G__law_bent_stages hr__law_bent_stages (by rfl) T.m__law_bent_stages T.F__law_bent_stages.kp T.B__law_bent_stages .nil pass0 (pa_cons (pv 1) (pa_cons (pe_ix ix_list (pv 5) pe_int (fun _ _ => rfl)) (pa_cons (pv 4) pa_nil)))) pa_nil))))
      (pss_one (ps_if (pt_not (pt_val (pe_call G__law_fits hr__law_fits (by rfl) T.m__law_fits T.F__law_fits.kp T.B__law_fits .nil pass0 (pa_cons (pe_call G__law_staged hr__law_staged (by rfl) T.m__law_staged T.F__law_staged.kp T.B__law_staged .nil pass0 (pa_cons (pv 8) (pa_cons (pe_ix ix_list (pv 7) pe_int (fun _ _ => rfl)) pa_nil))) (pa_cons (pe_call G__law_due_stages hr__law_due_stages (by rfl) T.m__law_due_stages T.F__law_due_stages.kp T.B__law_due_stages .nil pass0 (pa_cons (pe_ix ix_list (pv 7) pe_int (fun _ _ => rfl)) (pa_cons (pv 4) pa_nil))) (pa_cons (pv 7) pa_nil)))))) (pss_one (ps_ret pe_bl)) pss_nil))))
      (pss_one (ps_ret (pe_and (pe_call G__law_fits hr__law_fits (by rfl) T.m__law_fits T.F__law_fits.kp T.B__law_fits .nil pass0 (pa_cons (pv 8) (pa_cons pe_non (pa_cons (pv 5) pa_nil)))) (pe_one (pe_call G__law_fits hr__law_fits (by rfl) T.m__law_fits T.F__law_fits.kp T.B__law_fits .nil pass0 (pa_cons (pe_call G__law_staged hr__law_staged (by rfl) T.m__law_staged T.F__law_staged.kp T.B__law_staged .nil pass0 (pa_cons (pv 8) (pa_cons (pe_lstU pa_nil) pa_nil))) (pa_cons pe_non (pa_cons (pe_op op_catL (pe_slice sl_listU (pv 5) po_none (po_some pe_int)) (pe_lstU (pa_cons (pe_lstU pa_nil) pa_nil))) pa_nil)))))))))))))))), ?_⟩
    refine seq_op fun N hN => ?_
    walk_at "rs"
    refine ⟨a, ns, rfl, ha, l63, fun b c H1 s1 B1 b0 => hN _ _ ?_⟩
    clear hN N
    refine cut_seq (fun σ H2 => ∃ sz nz : Int, σ = [some (.ref a), some (.ref b), some (.int sz), some (.int nz), none, none, none, none, none] ∧ 2 ≤ sz ∧ sz ≤ 5 ∧ 1 ≤ nz ∧ nz ≤ 8 ∧ Bag 100000 H2 b c) (fun N hN => ?_) ?_
    · walk_at "rs"
      exact ⟨b, c, 4, 1099511627775, rfl, B1, by decide, by decide, fun r H2 r0 r1 B2 K2 => ⟨r, rfl, b, c, 8, 1099511627774, rfl, B2, by decide, by decide, fun r' H3 r0' r1' B3 K3 => ⟨r', rfl, _, _, ⟨rfl, rfl⟩, hN _ _ ⟨2 + r, 1 + r', rfl, by omega, by omega, by omega, by omega, B3.le (by decide)⟩⟩⟩⟩
    rintro σ H2 ⟨sz, nz, rfl, sz2, sz5, nz1, nz8, B2⟩
    refine cut_seq (fun σ H2 => ∃ wd : Int, σ = [some (.ref a), some (.ref b), some (.int sz), some (.int nz), some (.int wd), none, none, none, none] ∧ 1 ≤ wd ∧ wd ≤ 2000 ∧ Bag 90000 H2 b c) (fun N hN => ?_) ?_
    · walk_at "rs"
      refine ⟨b, c, 5, 99999, rfl, B2, by decide, by decide, fun r H3 r0 r1 B3 K3 => ⟨r, rfl, ite2 (fun _ => ?_) (fun _ => ?_)⟩⟩
      · exact ⟨b, c, 6, 99998, rfl, B3, by decide, by decide, fun r' H4 r0' r1' B4 K4 => ⟨r', rfl, hN _ _ ⟨1 + r', rfl, by omega, by omega, B4.le (by decide)⟩⟩⟩
      · exact hN _ _ ⟨2000, rfl, by decide, by decide, B3.le (by decide)⟩
    rintro σ H3 ⟨wd, rfl, w1, w2, B3⟩
    refine cut_seq (fun σ H4 => ∃ (q : Addr) (x : Nd), σ = [some (.ref a), some (.ref b), some (.int sz), some (.int nz), some (.int wd), some (.ref q), none, none, none] ∧ ShZ K b H4 q x ∧ x.w = wd ∧ Gn 400 x ∧ x.st.length ≤ 5 ∧ Smx x ∧ Bag 70000 H4 b c) (fun N hN => ?_) ?_
    · walk_at "rs"
      refine ⟨b, c, 4, 89999, rfl, B3, by decide, by decide, fun r H4 r0 r1 B4 K4 => ?_⟩
      exact ⟨b, c, 79999, sz, nz, wd, r, rfl, B4.le (by decide), sz2, sz5, nz1, nz8, w1, w2, r0, by omega, fun q x H' B' K' q0 h1 h2 h3 h4 h5 => hN _ _ ⟨q, x, rfl, h1, h2, h3, h4, h5, B'.le (by decide)⟩⟩
    rintro σ H4 ⟨q, x, rfl, sh, ew, g, l5, sm, B4⟩
    -- the slots at any later heap
    have sl := sh.shl
    obtain ⟨q', vr, vg, vp, vt, eq, hq, h3, h4, h5, h6⟩ := sl
    cases eq
    have shX := dX_sh g sm l5
    have dXs : ∀ {G : Hp}, Kp b H4 G → DpAll K (LK.hb G b) [.int x.s, .int x.n, .int x.w, vr, vg, vp, vt] (dX x) := fun k => dpa_same k (.cons (.int _) (.cons (.int _) (.cons (.int _) (.cons h3.dp (.cons h4.dp (.cons h5.dp (.cons h6.dp .nil)))))))
    have sv : ∀ {G : Hp}, Kp b H4 G → SvV K G (.ref q) x := fun k => ⟨q, vr, vg, vp, vt, rfl, SqL.of (hb_le _ _ _ _ (k _ _ hq)), (h3.iv.same k).same (hb_le _ _), (h4.rv.same k).same (hb_le _ _), (h5.rv.same k).same (hb_le _ _), (h6.ssv.same k).same (hb_le _ _)⟩
    refine cut_seq (fun σ G => ∃ (x6 x7 : Option V), σ = [some (.ref a), some (.ref b), some (.int sz), some (.int nz), some (.int wd), some (.ref q), x6, x7, none] ∧ Bag 60000 G b c ∧ Kp b H4 G) (fun N hN => ?_) ?_
    · refine ⟨10, rfl, by decide, by decide, for_range (lo := 0) (n := (10 : Int).toNat) (fun i σ G => ∃ (x6 x7 : Option V), σ = [some (.ref a), some (.ref b), some (.int sz), some (.int nz), some (.int wd), some (.ref q), x6, x7, none] ∧ Bag (60000 + (10 - i) * 200) G b c ∧ Kp b H4 G) ⟨_, _, rfl, B4.le (by decide), Same.refl _⟩ ?_ ?_⟩
      · rintro i σ G hi ⟨x6, x7, rfl, B5, K5⟩
        have i10 : i < 10 := hi
        refine seq_op fun N2 hN2 => ?_
        walk_at "rs"
        refine ⟨b, c, 60000 + (10 - (i + 1)) * 200, q, dX x, wd, rfl, B5.le (by omega), w1, w2, .lst (SqL.of (K5 _ _ hq)) (dXs K5), shX, fun r es G2 fo hr6 B6 K6 => hN2 _ _ ?_⟩
        clear hN2 N2
        cases hr6 with
        | @lst _ vs6 _ hv6 hx6 =>
        obtain ⟨v0, v1, v2, ur, ug, up, ut, d0, d1, d2, d3, d4, d5, d6, rfl, rfl, y0, y1, y2, y3, y4, y5, y6, ok4, ok7, nd, kn⟩ := bent_known (dpa_same (hb_le _ _) hx6) fo
        replace hv6 := Same.seq (hb_le _ _) hv6
        walk_at "rs"
        refine ⟨r, v0, v1, v2, ur, ug, up, ut, d0, d1, d2, d3, d4, d5, d6, rfl, hv6, y0, y1, y2, y3, y4, y5, y6, ok4, nd, fun e => ?_, fun e he v H' s' hv => ?_⟩
        · obtain ⟨x', rfl, rfl, rfl, q3, q4, q5, q6, g'⟩ := kn e
          refine ⟨x', rfl, rfl, rfl, q3, q4, q5, q6, g'.le (by decide), fun v H' s' na => ?_⟩
          refine ⟨r, _, _, _, ur, ug, up, ut, d0, d1, d2, d3, d4, d5, d6, rfl, s'.seq hv6, dp_same s' y0, dp_same s' y1, dp_same s' y2, dp_same s' y3, dp_same s' y4, dp_same s' y5, dp_same s' y6, ok7, fun u H2 s2 hu => ?_⟩
          rw [e] at hu
          cases hu
          have s12 := Same.trans s' s2
          refine ⟨v, .non, .ref r, rfl, .inr ⟨rfl, 1300, x', na.same s2, ⟨r, ur, ug, up, ut, rfl, s12.seq hv6, q3.same s12, q4.same s12, q5.same s12, q6.same s12⟩, g', by decide⟩, fun H3 s3 => ⟨true, rfl, ?_⟩⟩
          rw [if_neg (by decide)]
          have s13 := Same.trans s12 s3
          exact ⟨_, _, ⟨rfl, rfl⟩, (B6.same s13), Same.trans K5 (Same.trans K6 (Kp.of s13))⟩
        · refine ⟨r, _, _, _, ur, ug, up, ut, d0, d1, d2, d3, d4, d5, d6, rfl, s'.seq hv6, dp_same s' y0, dp_same s' y1, dp_same s' y2, dp_same s' y3, dp_same s' y4, dp_same s' y5, dp_same s' y6, ok7, fun u H2 s2 hu => ?_⟩
          rw [he] at hu
          refine ⟨v, u, .ref r, rfl, .inl ⟨e, dp_same s2 hv, hu, netEr_ok he⟩, fun H3 s3 => ⟨true, rfl, ?_⟩⟩
          rw [if_neg (by decide)]
          have s13 := Same.trans (Same.trans s' s2) s3
          exact ⟨_, _, ⟨rfl, rfl⟩, (B6.same s13), Same.trans K5 (Same.trans K6 (Kp.of s13))⟩
      · rintro σ G ⟨x6, x7, rfl, B5, K5⟩
        exact hN _ _ ⟨_, _, rfl, B5.le (by omega), K5⟩
    rintro σ G ⟨x6, x7, rfl, B5, K5⟩
    -- the net
    have oX : okAll [lI x.rest, .list (x.sg.map lI), .list (x.pl.map lI), .list (x.st.map dSL)] = true := by
      obtain ⟨_, _, _, _, _, _, _, _, _, _, _, _, _, _, _, ee, _, _, _, _, _, _, _, ok4, _⟩ := bent_known (dXs K5) shX.fok
      cases ee
      exact ok4
    have nX := dX_is g
    refine seq_op fun N hN => ?_
    walk_at "rs"
    refine ⟨q, _, _, _, vr, vg, vp, vt, _, _, _, _, _, _, _, rfl, SqL.of (K5.hd (hb_le _ _ _ _ hq) (hb_some hq).1), .int _, .int _, .int _, dp_same (Same.trans K5 (hb_le _ _)) h3.dp, dp_same (Same.trans K5 (hb_le _ _)) h4.dp, dp_same (Same.trans K5 (hb_le _ _)) h5.dp, dp_same (Same.trans K5 (hb_le _ _)) h6.dp, oX, (by show x.w ≤ _; have := g.w; omega), fun _ => ⟨x, rfl, rfl, rfl, (h3.iv.same K5).same (hb_le _ _), (h4.rv.same K5).same (hb_le _ _), (h5.rv.same K5).same (hb_le _ _), (h6.ssv.same K5).same (hb_le _ _), g.le (by decide), fun net H5 s5 na => hN _ _ ?_⟩, fun e he => by rw [show netEr [_, _, _, _, _, _, _] = netEr (dX x) from rfl, nX] at he; cases he⟩
    clear hN N
    have B6 := B5.same s5
    have K6 : Kp b H4 H5 := Same.trans K5 (Kp.of s5)
    replace na := na.hb B6
    clear B5 K5 s5
    refine seq_op fun N hN => ?_
    walk_at "rs"
    refine ⟨net, .non, .ref q, rfl, .inr ⟨rfl, 400, x, na.same (hb_le _ _), sv K6, g, by decide⟩, fun H6 s6 => ⟨true, rfl, ?_⟩⟩
    rw [if_neg (by decide)]
    refine hN _ _ ?_
    clear hN N
    replace B6 := B6.same s6
    replace K6 : Kp b H4 H6 := Same.trans K6 (Kp.of s6)
    replace na := na.same (hb_mono s6 b)
    clear s6
    refine cut_seq (fun σ G => ∃ (x6 x7 : Option V), σ = [some (.ref a), some (.ref b), some (.int sz), some (.int nz), some (.int wd), some (.ref q), x6, x7, some net] ∧ Bag 1000 G b c ∧ Kp b H4 G ∧ NA K (LK.hb G b) T.A_Net net (nfN x)) (fun N hN => ?_) ?_
    · refine ⟨4, rfl, by decide, by decide, for_range (lo := 0) (n := (4 : Int).toNat) (fun i σ G => ∃ (x6 x7 : Option V), σ = [some (.ref a), some (.ref b), some (.int sz), some (.int nz), some (.int wd), some (.ref q), x6, x7, some net] ∧ Bag (1000 + (4 - i) * 100) G b c ∧ Kp b H4 G ∧ NA K (LK.hb G b) T.A_Net net (nfN x)) ⟨_, _, rfl, B6.le (by decide), K6, na⟩ ?_ ?_⟩
      · rintro i σ G hi ⟨x6, x7, rfl, B7, K7, na7⟩
        have i4 : i < 4 := hi
        refine seq_op fun N2 hN2 => ?_
        walk_at "rs"
        have hqG : G q = some (.lst [.int x.s, .int x.n, .int x.w, vr, vg, vp, vt]) := hb_le _ _ _ _ (K7 _ _ hq)
        refine ⟨_, SqL.of hqG, fun p1 G1 t1 n1 e1 => ⟨_, SqL.of (t1 _ _ hqG), vt, rfl, b, c, 1000 + (4 - (i + 1)) * 100, vt, x.st.map dSL, wd, (fun G => LK.hb G b), rfl, zok_hb (B7.same t1), (B7.same t1).le (by omega), w1, w2, dp_same (Same.trans K7 (hb_mono t1 b)) h6.dp, by rw [List.length_map]; exact l5, ?_, fun u e G2 so hu B8 K8 => ⟨by decide, fun p2 G3 t3 n3 e3 => ⟨_, t3 _ _ (K8.hd e1 (new_ne B7 n1)), _, e3, (by show 7 ≤ sizeLine; decide), fun p4 G4 t4 n4 e4 => hN2 _ _ ?_⟩⟩⟩⟩
        · intro s hs
          obtain ⟨r, hr, rfl⟩ := List.mem_map.mp hs
          exact dSL_sh (g.st.2 r hr) (sm.st r hr)
        clear hN2 N2
        have t34 := Same.trans t3 t4
        have B9 := B8.same t34
        have K9 : Kp b H4 G4 := Same.trans K7 (Same.trans (Kp.of t1) (Same.trans K8 (Kp.of t34)))
        have na9 : NA K G4 T.A_Net net (nfN x) := (na7.same (Same.trans (hb_mono t1 b) (Same.trans K8 (hb_mono t34 b)))).same (hb_le _ _)
        have hu9 : Dp K G4 u e := dp_same (Same.trans (hb_mono t34 b) (hb_le _ _)) hu
        replace e4 : G4 p4 = some (.lst [.int x.s, .int x.n, .int x.w, vr, vg, vp, u]) := e4
        have na9b : NA K (LK.hb G4 b) T.A_Net net (nfN x) := na9.hb B9
        have i3 := (h3.iv.same K9).same (hb_le _ _)
        have i4' := (h4.rv.same K9).same (hb_le _ _)
        have i5 := (h5.rv.same K9).same (hb_le _ _)
        have n9 : nfN (nfN x) = nfN x := g.nf2
        have g9 : Gn 402 (nfN x) := g.nf (by decide)
        clear e1 e3 t1 n1 t3 t4 n3 n4 K8 B8 hqG B7 K7 hu t34 na7
        have fin : ∀ {H3 : Hp}, Same G4 H3 → ∃ (y6 y7 : Option V), (some (V.int (0 + ↑i)) = y6 ∧ some (V.ref p4) = y7) ∧ Bag (1000 + (4 - (i + 1)) * 100) H3 b c ∧ Kp b H4 H3 ∧ NA K (LK.hb H3 b) T.A_Net net (nfN x) := fun s => ⟨_, _, ⟨rfl, rfl⟩, B9.same s, Same.trans K9 (Kp.of s), na9b.same (hb_mono s b)⟩
        walk_at "rs"
        refine ⟨_, SqL.of e4, u, rfl, net, nfN x, u, e, rfl, na9, n9, g9.le (by decide), hu9, so.1, fun e0 => ?_, fun er he v H' s' hv => ?_⟩
        · replace e0 : stEr x.w e = none := e0
          cases qe : sqD e with
          | none =>
            unfold stEr at e0
            rw [qe] at e0
            cases e0
          | some ds =>
            obtain ⟨st, hs, ls, gs⟩ := stages_ssv (by omega) e0 qe (so.2 ds qe) hu9
            refine ⟨st, hs, ls, fun s h => (gs s h).le (by decide) (Int.le_refl _) (by show x.w ≤ 2000; omega), fun t H' s' na' => ?_⟩
            refine ⟨_, s'.seq (SqL.of e4), u, rfl, u, e, wd, rfl, dp_same s' hu9, so.1, fun u2 H2 s2 hu2 => ?_⟩
            rw [← ew, e0] at hu2
            cases hu2
            have s12 := Same.trans s' s2
            exact ⟨t, .non, .ref p4, rfl, .inr ⟨rfl, 1300, ⟨x.s, x.n, x.w, x.rest, x.sg, x.pl, st⟩, na'.same s2, ⟨p4, vr, vg, vp, u, rfl, s12.seq (SqL.of e4), i3.same s12, i4'.same s12, i5.same s12, hs.same s12⟩, ⟨g.s, g.n, g.w, (g.le (by decide)).rest, (g.le (by decide)).sg, (g.le (by decide)).pl, ⟨ls, gs⟩⟩, by decide⟩, fun H3 s3 => ⟨true, rfl, by rw [if_neg (by decide)]; exact fin (Same.trans s12 s3)⟩⟩
        · replace he : stEr x.w e = some er := he
          refine ⟨_, s'.seq (SqL.of e4), u, rfl, u, e, wd, rfl, dp_same s' hu9, so.1, fun u2 H2 s2 hu2 => ?_⟩
          rw [← ew, he] at hu2
          exact ⟨v, u2, .ref p4, rfl, .inl ⟨er, dp_same s2 hv, hu2, stEr_ok he⟩, fun H3 s3 => ⟨true, rfl, by rw [if_neg (by decide)]; exact fin (Same.trans (Same.trans s' s2) s3)⟩⟩
      · rintro σ G ⟨x6, x7, rfl, B7, K7, na7⟩
        exact hN _ _ ⟨_, _, rfl, B7.le (by omega), K7, na7⟩
    rintro σ G ⟨x6, x7, rfl, B7, K7, na7⟩
    have hqG : G q = some (.lst [.int x.s, .int x.n, .int x.w, vr, vg, vp, vt]) := hb_le _ _ _ _ (K7 _ _ hq)
    have na9 := na7.same (hb_le _ _)
    have i3 := (h3.iv.same K7).same (hb_le _ _)
    have i4 := (h4.rv.same K7).same (hb_le _ _)
    have i5 := (h5.rv.same K7).same (hb_le _ _)
    walk_at "rs"
    refine ⟨net, .non, .ref q, rfl, .inr ⟨rfl, 400, x, na9, sv K7, g, by decide⟩, fun G1 s1 => ⟨true, rfl, ?_⟩⟩
    rw [if_pos rfl]
    refine ⟨by decide, fun p2 G2 s2 n2 e2 => ⟨net, nfN x, .ref p2, .list [], rfl, na9.same (Same.trans s1 s2), g.nf2, (g.nf (by decide)).le (by decide), .lst (SqL.of e2) .nil, rfl, fun _ => ⟨[], ⟨p2, [], rfl, .inl (SqL.of e2), .nil⟩, Nat.zero_le _, fun s h => absurd h (by simp), fun t G3 s3 na3 => ?_⟩, fun er he => ?_⟩⟩
    · have s13 := Same.trans s1 (Same.trans s2 s3)
      refine ⟨_, SqL.of (s13 _ _ hqG), fun p4 G4 s4 n4 e4 => ⟨by decide, fun p5 G5 s5 n5 e5 => ⟨by decide, fun p6 G6 s6 n6 e6 => ⟨_, (Same.trans s5 s6) _ _ e4, _, e6, (by show 7 ≤ sizeLine; decide), fun p7 G7 s7 n7 e7 => ?_⟩⟩⟩⟩
      have s17 := Same.trans s13 (Same.trans s4 (Same.trans s5 (Same.trans s6 s7)))
      replace e7 : G7 p7 = some (.lst [.int x.s, .int x.n, .int x.w, vr, vg, vp, .ref p5]) := e7
      exact ⟨t, .non, .ref p7, rfl, .inr ⟨rfl, 1300, ⟨x.s, x.n, x.w, x.rest, x.sg, x.pl, []⟩, na3.same (Same.trans s4 (Same.trans s5 (Same.trans s6 s7))), ⟨p7, vr, vg, vp, .ref p5, rfl, SqL.of e7, i3.same s17, i4.same s17, i5.same s17, ⟨p5, [], rfl, .inl (SqL.of ((Same.trans s6 s7) _ _ e5)), .nil⟩⟩, ⟨g.s, g.n, g.w, (g.le (by decide)).rest, (g.le (by decide)).sg, (g.le (by decide)).pl, ⟨Nat.zero_le _, fun s h => absurd h (by simp)⟩⟩, by decide⟩, fun H3 s3 => kq H3⟩
    · cases he
end
end LK

set_option Elab.async false
set_option linter.all false
set_option maxRecDepth 100000
namespace LK
open PySem PySem.Spec PyProof.Rows L2
local macro_rules | `(tactic| walk_at "rs") => `(tactic| simp only [tFld, sFld, tMeth, tMethZ, tMakeK, tMakeS, tMethS, tEf, tProp, tFmt, rEqO, rNeO, cxK, cxNK, tCallZ, tAsg, tOp, rI0, rS0, rB0, rI, rU, tUn, rEq, rNe, rIxL, rIxT, rIxS, rSetL, rSlLU, rSlS, rSlU, rCatL, rCatU, rRepL, rIn, tVar, tC, gName, gSub, tIfS, tTest, tB, tAnd, tOr, tNot, tNotV, tAndV, tOrV, tIf, tCall, tCons, tNil, tCB, tDrop, tRet, tRetN, tNext, tLstU, tTupU, tM0, tM1, tPar, tPar3, tAug, ipI, tBM, tBM0, rAppend, rPop, tBreak, sDPut, tDGet, tDGet2, tCont, tChain, tSl, tPart, tNoPart, L2.start, List.map, List.length_cons, List.length_nil, List.replicate, List.cons_append, List.nil_append, List.append_nil, List.getElem?_cons_zero, List.getElem?_cons_succ, List.set_cons_zero, List.set_cons_succ, Option.some.injEq, V.int.injEq, V.ref.injEq, V.str.injEq, V.bl.injEq, exists_eq_left', exists_eq_left, exists_and_left, decide_eq_true_eq, List.cons.injEq, and_true, true_and, scal, Bool.not_eq_true', decide_eq_false_iff_not, Nat.zero_add, Nat.reduceAdd, Nat.reduceSub, reduceCtorEq, false_and, exists_false, false_or, or_false, CPow, CPowW, CMul, CDiv, Int.reduceToNat, ↓reduceIte, wipe, sw, List.nil_append, List.singleton_append])
local macro_rules | `(tactic| walk_at "st") => `(tactic| (refine seq_op fun N hN => ?_; walk_at "rs"))
local macro_rules | `(tactic| walk_at "sd") => `(tactic| first | assumption | decide | omega)
local macro_rules | `(tactic| walk_at "rd") => `(tactic| repeat (first
  | refine ⟨_, SqL.of (by assumption), ?_⟩ | refine ⟨_, SqL.of upd_same, ?_⟩ | refine ⟨_, .inl (SqL.of (by assumption)), ?_⟩ | refine ⟨_, (by assumption : _ = some (HO.lst _)), ?_⟩ | refine ⟨_, upd_same, ?_⟩
  | refine ⟨_, rfl, ?_⟩ | refine And.intro (by walk_at "sd") ?_))
/-! ### what the head tells, as Bools -/
def oexB (K : PySem.W.Frag) (C : Addr) : Bool := (match K.lookup C with
  | some ⟨.type c, _, .cls cd, sl⟩ => (match cd.mro, sl.toList with
    | .ref C' :: bm, [_, _, _, _, some (.builtin n), _] => decide (c = "type") && (decide (C' = C) && (decide (n = "ValueError.__new__") && (!cd.hasDel && (cd.hasDict && PySem.HandSPX.refsVE bm))))
    | _, _ => false)
  | _ => false) && (He.eqO (PySem.W.findIn K (.ref C) "__setattr__") (some (some (.builtin "object.__setattr__"))) && (decide (PySem.W.subIn K (.ref C) (.type "BaseException") = some true) && (decide (PySem.W.typeIn K (.ref C) = some (.type "type")) && PySem.W.keepIn K (.ref C))))
theorem oexB_ok {K : PySem.W.Frag} {C : Addr} (h : oexB K C = true) : OexC K C := by
  obtain ⟨h1, h2⟩ := He.ba h
  obtain ⟨h3, h4⟩ := He.ba h2
  obtain ⟨h5, h6⟩ := He.ba h4
  obtain ⟨h7, h8⟩ := He.ba h6
  refine ⟨?_, He.eqO_ok h3, of_decide_eq_true h5, of_decide_eq_true h7, h8⟩
  cases e : K.lookup C with
  | none => rw [e] at h1; cases h1
  | some ob =>
    obtain ⟨oc, od, dt, osl⟩ := ob
    rw [e] at h1
    cases oc with
    | type c =>
      cases dt with
      | cls cd =>
        obtain ⟨nm, bs, mro, ns, qn, hd, sn, sb, ab, col, del⟩ := cd
        dsimp only at h1
        split at h1
        · rename_i xl C' bm k0 k1 k2 k3 n k5 es
          obtain ⟨a1, b1⟩ := He.ba h1
          obtain ⟨a2, b2⟩ := He.ba b1
          obtain ⟨a3, b3⟩ := He.ba b2
          obtain ⟨a4, b4⟩ := He.ba b3
          obtain ⟨a5, a6⟩ := He.ba b4
          have ec : c = "type" := of_decide_eq_true a1
          have eC : C' = C := of_decide_eq_true a2
          have en : n = "ValueError.__new__" := of_decide_eq_true a3
          have ed : del = false := by cases del with
            | false => rfl
            | true => cases a4
          have eh : hd = true := a5
          have eo : osl = #[k0, k1, k2, k3, some (.builtin n), k5] := by
            have := congrArg List.toArray es
            simpa using this
          subst ec eC en ed eh eo
          exact ⟨nm, qn, ns, bs, bm, sn, sb, ab, col, od, k0, k1, k2, k3, k5, rfl, a6⟩
        · cases h1
      | _ => cases h1
    | _ => cases dt <;> cases h1
def isxB (K : PySem.W.Frag) (C : Addr) : Bool := (PySem.W.clsIn K C).isSome && (He.eqO (PySem.W.findIn K (.ref C) "__getattribute__") (some (some (.builtin "BaseException.__getattribute__"))) && (He.eqO (PySem.W.findIn K (.ref C) "__getattr__") (some none) && (decide (PySem.W.subIn K (.ref C) (.type "BaseException") = some true) && (He.eqO (PySem.W.findIn K (.ref C) "__class__") (some (some (.builtin "object.__class__"))) && (He.eqO (PySem.W.specialIn K (.builtin "object.__class__") "__get__") (some (some (.builtin "getset_descriptor.__get__"))) && (decide (PySem.W.takesIn K (.builtin "object.__class__") = some true) && decide (PySem.W.mroIn K C (.type "object") = some true)))))))
theorem isxB_ok {K : PySem.W.Frag} {C : Addr} (h : isxB K C = true) : IsxC K C := by
  obtain ⟨h1, h⟩ := He.ba h
  obtain ⟨h2, h⟩ := He.ba h
  obtain ⟨h3, h⟩ := He.ba h
  obtain ⟨h4, h⟩ := He.ba h
  obtain ⟨h5, h⟩ := He.ba h
  obtain ⟨h6, h⟩ := He.ba h
  obtain ⟨h7, h8⟩ := He.ba h
  exact ⟨h1, He.eqO_ok h2, He.eqO_ok h3, of_decide_eq_true h4, He.eqO_ok h5, He.eqO_ok h6, of_decide_eq_true h7, of_decide_eq_true h8⟩
/-- an own exception, the classes between given -/
def oeB (newId : String) (tl : List Value) (mid : List Addr) (K : PySem.W.Frag) (C : Addr) : Bool := (match K.lookup C with
  | some ⟨.type c, _, .cls cd, sl⟩ => (match cd.mro, sl.toList with
    | .ref C' :: bm, [_, _, _, _, some (.builtin n), _] => decide (c = "type") && (decide (C' = C) && (decide (n = newId) && (!cd.hasDel && (cd.hasDict && decide (bm = mid.map Value.ref ++ tl)))))
    | _, _ => false)
  | _ => false) && (He.eqO (PySem.W.findIn K (.ref C) "__setattr__") (some (some (.builtin "object.__setattr__"))) && (decide (PySem.W.subIn K (.ref C) (.type "BaseException") = some true) && (decide (PySem.W.typeIn K (.ref C) = some (.type "type")) && PySem.W.keepIn K (.ref C))))
theorem oeB_ok {newId : String} {tl : List Value} {mid : List Addr} {K : PySem.W.Frag} {C : Addr} (h : oeB newId tl mid K C = true) : OexM K C newId tl := by
  obtain ⟨h1, h2⟩ := He.ba h
  obtain ⟨h3, h4⟩ := He.ba h2
  obtain ⟨h5, h6⟩ := He.ba h4
  obtain ⟨h7, h8⟩ := He.ba h6
  refine ⟨?_, He.eqO_ok h3, of_decide_eq_true h5, of_decide_eq_true h7, h8⟩
  cases e : K.lookup C with
  | none => rw [e] at h1; cases h1
  | some ob =>
    obtain ⟨oc, od, dt, osl⟩ := ob
    rw [e] at h1
    cases oc with
    | type c =>
      cases dt with
      | cls cd =>
        obtain ⟨nm, bs, mro, ns, qn, hd, sn, sb, ab, col, del⟩ := cd
        dsimp only at h1
        split at h1
        · rename_i xl C' bm k0 k1 k2 k3 n k5 es
          obtain ⟨a1, b1⟩ := He.ba h1
          obtain ⟨a2, b2⟩ := He.ba b1
          obtain ⟨a3, b3⟩ := He.ba b2
          obtain ⟨a4, b4⟩ := He.ba b3
          obtain ⟨a5, a6⟩ := He.ba b4
          have ec : c = "type" := of_decide_eq_true a1
          have eC : C' = C := of_decide_eq_true a2
          have en : n = newId := of_decide_eq_true a3
          have ed : del = false := by cases del with
            | false => rfl
            | true => cases a4
          have eh : hd = true := a5
          have eo : osl = #[k0, k1, k2, k3, some (.builtin n), k5] := by
            have := congrArg List.toArray es
            simpa using this
          subst ec eC en ed eh eo
          exact ⟨nm, qn, ns, bs, bm, sn, sb, ab, col, od, k0, k1, k2, k3, k5, rfl, ⟨mid, of_decide_eq_true a6⟩⟩
        · cases h1
      | _ => cases h1
    | _ => cases dt <;> cases h1
def bnC (K : PySem.W.Frag) : Addr := He.ga K "BadNet"
def bnI (K : PySem.W.Frag) : Addr := He.fAd K ("BadNet", some "__init__")
def tmC (K : PySem.W.Frag) : Addr := He.ga K "TooMany"
def tmI (K : PySem.W.Frag) : Addr := He.fAd K ("TooMany", some "__init__")
def bvC (K : PySem.W.Frag) : Addr := He.ga K "BadValue"
def bvI (K : PySem.W.Frag) : Addr := He.fAd K ("BadValue", some "__init__")
abbrev nC (K : PySem.W.Frag) : Addr := He.ga K "Net"
def nI (K : PySem.W.Frag) : Addr := He.fAd K ("Net", some "__init__")
/-- a keyword-only default of Net.__init__ -/
def kwA (K : PySem.W.Frag) (x : Str) : Addr := match K.lookup (nI K) with
  | some ⟨_, _, .func fd, _⟩ => (match fd.kwdefaults with
    | .ref D => (match PySem.W.nsIn K D x with
      | some (some (.ref e)) => e
      | _ => 0)
    | _ => 0)
  | _ => 0
def kwB (K : PySem.W.Frag) (x : Str) : Bool := match K.lookup (nI K) with
  | some ⟨_, _, .func fd, _⟩ => (match fd.kwdefaults with
    | .ref D => He.eqO (PySem.W.nsIn K D x) (some (some (.ref (kwA K x))))
    | _ => false)
  | _ => false
def emB (K : PySem.W.Frag) (a : Addr) : Bool := match K.lookup a with
  | some ⟨.type c, _, .seq its _, _⟩ => decide (c = "tuple") && its.toList.isEmpty
  | _ => false
theorem emB_ok {K : PySem.W.Frag} {a : Addr} (h : emB K a = true) (H : Hp) : SqT K H a [] := by
  unfold emB at h
  cases q : K.lookup a with
  | none => rw [q] at h; cases h
  | some o =>
    obtain ⟨oc, od, dt, osl⟩ := o
    rw [q] at h
    cases oc with
    | type c =>
      cases dt with
      | seq its n =>
        obtain ⟨h1, h2⟩ := He.ba (show (decide (c = "tuple") && its.toList.isEmpty) = true from h)
        have e2 : its.toList = [] := List.isEmpty_iff.mp h2
        refine .inr ⟨_, its, n, q, congrArg Value.type (of_decide_eq_true h1), rfl, ?_, ?_⟩
        · have := congrArg List.length e2
          simp at this
          rw [this]; exact Nat.zero_le _
        · rw [e2]; exact .nil
      | _ => cases h
    | _ => cases dt <;> cases h
/-- the keyword-only defaults -/
theorem kw_fun {K : PySem.W.Frag} {x q : Str} {ps : Arguments} {b : List Stmt} {sc : Scope} {fd : FuncData} (F : FunD K x q ps b sc [] [] (nI K) fd) (h1 : kwB K "rest" = true) (h2 : kwB K "stages" = true) : FunD K x q ps b sc [] [("rest", .ref (kwA K "rest")), ("stages", .ref (kwA K "stages"))] (nI K) fd := by
  obtain ⟨oc, od, dV, kV, doc, pm, an, cdv, ct, osl, rfl, lk, hcd, hD, _⟩ := F.ex
  refine ⟨⟨oc, od, dV, kV, doc, pm, an, cdv, ct, osl, rfl, lk, hcd, hD, .inr ?_⟩, F.kp⟩
  unfold kwB at h1 h2
  rw [lk] at h1 h2
  cases kV with
  | ref D =>
    refine ⟨D, rfl, fun z hz => ?_⟩
    rcases List.mem_cons.mp hz with rfl | hz
    · exact ⟨_, He.eqO_ok (show He.eqO (PySem.W.nsIn K D "rest") (some (some (.ref (kwA K "rest")))) = true from h1), rfl⟩
    · rcases List.mem_cons.mp hz with rfl | hz
      · exact ⟨_, He.eqO_ok (show He.eqO (PySem.W.nsIn K D "stages") (some (some (.ref (kwA K "stages")))) = true from h2), rfl⟩
      · cases hz
  | _ => exact Bool.noConfusion (show false = true from h1)
def exB (K : PySem.W.Frag) : Bool := oexB K (bvC K) && (He.eqO (PySem.W.nsIn K mainGlobals "gcd") (some (some (.builtin "math.gcd"))) && (decide (PySem.W.typeIn K (.ref (bvI K)) = some (.type "function")) && (He.eqO (PySem.W.findIn K (.ref (bvC K)) "__init__") (some (some (.ref (bvI K)))) && (He.tupB K "ZERO" [.int 0, .int 1] && (He.eqO (PySem.W.findIn K (.ref (nC K)) "__class__") (some (some (.builtin "object.__class__"))) && (He.eqO (PySem.W.specialIn K (.builtin "object.__class__") "__get__") (some (some (.builtin "getset_descriptor.__get__"))) && (decide (PySem.W.takesIn K (.builtin "object.__class__") = some true) && (decide (PySem.W.mroIn K (nC K) (.type "object") = some true) && (decide (PySem.W.kitOne K (.ref (nC K)) (.ref (nC K)) = some true) && (kwB K "rest" && (kwB K "stages" && (emB K (kwA K "rest") && (emB K (kwA K "stages") && (oeB "ValueError.__new__" tailVE [He.ga K "NetError"] K (bnC K) && (He.eqO (PySem.W.findIn K (.ref (bnC K)) "__init__") (some (some (.ref (bnI K)))) && (decide (PySem.W.typeIn K (.ref (bnI K)) = some (.type "function")) && (xfB K (bnC K) && (He.eqO (PySem.W.findIn K (.ref (bnC K)) "where") (some none) && (He.eqO (PySem.W.findIn K (.ref (bnC K)) "code") (some none) && (oeB "RuntimeError.__new__" tailRE [He.ga K "Full"] K (tmC K) && (He.eqO (PySem.W.findIn K (.ref (tmC K)) "__init__") (some (some (.ref (tmI K)))) && (decide (PySem.W.typeIn K (.ref (tmI K)) = some (.type "function")) && (xfB K (tmC K) && (He.eqO (PySem.W.findIn K (.ref (tmC K)) "what") (some none) && (He.eqO (PySem.W.findIn K (.ref (tmC K)) "count") (some none) && (He.eqO (PySem.W.findIn K (.ref (tmC K)) "code") (some none) && (decide (PySem.W.exmOne K (.ref (bnC K)) (.ref (bnC K)) = some true) && (decide (PySem.W.exmOne K (.ref (tmC K)) (.ref (bnC K)) = some false) && (decide (PySem.W.exmOne K (.ref (tmC K)) (.ref (tmC K)) = some true))))))))))))))))))))))))))))))
def dInit : He.DefD := ⟨("BadValue", some "__init__"), "__init__", "BadValue.__init__", defArgs s_BadValue, defBody s_BadValue, defScope s_BadValue, [], []⟩
def dNI : He.DefD := ⟨("Net", some "__init__"), "__init__", "Net.__init__", defArgs s_Net__init, defBody s_Net__init, defScope s_Net__init, [], []⟩
def dBN : He.DefD := ⟨("BadNet", some "__init__"), "__init__", "BadNet.__init__", defArgs s_BadNet, defBody s_BadNet, defScope s_BadNet, [], []⟩
def dTM : He.DefD := ⟨("TooMany", some "__init__"), "__init__", "TooMany.__init__", defArgs s_TooMany, defBody s_TooMany, defScope s_TooMany, [], []⟩
def D_Net__rest_row : He.DefD := ⟨("Net", some "rest_row"), "rest_row", "Net.rest_row", defArgs s_Net__rest_row, defBody s_Net__rest_row, defScope s_Net__rest_row, [], []⟩
def D_Net__sign_rows : He.DefD := ⟨("Net", some "sign_rows"), "sign_rows", "Net.sign_rows", defArgs s_Net__sign_rows, defBody s_Net__sign_rows, defScope s_Net__sign_rows, [], []⟩
def D_Net__place_rows : He.DefD := ⟨("Net", some "place_rows"), "place_rows", "Net.place_rows", defArgs s_Net__place_rows, defBody s_Net__place_rows, defScope s_Net__place_rows, [], []⟩
def D_Net__stages : He.DefD := ⟨("Net", some "stages"), "stages", "Net.stages", defArgs s_Net__stages, defBody s_Net__stages, defScope s_Net__stages, [], []⟩
def D_Net__with_stages : He.DefD := ⟨("Net", some "with_stages"), "with_stages", "Net.with_stages", defArgs s_Net__with_stages, defBody s_Net__with_stages, defScope s_Net__with_stages, [], []⟩
def D__wall : He.DefD := ⟨("_wall", none), "_wall", "_wall", defArgs s__wall, defBody s__wall, defScope s__wall, [], []⟩
def D_is_number : He.DefD := ⟨("is_number", none), "is_number", "is_number", defArgs s_is_number, defBody s_is_number, defScope s_is_number, [], []⟩
def D_is_fraction : He.DefD := ⟨("is_fraction", none), "is_fraction", "is_fraction", defArgs s_is_fraction, defBody s_is_fraction, defScope s_is_fraction, [], []⟩
def D_fraction : He.DefD := ⟨("fraction", none), "fraction", "fraction", defArgs s_fraction, defBody s_fraction, defScope s_fraction, [.int 1], []⟩
def D_plus : He.DefD := ⟨("plus", none), "plus", "plus", defArgs s_plus, defBody s_plus, defScope s_plus, [], []⟩
def D_are_sizes : He.DefD := ⟨("are_sizes", none), "are_sizes", "are_sizes", defArgs s_are_sizes, defBody s_are_sizes, defScope s_are_sizes, [], []⟩
def D_normal_entries : He.DefD := ⟨("normal_entries", none), "normal_entries", "normal_entries", defArgs s_normal_entries, defBody s_normal_entries, defScope s_normal_entries, [], []⟩
def D_normal_triples : He.DefD := ⟨("normal_triples", none), "normal_triples", "normal_triples", defArgs s_normal_triples, defBody s_normal_triples, defScope s_normal_triples, [], []⟩
def D_normal_part : He.DefD := ⟨("normal_part", none), "normal_part", "normal_part", defArgs s_normal_part, defBody s_normal_part, defScope s_normal_part, [], []⟩
def D_normal_stage : He.DefD := ⟨("normal_stage", none), "normal_stage", "normal_stage", defArgs s_normal_stage, defBody s_normal_stage, defScope s_normal_stage, [], []⟩
def D_is_column : He.DefD := ⟨("is_column", none), "is_column", "is_column", defArgs s_is_column, defBody s_is_column, defScope s_is_column, [], []⟩
def D_are_items : He.DefD := ⟨("are_items", none), "are_items", "are_items", defArgs s_are_items, defBody s_are_items, defScope s_are_items, [], []⟩
def D_is_item : He.DefD := ⟨("is_item", none), "is_item", "is_item", defArgs s_is_item, defBody s_is_item, defScope s_is_item, [], []⟩
def D_are_rows : He.DefD := ⟨("are_rows", none), "are_rows", "are_rows", defArgs s_are_rows, defBody s_are_rows, defScope s_are_rows, [], []⟩
def D_is_part : He.DefD := ⟨("is_part", none), "is_part", "is_part", defArgs s_is_part, defBody s_is_part, defScope s_is_part, [], []⟩
def D_is_stage : He.DefD := ⟨("is_stage", none), "is_stage", "is_stage", defArgs s_is_stage, defBody s_is_stage, defScope s_is_stage, [], []⟩
def D_check_stages : He.DefD := ⟨("check_stages", none), "check_stages", "check_stages", defArgs s_check_stages, defBody s_check_stages, defScope s_check_stages, [], []⟩
def D__law_bag : He.DefD := ⟨("_law_bag", none), "_law_bag", "_law_bag", defArgs s__law_bag, defBody s__law_bag, defScope s__law_bag, [], []⟩
def D__law_draw : He.DefD := ⟨("_law_draw", none), "_law_draw", "_law_draw", defArgs s__law_draw, defBody s__law_draw, defScope s__law_draw, [], []⟩
def D__law_of : He.DefD := ⟨("_law_of", none), "_law_of", "_law_of", defArgs s__law_of, defBody s__law_of, defScope s__law_of, [], []⟩
def D__law_either : He.DefD := ⟨("_law_either", none), "_law_either", "_law_either", defArgs s__law_either, defBody s__law_either, defScope s__law_either, [], []⟩
def D__law_like : He.DefD := ⟨("_law_like", none), "_law_like", "_law_like", defArgs s__law_like, defBody s__law_like, defScope s__law_like, [], []⟩
def D__law_gcd : He.DefD := ⟨("_law_gcd", none), "_law_gcd", "_law_gcd", defArgs s__law_gcd, defBody s__law_gcd, defScope s__law_gcd, [], []⟩
def D__law_low : He.DefD := ⟨("_law_low", none), "_law_low", "_law_low", defArgs s__law_low, defBody s__law_low, defScope s__law_low, [], []⟩
def D__law_plus : He.DefD := ⟨("_law_plus", none), "_law_plus", "_law_plus", defArgs s__law_plus, defBody s__law_plus, defScope s__law_plus, [], []⟩
def D__law_great : He.DefD := ⟨("_law_great", none), "_law_great", "_law_great", defArgs s__law_great, defBody s__law_great, defScope s__law_great, [], []⟩
def D__law_factor : He.DefD := ⟨("_law_factor", none), "_law_factor", "_law_factor", defArgs s__law_factor, defBody s__law_factor, defScope s__law_factor, [], []⟩
def D__law_items : He.DefD := ⟨("_law_items", none), "_law_items", "_law_items", defArgs s__law_items, defBody s__law_items, defScope s__law_items, [], []⟩
def D__law_normal : He.DefD := ⟨("_law_normal", none), "_law_normal", "_law_normal", defArgs s__law_normal, defBody s__law_normal, defScope s__law_normal, [], []⟩
def D__law_stage : He.DefD := ⟨("_law_stage", none), "_law_stage", "_law_stage", defArgs s__law_stage, defBody s__law_stage, defScope s__law_stage, [], []⟩
def D__law_settled_stage : He.DefD := ⟨("_law_settled_stage", none), "_law_settled_stage", "_law_settled_stage", defArgs s__law_settled_stage, defBody s__law_settled_stage, defScope s__law_settled_stage, [], []⟩
def D__law_sheet : He.DefD := ⟨("_law_sheet", none), "_law_sheet", "_law_sheet", defArgs s__law_sheet, defBody s__law_sheet, defScope s__law_sheet, [], []⟩
def D__law_settled : He.DefD := ⟨("_law_settled", none), "_law_settled", "_law_settled", defArgs s__law_settled, defBody s__law_settled, defScope s__law_settled, [], []⟩
def D__law_number : He.DefD := ⟨("_law_number", none), "_law_number", "_law_number", defArgs s__law_number, defBody s__law_number, defScope s__law_number, [], []⟩
def D__law_within : He.DefD := ⟨("_law_within", none), "_law_within", "_law_within", defArgs s__law_within, defBody s__law_within, defScope s__law_within, [], []⟩
def D__law_is_fraction : He.DefD := ⟨("_law_is_fraction", none), "_law_is_fraction", "_law_is_fraction", defArgs s__law_is_fraction, defBody s__law_is_fraction, defScope s__law_is_fraction, [], []⟩
def D__law_are_items : He.DefD := ⟨("_law_are_items", none), "_law_are_items", "_law_are_items", defArgs s__law_are_items, defBody s__law_are_items, defScope s__law_are_items, [], []⟩
def D__law_is_stage : He.DefD := ⟨("_law_is_stage", none), "_law_is_stage", "_law_is_stage", defArgs s__law_is_stage, defBody s__law_is_stage, defScope s__law_is_stage, [], []⟩
def D__law_odd : He.DefD := ⟨("_law_odd", none), "_law_odd", "_law_odd", defArgs s__law_odd, defBody s__law_odd, defScope s__law_odd, [], []⟩
def D__law_odd_fraction : He.DefD := ⟨("_law_odd_fraction", none), "_law_odd_fraction", "_law_odd_fraction", defArgs s__law_odd_fraction, defBody s__law_odd_fraction, defScope s__law_odd_fraction, [], []⟩
def D__law_bent_items : He.DefD := ⟨("_law_bent_items", none), "_law_bent_items", "_law_bent_items", defArgs s__law_bent_items, defBody s__law_bent_items, defScope s__law_bent_items, [], []⟩
def D__law_bent_stage : He.DefD := ⟨("_law_bent_stage", none), "_law_bent_stage", "_law_bent_stage", defArgs s__law_bent_stage, defBody s__law_bent_stage, defScope s__law_bent_stage, [], []⟩
def D__law_bent_rows : He.DefD := ⟨("_law_bent_rows", none), "_law_bent_rows", "_law_bent_rows", defArgs s__law_bent_rows, defBody s__law_bent_rows, defScope s__law_bent_rows, [], []⟩
def D__law_bent_stages : He.DefD := ⟨("_law_bent_stages", none), "_law_bent_stages", "_law_bent_stages", defArgs s__law_bent_stages, defBody s__law_bent_stages, defScope s__law_bent_stages, [], []⟩
def D__law_due : He.DefD := ⟨("_law_due", none), "_law_due", "_law_due", defArgs s__law_due, defBody s__law_due, defScope s__law_due, [], []⟩
def D__law_due_stages : He.DefD := ⟨("_law_due_stages", none), "_law_due_stages", "_law_due_stages", defArgs s__law_due_stages, defBody s__law_due_stages, defScope s__law_due_stages, [], []⟩
def D__law_made : He.DefD := ⟨("_law_made", none), "_law_made", "_law_made", defArgs s__law_made, defBody s__law_made, defScope s__law_made, [], []⟩
def D__law_staged : He.DefD := ⟨("_law_staged", none), "_law_staged", "_law_staged", defArgs s__law_staged, defBody s__law_staged, defScope s__law_staged, [], []⟩
def D__law_fits : He.DefD := ⟨("_law_fits", none), "_law_fits", "_law_fits", defArgs s__law_fits, defBody s__law_fits, defScope s__law_fits, [], []⟩
def D__law_bent : He.DefD := ⟨("_law_bent", none), "_law_bent", "_law_bent", defArgs s__law_bent, defBody s__law_bent, defScope s__law_bent, [], []⟩
def D_law : He.DefD := ⟨("law", none), "law", "law", defArgs s_law, defBody s_law, defScope s_law, [], []⟩
def fnL : List He.DefD := [dInit, dNI, dBN, dTM, D_Net__rest_row, D_Net__sign_rows, D_Net__place_rows, D_Net__stages, D_Net__with_stages, D__wall, D_is_number, D_is_fraction, D_fraction, D_plus, D_are_sizes, D_normal_entries, D_normal_triples, D_normal_part, D_normal_stage, D_is_column, D_are_items, D_is_item, D_are_rows, D_is_part, D_is_stage, D_check_stages, D__law_bag, D__law_draw, D__law_of, D__law_either, D__law_like, D__law_gcd, D__law_low, D__law_plus, D__law_great, D__law_factor, D__law_items, D__law_normal, D__law_stage, D__law_settled_stage, D__law_sheet, D__law_settled, D__law_number, D__law_within, D__law_is_fraction, D__law_are_items, D__law_is_stage, D__law_odd, D__law_odd_fraction, D__law_bent_items, D__law_bent_stage, D__law_bent_rows, D__law_bent_stages, D__law_due, D__law_due_stages, D__law_made, D__law_staged, D__law_fits, D__law_bent, D_law]
def faL : List He.Fa := [.free "len", .free "int", .free "list", .free "tuple", .free "bool", .free "str", .free "dict", .free "isinstance", .free "all", .free "range", .free "zip", .free "abs", .free "sorted", .free "set", .free "enumerate", .free "repr", .glo "ZERO", .glo "BadValue", .glo "BadNet", .glo "TooMany", .glo "Net", .glo "_wall", .glo "is_number", .glo "is_fraction", .glo "fraction", .glo "plus", .glo "are_sizes", .glo "normal_entries", .glo "normal_triples", .glo "normal_part", .glo "normal_stage", .glo "is_column", .glo "are_items", .glo "is_item", .glo "are_rows", .glo "is_part", .glo "is_stage", .glo "check_stages", .glo "_law_bag", .glo "_law_draw", .glo "_law_of", .glo "_law_either", .glo "_law_like", .glo "_law_gcd", .glo "_law_low", .glo "_law_plus", .glo "_law_great", .glo "_law_factor", .glo "_law_items", .glo "_law_normal", .glo "_law_stage", .glo "_law_settled_stage", .glo "_law_sheet", .glo "_law_settled", .glo "_law_number", .glo "_law_within", .glo "_law_is_fraction", .glo "_law_are_items", .glo "_law_is_stage", .glo "_law_odd", .glo "_law_odd_fraction", .glo "_law_bent_items", .glo "_law_bent_stage", .glo "_law_bent_rows", .glo "_law_bent_stages", .glo "_law_due", .glo "_law_due_stages", .glo "_law_made", .glo "_law_staged", .glo "_law_fits", .glo "_law_bent", .glo "law", .noat "BadValue" "value", .noat "BadValue" "code", .int "MOST_WIDTH" 2000, .int "MOST_STAGES" 100, .cls "Net", .mkr "Net", .noat "Net" "signs", .noat "Net" "n", .noat "Net" "width", .noat "Net" "_rest_row", .noat "Net" "_sign_rows", .noat "Net" "_place_rows", .noat "Net" "_stages", .meth "Net" "rest_row", .meth "Net" "sign_rows", .meth "Net" "place_rows", .meth "Net" "stages", .meth "Net" "with_stages"]
def tsL : List He.Tab := []
def tfL : List He.Defn := []
theorem fun_ofD {K : PySem.W.Frag} {x q : Str} {st : Stmt} {f : Addr} {fd : FuncData} {kws : List (Str × V)} (F : FunD K x q (defArgs st) (defBody st) (defScope st) [] kws f fd) : Fun K x q st f fd := by
  obtain ⟨oc, od, dV, kV, doc, pm, an, cdv, ct, osl, rfl, lk, hcd, hD, _⟩ := F.ex
  rcases hD with ⟨_, rfl⟩ | ⟨e, _⟩
  · exact ⟨⟨oc, od, kV, doc, pm, an, cdv, ct, osl, rfl, lk, hcd⟩, F.kp⟩
  · exact absurd rfl e
theorem gA_rel : ∀ {vs mz zs : List V} {us mv ws : List Value}, Vals vs us → Vals mz mv → Vals zs ws → Vals (gA vs mz zs) (gA us mv ws)
  | _, [_, _], [_, _], _, _, _, h, .cons a (.cons b .nil), .cons c (.cons d .nil) => h.append (.cons a (.cons c (.cons d (.cons b .nil))))
  | _, [], _, _, _, _, h, .nil, _ => h
  | _, [_], _, _, _, _, h, .cons _ .nil, _ => h
  | _, _ :: _ :: _ :: _, _, _, _, _, h, .cons _ (.cons _ (.cons _ _)), _ => h
  | _, [_, _], [], _, _, _, h, .cons _ (.cons _ .nil), .nil => h
  | _, [_, _], [_], _, _, _, h, .cons _ (.cons _ .nil), .cons _ .nil => h
  | _, [_, _], _ :: _ :: _ :: _, _, _, _, h, .cons _ (.cons _ .nil), .cons _ (.cons _ (.cons _ _)) => h
theorem gB_rel : ∀ {vs mz zs : List V} {us mv ws : List Value}, Vals vs us → Vals mz mv → Vals zs ws → Vals (gB vs mz zs) (gB us mv ws)
  | _, [_], [_, _, _], _, _, _, h, .cons a .nil, .cons b (.cons c (.cons d .nil)) => h.append (.cons b (.cons c (.cons d (.cons a .nil))))
  | _, [], _, _, _, _, h, .nil, _ => h
  | _, _ :: _ :: _, _, _, _, _, h, .cons _ (.cons _ _), _ => h
  | _, [_], [], _, _, _, h, .cons _ .nil, .nil => h
  | _, [_], [_], _, _, _, h, .cons _ .nil, .cons _ .nil => h
  | _, [_], [_, _], _, _, _, h, .cons _ .nil, .cons _ (.cons _ .nil) => h
  | _, [_], _ :: _ :: _ :: _ :: _, _, _, _, h, .cons _ .nil, .cons _ (.cons _ (.cons _ (.cons _ _))) => h
theorem gC_rel : ∀ {vs mz zs : List V} {us mv ws : List Value}, Vals vs us → Vals mz mv → Vals zs ws → Vals (gC vs mz zs) (gC us mv ws)
  | _, [_], [_, _, _], _, _, _, h, .cons a .nil, .cons b (.cons c (.cons d .nil)) => h.append (.cons a (.cons d (.cons c (.cons b .nil))))
  | _, [], _, _, _, _, h, .nil, _ => h
  | _, _ :: _ :: _, _, _, _, _, h, .cons _ (.cons _ _), _ => h
  | _, [_], [], _, _, _, h, .cons _ .nil, .nil => h
  | _, [_], [_], _, _, _, h, .cons _ .nil, .cons _ .nil => h
  | _, [_], [_, _], _, _, _, h, .cons _ .nil, .cons _ (.cons _ .nil) => h
  | _, [_], _ :: _ :: _ :: _ :: _, _, _, _, h, .cons _ .nil, .cons _ (.cons _ (.cons _ (.cons _ _))) => h
theorem gD_rel : ∀ {vs mz zs : List V} {us mv ws : List Value}, Vals vs us → Vals mz mv → Vals zs ws → Vals (gD vs mz zs) (gD us mv ws) := fun h _ g => h.append g
set_option maxHeartbeats 0 in
theorem facts {P : Program} {w : World} {K : PySem.W.Frag} {h : Heap} {mg : Str → Option Value} {f : Addr} (X : K.In h) (G : h.Ns mainGlobals mg) (hfa : mg ("law" : Str) = some (.ref f)) (c : He.SaysX faL fnL tsL tfL exB w h K) :
    ∃ fd : FuncData, (∀ (s : Shared) (u : Value), BindsTo s fd ⟨[u], []⟩ [("script", u)]) ∧ ∀ base : Heap, K.In base → base.Ns mainGlobals mg → FnOk P w K mg base CX0 12 f fd ["script"] (sp_law K) := by
  have d := c.t.d
  have ex := c.more
  obtain ⟨e_bv, ex⟩ := He.ba ex
  obtain ⟨e_gcd, ex⟩ := He.ba ex
  obtain ⟨e_bt, ex⟩ := He.ba ex
  obtain ⟨e_bi, ex⟩ := He.ba ex
  obtain ⟨e_zero, ex⟩ := He.ba ex
  obtain ⟨e_cl, ex⟩ := He.ba ex
  obtain ⟨e_cg, ex⟩ := He.ba ex
  obtain ⟨e_ct, ex⟩ := He.ba ex
  obtain ⟨e_mr, ex⟩ := He.ba ex
  obtain ⟨e_kk, ex⟩ := He.ba ex
  obtain ⟨e_k1, ex⟩ := He.ba ex
  obtain ⟨e_k2, ex⟩ := He.ba ex
  obtain ⟨e_m1, ex⟩ := He.ba ex
  obtain ⟨e_m2, ex⟩ := He.ba ex
  obtain ⟨e_bnX, ex⟩ := He.ba ex
  obtain ⟨e_bni, ex⟩ := He.ba ex
  obtain ⟨e_bnt, ex⟩ := He.ba ex
  obtain ⟨e_bnf, ex⟩ := He.ba ex
  obtain ⟨e_bnwhere, ex⟩ := He.ba ex
  obtain ⟨e_bncode, ex⟩ := He.ba ex
  obtain ⟨e_tmX, ex⟩ := He.ba ex
  obtain ⟨e_tmi, ex⟩ := He.ba ex
  obtain ⟨e_tmt, ex⟩ := He.ba ex
  obtain ⟨e_tmf, ex⟩ := He.ba ex
  obtain ⟨e_tmwhat, ex⟩ := He.ba ex
  obtain ⟨e_tmcount, ex⟩ := He.ba ex
  obtain ⟨e_tmcode, ex⟩ := He.ba ex
  obtain ⟨e_BB, ex⟩ := He.ba ex
  obtain ⟨e_TB, ex⟩ := He.ba ex
  have e_TT := ex
  obtain ⟨d_init, FD_init⟩ := d.def_ 0 (d := dInit) rfl
  obtain ⟨d_NI, FD_NI⟩ := d.def_ 1 (d := dNI) rfl
  obtain ⟨d_BN, FD_BN⟩ := d.def_ 2 (d := dBN) rfl
  obtain ⟨d_TM, FD_TM⟩ := d.def_ 3 (d := dTM) rfl
  obtain ⟨d_Net__rest_row, FD_Net__rest_row⟩ := d.def_ 4 (d := D_Net__rest_row) rfl
  obtain ⟨d_Net__sign_rows, FD_Net__sign_rows⟩ := d.def_ 5 (d := D_Net__sign_rows) rfl
  obtain ⟨d_Net__place_rows, FD_Net__place_rows⟩ := d.def_ 6 (d := D_Net__place_rows) rfl
  obtain ⟨d_Net__stages, FD_Net__stages⟩ := d.def_ 7 (d := D_Net__stages) rfl
  obtain ⟨d_Net__with_stages, FD_Net__with_stages⟩ := d.def_ 8 (d := D_Net__with_stages) rfl
  obtain ⟨d__wall, FD__wall⟩ := d.def_ 9 (d := D__wall) rfl
  obtain ⟨d_is_number, FD_is_number⟩ := d.def_ 10 (d := D_is_number) rfl
  obtain ⟨d_is_fraction, FD_is_fraction⟩ := d.def_ 11 (d := D_is_fraction) rfl
  obtain ⟨d_fraction, FD_fraction⟩ := d.def_ 12 (d := D_fraction) rfl
  obtain ⟨d_plus, FD_plus⟩ := d.def_ 13 (d := D_plus) rfl
  obtain ⟨d_are_sizes, FD_are_sizes⟩ := d.def_ 14 (d := D_are_sizes) rfl
  obtain ⟨d_normal_entries, FD_normal_entries⟩ := d.def_ 15 (d := D_normal_entries) rfl
  obtain ⟨d_normal_triples, FD_normal_triples⟩ := d.def_ 16 (d := D_normal_triples) rfl
  obtain ⟨d_normal_part, FD_normal_part⟩ := d.def_ 17 (d := D_normal_part) rfl
  obtain ⟨d_normal_stage, FD_normal_stage⟩ := d.def_ 18 (d := D_normal_stage) rfl
  obtain ⟨d_is_column, FD_is_column⟩ := d.def_ 19 (d := D_is_column) rfl
  obtain ⟨d_are_items, FD_are_items⟩ := d.def_ 20 (d := D_are_items) rfl
  obtain ⟨d_is_item, FD_is_item⟩ := d.def_ 21 (d := D_is_item) rfl
  obtain ⟨d_are_rows, FD_are_rows⟩ := d.def_ 22 (d := D_are_rows) rfl
  obtain ⟨d_is_part, FD_is_part⟩ := d.def_ 23 (d := D_is_part) rfl
  obtain ⟨d_is_stage, FD_is_stage⟩ := d.def_ 24 (d := D_is_stage) rfl
  obtain ⟨d_check_stages, FD_check_stages⟩ := d.def_ 25 (d := D_check_stages) rfl
  obtain ⟨d__law_bag, FD__law_bag⟩ := d.def_ 26 (d := D__law_bag) rfl
  obtain ⟨d__law_draw, FD__law_draw⟩ := d.def_ 27 (d := D__law_draw) rfl
  obtain ⟨d__law_of, FD__law_of⟩ := d.def_ 28 (d := D__law_of) rfl
  obtain ⟨d__law_either, FD__law_either⟩ := d.def_ 29 (d := D__law_either) rfl
  obtain ⟨d__law_like, FD__law_like⟩ := d.def_ 30 (d := D__law_like) rfl
  obtain ⟨d__law_gcd, FD__law_gcd⟩ := d.def_ 31 (d := D__law_gcd) rfl
  obtain ⟨d__law_low, FD__law_low⟩ := d.def_ 32 (d := D__law_low) rfl
  obtain ⟨d__law_plus, FD__law_plus⟩ := d.def_ 33 (d := D__law_plus) rfl
  obtain ⟨d__law_great, FD__law_great⟩ := d.def_ 34 (d := D__law_great) rfl
  obtain ⟨d__law_factor, FD__law_factor⟩ := d.def_ 35 (d := D__law_factor) rfl
  obtain ⟨d__law_items, FD__law_items⟩ := d.def_ 36 (d := D__law_items) rfl
  obtain ⟨d__law_normal, FD__law_normal⟩ := d.def_ 37 (d := D__law_normal) rfl
  obtain ⟨d__law_stage, FD__law_stage⟩ := d.def_ 38 (d := D__law_stage) rfl
  obtain ⟨d__law_settled_stage, FD__law_settled_stage⟩ := d.def_ 39 (d := D__law_settled_stage) rfl
  obtain ⟨d__law_sheet, FD__law_sheet⟩ := d.def_ 40 (d := D__law_sheet) rfl
  obtain ⟨d__law_settled, FD__law_settled⟩ := d.def_ 41 (d := D__law_settled) rfl
  obtain ⟨d__law_number, FD__law_number⟩ := d.def_ 42 (d := D__law_number) rfl
  obtain ⟨d__law_within, FD__law_within⟩ := d.def_ 43 (d := D__law_within) rfl
  obtain ⟨d__law_is_fraction, FD__law_is_fraction⟩ := d.def_ 44 (d := D__law_is_fraction) rfl
  obtain ⟨d__law_are_items, FD__law_are_items⟩ := d.def_ 45 (d := D__law_are_items) rfl
  obtain ⟨d__law_is_stage, FD__law_is_stage⟩ := d.def_ 46 (d := D__law_is_stage) rfl
  obtain ⟨d__law_odd, FD__law_odd⟩ := d.def_ 47 (d := D__law_odd) rfl
  obtain ⟨d__law_odd_fraction, FD__law_odd_fraction⟩ := d.def_ 48 (d := D__law_odd_fraction) rfl
  obtain ⟨d__law_bent_items, FD__law_bent_items⟩ := d.def_ 49 (d := D__law_bent_items) rfl
  obtain ⟨d__law_bent_stage, FD__law_bent_stage⟩ := d.def_ 50 (d := D__law_bent_stage) rfl
  obtain ⟨d__law_bent_rows, FD__law_bent_rows⟩ := d.def_ 51 (d := D__law_bent_rows) rfl
  obtain ⟨d__law_bent_stages, FD__law_bent_stages⟩ := d.def_ 52 (d := D__law_bent_stages) rfl
  obtain ⟨d__law_due, FD__law_due⟩ := d.def_ 53 (d := D__law_due) rfl
  obtain ⟨d__law_due_stages, FD__law_due_stages⟩ := d.def_ 54 (d := D__law_due_stages) rfl
  obtain ⟨d__law_made, FD__law_made⟩ := d.def_ 55 (d := D__law_made) rfl
  obtain ⟨d__law_staged, FD__law_staged⟩ := d.def_ 56 (d := D__law_staged) rfl
  obtain ⟨d__law_fits, FD__law_fits⟩ := d.def_ 57 (d := D__law_fits) rfl
  obtain ⟨d__law_bent, FD__law_bent⟩ := d.def_ 58 (d := D__law_bent) rfl
  obtain ⟨d_law, FD_law⟩ := d.def_ 59 (d := D_law) rfl
  have F_init : Fun K "__init__" "BadValue.__init__" s_BadValue (bvI K) d_init := fun_ofD FD_init
  have F_Net__rest_row : Fun K "rest_row" "Net.rest_row" s_Net__rest_row (He.ma K (nC K) "rest_row") d_Net__rest_row := fun_ofD FD_Net__rest_row
  have b_Net__rest_row := F_Net__rest_row.binds (ps := ["self"]) fun _ _ _ _ _ _ us hl => match us, hl with | [_], _ => rfl
  have F_Net__sign_rows : Fun K "sign_rows" "Net.sign_rows" s_Net__sign_rows (He.ma K (nC K) "sign_rows") d_Net__sign_rows := fun_ofD FD_Net__sign_rows
  have b_Net__sign_rows := F_Net__sign_rows.binds (ps := ["self"]) fun _ _ _ _ _ _ us hl => match us, hl with | [_], _ => rfl
  have F_Net__place_rows : Fun K "place_rows" "Net.place_rows" s_Net__place_rows (He.ma K (nC K) "place_rows") d_Net__place_rows := fun_ofD FD_Net__place_rows
  have b_Net__place_rows := F_Net__place_rows.binds (ps := ["self"]) fun _ _ _ _ _ _ us hl => match us, hl with | [_], _ => rfl
  have F_Net__stages : Fun K "stages" "Net.stages" s_Net__stages (He.ma K (nC K) "stages") d_Net__stages := fun_ofD FD_Net__stages
  have b_Net__stages := F_Net__stages.binds (ps := ["self"]) fun _ _ _ _ _ _ us hl => match us, hl with | [_], _ => rfl
  have F_Net__with_stages : Fun K "with_stages" "Net.with_stages" s_Net__with_stages (He.ma K (nC K) "with_stages") d_Net__with_stages := fun_ofD FD_Net__with_stages
  have b_Net__with_stages := F_Net__with_stages.binds (ps := ["self", "stages"]) fun _ _ _ _ _ _ us hl => match us, hl with | [_, _], _ => rfl
  have F__wall : Fun K "_wall" "_wall" s__wall (He.ga K "_wall") d__wall := fun_ofD FD__wall
  have F_is_number : Fun K "is_number" "is_number" s_is_number (He.ga K "is_number") d_is_number := fun_ofD FD_is_number
  have F_is_fraction : Fun K "is_fraction" "is_fraction" s_is_fraction (He.ga K "is_fraction") d_is_fraction := fun_ofD FD_is_fraction
  have F_plus : Fun K "plus" "plus" s_plus (He.ga K "plus") d_plus := fun_ofD FD_plus
  have F_are_sizes : Fun K "are_sizes" "are_sizes" s_are_sizes (He.ga K "are_sizes") d_are_sizes := fun_ofD FD_are_sizes
  have F_normal_entries : Fun K "normal_entries" "normal_entries" s_normal_entries (He.ga K "normal_entries") d_normal_entries := fun_ofD FD_normal_entries
  have F_normal_triples : Fun K "normal_triples" "normal_triples" s_normal_triples (He.ga K "normal_triples") d_normal_triples := fun_ofD FD_normal_triples
  have F_normal_part : Fun K "normal_part" "normal_part" s_normal_part (He.ga K "normal_part") d_normal_part := fun_ofD FD_normal_part
  have F_normal_stage : Fun K "normal_stage" "normal_stage" s_normal_stage (He.ga K "normal_stage") d_normal_stage := fun_ofD FD_normal_stage
  have F_is_column : Fun K "is_column" "is_column" s_is_column (He.ga K "is_column") d_is_column := fun_ofD FD_is_column
  have F_are_items : Fun K "are_items" "are_items" s_are_items (He.ga K "are_items") d_are_items := fun_ofD FD_are_items
  have F_is_item : Fun K "is_item" "is_item" s_is_item (He.ga K "is_item") d_is_item := fun_ofD FD_is_item
  have F_are_rows : Fun K "are_rows" "are_rows" s_are_rows (He.ga K "are_rows") d_are_rows := fun_ofD FD_are_rows
  have F_is_part : Fun K "is_part" "is_part" s_is_part (He.ga K "is_part") d_is_part := fun_ofD FD_is_part
  have F_is_stage : Fun K "is_stage" "is_stage" s_is_stage (He.ga K "is_stage") d_is_stage := fun_ofD FD_is_stage
  have F_check_stages : Fun K "check_stages" "check_stages" s_check_stages (He.ga K "check_stages") d_check_stages := fun_ofD FD_check_stages
  have F__law_bag : Fun K "_law_bag" "_law_bag" s__law_bag (He.ga K "_law_bag") d__law_bag := fun_ofD FD__law_bag
  have F__law_draw : Fun K "_law_draw" "_law_draw" s__law_draw (He.ga K "_law_draw") d__law_draw := fun_ofD FD__law_draw
  have F__law_of : Fun K "_law_of" "_law_of" s__law_of (He.ga K "_law_of") d__law_of := fun_ofD FD__law_of
  have F__law_either : Fun K "_law_either" "_law_either" s__law_either (He.ga K "_law_either") d__law_either := fun_ofD FD__law_either
  have F__law_like : Fun K "_law_like" "_law_like" s__law_like (He.ga K "_law_like") d__law_like := fun_ofD FD__law_like
  have F__law_gcd : Fun K "_law_gcd" "_law_gcd" s__law_gcd (He.ga K "_law_gcd") d__law_gcd := fun_ofD FD__law_gcd
  have F__law_low : Fun K "_law_low" "_law_low" s__law_low (He.ga K "_law_low") d__law_low := fun_ofD FD__law_low
  have F__law_plus : Fun K "_law_plus" "_law_plus" s__law_plus (He.ga K "_law_plus") d__law_plus := fun_ofD FD__law_plus
  have F__law_great : Fun K "_law_great" "_law_great" s__law_great (He.ga K "_law_great") d__law_great := fun_ofD FD__law_great
  have F__law_factor : Fun K "_law_factor" "_law_factor" s__law_factor (He.ga K "_law_factor") d__law_factor := fun_ofD FD__law_factor
  have F__law_items : Fun K "_law_items" "_law_items" s__law_items (He.ga K "_law_items") d__law_items := fun_ofD FD__law_items
  have F__law_normal : Fun K "_law_normal" "_law_normal" s__law_normal (He.ga K "_law_normal") d__law_normal := fun_ofD FD__law_normal
  have F__law_stage : Fun K "_law_stage" "_law_stage" s__law_stage (He.ga K "_law_stage") d__law_stage := fun_ofD FD__law_stage
  have F__law_settled_stage : Fun K "_law_settled_stage" "_law_settled_stage" s__law_settled_stage (He.ga K "_law_settled_stage") d__law_settled_stage := fun_ofD FD__law_settled_stage
  have F__law_sheet : Fun K "_law_sheet" "_law_sheet" s__law_sheet (He.ga K "_law_sheet") d__law_sheet := fun_ofD FD__law_sheet
  have F__law_settled : Fun K "_law_settled" "_law_settled" s__law_settled (He.ga K "_law_settled") d__law_settled := fun_ofD FD__law_settled
  have F__law_number : Fun K "_law_number" "_law_number" s__law_number (He.ga K "_law_number") d__law_number := fun_ofD FD__law_number
  have F__law_within : Fun K "_law_within" "_law_within" s__law_within (He.ga K "_law_within") d__law_within := fun_ofD FD__law_within
  have F__law_is_fraction : Fun K "_law_is_fraction" "_law_is_fraction" s__law_is_fraction (He.ga K "_law_is_fraction") d__law_is_fraction := fun_ofD FD__law_is_fraction
  have F__law_are_items : Fun K "_law_are_items" "_law_are_items" s__law_are_items (He.ga K "_law_are_items") d__law_are_items := fun_ofD FD__law_are_items
  have F__law_is_stage : Fun K "_law_is_stage" "_law_is_stage" s__law_is_stage (He.ga K "_law_is_stage") d__law_is_stage := fun_ofD FD__law_is_stage
  have F__law_odd : Fun K "_law_odd" "_law_odd" s__law_odd (He.ga K "_law_odd") d__law_odd := fun_ofD FD__law_odd
  have F__law_odd_fraction : Fun K "_law_odd_fraction" "_law_odd_fraction" s__law_odd_fraction (He.ga K "_law_odd_fraction") d__law_odd_fraction := fun_ofD FD__law_odd_fraction
  have F__law_bent_items : Fun K "_law_bent_items" "_law_bent_items" s__law_bent_items (He.ga K "_law_bent_items") d__law_bent_items := fun_ofD FD__law_bent_items
  have F__law_bent_stage : Fun K "_law_bent_stage" "_law_bent_stage" s__law_bent_stage (He.ga K "_law_bent_stage") d__law_bent_stage := fun_ofD FD__law_bent_stage
  have F__law_bent_rows : Fun K "_law_bent_rows" "_law_bent_rows" s__law_bent_rows (He.ga K "_law_bent_rows") d__law_bent_rows := fun_ofD FD__law_bent_rows
  have F__law_bent_stages : Fun K "_law_bent_stages" "_law_bent_stages" s__law_bent_stages (He.ga K "_law_bent_stages") d__law_bent_stages := fun_ofD FD__law_bent_stages
  have F__law_due : Fun K "_law_due" "_law_due" s__law_due (He.ga K "_law_due") d__law_due := fun_ofD FD__law_due
  have F__law_due_stages : Fun K "_law_due_stages" "_law_due_stages" s__law_due_stages (He.ga K "_law_due_stages") d__law_due_stages := fun_ofD FD__law_due_stages
  have F__law_made : Fun K "_law_made" "_law_made" s__law_made (He.ga K "_law_made") d__law_made := fun_ofD FD__law_made
  have F__law_staged : Fun K "_law_staged" "_law_staged" s__law_staged (He.ga K "_law_staged") d__law_staged := fun_ofD FD__law_staged
  have F__law_fits : Fun K "_law_fits" "_law_fits" s__law_fits (He.ga K "_law_fits") d__law_fits := fun_ofD FD__law_fits
  have F__law_bent : Fun K "_law_bent" "_law_bent" s__law_bent (He.ga K "_law_bent") d__law_bent := fun_ofD FD__law_bent
  have F_law : Fun K "law" "law" s_law (He.ga K "law") d_law := fun_ofD FD_law
  have F_BN : Fun K "__init__" "BadNet.__init__" s_BadNet (bnI K) d_BN := fun_ofD FD_BN
  have b_BN := F_BN.binds (ps := ["self", "where"]) fun _ _ _ _ _ _ us hl => match us, hl with | [_, _], _ => rfl
  have F_TM : Fun K "__init__" "TooMany.__init__" s_TooMany (tmI K) d_TM := fun_ofD FD_TM
  have b_TM := F_TM.binds (ps := ["self", "what", "count"]) fun _ _ _ _ _ _ us hl => match us, hl with | [_, _, _], _ => rfl
  have b_init := F_init.binds (ps := ["self", "value"]) fun _ _ _ _ _ _ us hl => match us, hl with | [_, _], _ => rfl
  have b__wall := F__wall.binds (ps := ["k"]) fun _ _ _ _ _ _ us hl => match us, hl with | [_], _ => rfl
  have b_is_number := F_is_number.binds (ps := ["value"]) fun _ _ _ _ _ _ us hl => match us, hl with | [_], _ => rfl
  have b_is_fraction := F_is_fraction.binds (ps := ["value"]) fun _ _ _ _ _ _ us hl => match us, hl with | [_], _ => rfl
  have b_plus := F_plus.binds (ps := ["a", "b"]) fun _ _ _ _ _ _ us hl => match us, hl with | [_, _], _ => rfl
  have b_are_sizes := F_are_sizes.binds (ps := ["signs", "n"]) fun _ _ _ _ _ _ us hl => match us, hl with | [_, _], _ => rfl
  have b_normal_entries := F_normal_entries.binds (ps := ["entries"]) fun _ _ _ _ _ _ us hl => match us, hl with | [_], _ => rfl
  have b_normal_triples := F_normal_triples.binds (ps := ["triples"]) fun _ _ _ _ _ _ us hl => match us, hl with | [_], _ => rfl
  have b_normal_part := F_normal_part.binds (ps := ["kind", "part"]) fun _ _ _ _ _ _ us hl => match us, hl with | [_, _], _ => rfl
  have b_normal_stage := F_normal_stage.binds (ps := ["stage"]) fun _ _ _ _ _ _ us hl => match us, hl with | [_], _ => rfl
  have b_is_column := F_is_column.binds (ps := ["value", "width"]) fun _ _ _ _ _ _ us hl => match us, hl with | [_, _], _ => rfl
  have b_are_items := F_are_items.binds (ps := ["value", "many", "width"]) fun _ _ _ _ _ _ us hl => match us, hl with | [_, _, _], _ => rfl
  have b_is_item := F_is_item.binds (ps := ["value", "many", "width"]) fun _ _ _ _ _ _ us hl => match us, hl with | [_, _, _], _ => rfl
  have b_are_rows := F_are_rows.binds (ps := ["value", "many", "width"]) fun _ _ _ _ _ _ us hl => match us, hl with | [_, _, _], _ => rfl
  have b_is_part := F_is_part.binds (ps := ["kind", "value", "width"]) fun _ _ _ _ _ _ us hl => match us, hl with | [_, _, _], _ => rfl
  have b_is_stage := F_is_stage.binds (ps := ["value", "width"]) fun _ _ _ _ _ _ us hl => match us, hl with | [_, _], _ => rfl
  have b_check_stages := F_check_stages.binds (ps := ["stages", "width"]) fun _ _ _ _ _ _ us hl => match us, hl with | [_, _], _ => rfl
  have b__law_bag := F__law_bag.binds (ps := ["script"]) fun _ _ _ _ _ _ us hl => match us, hl with | [_], _ => rfl
  have b__law_draw := F__law_draw.binds (ps := ["bag", "many"]) fun _ _ _ _ _ _ us hl => match us, hl with | [_, _], _ => rfl
  have b__law_of := F__law_of.binds (ps := ["bag", "things"]) fun _ _ _ _ _ _ us hl => match us, hl with | [_, _], _ => rfl
  have b__law_either := F__law_either.binds (ps := ["bag", "things"]) fun _ _ _ _ _ _ us hl => match us, hl with | [_, _], _ => rfl
  have b__law_like := F__law_like.binds (ps := ["found", "due"]) fun _ _ _ _ _ _ us hl => match us, hl with | [_, _], _ => rfl
  have b__law_gcd := F__law_gcd.binds (ps := ["a", "b"]) fun _ _ _ _ _ _ us hl => match us, hl with | [_, _], _ => rfl
  have b__law_low := F__law_low.binds (ps := ["p", "q"]) fun _ _ _ _ _ _ us hl => match us, hl with | [_, _], _ => rfl
  have b__law_plus := F__law_plus.binds (ps := ["a", "b"]) fun _ _ _ _ _ _ us hl => match us, hl with | [_, _], _ => rfl
  have b__law_great := F__law_great.binds (ps := ["bag"]) fun _ _ _ _ _ _ us hl => match us, hl with | [_], _ => rfl
  have b__law_factor := F__law_factor.binds (ps := ["bag"]) fun _ _ _ _ _ _ us hl => match us, hl with | [_], _ => rfl
  have b__law_items := F__law_items.binds (ps := ["bag", "many", "width", "most"]) fun _ _ _ _ _ _ us hl => match us, hl with | [_, _, _, _], _ => rfl
  have b__law_normal := F__law_normal.binds (ps := ["items"]) fun _ _ _ _ _ _ us hl => match us, hl with | [_], _ => rfl
  have b__law_stage := F__law_stage.binds (ps := ["bag", "width", "most"]) fun _ _ _ _ _ _ us hl => match us, hl with | [_, _, _], _ => rfl
  have b__law_settled_stage := F__law_settled_stage.binds (ps := ["stage"]) fun _ _ _ _ _ _ us hl => match us, hl with | [_], _ => rfl
  have b__law_sheet := F__law_sheet.binds (ps := ["bag", "signs", "n", "width", "stages_y"]) fun _ _ _ _ _ _ us hl => match us, hl with | [_, _, _, _, _], _ => rfl
  have b__law_settled := F__law_settled.binds (ps := ["sheet"]) fun _ _ _ _ _ _ us hl => match us, hl with | [_], _ => rfl
  have b__law_number := F__law_number.binds (ps := ["x"]) fun _ _ _ _ _ _ us hl => match us, hl with | [_], _ => rfl
  have b__law_within := F__law_within.binds (ps := ["x", "least", "most_y"]) fun _ _ _ _ _ _ us hl => match us, hl with | [_, _, _], _ => rfl
  have b__law_is_fraction := F__law_is_fraction.binds (ps := ["x"]) fun _ _ _ _ _ _ us hl => match us, hl with | [_], _ => rfl
  have b__law_are_items := F__law_are_items.binds (ps := ["value", "many", "width"]) fun _ _ _ _ _ _ us hl => match us, hl with | [_, _, _], _ => rfl
  have b__law_is_stage := F__law_is_stage.binds (ps := ["value", "width"]) fun _ _ _ _ _ _ us hl => match us, hl with | [_, _], _ => rfl
  have b__law_odd := F__law_odd.binds (ps := ["bag"]) fun _ _ _ _ _ _ us hl => match us, hl with | [_], _ => rfl
  have b__law_odd_fraction := F__law_odd_fraction.binds (ps := ["bag"]) fun _ _ _ _ _ _ us hl => match us, hl with | [_], _ => rfl
  have b__law_bent_items := F__law_bent_items.binds (ps := ["bag", "items", "many", "width"]) fun _ _ _ _ _ _ us hl => match us, hl with | [_, _, _, _], _ => rfl
  have b__law_bent_stage := F__law_bent_stage.binds (ps := ["bag", "stage", "width"]) fun _ _ _ _ _ _ us hl => match us, hl with | [_, _, _], _ => rfl
  have b__law_bent_rows := F__law_bent_rows.binds (ps := ["bag", "rows_y", "width"]) fun _ _ _ _ _ _ us hl => match us, hl with | [_, _, _], _ => rfl
  have b__law_bent_stages := F__law_bent_stages.binds (ps := ["bag", "stages_y", "width"]) fun _ _ _ _ _ _ us hl => match us, hl with | [_, _, _], _ => rfl
  have b__law_due := F__law_due.binds (ps := ["slots"]) fun _ _ _ _ _ _ us hl => match us, hl with | [_], _ => rfl
  have b__law_due_stages := F__law_due_stages.binds (ps := ["stages_y", "width"]) fun _ _ _ _ _ _ us hl => match us, hl with | [_, _], _ => rfl
  have b__law_made := F__law_made.binds (ps := ["slots"]) fun _ _ _ _ _ _ us hl => match us, hl with | [_], _ => rfl
  have b__law_staged := F__law_staged.binds (ps := ["net", "stages_y"]) fun _ _ _ _ _ _ us hl => match us, hl with | [_, _], _ => rfl
  have b__law_fits := F__law_fits.binds (ps := ["made", "due", "slots"]) fun _ _ _ _ _ _ us hl => match us, hl with | [_, _, _], _ => rfl
  have b__law_bent := F__law_bent.binds (ps := ["bag", "slots", "width"]) fun _ _ _ _ _ _ us hl => match us, hl with | [_, _, _], _ => rfl
  have b_law := F_law.binds (ps := ["script"]) fun _ _ _ _ _ _ us hl => match us, hl with | [_], _ => rfl
  have b_fraction : Binds K d_fraction ["p", "q"] [] := by
    obtain ⟨ds, hv, hb⟩ := FunD.binds1 (ps := ["p", "q"]) FD_fraction 2 1 (List.cons_ne_nil _ _) rfl fun _ _ _ _ _ _ _ us its h1 h2 => match us, its, h1, h2 with | [_, _], [_], _, _ => ⟨_, rfl, rfl⟩
    cases hv
    exact hb
  have F_NI := kw_fun FD_NI e_k1 e_k2
  obtain ⟨mv_Net__init_3_rest_sign_rows_place_rows_stages, z_Net__init_3_rest_sign_rows_place_rows_stages⟩ := F_NI.kbinds0 (ps := ["self", "signs", "n", "width", "rest", "sign_rows", "place_rows", "stages"]) 4 ["rest", "sign_rows", "place_rows", "stages"] [] (fun us mv ws => gD us mv ws) (List.cons_ne_nil _ _) (fun z hz => by simp at hz ⊢; try (first | exact hz | (rcases hz with rfl | rfl <;> simp) | (subst hz; simp))) (fun h1 h2 h3 => gD_rel h1 h2 h3) fun _ _ _ _ _ _ us mv ws l1 l2 l3 => match us, mv, ws, l1, l2, l3 with | [_, _, _, _], [], [_, _, _, _], _, _, _ => rfl
  have z_ws : KBn K d_Net__with_stages ["self", "stages"] 1 ["stages"] (fun us ws => us ++ ws) (fun vs zs => vs ++ zs) := by
    obtain ⟨oc, od, kV, doc, pm, an, cdv, ct, osl, rfl, lk, hcd⟩ := F_Net__with_stages.ex
    exact ⟨fun s us ws X l1 l2 => .of_eq (match us, ws, l1, l2 with | [_], [_], _, _ => rfl), fun h1 h2 => h1.append h2⟩
  obtain ⟨tW, hW⟩ := He.int_ok X G (d.fact 74 (f := .int "MOST_WIDTH" 2000) rfl)
  obtain ⟨tS, hS⟩ := He.int_ok X G (d.fact 75 (f := .int "MOST_STAGES" 100) rfl)
  let T : Txt w K mg := {
    n_len := He.free_ok X G (d.fact 0 (f := .free "len") rfl)
    n_int := He.free_ok X G (d.fact 1 (f := .free "int") rfl)
    n_list := He.free_ok X G (d.fact 2 (f := .free "list") rfl)
    n_tuple := He.free_ok X G (d.fact 3 (f := .free "tuple") rfl)
    n_bool := He.free_ok X G (d.fact 4 (f := .free "bool") rfl)
    n_str := He.free_ok X G (d.fact 5 (f := .free "str") rfl)
    n_dict := He.free_ok X G (d.fact 6 (f := .free "dict") rfl)
    n_isinstance := He.free_ok X G (d.fact 7 (f := .free "isinstance") rfl)
    n_all := He.free_ok X G (d.fact 8 (f := .free "all") rfl)
    n_range := He.free_ok X G (d.fact 9 (f := .free "range") rfl)
    n_zip := He.free_ok X G (d.fact 10 (f := .free "zip") rfl)
    n_abs := He.free_ok X G (d.fact 11 (f := .free "abs") rfl)
    n_sorted := He.free_ok X G (d.fact 12 (f := .free "sorted") rfl)
    n_set := He.free_ok X G (d.fact 13 (f := .free "set") rfl)
    n_enumerate := He.free_ok X G (d.fact 14 (f := .free "enumerate") rfl)
    n_repr := He.free_ok X G (d.fact 15 (f := .free "repr") rfl)
    m_gcd := PySem.W.mg_of X G (He.eqO_ok e_gcd)
    a_ZERO := He.ga K "ZERO"
    m_ZERO := He.glo_ok X G (d.fact 16 (f := .glo "ZERO") rfl)
    s_ZERO := fun H => He.tupB_ok e_zero H
    t_MOST_WIDTH := tW
    m_MOST_WIDTH := hW
    t_MOST_STAGES := tS
    m_MOST_STAGES := hS
    C_BadValue := bvC K
    f_BadValue := bvI K
    d_BadValue := d_init
    m_BadValue := He.glo_ok X G (d.fact 17 (f := .glo "BadValue") rfl)
    X_BadValue := oexB_ok e_bv
    i_BadValue := He.eqO_ok e_bi
    t_BadValue := of_decide_eq_true e_bt
    F_BadValue := F_init
    B_BadValue__init := b_init
    v_BadValue := He.noat_ok (d.fact 72 (f := .noat "BadValue" "value") rfl)
    c_BadValue := He.noat_ok (d.fact 73 (f := .noat "BadValue" "code") rfl)
    A_Net := nC K
    m_Net := He.glo_ok X G (d.fact 20 (f := .glo "Net") rfl)
    C_Net := He.cls_ok (d.fact 76 (f := .cls "Net") rfl)
    cl_Net := He.eqO_ok e_cl
    cg_Net := He.eqO_ok e_cg
    ct_Net := of_decide_eq_true e_ct
    mr_Net := of_decide_eq_true e_mr
    kk_Net := of_decide_eq_true e_kk
    em_BB := of_decide_eq_true e_BB
    em_TB := of_decide_eq_true e_TB
    em_TT := of_decide_eq_true e_TT
    C_BadNet := bnC K
    f_BadNet := bnI K
    d_BadNet := d_BN
    m_BadNet := He.glo_ok X G (d.fact 18 (f := .glo "BadNet") rfl)
    X_BadNet := oeB_ok e_bnX
    i_BadNet := He.eqO_ok e_bni
    t_BadNet := of_decide_eq_true e_bnt
    F_BadNet := F_BN
    B_BadNet__init := b_BN
    xf_BadNet := xfB_ok e_bnf
    n_BadNet_where := He.eqO_ok e_bnwhere
    n_BadNet_code := He.eqO_ok e_bncode
    C_TooMany := tmC K
    f_TooMany := tmI K
    d_TooMany := d_TM
    m_TooMany := He.glo_ok X G (d.fact 19 (f := .glo "TooMany") rfl)
    X_TooMany := oeB_ok e_tmX
    i_TooMany := He.eqO_ok e_tmi
    t_TooMany := of_decide_eq_true e_tmt
    F_TooMany := F_TM
    B_TooMany__init := b_TM
    xf_TooMany := xfB_ok e_tmf
    n_TooMany_what := He.eqO_ok e_tmwhat
    n_TooMany_count := He.eqO_ok e_tmcount
    n_TooMany_code := He.eqO_ok e_tmcode
    D_rest := kwA K "rest"
    s_rest := fun H => emB_ok e_m1 H
    D_stages := kwA K "stages"
    s_stages := fun H => emB_ok e_m2 H
    na_signs := He.noat_ok (d.fact 78 (f := .noat "Net" "signs") rfl)
    na_n := He.noat_ok (d.fact 79 (f := .noat "Net" "n") rfl)
    na_width := He.noat_ok (d.fact 80 (f := .noat "Net" "width") rfl)
    na__rest_row := He.noat_ok (d.fact 81 (f := .noat "Net" "_rest_row") rfl)
    na__sign_rows := He.noat_ok (d.fact 82 (f := .noat "Net" "_sign_rows") rfl)
    na__place_rows := He.noat_ok (d.fact 83 (f := .noat "Net" "_place_rows") rfl)
    na__stages := He.noat_ok (d.fact 84 (f := .noat "Net" "_stages") rfl)
    a_Net__init := nI K
    d_Net__init := d_NI
    F_Net__init := F_NI
    a_Net__rest_row := He.ma K (nC K) "rest_row"
    d_Net__rest_row := d_Net__rest_row
    F_Net__rest_row := F_Net__rest_row
    B_Net__rest_row := b_Net__rest_row
    mt_Net__rest_row := He.meth_ok (d.fact 85 (f := .meth "Net" "rest_row") rfl)
    a_Net__sign_rows := He.ma K (nC K) "sign_rows"
    d_Net__sign_rows := d_Net__sign_rows
    F_Net__sign_rows := F_Net__sign_rows
    B_Net__sign_rows := b_Net__sign_rows
    mt_Net__sign_rows := He.meth_ok (d.fact 86 (f := .meth "Net" "sign_rows") rfl)
    a_Net__place_rows := He.ma K (nC K) "place_rows"
    d_Net__place_rows := d_Net__place_rows
    F_Net__place_rows := F_Net__place_rows
    B_Net__place_rows := b_Net__place_rows
    mt_Net__place_rows := He.meth_ok (d.fact 87 (f := .meth "Net" "place_rows") rfl)
    a_Net__stages := He.ma K (nC K) "stages"
    d_Net__stages := d_Net__stages
    F_Net__stages := F_Net__stages
    B_Net__stages := b_Net__stages
    mt_Net__stages := He.meth_ok (d.fact 88 (f := .meth "Net" "stages") rfl)
    a_Net__with_stages := He.ma K (nC K) "with_stages"
    d_Net__with_stages := d_Net__with_stages
    F_Net__with_stages := F_Net__with_stages
    B_Net__with_stages := b_Net__with_stages
    mt_Net__with_stages := He.meth_ok (d.fact 89 (f := .meth "Net" "with_stages") rfl)
    mk_Net := He.mkr_ok (d.fact 77 (f := .mkr "Net") rfl)
    mv_Net__init_3_rest_sign_rows_place_rows_stages := mv_Net__init_3_rest_sign_rows_place_rows_stages
    Z_Net__init_3_rest_sign_rows_place_rows_stages := z_Net__init_3_rest_sign_rows_place_rows_stages
    Z_Net__with_stages := z_ws
    a__wall := He.ga K "_wall"
    d__wall := d__wall
    F__wall := F__wall
    m__wall := He.glo_ok X G (d.fact 21 (f := .glo "_wall") rfl)
    B__wall := b__wall
    a_is_number := He.ga K "is_number"
    d_is_number := d_is_number
    F_is_number := F_is_number
    m_is_number := He.glo_ok X G (d.fact 22 (f := .glo "is_number") rfl)
    B_is_number := b_is_number
    a_is_fraction := He.ga K "is_fraction"
    d_is_fraction := d_is_fraction
    F_is_fraction := F_is_fraction
    m_is_fraction := He.glo_ok X G (d.fact 23 (f := .glo "is_fraction") rfl)
    B_is_fraction := b_is_fraction
    a_fraction := He.ga K "fraction"
    d_fraction := d_fraction
    F_fraction := FD_fraction
    m_fraction := He.glo_ok X G (d.fact 24 (f := .glo "fraction") rfl)
    B_fraction := b_fraction
    a_plus := He.ga K "plus"
    d_plus := d_plus
    F_plus := F_plus
    m_plus := He.glo_ok X G (d.fact 25 (f := .glo "plus") rfl)
    B_plus := b_plus
    a_are_sizes := He.ga K "are_sizes"
    d_are_sizes := d_are_sizes
    F_are_sizes := F_are_sizes
    m_are_sizes := He.glo_ok X G (d.fact 26 (f := .glo "are_sizes") rfl)
    B_are_sizes := b_are_sizes
    a_normal_entries := He.ga K "normal_entries"
    d_normal_entries := d_normal_entries
    F_normal_entries := F_normal_entries
    m_normal_entries := He.glo_ok X G (d.fact 27 (f := .glo "normal_entries") rfl)
    B_normal_entries := b_normal_entries
    a_normal_triples := He.ga K "normal_triples"
    d_normal_triples := d_normal_triples
    F_normal_triples := F_normal_triples
    m_normal_triples := He.glo_ok X G (d.fact 28 (f := .glo "normal_triples") rfl)
    B_normal_triples := b_normal_triples
    a_normal_part := He.ga K "normal_part"
    d_normal_part := d_normal_part
    F_normal_part := F_normal_part
    m_normal_part := He.glo_ok X G (d.fact 29 (f := .glo "normal_part") rfl)
    B_normal_part := b_normal_part
    a_normal_stage := He.ga K "normal_stage"
    d_normal_stage := d_normal_stage
    F_normal_stage := F_normal_stage
    m_normal_stage := He.glo_ok X G (d.fact 30 (f := .glo "normal_stage") rfl)
    B_normal_stage := b_normal_stage
    a_is_column := He.ga K "is_column"
    d_is_column := d_is_column
    F_is_column := F_is_column
    m_is_column := He.glo_ok X G (d.fact 31 (f := .glo "is_column") rfl)
    B_is_column := b_is_column
    a_are_items := He.ga K "are_items"
    d_are_items := d_are_items
    F_are_items := F_are_items
    m_are_items := He.glo_ok X G (d.fact 32 (f := .glo "are_items") rfl)
    B_are_items := b_are_items
    a_is_item := He.ga K "is_item"
    d_is_item := d_is_item
    F_is_item := F_is_item
    m_is_item := He.glo_ok X G (d.fact 33 (f := .glo "is_item") rfl)
    B_is_item := b_is_item
    a_are_rows := He.ga K "are_rows"
    d_are_rows := d_are_rows
    F_are_rows := F_are_rows
    m_are_rows := He.glo_ok X G (d.fact 34 (f := .glo "are_rows") rfl)
    B_are_rows := b_are_rows
    a_is_part := He.ga K "is_part"
    d_is_part := d_is_part
    F_is_part := F_is_part
    m_is_part := He.glo_ok X G (d.fact 35 (f := .glo "is_part") rfl)
    B_is_part := b_is_part
    a_is_stage := He.ga K "is_stage"
    d_is_stage := d_is_stage
    F_is_stage := F_is_stage
    m_is_stage := He.glo_ok X G (d.fact 36 (f := .glo "is_stage") rfl)
    B_is_stage := b_is_stage
    a_check_stages := He.ga K "check_stages"
    d_check_stages := d_check_stages
    F_check_stages := F_check_stages
    m_check_stages := He.glo_ok X G (d.fact 37 (f := .glo "check_stages") rfl)
    B_check_stages := b_check_stages
    a__law_bag := He.ga K "_law_bag"
    d__law_bag := d__law_bag
    F__law_bag := F__law_bag
    m__law_bag := He.glo_ok X G (d.fact 38 (f := .glo "_law_bag") rfl)
    B__law_bag := b__law_bag
    a__law_draw := He.ga K "_law_draw"
    d__law_draw := d__law_draw
    F__law_draw := F__law_draw
    m__law_draw := He.glo_ok X G (d.fact 39 (f := .glo "_law_draw") rfl)
    B__law_draw := b__law_draw
    a__law_of := He.ga K "_law_of"
    d__law_of := d__law_of
    F__law_of := F__law_of
    m__law_of := He.glo_ok X G (d.fact 40 (f := .glo "_law_of") rfl)
    B__law_of := b__law_of
    a__law_either := He.ga K "_law_either"
    d__law_either := d__law_either
    F__law_either := F__law_either
    m__law_either := He.glo_ok X G (d.fact 41 (f := .glo "_law_either") rfl)
    B__law_either := b__law_either
    a__law_like := He.ga K "_law_like"
    d__law_like := d__law_like
    F__law_like := F__law_like
    m__law_like := He.glo_ok X G (d.fact 42 (f := .glo "_law_like") rfl)
    B__law_like := b__law_like
    a__law_gcd := He.ga K "_law_gcd"
    d__law_gcd := d__law_gcd
    F__law_gcd := F__law_gcd
    m__law_gcd := He.glo_ok X G (d.fact 43 (f := .glo "_law_gcd") rfl)
    B__law_gcd := b__law_gcd
    a__law_low := He.ga K "_law_low"
    d__law_low := d__law_low
    F__law_low := F__law_low
    m__law_low := He.glo_ok X G (d.fact 44 (f := .glo "_law_low") rfl)
    B__law_low := b__law_low
    a__law_plus := He.ga K "_law_plus"
    d__law_plus := d__law_plus
    F__law_plus := F__law_plus
    m__law_plus := He.glo_ok X G (d.fact 45 (f := .glo "_law_plus") rfl)
    B__law_plus := b__law_plus
    a__law_great := He.ga K "_law_great"
    d__law_great := d__law_great
    F__law_great := F__law_great
    m__law_great := He.glo_ok X G (d.fact 46 (f := .glo "_law_great") rfl)
    B__law_great := b__law_great
    a__law_factor := He.ga K "_law_factor"
    d__law_factor := d__law_factor
    F__law_factor := F__law_factor
    m__law_factor := He.glo_ok X G (d.fact 47 (f := .glo "_law_factor") rfl)
    B__law_factor := b__law_factor
    a__law_items := He.ga K "_law_items"
    d__law_items := d__law_items
    F__law_items := F__law_items
    m__law_items := He.glo_ok X G (d.fact 48 (f := .glo "_law_items") rfl)
    B__law_items := b__law_items
    a__law_normal := He.ga K "_law_normal"
    d__law_normal := d__law_normal
    F__law_normal := F__law_normal
    m__law_normal := He.glo_ok X G (d.fact 49 (f := .glo "_law_normal") rfl)
    B__law_normal := b__law_normal
    a__law_stage := He.ga K "_law_stage"
    d__law_stage := d__law_stage
    F__law_stage := F__law_stage
    m__law_stage := He.glo_ok X G (d.fact 50 (f := .glo "_law_stage") rfl)
    B__law_stage := b__law_stage
    a__law_settled_stage := He.ga K "_law_settled_stage"
    d__law_settled_stage := d__law_settled_stage
    F__law_settled_stage := F__law_settled_stage
    m__law_settled_stage := He.glo_ok X G (d.fact 51 (f := .glo "_law_settled_stage") rfl)
    B__law_settled_stage := b__law_settled_stage
    a__law_sheet := He.ga K "_law_sheet"
    d__law_sheet := d__law_sheet
    F__law_sheet := F__law_sheet
    m__law_sheet := He.glo_ok X G (d.fact 52 (f := .glo "_law_sheet") rfl)
    B__law_sheet := b__law_sheet
    a__law_settled := He.ga K "_law_settled"
    d__law_settled := d__law_settled
    F__law_settled := F__law_settled
    m__law_settled := He.glo_ok X G (d.fact 53 (f := .glo "_law_settled") rfl)
    B__law_settled := b__law_settled
    a__law_number := He.ga K "_law_number"
    d__law_number := d__law_number
    F__law_number := F__law_number
    m__law_number := He.glo_ok X G (d.fact 54 (f := .glo "_law_number") rfl)
    B__law_number := b__law_number
    a__law_within := He.ga K "_law_within"
    d__law_within := d__law_within
    F__law_within := F__law_within
    m__law_within := He.glo_ok X G (d.fact 55 (f := .glo "_law_within") rfl)
    B__law_within := b__law_within
    a__law_is_fraction := He.ga K "_law_is_fraction"
    d__law_is_fraction := d__law_is_fraction
    F__law_is_fraction := F__law_is_fraction
    m__law_is_fraction := He.glo_ok X G (d.fact 56 (f := .glo "_law_is_fraction") rfl)
    B__law_is_fraction := b__law_is_fraction
    a__law_are_items := He.ga K "_law_are_items"
    d__law_are_items := d__law_are_items
    F__law_are_items := F__law_are_items
    m__law_are_items := He.glo_ok X G (d.fact 57 (f := .glo "_law_are_items") rfl)
    B__law_are_items := b__law_are_items
    a__law_is_stage := He.ga K "_law_is_stage"
    d__law_is_stage := d__law_is_stage
    F__law_is_stage := F__law_is_stage
    m__law_is_stage := He.glo_ok X G (d.fact 58 (f := .glo "_law_is_stage") rfl)
    B__law_is_stage := b__law_is_stage
    a__law_odd := He.ga K "_law_odd"
    d__law_odd := d__law_odd
    F__law_odd := F__law_odd
    m__law_odd := He.glo_ok X G (d.fact 59 (f := .glo "_law_odd") rfl)
    B__law_odd := b__law_odd
    a__law_odd_fraction := He.ga K "_law_odd_fraction"
    d__law_odd_fraction := d__law_odd_fraction
    F__law_odd_fraction := F__law_odd_fraction
    m__law_odd_fraction := He.glo_ok X G (d.fact 60 (f := .glo "_law_odd_fraction") rfl)
    B__law_odd_fraction := b__law_odd_fraction
    a__law_bent_items := He.ga K "_law_bent_items"
    d__law_bent_items := d__law_bent_items
    F__law_bent_items := F__law_bent_items
    m__law_bent_items := He.glo_ok X G (d.fact 61 (f := .glo "_law_bent_items") rfl)
    B__law_bent_items := b__law_bent_items
    a__law_bent_stage := He.ga K "_law_bent_stage"
    d__law_bent_stage := d__law_bent_stage
    F__law_bent_stage := F__law_bent_stage
    m__law_bent_stage := He.glo_ok X G (d.fact 62 (f := .glo "_law_bent_stage") rfl)
    B__law_bent_stage := b__law_bent_stage
    a__law_bent_rows := He.ga K "_law_bent_rows"
    d__law_bent_rows := d__law_bent_rows
    F__law_bent_rows := F__law_bent_rows
    m__law_bent_rows := He.glo_ok X G (d.fact 63 (f := .glo "_law_bent_rows") rfl)
    B__law_bent_rows := b__law_bent_rows
    a__law_bent_stages := He.ga K "_law_bent_stages"
    d__law_bent_stages := d__law_bent_stages
    F__law_bent_stages := F__law_bent_stages
    m__law_bent_stages := He.glo_ok X G (d.fact 64 (f := .glo "_law_bent_stages") rfl)
    B__law_bent_stages := b__law_bent_stages
    a__law_due := He.ga K "_law_due"
    d__law_due := d__law_due
    F__law_due := F__law_due
    m__law_due := He.glo_ok X G (d.fact 65 (f := .glo "_law_due") rfl)
    B__law_due := b__law_due
    a__law_due_stages := He.ga K "_law_due_stages"
    d__law_due_stages := d__law_due_stages
    F__law_due_stages := F__law_due_stages
    m__law_due_stages := He.glo_ok X G (d.fact 66 (f := .glo "_law_due_stages") rfl)
    B__law_due_stages := b__law_due_stages
    a__law_made := He.ga K "_law_made"
    d__law_made := d__law_made
    F__law_made := F__law_made
    m__law_made := He.glo_ok X G (d.fact 67 (f := .glo "_law_made") rfl)
    B__law_made := b__law_made
    a__law_staged := He.ga K "_law_staged"
    d__law_staged := d__law_staged
    F__law_staged := F__law_staged
    m__law_staged := He.glo_ok X G (d.fact 68 (f := .glo "_law_staged") rfl)
    B__law_staged := b__law_staged
    a__law_fits := He.ga K "_law_fits"
    d__law_fits := d__law_fits
    F__law_fits := F__law_fits
    m__law_fits := He.glo_ok X G (d.fact 69 (f := .glo "_law_fits") rfl)
    B__law_fits := b__law_fits
    a__law_bent := He.ga K "_law_bent"
    d__law_bent := d__law_bent
    F__law_bent := F__law_bent
    m__law_bent := He.glo_ok X G (d.fact 70 (f := .glo "_law_bent") rfl)
    B__law_bent := b__law_bent
    a_law := He.ga K "law"
    d_law := d_law
    F_law := F_law
    m_law := He.glo_ok X G (d.fact 71 (f := .glo "law") rfl)
    B_law := b_law
  }
  have ef : f = He.ga K "law" := by
    have e := hfa.symm.trans T.m_law
    cases e
    rfl
  refine ⟨d_law, fun s u => FunD.bindsA (ps := ["script"]) FD_law (fun _ _ _ _ _ _ us hl => match us, hl with | [_], _ => rfl) s [u] rfl, fun base _ _ => ?_⟩
  rw [ef]
  exact ok_law (P := P) (base := base) T
theorem walk {l : PySem.W.OpenLaw} {q : Program} {loose : List Str} {XP : (Str → Option Value) → Heap → Prop} {YP : World → Heap → Prop} {d : DefRec} {K : Params → PySem.W.Frag} (hn : l.most = some 63) (hdf : d.params.defaults = [])
    (hY : ∀ (w : World) (h : Heap), YP w h → (K w.params).In h)
    (F : ∀ (w : World) (mg : Str → Option Value) (fa : Addr) (h : Heap), (K w.params).In h → h.Ns mainGlobals mg → mg d.name = some (.ref fa) →
      ∃ fd : FuncData, (∀ (s : Shared) (u : Value), BindsTo s fd ⟨[u], []⟩ [("script", u)]) ∧ ∀ base : Heap, (K w.params).In base → base.Ns mainGlobals mg → FnOk l.prog w (K w.params) mg base CX0 12 fa fd ["script"] (sp_law (K w.params))) :
    PySem.W.WalkO q loose XP YP l.row.toRowW d [] (fun f vs => PySem.call f vs) :=
  L2.walk_of (n := 63) (k := 12) (x := "script") (CX := fun _ => CX0) (sp := fun w => sp_law (K w.params)) hn (by decide) hdf ⟨rfl, by decide, by decide⟩ hY F (fun _ _ a ns hl _ hS => ⟨a, ns, rfl, hS, hl, fun _ => rfl⟩) fun _ _ _ _ _ z => z
theorem says_of {K : PySem.W.Frag} {w : World} {h : Heap} (ht : He.obsT faL fnL tsL K = He.valT fnL tsL w) (hm : exB K = true) : He.SaysX faL fnL tsL tfL exB w h K :=
  ⟨ht, hm, fun p hp => (by cases hp), fun p hp => (by cases hp), fun p hp => (by cases hp)⟩
end LK

open PySem PySem.W PySem.Calls PyProof.Rows
set_option maxRecDepth 100000 in
set_option maxHeartbeats 0 in
theorem PySem.Challenge.cw_lookingnets_k15_nets_refused_holds : PySem.Challenge.rw_lookingnets_k15_nets_refused.Holds := by
  w_on; o_law; k_head; (case hw => w_witness2)
  k_fill
  refine LK.walk (l := PySem.Challenge.rw_lookingnets_k15_nets_refused) rfl rfl (fun w h Y => PySem.W.kIn_of Y) ?F
  case F =>
    intro w mg fa h KX G hmg0
    have hmg : mg ("law" : PySem.Str) = some (.ref fa) := hmg0
    exact LK.facts KX G hmg (LK.says_of (by kernel_rfl) (by kernel_rfl))
