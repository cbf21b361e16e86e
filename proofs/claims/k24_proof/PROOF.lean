import PyProof.Rows.All
import Wide.All
import OpenK.AllK
import Wide.FinOn
import HandS.ForMost
import HandS.TupAny
import HandS.Style
import HandS.IsInst
import HandS.Star
import HandS.RevRange
import HandS.Wide
import HandS.Conv
import PyProof.StrOps2
import HandS.Evl
import HandS.CallLocal
import HandS.Zip0
import PyProof.Draws
import PyProof.EnumMake
import HandS.Flow
import KE.DataCmp
import HandS.Lambda
import HandS.Nested
import HandS.EndTab
import KE.KNestM
import HandS.Walk
import HandS.DictComp
import HandS.More
import PySem.Challenge.RW_whatnext_k24_alike_but_for_a_sign
set_option Elab.async false
set_option maxRecDepth 100000
set_option maxHeartbeats 8000000
set_option linter.unusedVariables false
namespace KB
open PySem L2
open PySem.AutoSeq1 PySem.MeetsSeq PySem.MeetsSeq2 PySem.MeetsSeq3

def top (i : Nat) : Stmt := (PySem.Challenge.pw_whatnext_k24_alike_but_for_a_sign).main.body.getD i (.Pass ⟨0, 0, 0, 0⟩)

/-! ### two rules that the layer lacks: a list extended by a tuple, a text times a number -/
theorem ext_lt (l b : Addr) (us ws : Array Value) (n m : Nat) (dd : Option Addr) (sl : Array (Option Value))
    (h0 : ¬(!us.isEmpty && Builtin.List.listTooLong (us.size + ws.size)) = true) (h1 : us.size ≤ sizeLine) (h2 : us.size + ws.size ≤ sizeLine + 1) :
    Meets (Builtin.«list.extend» ⟨[.ref l, .ref b], []⟩) (fun _ R s => s.heap.get? l = some { cls := .type "list", dict := none, data := .seq us n, slots := #[] } ∧
      s.heap.get? b = some { cls := .type "tuple", dict := dd, data := .seq ws m, slots := sl } ∧
      R (.ok (.ret Value.none)) { s with heap := s.heap.update l (Obj.mapSeq fun x => x ++ ws), toks := s.toks }) := by
  refine .of_wp fun prog w A R s h => ?_
  obtain ⟨hp, g, d, tk, os⟩ := s
  obtain ⟨hl, hb, h⟩ := h
  have f1 := idx_int; have f2 := sub_tuple_tuple; have f3 := sub_list_list; have f4 := sub_tuple_list; have f5 := sub_list_tuple
  have hz' : (us ++ ws).size ≤ sizeLine + 1 := by
    rw [Array.size_append]
    exact h2
  wp_walk using (wpAny_updateSeq hl rfl (hz := h1) (_hz' := hz')), wpAny_loadPart' hl, wpAny_loadPart' hb
  exact ⟨_, rfl, h⟩
section
variable {X : Cx}
def rExtT (K : PySem.W.Frag) : V → List V → Hp → VK → Prop := fun x vs H Q => ∃ l b xs zs, x = .ref l ∧ vs = [.ref b] ∧ H l = some (.lst xs) ∧ SqT K H b zs ∧ xs.length + zs.length ≤ sizeLine ∧ Q .non (upd H l (.lst (xs ++ zs)))
theorem mt_extT : MtR X "list.extend" (rExtT X.K) := by
  intro pins s σ H x vs v us Q I rx rv h
  obtain ⟨l, b, xs, zs, rfl, rfl, hH, hB, hz, q⟩ := h
  cases rx
  obtain ⟨u, rfl, ru⟩ := rv.one
  cases ru
  obtain ⟨z, its, n, r, hl, e⟩ := I.lstM hH
  obtain ⟨its2, r2, ⟨⟨c2, d2, a2, s2⟩, e2, hc, n2, hd⟩, _⟩ := I.tuple hB
  cases hc
  cases hd
  have hl2 := r2.length
  have hsz : its.toArray.size + its2.toArray.size ≤ sizeLine := by
    rw [List.size_toArray, List.size_toArray]
    omega
  have hlong : ¬ (!its.toArray.isEmpty && Builtin.List.listTooLong (its.toArray.size + its2.toArray.size)) = true := by
    rw [notLongL hsz, Bool.and_false]
    exact Bool.false_ne_true
  refine call_meets F.slot_list_extend ⟨_, e, rfl⟩ F.entry_list_extend (F.args_list_extend_2 _ _)
    (ext_lt l b its.toArray its2.toArray n n2 d2 s2 hlong (by rw [List.size_toArray]; omega) (by omega)) ⟨e, e2, ?_⟩
  exact ⟨.non, _, I.lset (its' := its ++ its2) hH e (by simp) (r.append r2) (by rw [List.length_append]; exact hz), rfl, q⟩
end
end KB

namespace KB
open PySem L2

/-! ### terms as data -/
inductive Hd | num (z : Int) | nam (x : Str) | plus | less | tell | lett (x : Str) | iff | ask (f : Str)
inductive Tm | mk (h : Hd) (n : Nat) (k : Fin n → Tm)
def hs : Hd → Str
  | .num _ => "number" | .nam _ => "name" | .plus => "plus" | .less => "less" | .tell => "tell" | .lett _ => "let" | .iff => "if" | .ask _ => "ask"
/-- what stands at a, xs being its parts -/
def Lay (H : Hp) (a : Addr) : Hd → List V → Prop
  | .num z, xs => xs = [] ∧ H a = some (.tup [.str "number", .int z])
  | .nam x, xs => xs = [] ∧ H a = some (.tup [.str "name", .str x])
  | .plus, xs => xs.length = 2 ∧ H a = some (.tup (.str "plus" :: xs))
  | .less, xs => xs.length = 2 ∧ H a = some (.tup (.str "less" :: xs))
  | .tell, xs => xs.length = 1 ∧ H a = some (.tup (.str "tell" :: xs))
  | .lett x, xs => xs.length = 2 ∧ H a = some (.tup (.str "let" :: .str x :: xs))
  | .iff, xs => xs.length = 3 ∧ H a = some (.tup (.str "if" :: xs))
  | .ask f, xs => xs.length ≤ 4 ∧ ∃ p, H a = some (.tup [.str "ask", .str f, .ref p]) ∧ H p = some (.tup xs)
def Rfs {n : Nat} (ys : Fin n → Addr) : List V := List.ofFn fun i => V.ref (ys i)
def At (H : Hp) : Tm → Addr → Prop
  | .mk h n k, a => ∃ ys : Fin n → Addr, Lay H a h (Rfs ys) ∧ ∀ i, At H (k i) (ys i)
def cnt : Tm → Nat
  | .mk _ _ k => 1 + (List.ofFn fun i => cnt (k i)).sum
def places : Tm → List (List Int)
  | .mk _ n k => [] :: (List.ofFn fun i : Fin n => (places (k i)).map ((i.val : Int) :: ·)).flatten
def flatHd : Hd → Bool
  | .num _ | .nam _ | .plus | .less => true
  | _ => false
def simple : Tm → Bool
  | .mk h _ k => flatHd h && (List.ofFn fun i => simple (k i)).all id
def letsOf : Tm → List Str
  | .mk h _ k => (match h with | .lett x => [x] | _ => []) ++ (List.ofFn fun i => letsOf (k i)).flatten

theorem Lay.mono {H H' : Hp} (e : Same H H') {a : Addr} {h : Hd} {xs : List V} (l : Lay H a h xs) : Lay H' a h xs := by
  cases h with
  | ask f => obtain ⟨z, p, h1, h2⟩ := l; exact ⟨z, p, e _ _ h1, e _ _ h2⟩
  | _ => exact ⟨l.1, e _ _ l.2⟩
theorem At.mono {H H' : Hp} (e : Same H H') : ∀ {t : Tm} {a : Addr}, At H t a → At H' t a := by
  intro t
  induction t with
  | mk h n k ih =>
    rintro a ⟨ys, l, r⟩
    exact ⟨ys, l.mono e, fun i => ih i (r i)⟩
/-- every node begins with its word -/
theorem Lay.head {H : Hp} {a : Addr} {h : Hd} {xs : List V} (l : Lay H a h xs) : ∃ r, H a = some (.tup (.str (hs h) :: r)) := by
  cases h with
  | ask f => obtain ⟨z, p, h1, h2⟩ := l; exact ⟨_, h1⟩
  | _ => exact ⟨_, l.2⟩

theorem same_new {H : Hp} {p : Addr} (h : H p = none) (o : HO) : Same H (upd H p o) := fun b u q => by
  rw [upd_ne (ne_of_none q h)]
  exact q
theorem sIx_at {n d : Nat} {i : Int} (h0 : 0 ≤ i) (h : i.toNat ≤ n) : HT.sIx n d (some i) = i.toNat := by
  show (if i < 0 then (i + (n : Int)).toNat else min i.toNat n) = i.toNat
  rw [if_neg (by omega)]
  omega
theorem sIx_no {n d : Nat} : HT.sIx n d none = d := rfl
theorem not_whole {xs : List V} {i : Int} (h0 : 0 < i) (h : i.toNat ≤ xs.length) : ¬ (HT.sIx xs.length 0 (some i) = 0 ∧ HT.sIx xs.length xs.length none = xs.length) := by
  rw [sIx_at (by omega) h]
  omega
theorem cut_from {xs : List V} {i : Int} (h0 : 0 ≤ i) (h : i.toNat ≤ xs.length) : cutV xs (some i) none = xs.drop i.toNat := by
  unfold cutV
  rw [sIx_at h0 h, sIx_no, List.take_of_length_le (by rw [List.length_drop]; exact Nat.le_refl _)]
theorem len1 {α : Type} {x : α} {r : List α} : 1 ≤ (x :: r).length := Nat.succ_le_succ (Nat.zero_le _)
theorem len2 {α : Type} {x y : α} {r : List α} : 2 ≤ (x :: y :: r).length := Nat.succ_le_succ len1
theorem cut1 {x : V} {r : List V} : cutV (x :: r) (some 1) none = r := cut_from (i := 1) (by decide) len1
theorem cut2 {x y : V} {r : List V} : cutV (x :: y :: r) (some 2) none = r := cut_from (i := 2) (by decide) len2
theorem itT {b : Bool} {A B : Prop} (e : b = true) (h : A) : if b = true then A else B := by
  rw [if_pos e]
  exact h
theorem itF {b : Bool} {A B : Prop} (e : b = false) (h : B) : if b = true then A else B := by
  rw [if_neg (by rw [e]; exact Bool.false_ne_true)]
  exact h
theorem at0 {x : V} {r : List V} : atI (x :: r) 0 = some x := at_of (j := 0) rfl rfl
theorem at1 {x y : V} {r : List V} : atI (x :: y :: r) 1 = some y := at_of (j := 1) rfl rfl
theorem at2 {x y z : V} {r : List V} : atI (x :: y :: z :: r) 2 = some z := at_of (j := 2) rfl rfl
theorem sz {n : Nat} (h : n ≤ 100000) : n ≤ sizeLine := Nat.le_trans h (by decide)
/-- the facts of the top -/
structure Ref (K : PySem.W.Frag) (mg : Str → Option Value) (x : Str) (f : Addr) (fd : FuncData) (ps : List Str) : Prop where
  m : mg x = some (.ref f)
  k : PySem.W.keepIn K (.ref f) = true
  b : Binds K fd ps []
structure Txt (K : PySem.W.Frag) (mg : Str → Option Value) : Prop where
  m_len : mg "len" = none
  m_isinstance : mg "isinstance" = none
  m_int : mg "int" = none
  m_tuple : mg "tuple" = none
  m_list : mg "list" = none
  m_str : mg "str" = none
  m_bool : mg "bool" = none
  m_max : mg "max" = none
  m_all : mg "all" = none
  m_dict : mg "dict" = none
  m_range : mg "range" = none
  m_enumerate : mg "enumerate" = none
  m_reversed : mg "reversed" = none

section
variable {P : Program} {w : World} {K : PySem.W.Frag} {mg : Str → Option Value} {base : Heap}
/-! ### parts_of and _law_parts -/
def spParts : Sp := fun vs H Q _ => ∃ a h xs, vs = [.ref a] ∧ Lay H a h xs ∧ ∀ p H', Same H H' → H' p = some (.tup xs) → Q (.ref p) H'
abbrev sparts_of : Stmt := top 6
theorem scparts_of : FnScope ["term"] ["term"] (defScope sparts_of) := ⟨rfl, rfl, rfl, by decide +kernel, rfl, by decide +kernel, by decide +kernel⟩
theorem ok_parts {f : Addr} {fd : FuncData} (F : Fun K "parts_of" "parts_of" sparts_of f fd) : FnOk P w K mg base CX0 1 f fd ["term"] spParts := by
  refine F.ok scparts_of (fun vs H Q E h => ?_) (fun cdv A outer s H vs Q E hr h => ?_)
  · obtain ⟨a, h, xs, rfl, _⟩ := h
    rfl
  obtain ⟨a, h, xs, rfl, l, q⟩ := h
  refine ⟨_, (pss_cons (ps_if (pt_cmpR op_in_seq (pe_ix ix_tup (pv 0) pe_int (fun _ _ => rfl)) (pe_tup (pa_cons pe_str (pa_cons pe_str pa_nil))) rfl) (pss_one (ps_ret (pe_tup pa_nil))) pss_nil)
    (pss_cons (ps_if (pt_cmpR op_eq (pe_ix ix_tup (pv 0) pe_int (fun _ _ => rfl)) pe_str (nomark _)) (pss_one (ps_ret (pe_ix ix_tup (pv 0) pe_int (fun _ _ => rfl)))) pss_nil)
    (pss_cons (ps_if (pt_cmpR op_eq (pe_ix ix_tup (pv 0) pe_int (fun _ _ => rfl)) pe_str (nomark _)) (pss_one (ps_ret (pe_slice sl_tupA (pv 0) (po_some pe_int) po_none))) pss_nil)
    (pss_one (ps_ret (pe_slice sl_tupA (pv 0) (po_some pe_int) po_none)))))), ?_⟩
  obtain ⟨r, hd⟩ := l.head
  refine ⟨_, rfl, a, _, _, _, rfl, rfl, SqT.of hd, at0, sz (by show 2 ≤ 100000; decide), fun t ht => ?_⟩
  have s1 := same_new ht (.tup [.str "number", .str "name"])
  have l1 := l.mono s1
  refine ⟨t, _, rfl, .inr (SqT.of upd_same), rfl, rfl, _, rfl, ?_⟩
  cases h with
  | num z =>
    refine itT rfl ⟨sz (by decide), fun p hp => q p _ (s1.trans (same_new hp _)) ?_⟩
    rw [l.1, upd_same]
  | nam z =>
    refine itT rfl ⟨sz (by decide), fun p hp => q p _ (s1.trans (same_new hp _)) ?_⟩
    rw [l.1, upd_same]
  | ask f =>
    obtain ⟨l1, p, l2, l3⟩ := l
    refine itF rfl ⟨_, rfl, a, _, _, _, rfl, rfl, SqT.of (s1 _ _ l2), at0, rfl, _, rfl, ?_⟩
    refine itT rfl ⟨_, rfl, a, _, _, _, rfl, rfl, SqT.of (s1 _ _ l2), at2, ?_⟩
    exact q p _ s1 (s1 _ _ l3)
  | lett x =>
    refine itF rfl ⟨_, rfl, a, _, _, _, rfl, rfl, SqT.of (s1 _ _ l.2), at0, rfl, _, rfl, ?_⟩
    refine itF rfl ⟨_, rfl, a, _, _, _, rfl, rfl, SqT.of (s1 _ _ l.2), at0, rfl, _, rfl, ?_⟩
    refine itT rfl ⟨_, rfl, _, rfl, a, _, rfl, SqT.of (s1 _ _ l.2), ?_, ?_⟩
    · exact fun z => absurd z (not_whole (by decide) len2)
    · intro _ p hp
      refine q p _ (s1.trans (same_new hp _)) ?_
      rw [upd_same, cut2]
  | plus | less | tell | iff =>
    refine itF rfl ⟨_, rfl, a, _, _, _, rfl, rfl, SqT.of (s1 _ _ l.2), at0, rfl, _, rfl, ?_⟩
    refine itF rfl ⟨_, rfl, a, _, _, _, rfl, rfl, SqT.of (s1 _ _ l.2), at0, rfl, _, rfl, ?_⟩
    refine itF rfl ⟨_, rfl, _, rfl, a, _, rfl, SqT.of (s1 _ _ l.2), ?_, ?_⟩
    · exact fun z => absurd z (not_whole (by decide) len1)
    · intro _ p hp
      refine q p _ (s1.trans (same_new hp _)) ?_
      rw [upd_same, cut1]
end
end KB

namespace KB
open PySem L2

/-! ### rules and small facts -/
def repS (z : Str) (k : Int) : Str := ⟨(List.replicate k.toNat z.cps).foldl (· ++ ·) #[]⟩
def rMulS : R2 := fun x y H Q => ∃ z k, x = .str z ∧ y = .int k ∧ 1 ≤ k ∧ k ≤ 1000 ∧ 1 ≤ z.length ∧ z.length ≤ 1000 ∧ Q (.str (repS z k)) H
theorem repS_one (z : Str) : repS z 1 = z := by
  unfold repS
  show (⟨#[] ++ z.cps⟩ : Str) = z
  rw [Array.empty_append]
theorem size_rep (xs : Array Nat) : ∀ (k : Nat) (acc : Array Nat), ((List.replicate k xs).foldl (· ++ ·) acc).size = acc.size + k * xs.size
  | 0, acc => by
    rw [Nat.zero_mul]
    rfl
  | k + 1, acc => by
    rw [List.replicate_succ, List.foldl_cons, size_rep xs k, Array.size_append, Nat.succ_mul]
    omega
theorem op_mul_str {X : Cx} : OpR X (binaryOp .Mult) rMulS := by
  intro pins s σ H x y v u Q I rx ry h
  obtain ⟨z, k, rfl, rfl, h1, h2, h3, h4, q⟩ := h
  obtain ⟨t, rfl⟩ := rx
  obtain ⟨t', rfl⟩ := ry
  refine PySem.P.mul_str ?_ ?_ ?_ ?_
  · rw [decide_eq_false (by omega), decide_eq_false (by omega)]
    rfl
  · intro _ _
    have e1 : (1000 : Int) * k ≤ 1000000 := by omega
    have e2 : (9223372036854775807 : Int) / k ≥ 9223372036854775 := by
      have e3 : (9223372036854775807 : Int) / k ≥ 9223372036854775807 / 1000 := by
        refine Int.le_ediv_of_mul_le (by omega) ?_
        have : (9223372036854775807 / 1000 : Int) = 9223372036854775 := by decide
        rw [this]
        have : (9223372036854775 : Int) * k ≤ 9223372036854775 * 1000 := Int.mul_le_mul_of_nonneg_left h2 (by decide)
        omega
      have : (9223372036854775807 / 1000 : Int) = 9223372036854775 := by decide
      omega
    have e4 : ((2 : Int) ^ 63 - 1) = 9223372036854775807 := by decide
    rw [e4]
    omega
  · intro _ _
    have e : z.length * k.toNat ≤ 1000 * 1000 := Nat.mul_le_mul h4 (by omega)
    exact decide_eq_false (by show ¬ _ > sizeLine; exact Nat.not_lt.mpr (Nat.le_trans e (by decide)))
  · rw [if_neg (by omega)]
    have hz : (z.length == 0) = false := by
      rw [beq_eq_false_iff_ne]
      omega
    by_cases hk : k = 1
    · subst hk
      rw [if_pos (by rfl)]
      rw [repS_one] at q
      exact ⟨.str z, H, I, ⟨t, rfl⟩, q⟩
    · have hk2 : (k == 1) = false := by
        rw [beq_eq_false_iff_ne]
        exact hk
      rw [if_neg (by rw [hk2, hz]; decide)]
      have e : z.length * k.toNat ≤ 1000 * 1000 := Nat.mul_le_mul h4 (by omega)
      have e2 := size_rep z.cps k.toNat #[]
      refine ⟨?_, .str (repS z k), H, I.tok _, ⟨_, rfl⟩, q⟩
      show (List.foldl (fun x1 x2 => x1 ++ x2) #[] (List.replicate k.toNat z.cps)).size ≤ sizeLine
      rw [e2, Nat.mul_comm]
      show 0 + z.length * k.toNat ≤ sizeLine
      rw [Nat.zero_add]
      exact Nat.le_trans e (by decide)

/-! ### stacks of terms -/
def Stk (H : Hp) : List V → List Tm → Prop
  | [], [] => True
  | v :: vs, t :: ts => (∃ b, v = .ref b ∧ At H t b) ∧ Stk H vs ts
  | _, _ => False
theorem Stk.mono {H H' : Hp} (e : Same H H') : ∀ {vs : List V} {ts : List Tm}, Stk H vs ts → Stk H' vs ts
  | [], [], _ => trivial
  | _ :: _, _ :: _, h => ⟨let ⟨b, e1, h1⟩ := h.1; ⟨b, e1, h1.mono e⟩, Stk.mono e h.2⟩
  | [], _ :: _, h => h.elim
  | _ :: _, [], h => h.elim
theorem Stk.app {H : Hp} : ∀ {vs us : List V} {ts ss : List Tm}, Stk H vs ts → Stk H us ss → Stk H (vs ++ us) (ts ++ ss)
  | [], _, [], _, _, k => k
  | _ :: _, _, _ :: _, _, h, k => ⟨h.1, Stk.app h.2 k⟩
  | [], _, _ :: _, _, h, _ => h.elim
  | _ :: _, _, [], _, h, _ => h.elim
theorem Stk.rev {H : Hp} : ∀ {vs : List V} {ts : List Tm}, Stk H vs ts → Stk H vs.reverse ts.reverse
  | [], [], _ => trivial
  | v :: vs, t :: ts, h => by
    rw [List.reverse_cons, List.reverse_cons]
    exact Stk.app (Stk.rev h.2) ⟨h.1, trivial⟩
  | [], _ :: _, h => h.elim
  | _ :: _, [], h => h.elim
theorem Stk.len {H : Hp} : ∀ {vs : List V} {ts : List Tm}, Stk H vs ts → vs.length = ts.length
  | [], [], _ => rfl
  | _ :: _, _ :: _, h => congrArg (· + 1) (Stk.len h.2)
  | [], _ :: _, h => h.elim
  | _ :: _, [], h => h.elim
theorem Stk.fn {H : Hp} : ∀ {n : Nat} {ys : Fin n → Addr} {k : Fin n → Tm}, (∀ i, At H (k i) (ys i)) → Stk H (Rfs ys) (List.ofFn k)
  | 0, _, _, _ => trivial
  | n + 1, ys, k, h => by
    unfold Rfs
    rw [List.ofFn_succ, List.ofFn_succ]
    exact ⟨⟨_, rfl, h 0⟩, Stk.fn (ys := fun i => ys i.succ) (k := fun i => k i.succ) fun i => h i.succ⟩
def cnts (ts : List Tm) : Nat := (ts.map cnt).sum
theorem cnts_app (a b : List Tm) : cnts (a ++ b) = cnts a + cnts b := by
  unfold cnts
  rw [List.map_append, List.sum_append]
theorem cnts_rev (a : List Tm) : cnts a.reverse = cnts a := by
  induction a with
  | nil => rfl
  | cons x r ih =>
    rw [List.reverse_cons, cnts_app, ih]
    unfold cnts
    simp only [List.map_cons, List.map_nil, List.sum_cons, List.sum_nil]
    omega
theorem cnt_mk {h : Hd} {n : Nat} {k : Fin n → Tm} : cnt (.mk h n k) = 1 + cnts (List.ofFn k) := by
  show 1 + (List.ofFn fun i => cnt (k i)).sum = 1 + ((List.ofFn k).map cnt).sum
  rw [List.map_ofFn]
  rfl
theorem cnts_cons {t : Tm} {r : List Tm} : cnts (t :: r) = cnt t + cnts r := rfl
theorem cnt_pos : ∀ t : Tm, 1 ≤ cnt t
  | .mk _ _ _ => by rw [cnt_mk]; omega
theorem len_cnts : ∀ ts : List Tm, ts.length ≤ cnts ts
  | [] => Nat.le_refl _
  | t :: r => by
    have h1 := cnt_pos t
    have h2 := len_cnts r
    rw [cnts_cons, List.length_cons]
    omega

section
variable {P : Program} {w : World} {K : PySem.W.Frag} {mg : Str → Option Value} {base : Heap}
theorem same_mut {H H' : Hp} {p : Addr} {o : HO} (e : Same H H') (h : H p = none) : Same H (upd H' p o) := fun a u ha => by
  rw [upd_ne (ne_of_none ha h)]
  exact e _ _ ha
/-- a list rewritten leaves the terms -/
theorem Lay.put {H : Hp} {l : Addr} {xs ys : List V} (hl : H l = some (.lst xs)) {a : Addr} {h : Hd} {us : List V} (q : Lay H a h us) : Lay (upd H l (.lst ys)) a h us := by
  have go : ∀ {b : Addr} {zs : List V}, H b = some (.tup zs) → upd H l (.lst ys) b = some (.tup zs) := fun {b zs} z => by
    rw [upd_ne (ne_of z hl (by intro e; cases e))]
    exact z
  cases h with
  | ask f => obtain ⟨z, p, h1, h2⟩ := q; exact ⟨z, p, go h1, go h2⟩
  | _ => exact ⟨q.1, go q.2⟩
theorem At.put {H : Hp} {l : Addr} {xs ys : List V} (hl : H l = some (.lst xs)) : ∀ {t : Tm} {a : Addr}, At H t a → At (upd H l (.lst ys)) t a := by
  intro t
  induction t with
  | mk h n k ih =>
    rintro a ⟨zs, q, r⟩
    exact ⟨zs, q.put hl, fun i => ih i (r i)⟩
theorem Stk.put {H : Hp} {l : Addr} {xs ys : List V} (hl : H l = some (.lst xs)) : ∀ {vs : List V} {ts : List Tm}, Stk H vs ts → Stk (upd H l (.lst ys)) vs ts
  | [], [], _ => trivial
  | _ :: _, _ :: _, h => ⟨let ⟨b, e1, h1⟩ := h.1; ⟨b, e1, h1.put hl⟩, Stk.put hl h.2⟩
  | [], _ :: _, h => h.elim
  | _ :: _, [], h => h.elim
end
end KB

namespace KB
open PySem L2

/-! ### what leaves the tuples -/
def TK (H H' : Hp) : Prop := ∀ a xs, H a = some (.tup xs) → H' a = some (.tup xs)
theorem TK.refl (H : Hp) : TK H H := fun _ _ h => h
theorem TK.trans {H H1 H2 : Hp} (a : TK H H1) (b : TK H1 H2) : TK H H2 := fun x o h => b x o (a x o h)
theorem tk_same {H H' : Hp} (e : Same H H') : TK H H' := fun a _ h => e a _ h
theorem tk_put {H : Hp} {l : Addr} {xs : List V} {o : HO} (hl : H l = some (.lst xs)) : TK H (upd H l o) := fun a zs z => by
  rw [upd_ne (ne_of z hl (by intro e; cases e))]
  exact z
theorem Lay.tk {H H' : Hp} (e : TK H H') {a : Addr} {h : Hd} {xs : List V} (l : Lay H a h xs) : Lay H' a h xs := by
  cases h with
  | ask f => obtain ⟨z, p, h1, h2⟩ := l; exact ⟨z, p, e _ _ h1, e _ _ h2⟩
  | _ => exact ⟨l.1, e _ _ l.2⟩
theorem At.tk {H H' : Hp} (e : TK H H') : ∀ {t : Tm} {a : Addr}, At H t a → At H' t a := by
  intro t
  induction t with
  | mk h n k ih =>
    rintro a ⟨ys, l, r⟩
    exact ⟨ys, l.tk e, fun i => ih i (r i)⟩

theorem Stk.tk {H H' : Hp} (e : TK H H') : ∀ {vs : List V} {ts : List Tm}, Stk H vs ts → Stk H' vs ts
  | [], [], _ => trivial
  | _ :: _, _ :: _, h => ⟨let ⟨b, e1, h1⟩ := h.1; ⟨b, e1, h1.tk e⟩, Stk.tk e h.2⟩
  | [], _ :: _, h => h.elim
  | _ :: _, [], h => h.elim
theorem Stk.get {H : Hp} : ∀ {vs : List V} {ts : List Tm} {i : Nat} {v : V}, Stk H vs ts → vs[i]? = some v → ∃ t, ts[i]? = some t ∧ ∃ b, v = .ref b ∧ At H t b
  | [], [], _, _, _, e => by simp at e
  | x :: vs, t :: ts, 0, v, h, e => ⟨t, rfl, by
    have e' : x = v := by simpa using e
    subst e'
    exact h.1⟩
  | x :: vs, t :: ts, i + 1, v, h, e => by
    obtain ⟨b, h1, h2⟩ := Stk.get (i := i) (v := v) h.2 (by simpa using e)
    exact ⟨b, by simpa using h1, h2⟩
  | [], _ :: _, _, _, h, _ => h.elim
  | _ :: _, [], _, _, h, _ => h.elim

/-! ### two lists, item by item -/
def All2 {α : Type} (R : α → V → Prop) : List α → List V → Prop
  | [], [] => True
  | a :: as, v :: vs => R a v ∧ All2 R as vs
  | _, _ => False
theorem All2.imp {α : Type} {R S : α → V → Prop} (e : ∀ a v, R a v → S a v) : ∀ {as : List α} {vs : List V}, All2 R as vs → All2 S as vs
  | [], [], _ => trivial
  | _ :: _, _ :: _, h => ⟨e _ _ h.1, All2.imp e h.2⟩
  | [], _ :: _, h => h.elim
  | _ :: _, [], h => h.elim
theorem All2.app {α : Type} {R : α → V → Prop} : ∀ {as bs : List α} {vs ws : List V}, All2 R as vs → All2 R bs ws → All2 R (as ++ bs) (vs ++ ws)
  | [], _, [], _, _, k => k
  | _ :: _, _, _ :: _, _, h, k => ⟨h.1, All2.app h.2 k⟩
  | [], _, _ :: _, _, h, _ => h.elim
  | _ :: _, _, [], _, h, _ => h.elim
theorem All2.len {α : Type} {R : α → V → Prop} : ∀ {as : List α} {vs : List V}, All2 R as vs → vs.length = as.length
  | [], [], _ => rfl
  | _ :: _, _ :: _, h => congrArg (· + 1) (All2.len h.2)
  | [], _ :: _, h => h.elim
  | _ :: _, [], h => h.elim
theorem All2.get {α : Type} {R : α → V → Prop} : ∀ {as : List α} {vs : List V} {i : Nat} {v : V}, All2 R as vs → vs[i]? = some v → ∃ a, as[i]? = some a ∧ R a v
  | [], [], _, _, _, e => by simp at e
  | a :: as, x :: vs, 0, v, h, e => ⟨a, rfl, by
    have e' : x = v := by simpa using e
    subst e'
    exact h.1⟩
  | a :: as, x :: vs, i + 1, v, h, e => by
    obtain ⟨b, h1, h2⟩ := All2.get (i := i) (v := v) h.2 (by simpa using e)
    exact ⟨b, by simpa using h1, h2⟩
  | [], _ :: _, _, _, h, _ => h.elim
  | _ :: _, [], _, _, h, _ => h.elim

end KB

namespace KB
open PySem L2

/-! ### books -/
abbrev Er := Str × List Str × Tm
def ErV (H : Hp) (e : Er) (v : V) : Prop := ∃ q r b, v = .ref q ∧ H q = some (.tup [.str e.1, .ref r, .ref b]) ∧ H r = some (.tup (e.2.1.map V.str)) ∧ At H e.2.2 b
theorem ErV.tk {H H' : Hp} (t : TK H H') {e : Er} {v : V} (h : ErV H e v) : ErV H' e v :=
  let ⟨q, r, b, e1, h1, h2, h3⟩ := h; ⟨q, r, b, e1, t _ _ h1, t _ _ h2, h3.tk t⟩
def BkAt (H : Hp) (es : List Er) (vs : List V) (p : Addr) : Prop := H p = some (.tup vs) ∧ All2 (ErV H) es vs
theorem BkAt.tk {H H' : Hp} (t : TK H H') {es : List Er} {vs : List V} {p : Addr} (h : BkAt H es vs p) : BkAt H' es vs p := ⟨t _ _ h.1, h.2.imp fun _ _ z => z.tk t⟩
theorem All2.map {α β : Type} {R : β → V → Prop} {f : α → β} : ∀ {as : List α} {vs : List V}, All2 (fun a v => R (f a) v) as vs → All2 R (as.map f) vs
  | [], [], _ => trivial
  | _ :: _, _ :: _, h => ⟨h.1, All2.map h.2⟩
  | [], _ :: _, h => h.elim
  | _ :: _, [], h => h.elim

section
variable {P : Program} {w : World} {K : PySem.W.Frag} {mg : Str → Option Value} {base : Heap}
theorem mem_of_get {α : Type} {l : List α} {i : Nat} {a : α} (h : l[i]? = some a) : a ∈ l := List.mem_of_getElem? h
end
end KB

namespace KB
open PySem L2

theorem catA_of {K : PySem.W.Frag} {H : Hp} {a b : Addr} {xs ys : List V} {Q : VK} (ha : H a = some (.tup xs)) (hb : H b = some (.tup ys)) (hl : xs.length + ys.length ≤ 100000)
    (q : ∀ p H', Same H H' → H' p = some (.tup (xs ++ ys)) → Q (.ref p) H') : rCatA K (.ref a) (.ref b) H Q := by
  refine ⟨a, b, xs, ys, rfl, rfl, SqT.of ha, SqT.of hb, sz hl, fun z => ?_, fun _ z => ?_, fun _ _ p hp => ?_⟩
  · refine q b H (Same.refl H) ?_
    rw [z]
    exact hb
  · refine q a H (Same.refl H) ?_
    rw [z, List.append_nil]
    exact ha
  · exact q p _ (same_new hp _) upd_same
theorem cnt_mem {t : Tm} {ts : List Tm} (h : t ∈ ts) : cnt t ≤ cnts ts := by
  induction ts with
  | nil => cases h
  | cons a r ih =>
    rw [cnts_cons]
    rcases List.mem_cons.mp h with z | z
    · subst z
      omega
    · have := ih z
      omega
theorem cnts_take (ts : List Tm) (i : Nat) : cnts (ts.take i) ≤ cnts ts := by
  have e : cnts ts = cnts (ts.take i) + cnts (ts.drop i) := by rw [← cnts_app, List.take_append_drop]
  omega
def letsL (ts : List Tm) : List Str := (ts.map letsOf).flatten
def hdLets : Hd → List Str
  | .lett x => [x]
  | _ => []
theorem hdLets_le (h : Hd) : (hdLets h).length ≤ 1 := by
  cases h with
  | lett x => exact Nat.le_refl 1
  | _ => exact Nat.zero_le 1
theorem lets_mk {h : Hd} {n : Nat} {k : _root_.Fin n → Tm} : letsOf (.mk h n k) = hdLets h ++ letsL (List.ofFn k) := by
  have e : (List.ofFn fun i => letsOf (k i)) = (List.ofFn k).map letsOf := (List.map_ofFn ..).symm
  unfold letsL
  rw [← e]
  cases h <;> rfl
theorem lets_len : ∀ t : Tm, (letsOf t).length ≤ cnt t := by
  have go : ∀ ts : List Tm, (∀ t ∈ ts, (letsOf t).length ≤ cnt t) → (letsL ts).length ≤ cnts ts := by
    intro ts
    induction ts with
    | nil => intro _; exact Nat.le_refl _
    | cons a r ih =>
      intro h
      have h1 := h a List.mem_cons_self
      have h2 := ih fun u hu => h u (List.mem_cons_of_mem _ hu)
      have e : letsL (a :: r) = letsOf a ++ letsL r := by
        unfold letsL
        rw [List.map_cons, List.flatten_cons]
      rw [e, List.length_append, cnts_cons]
      omega
  intro t
  induction t with
  | mk h n k ih =>
    have := go (List.ofFn k) fun t ht => by
      obtain ⟨i, rfl⟩ := List.mem_ofFn.mp ht
      exact ih i
    rw [lets_mk, cnt_mk, List.length_append]
    have : (hdLets h).length ≤ 1 := hdLets_le h
    omega
theorem letsL_take {ts : List Tm} {i : Nat} {t : Tm} (h : ts[i]? = some t) : letsL (ts.take (i + 1)) = letsL (ts.take i) ++ letsOf t := by
  obtain ⟨hi, he⟩ := List.getElem?_eq_some_iff.mp h
  unfold letsL
  rw [List.take_succ_eq_append_getElem hi, List.map_append, List.flatten_append, he]
  simp

end KB

namespace KB
open PySem L2

/-! ### words as the program has them -/
def keptW : List Str := ["let", "be", "in", "tell", "if", "then", "else", "home", "zyzzyva"]
def small (c : Nat) : Bool := decide (97 ≤ c) && decide (c ≤ 122)
def isW (z : Str) : Bool := !keptW.contains z && (decide (1 ≤ z.length) && decide (z.length ≤ 8)) && z.cps.toList.all small
theorem isW_ok {z : Str} (h : isW z = true) : PySem.PyData.strOk z = true := by
  unfold isW at h
  rw [Bool.and_eq_true] at h
  have h2 := h.2
  rw [List.all_eq_true] at h2
  unfold PySem.PyData.strOk
  rw [← Array.all_toList, List.all_eq_true]
  intro c hc
  have := h2 c hc
  unfold small at this
  rw [Bool.and_eq_true] at this
  have := of_decide_eq_true this.2
  exact decide_eq_true (by omega)
theorem isW_len {z : Str} (h : isW z = true) : z.length ≤ 8 := by
  unfold isW at h
  rw [Bool.and_eq_true, Bool.and_eq_true, Bool.and_eq_true] at h
  exact of_decide_eq_true h.1.2.2
/-! ### the tape and lists of words -/
def But1 (tp : Addr) (H H' : Hp) : Prop := ∀ b o, b ≠ tp → H b = some o → H' b = some o
def Tp (H : Hp) (tp : Addr) : Prop := ∃ z, H tp = some (.lst [.int z])
theorem But1.refl (tp : Addr) (H : Hp) : But1 tp H H := fun _ _ _ h => h
theorem But1.trans {tp : Addr} {H H1 H2 : Hp} (a : But1 tp H H1) (b : But1 tp H1 H2) : But1 tp H H2 := fun x o n h => b x o n (a x o n h)
theorem but_same {tp : Addr} {H H' : Hp} (e : Same H H') : But1 tp H H' := fun b o _ h => e b o h
theorem But1.tk {tp : Addr} {H H' : Hp} (ht : Tp H tp) (e : But1 tp H H') : TK H H' := fun a xs h => by
  obtain ⟨z, hz⟩ := ht
  exact e a _ (ne_of h hz (by intro q; cases q)) h
/-- a list of words -/
def Wls (H : Hp) (a : Addr) (xs : List Str) : Prop := H a = some (.lst (xs.map V.str)) ∧ ∀ x ∈ xs, isW x = true
theorem wls_tp {H : Hp} {a tp : Addr} {xs : List Str} (h : H a = some (.lst (xs.map V.str))) (t : Tp H tp) : a ≠ tp := by
  rintro rfl
  obtain ⟨z, hz⟩ := t
  rw [h] at hz
  have e := HO.lst.inj (Option.some.inj hz)
  cases xs with
  | nil => cases e
  | cons x r =>
    rw [List.map_cons] at e
    cases (List.cons.inj e).1
theorem Wls.but {tp a : Addr} {H H' : Hp} {xs : List Str} (e : But1 tp H H') (t : Tp H tp) (h : Wls H a xs) : Wls H' a xs := ⟨e _ _ (wls_tp h.1 t) h.1, h.2⟩
theorem dp_strs {K : PySem.W.Frag} {H : Hp} : ∀ xs : List Str, DpAll K H (xs.map V.str) (xs.map PyData.str)
  | [] => .nil
  | x :: r => .cons (.str x) (dp_strs r)
theorem lay_strs : ∀ {xs : List Str}, (∀ x ∈ xs, PySem.PyData.strOk x = true) → PySem.PyData.canLayAll0 (xs.map PyData.str) = true
  | [], _ => rfl
  | x :: r, h => by
    show (PySem.PyData.strOk x && PySem.PyData.canLayAll0 (r.map PyData.str)) = true
    rw [h x List.mem_cons_self, lay_strs fun y hy => h y (List.mem_cons_of_mem _ hy)]
    rfl
theorem shaped_of {d : PyData} (h1 : d.canLay0 = true) (h2 : d.depth ≤ 64) : SeqAt.shaped d = true := Bool.and_eq_true_iff.mpr ⟨h1, decide_eq_true h2⟩
theorem depth_strs : ∀ xs : List Str, PySem.PyData.depthAll (xs.map PyData.str) = 0
  | [] => rfl
  | x :: r => by
    show max (PySem.PyData.depth (.str x)) (PySem.PyData.depthAll (r.map PyData.str)) = 0
    rw [depth_strs r]
    rfl
theorem shaped_strs {xs : List Str} (h : ∀ x ∈ xs, isW x = true) : SeqAt.shaped (.list (xs.map PyData.str)) = true := by
  refine shaped_of (lay_strs fun x hx => isW_ok (h x hx)) ?_
  show PySem.PyData.depthAll (xs.map PyData.str) + 1 ≤ 64
  rw [depth_strs]
  decide
theorem eqv_nil (xs : List Str) : PyData.eqv (.list (xs.map PyData.str)) (.list []) = xs.isEmpty := by
  cases xs <;> rfl

section
variable {P : Program} {w : World} {K : PySem.W.Frag} {mg : Str → Option Value} {base : Heap}
/-! ### _law_cell_at -/
def spCell (K : PySem.W.Frag) : Sp := fun vs H Q _ => ∃ (a : Addr) (ns : List Int) (k : Int), vs = [.ref a, .int k] ∧ SqL K H a (ns.map V.int) ∧ 0 ≤ k ∧ ∀ z, Q (.int z) H
abbrev s_law_cell_at : Stmt := top 25
theorem scLcell_at : FnScope ["script", "k"] ["script", "k"] (defScope s_law_cell_at) := ⟨rfl, rfl, rfl, by decide +kernel, rfl, by decide +kernel, by decide +kernel⟩
theorem ok_cell (T : Txt K mg) {f : Addr} {fd : FuncData} (F : Fun K "_law_cell_at" "_law_cell_at" s_law_cell_at f fd) : FnOk P w K mg base CX0 1 f fd ["script", "k"] (spCell K) := by
  refine F.ok scLcell_at (fun vs H Q E h => ?_) (fun cdv A outer s H vs Q E hr h => ?_)
  · obtain ⟨a, ns, k, rfl, _⟩ := h
    rfl
  obtain ⟨a, ns, k, rfl, hS, h0, q⟩ := h
  refine ⟨_, (pss_cons (ps_if (pt_cmpR op_lt (pv 1) (pe_callB call_len_seq (by rfl) T.m_len PySem.boot_len (pa_cons (pv 0) pa_nil)) (nomark _)) (pss_one (ps_ret (pe_ix ix_list (pv 0) (pv 1) (fun _ _ => rfl)))) pss_nil)
    (pss_one (ps_ret pe_int))), ?_⟩
  refine ⟨_, rfl, _, rfl, a, _, rfl, .inl hS, _, _, rfl, rfl, _, rfl, ?_⟩
  refine ite2 (fun c => ?_) (fun c => ?_)
  · have c' : k < (((ns.map V.int).length : Nat) : Int) := of_decide_eq_true c
    rw [List.length_map] at c'
    have hk : k.toNat < ns.length := by omega
    refine ⟨_, rfl, _, rfl, a, _, _, .int ns[k.toNat], rfl, rfl, hS, at_of (j := k.toNat) (by omega) ?_, q _⟩
    rw [List.getElem?_map, List.getElem?_eq_getElem hk]
    rfl
  · exact q 0
/-! ### _law_tape -/
def spTape (K : PySem.W.Frag) : Sp := fun vs H Q _ => ∃ (a : Addr) (ns : List Int) (k : Int), vs = [.ref a, .int k] ∧ SqL K H a (ns.map V.int) ∧ 0 ≤ k ∧ k ≤ 1000 ∧ ∀ p z, H p = none → Q (.ref p) (upd H p (.lst [.int z]))
abbrev s_law_tape : Stmt := top 26
theorem scLtape : FnScope ["script", "k", "cell", "p", "one", "found", "turn"] ["script", "k"] (defScope s_law_tape) := ⟨rfl, rfl, rfl, by decide +kernel, rfl, by decide +kernel, by decide +kernel⟩
theorem ok_tape (T : Txt K mg) {f g : Addr} {fd gd : FuncData} (F : Fun K "_law_tape" "_law_tape" s_law_tape f fd) (G_law_cell_at : FnOk P w K mg base CX0 1 g gd ["script", "k"] (spCell K)) (R_law_cell_at : Ref K mg "_law_cell_at" g gd ["script", "k"]) : FnOk P w K mg base CX0 2 f fd ["script", "k"] (spTape K) := by
  refine F.ok scLtape (fun vs H Q E h => ?_) (fun cdv A outer s H vs Q E hr h => ?_)
  · obtain ⟨a, ns, k, rfl, _⟩ := h
    rfl
  obtain ⟨a, ns, k, rfl, hS, h0, h1, q⟩ := h
  refine ⟨_, (pss_cons (ps_set (i := 2) scLtape.nd rfl (Or.inl rfl) (pe_call G_law_cell_at hr rfl R_law_cell_at.m R_law_cell_at.k R_law_cell_at.b .nil pass0 (pa_cons (pv 0) (pa_cons (pv 1) pa_nil))))
    (pss_cons (ps_if (pt_cmpR op_eq (pv 2) pe_int (nomark _)) (pss_one (ps_ret (pe_lst (pa_cons pe_int pa_nil)))) pss_nil)
    (pss_cons (ps_if (pt_cmpR op_ge (pv 2) (pe_op op_pow pe_int pe_int) (nomark _)) (pss_one (ps_ret (pe_lst (pa_cons (pe_op op_sub (pv 2) (pe_op op_pow pe_int pe_int)) pa_nil)))) pss_nil)
    (pss_cons (ps_set (i := 3) scLtape.nd rfl (Or.inl rfl) pe_int)
    (pss_cons (ps_set (i := 4) scLtape.nd rfl (Or.inl rfl) (pe_op op_mod (pe_op op_add (pe_op op_add (pe_op op_mul (pv 2) pe_int) (pe_op op_mul pe_int (pv 1))) pe_int) (pv 3)))
    (pss_cons (ps_set (i := 5) scLtape.nd rfl (Or.inl rfl) (pv 4))
    (pss_cons (ps_for PassesOwn.never rfl (pi_range1 rfl T.m_range (pa_cons pe_int pa_nil)) (pg_name (i := 6) scLtape.nd rfl (Or.inl rfl)) (pss_cons (ps_set (i := 4) scLtape.nd rfl (Or.inl rfl) (pe_op op_mod (pe_op op_add (pe_op op_add (pe_op op_add (pe_op op_mul (pv 4) (pv 4)) (pe_op op_mul pe_int (pv 6))) (pv 2)) pe_int) (pv 3)))
    (pss_one (ps_set (i := 5) scLtape.nd rfl (Or.inl rfl) (pe_op op_add (pe_op op_mul (pv 5) (pv 3)) (pv 4))))))
    (pss_one (ps_ret (pe_lst (pa_cons (pv 5) pa_nil))))))))))), ?_⟩
  have b1 : ∀ x : Int, 0 ≤ x → x < 2305843009213693951 → -(2 ^ 64) < x ∧ x < 2 ^ 64 := fun x h1 h2 => by
    have e : (2 : Int) ^ 64 = 18446744073709551616 := by decide
    rw [e]
    omega
  refine ⟨_, rfl, _, rfl, a, ns, k, rfl, hS, h0, fun z => ?_⟩
  refine ⟨_, rfl, rfl, _, rfl, ?_⟩
  refine ite2 (fun c => ?_) (fun c => ?_)
  · exact ⟨sz (by show 1 ≤ 100000; decide), fun p hp => q p 0 hp⟩
  refine ⟨_, rfl, _, _, rfl, rfl, ⟨by decide, by decide, by decide⟩, _, _, rfl, rfl, _, rfl, ?_⟩
  refine ite2 (fun c => ?_) (fun c => ?_)
  · exact ⟨_, rfl, _, _, rfl, rfl, ⟨by decide, by decide, by decide⟩, _, _, rfl, rfl, sz (by show 1 ≤ 100000; decide), fun p hp => q p _ hp⟩
  refine ⟨_, rfl, _, _, rfl, rfl, .inr ⟨by decide, by decide⟩, _, rfl, _, _, rfl, rfl, .inl ⟨by decide, by decide⟩, _, _, rfl, rfl, _, _, rfl, rfl, _, rfl, _, _, rfl, rfl, (by show (0 : Int) < 2305843009213693951; decide), ?_⟩
  refine ⟨_, rfl, ?_⟩
  refine ⟨20, rfl, by decide, by decide, for_range (lo := 0) (n := 20) (fun i σ H' => ∃ one found o, σ = [some (.ref a), some (.int k), some (.int z), some (.int 2305843009213693951), some (.int one), some (.int found), o] ∧ H' = H ∧ 0 ≤ one ∧ one < 2305843009213693951) ?_ ?_ ?_⟩
  · exact ⟨_, _, _, rfl, rfl, Int.emod_nonneg _ (by decide), Int.emod_lt_of_pos _ (by decide)⟩
  · rintro i σ H' hi ⟨one, found, o, rfl, rfl, g0, g1⟩
    refine ⟨_, rfl, _, rfl, _, _, rfl, rfl, .inl (b1 one g0 g1), _, rfl, _, _, rfl, rfl, .inl ⟨by decide, by decide⟩, _, _, rfl, rfl, _, rfl, _, _, rfl, rfl, _, _, rfl, rfl, _, rfl, _, _, rfl, rfl, (by show (0 : Int) < 2305843009213693951; decide), ?_⟩
    refine ⟨_, rfl, _, rfl, _, _, rfl, rfl, .inr ⟨by decide, by decide⟩, _, rfl, _, _, rfl, rfl, ?_⟩
    exact ⟨_, _, _, rfl, rfl, Int.emod_nonneg _ (by decide), Int.emod_lt_of_pos _ (by decide)⟩
  · rintro σ H' ⟨one, found, o, rfl, rfl, g0, g1⟩
    exact ⟨_, rfl, sz (by show 1 ≤ 100000; decide), fun p hp => q p _ hp⟩
/-! ### _law_digit -/
def spDig : Sp := fun vs H Q _ => ∃ (tp : Addr) (many : Int), vs = [.ref tp, .int many] ∧ Tp H tp ∧ 0 < many ∧ many ≤ 100000000000000000000000000000000000000000000000000000000000 ∧ ∀ r H', 0 ≤ r → r < many → But1 tp H H' → Tp H' tp → Q (.int r) H'
theorem log_many {m : Int} (h0 : 0 < m) (h1 : m ≤ 100000000000000000000000000000000000000000000000000000000000) : m.natAbs.log2 < 9000 := by
  refine PySem.Flt.log2_lt_of (by decide) (Nat.lt_of_le_of_lt (m := 100000000000000000000000000000000000000000000000000000000000) (by omega) ?_)
  exact Nat.lt_of_lt_of_le (m := 2 ^ 200) (by decide) (Nat.pow_le_pow_right (by decide) (by decide))
abbrev s_law_digit : Stmt := top 27
theorem scLdigit : FnScope ["tape", "many", "found"] ["tape", "many"] (defScope s_law_digit) := ⟨rfl, rfl, rfl, by decide +kernel, rfl, by decide +kernel, by decide +kernel⟩
theorem ok_dig {f : Addr} {fd : FuncData} (F : Fun K "_law_digit" "_law_digit" s_law_digit f fd) : FnOk P w K mg base CX0 1 f fd ["tape", "many"] spDig := by
  refine F.ok scLdigit (fun vs H Q E h => ?_) (fun cdv A outer s H vs Q E hr h => ?_)
  · obtain ⟨tp, many, rfl, _⟩ := h
    rfl
  obtain ⟨tp, many, rfl, ⟨z, hz⟩, h0, h1, q⟩ := h
  refine ⟨_, (pss_cons (ps_set (i := 2) scLdigit.nd rfl (Or.inl rfl) (pe_op op_mod (pe_ix ix_list (pv 0) pe_int (fun _ _ => rfl)) (pv 1)))
    (pss_cons (ps_asg (pe_op op_fdivW (pe_ix ix_list (pv 0) pe_int (fun _ _ => rfl)) (pv 1)) (pg_sub (pv 0) pe_int set_list))
    (pss_one (ps_ret (pv 2))))), ?_⟩
  refine ⟨_, rfl, tp, _, _, _, rfl, rfl, SqL.of hz, at0, _, rfl, _, _, rfl, rfl, h0, ?_⟩
  refine ⟨_, rfl, tp, _, _, _, rfl, rfl, SqL.of hz, at0, _, rfl, _, _, rfl, rfl, ⟨h0, log_many h0 h1⟩, ?_⟩
  refine ⟨_, rfl, tp, _, _, 0, rfl, rfl, hz, rfl, ?_⟩
  refine ⟨_, rfl, q _ _ (Int.emod_nonneg _ (by omega)) (Int.emod_lt_of_pos _ h0) (fun b o n h => ?_) ⟨_, upd_same⟩⟩
  rw [upd_ne n]
  exact h
/-! ### _law_number -/
def spNum : Sp := fun vs H Q _ => ∃ (tp : Addr), vs = [.ref tp] ∧ Tp H tp ∧ ∀ r H', But1 tp H H' → Tp H' tp → 0 ≤ r → r < 1000 → Q (.int r) H'
abbrev s_law_number : Stmt := top 29
theorem scLnumber : FnScope ["tape", "way"] ["tape"] (defScope s_law_number) := ⟨rfl, rfl, rfl, by decide +kernel, rfl, by decide +kernel, by decide +kernel⟩
theorem at_some {xs : List V} {i : Int} (h0 : 0 ≤ i) (h1 : i < (xs.length : Int)) : ∃ v, atI xs i = some v ∧ v ∈ xs := by
  have h : i.toNat < xs.length := by omega
  exact ⟨xs[i.toNat], at_of (j := i.toNat) (by omega) (List.getElem?_eq_getElem h), List.getElem_mem h⟩
theorem ok_num {f g : Addr} {fd gd : FuncData} (F : Fun K "_law_number" "_law_number" s_law_number f fd) (G_law_digit : FnOk P w K mg base CX0 1 g gd ["tape", "many"] spDig) (R_law_digit : Ref K mg "_law_digit" g gd ["tape", "many"]) : FnOk P w K mg base CX0 2 f fd ["tape"] spNum := by
  refine F.ok scLnumber (fun vs H Q E h => ?_) (fun cdv A outer s H vs Q E hr h => ?_)
  · obtain ⟨tp, rfl, _⟩ := h
    rfl
  obtain ⟨tp, rfl, ht, q⟩ := h
  refine ⟨_, (pss_cons (ps_set (i := 1) scLnumber.nd rfl (Or.inl rfl) (pe_call G_law_digit hr rfl R_law_digit.m R_law_digit.k R_law_digit.b .nil pass0 (pa_cons (pv 0) (pa_cons pe_int pa_nil))))
    (pss_cons (ps_if (pt_cmpR op_eq (pv 1) pe_int (nomark _)) (pss_one (ps_ret (pe_call G_law_digit hr rfl R_law_digit.m R_law_digit.k R_law_digit.b .nil pass0 (pa_cons (pv 0) (pa_cons pe_int pa_nil))))) pss_nil)
    (pss_one (ps_ret (pe_ix ix_list (pe_lst (pa_cons pe_int (pa_cons pe_int (pa_cons pe_int (pa_cons pe_int (pa_cons pe_int pa_nil)))))) (pv 1) (fun _ _ => rfl)))))), ?_⟩
  refine ⟨_, rfl, tp, 6, rfl, ht, by decide, by decide, fun r H1 r0 r1 k1 t1 => ?_⟩
  refine ⟨_, rfl, rfl, _, rfl, ?_⟩
  refine ite2 (fun c => ?_) (fun c => ?_)
  · exact ⟨_, rfl, tp, 1000, rfl, t1, by decide, by decide, fun r2 H2 z0 z1 k2 t2 => q r2 H2 (k1.trans k2) t2 z0 z1⟩
  · have c' : r ≠ 5 := fun z => c (decide_eq_true (congrArg V.int z))
    refine ⟨sz (by show 5 ≤ 100000; decide), fun p hp => ?_⟩
    have np : tp ≠ p := by
      obtain ⟨z, hz⟩ := t1
      exact ne_of_none hz hp
    obtain ⟨v, hv, hm⟩ := at_some (xs := [V.int 0, .int 1, .int 1, .int 2, .int 3]) (i := r) r0 (by show r < 5; omega)
    have hi : ∃ n : Int, v = V.int n ∧ 0 ≤ n ∧ n < 1000 := by
      simp only [List.mem_cons, List.not_mem_nil, or_false] at hm
      rcases hm with z | z | z | z | z <;> exact ⟨_, z, by decide, by decide⟩
    obtain ⟨n, rfl, z0, z1⟩ := hi
    refine ⟨_, rfl, p, _, _, _, rfl, rfl, SqL.of upd_same, hv, ?_⟩
    refine q n _ (k1.trans (but_same (same_new hp _))) ?_ z0 z1
    obtain ⟨z, hz⟩ := t1
    exact ⟨z, same_new hp _ _ _ hz⟩
end
end KB

namespace KB
open PySem L2

/-! ### good terms -/
def okH : Hd → Prop
  | .nam x | .lett x | .ask x => isW x = true
  | .num z => 0 ≤ z ∧ z < 1000
  | _ => True
def okT : Tm → Prop
  | .mk h _ k => okH h ∧ ∀ i, okT (k i)
def HtLe : Nat → Tm → Prop
  | 0, _ => False
  | n + 1, .mk _ _ k => ∀ i, HtLe n (k i)
theorem HtLe.up : ∀ {n : Nat} {t : Tm}, HtLe n t → HtLe (n + 1) t
  | 0, _, h => h.elim
  | n + 1, .mk _ _ _, h => fun i => HtLe.up (n := n) (h i)
theorem HtLe.le {n m : Nat} {t : Tm} (h : HtLe n t) (e : n ≤ m) : HtLe m t := by
  induction e with
  | refl => exact h
  | step _ ih => exact ih.up
/-- each name within its word's reach, each ask with as many terms as hd says -/
def okN (hd : Str → Option Nat) : Hd → Nat → List Str → Prop
  | .nam x, _, xs => x ∈ xs
  | .ask f, n, _ => hd f = some n
  | _, _, _ => True
def inn : Hd → Nat → List Str → List Str
  | .lett x, 1, xs => xs ++ [x]
  | _, _, xs => xs
def okS (hd : Str → Option Nat) : Tm → List Str → Prop
  | .mk h n k, xs => okN hd h n xs ∧ ∀ i, okS hd (k i) (inn h i.val xs)
def mkL (h : Hd) (ts : List Tm) : Tm := .mk h ts.length fun i => ts.get i
theorem ofFn_get (ts : List Tm) : List.ofFn (fun i => ts.get i) = ts := by
  refine List.ext_getElem (by simp) fun i h1 h2 => ?_
  simp
theorem cnt_mkL {h : Hd} {ts : List Tm} : cnt (mkL h ts) = 1 + cnts ts := by
  unfold mkL
  rw [cnt_mk, ofFn_get]
theorem ok_mkL {h : Hd} {ts : List Tm} (a : okH h) (b : ∀ t ∈ ts, okT t) : okT (mkL h ts) := ⟨a, fun i => b _ (List.get_mem ts i)⟩
theorem ht_mkL {n : Nat} {h : Hd} {ts : List Tm} (b : ∀ t ∈ ts, HtLe n t) : HtLe (n + 1) (mkL h ts) := fun i => b _ (List.get_mem ts i)
theorem sc_mkL {hd : Str → Option Nat} {h : Hd} {ts : List Tm} {xs : List Str} (a : okN hd h ts.length xs) (b : ∀ i t, ts[i]? = some t → okS hd t (inn h i xs)) : okS hd (mkL h ts) xs :=
  ⟨a, fun i => b i.val _ (by rw [List.getElem?_eq_getElem i.isLt]; rfl)⟩
theorem lt_mkL {h : Hd} {ts : List Tm} : letsOf (mkL h ts) = hdLets h ++ letsL ts := by
  unfold mkL
  rw [lets_mk, ofFn_get]
theorem letsL_app (a b : List Tm) : letsL (a ++ b) = letsL a ++ letsL b := by
  unfold letsL
  rw [List.map_append, List.flatten_append]
theorem letsL_cons (t : Tm) (r : List Tm) : letsL (t :: r) = letsOf t ++ letsL r := by
  unfold letsL
  rw [List.map_cons, List.flatten_cons]
theorem stk_fn {H : Hp} : ∀ {vs : List V} {ts : List Tm}, Stk H vs ts → ∃ ys : _root_.Fin ts.length → Addr, Rfs ys = vs ∧ ∀ i, At H (ts.get i) (ys i)
  | [], [], _ => ⟨fun i => i.elim0, rfl, fun i => i.elim0⟩
  | v :: vs, t :: ts, h => by
    obtain ⟨⟨b, e, hb⟩, hr⟩ := h
    subst e
    obtain ⟨ys, e1, e2⟩ := stk_fn hr
    refine ⟨fun i => match i with | ⟨0, _⟩ => b | ⟨j + 1, hj⟩ => ys ⟨j, Nat.lt_of_succ_lt_succ hj⟩, ?_, ?_⟩
    · unfold Rfs
      show List.ofFn (n := ts.length + 1) _ = _
      rw [List.ofFn_succ, ← e1]
      rfl
    · rintro ⟨j, hj⟩
      cases j with
      | zero => exact hb
      | succ j => exact e2 ⟨j, Nat.lt_of_succ_lt_succ hj⟩
  | [], _ :: _, h => h.elim
  | _ :: _, [], h => h.elim
theorem at_mkL {H : Hp} {a : Addr} {h : Hd} {vs : List V} {ts : List Tm} (l : Lay H a h vs) (s : Stk H vs ts) : At H (mkL h ts) a := by
  obtain ⟨ys, e1, e2⟩ := stk_fn s
  refine ⟨ys, ?_, e2⟩
  rw [e1]
  exact l
/-- a new good term at a, of at most n terms, within at most d -/
structure Gd (H : Hp) (a : Addr) (n d : Nat) (hd : Str → Option Nat) (xs ls : List Str) (t : Tm) : Prop where
  at_ : At H t a
  ok : okT t
  cn : cnt t ≤ n
  dp : HtLe d t
  sc : okS hd t xs
  lt : letsOf t = ls
theorem Gd.tk {H H' : Hp} {a : Addr} {n d : Nat} {hd : Str → Option Nat} {xs ls : List Str} {t : Tm} (e : TK H H') (g : Gd H a n d hd xs ls t) : Gd H' a n d hd xs ls t := ⟨g.at_.tk e, g.ok, g.cn, g.dp, g.sc, g.lt⟩
theorem Gd.le {H : Hp} {a : Addr} {n d m e : Nat} {hd : Str → Option Nat} {xs ls : List Str} {t : Tm} (g : Gd H a n d hd xs ls t) (h1 : n ≤ m) (h2 : d ≤ e) : Gd H a m e hd xs ls t := ⟨g.at_, g.ok, Nat.le_trans g.cn h1, g.dp.le h2, g.sc, g.lt⟩
theorem gd_num {H : Hp} {a : Addr} {z : Int} {hd : Str → Option Nat} {xs : List Str} (l : Lay H a (.num z) []) (o : 0 ≤ z ∧ z < 1000) : Gd H a 1 1 hd xs [] (mkL (.num z) []) :=
  ⟨at_mkL l trivial, ok_mkL o (fun _ z => nomatch z), (by rw [cnt_mkL]; exact Nat.le_refl 1), ht_mkL (n := 0) (fun _ z => nomatch z), sc_mkL trivial (fun _ _ z => by simp at z), lt_mkL⟩
theorem gd_nam {H : Hp} {a : Addr} {x : Str} {hd : Str → Option Nat} {xs : List Str} (l : Lay H a (.nam x) []) (o : isW x = true) (m : x ∈ xs) : Gd H a 1 1 hd xs [] (mkL (.nam x) []) :=
  ⟨at_mkL l trivial, ok_mkL o (fun _ z => nomatch z), (by rw [cnt_mkL]; exact Nat.le_refl 1), ht_mkL (n := 0) (fun _ z => nomatch z), sc_mkL m (fun _ _ z => by simp at z), lt_mkL⟩

section
variable {P : Program} {w : World} {K : PySem.W.Frag} {mg : Str → Option Value} {base : Heap}
/-! ### _law_leaf -/
def spLeaf : Sp := fun vs H Q _ => ∃ (tp : Addr) (kv : V) (ar : Addr) (xs : List Str), vs = [.ref tp, kv, .ref ar] ∧ Tp H tp ∧ Wls H ar xs ∧ xs.length ≤ 1000 ∧ ∀ a t H', But1 tp H H' → Tp H' tp → (∀ hd, Gd H' a 1 1 hd xs [] t) → Q (.ref a) H'
abbrev s_law_leaf : Stmt := top 30
theorem scLleaf : FnScope ["tape", "known", "around"] ["tape", "known", "around"] (defScope s_law_leaf) := ⟨rfl, rfl, rfl, by decide +kernel, rfl, by decide +kernel, by decide +kernel⟩
theorem Tp.same {H H' : Hp} {tp : Addr} (e : Same H H') (t : Tp H tp) : Tp H' tp := let ⟨z, h⟩ := t; ⟨z, e _ _ h⟩
theorem ok_leaf (T : Txt K mg) {f g h : Addr} {fd gd hd : FuncData} (F : Fun K "_law_leaf" "_law_leaf" s_law_leaf f fd) (G_law_digit : FnOk P w K mg base CX0 1 g gd ["tape", "many"] spDig) (R_law_digit : Ref K mg "_law_digit" g gd ["tape", "many"])
    (G_law_number : FnOk P w K mg base CX0 2 h hd ["tape"] spNum) (R_law_number : Ref K mg "_law_number" h hd ["tape"]) : FnOk P w K mg base CX0 3 f fd ["tape", "known", "around"] spLeaf := by
  refine F.ok scLleaf (fun vs H Q E h => ?_) (fun cdv A outer s H vs Q E hr h => ?_)
  · obtain ⟨tp, kv, ar, xs, rfl, _⟩ := h
    rfl
  obtain ⟨tp, kv, ar, xs, rfl, ht, hw, hl, q⟩ := h
  refine ⟨_, (pss_cons (ps_if (PW.pt (pw_and (pt_cmpR (op_neD hr.units) (pv 2) (pe_lst pa_nil) (nomark _)) (pw_and1 (pt_cmpR op_gt (pe_call G_law_digit (hr.mono (by omega)) rfl R_law_digit.m R_law_digit.k R_law_digit.b .nil pass0 (pa_cons (pv 0) (pa_cons pe_int pa_nil))) pe_int (nomark _))))) (pss_one (ps_ret (pe_tup (pa_cons pe_str (pa_cons (pe_ix ix_list (pv 2) (pe_call G_law_digit (hr.mono (by omega)) rfl R_law_digit.m R_law_digit.k R_law_digit.b .nil pass0 (pa_cons (pv 0) (pa_cons (pe_callB call_len_seq (by rfl) T.m_len PySem.boot_len (pa_cons (pv 2) pa_nil)) pa_nil))) (fun _ _ => rfl)) pa_nil))))) pss_nil)
    (pss_one (ps_ret (pe_tup (pa_cons pe_str (pa_cons (pe_call G_law_number hr rfl R_law_number.m R_law_number.k R_law_number.b .nil pass0 (pa_cons (pv 0) pa_nil)) pa_nil)))))), ?_⟩
  have numW : ∀ H1, But1 tp H H1 → Tp H1 tp → (tRet (tTup (tCons (tC (.str "number")) (tCons (tCall spNum [] E0 (tCons (tVar 0) tNil)) tNil)))) { nx := fun x H' => Q V.non H', rt := Q } [some (.ref tp), some kv, some (.ref ar)] H1 := by
    intro H1 k1 t1
    refine ⟨_, rfl, tp, rfl, t1, fun r H2 k2 t2 r0 r1 => ⟨sz (by show 2 ≤ 100000; decide), fun p hp => ?_⟩⟩
    have s := same_new hp (.tup [.str "number", .int r])
    exact q p (mkL (.num r) []) _ ((k1.trans k2).trans (but_same s)) (t2.same s) (fun _ => gd_num ⟨rfl, upd_same⟩ ⟨r0, r1⟩)
  refine ⟨_, rfl, sz (by show 0 ≤ 100000; decide), fun p0 hp0 => ?_⟩
  have s0 := same_new hp0 (.lst [])
  refine ⟨.list (xs.map PyData.str), .list [], .lst (SqL.of (s0 _ _ hw.1)) (dp_strs xs), .lst (SqL.of upd_same) .nil, shaped_strs hw.2, rfl, _, rfl, ?_⟩
  rw [eqv_nil]
  cases xs with
  | nil => exact iteF (numW _ (but_same s0) (ht.same s0))
  | cons x0 xr =>
    refine iteT ⟨_, rfl, tp, 3, rfl, ht.same s0, by decide, by decide, fun r H1 r0 r1 k1 t1 => ?_⟩
    have k01 := (but_same s0).trans k1
    refine ⟨_, _, rfl, rfl, _, rfl, ?_⟩
    refine ite2 (fun c => ?_) (fun c => ?_)
    · have w1 := hw.but k01 ht
      refine ⟨_, rfl, _, rfl, _, rfl, ar, _, rfl, .inl (SqL.of w1.1), tp, _, rfl, t1, ?_, ?_, fun r2 H2 r3 r4 k2 t2 => ?_⟩
      · show (0 : Int) < (((x0 :: xr).map V.str).length : Nat)
        rw [List.length_map, List.length_cons]
        omega
      · rw [List.length_map]
        omega
      have w2 := w1.but k2 t1
      obtain ⟨v, hv, hm⟩ := at_some r3 r4
      obtain ⟨z, hz, rfl⟩ := List.mem_map.mp hm
      refine ⟨ar, _, _, _, rfl, rfl, SqL.of w2.1, hv, sz (by show 2 ≤ 100000; decide), fun p hp => ?_⟩
      have s := same_new hp (.tup [.str "name", .str z])
      exact q p (mkL (.nam z) []) _ ((k01.trans k2).trans (but_same s)) (t2.same s) (fun _ => gd_nam ⟨rfl, upd_same⟩ (hw.2 z hz) hz)
    · exact numW _ k01 t1
/-! ### _law_shares -/
def spShr : Sp := fun vs H Q _ => ∃ (tp : Addr) (room many : Int), vs = [.ref tp, .int room, .int many] ∧ Tp H tp ∧ 0 ≤ many ∧ many ≤ room ∧ room ≤ 1000 ∧
  ∀ (p : Addr) (xs : List Int) (H' : Hp), But1 tp H H' → Tp H' tp → H p = none → H' p = some (.lst (xs.map V.int)) → (xs.length : Int) = many → (∀ x ∈ xs, (1 : Int) ≤ x) → xs.sum ≤ room → Q (.ref p) H'
abbrev s_law_shares : Stmt := top 31
theorem scLshares : FnScope ["tape", "room", "many", "found", "left", "k", "more"] ["tape", "room", "many"] (defScope s_law_shares) := ⟨rfl, rfl, rfl, by decide +kernel, rfl, by decide +kernel, by decide +kernel⟩
theorem rep1 (n : Nat) : (List.replicate n [V.int 1]).flatten = (List.replicate n (1 : Int)).map V.int := by
  induction n with
  | zero => rfl
  | succ n ih =>
    rw [List.replicate_succ, List.flatten_cons, ih, List.replicate_succ]
    rfl
theorem sum1 (n : Nat) : (List.replicate n (1 : Int)).sum = n := by
  induction n with
  | zero => rfl
  | succ n ih =>
    rw [List.replicate_succ, List.sum_cons, ih]
    omega
theorem ok_shares (T : Txt K mg) {f g : Addr} {fd gd : FuncData} (F : Fun K "_law_shares" "_law_shares" s_law_shares f fd) (G_law_digit : FnOk P w K mg base CX0 1 g gd ["tape", "many"] spDig) (R_law_digit : Ref K mg "_law_digit" g gd ["tape", "many"]) : FnOk P w K mg base CX0 2 f fd ["tape", "room", "many"] spShr := by
  refine F.ok scLshares (fun vs H Q E h => ?_) (fun cdv A outer s H vs Q E hr h => ?_)
  · obtain ⟨tp, room, many, rfl, _⟩ := h
    rfl
  obtain ⟨tp, room, many, rfl, ht, h0, h1, h2, q⟩ := h
  refine ⟨_, (pss_cons (ps_set (i := 3) scLshares.nd rfl (Or.inl rfl) (pe_op op_rep (pe_lst (pa_cons pe_int pa_nil)) (pv 2)))
    (pss_cons (ps_set (i := 4) scLshares.nd rfl (Or.inl rfl) (pe_op op_sub (pv 1) (pv 2)))
    (pss_cons (ps_for PassesOwn.never rfl (pi_range1 rfl T.m_range (pa_cons (pv 2) pa_nil)) (pg_name (i := 5) scLshares.nd rfl (Or.inl rfl)) (pss_cons (ps_set (i := 6) scLshares.nd rfl (Or.inl rfl) (pe_call G_law_digit hr rfl R_law_digit.m R_law_digit.k R_law_digit.b .nil pass0 (pa_cons (pv 0) (pa_cons (pe_op op_add (pv 4) pe_int) pa_nil))))
    (pss_cons (ps_asg (pe_op op_add (pe_ix ix_list (pv 3) (pv 5) (fun _ _ => rfl)) (pv 6)) (pg_sub (pv 3) (pv 5) set_list))
    (pss_one (ps_set (i := 4) scLshares.nd rfl (Or.inl rfl) (pe_op op_sub (pv 4) (pv 6)))))))
    (pss_one (ps_ret (pv 3)))))), ?_⟩
  refine ⟨sz (by show 1 ≤ 100000; decide), fun p1 hp1 => ?_⟩
  have s1 := same_new hp1 (.lst [.int 1])
  refine ⟨_, rfl, p1, _, _, rfl, rfl, upd_same, by omega, by omega, sz (by show 1 * many.toNat ≤ 100000; omega), fun fl hfl => ?_⟩
  have s2 := same_new hfl (.lst (List.replicate many.toNat [V.int 1]).flatten)
  have s12 := s1.trans s2
  have hfl0 : H fl = none := s1.free hfl
  have f1 : upd (upd H p1 (.lst [.int 1])) fl (.lst (List.replicate many.toNat [V.int 1]).flatten) fl = some (.lst ((List.replicate many.toNat (1 : Int)).map V.int)) := by
    rw [upd_same, rep1]
  refine ⟨_, rfl, _, rfl, _, _, rfl, rfl, ?_⟩
  refine ⟨_, rfl, many, rfl, by omega, by omega, ?_⟩
  have ntp : fl ≠ tp := by
    obtain ⟨z, hz⟩ := ht
    exact (ne_of_none hz hfl0).symm
  refine for_range (lo := 0) (n := many.toNat) (fun i σ H' => ∃ left o5 o6 xs, σ = [some (.ref tp), some (.int room), some (.int many), some (.ref fl), some (.int left), o5, o6] ∧ But1 tp H H' ∧ Tp H' tp ∧ H' fl = some (.lst ((xs : List Int).map V.int)) ∧
    (xs.length : Int) = many ∧ (∀ x ∈ xs, (1 : Int) ≤ x) ∧ xs.sum + left = room ∧ 0 ≤ left) ?_ ?_ ?_
  · refine ⟨_, _, _, List.replicate many.toNat 1, rfl, but_same s12, ht.same s12, f1, ?_, ?_, ?_, by omega⟩
    · rw [List.length_replicate]
      omega
    · intro x hx
      rw [(List.mem_replicate.mp hx).2]
      decide
    · rw [sum1]
      omega
  · rintro i σ H1 hi ⟨left, o5, o6, xs, rfl, k1, t1, g1, g2, g3, g4, g5⟩
    refine ⟨_, rfl, _, rfl, _, _, rfl, rfl, tp, _, rfl, t1, by omega, ?_, fun r H2 r0 r1 k2 t2 => ?_⟩
    · have : xs.sum ≥ 0 := by
        clear g1 g2 g4
        induction xs with
        | nil => decide
        | cons x r ih =>
          have e1 := g3 x List.mem_cons_self
          have e2 := ih fun y hy => g3 y (List.mem_cons_of_mem _ hy)
          rw [List.sum_cons]
          omega
      omega
    have g6 := k2 _ _ ntp g1
    have hi2 : i < xs.length := by omega
    have hx : xs[i]? = some xs[i] := List.getElem?_eq_getElem hi2
    have e0 : (0 : Int) + (i : Nat) = ((i : Nat) : Int) := by omega
    refine ⟨_, rfl, _, rfl, fl, _, _, .int xs[i], rfl, rfl, SqL.of g6, ?_, _, rfl, _, _, rfl, rfl, ?_⟩
    · rw [e0]
      exact atI_nat (by rw [List.getElem?_map, hx]; rfl)
    refine ⟨_, rfl, _, rfl, fl, _, _, i, rfl, rfl, g6, ?_, ?_⟩
    · rw [e0, List.length_map]
      unfold ixN
      rw [if_pos (by omega), if_pos (by omega)]
      rfl
    refine ⟨_, rfl, _, rfl, _, _, rfl, rfl, ?_⟩
    refine ⟨_, _, _, xs.set i (xs[i] + r), rfl, fun b o n h => ?_, ?_, ?_, ?_, ?_, ?_, by omega⟩
    · by_cases e : b = fl
      · subst e
        rw [hfl0] at h
        cases h
      · rw [upd_ne e]
        exact k2 _ _ n (k1 _ _ n h)
    · obtain ⟨z, hz⟩ := t2
      exact ⟨z, by rw [upd_ne (Ne.symm ntp)]; exact hz⟩
    · rw [upd_same, List.map_set]
    · rw [List.length_set]
      exact g2
    · intro x hx'
      rcases List.mem_or_eq_of_mem_set hx' with z | z
      · exact g3 x z
      · have := g3 _ (List.getElem_mem hi2)
        omega
    · rw [sum_set hx]
      omega
  · rintro σ H1 ⟨left, o5, o6, xs, rfl, k1, t1, g1, g2, g3, g4, g5⟩
    exact ⟨_, rfl, q fl xs H1 k1 t1 hfl0 g1 g2 g3 (by omega)⟩
/-! ### _law_less_one -/
theorem simple_mkL {h : Hd} {ts : List Tm} (a : flatHd h = true) (b : ∀ t ∈ ts, simple t = true) : simple (mkL h ts) = true := by
  unfold mkL simple
  rw [a, Bool.true_and, List.all_eq_true]
  intro x hx
  obtain ⟨i, rfl⟩ := List.mem_ofFn.mp hx
  exact b _ (List.get_mem ts i)
def spLess : Sp := fun vs H Q _ => ∃ (ar : Addr) (xs : List Str), vs = [.ref ar] ∧ Wls H ar xs ∧ ∀ a t H', Same H H' → (∀ hd, Gd H' a 3 2 hd xs [] t) → simple t = true → Q (.ref a) H'
abbrev s_law_less_one : Stmt := top 32
theorem scLless_one : FnScope ["around"] ["around"] (defScope s_law_less_one) := ⟨rfl, rfl, rfl, by decide +kernel, rfl, by decide +kernel, by decide +kernel⟩
theorem ok_less {f : Addr} {fd : FuncData} (F : Fun K "_law_less_one" "_law_less_one" s_law_less_one f fd) : FnOk P w K mg base CX0 1 f fd ["around"] spLess := by
  refine F.ok scLless_one (fun vs H Q E h => ?_) (fun cdv A outer s H vs Q E hr h => ?_)
  · obtain ⟨ar, xs, rfl, _⟩ := h
    rfl
  obtain ⟨ar, xs, rfl, hw, q⟩ := h
  refine ⟨_, (pss_cons (ps_if (pt_cmpR (op_eqD hr.units) (pv 0) (pe_lst pa_nil) (nomark _)) (pss_one (ps_ret (pe_tup (pa_cons pe_str (pa_cons pe_int pa_nil))))) pss_nil)
    (pss_one (ps_ret (pe_tup (pa_cons pe_str (pa_cons (pe_tup (pa_cons pe_str (pa_cons (pe_ix ix_list (pv 0) pe_int (fun _ _ => rfl)) pa_nil))) (pa_cons (pe_tup (pa_cons pe_str (pa_cons pe_int pa_nil))) pa_nil))))))), ?_⟩
  refine ⟨_, rfl, sz (by show 0 ≤ 100000; decide), fun p0 hp0 => ?_⟩
  have s0 := same_new hp0 (.lst [])
  refine ⟨.list (xs.map PyData.str), .list [], .lst (SqL.of (s0 _ _ hw.1)) (dp_strs xs), .lst (SqL.of upd_same) .nil, shaped_strs hw.2, rfl, _, rfl, ?_⟩
  rw [eqv_nil]
  cases xs with
  | nil =>
    refine iteT ⟨sz (by show 2 ≤ 100000; decide), fun p hp => ?_⟩
    exact q p (mkL (.num 0) []) _ (s0.trans (same_new hp _)) (fun _ => (gd_num ⟨rfl, upd_same⟩ (by decide)).le (by decide) (by decide)) (simple_mkL rfl (fun _ z => nomatch z))
  | cons x0 xr =>
    refine iteF ⟨_, rfl, ar, _, _, _, rfl, rfl, SqL.of (s0 _ _ hw.1), at0, sz (by show 2 ≤ 100000; decide), fun p1 hp1 => ?_⟩
    have s1 := same_new hp1 (.tup [.str "name", .str x0])
    refine ⟨sz (by show 2 ≤ 100000; decide), fun p2 hp2 => ?_⟩
    have s2 := same_new hp2 (.tup [.str "number", .int 1])
    refine ⟨sz (by show 3 ≤ 100000; decide), fun p3 hp3 => ?_⟩
    have s3 := same_new hp3 (.tup [.str "less", .ref p1, .ref p2])
    have s23 := s2.trans s3
    have l1 : Lay _ p1 (.nam x0) [] := ⟨rfl, s23 _ _ upd_same⟩
    have l2 : Lay _ p2 (.num 1) [] := ⟨rfl, s3 _ _ upd_same⟩
    refine q p3 (mkL .less [mkL (.nam x0) [], mkL (.num 1) []]) _ (s0.trans (s1.trans s23)) (fun hd => ?_) (simple_mkL rfl fun t ht => by
      simp only [List.mem_cons, List.not_mem_nil, or_false] at ht
      rcases ht with z | z <;> subst z <;> exact simple_mkL rfl (fun _ z => nomatch z))
    have g1 := gd_nam (hd := hd) (xs := x0 :: xr) l1 (hw.2 x0 List.mem_cons_self) List.mem_cons_self
    have g2 := gd_num (hd := hd) (xs := x0 :: xr) l2 (by decide)
    refine ⟨?_, ?_, ?_, ?_, ?_, ?_⟩
    · exact at_mkL (vs := [.ref p1, .ref p2]) ⟨rfl, upd_same⟩ ⟨⟨p1, rfl, g1.at_⟩, ⟨p2, rfl, g2.at_⟩, trivial⟩
    · refine ok_mkL trivial fun t ht => ?_
      simp only [List.mem_cons, List.not_mem_nil, or_false] at ht
      rcases ht with z | z
      · subst z
        exact g1.ok
      · subst z
        exact g2.ok
    · have c1 := g1.cn
      have c2 := g2.cn
      rw [cnt_mkL, cnts_cons, cnts_cons]
      show 1 + (_ + (_ + 0)) ≤ 3
      omega
    · refine ht_mkL fun t ht => ?_
      simp only [List.mem_cons, List.not_mem_nil, or_false] at ht
      rcases ht with z | z
      · subst z
        exact g1.dp
      · subst z
        exact g2.dp
    · refine sc_mkL trivial fun i t hi => ?_
      match i, hi with
      | 0, hi =>
        cases (Option.some.inj hi)
        exact g1.sc
      | 1, hi =>
        cases (Option.some.inj hi)
        exact g2.sc
      | i + 2, hi => simp at hi
    · rw [lt_mkL, letsL_cons, letsL_cons, g1.lt, g2.lt]
      rfl
end
end KB

namespace KB
open PySem L2

/-! ### parts of turned books as data -/
inductive Pt
  | give (j : Str) (t : Tm)
  | ask (f : Str) (ts : List Tm) (j : Str)
  | tell (x : Str) (t : Tm) (p : Pt)
  | lett (x : Str) (t : Tm) (p : Pt)
  | iff (t : Tm) (p q : Pt)
  | post (j x : Str) (p q : Pt)
def RefV (H : Hp) (t : Tm) (v : V) : Prop := ∃ b, v = .ref b ∧ At H t b
def PAt (H : Hp) : Pt → Addr → Prop
  | .give j t, a => ∃ b, H a = some (.tup [.str "give", .str j, .ref b]) ∧ At H t b
  | .ask f ts j, a => ∃ q vs, H a = some (.tup [.str "ask", .str f, .ref q, .str j]) ∧ H q = some (.tup vs) ∧ All2 (RefV H) ts vs
  | .tell x t p, a => ∃ b c, H a = some (.tup [.str "tell", .str x, .ref b, .ref c]) ∧ At H t b ∧ PAt H p c
  | .lett x t p, a => ∃ b c, H a = some (.tup [.str "let", .str x, .ref b, .ref c]) ∧ At H t b ∧ PAt H p c
  | .iff t p q, a => ∃ b c d, H a = some (.tup [.str "if", .ref b, .ref c, .ref d]) ∧ At H t b ∧ PAt H p c ∧ PAt H q d
  | .post j x p q, a => ∃ c d, H a = some (.tup [.str "post", .str j, .str x, .ref c, .ref d]) ∧ PAt H p c ∧ PAt H q d
theorem RefV.tk {H H' : Hp} (k : TK H H') {t : Tm} {v : V} (h : RefV H t v) : RefV H' t v := let ⟨b, e, g⟩ := h; ⟨b, e, g.tk k⟩
theorem PAt.tk {H H' : Hp} (k : TK H H') : ∀ {p : Pt} {a : Addr}, PAt H p a → PAt H' p a
  | .give j t, a, ⟨b, h1, h2⟩ => ⟨b, k _ _ h1, h2.tk k⟩
  | .ask f ts j, a, ⟨q, vs, h1, h2, h3⟩ => ⟨q, vs, k _ _ h1, k _ _ h2, h3.imp fun _ _ z => z.tk k⟩
  | .tell x t p, a, ⟨b, c, h1, h2, h3⟩ => ⟨b, c, k _ _ h1, h2.tk k, PAt.tk k h3⟩
  | .lett x t p, a, ⟨b, c, h1, h2, h3⟩ => ⟨b, c, k _ _ h1, h2.tk k, PAt.tk k h3⟩
  | .iff t p q, a, ⟨b, c, d, h1, h2, h3, h4⟩ => ⟨b, c, d, k _ _ h1, h2.tk k, PAt.tk k h3, PAt.tk k h4⟩
  | .post j x p q, a, ⟨c, d, h1, h2, h3⟩ => ⟨c, d, k _ _ h1, PAt.tk k h2, PAt.tk k h3⟩
/-- a simple term within words -/
structure SmT (hd : Str → Option Nat) (xs : List Str) (t : Tm) : Prop where
  ok : okT t
  si : simple t = true
  sc : okS hd t xs
  cn : cnt t ≤ 3
  ht : HtLe 2 t
def okP (hd : Str → Option Nat) : Pt → List Str → List Str → Prop
  | .give j t, xs, hs => j ∈ hs ∧ SmT hd xs t
  | .ask f ts j, xs, hs => j ∈ hs ∧ isW f = true ∧ hd f = some ts.length ∧ ts.length ≤ 4 ∧ ∀ t ∈ ts, SmT hd xs t
  | .tell x t p, xs, hs => isW x = true ∧ SmT hd xs t ∧ okP hd p (xs ++ [x]) hs
  | .lett x t p, xs, hs => isW x = true ∧ SmT hd xs t ∧ okP hd p (xs ++ [x]) hs
  | .iff t p q, xs, hs => SmT hd xs t ∧ okP hd p xs hs ∧ okP hd q xs hs
  | .post j x p q, xs, hs => isW j = true ∧ isW x = true ∧ okP hd p (xs ++ [x]) hs ∧ okP hd q xs (hs ++ [j])
def pcnt : Pt → Nat
  | .give _ _ => 1
  | .ask _ _ _ => 1
  | .tell _ _ p => 1 + pcnt p
  | .lett _ _ p => 1 + pcnt p
  | .iff _ p q => 1 + pcnt p + pcnt q
  | .post _ _ p q => 1 + pcnt p + pcnt q
/-- the words and the posts' words that a part binds, as they are met -/
def wP : Pt → List Str
  | .give _ _ => []
  | .ask _ _ _ => []
  | .tell x _ p => x :: wP p
  | .lett x _ p => x :: wP p
  | .iff _ p q => wP p ++ wP q
  | .post _ x p q => x :: (wP p ++ wP q)
def jP : Pt → List Str
  | .give _ _ => []
  | .ask _ _ _ => []
  | .tell _ _ p => jP p
  | .lett _ _ p => jP p
  | .iff _ p q => jP p ++ jP q
  | .post j _ p q => j :: (jP p ++ jP q)

/-! ### what the generator of parts has at hand -/
def But3 (tp wl pl : Addr) (H H' : Hp) : Prop := ∀ b o, b ≠ tp → b ≠ wl → b ≠ pl → H b = some o → H' b = some o
theorem But3.refl (tp wl pl : Addr) (H : Hp) : But3 tp wl pl H H := fun _ _ _ _ _ h => h
theorem But3.trans {tp wl pl : Addr} {H H1 H2 : Hp} (a : But3 tp wl pl H H1) (b : But3 tp wl pl H1 H2) : But3 tp wl pl H H2 := fun x o n m l h => b x o n m l (a x o n m l h)
theorem But1.three {tp wl pl : Addr} {H H' : Hp} (a : But1 tp H H') : But3 tp wl pl H H' := fun x o n _ _ h => a x o n h
theorem but3_same {tp wl pl : Addr} {H H' : Hp} (e : Same H H') : But3 tp wl pl H H' := fun b o _ _ _ h => e b o h
abbrev kgE : Key := Sum.inr "errands"
abbrev kgH : Key := Sum.inr "heads"
abbrev kgW : Key := Sum.inr "words"
abbrev kgR : Key := Sum.inr "room"
abbrev kgP : Key := Sum.inr "posts"
abbrev kgS : Key := Sum.inr "straight"
def knT (el hd wl pl : Addr) (room : Int) (st : Bool) : List (Key × V) := [(kgE, .ref el), (kgH, .ref hd), (kgW, .ref wl), (kgR, .int room), (kgP, .ref pl), (kgS, .bl st)]
structure GT (H : Hp) (tp kd wl pl : Addr) (hF : Str → Option Nat) (ws js : List Str) : Prop where
  t : Tp H tp
  w : Wls H wl ws
  p : Wls H pl js
  wn : ws.length ≤ 100
  pn : js.length ≤ 100
  wp : wl ≠ pl
  k : ∃ el hd fs kvs room st, H kd = some (.dK (knT el hd wl pl room st)) ∧ 1 ≤ room ∧ room ≤ 9 ∧ el ≠ wl ∧ el ≠ pl ∧ Wls H el fs ∧ 0 < fs.length ∧ fs.length ≤ 100 ∧ H hd = some (.dK kvs) ∧ ∀ f ∈ fs, ∃ n : Int, valV kvs (Sum.inr f) = some (.int n) ∧ 0 ≤ n ∧ n ≤ 4 ∧ hF f = some n.toNat
section
variable {H H' : Hp} {tp kd wl pl : Addr} {hF : Str → Option Nat} {ws js ws' js' : List Str}
theorem GT.ntk (g : GT H tp kd wl pl hF ws js) {a : Addr} {o : HO} (h : H a = some o) (hn : ∀ xs, o ≠ .lst xs) : a ≠ tp ∧ a ≠ wl ∧ a ≠ pl := by
  obtain ⟨z, hz⟩ := g.t
  exact ⟨ne_of h hz (hn _), ne_of h g.w.1 (hn _), ne_of h g.p.1 (hn _)⟩
theorem GT.tk (g : GT H tp kd wl pl hF ws js) (b : But3 tp wl pl H H') : TK H H' := fun a _ h => by
  obtain ⟨n1, n2, n3⟩ := g.ntk h (fun _ z => nomatch z)
  exact b a _ n1 n2 n3 h
theorem GT.step (g : GT H tp kd wl pl hF ws js) (b : But3 tp wl pl H H') (t : Tp H' tp) (w : Wls H' wl ws') (p : Wls H' pl js') (wn : ws'.length ≤ 100) (pn : js'.length ≤ 100) : GT H' tp kd wl pl hF ws' js' := by
  obtain ⟨el, hd, fs, kvs, room, st, k1, r1, r2, k2, k2', k3, k4, k5, k6, k7⟩ := g.k
  refine ⟨t, w, p, wn, pn, g.wp, el, hd, fs, kvs, room, st, ?_, r1, r2, k2, k2', ⟨b _ _ (wls_tp k3.1 g.t) k2 k2' k3.1, k3.2⟩, k4, k5, ?_, k7⟩
  · obtain ⟨n1, n2, n3⟩ := g.ntk k1 (fun _ z => nomatch z)
    exact b _ _ n1 n2 n3 k1
  · obtain ⟨n1, n2, n3⟩ := g.ntk k6 (fun _ z => nomatch z)
    exact b _ _ n1 n2 n3 k6
theorem GT.one (g : GT H tp kd wl pl hF ws js) (b : But1 tp H H') (t : Tp H' tp) : GT H' tp kd wl pl hF ws js := g.step b.three t (g.w.but b g.t) (g.p.but b g.t) g.wn g.pn
theorem GT.same (g : GT H tp kd wl pl hF ws js) (e : Same H H') : GT H' tp kd wl pl hF ws js := g.one (but_same e) (g.t.same e)
theorem Wls.three {a : Addr} {xs : List Str} (e : But3 tp wl pl H H') (g : GT H tp kd wl pl hF ws js) (n : a ≠ wl) (m : a ≠ pl) (h : Wls H a xs) : Wls H' a xs := ⟨e _ _ (wls_tp h.1 g.t) n m h.1, h.2⟩
theorem GT.new (g : GT H tp kd wl pl hF ws js) {p : Addr} (h : H p = none) : p ≠ tp ∧ p ≠ wl ∧ p ≠ pl := by
  obtain ⟨z, hz⟩ := g.t
  exact ⟨(ne_of_none hz h).symm, (ne_of_none g.w.1 h).symm, (ne_of_none g.p.1 h).symm⟩
variable {el hd : Addr} {room : Int} {st : Bool}
theorem gt_errands (h : H kd = some (.dK (knT el hd wl pl room st))) : DGet H kd (.str "errands") (some (.ref el)) := DGet.k (k := kgE) h
theorem gt_heads (h : H kd = some (.dK (knT el hd wl pl room st))) : DGet H kd (.str "heads") (some (.ref hd)) := DGet.k (k := kgH) h
theorem gt_words (h : H kd = some (.dK (knT el hd wl pl room st))) : DGet H kd (.str "words") (some (.ref wl)) := DGet.k (k := kgW) h
theorem gt_room (h : H kd = some (.dK (knT el hd wl pl room st))) : DGet H kd (.str "room") (some (.int room)) := DGet.k (k := kgR) h
theorem gt_posts (h : H kd = some (.dK (knT el hd wl pl room st))) : DGet H kd (.str "posts") (some (.ref pl)) := DGet.k (k := kgP) h
theorem gt_straight (h : H kd = some (.dK (knT el hd wl pl room st))) : DGet H kd (.str "straight") (some (.bl st)) := DGet.k (k := kgS) h
end
theorem get_of {H : Hp} {hd : Addr} {kvs : List (Key × V)} {f : Str} {v : V} (h : H hd = some (.dK kvs)) (e : valV kvs (Sum.inr f) = some v) : DGet H hd (.str f) (some v) := by
  have := DGet.k (k := Sum.inr f) h
  rw [e] at this
  exact this
/-- the hand-ons around -/
def Hls (H : Hp) (a : Addr) (hs : List Str) : Prop := H a = some (.lst (hs.map V.str))
end KB

namespace KB
open PySem L2

section
variable {P : Program} {w : World} {K : PySem.W.Frag} {mg : Str → Option Value} {base : Heap}
/-! ### _law_simple -/
/-- a simple term at a, of at most n terms, within d -/
structure GdS (H : Hp) (a : Addr) (n d : Nat) (hd : Str → Option Nat) (xs : List Str) (t : Tm) : Prop where
  g : Gd H a n d hd xs [] t
  s : simple t = true
def spSimple (n : Nat) : Sp := fun vs H Q _ => ∃ (tp ar : Addr) (xs : List Str), vs = [.ref tp, .ref ar, .int n] ∧ Tp H tp ∧ Wls H ar xs ∧ xs.length ≤ 1000 ∧ n ≤ 1 ∧ ∀ a t H', But1 tp H H' → Tp H' tp → (∀ hd, GdS H' a (2 * n + 1) (n + 1) hd xs t) → Q (.ref a) H'
abbrev s_law_simple : Stmt := top 34
theorem scLsimple : FnScope ["tape", "around", "deep", "one"] ["tape", "around", "deep"] (defScope s_law_simple) := ⟨rfl, rfl, rfl, by decide +kernel, rfl, by decide +kernel, by decide +kernel⟩
theorem leaf_simple {H : Hp} {a : Addr} {xs : List Str} {t : Tm} (g : ∀ hd, Gd H a 1 1 hd xs [] t) : simple t = true := by
  have g0 := g fun _ => none
  cases t with
  | mk h n k =>
    have hc := g0.cn
    rw [cnt_mk] at hc
    have hn : n = 0 := by
      cases n with
      | zero => rfl
      | succ m =>
        exfalso
        rw [List.ofFn_succ, cnts_cons] at hc
        have := cnt_pos (k 0)
        omega
    subst hn
    obtain ⟨ys, l, _⟩ := g0.at_
    have hl : (Rfs ys).length = 0 := by
      unfold Rfs
      rw [List.length_ofFn]
    have hs := g0.sc.1
    cases h with
    | num z => rfl
    | nam x => rfl
    | plus => rfl
    | less => rfl
    | tell =>
      have := l.1
      omega
    | lett x =>
      have := l.1
      omega
    | iff =>
      have := l.1
      omega
    | ask f => cases hs
def spPrev : Nat → Sp
  | 0 => fun _ _ _ _ => False
  | n + 1 => spSimple n
theorem two_simple {H : Hp} {p a b : Addr} {hd : Str → Option Nat} {xs : List Str} {h : Hd} {t u : Tm} (hh : h = .plus ∨ h = .less) (g1 : GdS H a 1 1 hd xs t) (g2 : GdS H b 1 1 hd xs u) (hp : H p = some (.tup [.str (hs h), .ref a, .ref b])) : GdS H p 3 2 hd xs (mkL h [t, u]) := by
  have both : ∀ (Pr : Tm → Prop), Pr t → Pr u → ∀ x ∈ [t, u], Pr x := fun Pr h1 h2 x hx => by
    rcases List.mem_cons.mp hx with z | z
    · rw [z]
      exact h1
    · rw [List.mem_singleton.mp z]
      exact h2
  have lay : Lay H p h [.ref a, .ref b] := by
    rcases hh with rfl | rfl
    · exact ⟨rfl, hp⟩
    · exact ⟨rfl, hp⟩
  have c1 := g1.g.cn
  have c2 := g2.g.cn
  refine ⟨⟨at_mkL lay ⟨⟨a, rfl, g1.g.at_⟩, ⟨b, rfl, g2.g.at_⟩, trivial⟩, ok_mkL (by rcases hh with rfl | rfl <;> trivial) (both _ g1.g.ok g2.g.ok), ?_, ht_mkL (both _ g1.g.dp g2.g.dp), ?_, ?_⟩, simple_mkL (by rcases hh with rfl | rfl <;> rfl) (both _ g1.s g2.s)⟩
  · rw [cnt_mkL, cnts_cons, cnts_cons]
    show 1 + (_ + (_ + 0)) ≤ 3
    omega
  · refine sc_mkL (by rcases hh with rfl | rfl <;> trivial) fun i x hi => ?_
    have hin : inn h i xs = xs := by rcases hh with rfl | rfl <;> rfl
    rw [hin]
    exact both (fun y => okS hd y xs) g1.g.sc g2.g.sc x (List.mem_of_getElem? hi)
  · have e1 := g1.g.lt
    have e2 := g2.g.lt
    have : letsOf (mkL h [t, u]) = hdLets h ++ letsL [t, u] := by
      unfold mkL
      rw [lets_mk, ofFn_get]
    rw [this]
    show hdLets h ++ (letsOf t ++ (letsOf u ++ [])) = []
    rw [e1, e2]
    rcases hh with rfl | rfl <;> rfl
theorem GdS.tk {H H' : Hp} {a : Addr} {n d : Nat} {hd : Str → Option Nat} {xs : List Str} {t : Tm} (k : TK H H') (g : GdS H a n d hd xs t) : GdS H' a n d hd xs t := ⟨g.g.tk k, g.s⟩
theorem tp_tk {tp : Addr} {H H' : Hp} (t : Tp H tp) (b : But1 tp H H') : TK H H' := b.tk t
theorem ok_simple (T : Txt K mg) (n : Nat) {f fg fh : Addr} {fd gd hd : FuncData} (F : Fun K "_law_simple" "_law_simple" s_law_simple f fd) (G_law_digit : FnOk P w K mg base CX0 1 fg gd ["tape", "many"] spDig) (R_law_digit : Ref K mg "_law_digit" fg gd ["tape", "many"])
    (G_law_leaf : FnOk P w K mg base CX0 3 fh hd ["tape", "known", "around"] spLeaf) (R_law_leaf : Ref K mg "_law_leaf" fh hd ["tape", "known", "around"])
    (G_law_simple : FnOk P w K mg base CX0 (n + 3) f fd ["tape", "around", "deep"] (spPrev n)) (R_law_simple : Ref K mg "_law_simple" f fd ["tape", "around", "deep"]) : FnOk P w K mg base CX0 (n + 4) f fd ["tape", "around", "deep"] (spSimple n) := by
  refine F.ok scLsimple (fun vs H Q E h => ?_) (fun cdv A outer s H vs Q E hr h => ?_)
  · obtain ⟨tp, ar, xs, rfl, _⟩ := h
    rfl
  obtain ⟨tp, ar, xs, rfl, ht, hw, hx, hn1, q⟩ := h
  refine ⟨_, (pss_cons (ps_if (PW.pt (pw_or (pt_cmpR op_eq (pv 2) pe_int (nomark _)) (pw_or1 (pt_cmpR op_gt (pe_call G_law_digit (hr.mono (by omega)) rfl R_law_digit.m R_law_digit.k R_law_digit.b .nil pass0 (pa_cons (pv 0) (pa_cons pe_int pa_nil))) pe_int (nomark _))))) (pss_one (ps_ret (pe_call G_law_leaf (hr.mono (by omega)) rfl R_law_leaf.m R_law_leaf.k R_law_leaf.b .nil pass0 (pa_cons (pv 0) (pa_cons pe_dnewK (pa_cons (pv 1) pa_nil)))))) pss_nil)
    (pss_cons (ps_set (i := 3) scLsimple.nd rfl (Or.inl rfl) (pe_call G_law_simple (hr.mono (by omega)) rfl R_law_simple.m R_law_simple.k R_law_simple.b .nil pass0 (pa_cons (pv 0) (pa_cons (pv 1) (pa_cons (pe_op op_sub (pv 2) pe_int) pa_nil)))))
    (pss_one (ps_ret (pe_tup (pa_cons (pe_ix ix_list (pe_lst (pa_cons pe_str (pa_cons pe_str pa_nil))) (pe_call G_law_digit (hr.mono (by omega)) rfl R_law_digit.m R_law_digit.k R_law_digit.b .nil pass0 (pa_cons (pv 0) (pa_cons pe_int pa_nil))) (fun _ _ => rfl)) (pa_cons (pv 3) (pa_cons (pe_call G_law_simple (hr.mono (by omega)) rfl R_law_simple.m R_law_simple.k R_law_simple.b .nil pass0 (pa_cons (pv 0) (pa_cons (pv 1) (pa_cons (pe_op op_sub (pv 2) pe_int) pa_nil)))) pa_nil)))))))), ?_⟩
  have leafW : ∀ H1, But1 tp H H1 → Tp H1 tp → (tRet (tCall spLeaf [] E0 (tCons (tVar 0) (tCons tDNewK (tCons (tVar 1) tNil))))) { nx := fun x H' => Q V.non H', rt := Q } [some (.ref tp), some (.ref ar), some (.int n), none] H1 := by
    intro H1 b1 t1
    have w1 := hw.but b1 ht
    refine ⟨_, rfl, fun kv hkv => ⟨_, rfl, ?_⟩⟩
    have s2 := same_new hkv (.dK [])
    refine ⟨tp, .ref kv, ar, xs, rfl, t1.same s2, w1.but (but_same s2) t1, hx, fun a t H3 b3 t3 gd => ?_⟩
    exact q a t H3 ((b1.trans (but_same s2)).trans b3) t3 fun hd => ⟨(gd hd).le (by omega) (by omega), leaf_simple gd⟩
  refine ⟨_, rfl, rfl, _, rfl, ?_⟩
  cases n with
  | zero => exact itT rfl (iteT (leafW H (But1.refl _ _) ht))
  | succ n =>
    have hn0 : n = 0 := by omega
    subst hn0
    refine itF rfl ⟨_, rfl, tp, 3, rfl, ht, by decide, by decide, fun r H1 r0 r1 b1 t1 => ?_⟩
    refine ⟨_, _, rfl, rfl, _, rfl, ?_⟩
    refine ite2 (fun c => leafW H1 b1 t1) (fun c => ?_)
    have w1 := hw.but b1 ht
    refine ⟨_, rfl, _, rfl, _, rfl, _, _, rfl, rfl, tp, ar, xs, rfl, t1, w1, hx, Nat.zero_le _, fun a1 u1 H2 b2 t2 g1 => ?_⟩
    have w2 := w1.but b2 t1
    refine ⟨sz (by show 2 ≤ 100000; decide), fun p3 hp3 => ?_⟩
    have s3 := same_new hp3 (.lst [V.str "plus", .str "less"])
    have np : p3 ≠ tp := by
      obtain ⟨z, hz⟩ := t2
      exact (ne_of_none hz hp3).symm
    have h3 : upd H2 p3 (.lst [V.str "plus", .str "less"]) p3 = some (.lst [V.str "plus", .str "less"]) := upd_same
    have t3 := t2.same s3
    have w3 := w2.but (but_same s3) t2
    refine ⟨_, rfl, tp, 2, rfl, t3, by decide, by decide, fun r4 H4 r40 r41 b4 t4 => ?_⟩
    obtain ⟨v, hv, hm⟩ := at_some (xs := [V.str "plus", .str "less"]) r40 r41
    obtain ⟨h, hh, rfl⟩ : ∃ h : Hd, (h = .plus ∨ h = .less) ∧ v = .str (hs h) := by
      rcases List.mem_cons.mp hm with z | z
      · exact ⟨.plus, .inl rfl, z⟩
      · exact ⟨.less, .inr rfl, List.mem_singleton.mp z⟩
    have w4 := w3.but b4 t3
    refine ⟨p3, _, _, _, rfl, rfl, SqL.of (b4 _ _ np h3), hv, _, rfl, _, rfl, _, rfl, _, rfl, _, _, rfl, rfl, tp, ar, xs, rfl, t4, w4, hx, Nat.zero_le _, fun a2 u2 H5 b5 t5 g2 => ?_⟩
    refine ⟨sz (by show 3 ≤ 100000; decide), fun p6 hp6 => ?_⟩
    have s6 := same_new hp6 (.tup [V.str (hs h), .ref a1, .ref a2])
    have k25 : TK H2 H5 := (tp_tk t2 (but_same s3)).trans ((tp_tk t3 b4).trans (tp_tk t4 b5))
    refine q p6 (mkL h [u1, u2]) _ (((((b1.trans b2).trans (but_same s3)).trans b4).trans b5).trans (but_same s6)) (t5.same s6) fun hd => ?_
    exact two_simple hh ((g1 hd).tk (k25.trans (tk_same s6))) ((g2 hd).tk (tk_same s6)) upd_same
theorem no_sp {k : Nat} {f : Addr} {fd : FuncData} {ps : List Str} : FnOk P w K mg base CX0 k f fd ps (fun _ _ _ _ => False) := ⟨fun _ _ _ _ z => z.elim, fun _ _ _ _ _ _ _ _ _ _ _ _ _ z => z.elim⟩
theorem all_simple (T : Txt K mg) {f fg fh : Addr} {fd gd hd : FuncData} (F : Fun K "_law_simple" "_law_simple" s_law_simple f fd) (G_law_digit : FnOk P w K mg base CX0 1 fg gd ["tape", "many"] spDig) (R_law_digit : Ref K mg "_law_digit" fg gd ["tape", "many"])
    (G_law_leaf : FnOk P w K mg base CX0 3 fh hd ["tape", "known", "around"] spLeaf) (R_law_leaf : Ref K mg "_law_leaf" fh hd ["tape", "known", "around"]) (R_law_simple : Ref K mg "_law_simple" f fd ["tape", "around", "deep"]) : FnOk P w K mg base CX0 5 f fd ["tape", "around", "deep"] (spSimple 1) :=
  ok_simple T 1 F G_law_digit R_law_digit G_law_leaf R_law_leaf (ok_simple T 0 F G_law_digit R_law_digit G_law_leaf R_law_leaf no_sp R_law_simple) R_law_simple
end
end KB

namespace KB
open PySem L2

section
variable {P : Program} {w : World} {K : PySem.W.Frag} {mg : Str → Option Value} {base : Heap}
/-! ### _law_some_hand -/
def spHand : Sp := fun vs H Q _ => ∃ (tp kd wl pl hl : Addr) (hF : Str → Option Nat) (ws js hs : List Str), vs = [.ref tp, .ref kd, .ref hl] ∧ GT H tp kd wl pl hF ws js ∧ Hls H hl hs ∧ hs ≠ [] ∧ hs.length ≤ 1000 ∧ hl ≠ tp ∧
  ∀ j H', But1 tp H H' → Tp H' tp → j ∈ hs → Q (.str j) H'
abbrev s_law_some_hand : Stmt := top 35
theorem scLsome_hand : FnScope ["tape", "known", "hands"] ["tape", "known", "hands"] (defScope s_law_some_hand) := ⟨rfl, rfl, rfl, by decide +kernel, rfl, by decide +kernel, by decide +kernel⟩
theorem ok_hand (T : Txt K mg) {f fg : Addr} {fd gd : FuncData} (F : Fun K "_law_some_hand" "_law_some_hand" s_law_some_hand f fd) (G_law_digit : FnOk P w K mg base CX0 1 fg gd ["tape", "many"] spDig) (R_law_digit : Ref K mg "_law_digit" fg gd ["tape", "many"]) :
    FnOk P w K mg base CX0 2 f fd ["tape", "known", "hands"] spHand := by
  refine F.ok scLsome_hand (fun vs H Q E h => ?_) (fun cdv A outer s H vs Q E hr h => ?_)
  · obtain ⟨tp, kd, wl, pl, hl, hF, ws, js, hs, rfl, _⟩ := h
    rfl
  obtain ⟨tp, kd, wl, pl, hl, hF, ws, js, hs, rfl, g, hh, hne, hlen, hn, q⟩ := h
  refine ⟨_, (pss_cons (ps_if (PW.pt (pw_or (pt_truth (pe_dget (hu_of hr) (pv 1) pe_str (fun _ _ => rfl)) (by intro _; rfl)) (pw_or1 (pt_cmpR op_gt (pe_call G_law_digit (hr.mono (by omega)) rfl R_law_digit.m R_law_digit.k R_law_digit.b .nil pass0 (pa_cons (pv 0) (pa_cons pe_int pa_nil))) pe_int (nomark _))))) (pss_one (ps_ret (pe_ix ix_list (pv 2) (pe_un un_neg pe_int) (fun _ _ => rfl)))) pss_nil)
    (pss_one (ps_ret (pe_ix ix_list (pv 2) (pe_call G_law_digit (hr.mono (by omega)) rfl R_law_digit.m R_law_digit.k R_law_digit.b .nil pass0 (pa_cons (pv 0) (pa_cons (pe_callB call_len_seq (by rfl) T.m_len PySem.boot_len (pa_cons (pv 2) pa_nil)) pa_nil))) (fun _ _ => rfl))))), ?_⟩
  obtain ⟨el, hd, fs, kvs, room, st, k1, _⟩ := g.k
  obtain ⟨r, j, rfl⟩ : ∃ r j, hs = r ++ [j] := ⟨hs.dropLast, hs.getLast hne, (List.dropLast_concat_getLast hne).symm⟩
  have em : (r ++ [j]).map V.str = r.map V.str ++ [V.str j] := by
    rw [List.map_append]
    rfl
  have lastW : ∀ H1, But1 tp H H1 → Tp H1 tp → (tRet (tOp (rIxL K) (tVar 2) (tUn (rU fun i => .int (-i)) (tC (.int 1))))) { nx := fun x H' => Q V.non H', rt := Q } [some (.ref tp), some (.ref kd), some (.ref hl)] H1 := by
    intro H1 b1 t1
    have h1 : H1 hl = some (.lst (r.map V.str ++ [V.str j])) := by
      rw [← em]
      exact b1 _ _ hn hh
    exact ⟨_, rfl, _, rfl, hl, _, _, _, rfl, rfl, SqL.of h1, atI_last _ _, q j H1 b1 t1 (List.mem_append_right _ List.mem_cons_self)⟩
  refine ⟨_, rfl, kd, _, rfl, gt_straight k1, st, rfl, ?_⟩
  cases st with
  | true => exact itT rfl (iteT (lastW H (But1.refl _ _) g.t))
  | false =>
    refine itF rfl ⟨_, rfl, tp, 3, rfl, g.t, by decide, by decide, fun r1 H1 r10 r11 b1 t1 => ?_⟩
    refine ⟨_, _, rfl, rfl, _, rfl, ?_⟩
    refine ite2 (fun c => lastW H1 b1 t1) (fun c => ?_)
    have h1 : H1 hl = some (.lst ((r ++ [j]).map V.str)) := b1 _ _ hn hh
    have el1 : (((r ++ [j]).map V.str).length : Int) = ((r ++ [j]).length : Int) := by rw [List.length_map]
    have pos : 0 < (r ++ [j]).length := by simp
    refine ⟨_, rfl, _, rfl, _, rfl, hl, _, rfl, .inl (SqL.of h1), tp, _, rfl, t1, by rw [el1]; omega, by rw [el1]; omega, fun r2 H2 r20 r21 b2 t2 => ?_⟩
    obtain ⟨v, hv, hm⟩ := at_some r20 r21
    obtain ⟨z, hz, rfl⟩ := List.mem_map.mp hm
    exact ⟨hl, _, _, _, rfl, rfl, SqL.of (b2 _ _ hn h1), hv, q z H2 (b1.trans b2) t2 hz⟩
end
end KB

namespace KB
open PySem L2

theorem GdS.sm {H : Hp} {a : Addr} {hd : Str → Option Nat} {xs : List Str} {t : Tm} (g : GdS H a 3 2 hd xs t) : SmT hd xs t := ⟨g.g.ok, g.s, g.g.sc, g.g.cn, g.g.dp⟩
section
variable {P : Program} {w : World} {K : PySem.W.Frag} {mg : Str → Option Value} {base : Heap}
/-! ### _law_end -/
def spEnd : Sp := fun vs H Q _ => ∃ (tp kd wl pl ar hl : Addr) (hF : Str → Option Nat) (ws js xs hs : List Str), vs = [.ref tp, .ref kd, .ref ar, .ref hl] ∧ GT H tp kd wl pl hF ws js ∧ Wls H ar xs ∧ xs.length ≤ 1000 ∧ Hls H hl hs ∧ hs ≠ [] ∧ hs.length ≤ 1000 ∧ hl ≠ tp ∧
  ∀ a p H', But1 tp H H' → Tp H' tp → PAt H' p a → okP hF p xs hs → pcnt p = 1 → wP p = [] → jP p = [] → Q (.ref a) H'
abbrev s_law_end : Stmt := top 36
theorem scLend : FnScope ["tape", "known", "around", "hands", "f", "hand", "some", "k"] ["tape", "known", "around", "hands"] (defScope s_law_end) := ⟨rfl, rfl, rfl, by decide +kernel, rfl, by decide +kernel, by decide +kernel⟩
theorem ok_end (T : Txt K mg) {f fg fh fl fs : Addr} {fd gd hd ld sd : FuncData} (F : Fun K "_law_end" "_law_end" s_law_end f fd) (G_law_digit : FnOk P w K mg base CX0 1 fg gd ["tape", "many"] spDig) (R_law_digit : Ref K mg "_law_digit" fg gd ["tape", "many"])
    (G_law_some_hand : FnOk P w K mg base CX0 2 fh hd ["tape", "known", "hands"] spHand) (R_law_some_hand : Ref K mg "_law_some_hand" fh hd ["tape", "known", "hands"]) (G_law_less_one : FnOk P w K mg base CX0 1 fl ld ["around"] spLess) (R_law_less_one : Ref K mg "_law_less_one" fl ld ["around"])
    (G_law_simple : FnOk P w K mg base CX0 5 fs sd ["tape", "around", "deep"] (spSimple 1)) (R_law_simple : Ref K mg "_law_simple" fs sd ["tape", "around", "deep"]) : FnOk P w K mg base CX0 6 f fd ["tape", "known", "around", "hands"] spEnd := by
  refine F.ok scLend (fun vs H Q E h => ?_) (fun cdv A outer s H vs Q E hr h => ?_)
  · obtain ⟨tp, kd, wl, pl, ar, hl, hF, ws, js, xs, hs, rfl, _⟩ := h
    rfl
  obtain ⟨tp, kd, wl, pl, ar, hl, hF, ws, js, xs, hs, rfl, g, hw, hx, hh, hne, hhl, hnt, q⟩ := h
  refine ⟨_, (pss_cons (ps_set (i := 4) scLend.nd rfl (Or.inl rfl) (pe_ix ix_list (pe_dget (hu_of hr) (pv 1) pe_str (fun _ _ => rfl)) (pe_call G_law_digit (hr.mono (by omega)) rfl R_law_digit.m R_law_digit.k R_law_digit.b .nil pass0 (pa_cons (pv 0) (pa_cons (pe_callB call_len_seq (by rfl) T.m_len PySem.boot_len (pa_cons (pe_dget (hu_of hr) (pv 1) pe_str (fun _ _ => rfl)) pa_nil)) pa_nil))) (fun _ _ => rfl)))
    (pss_cons (ps_set (i := 5) scLend.nd rfl (Or.inl rfl) (pe_call G_law_some_hand (hr.mono (by omega)) rfl R_law_some_hand.m R_law_some_hand.k R_law_some_hand.b .nil pass0 (pa_cons (pv 0) (pa_cons (pv 1) (pa_cons (pv 3) pa_nil)))))
    (pss_cons (ps_if (pt_cmpR op_eq (pe_call G_law_digit (hr.mono (by omega)) rfl R_law_digit.m R_law_digit.k R_law_digit.b .nil pass0 (pa_cons (pv 0) (pa_cons pe_int pa_nil))) pe_int (nomark _)) (pss_one (ps_ret (pe_tup (pa_cons pe_str (pa_cons (pv 5) (pa_cons (pe_call G_law_simple (hr.mono (by omega)) rfl R_law_simple.m R_law_simple.k R_law_simple.b .nil pass0 (pa_cons (pv 0) (pa_cons (pv 2) (pa_cons pe_int pa_nil)))) pa_nil)))))) pss_nil)
    (pss_cons (ps_set (i := 6) scLend.nd rfl (Or.inl rfl) (pe_lst pa_nil))
    (pss_cons (ps_for PassesOwn.never rfl (pi_range1 rfl T.m_range (pa_cons (pe_dget (hu_of hr) (pe_dget (hu_of hr) (pv 1) pe_str (fun _ _ => rfl)) (pv 4) (fun _ _ => rfl)) pa_nil)) (pg_name (i := 7) scLend.nd rfl (Or.inl rfl)) (pss_one (ps_if (PW.pt (pw_and (pt_cmpR op_eq (pv 7) pe_int (nomark _)) (pw_and1 (pt_cmpR op_gt (pe_call G_law_digit (hr.mono (by omega)) rfl R_law_digit.m R_law_digit.k R_law_digit.b .nil pass0 (pa_cons (pv 0) (pa_cons pe_int pa_nil))) pe_int (nomark _))))) (pss_one (ps_expr (pe_bm PySem.F.plainAttrs_list PySem.F.slot_list_append PySem.F.type_list_append mt_append (pv 6) (pa_cons (pe_call G_law_less_one (hr.mono (by omega)) rfl R_law_less_one.m R_law_less_one.k R_law_less_one.b .nil pass0 (pa_cons (pv 2) pa_nil)) pa_nil)))) (pss_one (ps_expr (pe_bm PySem.F.plainAttrs_list PySem.F.slot_list_append PySem.F.type_list_append mt_append (pv 6) (pa_cons (pe_call G_law_simple (hr.mono (by omega)) rfl R_law_simple.m R_law_simple.k R_law_simple.b .nil pass0 (pa_cons (pv 0) (pa_cons (pv 2) (pa_cons pe_int pa_nil)))) pa_nil)))))))
    (pss_one (ps_ret (pe_tup (pa_cons pe_str (pa_cons (pv 4) (pa_cons (pe_callTy call_tuple_of (by rfl) T.m_tuple (by decide +kernel) (pa_cons (pv 6) pa_nil)) (pa_cons (pv 5) pa_nil)))))))))))), ?_⟩
  obtain ⟨el, hd', fs, kvs, room, st, k1, _, _, _, _, k3, k4, k5, k6, k7⟩ := g.k
  refine ⟨_, rfl, kd, _, rfl, gt_errands k1, _, rfl, _, rfl, kd, _, rfl, gt_errands k1, el, _, rfl, .inl (SqL.of k3.1), tp, _, rfl, g.t, ?_, ?_, fun r H1 r0 r1 b1 t1 => ?_⟩
  · rw [List.length_map]
    omega
  · rw [List.length_map]
    omega
  have g1 := g.one b1 t1
  have k3' := k3.but b1 g.t
  have nkt := (g.ntk k1 (fun _ z => nomatch z)).1
  have nht := (g.ntk k6 (fun _ z => nomatch z)).1
  obtain ⟨v, hv, hm⟩ := at_some r0 r1
  obtain ⟨fn, hfn, rfl⟩ := List.mem_map.mp hm
  obtain ⟨many, hmany, m0, m4, mF⟩ := k7 fn hfn
  have hwfn := k3.2 fn hfn
  refine ⟨el, _, _, _, rfl, rfl, SqL.of k3'.1, hv, ?_⟩
  -- the hand
  refine ⟨_, rfl, _, rfl, _, rfl, tp, kd, wl, pl, hl, hF, ws, js, hs, rfl, g1, b1 _ _ hnt hh, hne, hhl, hnt, fun j H2 b2 t2 hj => ?_⟩
  have b12 := b1.trans b2
  refine ⟨_, rfl, tp, 2, rfl, t2, by decide, by decide, fun r3 H3 r30 r31 b3 t3 => ⟨rfl, _, rfl, ?_⟩⟩
  have b13 := b12.trans b3
  have w3 := hw.but b13 g.t
  refine ite2 (fun c => ?_) (fun c => ?_)
  · -- a give
    refine ⟨_, rfl, _, rfl, _, rfl, tp, ar, xs, rfl, t3, w3, hx, Nat.le_refl _, fun a t H4 b4 t4 gs => ⟨sz (by show 3 ≤ 100000; decide), fun p5 hp5 => ?_⟩⟩
    have s5 := same_new hp5 (.tup [V.str "give", .str j, .ref a])
    exact q p5 (.give j t) _ ((b13.trans b4).trans (but_same s5)) (t4.same s5) ⟨a, upd_same, (gs hF).g.at_.mono s5⟩ ⟨hj, (gs hF).sm⟩ rfl rfl rfl
  · -- an ask
    refine ⟨sz (by show 0 ≤ 100000; decide), fun sl hsl => ?_⟩
    have s4 := same_new hsl (.lst [])
    have nst : sl ≠ tp := by
      obtain ⟨z, hz⟩ := t3
      exact (ne_of_none hz hsl).symm
    have b14 := b13.trans (but_same s4)
    have t4 := t3.same s4
    have h4 : upd H3 sl (.lst []) sl = some (.lst []) := upd_same
    have frS : H3 sl = none := hsl
    have w4 := w3.but (but_same s4) t3
    have sH4 : Same H3 (upd H3 sl (.lst [])) := s4
    generalize upd H3 sl (.lst []) = H4 at b14 t4 h4 w4 sH4 ⊢
    have nsar : ar ≠ sl := ne_of_none w3.1 frS
    refine ⟨_, rfl, kd, _, rfl, gt_heads (b14 _ _ nkt k1), _, rfl, hd', _, rfl, get_of (b14 _ _ nht k6) hmany, _, rfl, by omega, by omega, ?_⟩
    refine for_range (lo := 0) (n := many.toNat) (fun i σ H' => ∃ o7 vs ts, σ = [some (.ref tp), some (.ref kd), some (.ref ar), some (.ref hl), some (.str fn), some (.str j), some (.ref sl), o7] ∧ (∀ b o, b ≠ tp → b ≠ sl → H4 b = some o → H' b = some o) ∧ Tp H' tp ∧
      H' sl = some (.lst vs) ∧ All2 (RefV H') ts vs ∧ ts.length = i ∧ ∀ t ∈ ts, SmT hF xs t) ⟨_, [], [], rfl, fun _ _ _ _ z => z, t4, h4, trivial, rfl, fun _ z => nomatch z⟩ ?_ ?_
    · rintro i σ H5 hi ⟨o7, vs, ts, rfl, b5, t5, h5, k5s, hlen, hts⟩
      have w5 : Wls H5 ar xs := ⟨b5 _ _ (wls_tp w4.1 t4) nsar w4.1, w4.2⟩
      have hvl := k5s.len
      have put : ∀ (a : Addr) (t : Tm) (H6 : Hp), But1 tp H5 H6 → Tp H6 tp → At H6 t a → SmT hF xs t →
          ∃ l zs y, V.ref sl = .ref l ∧ [V.ref a] = [y] ∧ H6 l = some (.lst zs) ∧ zs.length < sizeLine ∧ ∃ o7 vs ts, ([some (.ref tp), some (.ref kd), some (.ref ar), some (.ref hl), some (.str fn), some (.str j), some (.ref sl), some (.int (0 + (i : Nat)))] : St) = [some (.ref tp), some (.ref kd), some (.ref ar), some (.ref hl), some (.str fn), some (.str j), some (.ref sl), o7] ∧
            (∀ b o, b ≠ tp → b ≠ sl → H4 b = some o → upd H6 l (.lst (zs ++ [y])) b = some o) ∧ Tp (upd H6 l (.lst (zs ++ [y]))) tp ∧ upd H6 l (.lst (zs ++ [y])) sl = some (.lst vs) ∧ All2 (RefV (upd H6 l (.lst (zs ++ [y])))) ts vs ∧ ts.length = i + 1 ∧ ∀ t ∈ ts, SmT hF xs t := by
        intro a t H6 b6 t6 at6 sm
        have h6 := b6 _ _ nst h5
        have tk6 := b6.tk t5
        have tkp : TK H6 (upd H6 sl (.lst (vs ++ [V.ref a]))) := tk_put h6
        refine ⟨sl, vs, .ref a, rfl, rfl, h6, Nat.lt_of_le_of_lt (m := 1000) (by omega) (by decide), _, vs ++ [.ref a], ts ++ [t], rfl, fun b o n1 n2 hb => ?_, ?_, upd_same, ?_, ?_, fun u hu => ?_⟩
        · rw [upd_ne n2]
          exact b6 _ _ n1 (b5 _ _ n1 n2 hb)
        · obtain ⟨z, hz⟩ := t6
          exact ⟨z, by rw [upd_ne nst.symm]; exact hz⟩
        · exact All2.app (k5s.imp fun _ _ z => (z.tk tk6).tk tkp) ⟨⟨a, rfl, at6.tk tkp⟩, trivial⟩
        · rw [List.length_append, hlen]
          rfl
        · rcases List.mem_append.mp hu with z | z
          · exact hts u z
          · rw [List.mem_singleton.mp z]
            exact sm
      refine ⟨_, rfl, rfl, _, rfl, ?_⟩
      by_cases c0 : V.int (0 + (i : Nat)) = V.int 0
      · refine itT (decide_eq_true c0) ⟨_, rfl, tp, 4, rfl, t5, by decide, by decide, fun r6 H6 r60 r61 b6 t6 => ?_⟩
        have h6 := b6 _ _ nst h5
        have w6 := w5.but b6 t5
        refine ⟨_, _, rfl, rfl, _, rfl, ?_⟩
        refine ite2 (fun c2 => ?_) (fun c2 => ?_)
        · refine ⟨_, rfl, .inl ⟨rfl, _, SqL.of h6⟩, _, rfl, ar, xs, rfl, w6, fun a t H7 s7 gd smp => ?_⟩
          exact put a t H7 (b6.trans (but_same s7)) (t6.same s7) (gd hF).at_ ⟨(gd hF).ok, smp, (gd hF).sc, (gd hF).cn, (gd hF).dp⟩
        · exact ⟨_, rfl, .inl ⟨rfl, _, SqL.of h6⟩, _, rfl, _, rfl, tp, ar, xs, rfl, t6, w6, hx, Nat.le_refl _, fun a t H7 b7 t7 gs => put a t H7 (b6.trans b7) t7 (gs hF).g.at_ (gs hF).sm⟩
      · refine itF (decide_eq_false c0) (iteF ?_)
        exact ⟨_, rfl, .inl ⟨rfl, _, SqL.of h5⟩, _, rfl, _, rfl, tp, ar, xs, rfl, t5, w5, hx, Nat.le_refl _, fun a t H7 b7 t7 gs => put a t H7 b7 t7 (gs hF).g.at_ (gs hF).sm⟩
    · rintro σ H5 ⟨o7, vs, ts, rfl, b5, t5, h5, k5s, hlen, hts⟩
      refine ⟨_, rfl, _, rfl, sl, _, rfl, .inl ⟨SqL.of h5, fun p6 hp6 => ⟨_, rfl, sz (by show 4 ≤ 100000; decide), fun p7 hp7 => ?_⟩⟩⟩
      have s6 := same_new hp6 (.tup vs)
      have s7 := same_new hp7 (.tup [V.str "ask", .str fn, .ref p6, .str j])
      have bE : But1 tp H (upd (upd H5 p6 (.tup vs)) p7 (.tup [V.str "ask", .str fn, .ref p6, .str j])) := fun b o nb hb => by
        have h3 := b13 b o nb hb
        exact s7 _ _ (s6 _ _ (b5 b o nb (ne_of_none h3 frS) (sH4 _ _ h3)))
      have hF4 : hF fn = some ts.length := by rw [mF, hlen]
      refine q p7 (.ask fn ts j) _ bE ((t5.same s6).same s7) ⟨p6, vs, upd_same, s7 _ _ upd_same, k5s.imp fun _ _ z => z.tk (tk_same (s6.trans s7))⟩ ⟨hj, hwfn, hF4, by omega, hts⟩ rfl rfl rfl
end
end KB

namespace KB
open PySem L2

theorem lastV {xs : List V} {y : V} : (xs ++ [y])[(xs ++ [y]).length - 1]? = some y := by
  rw [List.length_append, List.length_singleton, Nat.add_sub_cancel, List.getElem?_append_right (Nat.le_refl _), Nat.sub_self]
  rfl
theorem dropV {xs : List V} {y : V} : (xs ++ [y]).dropLast = xs := List.dropLast_concat
theorem GT.popW {H : Hp} {tp kd wl pl : Addr} {hF : Str → Option Nat} {ws js : List Str} {x : Str} (g : GT H tp kd wl pl hF (ws ++ [x]) js) : GT (upd H wl (.lst (ws.map V.str))) tp kd wl pl hF ws js ∧ But3 tp wl pl H (upd H wl (.lst (ws.map V.str))) := by
  have b : But3 tp wl pl H (upd H wl (.lst (ws.map V.str))) := fun b o _ n _ h => by rw [upd_ne n]; exact h
  have hn := wls_tp g.w.1 g.t
  obtain ⟨z, hz⟩ := g.t
  have wn := g.wn
  rw [List.length_append] at wn
  exact ⟨g.step b ⟨z, by rw [upd_ne hn.symm]; exact hz⟩ ⟨upd_same, fun y hy => g.w.2 y (List.mem_append_left _ hy)⟩ ⟨by rw [upd_ne g.wp.symm]; exact g.p.1, g.p.2⟩ (by omega) g.pn, b⟩
theorem GT.popP {H : Hp} {tp kd wl pl : Addr} {hF : Str → Option Nat} {ws js : List Str} {x : Str} (g : GT H tp kd wl pl hF ws (js ++ [x])) : GT (upd H pl (.lst (js.map V.str))) tp kd wl pl hF ws js ∧ But3 tp wl pl H (upd H pl (.lst (js.map V.str))) := by
  have b : But3 tp wl pl H (upd H pl (.lst (js.map V.str))) := fun b o _ _ n h => by rw [upd_ne n]; exact h
  have hn := wls_tp g.p.1 g.t
  obtain ⟨z, hz⟩ := g.t
  have pn := g.pn
  rw [List.length_append] at pn
  exact ⟨g.step b ⟨z, by rw [upd_ne hn.symm]; exact hz⟩ ⟨by rw [upd_ne g.wp]; exact g.w.1, g.w.2⟩ ⟨upd_same, fun y hy => g.p.2 y (List.mem_append_left _ hy)⟩ g.wn (by omega), b⟩
theorem snoc_of {ws : List Str} (h : ws ≠ []) : ∃ r x, ws = r ++ [x] := ⟨ws.dropLast, ws.getLast h, (List.dropLast_concat_getLast h).symm⟩
theorem mapS {ws : List Str} {x : Str} : (ws ++ [x]).map V.str = ws.map V.str ++ [V.str x] := by
  rw [List.map_append]
  rfl
section
variable {P : Program} {w : World} {K : PySem.W.Frag} {mg : Str → Option Value} {base : Heap}
/-! ### _law_part -/
/-- what stands around a part that is to be drawn -/
structure PtIn (H : Hp) (tp kd wl pl ar hl : Addr) (hF : Str → Option Nat) (ws js xs hs : List Str) : Prop where
  g : GT H tp kd wl pl hF ws js
  w : Wls H ar xs
  a1 : ar ≠ wl
  a2 : ar ≠ pl
  h : Hls H hl hs
  h0 : hl ≠ tp
  h1 : hl ≠ wl
  h2 : hl ≠ pl
  ne : hs ≠ []
  wj : ws.length ≤ js.length
  l1 : xs.length + ws.length ≤ 200
  l2 : hs.length + js.length ≤ 200
/-- what is told of a part that was drawn -/
structure PtOut (H H' : Hp) (tp kd wl pl : Addr) (hF : Str → Option Nat) (ws js xs hs : List Str) (n : Nat) (a : Addr) (p : Pt) (ws' js' ls ms : List Str) : Prop where
  b : But3 tp wl pl H H'
  g : GT H' tp kd wl pl hF ws' js'
  wj : ws'.length ≤ js'.length
  e1 : ws = ws' ++ ls.reverse
  e2 : js = js' ++ ms.reverse
  at_ : PAt H' p a
  ok : okP hF p xs hs
  cn : pcnt p ≤ n
  s1 : (wP p).Sublist ls
  s2 : (jP p).Sublist ms
def spPart (n : Nat) : Sp := fun vs H Q _ => ∃ (tp kd wl pl ar hl : Addr) (hF : Str → Option Nat) (ws js xs hs : List Str) (room deep : Int), vs = [.ref tp, .ref kd, .ref ar, .ref hl, .int room, .int deep] ∧ PtIn H tp kd wl pl ar hl hF ws js xs hs ∧ 1 ≤ room ∧ room ≤ 1000 ∧ 0 ≤ deep ∧ deep ≤ n ∧
  ∀ a p H' ws' js' ls ms, PtOut H H' tp kd wl pl hF ws js xs hs room.toNat a p ws' js' ls ms → Q (.ref a) H'
def spPtPrev : Nat → Sp
  | 0 => fun _ _ _ _ => False
  | n + 1 => spPart n
theorem PtIn.step {H H' : Hp} {tp kd wl pl ar hl : Addr} {hF : Str → Option Nat} {ws js ws' js' xs hs : List Str} (I : PtIn H tp kd wl pl ar hl hF ws js xs hs) (b : But3 tp wl pl H H') (g : GT H' tp kd wl pl hF ws' js') (wj : ws'.length ≤ js'.length) (l1 : ws'.length ≤ ws.length) (l2 : js'.length ≤ js.length) : PtIn H' tp kd wl pl ar hl hF ws' js' xs hs := by
  have h1 := I.l1
  have h2 := I.l2
  exact ⟨g, I.w.three b I.g I.a1 I.a2, I.a1, I.a2, b _ _ I.h0 I.h1 I.h2 I.h, I.h0, I.h1, I.h2, I.ne, wj, by omega, by omega⟩
theorem PtIn.one {H H' : Hp} {tp kd wl pl ar hl : Addr} {hF : Str → Option Nat} {ws js xs hs : List Str} (I : PtIn H tp kd wl pl ar hl hF ws js xs hs) (b : But1 tp H H') (t : Tp H' tp) : PtIn H' tp kd wl pl ar hl hF ws js xs hs := I.step b.three (I.g.one b t) I.wj (Nat.le_refl _) (Nat.le_refl _)
theorem PtIn.same {H H' : Hp} {tp kd wl pl ar hl : Addr} {hF : Str → Option Nat} {ws js xs hs : List Str} (I : PtIn H tp kd wl pl ar hl hF ws js xs hs) (s : Same H H') : PtIn H' tp kd wl pl ar hl hF ws js xs hs := I.one (but_same s) (I.g.t.same s)
abbrev s_law_part : Stmt := top 37
theorem scLpart : FnScope ["tape", "known", "around", "hands", "room", "deep", "word", "choice", "shares", "one", "x", "j", "term"] ["tape", "known", "around", "hands", "room", "deep"] (defScope s_law_part) := ⟨rfl, rfl, rfl, by decide +kernel, rfl, by decide +kernel, by decide +kernel⟩
theorem ok_part (T : Txt K mg) (n : Nat) {f fg fh fe fs fq : Addr} {fd gd hd ed sd qd : FuncData} (F : Fun K "_law_part" "_law_part" s_law_part f fd) (G_law_digit : FnOk P w K mg base CX0 1 fg gd ["tape", "many"] spDig) (R_law_digit : Ref K mg "_law_digit" fg gd ["tape", "many"])
    (G_law_some_hand : FnOk P w K mg base CX0 2 fh hd ["tape", "known", "hands"] spHand) (R_law_some_hand : Ref K mg "_law_some_hand" fh hd ["tape", "known", "hands"]) (G_law_end : FnOk P w K mg base CX0 6 fe ed ["tape", "known", "around", "hands"] spEnd) (R_law_end : Ref K mg "_law_end" fe ed ["tape", "known", "around", "hands"])
    (G_law_simple : FnOk P w K mg base CX0 5 fs sd ["tape", "around", "deep"] (spSimple 1)) (R_law_simple : Ref K mg "_law_simple" fs sd ["tape", "around", "deep"]) (G_law_shares : FnOk P w K mg base CX0 2 fq qd ["tape", "room", "many"] spShr) (R_law_shares : Ref K mg "_law_shares" fq qd ["tape", "room", "many"])
    (G_law_part : FnOk P w K mg base CX0 (n + 6) f fd ["tape", "known", "around", "hands", "room", "deep"] (spPtPrev n)) (R_law_part : Ref K mg "_law_part" f fd ["tape", "known", "around", "hands", "room", "deep"]) : FnOk P w K mg base CX0 (n + 7) f fd ["tape", "known", "around", "hands", "room", "deep"] (spPart n) := by
  refine F.ok scLpart (fun vs H Q E h => ?_) (fun cdv A outer s H vs Q E hr h => ?_)
  · obtain ⟨tp, kd, wl, pl, ar, hl, hF, ws, js, xs, hs, room, deep, rfl, _⟩ := h
    rfl
  obtain ⟨tp, kd, wl, pl, ar, hl, hF, ws, js, xs, hs, room, deep, rfl, I, hr1, hr2, hd1, hd2, q⟩ := h
  refine ⟨_, (pss_cons (ps_if (PW.pt (pw_or (pt_cmpR op_lt (pv 4) pe_int (nomark _)) (pw_or1 (pt_cmpR op_eq (pv 5) pe_int (nomark _))))) (pss_one (ps_ret (pe_call G_law_end (hr.mono (by omega)) rfl R_law_end.m R_law_end.k R_law_end.b .nil pass0 (pa_cons (pv 0) (pa_cons (pv 1) (pa_cons (pv 2) (pa_cons (pv 3) pa_nil))))))) pss_nil)
    (pss_cons (ps_set (i := 6) scLpart.nd rfl (Or.inl rfl) (pe_ix ix_list (pe_lst (pa_cons pe_str (pa_cons pe_str (pa_cons pe_str (pa_cons pe_str (pa_cons pe_str (pa_cons pe_str (pa_cons pe_str (pa_cons pe_str pa_nil))))))))) (pe_call G_law_digit (hr.mono (by omega)) rfl R_law_digit.m R_law_digit.k R_law_digit.b .nil pass0 (pa_cons (pv 0) (pa_cons pe_int pa_nil))) (fun _ _ => rfl)))
    (pss_cons (ps_if (pt_cmpR op_eq (pv 6) pe_str (nomark _)) (pss_cons (ps_set (i := 7) scLpart.nd rfl (Or.inl rfl) (pe_call G_law_simple (hr.mono (by omega)) rfl R_law_simple.m R_law_simple.k R_law_simple.b .nil pass0 (pa_cons (pv 0) (pa_cons (pv 2) (pa_cons pe_int pa_nil)))))
    (pss_cons (ps_set (i := 8) scLpart.nd rfl (Or.inl rfl) (pe_call G_law_shares (hr.mono (by omega)) rfl R_law_shares.m R_law_shares.k R_law_shares.b .nil pass0 (pa_cons (pv 0) (pa_cons (pe_op op_sub (pv 4) pe_int) (pa_cons pe_int pa_nil)))))
    (pss_cons (ps_set (i := 9) scLpart.nd rfl (Or.inl rfl) (pe_call G_law_part (hr.mono (by omega)) rfl R_law_part.m R_law_part.k R_law_part.b .nil pass0 (pa_cons (pv 0) (pa_cons (pv 1) (pa_cons (pv 2) (pa_cons (pv 3) (pa_cons (pe_ix ix_list (pv 8) pe_int (fun _ _ => rfl)) (pa_cons (pe_op op_sub (pv 5) pe_int) pa_nil))))))))
    (pss_one (ps_ret (pe_tup (pa_cons pe_str (pa_cons (pv 7) (pa_cons (pv 9) (pa_cons (pe_call G_law_part (hr.mono (by omega)) rfl R_law_part.m R_law_part.k R_law_part.b .nil pass0 (pa_cons (pv 0) (pa_cons (pv 1) (pa_cons (pv 2) (pa_cons (pv 3) (pa_cons (pe_ix ix_list (pv 8) pe_int (fun _ _ => rfl)) (pa_cons (pe_op op_sub (pv 5) pe_int) pa_nil))))))) pa_nil)))))))))) pss_nil)
    (pss_cons (ps_if (pt_cmpR (op_eqD hr.units) (pe_dget (hu_of hr) (pv 1) pe_str (fun _ _ => rfl)) (pe_lst pa_nil) (nomark _)) (pss_one (ps_ret (pe_call G_law_end (hr.mono (by omega)) rfl R_law_end.m R_law_end.k R_law_end.b .nil pass0 (pa_cons (pv 0) (pa_cons (pv 1) (pa_cons (pv 2) (pa_cons (pv 3) pa_nil))))))) pss_nil)
    (pss_cons (ps_set (i := 10) scLpart.nd rfl (Or.inl rfl) (pe_bm0 PySem.F.plainAttrs_list PySem.F.slot_list_pop PySem.F.type_list_pop mt_pop (pe_dget (hu_of hr) (pv 1) pe_str (fun _ _ => rfl))))
    (pss_cons (ps_if (pt_cmpR op_eq (pv 6) pe_str (nomark _)) (pss_cons (ps_set (i := 11) scLpart.nd rfl (Or.inl rfl) (pe_bm0 PySem.F.plainAttrs_list PySem.F.slot_list_pop PySem.F.type_list_pop mt_pop (pe_dget (hu_of hr) (pv 1) pe_str (fun _ _ => rfl))))
    (pss_cons (ps_set (i := 8) scLpart.nd rfl (Or.inl rfl) (pe_call G_law_shares (hr.mono (by omega)) rfl R_law_shares.m R_law_shares.k R_law_shares.b .nil pass0 (pa_cons (pv 0) (pa_cons (pe_op op_sub (pv 4) pe_int) (pa_cons pe_int pa_nil)))))
    (pss_cons (ps_set (i := 9) scLpart.nd rfl (Or.inl rfl) (pe_call G_law_part (hr.mono (by omega)) rfl R_law_part.m R_law_part.k R_law_part.b .nil pass0 (pa_cons (pv 0) (pa_cons (pv 1) (pa_cons (pe_op op_cat (pv 2) (pe_lst (pa_cons (pv 10) pa_nil))) (pa_cons (pv 3) (pa_cons (pe_ix ix_list (pv 8) pe_int (fun _ _ => rfl)) (pa_cons (pe_op op_sub (pv 5) pe_int) pa_nil))))))))
    (Evl.pss_cut (ps_if (pt_cmpR op_eq (pe_call G_law_digit (hr.mono (by omega)) rfl R_law_digit.m R_law_digit.k R_law_digit.b .nil pass0 (pa_cons (pv 0) (pa_cons pe_int pa_nil))) pe_int (nomark _)) (pss_one (ps_set (i := 9) scLpart.nd rfl (Or.inl rfl) (pe_tup (pa_cons pe_str (pa_cons (pe_call G_law_some_hand (hr.mono (by omega)) rfl R_law_some_hand.m R_law_some_hand.k R_law_some_hand.b .nil pass0 (pa_cons (pv 0) (pa_cons (pv 1) (pa_cons (pv 3) pa_nil)))) (pa_cons (pe_tup (pa_cons pe_str (pa_cons (pv 10) pa_nil))) pa_nil)))))) pss_nil)
    (pss_one (ps_ret (pe_tup (pa_cons pe_str (pa_cons (pv 11) (pa_cons (pv 10) (pa_cons (pv 9) (pa_cons (pe_call G_law_part (hr.mono (by omega)) rfl R_law_part.m R_law_part.k R_law_part.b .nil pass0 (pa_cons (pv 0) (pa_cons (pv 1) (pa_cons (pv 2) (pa_cons (pe_op op_cat (pv 3) (pe_lst (pa_cons (pv 11) pa_nil))) (pa_cons (pe_ix ix_list (pv 8) pe_int (fun _ _ => rfl)) (pa_cons (pe_op op_sub (pv 5) pe_int) pa_nil))))))) pa_nil)))))))))))) pss_nil)
    (pss_cons (ps_set (i := 12) scLpart.nd rfl (Or.inl rfl) (pe_call G_law_simple (hr.mono (by omega)) rfl R_law_simple.m R_law_simple.k R_law_simple.b .nil pass0 (pa_cons (pv 0) (pa_cons (pv 2) (pa_cons pe_int pa_nil)))))
    (pss_one (ps_ret (pe_tup (pa_cons (pv 6) (pa_cons (pv 10) (pa_cons (pv 12) (pa_cons (pe_call G_law_part (hr.mono (by omega)) rfl R_law_part.m R_law_part.k R_law_part.b .nil pass0 (pa_cons (pv 0) (pa_cons (pv 1) (pa_cons (pe_op op_cat (pv 2) (pe_lst (pa_cons (pv 10) pa_nil))) (pa_cons (pv 3) (pa_cons (pe_op op_sub (pv 4) pe_int) (pa_cons (pe_op op_sub (pv 5) pe_int) pa_nil))))))) pa_nil)))))))))))))), ?_⟩
  have l1 := I.l1
  have l2 := I.l2
  have endW : ∀ (H1 : Hp) (s6 : Option V), But3 tp wl pl H H1 → PtIn H1 tp kd wl pl ar hl hF ws js xs hs → (tRet (tCall spEnd [] E0 (tCons (tVar 0) (tCons (tVar 1) (tCons (tVar 2) (tCons (tVar 3) tNil)))))) { nx := fun x H' => Q V.non H', rt := Q }
      [some (.ref tp), some (.ref kd), some (.ref ar), some (.ref hl), some (.int room), some (.int deep), s6, none, none, none, none, none, none] H1 := by
    intro H1 s6 b1 I1
    refine ⟨_, rfl, _, rfl, _, rfl, _, rfl, tp, kd, wl, pl, ar, hl, hF, ws, js, xs, hs, rfl, I1.g, I1.w, by omega, I1.h, I1.ne, by omega, I1.h0, fun a p H2 b2 t2 pa ok c1 c2 c3 => ?_⟩
    exact q a p H2 ws js [] [] ⟨b1.trans b2.three, I1.g.one b2 t2, I1.wj, (List.append_nil ws).symm, (List.append_nil js).symm, pa, ok, by omega, by rw [c2]; exact .slnil, by rw [c3]; exact .slnil⟩
  refine ⟨_, rfl, _, _, rfl, rfl, _, rfl, ?_⟩
  refine ite2 (fun c => iteT (endW H none (But3.refl _ _ _ _) I)) (fun c => ?_)
  have hroom : 3 ≤ room := by
    have : ¬ room < 3 := fun z => c (decide_eq_true z)
    omega
  refine ⟨_, rfl, rfl, _, rfl, ?_⟩
  refine ite2 (fun c2 => endW H none (But3.refl _ _ _ _) I) (fun c2 => ?_)
  have hdeep : deep ≠ 0 := fun z => c2 (decide_eq_true (by rw [z]))
  cases n with
  | zero => exact absurd (by omega : deep = 0) hdeep
  | succ n =>
  refine ⟨sz (by show 8 ≤ 100000; decide), fun p1 hp1 => ?_⟩
  have s1 := same_new hp1 (.lst [V.str "tell", .str "let", .str "if", .str "if", .str "post", .str "post", .str "post", .str "post"])
  have I1 := I.same s1
  have n1 := (I.g.new hp1).1
  refine ⟨_, rfl, tp, 8, rfl, I1.g.t, by decide, by decide, fun r H2 r0 r1 b2 t2 => ?_⟩
  obtain ⟨v, hv, hm⟩ := at_some (xs := [V.str "tell", .str "let", .str "if", .str "if", .str "post", .str "post", .str "post", .str "post"]) r0 r1
  have I2 := I1.one b2 t2
  have B2 : But3 tp wl pl H H2 := (but3_same s1).trans b2.three
  refine ⟨p1, _, _, _, rfl, rfl, SqL.of (b2 _ _ n1 upd_same), hv, ?_⟩
  have hcase : v = .str "if" ∨ v = .str "post" ∨ v = .str "tell" ∨ v = .str "let" := by
    simp only [List.mem_cons, List.not_mem_nil, or_false] at hm
    rcases hm with z | z | z | z | z | z | z | z
    · exact .inr (.inr (.inl z))
    · exact .inr (.inr (.inr z))
    · exact .inl z
    · exact .inl z
    · exact .inr (.inl z)
    · exact .inr (.inl z)
    · exact .inr (.inl z)
    · exact .inr (.inl z)
  rcases hcase with rfl | rest
  · -- if
    refine ⟨_, rfl, rfl, _, rfl, itT rfl ?_⟩
    refine ⟨_, rfl, _, rfl, tp, ar, xs, rfl, I2.g.t, I2.w, by omega, Nat.le_refl _, fun a3 u3 H3 b3 t3 gs => ?_⟩
    have I3 := I2.one b3 t3
    refine ⟨_, rfl, _, rfl, _, _, rfl, rfl, tp, room - 1, 2, rfl, t3, by decide, by omega, by omega, fun sp ss H4 b4 t4 fr4 h4 hl4 pos4 sum4 => ?_⟩
    have I4 := I3.one b4 t4
    obtain ⟨y0, y1, rfl⟩ : ∃ y0 y1, ss = [y0, y1] := by
      match ss, hl4 with
      | [y0, y1], _ => exact ⟨y0, y1, rfl⟩
      | [], z => cases z
      | [_], z => cases z
      | _ :: _ :: _ :: _, z => simp at z; omega
    have py0 := pos4 y0 List.mem_cons_self
    have py1 := pos4 y1 (List.mem_cons_of_mem _ List.mem_cons_self)
    have sy : y0 + y1 ≤ room - 1 := by
      have : y0 + (y1 + 0) ≤ room - 1 := sum4
      omega
    have ns := I3.g.new fr4
    refine ⟨_, rfl, _, rfl, _, rfl, _, rfl, _, rfl, sp, _, _, _, rfl, rfl, SqL.of h4, at0, _, rfl, _, _, rfl, rfl, tp, kd, wl, pl, ar, hl, hF, ws, js, xs, hs, y0, deep - 1, rfl, I4, py0, by omega, by omega, by omega, fun a5 q5 H5 ws5 js5 ls5 ms5 O5 => ?_⟩
    have le1 : ws5.length ≤ ws.length := by
      rw [O5.e1, List.length_append]
      omega
    have le2 : js5.length ≤ js.length := by
      rw [O5.e2, List.length_append]
      omega
    have I5 := I4.step O5.b O5.g O5.wj le1 le2
    have h5 := O5.b _ _ ns.1 ns.2.1 ns.2.2 h4
    refine ⟨_, rfl, _, rfl, _, rfl, _, rfl, _, rfl, _, rfl, _, rfl, sp, _, _, _, rfl, rfl, SqL.of h5, at1, _, rfl, _, _, rfl, rfl, tp, kd, wl, pl, ar, hl, hF, ws5, js5, xs, hs, y1, deep - 1, rfl, I5, py1, by omega, by omega, by omega, fun a6 q6 H6 ws6 js6 ls6 ms6 O6 => ?_⟩
    refine ⟨sz (by show 4 ≤ 100000; decide), fun p7 hp7 => ?_⟩
    have s7 := same_new hp7 (.tup [V.str "if", .ref a3, .ref a5, .ref a6])
    have b34 : But3 tp wl pl H3 H6 := (b4.three.trans O5.b).trans O6.b
    have k36 : TK H3 H6 := I3.g.tk b34
    have k56 : TK H5 H6 := I5.g.tk O6.b
    have B6 : But3 tp wl pl H H6 := (B2.trans b3.three).trans b34
    refine q p7 (.iff u3 q5 q6) _ ws6 js6 (ls5 ++ ls6) (ms5 ++ ms6) ⟨B6.trans (but3_same s7), O6.g.same s7, O6.wj, ?_, ?_, ⟨a3, a5, a6, upd_same, ((gs hF).g.at_.tk k36).mono s7, (O5.at_.tk k56).tk (tk_same s7), O6.at_.tk (tk_same s7)⟩, ⟨(gs hF).sm, O5.ok, O6.ok⟩, ?_, O5.s1.append O6.s1, O5.s2.append O6.s2⟩
    · rw [List.reverse_append, ← List.append_assoc, ← O6.e1]
      exact O5.e1
    · rw [List.reverse_append, ← List.append_assoc, ← O6.e2]
      exact O5.e2
    · have c5 := O5.cn
      have c6 := O6.cn
      show 1 + pcnt q5 + pcnt q6 ≤ room.toNat
      omega
  obtain ⟨wd, rfl, hwd⟩ : ∃ wd : Str, v = .str wd ∧ (wd = "post" ∨ wd = "tell" ∨ wd = "let") := by
    rcases rest with z | z | z
    · exact ⟨_, z, .inl rfl⟩
    · exact ⟨_, z, .inr (.inl rfl)⟩
    · exact ⟨_, z, .inr (.inr rfl)⟩
  have hnif : decide (V.str wd = V.str (Str.ofString "if")) = false := by
    rcases hwd with rfl | rfl | rfl <;> rfl
  refine ⟨_, rfl, rfl, _, rfl, itF hnif ?_⟩
  clear rest hv hm
  obtain ⟨el, hd', fs', kvs, rm, st, k2, _⟩ := I2.g.k
  refine ⟨_, rfl, kd, _, rfl, gt_words k2, sz (by show 0 ≤ 100000; decide), fun p0 hp0 => ?_⟩
  have s3 := same_new hp0 (.lst [])
  refine ⟨.list (ws.map PyData.str), .list [], .lst (SqL.of (s3 _ _ I2.g.w.1)) (dp_strs ws), .lst (SqL.of upd_same) .nil, shaped_strs I2.g.w.2, rfl, _, rfl, ?_⟩
  rw [eqv_nil]
  have I3 := I2.same s3
  have B3 := B2.trans (but3_same (tp := tp) (wl := wl) (pl := pl) s3)
  have k3 := s3 _ _ k2
  generalize upd H2 p0 (.lst []) = H3 at I3 B3 k3 ⊢
  by_cases hws : ws = []
  · exact itT (by rw [hws]; rfl) (endW H3 _ B3 I3)
  refine itF (by cases ws with | nil => exact absurd rfl hws | cons _ _ => rfl) ?_
  obtain ⟨wsx, x, rfl⟩ := snoc_of hws
  have hxW : isW x = true := I.g.w.2 x (List.mem_append_right _ List.mem_cons_self)
  have gw := I3.g.w.1
  rw [mapS] at gw
  refine ⟨_, rfl, kd, _, rfl, gt_words k3, .inl ⟨rfl, _, SqL.of gw⟩, wl, _, _, rfl, rfl, gw, lastV, ?_⟩
  rw [dropV]
  obtain ⟨g4, b4⟩ := I3.g.popW
  have wj := I.wj
  rw [List.length_append] at wj
  have wj : wsx.length + 1 ≤ js.length := wj
  have lx : (wsx ++ [x]).length = wsx.length + 1 := by rw [List.length_append]; rfl
  have I4 := I3.step b4 g4 (by omega) (by omega) (Nat.le_refl _)
  have B4 := B3.trans b4
  have k4 : (upd H3 wl (.lst (wsx.map V.str))) kd = some (.dK (knT el hd' wl pl rm st)) := by
    obtain ⟨n1, n2, n3⟩ := I3.g.ntk k3 (fun _ z => nomatch z)
    exact b4 _ _ n1 n2 n3 k3
  generalize upd H3 wl (.lst (wsx.map V.str)) = H4 at g4 b4 I4 B4 k4 ⊢
  -- what is around with one word more
  have moreW : ∀ {H5 : Hp} {ws5 js5 : List Str} (I5 : PtIn H5 tp kd wl pl ar hl hF ws5 js5 xs hs) (hw5 : ws5.length ≤ wsx.length) {p6 p7 : Addr} (hp6 : H5 p6 = none) (hp7 : upd H5 p6 (.lst [V.str x]) p7 = none),
      PtIn (upd (upd H5 p6 (.lst [V.str x])) p7 (.lst (xs.map V.str ++ [V.str x]))) tp kd wl pl p7 hl hF ws5 js5 (xs ++ [x]) hs := by
    intro H5 ws5 js5 I5 hw5 p6 p7 hp6 hp7
    have s6 := same_new hp6 (.lst [V.str x])
    have s7 := same_new hp7 (.lst (xs.map V.str ++ [V.str x]))
    have I7 := I5.same (s6.trans s7)
    have nn := (I5.same s6).g.new hp7
    have e7 := I7.l2
    refine ⟨I7.g, ⟨by rw [upd_same, mapS], fun y hy => ?_⟩, nn.2.1, nn.2.2, I7.h, I7.h0, I7.h1, I7.h2, I7.ne, I7.wj, ?_, e7⟩
    · rcases List.mem_append.mp hy with z | z
      · exact I.w.2 y z
      · rw [List.mem_singleton.mp z]
        exact hxW
    · rw [List.length_append, List.length_singleton]
      omega
  by_cases hpost : wd = "post"
  · subst hpost
    refine ⟨_, rfl, rfl, _, rfl, itT rfl ?_⟩
    obtain ⟨jsx, j, rfl⟩ := snoc_of (ws := js) (fun z => by rw [z] at wj; cases wj)
    have hjW : isW j = true := I.g.p.2 j (List.mem_append_right _ List.mem_cons_self)
    have lj : (jsx ++ [j]).length = jsx.length + 1 := by rw [List.length_append]; rfl
    have gp := I4.g.p.1
    rw [mapS] at gp
    refine ⟨_, rfl, kd, _, rfl, gt_posts k4, .inl ⟨rfl, _, SqL.of gp⟩, pl, _, _, rfl, rfl, gp, lastV, ?_⟩
    rw [dropV]
    obtain ⟨g5, b5⟩ := I4.g.popP
    have I5 := I4.step b5 g5 (by omega) (Nat.le_refl _) (by omega)
    have B5 := B4.trans b5
    generalize upd H4 pl (.lst (jsx.map V.str)) = H5 at g5 b5 I5 B5 ⊢
    refine ⟨_, rfl, _, rfl, _, _, rfl, rfl, tp, room - 1, 2, rfl, I5.g.t, by decide, by omega, by omega, fun sp ss H6 b6 t6 fr6 h6 hl6 pos6 sum6 => ?_⟩
    have I6 := I5.one b6 t6
    obtain ⟨y0, y1, rfl⟩ : ∃ y0 y1, ss = [y0, y1] := by
      match ss, hl6 with
      | [y0, y1], _ => exact ⟨y0, y1, rfl⟩
      | [], z => cases z
      | [_], z => cases z
      | _ :: _ :: _ :: _, z => simp at z; omega
    have py0 := pos6 y0 List.mem_cons_self
    have py1 := pos6 y1 (List.mem_cons_of_mem _ List.mem_cons_self)
    have sy : y0 + y1 ≤ room - 1 := by
      have : y0 + (y1 + 0) ≤ room - 1 := sum6
      omega
    have ns := I5.g.new fr6
    -- T
    refine ⟨_, rfl, _, rfl, _, rfl, _, rfl, sz (by show 1 ≤ 100000; decide), fun p7 hp7 => ?_⟩
    have s7 := same_new hp7 (.lst [V.str x])
    refine ⟨ar, p7, _, _, rfl, rfl, s7 _ _ I6.w.1, upd_same, sz (by rw [List.length_map]; show xs.length + 1 ≤ 100000; omega), fun p8 hp8 => ?_⟩
    have s8 := same_new hp8 (.lst (xs.map V.str ++ [V.str x]))
    have I8 := moreW I6 (Nat.le_refl _) hp7 hp8
    have h8 := s8 _ _ (s7 _ _ h6)
    have s68 := s7.trans s8
    generalize upd (upd H6 p7 (.lst [V.str x])) p8 (.lst (xs.map V.str ++ [V.str x])) = H8 at I8 h8 s68 ⊢
    refine ⟨_, rfl, _, rfl, sp, _, _, _, rfl, rfl, SqL.of h8, at0, _, rfl, _, _, rfl, rfl, tp, kd, wl, pl, p8, hl, hF, wsx, jsx, xs ++ [x], hs, y0, deep - 1, rfl, I8, py0, by omega, by omega, by omega, fun a9 q9 H9 ws9 js9 ls9 ms9 O9 => ?_⟩
    have le1 : ws9.length ≤ wsx.length := by
      rw [O9.e1, List.length_append]
      omega
    have le2 : js9.length ≤ jsx.length := by
      rw [O9.e2, List.length_append]
      omega
    have b69 : But3 tp wl pl H6 H9 := (but3_same s68).trans O9.b
    have I9 := I6.step b69 O9.g O9.wj le1 le2
    have h9 := O9.b _ _ ns.1 ns.2.1 ns.2.2 h8
    refine ⟨fun σ' H' => ∃ a q, σ' = [some (.ref tp), some (.ref kd), some (.ref ar), some (.ref hl), some (.int room), some (.int deep), some (.str "post"), none, some (.ref sp), some (.ref a), some (.str x), some (.str j), none] ∧ But3 tp wl pl H9 H' ∧ PtIn H' tp kd wl pl ar hl hF ws9 js9 xs hs ∧
      H' sp = some (.lst ([y0, y1].map V.int)) ∧ PAt H' q a ∧ okP hF q (xs ++ [x]) hs ∧ pcnt q ≤ y0.toNat ∧ (wP q).Sublist ls9 ∧ (jP q).Sublist ms9, ?_, ?_⟩
    · refine ⟨_, rfl, tp, 8, rfl, I9.g.t, by decide, by decide, fun r10 H10 r100 r101 b10 t10 => ⟨rfl, _, rfl, ?_⟩⟩
      have I10 := I9.one b10 t10
      have h10 := b10 _ _ ns.1 h9
      refine ite2 (fun c => ?_) (fun c => ?_)
      · refine ⟨_, rfl, _, rfl, _, rfl, tp, kd, wl, pl, hl, hF, ws9, js9, hs, rfl, I10.g, I10.h, I10.ne, by have := I10.l2; omega, I10.h0, fun jj H11 b11 t11 hjj => ?_⟩
        have I11 := I10.one b11 t11
        refine ⟨_, rfl, sz (by show 2 ≤ 100000; decide), fun p12 hp12 => ⟨sz (by show 3 ≤ 100000; decide), fun p13 hp13 => ?_⟩⟩
        have s12 := same_new hp12 (.tup [V.str "name", .str x])
        have s13 := same_new hp13 (.tup [V.str "give", .str jj, .ref p12])
        have gn : Gd (upd (upd H11 p12 (.tup [V.str "name", .str x])) p13 (.tup [V.str "give", .str jj, .ref p12])) p12 1 1 hF (xs ++ [x]) [] (mkL (.nam x) []) := gd_nam ⟨rfl, s13 _ _ upd_same⟩ hxW (List.mem_append_right _ List.mem_cons_self)
        refine ⟨p13, .give jj (mkL (.nam x) []), rfl, ((b10.three.trans b11.three).trans (but3_same s12)).trans (but3_same s13), (I11.same s12).same s13, s13 _ _ (s12 _ _ (b11 _ _ ns.1 h10)), ⟨p12, upd_same, gn.at_⟩, ⟨hjj, gn.ok, simple_mkL rfl (fun _ z => nomatch z), gn.sc, Nat.le_trans gn.cn (by decide), gn.dp.le (by decide)⟩, by show 1 ≤ y0.toNat; omega, List.nil_sublist _, List.nil_sublist _⟩
      · exact ⟨a9, q9, rfl, b10.three, I10, h10, O9.at_.tk (b10.tk I9.g.t), O9.ok, O9.cn, O9.s1, O9.s2⟩
    rintro σ10 H10 ⟨a10, q10, rfl, b10, I10, h10, pa10, ok10, cn10, su10, sj10⟩
    -- U
    refine ⟨_, rfl, _, rfl, _, rfl, _, rfl, _, rfl, _, rfl, _, rfl, _, rfl, sz (by show 1 ≤ 100000; decide), fun p11 hp11 => ?_⟩
    have s11 := same_new hp11 (.lst [V.str j])
    refine ⟨hl, p11, _, _, rfl, rfl, s11 _ _ I10.h, upd_same, sz (by rw [List.length_map]; show hs.length + 1 ≤ 100000; omega), fun p12 hp12 => ?_⟩
    have s12 := same_new hp12 (.lst (hs.map V.str ++ [V.str j]))
    have I12 := I10.same (s11.trans s12)
    have nn := (I10.same s11).g.new hp12
    have hH : (upd (upd H10 p11 (.lst [V.str j])) p12 (.lst (hs.map V.str ++ [V.str j]))) p12 = some (.lst ((hs ++ [j]).map V.str)) := by
      rw [upd_same, mapS]
    have h12 := s12 _ _ (s11 _ _ h10)
    have s1012 := s11.trans s12
    generalize upd (upd H10 p11 (.lst [V.str j])) p12 (.lst (hs.map V.str ++ [V.str j])) = H12 at I12 hH h12 s1012 ⊢
    have J12 : PtIn H12 tp kd wl pl ar p12 hF ws9 js9 xs (hs ++ [j]) := ⟨I12.g, I12.w, I12.a1, I12.a2, hH, nn.1, nn.2.1, nn.2.2, by simp, I12.wj, I12.l1, by rw [List.length_append, List.length_singleton]; omega⟩
    refine ⟨_, rfl, sp, _, _, _, rfl, rfl, SqL.of h12, at1, _, rfl, _, _, rfl, rfl, tp, kd, wl, pl, ar, p12, hF, ws9, js9, xs, hs ++ [j], y1, deep - 1, rfl, J12, py1, by omega, by omega, by omega, fun a13 q13 H13 ws13 js13 ls13 ms13 O13 => ?_⟩
    refine ⟨sz (by show 5 ≤ 100000; decide), fun p14 hp14 => ?_⟩
    have s14 := same_new hp14 (.tup [V.str "post", .str j, .str x, .ref a10, .ref a13])
    have k1013 : TK H10 H13 := (tk_same s1012).trans (I12.g.tk O13.b)
    have BE : But3 tp wl pl H H13 := (((B5.trans b6.three).trans b69).trans b10).trans ((but3_same s1012).trans O13.b)
    refine q p14 (.post j x q10 q13) _ ws13 js13 (x :: (ls9 ++ ls13)) (j :: (ms9 ++ ms13)) ⟨BE.trans (but3_same s14), O13.g.same s14, O13.wj, ?_, ?_, ⟨a10, a13, upd_same, (pa10.tk k1013).tk (tk_same s14), O13.at_.tk (tk_same s14)⟩, ⟨hjW, hxW, ok10, O13.ok⟩, ?_, (su10.append O13.s1).cons_cons x, (sj10.append O13.s2).cons_cons j⟩
    · rw [O9.e1, O13.e1]
      simp
    · rw [O9.e2, O13.e2]
      simp
    · have c13 := O13.cn
      show 1 + pcnt q10 + pcnt q13 ≤ room.toNat
      omega
  · have hnp : decide (V.str wd = V.str (Str.ofString "post")) = false := decide_eq_false fun z => hpost (V.str.inj z)
    refine ⟨_, rfl, rfl, _, rfl, itF hnp ?_⟩
    have hwd2 : wd = "tell" ∨ wd = "let" := hwd.resolve_left hpost
    refine ⟨_, rfl, _, rfl, tp, ar, xs, rfl, I4.g.t, I4.w, by omega, Nat.le_refl _, fun a5 u5 H5 b5 t5 gs => ?_⟩
    have I5 := I4.one b5 t5
    refine ⟨_, rfl, _, rfl, _, rfl, _, rfl, _, rfl, _, rfl, _, rfl, sz (by show 1 ≤ 100000; decide), fun p7 hp7 => ?_⟩
    have s7 := same_new hp7 (.lst [V.str x])
    refine ⟨ar, p7, _, _, rfl, rfl, s7 _ _ I5.w.1, upd_same, sz (by rw [List.length_map]; show xs.length + 1 ≤ 100000; omega), fun p8 hp8 => ?_⟩
    have s8 := same_new hp8 (.lst (xs.map V.str ++ [V.str x]))
    have I8 := moreW I5 (Nat.le_refl _) hp7 hp8
    have s58 := s7.trans s8
    generalize upd (upd H5 p7 (.lst [V.str x])) p8 (.lst (xs.map V.str ++ [V.str x])) = H8 at I8 s58 ⊢
    refine ⟨_, rfl, _, rfl, _, _, rfl, rfl, _, rfl, _, _, rfl, rfl, tp, kd, wl, pl, p8, hl, hF, wsx, js, xs ++ [x], hs, room - 1, deep - 1, rfl, I8, by omega, by omega, by omega, by omega, fun a9 q9 H9 ws9 js9 ls9 ms9 O9 => ?_⟩
    refine ⟨sz (by show 4 ≤ 100000; decide), fun p14 hp14 => ?_⟩
    have s14 := same_new hp14 (.tup [V.str wd, .str x, .ref a5, .ref a9])
    have k59 : TK H5 H9 := (tk_same s58).trans (I8.g.tk O9.b)
    have BE : But3 tp wl pl H H9 := ((B4.trans b5.three).trans (but3_same s58)).trans O9.b
    have hatT := ((gs hF).g.at_.tk k59).tk (tk_same s14)
    have hatP := O9.at_.tk (tk_same s14)
    have e1 : wsx ++ [x] = ws9 ++ (x :: ls9).reverse := by
      rw [O9.e1]
      simp
    have hc : 1 + pcnt q9 ≤ room.toNat := by
      have := O9.cn
      omega
    rcases hwd2 with rfl | rfl
    · exact q p14 (.tell x u5 q9) _ ws9 js9 (x :: ls9) ms9 ⟨BE.trans (but3_same s14), O9.g.same s14, O9.wj, e1, O9.e2, ⟨a5, a9, upd_same, hatT, hatP⟩, ⟨hxW, (gs hF).sm, O9.ok⟩, hc, O9.s1.cons_cons x, O9.s2⟩
    · exact q p14 (.lett x u5 q9) _ ws9 js9 (x :: ls9) ms9 ⟨BE.trans (but3_same s14), O9.g.same s14, O9.wj, e1, O9.e2, ⟨a5, a9, upd_same, hatT, hatP⟩, ⟨hxW, (gs hF).sm, O9.ok⟩, hc, O9.s1.cons_cons x, O9.s2⟩
end
end KB

namespace KB
open PySem L2

section
variable {P : Program} {w : World} {K : PySem.W.Frag} {mg : Str → Option Value} {base : Heap}
theorem all_part (T : Txt K mg) {f fg fh fe fs fq : Addr} {fd gd hd ed sd qd : FuncData} (F : Fun K "_law_part" "_law_part" s_law_part f fd) (G_law_digit : FnOk P w K mg base CX0 1 fg gd ["tape", "many"] spDig) (R_law_digit : Ref K mg "_law_digit" fg gd ["tape", "many"])
    (G_law_some_hand : FnOk P w K mg base CX0 2 fh hd ["tape", "known", "hands"] spHand) (R_law_some_hand : Ref K mg "_law_some_hand" fh hd ["tape", "known", "hands"]) (G_law_end : FnOk P w K mg base CX0 6 fe ed ["tape", "known", "around", "hands"] spEnd) (R_law_end : Ref K mg "_law_end" fe ed ["tape", "known", "around", "hands"])
    (G_law_simple : FnOk P w K mg base CX0 5 fs sd ["tape", "around", "deep"] (spSimple 1)) (R_law_simple : Ref K mg "_law_simple" fs sd ["tape", "around", "deep"]) (G_law_shares : FnOk P w K mg base CX0 2 fq qd ["tape", "room", "many"] spShr) (R_law_shares : Ref K mg "_law_shares" fq qd ["tape", "room", "many"])
    (R_law_part : Ref K mg "_law_part" f fd ["tape", "known", "around", "hands", "room", "deep"]) : ∀ n : Nat, FnOk P w K mg base CX0 (n + 7) f fd ["tape", "known", "around", "hands", "room", "deep"] (spPart n)
  | 0 => ok_part T 0 F G_law_digit R_law_digit G_law_some_hand R_law_some_hand G_law_end R_law_end G_law_simple R_law_simple G_law_shares R_law_shares no_sp R_law_part
  | n + 1 => ok_part T (n + 1) F G_law_digit R_law_digit G_law_some_hand R_law_some_hand G_law_end R_law_end G_law_simple R_law_simple G_law_shares R_law_shares (all_part T F G_law_digit R_law_digit G_law_some_hand R_law_some_hand G_law_end R_law_end G_law_simple R_law_simple G_law_shares R_law_shares R_law_part n) R_law_part
/-! ### _law_turned_body -/
def spTBody : Sp := fun vs H Q _ => ∃ (tp kd wl pl nl : Addr) (hF : Str → Option Nat) (ws js xs : List Str), vs = [.ref tp, .ref kd, .ref nl] ∧ GT H tp kd wl pl hF ws js ∧ Wls H nl xs ∧ nl ≠ wl ∧ nl ≠ pl ∧ ws.length ≤ js.length ∧ xs.length + ws.length ≤ 100 ∧ js.length ≤ 100 ∧
  ∀ a p H' ws' js' ls ms, PtOut H H' tp kd wl pl hF ws js xs ["home"] 13 a p ws' js' ls ms → Q (.ref a) H'
theorem PtOut.le {H H' : Hp} {tp kd wl pl : Addr} {hF : Str → Option Nat} {ws js xs hs : List Str} {n m : Nat} {a : Addr} {p : Pt} {ws' js' ls ms : List Str} (h : n ≤ m) (O : PtOut H H' tp kd wl pl hF ws js xs hs n a p ws' js' ls ms) : PtOut H H' tp kd wl pl hF ws js xs hs m a p ws' js' ls ms :=
  ⟨O.b, O.g, O.wj, O.e1, O.e2, O.at_, O.ok, Nat.le_trans O.cn h, O.s1, O.s2⟩
theorem PtOut.pre {H0 H H' : Hp} {tp kd wl pl : Addr} {hF : Str → Option Nat} {ws js xs hs : List Str} {n : Nat} {a : Addr} {p : Pt} {ws' js' ls ms : List Str} (b : But3 tp wl pl H0 H) (O : PtOut H H' tp kd wl pl hF ws js xs hs n a p ws' js' ls ms) : PtOut H0 H' tp kd wl pl hF ws js xs hs n a p ws' js' ls ms :=
  ⟨b.trans O.b, O.g, O.wj, O.e1, O.e2, O.at_, O.ok, O.cn, O.s1, O.s2⟩
abbrev s_law_turned_body : Stmt := top 38
theorem scLturned_body : FnScope ["tape", "known", "names", "one", "two"] ["tape", "known", "names"] (defScope s_law_turned_body) := ⟨rfl, rfl, rfl, by decide +kernel, rfl, by decide +kernel, by decide +kernel⟩
theorem ok_tbody (T : Txt K mg) {f fg fp : Addr} {fd gd pd_ : FuncData} (F : Fun K "_law_turned_body" "_law_turned_body" s_law_turned_body f fd) (G_law_digit : FnOk P w K mg base CX0 1 fg gd ["tape", "many"] spDig) (R_law_digit : Ref K mg "_law_digit" fg gd ["tape", "many"])
    (G_law_part : FnOk P w K mg base CX0 15 fp pd_ ["tape", "known", "around", "hands", "room", "deep"] (spPart 8)) (R_law_part : Ref K mg "_law_part" fp pd_ ["tape", "known", "around", "hands", "room", "deep"]) : FnOk P w K mg base CX0 16 f fd ["tape", "known", "names"] spTBody := by
  refine F.ok scLturned_body (fun vs H Q E h => ?_) (fun cdv A outer s H vs Q E hr h => ?_)
  · obtain ⟨tp, kd, wl, pl, nl, hF, ws, js, xs, rfl, _⟩ := h
    rfl
  obtain ⟨tp, kd, wl, pl, nl, hF, ws, js, xs, rfl, g, hw, n1, n2, wj, l1, l2, q⟩ := h
  refine ⟨_, (pss_cons (ps_if (PW.pt (pw_and (pt_cmpR (op_neD hr.units) (pv 2) (pe_lst pa_nil) (nomark _)) (pw_and1 (pt_cmpR op_gt (pe_call G_law_digit (hr.mono (by omega)) rfl R_law_digit.m R_law_digit.k R_law_digit.b .nil pass0 (pa_cons (pv 0) (pa_cons pe_int pa_nil))) pe_int (nomark _))))) (pss_cons (ps_set (i := 3) scLturned_body.nd rfl (Or.inl rfl) (pe_call G_law_part (hr.mono (by omega)) rfl R_law_part.m R_law_part.k R_law_part.b .nil pass0 (pa_cons (pv 0) (pa_cons (pv 1) (pa_cons (pv 2) (pa_cons (pe_lst (pa_cons pe_str pa_nil)) (pa_cons (pe_dget (hu_of hr) (pv 1) pe_str (fun _ _ => rfl)) (pa_cons pe_int pa_nil))))))))
    (pss_cons (ps_set (i := 4) scLturned_body.nd rfl (Or.inl rfl) (pe_call G_law_part (hr.mono (by omega)) rfl R_law_part.m R_law_part.k R_law_part.b .nil pass0 (pa_cons (pv 0) (pa_cons (pv 1) (pa_cons (pv 2) (pa_cons (pe_lst (pa_cons pe_str pa_nil)) (pa_cons pe_int (pa_cons pe_int pa_nil))))))))
    (pss_one (ps_ret (pe_tup (pa_cons pe_str (pa_cons (pe_tup (pa_cons pe_str (pa_cons (pe_ix ix_list (pv 2) pe_int (fun _ _ => rfl)) pa_nil))) (pa_cons (pv 3) (pa_cons (pv 4) pa_nil))))))))) pss_nil)
    (pss_one (ps_ret (pe_call G_law_part (hr.mono (by omega)) rfl R_law_part.m R_law_part.k R_law_part.b .nil pass0 (pa_cons (pv 0) (pa_cons (pv 1) (pa_cons (pv 2) (pa_cons (pe_lst (pa_cons pe_str pa_nil)) (pa_cons (pe_dget (hu_of hr) (pv 1) pe_str (fun _ _ => rfl)) (pa_cons pe_int pa_nil)))))))))), ?_⟩
  -- home around
  have inH : ∀ {H1 : Hp} {ws1 js1 : List Str} {ph : Addr}, GT H1 tp kd wl pl hF ws1 js1 → Wls H1 nl xs → H1 ph = none → ws1.length ≤ js1.length → ws1.length ≤ ws.length → js1.length ≤ js.length → PtIn (upd H1 ph (.lst [V.str "home"])) tp kd wl pl nl ph hF ws1 js1 xs ["home"] := by
    intro H1 ws1 js1 ph g1 w1 hph a1 a2 a3
    have sp := same_new hph (.lst [V.str "home"])
    have nn := g1.new hph
    exact ⟨g1.same sp, w1.but (but_same sp) g1.t, n1, n2, upd_same, nn.1, nn.2.1, nn.2.2, by simp, a1, by omega, by show 1 + js1.length ≤ 200; omega⟩
  obtain ⟨el, hd', fs', kvs, rm, st, k1, rm1, rm9, _⟩ := g.k
  have nk := g.ntk k1 (fun _ z => nomatch z)
  have finalW : ∀ H1, But1 tp H H1 → Tp H1 tp → _ := fun (H1 : Hp) (b1 : But1 tp H H1) (t1 : Tp H1 tp) =>
    (show (tRet (tCall (spPart 8) [] E0 (tCons (tVar 0) (tCons (tVar 1) (tCons (tVar 2) (tCons (tLst (tCons (tC (.str "home")) tNil)) (tCons (tDGet (tVar 1) (tC (.str "room"))) (tCons (tC (.int 8)) tNil)))))))) { nx := fun x H' => Q V.non H', rt := Q } [some (.ref tp), some (.ref kd), some (.ref nl), none, none] H1 from by
      refine ⟨_, rfl, _, rfl, _, rfl, sz (by show 1 ≤ 100000; decide), fun ph hph => ?_⟩
      have s2 := same_new hph (.lst [V.str "home"])
      have g1 := g.one b1 t1
      refine ⟨_, rfl, kd, _, rfl, gt_room (s2 _ _ (b1 _ _ nk.1 k1)), tp, kd, wl, pl, nl, ph, hF, ws, js, xs, ["home"], rm, 8, rfl, inH g1 (hw.but b1 g.t) hph wj (Nat.le_refl _) (Nat.le_refl _), rm1, by omega, by decide, by decide, fun a p H' ws' js' ls ms O => ?_⟩
      exact q a p H' ws' js' ls ms ((O.pre (b1.three.trans (but3_same s2))).le (by omega)))
  refine ⟨_, rfl, sz (by show 0 ≤ 100000; decide), fun p0 hp0 => ?_⟩
  have s0 := same_new hp0 (.lst [])
  refine ⟨.list (xs.map PyData.str), .list [], .lst (SqL.of (s0 _ _ hw.1)) (dp_strs xs), .lst (SqL.of upd_same) .nil, shaped_strs hw.2, rfl, _, rfl, ?_⟩
  rw [eqv_nil]
  have g0 := g.same s0
  have w0 := hw.but (but_same s0) g.t
  have b0 : But1 tp H (upd H p0 (.lst [])) := but_same s0
  generalize upd H p0 (.lst []) = H0 at g0 w0 b0 ⊢
  cases xs with
  | nil => exact itF rfl (iteF (finalW H0 b0 g0.t))
  | cons x xr =>
    refine itT rfl ⟨_, rfl, tp, 4, rfl, g0.t, by decide, by decide, fun r H1 r0 r1 b1 t1 => ?_⟩
    have b01 := b0.trans b1
    refine ⟨_, _, rfl, rfl, _, rfl, ?_⟩
    refine ite2 (fun c => ?_) (fun c => finalW H1 b01 t1)
    have g1 := g0.one b1 t1
    have w1 := w0.but b1 g0.t
    have k11 := b01 _ _ nk.1 k1
    -- one
    refine ⟨_, rfl, _, rfl, _, rfl, sz (by show 1 ≤ 100000; decide), fun ph hph => ?_⟩
    have s2 := same_new hph (.lst [V.str "home"])
    refine ⟨_, rfl, kd, _, rfl, gt_room (s2 _ _ k11), tp, kd, wl, pl, nl, ph, hF, ws, js, x :: xr, ["home"], rm, 7, rfl, inH g1 w1 hph wj (Nat.le_refl _) (Nat.le_refl _), rm1, by omega, by decide, by decide, fun a3 q3 H3 ws3 js3 ls3 ms3 O3 => ?_⟩
    have le1 : ws3.length ≤ ws.length := by
      rw [O3.e1, List.length_append]
      omega
    have le2 : js3.length ≤ js.length := by
      rw [O3.e2, List.length_append]
      omega
    have B3 : But3 tp wl pl H1 H3 := (but3_same s2).trans O3.b
    have w3 := w1.three B3 g1 n1 n2
    -- two
    refine ⟨_, rfl, _, rfl, _, rfl, sz (by show 1 ≤ 100000; decide), fun ph4 hph4 => ?_⟩
    have s4 := same_new hph4 (.lst [V.str "home"])
    refine ⟨tp, kd, wl, pl, nl, ph4, hF, ws3, js3, x :: xr, ["home"], 3, 2, rfl, inH O3.g w3 hph4 O3.wj le1 le2, by decide, by decide, by decide, by decide, fun a5 q5 H5 ws5 js5 ls5 ms5 O5 => ?_⟩
    have B5 : But3 tp wl pl H3 H5 := (but3_same s4).trans O5.b
    have w5 := w3.three B5 O3.g n1 n2
    refine ⟨_, rfl, nl, _, _, _, rfl, rfl, SqL.of w5.1, at0, sz (by show 2 ≤ 100000; decide), fun p6 hp6 => ⟨_, rfl, _, rfl, sz (by show 4 ≤ 100000; decide), fun p7 hp7 => ?_⟩⟩
    have s6 := same_new hp6 (.tup [V.str "name", .str x])
    have s7 := same_new hp7 (.tup [V.str "if", .ref p6, .ref a3, .ref a5])
    have s67 := s6.trans s7
    have gn := gd_nam (hd := hF) (xs := x :: xr) (H := upd (upd H5 p6 (.tup [V.str "name", .str x])) p7 (.tup [V.str "if", .ref p6, .ref a3, .ref a5])) (a := p6) (x := x) ⟨rfl, s7 _ _ upd_same⟩ (hw.2 x List.mem_cons_self) List.mem_cons_self
    have k35 : TK H3 H5 := O3.g.tk B5
    refine q p7 (.iff (mkL (.nam x) []) q3 q5) _ ws5 js5 (ls3 ++ ls5) (ms3 ++ ms5) ⟨((b01.three.trans B3).trans B5).trans (but3_same s67), O5.g.same s67, O5.wj, ?_, ?_, ⟨p6, a3, a5, upd_same, gn.at_, (O3.at_.tk k35).tk (tk_same s67), O5.at_.tk (tk_same s67)⟩, ⟨⟨gn.ok, simple_mkL rfl (fun _ z => nomatch z), gn.sc, Nat.le_trans gn.cn (by decide), gn.dp.le (by decide)⟩, O3.ok, O5.ok⟩, ?_, O3.s1.append O5.s1, O3.s2.append O5.s2⟩
    · rw [O3.e1, O5.e1]
      simp
    · rw [O3.e2, O5.e2]
      simp
    · have c3 := O3.cn
      have c5 : pcnt q5 ≤ 3 := O5.cn
      show 1 + pcnt q3 + pcnt q5 ≤ 13
      omega
end
end KB

namespace KB
open PySem L2

/-! ### the words that are drawn -/
def lettersS : Str := "abcdefghijklmnopqrstuvwxyz"
def sgn (i : Nat) : Str := ⟨#[97 + i % 26]⟩
def endsL : List Str := ["", "a", "omelons"]
def someL : List Str := ["give", "ask", "post", "plus", "less", "name", "number", "to", "as", "f", "x", "aq", "bq", "lets", "ifs", "ina", "homes", "q"]
def w0 (turn : Nat) (e : Str) (k : Nat) : Str := sgn (turn + k) ++ e
def w1 (turn : Nat) (k : Nat) : Str := repS (sgn (turn + k / 8)) (1 + (k : Int) % 8)
def w2 (turn : Nat) (k : Nat) : Str := someL.getD ((turn + k) % 18) ""
def good16 (f : Nat → Str) : Bool := ((List.range 16).map f).all isW && decide ((List.range 16).map f).Nodup
theorem good_w0 : ∀ turn < 26, ∀ e ∈ endsL, good16 (w0 turn e) = true := by decide +kernel
theorem good_w1 : ∀ turn < 26, good16 (w1 turn) = true := by decide +kernel
theorem good_w2 : ∀ turn < 26, good16 (w2 turn) = true := by decide +kernel
theorem good_of {f : Nat → Str} (h : good16 f = true) {n : Nat} (hn : n ≤ 16) : (∀ x ∈ (List.range n).map f, isW x = true) ∧ ((List.range n).map f).Nodup := by
  unfold good16 at h
  rw [Bool.and_eq_true] at h
  have hs : ((List.range n).map f).Sublist ((List.range 16).map f) := (List.range_sublist.mpr hn).map f
  exact ⟨fun x hx => List.all_eq_true.mp h.1 x (hs.subset hx), (of_decide_eq_true h.2).sublist hs⟩
theorem letters_at {i : Int} (h0 : 0 ≤ i) (h1 : i < 26) : atI lettersS.cps.toList i = some (97 + i.toNat) := by
  have e : lettersS.cps.toList = (List.range 26).map (97 + ·) := by decide +kernel
  rw [e]
  obtain ⟨n, rfl⟩ : ∃ n : Nat, i = (n : Int) := ⟨i.toNat, by omega⟩
  rw [Int.toNat_natCast]
  refine atI_nat ?_
  rw [List.getElem?_map, List.getElem?_range (by omega)]
  rfl
theorem range_push {f : Nat → Str} (i : Nat) : ((List.range i).map f).map V.str ++ [V.str (f i)] = ((List.range (i + 1)).map f).map V.str := by
  rw [List.range_succ, List.map_append, List.map_append]
  rfl

section
variable {P : Program} {w : World} {K : PySem.W.Frag} {mg : Str → Option Value} {base : Heap}
def spWords : Sp := fun vs H Q _ => ∃ (tp : Addr) (many : Int), vs = [.ref tp, .int many] ∧ Tp H tp ∧ 0 ≤ many ∧ many ≤ 16 ∧
  ∀ (p : Addr) (xs : List Str) (H' : Hp), But1 tp H H' → Tp H' tp → H p = none → Wls H' p xs → (xs.length : Int) = many → xs.Nodup → Q (.ref p) H'
abbrev s_law_words : Stmt := top 28
theorem scLwords : FnScope ["tape", "many", "letters", "way", "turn", "ends", "k", "some"] ["tape", "many"] (defScope s_law_words) := ⟨rfl, rfl, rfl, by decide +kernel, rfl, by decide +kernel, by decide +kernel⟩
theorem ok_words (T : Txt K mg) {f g : Addr} {fd gd : FuncData} (F : Fun K "_law_words" "_law_words" s_law_words f fd) (G_law_digit : FnOk P w K mg base CX0 1 g gd ["tape", "many"] spDig) (R_law_digit : Ref K mg "_law_digit" g gd ["tape", "many"]) : FnOk P w K mg base CX0 2 f fd ["tape", "many"] spWords := by
  refine F.ok scLwords (fun vs H Q E h => ?_) (fun cdv A outer s H vs Q E hr h => ?_)
  · obtain ⟨tp, many, rfl, _⟩ := h
    rfl
  obtain ⟨tp, many, rfl, ht, hm0, hm1, q⟩ := h
  refine ⟨_, (pss_cons (ps_set (i := 2) scLwords.nd rfl (Or.inr rfl) pe_str)
    (pss_cons (ps_set (i := 3) scLwords.nd rfl (Or.inl rfl) (pe_call G_law_digit hr rfl R_law_digit.m R_law_digit.k R_law_digit.b .nil pass0 (pa_cons (pv 0) (pa_cons pe_int pa_nil))))
    (pss_cons (ps_set (i := 4) scLwords.nd rfl (Or.inr rfl) (pe_call G_law_digit hr rfl R_law_digit.m R_law_digit.k R_law_digit.b .nil pass0 (pa_cons (pv 0) (pa_cons pe_int pa_nil))))
    (pss_cons (ps_if (pt_cmpR op_eq (pv 3) pe_int (nomark _)) (pss_cons (ps_set (i := 5) scLwords.nd rfl (Or.inr rfl) (pe_ix ix_list (pe_lst (pa_cons pe_str (pa_cons pe_str (pa_cons pe_str pa_nil)))) (pe_call G_law_digit hr rfl R_law_digit.m R_law_digit.k R_law_digit.b .nil pass0 (pa_cons (pv 0) (pa_cons pe_int pa_nil))) (fun _ _ => rfl)))
    (pss_one (ps_ret (pe_lc (own := [("k", 6)]) (g := gName 6) (by rfl) scLwords.nd (pi_range1 rfl T.m_range (pa_cons (pv 1) pa_nil)) (blkOk_by (own := [("k", 6)]) (N := ["tape", "many", "letters", "way", "turn", "ends", "k", "some"]) (sc := defScope s_law_words) (by decide +kernel)) (fun _ _ _ _ _ => (pg_name (i := 6) scLwords.nd rfl (Or.inl rfl))) (fun _ _ _ _ _ => pts_nil) (fun _ _ _ _ _ => (pe_op op_add_str (pe_ix ix_str (pv 2) (pe_op op_mod (pe_op op_add (pv 4) (pv 6)) pe_int) (fun _ _ => rfl)) (pv 5))))))) pss_nil)
    (pss_cons (ps_if (pt_cmpR op_eq (pv 3) pe_int (nomark _)) (pss_one (ps_ret (pe_lc (own := [("k", 6)]) (g := gName 6) (by rfl) scLwords.nd (pi_range1 rfl T.m_range (pa_cons (pv 1) pa_nil)) (blkOk_by (own := [("k", 6)]) (N := ["tape", "many", "letters", "way", "turn", "ends", "k", "some"]) (sc := defScope s_law_words) (by decide +kernel)) (fun _ _ _ _ _ => (pg_name (i := 6) scLwords.nd rfl (Or.inl rfl))) (fun _ _ _ _ _ => pts_nil) (fun _ _ _ _ _ => (pe_op op_mul_str (pe_ix ix_str (pv 2) (pe_op op_mod (pe_op op_add (pv 4) (pe_op op_fdiv (pv 6) pe_int)) pe_int) (fun _ _ => rfl)) (pe_op op_add pe_int (pe_op op_mod (pv 6) pe_int))))))) pss_nil)
    (pss_cons (ps_set (i := 7) scLwords.nd rfl (Or.inr rfl) (pe_lst (pa_cons pe_str (pa_cons pe_str (pa_cons pe_str (pa_cons pe_str (pa_cons pe_str (pa_cons pe_str (pa_cons pe_str (pa_cons pe_str (pa_cons pe_str (pa_cons pe_str (pa_cons pe_str pa_nil)))))))))))))
    (pss_cons (ps_set (i := 7) scLwords.nd rfl (Or.inr rfl) (pe_op op_cat (pv 7) (pe_lst (pa_cons pe_str (pa_cons pe_str (pa_cons pe_str (pa_cons pe_str (pa_cons pe_str (pa_cons pe_str (pa_cons pe_str pa_nil))))))))))
    (pss_one (ps_ret (pe_lc (own := [("k", 6)]) (g := gName 6) (te := tOp (rIxL K) (tVar 7) (tOp (rI (fun _ j => 0 < j) fun i j => .int (i % j)) (tOp (rI0 fun i j => .int (i + j)) (tVar 4) (tVar 6)) (tC (.int 18)))) (by rfl) scLwords.nd (pi_range1 rfl T.m_range (pa_cons (pv 1) pa_nil)) (blkOk_by (own := [("k", 6)]) (N := ["tape", "many", "letters", "way", "turn", "ends", "k", "some"]) (sc := defScope s_law_words) (by decide +kernel)) (fun _ _ _ _ _ => (pg_name (i := 6) scLwords.nd rfl (Or.inl rfl))) (fun _ _ _ _ _ => pts_nil) (fun _ _ _ _ _ => (pe_ix ix_list (pv 7) (pe_op op_mod (pe_op op_add (pv 4) (pv 6)) pe_int) (fun _ _ => rfl))))))))))))), ?_⟩
  have fin : ∀ (f : Nat → Str), good16 f = true → ∀ (H1 : Hp) (D : Addr) (H' : Hp), But1 tp H H1 → Tp H1 tp → H1 D = none → Same H1 H' → H' D = some (.lst (((List.range many.toNat).map f).map V.str)) → Q (.ref D) H' := by
    intro f hf H1 D H' b1 t1 hD s1 h1
    obtain ⟨e1, e2⟩ := good_of hf (n := many.toNat) (by omega)
    refine q D _ H' (b1.trans (but_same s1)) (t1.same s1) ?_ ⟨h1, e1⟩ (by rw [List.length_map, List.length_range]; omega) e2
    cases e : H D with
    | none => rfl
    | some o =>
      obtain ⟨z, hz⟩ := t1
      rw [b1 _ _ (ne_of_none hz hD).symm e] at hD
      cases hD
  refine ⟨_, rfl, tp, 3, rfl, ht, by decide, by decide, fun way H1 _ _ b1 t1 => ?_⟩
  refine ⟨_, rfl, tp, 26, rfl, t1, by decide, by decide, fun turn H2 r0 r1 b2 t2 => ?_⟩
  have b12 := b1.trans b2
  refine ⟨_, rfl, rfl, _, rfl, ?_⟩
  refine ite2 (fun c1 => ?_) (fun c1 => ?_)
  · refine ⟨sz (by show 3 ≤ 100000; decide), fun p hp => ?_⟩
    have s3 := same_new hp (.lst [.str "", .str "a", .str "omelons"])
    have np : p ≠ tp := by
      obtain ⟨z, hz⟩ := t2
      exact (ne_of_none hz hp).symm
    refine ⟨_, rfl, tp, 3, rfl, t2.same s3, by decide, by decide, fun r H3 r2 r3 b3 t3 => ?_⟩
    obtain ⟨v, hv, hm⟩ := at_some (xs := endsL.map V.str) r2 r3
    obtain ⟨e, he, rfl⟩ := List.mem_map.mp hm
    have hel : e.length ≤ 100 := by
      have : ∀ x ∈ endsL, x.length ≤ 100 := by decide +kernel
      exact this e he
    refine ⟨p, _, _, _, rfl, rfl, SqL.of (b3 _ _ np upd_same), hv, ?_⟩
    have b4 := (b12.trans (but_same s3)).trans b3
    refine ⟨_, rfl, many, rfl, by omega, by omega, fun D hD => lc_range (lo := 0) (n := many.toNat) (fun i H' => Same H3 H' ∧ H' D = some (.lst (((List.range i).map (w0 turn.toNat e)).map V.str))) ⟨same_new hD _, upd_same⟩ ?_ ?_⟩
    · rintro i H' hi ⟨s5, h5⟩
      have ei : (turn + (0 + (i : Nat))) % 26 = (((turn.toNat + i) % 26 : Nat) : Int) := by omega
      refine ⟨rfl, ?_⟩
      dsimp only [tYes]
      refine iteT ?_
      refine ⟨_, rfl, _, rfl, _, rfl, _, _, rfl, rfl, _, _, rfl, rfl, (by show (0 : Int) < 26; decide), lettersS, _, _, rfl, rfl, (by decide +kernel), letters_at (Int.emod_nonneg _ (by decide)) (Int.emod_lt_of_pos _ (by decide)), ?_⟩
      refine ⟨_, rfl, _, _, rfl, rfl, sz (by show 1 + e.length ≤ 100000; omega), ?_⟩
      refine ⟨_, h5, Nat.lt_of_le_of_lt (m := 100) (by rw [List.length_map, List.length_map, List.length_range]; omega) (by decide), same_mut s5 hD, ?_⟩
      rw [upd_same, ← range_push]
      have e9 : w0 turn.toNat e i = (⟨#[97 + ((turn + (0 + (i : Nat))) % 26).toNat]⟩ : Str) ++ e := by
        rw [ei, Int.toNat_natCast]
        rfl
      rw [e9]
    · rintro H' ⟨s5, h5⟩
      exact fin _ (good_w0 turn.toNat (by omega) e he) H3 D H' b4 t3 hD s5 h5
  refine ⟨_, rfl, rfl, _, rfl, ?_⟩
  refine ite2 (fun c2 => ?_) (fun c2 => ?_)
  · refine ⟨_, rfl, many, rfl, by omega, by omega, fun D hD => lc_range (lo := 0) (n := many.toNat) (fun i H' => Same H2 H' ∧ H' D = some (.lst (((List.range i).map (w1 turn.toNat)).map V.str))) ⟨same_new hD _, upd_same⟩ ?_ ?_⟩
    · rintro i H' hi ⟨s5, h5⟩
      have ei : (turn + (0 + (i : Nat)) / 8) % 26 = (((turn.toNat + i / 8) % 26 : Nat) : Int) := by omega
      refine ⟨rfl, ?_⟩
      dsimp only [tYes]
      refine iteT ?_
      refine ⟨_, rfl, _, rfl, _, rfl, _, _, rfl, rfl, ⟨by decide, by decide⟩, _, _, rfl, rfl, _, _, rfl, rfl, (by show (0 : Int) < 26; decide), lettersS, _, _, rfl, rfl, (by decide +kernel), letters_at (Int.emod_nonneg _ (by decide)) (Int.emod_lt_of_pos _ (by decide)), ?_⟩
      refine ⟨_, rfl, _, _, rfl, rfl, (by show (0 : Int) < 8; decide), _, _, rfl, rfl, _, _, rfl, rfl, by omega, by omega, Nat.le_refl 1, by show 1 ≤ 1000; decide, ?_⟩
      refine ⟨_, h5, Nat.lt_of_le_of_lt (m := 100) (by rw [List.length_map, List.length_map, List.length_range]; omega) (by decide), same_mut s5 hD, ?_⟩
      rw [upd_same, ← range_push]
      have e9 : w1 turn.toNat i = repS (⟨#[97 + ((turn + (0 + (i : Nat)) / 8) % 26).toNat]⟩ : Str) (1 + (0 + (i : Nat)) % 8) := by
        rw [ei, Int.toNat_natCast, Int.zero_add]
        rfl
      rw [e9]
    · rintro H' ⟨s5, h5⟩
      exact fin _ (good_w1 turn.toNat (by omega)) H2 D H' b12 t2 hD s5 h5
  · refine ⟨sz (by show 11 ≤ 100000; decide), fun p1 hp1 => ?_⟩
    have s3 := same_new hp1 (.lst ((someL.take 11).map V.str))
    refine ⟨_, rfl, sz (by show 7 ≤ 100000; decide), fun p2 hp2 => ?_⟩
    have s4 := same_new hp2 (.lst ((someL.drop 11).map V.str))
    refine ⟨p1, p2, (someL.take 11).map V.str, (someL.drop 11).map V.str, rfl, rfl, s4 _ _ upd_same, upd_same, sz (by show 18 ≤ 100000; decide), fun p3 hp3 => ?_⟩
    have s5 := same_new hp3 (.lst ((someL.take 11).map V.str ++ (someL.drop 11).map V.str))
    have s35 := s3.trans (s4.trans s5)
    have h3 : upd (upd (upd H2 p1 (.lst ((someL.take 11).map V.str))) p2 (.lst ((someL.drop 11).map V.str))) p3 (.lst ((someL.take 11).map V.str ++ (someL.drop 11).map V.str)) p3 = some (.lst (someL.map V.str)) := upd_same
    have t3 := t2.same s35
    have b3 := b12.trans (but_same s35)
    refine ⟨_, rfl, many, rfl, by omega, by omega, fun D hD => lc_range (lo := 0) (n := many.toNat) (fun i H' => Same (upd (upd (upd H2 p1 (.lst ((someL.take 11).map V.str))) p2 (.lst ((someL.drop 11).map V.str))) p3 (.lst ((someL.take 11).map V.str ++ (someL.drop 11).map V.str))) H' ∧ H' D = some (.lst (((List.range i).map (w2 turn.toNat)).map V.str))) ⟨same_new hD _, upd_same⟩ ?_ ?_⟩
    · rintro i H' hi ⟨s6, h6⟩
      have ei : (turn + (0 + (i : Nat))) % 18 = (((turn.toNat + i) % 18 : Nat) : Int) := by omega
      have hat : atI (someL.map V.str) ((turn + (0 + (i : Nat))) % 18) = some (V.str (w2 turn.toNat i)) := by
        rw [ei]
        refine atI_nat ?_
        rw [List.getElem?_map]
        unfold w2
        have hl : (turn.toNat + i) % 18 < someL.length := Nat.mod_lt _ (by decide)
        rw [List.getElem?_eq_getElem hl, List.getD_eq_getElem?_getD, List.getElem?_eq_getElem hl]
        rfl
      refine ⟨rfl, ?_⟩
      dsimp only [tYes]
      refine iteT ?_
      refine ⟨_, rfl, _, rfl, _, rfl, _, _, rfl, rfl, _, _, rfl, rfl, (by show (0 : Int) < 18; decide), p3, _, _, _, rfl, rfl, SqL.of (s6 _ _ h3), hat, ?_⟩
      refine ⟨_, h6, Nat.lt_of_le_of_lt (m := 100) (by rw [List.length_map, List.length_map, List.length_range]; omega) (by decide), same_mut s6 hD, ?_⟩
      rw [upd_same, ← range_push]
    · rintro H' ⟨s6, h6⟩
      exact fin _ (good_w2 turn.toNat (by omega)) _ D H' b3 t3 hD s6 h6
end
end KB

namespace KB
open PySem L2

/-! ### turned books -/
def But2 (tp wl : Addr) (H H' : Hp) : Prop := ∀ b o, b ≠ tp → b ≠ wl → H b = some o → H' b = some o
theorem But2.refl (tp wl : Addr) (H : Hp) : But2 tp wl H H := fun _ _ _ _ h => h
abbrev TEr := Str × List Str × Pt
def TErV (H : Hp) (e : TEr) (v : V) : Prop := ∃ q r b, v = .ref q ∧ H q = some (.tup [.str e.1, .ref r, .ref b]) ∧ H r = some (.tup (e.2.1.map V.str)) ∧ PAt H e.2.2 b
theorem TErV.tk {H H' : Hp} (t : TK H H') {e : TEr} {v : V} (h : TErV H e v) : TErV H' e v :=
  let ⟨q, r, b, e1, h1, h2, h3⟩ := h; ⟨q, r, b, e1, t _ _ h1, t _ _ h2, h3.tk t⟩
def TBkAt (H : Hp) (es : List TEr) (vs : List V) (p : Addr) : Prop := H p = some (.tup vs) ∧ All2 (TErV H) es vs
structure GdTE (hF : Str → Option Nat) (e : TEr) : Prop where
  w : isW e.1 = true
  ws : ∀ x ∈ e.2.1, isW x = true
  n4 : e.2.1.length ≤ 4
  ok : okP hF e.2.2 e.2.1 ["home"]
  cn : pcnt e.2.2 ≤ 13
  hf : hF e.1 = some e.2.1.length
  un : (e.2.1 ++ wP e.2.2).Nodup
  uj : (jP e.2.2).Nodup
structure GdTB (es : List TEr) : Prop where
  len : 1 ≤ es.length ∧ es.length ≤ 6
  nd : (es.map (·.1)).Nodup
  er : ∃ hF : Str → Option Nat, (∀ e ∈ es, GdTE hF e) ∧ ∀ f n, hF f = some n → f ∈ es.map (·.1)
def knT4 (el hd wl : Addr) (room : Int) : List (Key × V) := [(kgE, .ref el), (kgH, .ref hd), (kgW, .ref wl), (kgR, .int room)]
theorem merge_kn4 (el hd wl : Addr) (room : Int) : mergeK [] (knT4 el hd wl room) = knT4 el hd wl room := rfl
def hFof (fs : List Str) (kvs : List (Key × V)) (f : Str) : Option Nat :=
  if f ∈ fs then (match valV kvs (Sum.inr f) with | some (.int n) => some n.toNat | _ => none) else none
theorem hFof_at {fs : List Str} {kvs : List (Key × V)} {f : Str} {n : Int} (h : f ∈ fs) (e : valV kvs (Sum.inr f) = some (.int n)) : hFof fs kvs f = some n.toNat := by
  unfold hFof
  rw [if_pos h, e]
theorem hFof_in {fs : List Str} {kvs : List (Key × V)} {f : Str} {n : Nat} (h : hFof fs kvs f = some n) : f ∈ fs := by
  unfold hFof at h
  by_cases c : f ∈ fs
  · exact c
  · rw [if_neg c] at h
    cases h

theorem cut_to {xs : List V} {i : Int} (h0 : 0 ≤ i) (h : i.toNat ≤ xs.length) : cutV xs none (some i) = xs.take i.toNat := by
  unfold cutV
  rw [sIx_no, sIx_at h0 h, List.drop_zero, Nat.sub_zero]

section
variable {P : Program} {w : World} {K : PySem.W.Frag} {mg : Str → Option Value} {base : Heap}
/-! ### _law_turned_book -/
def spTBook (K : PySem.W.Frag) : Sp := fun vs H Q _ => ∃ (sc : Addr) (ns : List Int) (start : Int) (st : Bool), vs = [.ref sc, .int start, .bl st] ∧ SqL K H sc (ns.map V.int) ∧ 0 ≤ start ∧ start ≤ 100 ∧ ∀ p es us H', Same H H' → TBkAt H' es us p → GdTB es → Q (.ref p) H'
abbrev s_law_turned_book : Stmt := top 39
theorem scLturned_book : FnScope ["script", "start", "straight", "head", "errands", "heads", "f", "room", "found", "k", "tape", "words", "names", "known"] ["script", "start", "straight"] (defScope s_law_turned_book) := ⟨rfl, rfl, rfl, by decide +kernel, rfl, by decide +kernel, by decide +kernel⟩
theorem ok_tbook (T : Txt K mg) {f fg ft fw fb : Addr} {fd gd td wd bd : FuncData} (F : Fun K "_law_turned_book" "_law_turned_book" s_law_turned_book f fd) (G_law_digit : FnOk P w K mg base CX0 1 fg gd ["tape", "many"] spDig) (R_law_digit : Ref K mg "_law_digit" fg gd ["tape", "many"])
    (G_law_tape : FnOk P w K mg base CX0 2 ft td ["script", "k"] (spTape K)) (R_law_tape : Ref K mg "_law_tape" ft td ["script", "k"]) (G_law_words : FnOk P w K mg base CX0 2 fw wd ["tape", "many"] spWords) (R_law_words : Ref K mg "_law_words" fw wd ["tape", "many"])
    (G_law_turned_body : FnOk P w K mg base CX0 16 fb bd ["tape", "known", "names"] spTBody) (R_law_turned_body : Ref K mg "_law_turned_body" fb bd ["tape", "known", "names"]) : FnOk P w K mg base CX0 17 f fd ["script", "start", "straight"] (spTBook K) := by
  refine F.ok scLturned_book (fun vs H Q E h => ?_) (fun cdv A outer s H vs Q E hr h => ?_)
  · obtain ⟨sc, ns, start, st, rfl, _⟩ := h
    rfl
  obtain ⟨sc, ns, start, st, rfl, hS, hst0, hst1, q⟩ := h
  refine ⟨_, (pss_cons (ps_set (i := 3) scLturned_book.nd rfl (Or.inl rfl) (pe_call G_law_tape (hr.mono (by omega)) rfl R_law_tape.m R_law_tape.k R_law_tape.b .nil pass0 (pa_cons (pv 0) (pa_cons (pv 1) pa_nil))))
    (pss_cons (ps_set (i := 4) scLturned_book.nd rfl (Or.inl rfl) (pe_call G_law_words (hr.mono (by omega)) rfl R_law_words.m R_law_words.k R_law_words.b .nil pass0 (pa_cons (pv 3) (pa_cons (pe_ix ix_list (pe_lst (pa_cons pe_int (pa_cons pe_int (pa_cons pe_int (pa_cons pe_int (pa_cons pe_int (pa_cons pe_int pa_nil))))))) (pe_call G_law_digit (hr.mono (by omega)) rfl R_law_digit.m R_law_digit.k R_law_digit.b .nil pass0 (pa_cons (pv 3) (pa_cons pe_int pa_nil))) (fun _ _ => rfl)) pa_nil))))
    (pss_cons (ps_set (i := 5) scLturned_book.nd rfl (Or.inl rfl) pe_dnewK)
    (pss_cons (ps_for PassesOwn.never rfl (pi_list (pv 4)) (pg_name (i := 6) scLturned_book.nd rfl (Or.inl rfl)) (pss_one (ps_dput (hu_of hr) (pv 5) (pv 6) (pe_ix ix_list (pe_lst (pa_cons pe_int (pa_cons pe_int (pa_cons pe_int (pa_cons pe_int (pa_cons pe_int (pa_cons pe_int pa_nil))))))) (pe_call G_law_digit (hr.mono (by omega)) rfl R_law_digit.m R_law_digit.k R_law_digit.b .nil pass0 (pa_cons (pv 3) (pa_cons pe_int pa_nil))) (fun _ _ => rfl)) rfl)))
    (pss_cons (ps_set (i := 7) scLturned_book.nd rfl (Or.inl rfl) (pe_ix ix_list (pe_lst (pa_cons pe_int (pa_cons pe_int (pa_cons pe_int (pa_cons pe_int pa_nil))))) (pe_call G_law_digit (hr.mono (by omega)) rfl R_law_digit.m R_law_digit.k R_law_digit.b .nil pass0 (pa_cons (pv 3) (pa_cons pe_int pa_nil))) (fun _ _ => rfl)))
    (pss_cons (ps_set (i := 8) scLturned_book.nd rfl (Or.inl rfl) (pe_lst pa_nil))
    (pss_cons (ps_for PassesOwn.never rfl (pi_range1 rfl T.m_range (pa_cons (pe_callB call_len_seq (by rfl) T.m_len PySem.boot_len (pa_cons (pv 4) pa_nil)) pa_nil)) (pg_name (i := 9) scLturned_book.nd rfl (Or.inl rfl)) (pss_cons (ps_set (i := 10) scLturned_book.nd rfl (Or.inl rfl) (pe_call G_law_tape (hr.mono (by omega)) rfl R_law_tape.m R_law_tape.k R_law_tape.b .nil pass0 (pa_cons (pv 0) (pa_cons (pe_op op_add (pe_op op_add (pv 1) pe_int) (pv 9)) pa_nil))))
    (pss_cons (ps_set (i := 11) scLturned_book.nd rfl (Or.inl rfl) (pe_call G_law_words (hr.mono (by omega)) rfl R_law_words.m R_law_words.k R_law_words.b .nil pass0 (pa_cons (pv 10) (pa_cons pe_int pa_nil))))
    (pss_cons (ps_set (i := 12) scLturned_book.nd rfl (Or.inl rfl) (pe_slice sl_list (pv 11) po_none (po_some (pe_dget (hu_of hr) (pv 5) (pe_ix ix_list (pv 4) (pv 9) (fun _ _ => rfl)) (fun _ _ => rfl)))))
    (pss_cons (ps_set (i := 13) scLturned_book.nd rfl (Or.inl rfl) (pe_disp (pps_cons pe_str (pv 4) (pps_cons pe_str (pv 5) (pps_cons pe_str (pe_slice sl_list (pv 11) (po_some (pe_callB call_len_seq (by rfl) T.m_len PySem.boot_len (pa_cons (pv 12) pa_nil))) po_none) (pps_cons pe_str (pv 7) pps_nil)))) (by rfl) (by rfl) (fun z => by cases z) (by decide)))
    (pss_cons (ps_dput (hu_of hr) (pv 13) pe_str (pe_call G_law_words (hr.mono (by omega)) rfl R_law_words.m R_law_words.k R_law_words.b .nil pass0 (pa_cons (pv 10) (pa_cons pe_int pa_nil))) rfl)
    (pss_cons (ps_dput (hu_of hr) (pv 13) pe_str (pv 2) rfl)
    (pss_one (ps_expr (pe_bm PySem.F.plainAttrs_list PySem.F.slot_list_append PySem.F.type_list_append mt_append (pv 8) (pa_cons (pe_tup (pa_cons (pe_ix ix_list (pv 4) (pv 9) (fun _ _ => rfl)) (pa_cons (pe_callTy call_tuple_of (by rfl) T.m_tuple (by decide +kernel) (pa_cons (pv 12) pa_nil)) (pa_cons (pe_call G_law_turned_body hr rfl R_law_turned_body.m R_law_turned_body.k R_law_turned_body.b .nil pass0 (pa_cons (pv 10) (pa_cons (pv 13) (pa_cons (pv 12) pa_nil)))) pa_nil)))) pa_nil)))))))))))
    (pss_one (ps_ret (pe_callTy call_tuple_of (by rfl) T.m_tuple (by decide +kernel) (pa_cons (pv 8) pa_nil))))))))))), ?_⟩
  refine ⟨_, rfl, _, rfl, sc, ns, start, rfl, hS, hst0, by omega, fun hp z0 hhp => ?_⟩
  have s1 := same_new hhp (.lst [.int z0])
  have t1 : Tp (upd H hp (.lst [.int z0])) hp := ⟨z0, upd_same⟩
  -- errands
  refine ⟨_, rfl, sz (by show 6 ≤ 100000; decide), fun p2 hp2 => ?_⟩
  have s2 := same_new hp2 (.lst [.int 1, .int 2, .int 2, .int 3, .int 4, .int 6])
  have t2 := t1.same s2
  have n2 : p2 ≠ hp := (ne_of_none upd_same hp2).symm
  refine ⟨_, rfl, hp, 6, rfl, t2, by decide, by decide, fun r H3 r0 r1 b3 t3 => ?_⟩
  have hme : ∃ m : Int, atI [V.int 1, .int 2, .int 2, .int 3, .int 4, .int 6] r = some (.int m) ∧ 1 ≤ m ∧ m ≤ 6 := by
    obtain ⟨v, hv, hm⟩ := at_some (xs := [V.int 1, .int 2, .int 2, .int 3, .int 4, .int 6]) r0 r1
    simp only [List.mem_cons, List.not_mem_nil, or_false] at hm
    rcases hm with z | z | z | z | z | z <;> subst z <;> exact ⟨_, hv, by decide, by decide⟩
  obtain ⟨m, hma, hm1, hm6⟩ := hme
  refine ⟨p2, _, _, _, rfl, rfl, SqL.of (b3 _ _ n2 upd_same), hma, ?_⟩
  refine ⟨hp, m, rfl, t3, by omega, by omega, fun el fs H4 b4 t4 hel w4 hfl hnd => ?_⟩
  have sH3 : Same H H3 := fun b o h => b3 _ _ (ne_of_none h hhp) (s2 _ _ (s1 _ _ h))
  have sH4 : Same H H4 := fun b o h => b4 _ _ (ne_of_none h hhp) (sH3 _ _ h)
  -- heads
  intro hd hhd
  have s5 := same_new hhd (.dK [])
  have t5 := t4.same s5
  have w5 := w4.but (but_same s5) t4
  have hhd0 : H hd = none := by
    cases e : H hd with
    | none => rfl
    | some o =>
      rw [sH4 _ _ e] at hhd
      cases hhd
  have nhd : hd ≠ hp := by
    obtain ⟨z, hz⟩ := t4
    exact (ne_of_none hz hhd).symm
  have neh : el ≠ hd := ne_of_none w4.1 hhd
  have hlen6 : fs.length ≤ 6 := by omega
  have sH5 : Same H (upd H4 hd (.dK [])) := sH4.trans s5
  have h5d : upd H4 hd (.dK []) hd = some (.dK []) := upd_same
  generalize upd H4 hd (.dK []) = H5 at s5 t5 w5 sH5 h5d
  refine ⟨_, rfl, el, rfl, ⟨_, SqL.of w5.1⟩, for_list (K := K) (a := el) (xs := fs.map V.str) (fun i σ H' => ∃ o kvs, σ = [some (.ref sc), some (.int start), some (.bl st), some (.ref hp), some (.ref el), some (.ref hd), o, none, none, none, none, none, none, none] ∧
    But2 hp hd H5 H' ∧ Tp H' hp ∧ H' hd = some (.dK kvs) ∧ kvs.length ≤ i ∧ ∀ f ∈ fs.take i, ∃ n : Int, valV kvs (Sum.inr f) = some (.int n) ∧ 0 ≤ n ∧ n ≤ 4) ?_ ?_ ?_ ?_⟩
  · refine ⟨none, [], rfl, But2.refl _ _ _, t5, h5d, Nat.le_refl _, fun f hf => ?_⟩
    rw [List.take_zero] at hf
    cases hf
  · rintro i σ H' _ ⟨o, kvs, rfl, b6, _⟩
    exact SqL.of (b6 _ _ (wls_tp w5.1 t5) neh w5.1)
  · rintro i x σ H6 hx ⟨o, kvs, rfl, b6, t6, h6, hkl, hkv⟩
    rw [List.getElem?_map] at hx
    obtain ⟨fn, hfn, rfl⟩ : ∃ fn, fs[i]? = some fn ∧ V.str fn = x := by
      cases e : fs[i]? with
      | none =>
        rw [e] at hx
        cases hx
      | some fn =>
        rw [e] at hx
        exact ⟨fn, rfl, Option.some.inj hx⟩
    obtain ⟨hi, hi2⟩ := List.getElem?_eq_some_iff.mp hfn
    refine ⟨sz (by show 6 ≤ 100000; decide), fun p7 hp7 => ?_⟩
    have s7 := same_new hp7 (.lst [.int 1, .int 2, .int 1, .int 0, .int 3, .int 4])
    have n7 : p7 ≠ hp := by
      obtain ⟨z, hz⟩ := t6
      exact (ne_of_none hz hp7).symm
    refine ⟨_, rfl, hp, 6, rfl, t6.same s7, by decide, by decide, fun r2 H8 r3 r4 b8 t8 => ?_⟩
    have hne : ∃ m : Int, atI [V.int 1, .int 2, .int 1, .int 0, .int 3, .int 4] r2 = some (.int m) ∧ 0 ≤ m ∧ m ≤ 4 := by
      obtain ⟨v, hv, hm⟩ := at_some (xs := [V.int 1, .int 2, .int 1, .int 0, .int 3, .int 4]) r3 r4
      simp only [List.mem_cons, List.not_mem_nil, or_false] at hm
      rcases hm with z | z | z | z | z | z <;> subst z <;> exact ⟨_, hv, by decide, by decide⟩
    obtain ⟨m2, hma2, hm20, hm24⟩ := hne
    have h8 : H8 hd = some (.dK kvs) := b8 _ _ nhd (s7 _ _ h6)
    refine ⟨p7, _, _, _, rfl, rfl, SqL.of (b8 _ _ n7 upd_same), hma2, _, rfl, _, rfl, hd, _, rfl, DPut.k (k := Sum.inr fn) h8 (Nat.lt_of_le_of_lt (m := 1000) (by omega) (by decide)), ?_⟩
    refine ⟨_, _, rfl, fun b o n1 n2 hb => ?_, ?_, upd_same, ?_, ?_⟩
    · rw [upd_ne n2]
      exact b8 _ _ n1 (s7 _ _ (b6 _ _ n1 n2 hb))
    · obtain ⟨z, hz⟩ := t8
      exact ⟨z, by rw [upd_ne nhd.symm]; exact hz⟩
    · have := length_putK kvs (Sum.inr fn) (V.int m2)
      omega
    · intro f' hf'
      rw [List.take_succ_eq_append_getElem hi, hi2] at hf'
      by_cases e : f' = fn
      · subst e
        exact ⟨m2, by rw [valV_put, if_pos rfl], hm20, hm24⟩
      · rcases List.mem_append.mp hf' with z | z
        · obtain ⟨n3, q1, q2, q3⟩ := hkv f' z
          refine ⟨n3, ?_, q2, q3⟩
          rw [valV_put, if_neg (fun y => e (Sum.inr.inj y))]
          exact q1
        · exact absurd (List.mem_singleton.mp z) e
  rintro σ H6 ⟨o5, kvs, rfl, b6, t6, h6, _, hkv⟩
  rw [List.length_map, List.take_length] at hkv
  have w6 : Wls H6 el fs := ⟨b6 _ _ (wls_tp w5.1 t5) neh w5.1, w5.2⟩
  have sH6 : Same H H6 := fun b o hb => b6 _ _ (ne_of_none hb hhp) (ne_of_none hb hhd0) (sH5 _ _ hb)
  -- room
  refine ⟨sz (by show 4 ≤ 100000; decide), fun p7 hp7 => ?_⟩
  have s7 := same_new hp7 (.lst [.int 3, .int 5, .int 7, .int 9])
  have n7 : p7 ≠ hp := by
    obtain ⟨z, hz⟩ := t6
    exact (ne_of_none hz hp7).symm
  refine ⟨_, rfl, hp, 4, rfl, t6.same s7, by decide, by decide, fun r2 H8 r3 r4 b8 t8 => ?_⟩
  have hre : ∃ m : Int, atI [V.int 3, .int 5, .int 7, .int 9] r2 = some (.int m) ∧ 3 ≤ m ∧ m ≤ 9 := by
    obtain ⟨v, hv, hm⟩ := at_some (xs := [V.int 3, .int 5, .int 7, .int 9]) r3 r4
    simp only [List.mem_cons, List.not_mem_nil, or_false] at hm
    rcases hm with z | z | z | z <;> subst z <;> exact ⟨_, hv, by decide, by decide⟩
  obtain ⟨room, hra, hr8, hr40⟩ := hre
  refine ⟨p7, _, _, _, rfl, rfl, SqL.of (b8 _ _ n7 upd_same), hra, ?_⟩
  have sH8 : Same H H8 := fun b o hb => b8 _ _ (ne_of_none hb hhp) (s7 _ _ (sH6 _ _ hb))
  have w8 : Wls H8 el fs := ⟨b8 _ _ (wls_tp w6.1 t6) (s7 _ _ w6.1), w6.2⟩
  have h8 : H8 hd = some (.dK kvs) := b8 _ _ nhd (s7 _ _ h6)
  have hS8 : SqL K H8 sc (ns.map V.int) := sH8.seq hS
  clear h6 w6 sH6 s7 b8 t8 hp7 b6 t6
  -- found
  refine ⟨sz (by show 0 ≤ 100000; decide), fun fl hflN => ?_⟩
  have s9 := same_new hflN (.lst [])
  refine ⟨_, rfl, el, _, rfl, .inl (SqL.of (s9 _ _ w8.1)), _, rfl, by omega, by rw [List.length_map]; omega, ?_⟩
  have hnl : (((fs.map V.str).length : Nat) : Int).toNat = fs.length := by
    rw [Int.toNat_natCast, List.length_map]
  refine for_range (lo := 0) (n := (((fs.map V.str).length : Nat) : Int).toNat) (fun i σ H' => ∃ o8 o9 o10 o11 o12 vs es, σ = [some (.ref sc), some (.int start), some (.bl st), some (.ref hp), some (.ref el), some (.ref hd), o5, some (.int room), some (.ref fl), o8, o9, o10, o11, o12] ∧
    Same H8 H' ∧ H' fl = some (.lst vs) ∧ All2 (TErV H') es vs ∧ es.length = i ∧ es.map (·.1) = fs.take i ∧ ∀ e ∈ es, GdTE (hFof fs kvs) e) ?_ ?_ ?_
  · exact ⟨_, _, _, _, _, [], [], rfl, s9, upd_same, trivial, rfl, rfl, fun _ z => nomatch z⟩
  · rintro i σ H' hi ⟨o8, o9, o10, o11, o12, vs, es, rfl, sA, hfA, kA, hel2, hnm, hgd⟩
    rw [hnl] at hi
    have hfi : fs[i]? = some fs[i] := List.getElem?_eq_getElem hi
    have hfm := List.getElem_mem hi
    generalize fs[i] = fn at hfi hfm
    have ei : (0 : Int) + (i : Nat) = ((i : Nat) : Int) := by omega
    have hat : atI (fs.map V.str) ((0 : Int) + (i : Nat)) = some (V.str fn) := by
      rw [ei]
      exact atI_nat (by rw [List.getElem?_map, hfi]; rfl)
    obtain ⟨nn, hnn, hn0, hn4⟩ := hkv fn hfm
    -- tape
    refine ⟨_, rfl, _, rfl, _, _, rfl, rfl, _, rfl, _, _, rfl, rfl, sc, ns, _, rfl, sA.seq hS8, by omega, by omega, fun tp z htp => ?_⟩
    have sB := same_new htp (.lst [.int z])
    have tB : Tp (upd H' tp (.lst [.int z])) tp := ⟨z, upd_same⟩
    refine ⟨_, rfl, tp, 16, rfl, tB, by decide, by decide, fun wp ws HC bC tC hwp wC hwl hwnd => ?_⟩
    have hwl16 : ws.length = 16 := by omega
    have sC : Same H' HC := fun b o hb => bC _ _ (ne_of_none hb htp) (sB _ _ hb)
    have wCe : Wls HC el fs := ⟨sC _ _ (sA _ _ w8.1), w8.2⟩
    have hCd : HC hd = some (.dK kvs) := sC _ _ (sA _ _ h8)
    -- names
    refine ⟨_, rfl, _, rfl, _, rfl, _, rfl, el, _, _, _, rfl, rfl, SqL.of wCe.1, hat, hd, _, rfl, get_of hCd hnn, _, rfl, wp, _, rfl, SqL.of wC.1, fun np hnp => ?_⟩
    have eN : cutV (ws.map V.str) none (some nn) = (ws.take nn.toNat).map V.str := by
      rw [cut_to hn0 (by rw [List.length_map]; omega), List.map_take]
    rw [eN]
    have sD := same_new hnp (.lst ((ws.take nn.toNat).map V.str))
    have hD : upd HC np (.lst ((ws.take nn.toNat).map V.str)) np = some (.lst ((ws.take nn.toNat).map V.str)) := upd_same
    have tD := tC.same sD
    generalize upd HC np (.lst ((ws.take nn.toNat).map V.str)) = HD at sD hD tD
    -- known
    intro kd hkd
    have sE := same_new hkd (.dK [])
    refine ⟨_, rfl, _, rfl, _, rfl, _, rfl, np, _, rfl, .inl (SqL.of (sE _ _ hD)), _, rfl, wp, _, rfl, SqL.of (sE _ _ (sD _ _ wC.1)), fun wl hwlN => ?_⟩
    have eW : cutV (ws.map V.str) (some ((((ws.take nn.toNat).map V.str).length : Nat) : Int)) none = (ws.drop nn.toNat).map V.str := by
      have e1 : ((ws.take nn.toNat).map V.str).length = nn.toNat := by
        rw [List.length_map, List.length_take]
        omega
      rw [e1, cut_from (by omega) (by rw [List.length_map]; omega), List.map_drop, Int.toNat_natCast]
    rw [eW]
    have sF := same_new hwlN (.lst ((ws.drop nn.toNat).map V.str))
    have hkF : upd (upd HD kd (.dK [])) wl (.lst ((ws.drop nn.toNat).map V.str)) kd = some (.dK []) := sF _ _ upd_same
    have hwF : upd (upd HD kd (.dK [])) wl (.lst ((ws.drop nn.toNat).map V.str)) wl = some (.lst ((ws.drop nn.toNat).map V.str)) := upd_same
    have nwk : wl ≠ kd := (ne_of_none upd_same hwlN).symm
    have nwn : np ≠ wl := ne_of_none (sE _ _ hD) hwlN
    have sDF := sE.trans sF
    have nwe : el ≠ wl := ne_of_none (sE _ _ (sD _ _ wCe.1)) hwlN
    have hwl0 : H' wl = none := by
      cases e : H' wl with
      | none => rfl
      | some o =>
        rw [sE _ _ (sD _ _ (sC _ _ e))] at hwlN
        cases hwlN
    generalize upd (upd HD kd (.dK [])) wl (.lst ((ws.drop nn.toNat).map V.str)) = HF at sDF hkF hwF
    refine ⟨_, rfl, hkF, knT4 el hd wl room, rfl, by show 4 ≤ 15; decide, ?_⟩
    rw [merge_kn4]
    have sG4 : Same HD (upd HF kd (.dK (knT4 el hd wl room))) := fun b o hb => by
      have nb : b ≠ kd := ne_of_none hb hkd
      rw [upd_ne nb]
      exact sDF _ _ hb
    have hkG4 : upd HF kd (.dK (knT4 el hd wl room)) kd = some (.dK (knT4 el hd wl room)) := upd_same
    have hwG4 : upd HF kd (.dK (knT4 el hd wl room)) wl = some (.lst ((ws.drop nn.toNat).map V.str)) := by
      rw [upd_ne nwk]
      exact hwF
    generalize upd HF kd (.dK (knT4 el hd wl room)) = HG4 at sG4 hkG4 hwG4 ⊢
    -- posts, straight
    have tG4 : Tp HG4 tp := (tC.same sD).same sG4
    have nkt : kd ≠ tp := by
      obtain ⟨z, hz⟩ := tC.same sD
      exact (ne_of_none hz hkd).symm
    have big4 : (knT4 el hd wl room).length < sizeLine := Nat.lt_of_lt_of_le (by show 4 < 1000; decide : _ < 1000) (by decide)
    have big5 : ∀ pl : Addr, (putK (knT4 el hd wl room) kgP (.ref pl)).length < sizeLine := fun pl => Nat.lt_of_lt_of_le (by show 5 < 1000; decide : _ < 1000) (by decide)
    refine ⟨_, rfl, tp, 16, rfl, tG4, by decide, by decide, fun pl js HP bP tP hplN wPl hjl hjnd => ?_⟩
    have hjl16 : js.length = 16 := by omega
    have hkP := bP _ _ nkt hkG4
    have npk : pl ≠ kd := fun z => by
      rw [z] at hplN
      rw [hkG4] at hplN
      cases hplN
    refine ⟨_, rfl, kd, _, rfl, DPut.k (k := kgP) hkP big4, ?_⟩
    refine ⟨_, rfl, _, rfl, kd, _, rfl, DPut.k (k := kgS) upd_same (big5 pl), ?_⟩
    have hkG : (upd (upd HP kd (.dK (putK (knT4 el hd wl room) kgP (.ref pl)))) kd (.dK (putK (putK (knT4 el hd wl room) kgP (.ref pl)) kgS (.bl st)))) kd = some (.dK (knT el hd wl pl room st)) := upd_same
    have oth : ∀ b o, b ≠ kd → HP b = some o → (upd (upd HP kd (.dK (putK (knT4 el hd wl room) kgP (.ref pl)))) kd (.dK (putK (putK (knT4 el hd wl room) kgP (.ref pl)) kgS (.bl st)))) b = some o := fun b o n h => by
      rw [upd_ne n, upd_ne n]
      exact h
    generalize (upd (upd HP kd (.dK (putK (knT4 el hd wl room) kgP (.ref pl)))) kd (.dK (putK (putK (knT4 el hd wl room) kgP (.ref pl)) kgS (.bl st)))) = HG at hkG oth ⊢
    have bDG : ∀ b o, b ≠ tp → HD b = some o → HG b = some o := fun b o nb hb => oth b o (ne_of_none hb hkd) (bP b o nb (sG4 b o hb))
    have tG : Tp HG tp := by
      obtain ⟨z, hz⟩ := tP
      exact ⟨z, oth _ _ nkt.symm hz⟩
    have nwt : wl ≠ tp := wls_tp hwG4 tG4
    have hwG : HG wl = some (.lst ((ws.drop nn.toNat).map V.str)) := oth _ _ nwk (bP _ _ nwt hwG4)
    have nwp : wl ≠ pl := ne_of_none hwG4 hplN
    have wPG : Wls HG pl js := ⟨oth _ _ npk wPl.1, wPl.2⟩
    have net : el ≠ tp := wls_tp wCe.1 tC
    have ndt : hd ≠ tp := by
      obtain ⟨z, hz⟩ := tC
      exact ne_of hCd hz (fun y => by cases y)
    have nep : el ≠ pl := ne_of_none (sG4 _ _ (sD _ _ wCe.1)) hplN
    have nnp : np ≠ pl := ne_of_none (sG4 _ _ hD) hplN
    have nnt : np ≠ tp := wls_tp hD (tC.same sD)
    have hpl0 : H' pl = none := by
      cases e : H' pl with
      | none => rfl
      | some o =>
        rw [sG4 _ _ (sD _ _ (sC _ _ e))] at hplN
        cases hplN
    have gG : GT HG tp kd wl pl (hFof fs kvs) (ws.drop nn.toNat) js := ⟨tG, ⟨hwG, fun x hx => wC.2 x (List.mem_of_mem_drop hx)⟩, wPG, by rw [List.length_drop]; omega, by omega, nwp,
      el, hd, fs, kvs, room, st, hkG, by omega, hr40, nwe, nep, ⟨bDG _ _ net (sD _ _ wCe.1), wCe.2⟩, by omega, by omega, bDG _ _ ndt (sD _ _ hCd), fun f hf => let ⟨n, e1, e2, e3⟩ := hkv f hf; ⟨n, e1, e2, e3, hFof_at hf e1⟩⟩
    have sXG : Same H' HG := fun b o hb => bDG b o (ne_of_none hb htp) (sD _ _ (sC b o hb))
    have wG : Wls HG np (ws.take nn.toNat) := ⟨bDG _ _ nnt hD, fun x hx => wC.2 x (List.mem_of_mem_take hx)⟩
    -- the errand
    refine ⟨_, rfl, .inl ⟨rfl, _, SqL.of (sXG _ _ hfA)⟩, _, rfl, _, rfl, el, _, _, _, rfl, rfl, SqL.of (bDG _ _ net (sD _ _ wCe.1)), hat, _, rfl, np, _, rfl, .inl ⟨SqL.of wG.1, fun tl htl => ?_⟩⟩
    have sH := same_new htl (.tup ((ws.take nn.toNat).map V.str))
    refine ⟨_, rfl, _, rfl, _, rfl, tp, kd, wl, pl, np, hFof fs kvs, ws.drop nn.toNat, js, ws.take nn.toNat, rfl, gG.same sH, wG.but (but_same sH) gG.t, nwn, nnp, by rw [List.length_drop]; omega, by rw [List.length_take, List.length_drop]; omega, by omega, fun a t HI wsI jsI ls ms O => ?_⟩
    refine ⟨sz (by show 3 ≤ 100000; decide), fun ep hep => ?_⟩
    have sJ := same_new hep (.tup [.str fn, .ref tl, .ref a])
    have tkI : TK (upd HG tl (.tup ((ws.take nn.toNat).map V.str))) HI := (gG.same sH).tk O.b
    have sX : Same H' HI := fun b o hb => O.b _ _ (ne_of_none hb htp) (ne_of_none hb hwl0) (ne_of_none hb hpl0) (sH _ _ (sXG _ _ hb))
    have sXJ := sX.trans sJ
    have hfJ := sXJ _ _ hfA
    have hvl := kA.len
    refine ⟨fl, _, _, rfl, rfl, hfJ, Nat.lt_of_le_of_lt (m := 1000) (by omega) (by decide), ?_⟩
    have tkJ := (tk_same sXJ).trans (tk_put (o := .lst (vs ++ [.ref ep])) hfJ)
    have tkP := tk_put (o := .lst (vs ++ [.ref ep])) hfJ
    refine ⟨_, _, _, _, _, vs ++ [.ref ep], es ++ [(fn, ws.take nn.toNat, t)], rfl, same_mut (sA.trans sXJ) hflN, upd_same, ?_, ?_, ?_, ?_⟩
    · refine (kA.imp fun _ _ z => z.tk tkJ).app ⟨⟨ep, tl, a, rfl, tkP _ _ upd_same, tkP _ _ (sJ _ _ (tkI _ _ upd_same)), (O.at_.tk (tk_same sJ)).tk tkP⟩, trivial⟩
    · rw [List.length_append, hel2]
      rfl
    · rw [List.map_append, hnm, List.take_succ_eq_append_getElem hi]
      have e : fs[i] = fn := by
        rw [List.getElem?_eq_getElem hi] at hfi
        exact Option.some.inj hfi
      rw [e]
      rfl
    · intro e he
      rcases List.mem_append.mp he with z | z
      · exact hgd e z
      · rw [List.mem_singleton.mp z]
        have etk : (ws.take nn.toNat).length = nn.toNat := by
          rw [List.length_take]
          omega
        refine ⟨w8.2 fn hfm, fun x hx => wC.2 x (List.mem_of_mem_take hx), by show (ws.take nn.toNat).length ≤ 4; omega, O.ok, O.cn, ?_, ?_, ?_⟩
        · show hFof fs kvs fn = some (ws.take nn.toNat).length
          rw [etk]
          exact hFof_at hfm hnn
        · show (ws.take nn.toNat ++ wP t).Nodup
          have e9 : ws = ws.take nn.toNat ++ (wsI ++ ls.reverse) := by rw [← O.e1, List.take_append_drop]
          rw [e9] at hwnd
          rw [List.nodup_append] at hwnd ⊢
          obtain ⟨n1, n2, n3⟩ := hwnd
          have n4 := (List.nodup_append.mp n2).2.1
          have n5 : ls.Nodup := (List.reverse_perm ls).nodup_iff.mp n4
          exact ⟨n1, n5.sublist O.s1, fun a ha b hb => n3 a ha b (List.mem_append_right _ (List.mem_reverse.mpr (O.s1.subset hb)))⟩
        · show (jP t).Nodup
          have n2 := hjnd
          rw [O.e2] at n2
          have n4 := (List.nodup_append.mp n2).2.1
          have n5 : ms.Nodup := (List.reverse_perm ms).nodup_iff.mp n4
          exact n5.sublist O.s2
  · rintro σ H' ⟨o8, o9, o10, o11, o12, vs, es, rfl, sA, hfA, kA, hel2, hnm, hgd⟩
    rw [hnl] at hel2 hnm
    rw [List.take_length] at hnm
    refine ⟨_, rfl, fl, _, rfl, .inl ⟨SqL.of hfA, fun p hp9 => ?_⟩⟩
    have sK := same_new hp9 (.tup vs)
    refine q p es vs _ ((sH8.trans sA).trans sK) ⟨upd_same, kA.imp fun _ _ z => z.tk (tk_same sK)⟩ ⟨by omega, by rw [hnm]; exact hnd, _, hgd, fun f n hf => by rw [hnm]; exact hFof_in hf⟩
end
end KB

namespace KB
open PySem L2 HT
theorem layAll : ∀ {ds : List PyData}, (∀ d ∈ ds, d.canLay0 = true) → PySem.PyData.canLayAll0 ds = true
  | [], _ => rfl
  | d :: r, h => by
    show (d.canLay0 && PySem.PyData.canLayAll0 r) = true
    rw [h d List.mem_cons_self, layAll fun x hx => h x (List.mem_cons_of_mem _ hx)]
    rfl
theorem depthAll_le {m : Nat} : ∀ {ds : List PyData}, (∀ d ∈ ds, d.depth ≤ m) → PySem.PyData.depthAll ds ≤ m
  | [], _ => Nat.zero_le _
  | d :: r, h => by
    show max d.depth (PySem.PyData.depthAll r) ≤ m
    have h1 := h d List.mem_cons_self
    have h2 := depthAll_le fun x hx => h x (List.mem_cons_of_mem _ hx)
    omega
theorem depth_tup {m : Nat} {ds : List PyData} (h : ∀ d ∈ ds, d.depth ≤ m) : (PyData.tuple ds).depth ≤ m + 1 := by
  show PySem.PyData.depthAll ds + 1 ≤ m + 1
  have := depthAll_le h
  omega
theorem depth_lst {m : Nat} {ds : List PyData} (h : ∀ d ∈ ds, d.depth ≤ m) : (PyData.list ds).depth ≤ m + 1 := by
  show PySem.PyData.depthAll ds + 1 ≤ m + 1
  have := depthAll_le h
  omega
theorem lay_lit {x : Str} (h : PySem.PyData.strOk x = true) : (PyData.str x).canLay0 = true := h
theorem lay_str {x : Str} (h : isW x = true) : (PyData.str x).canLay0 = true := isW_ok h
/-! ### terms as data -/
def pdH : Hd → List PyData → PyData
  | .num z, _ => .tuple [.str "number", .int z]
  | .nam x, _ => .tuple [.str "name", .str x]
  | .plus, ds => .tuple (.str "plus" :: ds)
  | .less, ds => .tuple (.str "less" :: ds)
  | .tell, ds => .tuple (.str "tell" :: ds)
  | .lett x, ds => .tuple (.str "let" :: .str x :: ds)
  | .iff, ds => .tuple (.str "if" :: ds)
  | .ask f, ds => .tuple [.str "ask", .str f, .tuple ds]
def pd : Tm → PyData
  | .mk h _ k => pdH h (List.ofFn fun i => pd (k i))
theorem dp_fn {K : PySem.W.Frag} {H : Hp} : ∀ {n : Nat} {ys : _root_.Fin n → Addr} {ds : _root_.Fin n → PyData}, (∀ i, Dp K H (.ref (ys i)) (ds i)) → DpAll K H (Rfs ys) (List.ofFn ds)
  | 0, _, _, _ => .nil
  | n + 1, ys, ds, h => by
    unfold Rfs
    rw [List.ofFn_succ, List.ofFn_succ]
    exact .cons (h 0) (dp_fn (ys := fun i => ys i.succ) (ds := fun i => ds i.succ) fun i => h i.succ)
theorem dp_at {K : PySem.W.Frag} {H : Hp} : ∀ {t : Tm} {a : Addr}, At H t a → Dp K H (.ref a) (pd t) := by
  intro t
  induction t with
  | mk h n k ih =>
    rintro a ⟨ys, l, r⟩
    have d : DpAll K H (Rfs ys) (List.ofFn fun i => pd (k i)) := dp_fn fun i => ih i (r i)
    show Dp K H (.ref a) (pdH h (List.ofFn fun i => pd (k i)))
    generalize (List.ofFn fun i => pd (k i)) = ds at d
    cases h with
    | num z => exact .tup (SqT.of l.2) (.cons (.str _) (.cons (.int _) .nil))
    | nam z => exact .tup (SqT.of l.2) (.cons (.str _) (.cons (.str _) .nil))
    | lett x => exact .tup (SqT.of l.2) (.cons (.str _) (.cons (.str _) d))
    | ask f =>
      obtain ⟨_, p, h1, h2⟩ := l
      exact .tup (SqT.of h1) (.cons (.str _) (.cons (.str _) (.cons (.tup (SqT.of h2) d) .nil)))
    | _ => exact .tup (SqT.of l.2) (.cons (.str _) d)
theorem lay_pdH {h : Hd} {ds : List PyData} (o : okH h) (l : ∀ d ∈ ds, d.canLay0 = true) : (pdH h ds).canLay0 = true := by
  have la := layAll l
  cases h with
  | num z =>
    refine layAll fun d hd => ?_
    rcases List.mem_cons.mp hd with y | y
    · rw [y]
      exact lay_lit (by decide +kernel)
    · rw [List.mem_singleton.mp y]
      rfl
  | nam x =>
    refine layAll fun d hd => ?_
    rcases List.mem_cons.mp hd with z | z
    · rw [z]
      exact lay_lit (by decide +kernel)
    · rw [List.mem_singleton.mp z]
      exact lay_str o
  | lett x =>
    refine layAll fun d hd => ?_
    rcases List.mem_cons.mp hd with z | z
    · rw [z]
      exact lay_lit (by decide +kernel)
    · rcases List.mem_cons.mp z with z | z
      · rw [z]
        exact lay_str o
      · exact l d z
  | ask f =>
    refine layAll fun d hd => ?_
    rcases List.mem_cons.mp hd with z | z
    · rw [z]
      exact lay_lit (by decide +kernel)
    · rcases List.mem_cons.mp z with z | z
      · rw [z]
        exact lay_str o
      · rw [List.mem_singleton.mp z]
        exact la
  | _ =>
    refine layAll fun d hd => ?_
    rcases List.mem_cons.mp hd with z | z
    · rw [z]
      exact lay_lit (by decide +kernel)
    · exact l d z
theorem lay_pd : ∀ {t : Tm}, okT t → (pd t).canLay0 = true := by
  intro t
  induction t with
  | mk h n k ih =>
    rintro ⟨o, r⟩
    refine lay_pdH o fun d hd => ?_
    obtain ⟨i, rfl⟩ := List.mem_ofFn.mp hd
    exact ih i (r i)
theorem depth_pdH {h : Hd} {m : Nat} {ds : List PyData} (l : ∀ d ∈ ds, d.depth ≤ m) : (pdH h ds).depth ≤ m + 2 := by
  cases h with
  | num z => exact Nat.le_trans (depth_tup (m := 0) fun d hd => by
      rcases List.mem_cons.mp hd with y | y
      · rw [y]
        exact Nat.le_refl 0
      · rw [List.mem_singleton.mp y]
        exact Nat.le_refl 0) (by omega)
  | nam x => exact Nat.le_trans (depth_tup (m := 0) fun d hd => by
      rcases List.mem_cons.mp hd with z | z
      · rw [z]
        exact Nat.le_refl 0
      · rw [List.mem_singleton.mp z]
        exact Nat.le_refl 0) (by omega)
  | lett x =>
    refine Nat.le_trans (depth_tup (m := m) fun d hd => ?_) (by omega)
    rcases List.mem_cons.mp hd with z | z
    · rw [z]
      exact Nat.zero_le _
    · rcases List.mem_cons.mp z with z | z
      · rw [z]
        exact Nat.zero_le _
      · exact l d z
  | ask f =>
    refine depth_tup (m := m + 1) fun d hd => ?_
    rcases List.mem_cons.mp hd with z | z
    · rw [z]
      exact Nat.zero_le _
    · rcases List.mem_cons.mp z with z | z
      · rw [z]
        exact Nat.zero_le _
      · rw [List.mem_singleton.mp z]
        exact depth_tup l
  | _ =>
    refine Nat.le_trans (depth_tup (m := m) fun d hd => ?_) (by omega)
    rcases List.mem_cons.mp hd with z | z
    · rw [z]
      exact Nat.zero_le _
    · exact l d z
theorem depth_pd : ∀ {n : Nat} {t : Tm}, HtLe n t → (pd t).depth ≤ 2 * n
  | 0, _, h => h.elim
  | n + 1, .mk h m k, r => by
    refine Nat.le_trans (depth_pdH (h := h) (m := 2 * n) fun d hd => ?_) (by omega)
    obtain ⟨i, rfl⟩ := List.mem_ofFn.mp hd
    exact depth_pd (r i)
theorem eqv_self {d : PyData} (h : SeqAt.shaped d = true) : PyData.eqv d d = true := SeqAt.eqv_refl d (SeqAt.canLay_of_shaped h)
theorem dp_ints {K : PySem.W.Frag} {H : Hp} : ∀ ks : List Int, DpAll K H (ks.map V.int) (ks.map PyData.int)
  | [] => .nil
  | k :: r => .cons (.int k) (dp_ints r)
/-! ### parts of turned books as data -/
def pdP : Pt → PyData
  | .give j t => .tuple [.str "give", .str j, pd t]
  | .ask f ts j => .tuple [.str "ask", .str f, .tuple (ts.map pd), .str j]
  | .tell x t p => .tuple [.str "tell", .str x, pd t, pdP p]
  | .lett x t p => .tuple [.str "let", .str x, pd t, pdP p]
  | .iff t p q => .tuple [.str "if", pd t, pdP p, pdP q]
  | .post j x p q => .tuple [.str "post", .str j, .str x, pdP p, pdP q]
theorem dp_refs {K : PySem.W.Frag} {H : Hp} : ∀ {ts : List Tm} {xs : List V}, All2 (RefV H) ts xs → DpAll K H xs (ts.map pd)
  | [], [], _ => .nil
  | _ :: _, _ :: _, ⟨⟨b, e, h⟩, r⟩ => by
    rw [e]
    exact .cons (dp_at h) (dp_refs r)
  | [], _ :: _, h => h.elim
  | _ :: _, [], h => h.elim
theorem dp_pat {K : PySem.W.Frag} {H : Hp} : ∀ {p : Pt} {a : Addr}, PAt H p a → Dp K H (.ref a) (pdP p)
  | .give j t, a, ⟨b, h1, h2⟩ => .tup (SqT.of h1) (.cons (.str _) (.cons (.str _) (.cons (dp_at h2) .nil)))
  | .ask f ts j, a, ⟨q, vs, h1, h2, h3⟩ => .tup (SqT.of h1) (.cons (.str _) (.cons (.str _) (.cons (.tup (SqT.of h2) (dp_refs h3)) (.cons (.str _) .nil))))
  | .tell x t p, a, ⟨b, c, h1, h2, h3⟩ => .tup (SqT.of h1) (.cons (.str _) (.cons (.str _) (.cons (dp_at h2) (.cons (dp_pat h3) .nil))))
  | .lett x t p, a, ⟨b, c, h1, h2, h3⟩ => .tup (SqT.of h1) (.cons (.str _) (.cons (.str _) (.cons (dp_at h2) (.cons (dp_pat h3) .nil))))
  | .iff t p q, a, ⟨b, c, d, h1, h2, h3, h4⟩ => .tup (SqT.of h1) (.cons (.str _) (.cons (dp_at h2) (.cons (dp_pat h3) (.cons (dp_pat h4) .nil))))
  | .post j x p q, a, ⟨c, d, h1, h2, h3⟩ => .tup (SqT.of h1) (.cons (.str _) (.cons (.str _) (.cons (.str _) (.cons (dp_pat h2) (.cons (dp_pat h3) .nil)))))
/-- a simple term, good -/
structure STm (t : Tm) : Prop where
  ok : okT t
  si : simple t = true
  cn : cnt t ≤ 3
  ht : HtLe 2 t
theorem SmT.st {hd : Str → Option Nat} {xs : List Str} {t : Tm} (h : SmT hd xs t) : STm t := ⟨h.ok, h.si, h.cn, h.ht⟩
/-- a part whose words are words -/
def kP : Pt → Prop
  | .give j t => PySem.PyData.strOk j = true ∧ STm t
  | .ask f ts j => PySem.PyData.strOk j = true ∧ isW f = true ∧ ts.length ≤ 4 ∧ ∀ t ∈ ts, STm t
  | .tell x t p => isW x = true ∧ STm t ∧ kP p
  | .lett x t p => isW x = true ∧ STm t ∧ kP p
  | .iff t p q => STm t ∧ kP p ∧ kP q
  | .post j x p q => isW j = true ∧ isW x = true ∧ kP p ∧ kP q
theorem okP_kP {hd : Str → Option Nat} : ∀ {p : Pt} {xs hs : List Str}, (∀ j ∈ hs, PySem.PyData.strOk j = true) → okP hd p xs hs → kP p
  | .give j t, _, _, hh, h => ⟨hh _ h.1, h.2.st⟩
  | .ask f ts j, _, _, hh, h => ⟨hh _ h.1, h.2.1, h.2.2.2.1, fun t ht => (h.2.2.2.2 t ht).st⟩
  | .tell x t p, _, _, hh, h => ⟨h.1, h.2.1.st, okP_kP hh h.2.2⟩
  | .lett x t p, _, _, hh, h => ⟨h.1, h.2.1.st, okP_kP hh h.2.2⟩
  | .iff t p q, _, _, hh, h => ⟨h.1.st, okP_kP hh h.2.1, okP_kP hh h.2.2⟩
  | .post j x p q, _, _, hh, h => ⟨h.1, h.2.1, okP_kP hh h.2.2.1, okP_kP (fun k hk => by
      rcases List.mem_append.mp hk with z | z
      · exact hh k z
      · rw [List.mem_singleton.mp z]
        exact isW_ok h.1) h.2.2.2⟩
theorem STm.lay {t : Tm} (h : STm t) : (pd t).canLay0 = true := lay_pd h.ok
theorem STm.dep {t : Tm} (h : STm t) : (pd t).depth ≤ 4 := depth_pd h.ht
theorem lay_cons {d : PyData} {ds : List PyData} (h1 : d.canLay0 = true) (h2 : PySem.PyData.canLayAll0 ds = true) : PySem.PyData.canLayAll0 (d :: ds) = true := Bool.and_eq_true_iff.mpr ⟨h1, h2⟩
theorem lay_pdP : ∀ {p : Pt}, kP p → (pdP p).canLay0 = true
  | .give j t, h => lay_cons (lay_lit (by decide +kernel)) (lay_cons (lay_lit h.1) (lay_cons h.2.lay rfl))
  | .ask f ts j, h => lay_cons (lay_lit (by decide +kernel)) (lay_cons (lay_str h.2.1) (lay_cons (layAll (ds := ts.map pd) fun d hd => by
      obtain ⟨t, ht, rfl⟩ := List.mem_map.mp hd
      exact (h.2.2.2 t ht).lay) (lay_cons (lay_lit h.1) rfl)))
  | .tell x t p, h => lay_cons (lay_lit (by decide +kernel)) (lay_cons (lay_str h.1) (lay_cons h.2.1.lay (lay_cons (lay_pdP h.2.2) rfl)))
  | .lett x t p, h => lay_cons (lay_lit (by decide +kernel)) (lay_cons (lay_str h.1) (lay_cons h.2.1.lay (lay_cons (lay_pdP h.2.2) rfl)))
  | .iff t p q, h => lay_cons (lay_lit (by decide +kernel)) (lay_cons h.1.lay (lay_cons (lay_pdP h.2.1) (lay_cons (lay_pdP h.2.2) rfl)))
  | .post j x p q, h => lay_cons (lay_lit (by decide +kernel)) (lay_cons (lay_str h.1) (lay_cons (lay_str h.2.1) (lay_cons (lay_pdP h.2.2.1) (lay_cons (lay_pdP h.2.2.2) rfl))))
theorem dep_str {m : Nat} {z : Str} : (PyData.str z).depth ≤ m := Nat.zero_le m
theorem depth_pdP : ∀ {p : Pt}, kP p → (pdP p).depth ≤ pcnt p + 5
  | .give j t, h => depth_tup (m := 5) (by
      intro d hd
      simp only [List.mem_cons, List.not_mem_nil, or_false] at hd
      rcases hd with z | z | z <;> subst z
      · exact dep_str
      · exact dep_str
      · exact Nat.le_trans h.2.dep (by decide))
  | .ask f ts j, h => depth_tup (m := 5) (by
      intro d hd
      simp only [List.mem_cons, List.not_mem_nil, or_false] at hd
      rcases hd with z | z | z | z <;> subst z
      · exact dep_str
      · exact dep_str
      · refine depth_tup (m := 4) fun d hd => ?_
        obtain ⟨t, ht, rfl⟩ := List.mem_map.mp hd
        exact (h.2.2.2 t ht).dep
      · exact dep_str)
  | .tell x t p, h => by
      have ih := depth_pdP h.2.2
      refine Nat.le_trans (depth_tup (m := pcnt p + 5) ?_) (by show pcnt p + 5 + 1 ≤ 1 + pcnt p + 5; omega)
      intro d hd
      simp only [List.mem_cons, List.not_mem_nil, or_false] at hd
      rcases hd with z | z | z | z <;> subst z
      · exact dep_str
      · exact dep_str
      · exact Nat.le_trans h.2.1.dep (by omega)
      · exact ih
  | .lett x t p, h => by
      have ih := depth_pdP h.2.2
      refine Nat.le_trans (depth_tup (m := pcnt p + 5) ?_) (by show pcnt p + 5 + 1 ≤ 1 + pcnt p + 5; omega)
      intro d hd
      simp only [List.mem_cons, List.not_mem_nil, or_false] at hd
      rcases hd with z | z | z | z <;> subst z
      · exact dep_str
      · exact dep_str
      · exact Nat.le_trans h.2.1.dep (by omega)
      · exact ih
  | .iff t p q, h => by
      have ih1 := depth_pdP h.2.1
      have ih2 := depth_pdP h.2.2
      refine Nat.le_trans (depth_tup (m := pcnt p + pcnt q + 5) ?_) (by show pcnt p + pcnt q + 5 + 1 ≤ 1 + pcnt p + pcnt q + 5; omega)
      intro d hd
      simp only [List.mem_cons, List.not_mem_nil, or_false] at hd
      rcases hd with z | z | z | z <;> subst z
      · exact dep_str
      · exact Nat.le_trans h.1.dep (by omega)
      · omega
      · omega
  | .post j x p q, h => by
      have ih1 := depth_pdP h.2.2.1
      have ih2 := depth_pdP h.2.2.2
      refine Nat.le_trans (depth_tup (m := pcnt p + pcnt q + 5) ?_) (by show pcnt p + pcnt q + 5 + 1 ≤ 1 + pcnt p + pcnt q + 5; omega)
      intro d hd
      simp only [List.mem_cons, List.not_mem_nil, or_false] at hd
      rcases hd with z | z | z | z | z <;> subst z
      · exact dep_str
      · exact dep_str
      · exact dep_str
      · omega
      · omega
/-! ### all parts and terms of a part, counted -/
def ncnt : Pt → Nat
  | .give _ t => 1 + cnt t
  | .ask _ ts _ => 1 + cnts ts
  | .tell _ t p => 1 + cnt t + ncnt p
  | .lett _ t p => 1 + cnt t + ncnt p
  | .iff t p q => 1 + cnt t + ncnt p + ncnt q
  | .post _ _ p q => 1 + ncnt p + ncnt q
theorem cnts_le {ts : List Tm} (h : ∀ t ∈ ts, STm t) : cnts ts ≤ 3 * ts.length := by
  induction ts with
  | nil => exact Nat.le_refl _
  | cons t r ih =>
    have h1 := (h t List.mem_cons_self).cn
    have h2 := ih fun u hu => h u (List.mem_cons_of_mem _ hu)
    rw [cnts_cons, List.length_cons]
    omega
theorem ncnt_le : ∀ {p : Pt}, kP p → ncnt p ≤ 13 * pcnt p
  | .give j t, h => by
    have := h.2.cn
    show 1 + cnt t ≤ 13 * 1
    omega
  | .ask f ts j, h => by
    have := cnts_le h.2.2.2
    have := h.2.2.1
    show 1 + cnts ts ≤ 13 * 1
    omega
  | .tell x t p, h => by
    have := h.2.1.cn
    have := ncnt_le h.2.2
    show 1 + cnt t + ncnt p ≤ 13 * (1 + pcnt p)
    omega
  | .lett x t p, h => by
    have := h.2.1.cn
    have := ncnt_le h.2.2
    show 1 + cnt t + ncnt p ≤ 13 * (1 + pcnt p)
    omega
  | .iff t p q, h => by
    have := h.1.cn
    have := ncnt_le h.2.1
    have := ncnt_le h.2.2
    show 1 + cnt t + ncnt p + ncnt q ≤ 13 * (1 + pcnt p + pcnt q)
    omega
  | .post j x p q, h => by
    have := ncnt_le h.2.2.1
    have := ncnt_le h.2.2.2
    show 1 + ncnt p + ncnt q ≤ 13 * (1 + pcnt p + pcnt q)
    omega
end KB

namespace HT
open PySem PySem.Spec PyProof.Rows
section
variable {prog : Program} {w : World} {A : Around} {E : Value → Shared → Prop} {s : Shared}
theorem sliceApplied_rev {sl : Addr} {vk : Value} {n : Nat} {Q : Int × Int × Nat → Shared → Prop} (hs : s.heap.IsSliceOf sl .none .none vk) (pk : IsPart vk (some (-1)))
    (h : Q ((n : Int) - 1, -1, n) s) : wpAny (model prog w) A (Builtin.Slice.sliceApplied (.ref sl) (pure (n : Int))) Q E s := by
  obtain ⟨os, hos, hcs, hds⟩ := id hs
  unfold Builtin.Slice.sliceApplied Builtin.Slice.sliceFields
  refine wpAny_bind (wpAny_bind (wpAny_field hos hds (x := .none) rfl (wpAny_bind (wpAny_field hos hds (x := .none) rfl (wpAny_bind (wpAny_field hos hds (x := vk) rfl (wpAny_pure ?_)))))))
  refine wpAny_bind (slicePart_ pk ?_)
  show wpAny _ _ (if ((-1 : Int) == 0) = true then _ else _) _ _ s
  rw [if_neg (by decide)]
  refine wpAny_bind (slicePart_none (wpAny_bind (slicePart_none (wpAny_bind (wpAny_pure ?_)))))
  show wpAny _ _ (pure ((n : Int) - 1, (-1 : Int), Builtin.Slice.slicePlaces ((n : Int) - 1) (-1) (-1))) _ _ s
  have e : Builtin.Slice.slicePlaces ((n : Int) - 1) (-1) (-1) = n := by
    unfold Builtin.Slice.slicePlaces
    have h1 : ¬ ((-1 : Int) > 0) := by omega
    have h2 : (-(-1) : Int) = 1 := by decide
    simp only [h1, if_false, h2, Int.ediv_one]
    split <;> omega
  rw [e]
  exact wpAny_pure h
theorem pick_rev (xs : Array Value) : ((List.range xs.size).filterMap fun (m : Nat) => xs[(((xs.size : Nat) : Int) - 1 + (m : Int) * (-1)).toNat]?).toArray = xs.toList.reverse.toArray := by
  have e : (fun (m : Nat) => xs[(((xs.size : Nat) : Int) - 1 + (m : Int) * (-1)).toNat]?) = fun m => xs[xs.size - 1 - m]? := by
    funext m
    have : (((xs.size : Nat) : Int) - 1 + (m : Int) * (-1)).toNat = xs.size - 1 - m := by omega
    rw [this]
  rw [e]
  have h := PySem.W.krv_range xs.size
  have e2 : (List.range xs.size).filterMap (fun m => xs[xs.size - 1 - m]?) = ((List.range xs.size).map fun k => xs.size - 1 - k).filterMap (xs[·]?) := by
    rw [List.filterMap_map]
    rfl
  rw [e2, h, List.filterMap_reverse, PySem.W.krv_all]
theorem getItem_tuple_rev {t sl : Addr} {items : Array Value} {vk : Value} {Q : Value → Shared → Prop} (ht : IsTup s.heap t items) (hs : s.heap.IsSliceOf sl .none .none vk) (pk : IsPart vk (some (-1)))
    (h : Q (.ref s.heap.objs.size) { s with heap := s.heap.push { cls := .type "tuple", data := .seq (items.toList.reverse).toArray } })
    (hsz : items.size ≤ sizeLine) : wpAny (model prog w) A (getItem (.ref t) (.ref sl)) Q E s := by
  have htake : sizeOk (.seq (items.toList.reverse).toArray) := by
    show (items.toList.reverse).toArray.size ≤ sizeLine
    rw [List.size_toArray, List.length_reverse, Array.length_toList]
    omega
  obtain ⟨os, hos, hcs, hds⟩ := id hs
  have hTs : s.TypeIs (.ref sl) "slice" := ⟨os, hos, hcs⟩
  unfold getItem
  try with_reducible refine wpAny_holding ?_
  first | refine wpAny_bind (wpAny_pure ?_) | skip
  refine wpAny_bind (wpAny_sequenceKey ht.typeIs (by decide) ?_)
  refine wpAny_bind (wpAny_callSpecial?_slot (name := Str.ofString "__getitem__") ht.typeIs PyProof.Rows.slot_tuple_getitem
    (wpAny_call_entry PyProof.Rows.slot_tuple_getitem ht.typeIs entry_tuple_getitem ?_ (args_tuple_getitem _ _)))
  show wpAny _ _ (Builtin.Tuple.tupleItemsOf (.ref t) >>= _) _ _ s
  refine wpAny_bind (tupleItemsOf_ ht ?_)
  refine wpAny_bind (wpAny_typeOf hTs ?_)
  rw [if_pos (by decide)]
  refine wpAny_bind (sliceApplied_rev hs pk ?_)
  have hno : ¬ ((((((items.size : Nat) : Int) - 1) == 0 && (-1 : Int) == 1 && items.size == items.size)) = true) := by
    intro q
    rw [Bool.and_eq_true, Bool.and_eq_true] at q
    exact absurd (eq_of_beq q.1.2) (by decide)
  show wpAny _ _ (if ((((items.size : Nat) : Int) - 1) == 0 && (-1 : Int) == 1 && items.size == items.size) = true then _ else _) _ _ s
  rw [if_neg hno, pick_rev]
  first
    | exact wpAny_bind (m := Builtin.Tuple.tupleExact _) (wpAny_newObj_type (wpAny_pure ⟨_, rfl, wpAny_pure h⟩) htake)
    | exact wpAny_bind (m := Builtin.Tuple.tupleExact _) (wpAny_newObj_type (wpAny_bind (wpAny_pure (wpAny_pure ⟨_, rfl, wpAny_pure h⟩))) htake)
    | exact wpAny_bind (wpAny_bind (m := Builtin.Tuple.tupleExact _) (wpAny_newObj_type (wpAny_pure (wpAny_pure ⟨_, rfl, wpAny_pure h⟩)) htake))
    | exact wpAny_bind (wpAny_bind (m := Builtin.Tuple.tupleExact _) (wpAny_newObj_type (wpAny_pure ⟨_, rfl, wpAny_pure h⟩) htake))
end
end HT

namespace KB
open PySem PySem.Spec PyProof.Rows L2
/-- t[::-1] of a tuple -/
def tRevT (K : PySem.W.Frag) (te : TE) (tk : TO) : TE := fun σ H Q => te σ H fun x H1 => tk σ H1 fun k H2 => k = some (-1) ∧ ∃ a xs, x = .ref a ∧ SqT K H2 a xs ∧ ∀ p, H2 p = none → Q (.ref p) (upd H2 p (.tup xs.reverse))
theorem pe_revT {X : Cx} {e : Expr} {te : TE} {st : Option Expr} {tk : TO} {pos p2 : Pos} (he : PE X e te) (hk : PO X st tk) (hs : ∀ a c : Addr, subscripted (.Slice none none st p2) false (.ref a) (.ref c) = operate [.ref a, .ref c] (getItem (.ref a) (.ref c)) := by intro _ _; rfl) : PE X (.Subscript e (.Slice none none st p2) pos) (tRevT X.K te tk) := by
  refine ⟨fun pins s σ H Q I h => ?_⟩
  refine Subscript_ (thn (he.run pins s σ H _ I h) fun v s1 ⟨x, H1, I1, r1, q1⟩ => ?_)
  refine wpAny_Slice (thn ((po_none (X := X)).run pins s1 σ H1 (fun l H' => l = none ∧ H' = H1) I1 ⟨rfl, rfl⟩) fun vl s2 ⟨l, H2, I2, pl, q2⟩ => thn ((po_none (X := X)).run pins s2 σ H2 (fun l H' => l = none ∧ H' = H1) I2 ⟨rfl, q2.2⟩) fun vu s3 ⟨u, H3, I3, pu, q3⟩ => ?_)
  obtain ⟨rfl, e2⟩ := q2
  obtain ⟨rfl, e3⟩ := q3
  subst e3
  cases pl
  cases pu
  refine thn (hk.run pins s3 σ H3 _ I3 q1) fun vk s4 ⟨k, H4, I4, pk, q4⟩ => ?_
  obtain ⟨rfl, a, xs, rfl, hx, q⟩ := q4
  have I5 : Inv X pins σ H4 { s4 with heap := s4.heap.push { cls := .type "slice", data := .fields #[.none, .none, vk] } } := I4.kept (t' := s4.toks) fun b ob q => Heap.get?_push_of_some _ q
  cases r1
  obtain ⟨its, r, ht, hz⟩ := I5.tuple hx
  have hlen : its.toArray.size = xs.length := by rw [List.size_toArray]; exact r.length.symm
  refine tail_any (T := "tuple") (ops := [.ref a, .ref s4.heap.objs.size]) ht.typeIs PyProof.Rows.slot_tuple_getitem.lookup ?_ (hs _ _)
  refine HT.getItem_tuple_rev ht (Heap.IsSliceOf.new ..) pk ?_ (by rw [hlen]; exact hz)
  refine ⟨.ref _, _, I5.laid (t' := s4.toks) (o := .tup xs.reverse) (fun b ob q => Heap.get?_push_of_some _ q) (Nat.le_refl _) ?_, rfl, q _ (I5.hok.fresh (Nat.le_refl _))⟩
  refine ⟨by rw [List.length_reverse]; exact hz, _, ?_, IsTup.new _ _⟩
  show Vals xs.reverse its.toArray.toList.reverse
  exact r.reverse
end KB

namespace KB
open PySem L2

/-! ### trees, whatever they are made of -/
def plL {N : Type} (pl : N → List (List Int × N)) : Nat → List N → List (List Int × N)
  | _, [] => []
  | j, t :: ts => (pl t).map (fun e => ((j : Int) :: e.1, e.2)) ++ plL pl (j + 1) ts
structure Tre (N : Type) where
  kids : N → List N
  sz : N → Nat
  pl : N → List (List Int × N)
  A : Hp → N → Addr → Prop
  tk : ∀ {H H' : Hp} {n : N} {a : Addr}, TK H H' → A H n a → A H' n a
  szk : ∀ n, sz n = 1 + ((kids n).map sz).sum
  plk : ∀ n, pl n = ([], n) :: plL pl 0 (kids n)
namespace Tre
variable {N : Type} (R : Tre N)
def V (H : Hp) (n : N) (v : L2.V) : Prop := ∃ b, v = .ref b ∧ R.A H n b
def szs (ns : List N) : Nat := (ns.map R.sz).sum
def pre (n : N) : List N := (R.pl n).map (·.2)
def pres (ns : List N) : List N := (ns.map R.pre).flatten
theorem V.tk {R : Tre N} {H H' : Hp} (e : TK H H') {n : N} {v : L2.V} (h : R.V H n v) : R.V H' n v := let ⟨b, e1, h1⟩ := h; ⟨b, e1, R.tk e h1⟩
theorem szs_cons (n : N) (r : List N) : R.szs (n :: r) = R.sz n + R.szs r := rfl
theorem szs_app (a b : List N) : R.szs (a ++ b) = R.szs a + R.szs b := by
  unfold szs
  rw [List.map_append, List.sum_append]
theorem pos (n : N) : 1 ≤ R.sz n := by
  rw [R.szk]
  omega
theorem len_szs : ∀ ns : List N, ns.length ≤ R.szs ns
  | [] => Nat.le_refl _
  | n :: r => by
    have h1 := R.pos n
    have h2 := len_szs r
    rw [R.szs_cons, List.length_cons]
    omega
theorem pres_cons (n : N) (r : List N) : R.pres (n :: r) = R.pre n ++ R.pres r := rfl
theorem pres_app (a b : List N) : R.pres (a ++ b) = R.pres a ++ R.pres b := by
  unfold pres
  rw [List.map_append, List.flatten_append]
theorem plL_snd : ∀ (ns : List N) (j : Nat), (plL R.pl j ns).map (·.2) = R.pres ns
  | [], _ => rfl
  | n :: r, j => by
    show ((R.pl n).map (fun e => ((j : Int) :: e.1, e.2)) ++ plL R.pl (j + 1) r).map (·.2) = R.pre n ++ R.pres r
    rw [List.map_append, plL_snd r, List.map_map]
    rfl
theorem pre_mk (n : N) : R.pre n = n :: R.pres (R.kids n) := by
  unfold pre
  rw [R.plk, List.map_cons, R.plL_snd]
theorem plL_len (h : ∀ n, (R.pl n).length = R.sz n) : ∀ (ns : List N) (j : Nat), (plL R.pl j ns).length = R.szs ns
  | [], _ => rfl
  | n :: r, j => by
    show ((R.pl n).map (fun e => ((j : Int) :: e.1, e.2)) ++ plL R.pl (j + 1) r).length = R.sz n + R.szs r
    rw [List.length_append, List.length_map, plL_len h r, h n]
theorem mem_szs {n : N} {ns : List N} (h : n ∈ ns) : R.sz n ≤ R.szs ns := by
  induction ns with
  | nil => cases h
  | cons a r ih =>
    rw [R.szs_cons]
    rcases List.mem_cons.mp h with z | z
    · subst z
      omega
    · have := ih z
      omega
theorem pl_len (m : Nat) : ∀ n, R.sz n ≤ m → (R.pl n).length = R.sz n := by
  induction m with
  | zero => intro n h; have := R.pos n; omega
  | succ m ih =>
    intro n h
    have e := R.szk n
    have go : ∀ (ns : List N) (j : Nat), R.szs ns ≤ m → (plL R.pl j ns).length = R.szs ns := by
      intro ns
      induction ns with
      | nil => intro j _; rfl
      | cons a r ihr =>
        intro j hj
        rw [R.szs_cons] at hj ⊢
        show ((R.pl a).map (fun e => ((j : Int) :: e.1, e.2)) ++ plL R.pl (j + 1) r).length = _
        rw [List.length_append, List.length_map, ihr (j + 1) (by omega), ih a (by omega)]
    rw [R.plk, List.length_cons, go (R.kids n) 0 (by show ((R.kids n).map R.sz).sum ≤ m; omega), e]
    show R.szs (R.kids n) + 1 = 1 + R.szs (R.kids n)
    omega
theorem pl_short (m : Nat) : ∀ n, R.sz n ≤ m → ∀ e ∈ R.pl n, e.1.length < R.sz n := by
  induction m with
  | zero => intro n h; have := R.pos n; omega
  | succ m ih =>
    intro n h
    have e := R.szk n
    have go : ∀ (ns : List N) (j : Nat), R.szs ns ≤ m → ∀ e ∈ plL R.pl j ns, e.1.length ≤ R.szs ns := by
      intro ns
      induction ns with
      | nil => intro j _ e he; cases he
      | cons a r ihr =>
        intro j hj e he
        rw [R.szs_cons] at hj ⊢
        have he' : e ∈ (R.pl a).map (fun e => ((j : Int) :: e.1, e.2)) ++ plL R.pl (j + 1) r := he
        rcases List.mem_append.mp he' with z | z
        · obtain ⟨e', h1, rfl⟩ := List.mem_map.mp z
          have := ih a (by omega) e' h1
          show e'.1.length + 1 ≤ _
          omega
        · have := ihr (j + 1) (by omega) e z
          omega
    intro x hx
    rw [R.plk] at hx
    have e2 : R.sz n = 1 + R.szs (R.kids n) := e
    rcases List.mem_cons.mp hx with z | z
    · subst z
      show 0 < R.sz n
      omega
    · have := go (R.kids n) 0 (by omega) x z
      omega
theorem sz_pl (m : Nat) : ∀ n, R.sz n ≤ m → ∀ e ∈ R.pl n, R.sz e.2 ≤ R.sz n := by
  induction m with
  | zero => intro n h; have := R.pos n; omega
  | succ m ih =>
    intro n h
    have e := R.szk n
    have go : ∀ (ns : List N) (j : Nat), R.szs ns ≤ m → ∀ e ∈ plL R.pl j ns, R.sz e.2 ≤ R.szs ns := by
      intro ns
      induction ns with
      | nil => intro j _ e he; cases he
      | cons a r ihr =>
        intro j hj e he
        rw [R.szs_cons] at hj ⊢
        have he' : e ∈ (R.pl a).map (fun e => ((j : Int) :: e.1, e.2)) ++ plL R.pl (j + 1) r := he
        rcases List.mem_append.mp he' with z | z
        · obtain ⟨e', h1, rfl⟩ := List.mem_map.mp z
          have := ih a (by omega) e' h1
          show R.sz e'.2 ≤ _
          omega
        · have := ihr (j + 1) (by omega) e z
          omega
    intro x hx
    rw [R.plk] at hx
    have e2 : R.sz n = 1 + R.szs (R.kids n) := e
    rcases List.mem_cons.mp hx with z | z
    · subst z
      exact Nat.le_refl _
    · have := go (R.kids n) 0 (by omega) x z
      omega
end Tre
theorem All2.rev {α : Type} {S : α → V → Prop} : ∀ {as : List α} {vs : List V}, All2 S as vs → All2 S as.reverse vs.reverse
  | [], [], _ => trivial
  | a :: as, v :: vs, h => by
    rw [List.reverse_cons, List.reverse_cons]
    exact (All2.rev h.2).app ⟨h.1, trivial⟩
  | [], _ :: _, h => h.elim
  | _ :: _, [], h => h.elim

section
variable {P : Program} {w : World} {K : PySem.W.Frag} {mg : Str → Option Value} {base : Heap}
/-- what a function promises that tells the parts right in a part -/
def spKids {N : Type} (R : Tre N) : Sp := fun vs H Q _ => ∃ (n : N) (a : Addr), vs = [.ref a] ∧ R.A H n a ∧ ∀ p H' us, Same H H' → H' p = some (.tup us) → All2 (R.V H') (R.kids n) us → Q (.ref p) H'
/-! ### met -/
def spMet {N : Type} (R : Tre N) (g : Addr) : Sp := fun vs H Q _ => ∃ (n : N) (a : Addr), vs = [.ref a, .ref g] ∧ R.A H n a ∧ R.sz n ≤ 1000 ∧ ∀ p H' its, H p = none → Same H H' → H' p = some (.lst its) → All2 (R.V H') (R.pre n) its → Q (.ref p) H'
abbrev smet : Stmt := top 1
theorem scmet : FnScope ["body", "parts", "found", "waiting", "part"] ["body", "parts"] (defScope smet) := ⟨rfl, rfl, rfl, by decide +kernel, rfl, by decide +kernel, by decide +kernel⟩
def MetW {N : Type} (R : Tre N) (H : Hp) (a g fl wl : Addr) (n : N) (m : Nat) (σ : St) (H' : Hp) : Prop := ∃ o fv fs rs ts, σ = [some (.ref a), some (.ref g), some (.ref fl), some (.ref wl), o] ∧ Same H H' ∧ H' fl = some (.lst fv) ∧ All2 (R.V H') fs fv ∧ H' wl = some (.lst (List.reverse rs)) ∧ All2 (R.V H') ts rs ∧ m = R.szs ts ∧ fs.length + R.szs ts ≤ 1000 ∧ fs ++ R.pres ts = R.pre n
theorem ok_met {N : Type} (R : Tre N) {k : Nat} {f g : Addr} {fd gd : FuncData} {x : Str} (F : Fun K "met" "met" smet f fd) (Gparts : FnOk P w K mg base CX0 k g gd [x] (spKids R)) (kk : PySem.W.keepIn K (.ref g) = true) (bb : Binds K gd [x] []) : FnOk P w K mg base CX0 (k + 1) f fd ["body", "parts"] (spMet R g) := by
  refine F.ok scmet (fun vs H Q E h => ?_) (fun cdv A outer s H vs Q E hr h => ?_)
  · obtain ⟨n, a, rfl, _⟩ := h
    rfl
  obtain ⟨n, a, rfl, hA, hc, q⟩ := h
  refine ⟨_, (pss_cons (ps_set (i := 2) scmet.nd rfl (Or.inl rfl) (pe_lst pa_nil))
    (pss_cons (ps_set (i := 3) scmet.nd rfl (Or.inl rfl) (pe_lst (pa_cons (pv 0) pa_nil)))
    (pss_cons (ps_while PassesOwn.never (pt_truth (pv 3) (by intro _; rfl)) (pss_cons (ps_set (i := 4) scmet.nd rfl (Or.inl rfl) (pe_bm0 PySem.F.plainAttrs_list PySem.F.slot_list_pop PySem.F.type_list_pop mt_pop (pv 3)))
    (pss_cons (ps_expr (pe_bm PySem.F.plainAttrs_list PySem.F.slot_list_append PySem.F.type_list_append mt_append (pv 2) (pa_cons (pv 4) pa_nil)))
    (pss_one (ps_expr (pe_bm PySem.F.plainAttrs_list PySem.F.slot_list_extend PySem.F.type_list_extend mt_extT (pv 3) (pa_cons (pe_revT (pe_callL (i := 1) Gparts (hr.mono (by omega)) rfl (.inl rfl) kk bb .nil pass0 (pa_cons (pv 4) pa_nil)) (po_some (pe_un un_neg pe_int))) pa_nil)))))))
    (pss_one (ps_ret (pv 2)))))), ?_⟩
  refine ⟨sz (by show 0 ≤ 100000; decide), fun fl hfl => ?_⟩
  have s0 := same_new hfl (.lst [])
  have f0 : upd H fl (.lst []) fl = some (.lst []) := upd_same
  refine ⟨_, rfl, sz (by show 1 ≤ 100000; decide), fun wl hwl => ?_⟩
  have s1 := same_new hwl (.lst [.ref a])
  have hwf : fl ≠ wl := ne_of_none f0 hwl
  have sA := s0.trans s1
  refine ⟨MetW R H a g fl wl n, ⟨_, none, [], [], [.ref a], [n], rfl, sA, s1 _ _ f0, trivial, upd_same, ⟨⟨a, rfl, R.tk (tk_same sA) hA⟩, trivial⟩, rfl, ?_, ?_⟩, ?_⟩
  · show 0 + (R.sz n + 0) ≤ 1000
    omega
  · rw [R.pres_cons]
    exact List.append_nil _
  have hw0 : H wl = none := s0.free hwl
  clear s0 f0 hwl s1 sA
  rintro m σ H1 ⟨o, fv, fs, rs, ts, rfl, s1, h1, k1, h2, k2, rfl, hm, hP⟩
  refine ⟨_, rfl, _, .inl ⟨_, SqL.of h2, rfl⟩, ?_⟩
  cases rs with
  | nil =>
    cases ts with
    | cons _ _ => exact k2.elim
    | nil =>
      refine itF rfl ⟨_, rfl, ?_⟩
      have e : fs = R.pre n := by
        rw [← hP]
        exact (List.append_nil fs).symm
      subst e
      exact q _ _ _ hfl s1 h1 k1
  | cons r rs =>
    cases ts with
    | nil => exact k2.elim
    | cons t1 ts =>
      obtain ⟨⟨b, rfl, hb⟩, k3⟩ := k2
      refine itT (by simp) ⟨fun σ' H' => ∃ m', m' < R.szs (t1 :: ts) ∧ MetW R H a g fl wl n m' σ' H', fun _ _ z => z, ?_⟩
      -- part = waiting.pop()
      refine ⟨_, rfl, .inl ⟨rfl, _, SqL.of h2⟩, wl, _, .ref b, rfl, rfl, h2, by simp, ?_⟩
      have eD : ((V.ref b :: rs).reverse).dropLast = rs.reverse := by rw [List.reverse_cons, List.dropLast_concat]
      rw [eD]
      have tk2 : TK H1 (upd H1 wl (.lst rs.reverse)) := tk_put h2
      have s2 : Same H (upd H1 wl (.lst rs.reverse)) := same_mut s1 hw0
      have w2 : upd H1 wl (.lst rs.reverse) wl = some (.lst rs.reverse) := upd_same
      have f2 : upd H1 wl (.lst rs.reverse) fl = some (.lst fv) := by
        rw [upd_ne hwf]
        exact h1
      have k4 := k1.imp fun _ _ z => Tre.V.tk tk2 z
      have k5 := k3.imp fun _ _ z => Tre.V.tk tk2 z
      have b2 := R.tk tk2 hb
      clear tk2
      generalize upd H1 wl (.lst rs.reverse) = H2 at s2 w2 f2 k4 k5 b2
      -- found.append(part)
      have hfs := k4.len
      refine ⟨_, rfl, .inl ⟨rfl, _, SqL.of f2⟩, _, rfl, fl, _, _, rfl, rfl, f2, Nat.lt_of_le_of_lt (m := 1000) (by omega) (by decide), ?_⟩
      have tk3 : TK H2 (upd H2 fl (.lst (fv ++ [.ref b]))) := tk_put f2
      have s3 : Same H (upd H2 fl (.lst (fv ++ [.ref b]))) := same_mut s2 hfl
      have f3 : upd H2 fl (.lst (fv ++ [.ref b])) fl = some (.lst (fv ++ [.ref b])) := upd_same
      have w3 : upd H2 fl (.lst (fv ++ [.ref b])) wl = some (.lst rs.reverse) := by
        rw [upd_ne (Ne.symm hwf)]
        exact w2
      have b3 := R.tk tk3 b2
      have k6 : All2 (R.V _) (fs ++ [t1]) (fv ++ [.ref b]) := (k4.imp fun _ _ z => Tre.V.tk tk3 z).app ⟨⟨b, rfl, b3⟩, trivial⟩
      have k7 := k5.imp fun _ _ z => Tre.V.tk tk3 z
      clear tk3
      generalize upd H2 fl (.lst (fv ++ [.ref b])) = H3 at s3 f3 w3 b3 k6 k7
      -- waiting.extend(parts(part)[::-1])
      have hcm : R.szs (t1 :: ts) = 1 + R.szs (R.kids t1) + R.szs ts := by
        rw [R.szs_cons, R.szk]
        rfl
      refine ⟨_, rfl, .inl ⟨rfl, _, SqL.of w3⟩, rfl, _, rfl, t1, b, rfl, b3, fun p' H4 us s5 h4 kk4 => ?_⟩
      have hlen := kk4.len
      have k8 := k7.imp fun _ _ z => Tre.V.tk (tk_same s5) z
      have hlen2 := k8.len
      have z1 := R.len_szs (R.kids t1)
      have z2 := R.len_szs ts
      refine ⟨1, rfl, -1, rfl, rfl, p', _, rfl, SqT.of h4, fun p5 hp5 => ?_⟩
      have s6 := same_new hp5 (.tup us.reverse)
      have w6 := s6 _ _ (s5 _ _ w3)
      refine ⟨wl, p5, _, _, rfl, rfl, w6, SqT.of upd_same, sz (by rw [List.length_reverse, List.length_reverse]; omega), ?_⟩
      have s7 := s5.trans s6
      have tk8 := (tk_same s6).trans (tk_put (o := .lst (rs.reverse ++ us.reverse)) w6)
      refine ⟨R.szs (R.kids t1 ++ ts), ?_, some (.ref b), fv ++ [.ref b], fs ++ [t1], us ++ rs, R.kids t1 ++ ts, rfl, same_mut (s3.trans s7) hw0, ?_, ?_, ?_, ?_, rfl, ?_, ?_⟩
      · rw [R.szs_app, hcm]
        omega
      · rw [upd_ne hwf]
        exact s7 _ _ f3
      · exact (k6.imp fun _ _ z => Tre.V.tk (tk_same s5) z).imp fun _ _ z => Tre.V.tk tk8 z
      · rw [upd_same, List.reverse_append]
      · exact (kk4.imp fun _ _ z => Tre.V.tk tk8 z).app (k8.imp fun _ _ z => Tre.V.tk tk8 z)
      · rw [List.length_append, List.length_singleton, R.szs_app]
        omega
      · rw [← hP, R.pres_app, R.pres_cons, R.pre_mk]
        simp
end
end KB

namespace KB
open PySem L2

def termsP : Pt → List Tm
  | .give _ t => [t]
  | .ask _ ts _ => ts
  | .tell _ t _ => [t]
  | .lett _ t _ => [t]
  | .iff t _ _ => [t]
  | .post _ _ _ _ => []
def restP : Pt → List Pt
  | .give _ _ => []
  | .ask _ _ _ => []
  | .tell _ _ p => [p]
  | .lett _ _ p => [p]
  | .iff _ p q => [p, q]
  | .post _ _ p q => [p, q]
/-! ### turned parts as a tree -/
def plP : Pt → List (List Int × Pt)
  | .give j t => [([], .give j t)]
  | .ask f ts j => [([], .ask f ts j)]
  | .tell x t p => ([], .tell x t p) :: ((plP p).map (fun e => (((0 : Nat) : Int) :: e.1, e.2)) ++ [])
  | .lett x t p => ([], .lett x t p) :: ((plP p).map (fun e => (((0 : Nat) : Int) :: e.1, e.2)) ++ [])
  | .iff t p q => ([], .iff t p q) :: ((plP p).map (fun e => (((0 : Nat) : Int) :: e.1, e.2)) ++ ((plP q).map (fun e => (((1 : Nat) : Int) :: e.1, e.2)) ++ []))
  | .post j x p q => ([], .post j x p q) :: ((plP p).map (fun e => (((0 : Nat) : Int) :: e.1, e.2)) ++ ((plP q).map (fun e => (((1 : Nat) : Int) :: e.1, e.2)) ++ []))
def TrP : Tre Pt where
  kids := restP
  sz := pcnt
  pl := plP
  A := PAt
  tk e h := PAt.tk e h
  szk n := by cases n <;> simp [pcnt, restP, Nat.add_assoc]
  plk n := by cases n <;> rfl
/-! ### turned parts and their terms as a tree -/
abbrev Nd := Pt ⊕ Tm
def plT : Tm → List (List Int × Nd)
  | .mk h n k => ([], .inr (.mk h n k)) :: (List.ofFn fun i : Fin n => (plT (k i)).map (fun e => ((i.val : Int) :: e.1, e.2))).flatten
def plTs : Nat → List Tm → List (List Int × Nd)
  | _, [] => []
  | j, t :: ts => (plT t).map (fun e => ((j : Int) :: e.1, e.2)) ++ plTs (j + 1) ts
def plQ : Pt → List (List Int × Nd)
  | .give j t => ([], .inl (.give j t)) :: ((plT t).map (fun e => (((0 : Nat) : Int) :: e.1, e.2)) ++ [])
  | .ask f ts j => ([], .inl (.ask f ts j)) :: plTs 0 ts
  | .tell x t p => ([], .inl (.tell x t p)) :: ((plT t).map (fun e => (((0 : Nat) : Int) :: e.1, e.2)) ++ ((plQ p).map (fun e => (((1 : Nat) : Int) :: e.1, e.2)) ++ []))
  | .lett x t p => ([], .inl (.lett x t p)) :: ((plT t).map (fun e => (((0 : Nat) : Int) :: e.1, e.2)) ++ ((plQ p).map (fun e => (((1 : Nat) : Int) :: e.1, e.2)) ++ []))
  | .iff t p q => ([], .inl (.iff t p q)) :: ((plT t).map (fun e => (((0 : Nat) : Int) :: e.1, e.2)) ++ ((plQ p).map (fun e => (((1 : Nat) : Int) :: e.1, e.2)) ++ ((plQ q).map (fun e => (((2 : Nat) : Int) :: e.1, e.2)) ++ [])))
  | .post j x p q => ([], .inl (.post j x p q)) :: ((plQ p).map (fun e => (((0 : Nat) : Int) :: e.1, e.2)) ++ ((plQ q).map (fun e => (((1 : Nat) : Int) :: e.1, e.2)) ++ []))
def plN : Nd → List (List Int × Nd)
  | .inl p => plQ p
  | .inr t => plT t
def kidsN : Nd → List Nd
  | .inl p => (termsP p).map .inr ++ (restP p).map .inl
  | .inr (.mk _ _ k) => (List.ofFn k).map .inr
def szN : Nd → Nat
  | .inl p => ncnt p
  | .inr t => cnt t
def NAt (H : Hp) : Nd → Addr → Prop
  | .inl p, a => PAt H p a ∧ kP p
  | .inr t, a => At H t a ∧ simple t = true
theorem plTs_plL : ∀ (ts : List Tm) (j : Nat), plTs j ts = plL plN j (ts.map .inr)
  | [], _ => rfl
  | t :: ts, j => by
    show (plT t).map (fun e => ((j : Int) :: e.1, e.2)) ++ plTs (j + 1) ts = (plT t).map (fun e => ((j : Int) :: e.1, e.2)) ++ plL plN (j + 1) (ts.map .inr)
    rw [plTs_plL ts (j + 1)]
theorem plT_fn : ∀ {n : Nat} {k : Fin n → Tm} {j : Nat}, (List.ofFn fun i : Fin n => (plT (k i)).map (fun e => (((j + i.val : Nat) : Int) :: e.1, e.2))).flatten = plTs j (List.ofFn k)
  | 0, _, _ => rfl
  | n + 1, k, j => by
    rw [List.ofFn_succ, List.ofFn_succ, List.flatten_cons]
    show _ = (plT (k 0)).map (fun e => ((j : Int) :: e.1, e.2)) ++ plTs (j + 1) _
    rw [← plT_fn (k := fun i => k i.succ) (j := j + 1)]
    congr 3
    · funext i
      have e : j + (i.succ).val = j + 1 + i.val := by
        rw [Fin.val_succ]
        omega
      rw [e]
theorem plT_mk {h : Hd} {n : Nat} {k : Fin n → Tm} : plT (.mk h n k) = ([], .inr (.mk h n k)) :: plTs 0 (List.ofFn k) := by
  rw [← plT_fn]
  show _ :: _ = _
  congr 4
  funext i
  rw [Nat.zero_add]
theorem szs_inr (ts : List Tm) : ((ts.map Sum.inr).map szN).sum = cnts ts := by
  rw [List.map_map]
  rfl
def TrN : Tre Nd where
  kids := kidsN
  sz := szN
  pl := plN
  A := NAt
  tk {H H' n a} e h := by
    cases n with
    | inl p => exact ⟨PAt.tk e h.1, h.2⟩
    | inr t => exact ⟨h.1.tk e, h.2⟩
  szk n := by
    cases n with
    | inl p =>
      cases p with
      | ask f ts j =>
        show 1 + cnts ts = 1 + (((ts.map Sum.inr ++ []).map szN)).sum
        rw [List.append_nil, szs_inr]
      | _ => simp [szN, ncnt, kidsN, termsP, restP, Nat.add_assoc]
    | inr t =>
      obtain ⟨h, n, k⟩ := t
      show cnt (.mk h n k) = 1 + (((List.ofFn k).map Sum.inr).map szN).sum
      rw [szs_inr, cnt_mk]
  plk n := by
    cases n with
    | inl p =>
      cases p with
      | ask f ts j =>
        show ([], .inl (.ask f ts j)) :: plTs 0 ts = ([], .inl (.ask f ts j)) :: plL plN 0 (ts.map .inr ++ [])
        rw [List.append_nil, plTs_plL]
      | _ => rfl
    | inr t =>
      obtain ⟨h, n, k⟩ := t
      show plT (.mk h n k) = ([], .inr (.mk h n k)) :: plL plN 0 ((List.ofFn k).map .inr)
      rw [plT_mk, plTs_plL]
theorem cut3 {x y z : V} {r : List V} : cutV (x :: y :: z :: r) (some 3) none = r := cut_from (i := 3) (by decide) (Nat.succ_le_succ len2)
theorem len3 {α : Type} {x y z : α} {r : List α} : 3 ≤ (x :: y :: z :: r).length := Nat.succ_le_succ len2
theorem all2_fn {H : Hp} : ∀ {n : Nat} {k : Fin n → Tm} {ys : Fin n → Addr}, (∀ i, At H (k i) (ys i)) → All2 (RefV H) (List.ofFn k) (Rfs ys)
  | 0, _, _, _ => trivial
  | n + 1, k, ys, h => by
    unfold Rfs
    rw [List.ofFn_succ, List.ofFn_succ]
    exact ⟨⟨ys 0, rfl, h 0⟩, all2_fn (k := fun i => k i.succ) (ys := fun i => ys i.succ) fun i => h i.succ⟩
theorem simple_mk {h : Hd} {n : Nat} {k : Fin n → Tm} (e : simple (.mk h n k) = true) : flatHd h = true ∧ ∀ i, simple (k i) = true := by
  have e' : (flatHd h && (List.ofFn fun i => simple (k i)).all id) = true := e
  rw [Bool.and_eq_true, List.all_eq_true] at e'
  exact ⟨e'.1, fun i => e'.2 _ (List.mem_ofFn.mpr ⟨i, rfl⟩)⟩
theorem all2_mem {α : Type} {R S : α → V → Prop} : ∀ {as : List α} {vs : List V}, All2 R as vs → (∀ a ∈ as, ∀ v, R a v → S a v) → All2 S as vs
  | [], [], _, _ => trivial
  | a :: as, v :: vs, h, e => ⟨e a List.mem_cons_self v h.1, all2_mem h.2 fun b hb => e b (List.mem_cons_of_mem _ hb)⟩
  | [], _ :: _, h, _ => h.elim
  | _ :: _, [], h, _ => h.elim
def heads : List V := [.str "number", .str "name", .str "plus", .str "less"]
theorem flat_in2 (h : Hd) : inV (.str (hs h)) heads = flatHd h := by
  cases h <;> rfl
/-- how a part begins -/
def hsP : Pt → Str
  | .give _ _ => "give" | .ask _ _ _ => "ask" | .tell _ _ _ => "tell" | .lett _ _ _ => "let" | .iff _ _ _ => "if" | .post _ _ _ _ => "post"
theorem PAt.head {H : Hp} {p : Pt} {a : Addr} (h : PAt H p a) : ∃ r, H a = some (.tup (.str (hsP p) :: r)) := by
  cases p with
  | give j t => obtain ⟨b, h1, _⟩ := h; exact ⟨_, h1⟩
  | ask f ts j => obtain ⟨b, vs, h1, _⟩ := h; exact ⟨_, h1⟩
  | tell x t p => obtain ⟨b, c, h1, _⟩ := h; exact ⟨_, h1⟩
  | lett x t p => obtain ⟨b, c, h1, _⟩ := h; exact ⟨_, h1⟩
  | iff t p q => obtain ⟨b, c, d, h1, _⟩ := h; exact ⟨_, h1⟩
  | post j x p q => obtain ⟨c, d, h1, _⟩ := h; exact ⟨_, h1⟩
def handV : Pt → V
  | .give j _ => .str j
  | .ask _ _ j => .str j
  | _ => .non
theorem kP_terms {p : Pt} (h : kP p) : ∀ t ∈ termsP p, simple t = true := by
  intro t ht
  cases p with
  | give j u => rw [List.mem_singleton.mp ht]; exact h.2.si
  | ask f ts j => exact (h.2.2.2 t ht).si
  | tell x u p => rw [List.mem_singleton.mp ht]; exact h.2.1.si
  | lett x u p => rw [List.mem_singleton.mp ht]; exact h.2.1.si
  | iff u p q => rw [List.mem_singleton.mp ht]; exact h.1.si
  | post j x p q => cases ht
theorem kP_rest {p : Pt} (h : kP p) : ∀ u ∈ restP p, kP u := by
  intro u hu
  cases p with
  | give j t => cases hu
  | ask f ts j => cases hu
  | tell x t p => rw [List.mem_singleton.mp hu]; exact h.2.2
  | lett x t p => rw [List.mem_singleton.mp hu]; exact h.2.2
  | iff t p q =>
    rcases List.mem_cons.mp hu with z | z
    · rw [z]; exact h.2.1
    · rw [List.mem_singleton.mp z]; exact h.2.2
  | post j x p q =>
    rcases List.mem_cons.mp hu with z | z
    · rw [z]; exact h.2.2.1
    · rw [List.mem_singleton.mp z]; exact h.2.2.2
section
variable {P : Program} {w : World} {K : PySem.W.Frag} {mg : Str → Option Value} {base : Heap}
/-! ### terms_in -/
def spTermsIn : Sp := fun vs H Q _ => ∃ (a : Addr) (p : Pt), vs = [.ref a] ∧ PAt H p a ∧ ∀ H' q vs, Same H H' → H' q = some (.tup vs) → All2 (RefV H') (termsP p) vs → Q (.ref q) H'
abbrev sterms_in : Stmt := top 9
theorem scterms_in : FnScope ["part"] ["part"] (defScope sterms_in) := ⟨rfl, rfl, rfl, by decide +kernel, rfl, by decide +kernel, by decide +kernel⟩
theorem ok_tin {f : Addr} {fd : FuncData} (F : Fun K "terms_in" "terms_in" sterms_in f fd) : FnOk P w K mg base CX0 1 f fd ["part"] spTermsIn := by
  refine F.ok scterms_in (fun vs H Q E h => ?_) (fun cdv A outer s H vs Q E hr h => ?_)
  · obtain ⟨a, p, rfl, _⟩ := h
    rfl
  obtain ⟨a, p, rfl, hA, q⟩ := h
  refine ⟨_, (pss_cons (ps_if (pt_cmpR op_eq (pe_ix ix_tup (pv 0) pe_int (fun _ _ => rfl)) pe_str (nomark _)) (pss_one (ps_ret (pe_ix ix_tup (pv 0) pe_int (fun _ _ => rfl)))) pss_nil)
    (pss_cons (ps_if (pt_cmpR op_eq (pe_ix ix_tup (pv 0) pe_int (fun _ _ => rfl)) pe_str (nomark _)) (pss_one (ps_ret (pe_slice sl_tupA (pv 0) (po_some pe_int) (po_some pe_int)))) pss_nil)
    (pss_cons (ps_if (pt_cmpR op_eq (pe_ix ix_tup (pv 0) pe_int (fun _ _ => rfl)) pe_str (nomark _)) (pss_one (ps_ret (pe_tup pa_nil))) pss_nil)
    (pss_one (ps_ret (pe_slice sl_tupA (pv 0) (po_some pe_int) (po_some pe_int))))))), ?_⟩
  cases p with
  | give j t =>
    obtain ⟨b, h1, h2⟩ := hA
    refine ⟨_, rfl, a, _, _, _, rfl, rfl, SqT.of h1, at0, rfl, _, rfl, itF rfl ⟨_, rfl, a, _, _, _, rfl, rfl, SqT.of h1, at0, rfl, _, rfl, itF rfl ⟨_, rfl, a, _, _, _, rfl, rfl, SqT.of h1, at0, rfl, _, rfl, itF rfl ?_⟩⟩⟩
    refine ⟨_, rfl, _, rfl, _, rfl, a, _, rfl, SqT.of h1, fun z => absurd z (by show ¬ (HT.sIx 3 0 (some 2) = 0 ∧ HT.sIx 3 3 (some 3) = 3); decide), fun _ p hp => ?_⟩
    have s1 := same_new hp (.tup [V.ref b])
    exact q _ p [.ref b] s1 upd_same ⟨⟨b, rfl, h2.mono s1⟩, trivial⟩
  | ask g ts j =>
    obtain ⟨b, vs, h1, h2, h3⟩ := hA
    exact ⟨_, rfl, a, _, _, _, rfl, rfl, SqT.of h1, at0, rfl, _, rfl, itT rfl ⟨_, rfl, a, _, _, _, rfl, rfl, SqT.of h1, at2, q H b vs (Same.refl H) h2 h3⟩⟩
  | tell x t p =>
    obtain ⟨b, c, h1, h2, h3⟩ := hA
    refine ⟨_, rfl, a, _, _, _, rfl, rfl, SqT.of h1, at0, rfl, _, rfl, itF rfl ⟨_, rfl, a, _, _, _, rfl, rfl, SqT.of h1, at0, rfl, _, rfl, itF rfl ⟨_, rfl, a, _, _, _, rfl, rfl, SqT.of h1, at0, rfl, _, rfl, itF rfl ?_⟩⟩⟩
    refine ⟨_, rfl, _, rfl, _, rfl, a, _, rfl, SqT.of h1, fun z => absurd z (by show ¬ (HT.sIx 4 0 (some 2) = 0 ∧ HT.sIx 4 4 (some 3) = 4); decide), fun _ p hp => ?_⟩
    have s1 := same_new hp (.tup [V.ref b])
    exact q _ p [.ref b] s1 upd_same ⟨⟨b, rfl, h2.mono s1⟩, trivial⟩
  | lett x t p =>
    obtain ⟨b, c, h1, h2, h3⟩ := hA
    refine ⟨_, rfl, a, _, _, _, rfl, rfl, SqT.of h1, at0, rfl, _, rfl, itF rfl ⟨_, rfl, a, _, _, _, rfl, rfl, SqT.of h1, at0, rfl, _, rfl, itF rfl ⟨_, rfl, a, _, _, _, rfl, rfl, SqT.of h1, at0, rfl, _, rfl, itF rfl ?_⟩⟩⟩
    refine ⟨_, rfl, _, rfl, _, rfl, a, _, rfl, SqT.of h1, fun z => absurd z (by show ¬ (HT.sIx 4 0 (some 2) = 0 ∧ HT.sIx 4 4 (some 3) = 4); decide), fun _ p hp => ?_⟩
    have s1 := same_new hp (.tup [V.ref b])
    exact q _ p [.ref b] s1 upd_same ⟨⟨b, rfl, h2.mono s1⟩, trivial⟩
  | iff t p p2 =>
    obtain ⟨b, c, d, h1, h2, h3, h4⟩ := hA
    refine ⟨_, rfl, a, _, _, _, rfl, rfl, SqT.of h1, at0, rfl, _, rfl, itF rfl ⟨_, rfl, a, _, _, _, rfl, rfl, SqT.of h1, at0, rfl, _, rfl, itT rfl ?_⟩⟩
    refine ⟨_, rfl, _, rfl, _, rfl, a, _, rfl, SqT.of h1, fun z => absurd z (by show ¬ (HT.sIx 4 0 (some 1) = 0 ∧ HT.sIx 4 4 (some 2) = 4); decide), fun _ p hp => ?_⟩
    have s1 := same_new hp (.tup [V.ref b])
    exact q _ p [.ref b] s1 upd_same ⟨⟨b, rfl, h2.mono s1⟩, trivial⟩
  | post j x p p2 =>
    obtain ⟨c, d, h1, h2, h3⟩ := hA
    refine ⟨_, rfl, a, _, _, _, rfl, rfl, SqT.of h1, at0, rfl, _, rfl, itF rfl ⟨_, rfl, a, _, _, _, rfl, rfl, SqT.of h1, at0, rfl, _, rfl, itF rfl ⟨_, rfl, a, _, _, _, rfl, rfl, SqT.of h1, at0, rfl, _, rfl, itT rfl ?_⟩⟩⟩
    exact ⟨sz (by show 0 ≤ 100000; decide), fun p hp => q _ p [] (same_new hp _) upd_same trivial⟩
/-! ### rest_of -/
abbrev srest_of : Stmt := top 10
theorem screst_of : FnScope ["part"] ["part"] (defScope srest_of) := ⟨rfl, rfl, rfl, by decide +kernel, rfl, by decide +kernel, by decide +kernel⟩
theorem ok_rest {f : Addr} {fd : FuncData} (F : Fun K "rest_of" "rest_of" srest_of f fd) : FnOk P w K mg base CX0 1 f fd ["part"] (spKids TrP) := by
  refine F.ok screst_of (fun vs H Q E h => ?_) (fun cdv A outer s H vs Q E hr h => ?_)
  · obtain ⟨p, a, rfl, _⟩ := h
    rfl
  obtain ⟨p, a, rfl, hA, q⟩ := h
  refine ⟨_, (pss_cons (ps_if (pt_cmpR op_eq (pe_ix ix_tup (pv 0) pe_int (fun _ _ => rfl)) pe_str (nomark _)) (pss_one (ps_ret (pe_slice sl_tupA (pv 0) (po_some pe_int) po_none))) pss_nil)
    (pss_cons (ps_if (pt_cmpR op_in_seq (pe_ix ix_tup (pv 0) pe_int (fun _ _ => rfl)) (pe_tup (pa_cons pe_str (pa_cons pe_str pa_nil))) rfl) (pss_one (ps_ret (pe_tup pa_nil))) pss_nil)
    (pss_one (ps_ret (pe_slice sl_tupA (pv 0) (po_some pe_int) po_none))))), ?_⟩
  have hA' : PAt H p a := hA
  obtain ⟨r, hd⟩ := hA'.head
  refine ⟨_, rfl, a, _, _, _, rfl, rfl, SqT.of hd, at0, rfl, _, rfl, ?_⟩
  cases p with
  | iff t p1 p2 =>
    obtain ⟨b, c, d, h1, h2, h3, h4⟩ := hA'
    refine itT rfl ⟨_, rfl, _, rfl, a, _, rfl, SqT.of h1, fun z => absurd z (not_whole (by decide) len2), fun _ pa hpa => ?_⟩
    have s1 := same_new hpa (.tup (cutV [.str "if", .ref b, .ref c, .ref d] (some 2) none))
    exact q pa _ [.ref c, .ref d] s1 (by rw [upd_same, cut2]) ⟨⟨c, rfl, PAt.tk (tk_same s1) h3⟩, ⟨d, rfl, PAt.tk (tk_same s1) h4⟩, trivial⟩
  | give j t =>
    refine itF rfl ⟨_, rfl, a, _, _, _, rfl, rfl, SqT.of hd, at0, sz (by show 2 ≤ 100000; decide), fun t1 ht1 => ⟨t1, _, rfl, .inr (SqT.of upd_same), rfl, rfl, _, rfl, itT rfl ⟨sz (by show 0 ≤ 100000; decide), fun pa hpa => ?_⟩⟩⟩
    exact q pa _ [] ((same_new ht1 _).trans (same_new hpa _)) upd_same trivial
  | ask g ts j =>
    refine itF rfl ⟨_, rfl, a, _, _, _, rfl, rfl, SqT.of hd, at0, sz (by show 2 ≤ 100000; decide), fun t1 ht1 => ⟨t1, _, rfl, .inr (SqT.of upd_same), rfl, rfl, _, rfl, itT rfl ⟨sz (by show 0 ≤ 100000; decide), fun pa hpa => ?_⟩⟩⟩
    exact q pa _ [] ((same_new ht1 _).trans (same_new hpa _)) upd_same trivial
  | tell x t p1 =>
    obtain ⟨b, c, h1, h2, h3⟩ := hA'
    refine itF rfl ⟨_, rfl, a, _, _, _, rfl, rfl, SqT.of h1, at0, sz (by show 2 ≤ 100000; decide), fun t1 ht1 => ⟨t1, _, rfl, .inr (SqT.of upd_same), rfl, rfl, _, rfl, itF rfl ?_⟩⟩
    have s0 := same_new ht1 (.tup [.str "give", .str "ask"])
    refine ⟨_, rfl, _, rfl, a, _, rfl, SqT.of (s0 _ _ h1), fun z => absurd z (not_whole (by decide) len3), fun _ pa hpa => ?_⟩
    have s1 := s0.trans (same_new hpa (.tup (cutV [.str "tell", .str x, .ref b, .ref c] (some 3) none)))
    exact q pa _ [.ref c] s1 (by rw [upd_same, cut3]) ⟨⟨c, rfl, PAt.tk (tk_same s1) h3⟩, trivial⟩
  | lett x t p1 =>
    obtain ⟨b, c, h1, h2, h3⟩ := hA'
    refine itF rfl ⟨_, rfl, a, _, _, _, rfl, rfl, SqT.of h1, at0, sz (by show 2 ≤ 100000; decide), fun t1 ht1 => ⟨t1, _, rfl, .inr (SqT.of upd_same), rfl, rfl, _, rfl, itF rfl ?_⟩⟩
    have s0 := same_new ht1 (.tup [.str "give", .str "ask"])
    refine ⟨_, rfl, _, rfl, a, _, rfl, SqT.of (s0 _ _ h1), fun z => absurd z (not_whole (by decide) len3), fun _ pa hpa => ?_⟩
    have s1 := s0.trans (same_new hpa (.tup (cutV [.str "let", .str x, .ref b, .ref c] (some 3) none)))
    exact q pa _ [.ref c] s1 (by rw [upd_same, cut3]) ⟨⟨c, rfl, PAt.tk (tk_same s1) h3⟩, trivial⟩
  | post j x p1 p2 =>
    obtain ⟨c, d, h1, h2, h3⟩ := hA'
    refine itF rfl ⟨_, rfl, a, _, _, _, rfl, rfl, SqT.of h1, at0, sz (by show 2 ≤ 100000; decide), fun t1 ht1 => ⟨t1, _, rfl, .inr (SqT.of upd_same), rfl, rfl, _, rfl, itF rfl ?_⟩⟩
    have s0 := same_new ht1 (.tup [.str "give", .str "ask"])
    refine ⟨_, rfl, _, rfl, a, _, rfl, SqT.of (s0 _ _ h1), fun z => absurd z (not_whole (by decide) len3), fun _ pa hpa => ?_⟩
    have s1 := s0.trans (same_new hpa (.tup (cutV [.str "post", .str j, .str x, .ref c, .ref d] (some 3) none)))
    exact q pa _ [.ref c, .ref d] s1 (by rw [upd_same, cut3]) ⟨⟨c, rfl, PAt.tk (tk_same s1) h2⟩, ⟨d, rfl, PAt.tk (tk_same s1) h3⟩, trivial⟩
/-! ### turned_parts -/
abbrev sturned_parts : Stmt := top 11
theorem scturned_parts : FnScope ["part"] ["part"] (defScope sturned_parts) := ⟨rfl, rfl, rfl, by decide +kernel, rfl, by decide +kernel, by decide +kernel⟩
theorem ok_tparts (hS : ∃ a, mg "SIMPLE_HEADS" = some (.ref a) ∧ ∀ H, SqT K H a heads) {f f1 f2 f3 : Addr} {fd d1 d2 d3 : FuncData} (F : Fun K "turned_parts" "turned_parts" sturned_parts f fd) (Gparts_of : FnOk P w K mg base CX0 1 f1 d1 ["term"] spParts) (Rparts_of : Ref K mg "parts_of" f1 d1 ["term"])
    (Gterms_in : FnOk P w K mg base CX0 1 f2 d2 ["part"] spTermsIn) (Rterms_in : Ref K mg "terms_in" f2 d2 ["part"]) (Grest_of : FnOk P w K mg base CX0 1 f3 d3 ["part"] (spKids TrP)) (Rrest_of : Ref K mg "rest_of" f3 d3 ["part"]) : FnOk P w K mg base CX0 2 f fd ["part"] (spKids TrN) := by
  refine F.ok scturned_parts (fun vs H Q E h => ?_) (fun cdv A outer s H vs Q E hr h => ?_)
  · obtain ⟨p, a, rfl, _⟩ := h
    rfl
  obtain ⟨n, a, rfl, hA, q⟩ := h
  obtain ⟨sh, msh, hsh⟩ := hS
  refine ⟨_, (pss_cons (ps_if (pt_cmpR op_in_seq (pe_ix ix_tup (pv 0) pe_int (fun _ _ => rfl)) (pe_glob (v := .ref sh) rfl msh rfl) rfl) (pss_one (ps_ret (pe_call Gparts_of (hr.mono (by omega)) rfl Rparts_of.m Rparts_of.k Rparts_of.b .nil pass0 (pa_cons (pv 0) pa_nil)))) pss_nil)
    (pss_one (ps_ret (pe_op op_catA (pe_call Gterms_in (hr.mono (by omega)) rfl Rterms_in.m Rterms_in.k Rterms_in.b .nil pass0 (pa_cons (pv 0) pa_nil)) (pe_call Grest_of (hr.mono (by omega)) rfl Rrest_of.m Rrest_of.k Rrest_of.b .nil pass0 (pa_cons (pv 0) pa_nil)))))), ?_⟩
  cases n with
  | inr t =>
    obtain ⟨hT, hsi⟩ := hA
    obtain ⟨h, n, k⟩ := t
    obtain ⟨ys, l, hk⟩ := hT
    obtain ⟨r, hd⟩ := l.head
    obtain ⟨e1, e2⟩ := simple_mk hsi
    refine ⟨_, rfl, a, _, _, _, rfl, rfl, SqT.of hd, at0, sh, _, rfl, .inr (hsh _), rfl, rfl, _, rfl, itT ?_ ⟨_, rfl, a, h, _, rfl, l, fun p H1 s1 h1 => ?_⟩⟩
    · show inV (.str (hs h)) heads = true
      rw [flat_in2, e1]
    · refine q p H1 _ s1 h1 ?_
      have z := all2_fn (k := k) (ys := ys) fun i => (hk i).mono s1
      refine All2.map (f := Sum.inr) (all2_mem z fun u hu v hv => ?_)
      obtain ⟨b, rfl, hb⟩ := hv
      obtain ⟨i, rfl⟩ := List.mem_ofFn.mp hu
      exact ⟨b, rfl, hb, e2 i⟩
  | inl p =>
    obtain ⟨hA', hk⟩ : PAt H p a ∧ kP p := hA
    obtain ⟨r, hd⟩ := hA'.head
    refine ⟨_, rfl, a, _, _, _, rfl, rfl, SqT.of hd, at0, sh, _, rfl, .inr (hsh _), rfl, rfl, _, rfl, itF ?_ ⟨_, rfl, a, p, rfl, hA', fun H1 b1 us1 s1 g1 k1 => ?_⟩⟩
    · show inV (.str (hsP p)) heads = false
      cases p <;> rfl
    · refine ⟨_, rfl, p, a, rfl, PAt.tk (tk_same s1) hA', fun b2 H2 us2 s2 g2 k2 => ?_⟩
      have z1 := k1.len
      have z2 := k2.len
      have l1 : (termsP p).length ≤ 4 := by
        cases p with
        | ask f ts j => exact hk.2.2.1
        | _ => show (_ : List Tm).length ≤ 4; simp [termsP]
      have l2 : (restP p).length ≤ 2 := by cases p <;> simp [restP]
      refine catA_of (s2 _ _ g1) g2 (by show us1.length + us2.length ≤ 100000; rw [z1, z2]; show (termsP p).length + (restP p).length ≤ 100000; omega) fun b3 H3 s3 g3 => ?_
      refine q b3 H3 _ ((s1.trans s2).trans s3) g3 ?_
      refine All2.app (All2.map (f := Sum.inr) (all2_mem k1 fun t ht v hv => ?_)) (All2.map (f := Sum.inl) (all2_mem k2 fun u hu v hv => ?_))
      · obtain ⟨b, e, hb⟩ := hv
        exact ⟨b, e, hb.mono (s2.trans s3), kP_terms hk t ht⟩
      · obtain ⟨b, e, hb⟩ := hv
        exact ⟨b, e, PAt.tk (tk_same s3) hb, kP_rest hk u hu⟩
end
end KB

namespace KB
open PySem L2 PyProof.Rows
open PySem.AutoSeq1 (wpAny_loadPart')

/-! ### enumerate(tuple): the layer has it over lists alone -/
theorem new_enumT (l : Addr) (us : Array Value) (n : Nat) (dd : Option Addr) (sl : Array (Option Value)) :
    Meets (Builtin.«enumerate.__new__» ⟨[.type "enumerate", .ref l], []⟩) (fun _ R s =>
      s.heap.get? l = some { cls := .type "tuple", dict := dd, data := .seq us n, slots := sl } ∧
      R (.ok (.ret (.ref (s.heap.push { cls := .type "tuple_iterator", data := .fields #[.ref l, .int 0 0] }).objs.size)))
        { s with heap := (s.heap.push { cls := .type "tuple_iterator", data := .fields #[.ref l, .int 0 0] }).push { cls := .type "enumerate", data := .fields #[.none, .bool false, .ref s.heap.objs.size, rawInt 0, .none, .none] } }) := by
  refine .of_wp fun prog w A R s h => ?_
  obtain ⟨hp, g, d, tk, os⟩ := s
  obtain ⟨hl, h⟩ := h
  have hsub := sub_enumerate
  have hL : Heap.IsTuple (Shared.heap ⟨hp, g, d, tk, os⟩) l us := ⟨_, hl, rfl, n, rfl⟩
  wp_walk using wpAny_loadPart' hl
  refine wpAny_stack_any fun st => wpAny_pure ?_
  split
  · rename_i c _ _ _ _ _
    cases (c == Value.type "enumerate")
    all_goals
      wp_walk using wpAny_loadPart' hl, wpAny_pyIter_tuple hL
      exact ⟨_, rfl, h⟩
  · wp_walk using wpAny_loadPart' hl, wpAny_pyIter_tuple hL
    exact ⟨_, rfl, h⟩
section
variable {prog : Program} {w : World} {A : Around} {E : Value → Shared → Prop} {s : Shared}
theorem call_enumT {l : Addr} {us : Array Value} {Q : Value → Shared → Prop} (hL : s.heap.IsTuple l us)
    (h : ∀ h', IsEnum h' (s.heap.objs.size + 1) s.heap.objs.size 0 .none → h'.IsTupleIter s.heap.objs.size l 0 →
      (∀ b o, s.heap.get? b = some o → h'.get? b = some o) → Q (.ref (s.heap.objs.size + 1)) { s with heap := h' }) :
    wpAny (model prog w) A (call (.type "enumerate") [.ref l]) Q E s := by
  obtain ⟨⟨c, dct, dt, sl⟩, hl, hc, n, hd⟩ := hL
  cases (show c = .type "tuple" from hc)
  cases (show dt = .seq us n from hd)
  refine callType_new F.called_enumerate (by decide) (F.typeCall_enumerate_1 _) (F.newCall_enumerate_1 _) (fun obj => F.args_object_init_2 obj _) F.entry_enumerate_new
    (new_enumT l us n dct sl) ⟨hl, ?_⟩
  have hz : (s.heap.push { cls := .type "tuple_iterator", data := .fields #[.ref l, .int 0 0] }).objs.size = s.heap.objs.size + 1 := Heap.size_push ..
  show _ ∧ _
  rw [hz]
  have g0 := Heap.get?_push_size (s.heap.push { cls := .type "tuple_iterator", data := .fields #[.ref l, .int 0 0] })
    (o := { cls := .type "enumerate", data := .fields #[.none, .bool false, .ref s.heap.objs.size, rawInt 0, .none, .none] }) rfl
  rw [hz] at g0
  refine ⟨⟨_, g0, rfl⟩, h _ g0 ⟨_, Heap.get?_push_of_some _ (Heap.get?_push_size _ rfl), rfl, rfl⟩ fun b o x => ?_⟩
  exact Heap.get?_push_of_some _ (Heap.get?_push_of_some _ x)
end
theorem drawsT {prog : Program} {w : World} {A : Around} (hh : A.handled = none) (it l : Addr) (hne : l ≠ it) (us : Array Value) :
    Draws prog w A it [it, l] us.size (fun i v => us[i]? = some v) (fun i h => h.IsTupleIter it l i ∧ h.IsTuple l us) where
  live := fun _ _ st => let ⟨o, ho, _⟩ := st.1; ⟨o, ho⟩
  frame := fun _ _ _ st hk => ⟨st.1.at fun o e => hk it (by simp) o e, let ⟨o, ho, r⟩ := st.2; ⟨o, hk l (by simp) o ho, r⟩⟩
  item := fun i s Q E hi st hQ => by
    refine RZ.nextOf_tuple_item st.1 st.2 (x := us[i]) (by simp [hi]) fun h' hit' hs' => ?_
    exact hQ _ h' s.toks (by simp [hi]) ⟨hit', st.2.extBut hs'.extBut hne⟩ hs'
  done := fun s Q E st hE => RZ.nextOf_tuple_end hh st.1 st.2 (by simp) hE
/-- the tuple at a, each item in a new pair -/
def IteT (K : PySem.W.Frag) (a : Addr) : It where
  go := fun i H => ∃ (xs : List V) (x : V), SqT K H a xs ∧ xs[i]? = some x
  yld := fun i H v H' => ∃ T x, v = .ref T ∧ H T = none ∧ H' = upd H T (.tup [.int (i : Nat), x]) ∧ ∀ xs, SqT K H a xs → xs[i]? = some x
  stop := fun i H => ∃ xs : List V, SqT K H a xs ∧ xs.length = i
theorem turn_enumT {P : Program} {w : World} {K : PySem.W.Frag} {elts : List Expr} {kk : Nat} {tpos : Pos} (a e it : Addr) :
    Turn P w K (.Tuple elts kk tpos) (IteT K a) [e, it] e (fun i h => (∃ old, IsEnum h e it ((i : Nat) : Int) old) ∧ h.IsTupleIter it a i ∧ e ≠ it ∧ a ≠ it ∧ a ≠ e) where
  mem := by simp
  obj := fun i h st b hb => by
    obtain ⟨⟨old, he⟩, ⟨o, ho, hc, hd⟩, _⟩ := st
    have e' : b = e ∨ b = it := by simpa using hb
    rcases e' with z | z
    · rw [z]; exact ⟨_, he, fun v q => nomatch q⟩
    · rw [z]; exact ⟨o, ho, fun v q => by rw [hd] at q; cases q⟩
  keep := fun i h h' st k => let ⟨⟨old, he⟩, hi, hne⟩ := st; ⟨⟨old, k e (by simp) _ he⟩, hi.at fun o q => k it (by simp) o q, hne⟩
  item := by
    intro X hP hw hK hc i pins s σ H E I hf st hg
    subst hP hw hK
    obtain ⟨⟨old, he⟩, hit, hne, hai, hae⟩ := st
    obtain ⟨xs, x, hq, hx⟩ := hg
    obtain ⟨its, rv, p, hz⟩ := I.tuple hq
    obtain ⟨u, hu, ru⟩ := rv.get hx
    have hel : e < s.heap.objs.size := Heap.lt_size he
    have hil : it < s.heap.objs.size := by obtain ⟨_, q, _⟩ := hit; exact Heap.lt_size q
    have hiz : i < its.toArray.size := by
      have := (List.getElem?_eq_some_iff.mp hu).1
      simpa using this
    refine wpAny_pyNext_enum_itemD (drawsT (A := X.A.in1) (show X.A.in1.handled = none from I.ok.hd hc) it a hai its.toArray) he ⟨hit, p⟩ hiz hne (by simp [hne, Ne.symm hae]) fun y h' tk hy ho hst hT hsz hk => ?_
    have ey : y = u := by
      have h2 : its.toArray[i]? = some u := by simpa using hu
      rw [hy] at h2
      exact Option.some.inj h2
    subst ey
    refine ⟨_, rfl, wpAny_letOwnedTupleGo_enum (s := { s with heap := h', toks := tk + 1 }) ho fun h'' he' sb => ?_⟩
    have hT2 : h''.get? s.heap.objs.size = some { cls := .type "tuple", data := .seq #[.int i tk, y] } := (sb.2 _ (Nat.ne_of_gt hel)).trans hT
    have new : ObjOk X.prog X.w (upd H s.heap.objs.size (.tup [.int (i : Nat), x])) h'' s.heap.objs.size (.tup [.int (i : Nat), x]) :=
      ⟨by show 2 ≤ sizeLine; decide, [.int i tk, y], .cons ⟨_, rfl⟩ (.cons ru .nil), ⟨_, hT2, rfl, _, rfl⟩⟩
    have I1 : Inv X pins σ (upd H s.heap.objs.size (.tup [.int (i : Nat), x])) { s with heap := h'', toks := tk + 1 } :=
      I.turnedNew (ch := [e, it]) (fun b ob hb q => (sb.2 b (fun z => hb (by simp [z]))).trans (hk b ob (fun z => hb (by simp [z])) (fun z => hb (by simp [z])) q)) hf (Nat.le_refl _) new
    refine ⟨.ref s.heap.objs.size, _, I1, rfl, ⟨_, x, rfl, I.hok.fresh (Nat.le_refl _), rfl, fun ys hy => by rw [I.tuple_inj hy hq]; exact hx⟩, ⟨⟨y, ?_⟩, hst.1.at fun o q => (sb.2 it (Ne.symm hne)).trans q, hne, hai, hae⟩, fun b hb => ?_⟩
    · have e1 : ((i + 1 : Nat) : Int) = (i : Int) + 1 := by omega
      rw [e1]
      exact he'
    · have hb' : b < s.heap.objs.size := by
        have e' : b = e ∨ b = it := by simpa using hb
        rcases e' with z | z
        · rw [z]; exact hel
        · rw [z]; exact hil
      rw [upd_ne (Nat.ne_of_lt hb')]
      exact (hf b hb).1
  done := by
    intro X hP hw hK hc i pins s σ H E I hf st hg
    subst hP hw hK
    obtain ⟨⟨old, he⟩, hit, hne, hai, hae⟩ := st
    obtain ⟨xs, hq, hx⟩ := hg
    obtain ⟨its, rv, p, hz⟩ := I.tuple hq
    obtain ⟨f0, f1, f2, f3, f4, f5⟩ := hf it (by simp)
    have hl := rv.length
    have hge : i = its.toArray.size := by
      rw [List.size_toArray]
      omega
    subst hge
    exact wpAny_pyNext_enum_endD (drawsT (A := X.A.in1) (show X.A.in1.handled = none from I.ok.hd hc) it a hai its.toArray) he ⟨hit, p⟩ fun h' eb => ⟨rfl, I.turned (t' := s.toks) (fun b o hb e => eb b o hb e) f0 f1 f3 f4 f5⟩
  self := fun A i s Q E st h => let ⟨⟨_, he⟩, _⟩ := st; wpAny_pyIter_enum he h
def iEnumT (K : PySem.W.Frag) (ta : TA) : TI := fun σ H R => ta σ H fun vs H1 => ∃ a xs, vs = [.ref a] ∧ SqT K H1 a xs ∧ R (IteT K a) H1
theorem pi_enumT {X : Cx} {e : Expr} {ta : TA} {p pos tpos : Pos} {elts : List Expr} {kk : Nat} (hg : Gl X "enumerate") (hm : X.mg "enumerate" = none) (ha : PA X [e] ta) (hs : starEach [e] X.env = [(false, eval e X.env)] := by rfl) :
    PI X (.Tuple elts kk tpos) (.Call (.Name "enumerate" p) [e] [] pos) (iEnumT X.K ta) := by
  refine ⟨fun pins s σ H R I h => ?_⟩
  refine Call_ (ld_blt I hg hm boot_enumerate (PyProof.Rows.callWith_type1 (thn (ha.run pos pins s σ H _ I h) fun us s1 ⟨vs, H1, I1, r1, q1⟩ => ?_) hs rfl))
  obtain ⟨a, xs, ex, hq, q⟩ := q1
  subst ex
  cases r1 with
  | cons r rr =>
    cases rr
    cases r
    obtain ⟨its, rv, p', hz⟩ := I1.tuple hq
    have hal : a < s1.heap.objs.size := by obtain ⟨_, z, _⟩ := p'; exact Heap.lt_size z
    refine call_enumT p' fun h' he hit hk => wpAny_pyIter_enum he ?_
    have I2 : Inv X pins σ H1 { s1 with heap := h' } := I1.kept (t' := s1.toks) hk
    refine ⟨s1.heap.objs.size + 1, [s1.heap.objs.size + 1, s1.heap.objs.size], _, _, H1, rfl, I2, turn_enumT a (s1.heap.objs.size + 1) s1.heap.objs.size, ⟨⟨.none, he⟩, hit, Nat.succ_ne_self _, Nat.ne_of_lt hal, Nat.ne_of_lt (Nat.lt_succ_of_lt hal)⟩, fun b hb => ?_, q⟩
    have hle : s1.heap.objs.size ≤ b := by
      have e' : b = s1.heap.objs.size + 1 ∨ b = s1.heap.objs.size := by simpa using hb
      rcases e' with z | z
      · rw [z]
        exact Nat.le_add_right _ _
      · rw [z]
        exact Nat.le_refl _
    exact I1.fpOk hle (I1.hok.fresh hle)
end KB
namespace KB
open PySem L2
theorem for_enT {K : PySem.W.Frag} {a : Addr} {xs : List V} {g : TG} {tb : TS} {D : Ends} {σ : St} {H : Hp} (Pv : Nat → St → Hp → Prop) (h0 : Pv 0 σ H) (hl : ∀ i σ H, i ≤ xs.length → Pv i σ H → SqT K H a xs)
    (hs : ∀ i x T σ H, xs[i]? = some x → H T = none → Pv i σ H → g (.ref T) σ (upd H T (.tup [.int (i : Nat), x])) fun σ2 H2 => tb { D with nx := Pv (i + 1), ct := Pv (i + 1), bk := D.nx } σ2 H2) (hd : ∀ σ H, Pv xs.length σ H → D.nx σ H) :
    ∃ W : Nat → Nat → St → Hp → Prop, (∃ m, W 0 m σ H) ∧ ∀ i m σ H, W i m σ H →
      ((IteT K a).stop i H ∧ D.nx σ H) ∨ ((IteT K a).go i H ∧ ∃ N : St → Hp → Prop, (∀ σ' H', N σ' H' → ∃ m', m' < m ∧ W (i + 1) m' σ' H') ∧ ∀ x H', (IteT K a).yld i H x H' → g x σ H' fun σ2 H2 => tb { D with nx := N, ct := N, bk := D.nx } σ2 H2) := by
  refine ⟨fun i m σ H => m = xs.length - i ∧ i ≤ xs.length ∧ Pv i σ H, ⟨xs.length, by simp, Nat.zero_le _, h0⟩, ?_⟩
  rintro i m σ H ⟨rfl, hi, p⟩
  have q := hl i σ H hi p
  by_cases hlt : i < xs.length
  · refine .inr ⟨⟨xs, xs[i], q, by simp [hlt]⟩, Pv (i + 1), fun σ' H' p' => ⟨xs.length - (i + 1), by omega, rfl, hlt, p'⟩, fun x H' y => ?_⟩
    obtain ⟨T, z, rfl, hT, rfl, hz⟩ := y
    exact hs i z T σ H (hz xs q) hT p
  · have e : i = xs.length := by omega
    subst e
    exact .inl ⟨⟨xs, q, rfl⟩, hd σ H p⟩

end KB

namespace KB
open PySem L2 HT

def innP : Pt → List Pt
  | .give _ _ => []
  | .ask _ _ _ => []
  | .tell _ _ q => [q]
  | .lett _ _ q => [q]
  | .iff _ q u => [q, u]
  | .post _ _ q u => [q, u]
theorem pcnt_inn (p : Pt) : pcnt p = 1 + ((innP p).map pcnt).sum := by
  cases p <;> simp only [pcnt, innP, List.map, List.sum_cons, List.sum_nil] <;> omega
theorem mem_sum {ps : List Pt} {p : Pt} (h : p ∈ ps) : pcnt p ≤ (ps.map pcnt).sum := by
  induction ps with
  | nil => cases h
  | cons a r ih =>
    rw [List.map_cons, List.sum_cons]
    rcases List.mem_cons.mp h with z | z
    · subst z
      omega
    · have := ih z
      omega
theorem take_sum (ps : List Pt) (i : Nat) : ((ps.take i).map pcnt).sum ≤ (ps.map pcnt).sum := by
  have e : (ps.map pcnt).sum = ((ps.take i).map pcnt).sum + ((ps.drop i).map pcnt).sum := by
    rw [← List.sum_append, ← List.map_append, List.take_append_drop]
  omega
def PVr (H : Hp) (p : Pt) (v : V) : Prop := ∃ b, v = .ref b ∧ PAt H p b
def hdPt : Pt → Str
  | .give _ _ => "give" | .ask _ _ _ => "ask" | .tell _ _ _ => "tell" | .lett _ _ _ => "let" | .iff _ _ _ => "if" | .post _ _ _ _ => "post"
def smpN : Pt → Nat
  | .ask _ ts _ => ts.length
  | .post _ _ _ _ => 0
  | _ => 1
theorem smpN_is (p : Pt) : (termsP p).length = smpN p := by cases p <;> rfl
/-! ### all parts of a part, with their places, terms counted -/
def prL : Pt → List (List Int × Pt)
  | .give j s => [([], .give j s)]
  | .ask f ts j => [([], .ask f ts j)]
  | .tell x s q => ([], .tell x s q) :: ((prL q).map (fun e => ((1 : Int) :: e.1, e.2)) ++ [])
  | .lett x s q => ([], .lett x s q) :: ((prL q).map (fun e => ((1 : Int) :: e.1, e.2)) ++ [])
  | .iff s q u => ([], .iff s q u) :: ((prL q).map (fun e => ((1 : Int) :: e.1, e.2)) ++ ((prL u).map (fun e => ((2 : Int) :: e.1, e.2)) ++ []))
  | .post j x q u => ([], .post j x q u) :: ((prL q).map (fun e => ((0 : Int) :: e.1, e.2)) ++ ((prL u).map (fun e => ((1 : Int) :: e.1, e.2)) ++ []))
def prK (s : Nat) : Nat → List Pt → List (List Int × Pt)
  | _, [] => []
  | i, p :: r => (prL p).map (fun e => ((((s : Nat) : Int) + ((i : Nat) : Int)) :: e.1, e.2)) ++ prK s (i + 1) r
theorem prL_eq (p : Pt) : prL p = ([], p) :: prK (smpN p) 0 (innP p) := by cases p <;> rfl
theorem prL_len : ∀ p : Pt, (prL p).length = pcnt p
  | .give j s => rfl
  | .ask f ts j => rfl
  | .tell x s q => by simp [prL, pcnt, prL_len q]; omega
  | .lett x s q => by simp [prL, pcnt, prL_len q]; omega
  | .iff s q u => by simp [prL, pcnt, prL_len q, prL_len u]; omega
  | .post j x q u => by simp [prL, pcnt, prL_len q, prL_len u]; omega
theorem prK_len (s : Nat) : ∀ (ps : List Pt) (i : Nat), (prK s i ps).length = (ps.map pcnt).sum
  | [], _ => rfl
  | p :: r, i => by
    show ((prL p).map _ ++ prK s (i + 1) r).length = pcnt p + (r.map pcnt).sum
    rw [List.length_append, List.length_map, prL_len, prK_len s r]
theorem prK_take {s : Nat} {p : Pt} : ∀ {ps : List Pt} {i j : Nat}, ps[i]? = some p → prK s j (ps.take (i + 1)) = prK s j (ps.take i) ++ (prL p).map (fun e => ((((s : Nat) : Int) + (((j + i : Nat) : Nat) : Int)) :: e.1, e.2))
  | [], i, j, h => by simp at h
  | a :: r, 0, j, h => by
    have e : a = p := Option.some.inj h
    subst e
    show (prL a).map _ ++ [] = [] ++ _
    rw [List.append_nil, List.nil_append]
    rfl
  | a :: r, i + 1, j, h => by
    have ih := prK_take (s := s) (ps := r) (i := i) (j := j + 1) (by simpa using h)
    show (prL a).map _ ++ prK s (j + 1) (r.take (i + 1)) = ((prL a).map _ ++ prK s (j + 1) (r.take i)) ++ _
    rw [ih, List.append_assoc]
    have e : j + 1 + i = j + (i + 1) := by omega
    rw [e]
/-- a pair of a place and what stands there -/
def EnP (H : Hp) (pre : List V) (e : List Int × Pt) (v : V) : Prop := ∃ q r b, v = .ref q ∧ H q = some (.tup [.ref r, .ref b]) ∧ H r = some (.tup (pre ++ e.1.map V.int)) ∧ PAt H e.2 b
theorem EnP.tk {H H' : Hp} (k : TK H H') {pre : List V} {e : List Int × Pt} {v : V} (h : EnP H pre e v) : EnP H' pre e v := let ⟨q, r, b, h1, h2, h3, h4⟩ := h; ⟨q, r, b, h1, k _ _ h2, k _ _ h3, PAt.tk k h4⟩
theorem EnP.deep {H : Hp} {pre : List V} {i : Int} {e : List Int × Pt} {v : V} (h : EnP H (pre ++ [.int i]) e v) : EnP H pre (i :: e.1, e.2) v := by
  obtain ⟨q, r, b, e1, h1, h2, h3⟩ := h
  refine ⟨q, r, b, e1, h1, ?_, h3⟩
  rw [h2, List.append_assoc]
  rfl
section
variable {P : Program} {w : World} {K : PySem.W.Frag} {mg : Str → Option Value} {base : Heap}
/-! ### _law_inner -/
def spInn : Sp := fun vs H Q _ => ∃ (a : Addr) (p : Pt), vs = [.ref a] ∧ PAt H p a ∧ ∀ r H' us, Same H H' → H' r = some (.tup us) → All2 (PVr H') (innP p) us → Q (.ref r) H'
abbrev s_law_inner : Stmt := top 40
theorem scLinner : FnScope ["part"] ["part"] (defScope s_law_inner) := ⟨rfl, rfl, rfl, by decide +kernel, rfl, by decide +kernel, by decide +kernel⟩
theorem ok_inn (T : Txt K mg) {f : Addr} {fd : FuncData} (F : Fun K "_law_inner" "_law_inner" s_law_inner f fd) : FnOk P w K mg base CX0 1 f fd ["part"] spInn := by
  refine F.ok scLinner (fun vs H Q E h => ?_) (fun cdv A outer s H vs Q E hr h => ?_)
  · obtain ⟨a, p, rfl, _⟩ := h
    rfl
  obtain ⟨a, p, rfl, hA, q⟩ := h
  refine ⟨_, (pss_cons (ps_if (pt_cmpR op_in_seq (pe_ix ix_tup (pv 0) pe_int (fun _ _ => rfl)) (pe_tup (pa_cons pe_str (pa_cons pe_str pa_nil))) rfl) (pss_one (ps_ret (pe_tup pa_nil))) pss_nil)
    (pss_one (ps_ret (pe_slice sl_tupA (pv 0) (po_some (pe_op op_add pe_int (pe_callTy call_int1 (by rfl) T.m_int (by decide +kernel) (pa_cons (pe_cmpR op_ne (pe_ix ix_tup (pv 0) pe_int (fun _ _ => rfl)) pe_str (nomark _)) pa_nil)))) po_none)))), ?_⟩
  cases p with
  | give j s =>
    obtain ⟨b, h1, h2⟩ := hA
    refine ⟨_, rfl, a, _, _, _, rfl, rfl, SqT.of h1, at0, sz (by show 2 ≤ 100000; decide), fun t ht => ?_⟩
    have s1 := same_new ht (.tup [.str "give", .str "ask"])
    exact ⟨t, _, rfl, .inr (SqT.of upd_same), rfl, rfl, _, rfl, itT rfl ⟨sz (by decide), fun p hp => q p _ [] (s1.trans (same_new hp _)) upd_same trivial⟩⟩
  | ask g ts j =>
    obtain ⟨b, vs, h1, h2, h3⟩ := hA
    refine ⟨_, rfl, a, _, _, _, rfl, rfl, SqT.of h1, at0, sz (by show 2 ≤ 100000; decide), fun t ht => ?_⟩
    have s1 := same_new ht (.tup [.str "give", .str "ask"])
    exact ⟨t, _, rfl, .inr (SqT.of upd_same), rfl, rfl, _, rfl, itT rfl ⟨sz (by decide), fun p hp => q p _ [] (s1.trans (same_new hp _)) upd_same trivial⟩⟩
  | tell x s p =>
    obtain ⟨b, c, h1, h2, h3⟩ := hA
    refine ⟨_, rfl, a, _, _, _, rfl, rfl, SqT.of h1, at0, sz (by show 2 ≤ 100000; decide), fun t ht => ?_⟩
    have s1 := same_new ht (.tup [.str "give", .str "ask"])
    refine ⟨t, _, rfl, .inr (SqT.of upd_same), rfl, rfl, _, rfl, itF rfl ⟨_, rfl, _, rfl, a, _, _, _, rfl, rfl, SqT.of (s1 _ _ h1), at0, rfl, .inr ⟨_, rfl, _, _, rfl, rfl, _, rfl, a, _, rfl, SqT.of (s1 _ _ h1), ?_, ?_⟩⟩⟩
    · exact fun z => absurd z (not_whole (i := 3) (by decide) len3)
    · intro _ p hp
      have s2 := s1.trans (same_new hp (.tup (cutV [V.str "tell", .str x, .ref b, .ref c] (some 3) none)))
      refine q p _ [.ref c] s2 ?_ ⟨⟨c, rfl, PAt.tk (tk_same s2) h3⟩, trivial⟩
      rw [upd_same]
      exact congrArg (fun z => some (HO.tup z)) cut3
  | lett x s p =>
    obtain ⟨b, c, h1, h2, h3⟩ := hA
    refine ⟨_, rfl, a, _, _, _, rfl, rfl, SqT.of h1, at0, sz (by show 2 ≤ 100000; decide), fun t ht => ?_⟩
    have s1 := same_new ht (.tup [.str "give", .str "ask"])
    refine ⟨t, _, rfl, .inr (SqT.of upd_same), rfl, rfl, _, rfl, itF rfl ⟨_, rfl, _, rfl, a, _, _, _, rfl, rfl, SqT.of (s1 _ _ h1), at0, rfl, .inr ⟨_, rfl, _, _, rfl, rfl, _, rfl, a, _, rfl, SqT.of (s1 _ _ h1), ?_, ?_⟩⟩⟩
    · exact fun z => absurd z (not_whole (i := 3) (by decide) len3)
    · intro _ p hp
      have s2 := s1.trans (same_new hp (.tup (cutV [V.str "let", .str x, .ref b, .ref c] (some 3) none)))
      refine q p _ [.ref c] s2 ?_ ⟨⟨c, rfl, PAt.tk (tk_same s2) h3⟩, trivial⟩
      rw [upd_same]
      exact congrArg (fun z => some (HO.tup z)) cut3
  | post j x p p2 =>
    obtain ⟨c, d, h1, h2, h3⟩ := hA
    refine ⟨_, rfl, a, _, _, _, rfl, rfl, SqT.of h1, at0, sz (by show 2 ≤ 100000; decide), fun t ht => ?_⟩
    have s1 := same_new ht (.tup [.str "give", .str "ask"])
    refine ⟨t, _, rfl, .inr (SqT.of upd_same), rfl, rfl, _, rfl, itF rfl ⟨_, rfl, _, rfl, a, _, _, _, rfl, rfl, SqT.of (s1 _ _ h1), at0, rfl, .inr ⟨_, rfl, _, _, rfl, rfl, _, rfl, a, _, rfl, SqT.of (s1 _ _ h1), ?_, ?_⟩⟩⟩
    · exact fun z => absurd z (not_whole (i := 3) (by decide) len3)
    · intro _ p hp
      have s2 := s1.trans (same_new hp (.tup (cutV [V.str "post", .str j, .str x, .ref c, .ref d] (some 3) none)))
      refine q p _ [.ref c, .ref d] s2 ?_ ⟨⟨c, rfl, PAt.tk (tk_same s2) h2⟩, ⟨d, rfl, PAt.tk (tk_same s2) h3⟩, trivial⟩
      rw [upd_same]
      exact congrArg (fun z => some (HO.tup z)) cut3
  | iff s p p2 =>
    obtain ⟨b, c, d, h1, h2, h3, h4⟩ := hA
    refine ⟨_, rfl, a, _, _, _, rfl, rfl, SqT.of h1, at0, sz (by show 2 ≤ 100000; decide), fun t ht => ?_⟩
    have s1 := same_new ht (.tup [.str "give", .str "ask"])
    refine ⟨t, _, rfl, .inr (SqT.of upd_same), rfl, rfl, _, rfl, itF rfl ⟨_, rfl, _, rfl, a, _, _, _, rfl, rfl, SqT.of (s1 _ _ h1), at0, rfl, .inr ⟨_, rfl, _, _, rfl, rfl, _, rfl, a, _, rfl, SqT.of (s1 _ _ h1), ?_, ?_⟩⟩⟩
    · exact fun z => absurd z (not_whole (i := 2) (by decide) len2)
    · intro _ p hp
      have s2 := s1.trans (same_new hp (.tup (cutV [V.str "if", .ref b, .ref c, .ref d] (some 2) none)))
      refine q p _ [.ref c, .ref d] s2 ?_ ⟨⟨c, rfl, PAt.tk (tk_same s2) h3⟩, ⟨d, rfl, PAt.tk (tk_same s2) h4⟩, trivial⟩
      rw [upd_same]
      exact congrArg (fun z => some (HO.tup z)) cut2
/-! ### _law_simples -/
def spSmp : Sp := fun vs H Q _ => ∃ (a : Addr) (p : Pt), vs = [.ref a] ∧ PAt H p a ∧ ∀ r H' us, Same H H' → H' r = some (.tup us) → All2 (RefV H') (termsP p) us → Q (.ref r) H'
abbrev s_law_simples : Stmt := top 41
theorem scLsimples : FnScope ["part"] ["part"] (defScope s_law_simples) := ⟨rfl, rfl, rfl, by decide +kernel, rfl, by decide +kernel, by decide +kernel⟩
theorem ok_smp (T : Txt K mg) {f : Addr} {fd : FuncData} (F : Fun K "_law_simples" "_law_simples" s_law_simples f fd) : FnOk P w K mg base CX0 1 f fd ["part"] spSmp := by
  refine F.ok scLsimples (fun vs H Q E h => ?_) (fun cdv A outer s H vs Q E hr h => ?_)
  · obtain ⟨a, p, rfl, _⟩ := h
    rfl
  obtain ⟨a, p, rfl, hA, q⟩ := h
  refine ⟨_, (pss_cons (ps_if (pt_cmpR op_eq (pe_ix ix_tup (pv 0) pe_int (fun _ _ => rfl)) pe_str (nomark _)) (pss_one (ps_ret (pe_ix ix_tup (pv 0) pe_int (fun _ _ => rfl)))) pss_nil)
    (pss_cons (ps_if (pt_cmpR op_eq (pe_ix ix_tup (pv 0) pe_int (fun _ _ => rfl)) pe_str (nomark _)) (pss_one (ps_ret (pe_tup pa_nil))) pss_nil)
    (pss_one (ps_ret (pe_tup (pa_cons (pe_ix ix_tup (pv 0) (pe_op op_sub pe_int (pe_callTy call_int1 (by rfl) T.m_int (by decide +kernel) (pa_cons (pe_cmpR op_eq (pe_ix ix_tup (pv 0) pe_int (fun _ _ => rfl)) pe_str (nomark _)) pa_nil))) (fun _ _ => rfl)) pa_nil)))))), ?_⟩
  cases p with
  | ask g ts j =>
    obtain ⟨b, vs, h1, h2, h3⟩ := hA
    exact ⟨_, rfl, a, _, _, _, rfl, rfl, SqT.of h1, at0, rfl, _, rfl, itT rfl ⟨_, rfl, a, _, _, _, rfl, rfl, SqT.of h1, at2, q b _ vs (Same.refl _) h2 h3⟩⟩
  | post j x p p2 =>
    obtain ⟨c, d, h1, h2, h3⟩ := hA
    exact ⟨_, rfl, a, _, _, _, rfl, rfl, SqT.of h1, at0, rfl, _, rfl, itF rfl ⟨_, rfl, a, _, _, _, rfl, rfl, SqT.of h1, at0, rfl, _, rfl, itT rfl ⟨sz (by decide), fun p hp => q p _ [] (same_new hp _) upd_same trivial⟩⟩⟩
  | give j s =>
    obtain ⟨b, h1, h2⟩ := hA
    exact ⟨_, rfl, a, _, _, _, rfl, rfl, SqT.of h1, at0, rfl, _, rfl, itF rfl ⟨_, rfl, a, _, _, _, rfl, rfl, SqT.of h1, at0, rfl, _, rfl, itF rfl ⟨_, rfl, _, rfl, a, _, _, _, rfl, rfl, SqT.of h1, at0, rfl, .inr ⟨_, rfl, _, _, rfl, rfl, a, _, _, _, rfl, rfl, SqT.of h1, at2, sz (by show 1 ≤ 100000; decide), fun p hp => q p _ _ (same_new hp _) upd_same ⟨⟨b, rfl, h2.tk (tk_same (same_new hp _))⟩, trivial⟩⟩⟩⟩⟩
  | tell x s p =>
    obtain ⟨b, c, h1, h2, h3⟩ := hA
    exact ⟨_, rfl, a, _, _, _, rfl, rfl, SqT.of h1, at0, rfl, _, rfl, itF rfl ⟨_, rfl, a, _, _, _, rfl, rfl, SqT.of h1, at0, rfl, _, rfl, itF rfl ⟨_, rfl, _, rfl, a, _, _, _, rfl, rfl, SqT.of h1, at0, rfl, .inr ⟨_, rfl, _, _, rfl, rfl, a, _, _, _, rfl, rfl, SqT.of h1, at2, sz (by show 1 ≤ 100000; decide), fun p hp => q p _ _ (same_new hp _) upd_same ⟨⟨b, rfl, h2.tk (tk_same (same_new hp _))⟩, trivial⟩⟩⟩⟩⟩
  | lett x s p =>
    obtain ⟨b, c, h1, h2, h3⟩ := hA
    exact ⟨_, rfl, a, _, _, _, rfl, rfl, SqT.of h1, at0, rfl, _, rfl, itF rfl ⟨_, rfl, a, _, _, _, rfl, rfl, SqT.of h1, at0, rfl, _, rfl, itF rfl ⟨_, rfl, _, rfl, a, _, _, _, rfl, rfl, SqT.of h1, at0, rfl, .inr ⟨_, rfl, _, _, rfl, rfl, a, _, _, _, rfl, rfl, SqT.of h1, at2, sz (by show 1 ≤ 100000; decide), fun p hp => q p _ _ (same_new hp _) upd_same ⟨⟨b, rfl, h2.tk (tk_same (same_new hp _))⟩, trivial⟩⟩⟩⟩⟩
  | iff s p p2 =>
    obtain ⟨b, c, d, h1, h2, h3, h4⟩ := hA
    exact ⟨_, rfl, a, _, _, _, rfl, rfl, SqT.of h1, at0, rfl, _, rfl, itF rfl ⟨_, rfl, a, _, _, _, rfl, rfl, SqT.of h1, at0, rfl, _, rfl, itF rfl ⟨_, rfl, _, rfl, a, _, _, _, rfl, rfl, SqT.of h1, at0, rfl, .inr ⟨_, rfl, _, _, rfl, rfl, a, _, _, _, rfl, rfl, SqT.of h1, at1, sz (by show 1 ≤ 100000; decide), fun p hp => q p _ _ (same_new hp _) upd_same ⟨⟨b, rfl, h2.tk (tk_same (same_new hp _))⟩, trivial⟩⟩⟩⟩⟩
/-! ### _law_tplaces -/
def spTPl (n : Nat) : Sp := fun vs H Q _ => ∃ (a pl : Addr) (p : Pt) (pre : List V), vs = [.ref a, .ref pl] ∧ PAt H p a ∧ H pl = some (.tup pre) ∧ pcnt p ≤ n ∧ pre.length + pcnt p ≤ 2000 ∧
  ∀ p' H' its, H p' = none → Same H H' → H' p' = some (.lst its) → All2 (EnP H' pre) (prL p) its → Q (.ref p') H'
abbrev s_law_tplaces : Stmt := top 42
theorem scLtplaces : FnScope ["part", "place", "found", "first", "k", "one"] ["part", "place"] (defScope s_law_tplaces) := ⟨rfl, rfl, rfl, by decide +kernel, rfl, by decide +kernel, by decide +kernel⟩
theorem ok_Tpl (T : Txt K mg) {n : Nat} {f g1 g2 : Addr} {fd d1 d2 : FuncData} (F : Fun K "_law_tplaces" "_law_tplaces" s_law_tplaces f fd) (G_law_tplaces : FnOk P w K mg base CX0 (n + 1) f fd ["part", "place"] (spTPl n)) (R_law_tplaces : Ref K mg "_law_tplaces" f fd ["part", "place"])
    (G_law_simples : FnOk P w K mg base CX0 1 g1 d1 ["part"] spSmp) (R_law_simples : Ref K mg "_law_simples" g1 d1 ["part"]) (G_law_inner : FnOk P w K mg base CX0 1 g2 d2 ["part"] spInn) (R_law_inner : Ref K mg "_law_inner" g2 d2 ["part"]) : FnOk P w K mg base CX0 (n + 2) f fd ["part", "place"] (spTPl (n + 1)) := by
  refine F.ok scLtplaces (fun vs H Q E h => ?_) (fun cdv A outer s H vs Q E hr h => ?_)
  · obtain ⟨a, pl, t, pre, rfl, _⟩ := h
    rfl
  obtain ⟨a, pl, p, pre, rfl, hA, hp, hc, hl, q⟩ := h
  refine ⟨_, (pss_cons (ps_set (i := 2) scLtplaces.nd rfl (Or.inl rfl) (pe_lst (pa_cons (pe_tup (pa_cons (pv 1) (pa_cons (pv 0) pa_nil))) pa_nil)))
    (pss_cons (ps_set (i := 3) scLtplaces.nd rfl (Or.inl rfl) (pe_callB call_len_seq (by rfl) T.m_len PySem.boot_len (pa_cons (pe_call G_law_simples (hr.mono (by omega)) rfl R_law_simples.m R_law_simples.k R_law_simples.b .nil pass0 (pa_cons (pv 0) pa_nil)) pa_nil)))
    (pss_cons (ps_for PassesOwn.never rfl (pi_enumT (by rfl) T.m_enumerate (pa_cons (pe_call G_law_inner (hr.mono (by omega)) rfl R_law_inner.m R_law_inner.k R_law_inner.b .nil pass0 (pa_cons (pv 0) pa_nil)) pa_nil)) (pg_tup rfl (pgs_cons (pg_name (i := 4) scLtplaces.nd rfl (Or.inl rfl)) (pgs_cons (pg_name (i := 5) scLtplaces.nd rfl (Or.inl rfl)) pgs_nil))) (pss_one (ps_expr (pe_bm PySem.F.plainAttrs_list PySem.F.slot_list_extend PySem.F.type_list_extend mt_extend (pv 2) (pa_cons (pe_call G_law_tplaces hr rfl R_law_tplaces.m R_law_tplaces.k R_law_tplaces.b .nil pass0 (pa_cons (pv 5) (pa_cons (pe_op op_catA (pv 1) (pe_tup (pa_cons (pe_op op_add (pv 3) (pv 4)) pa_nil))) pa_nil))) pa_nil)))))
    (pss_one (ps_ret (pv 2)))))), ?_⟩
  have hck := pcnt_inn p
  refine ⟨_, rfl, _, rfl, sz (by show 2 ≤ 100000; decide), fun e0 he0 => ?_⟩
  have sa := same_new he0 (.tup [.ref pl, .ref a])
  refine ⟨sz (by show 1 ≤ 100000; decide), fun fl hfl => ?_⟩
  have sb := same_new hfl (.lst [.ref e0])
  have s0 := sa.trans sb
  have k0 : All2 (EnP (upd (upd H e0 (.tup [.ref pl, .ref a])) fl (.lst [.ref e0])) pre) [([], p)] [.ref e0] := ⟨⟨e0, pl, a, rfl, sb _ _ upd_same, (by rw [List.map_nil, List.append_nil]; exact s0 _ _ hp), PAt.tk (tk_same s0) hA⟩, trivial⟩
  have f0 : upd (upd H e0 (.tup [.ref pl, .ref a])) fl (.lst [.ref e0]) fl = some (.lst [.ref e0]) := upd_same
  have nfl := sa.free hfl
  generalize upd (upd H e0 (.tup [.ref pl, .ref a])) fl (.lst [.ref e0]) = H0 at s0 k0 f0
  clear sa sb hfl he0
  refine ⟨_, rfl, a, p, rfl, PAt.tk (tk_same s0) hA, fun pp H1 us1 s1 h1 k1' => ?_⟩
  have k1 := k1'.len.trans (smpN_is p)
  refine ⟨pp, us1, rfl, .inr (SqT.of h1), ?_⟩
  have s01 := s0.trans s1
  refine ⟨_, rfl, a, p, rfl, PAt.tk (tk_same s01) hA, fun pi H2 us s2 h2 k2 => ?_⟩
  have s02 := s01.trans s2
  refine ⟨pi, us, rfl, SqT.of h2, for_enT (xs := us) (fun i σ H' => ∃ o4 o5 its, σ = [some (.ref a), some (.ref pl), some (.ref fl), some (.int (us1.length : Nat)), o4, o5] ∧ Same H H' ∧ TK H2 H' ∧ H' pi = some (.tup us) ∧ H' fl = some (.lst its) ∧ All2 (EnP H' pre) (([], p) :: prK us1.length 0 ((innP p).take i)) its) ?_ ?_ ?_ ?_⟩
  · exact ⟨_, _, _, rfl, s02, fun _ _ z => z, h2, (s1.trans s2) _ _ f0, k0.imp fun _ _ z => z.tk (tk_same (s1.trans s2))⟩
  · rintro i σ H' _ ⟨o4, o5, its, rfl, _, _, g1, _⟩
    exact SqT.of g1
  · rintro i x T' σ H3 hx hT ⟨o4, o5, its, rfl, s3, t3, g1, g2, g3⟩
    obtain ⟨pi', hpi, b, rfl, hb⟩ := k2.get hx
    have hmem := mem_of_get hpi
    have hct := mem_sum hmem
    have s4 := same_new hT (.tup [.int (i : Nat), .ref b])
    refine ⟨T', _, rfl, SqT.of upd_same, rfl, _, _, rfl, _, _, rfl, rfl, ?_⟩
    have s34 := s3.trans s4
    refine ⟨_, rfl, .inl ⟨rfl, _, SqL.of (s4 _ _ g2)⟩, _, rfl, _, rfl, _, rfl, _, rfl, _, _, rfl, rfl, ?_⟩
    refine ⟨sz (by show 1 ≤ 100000; decide), fun p2 hp2 => ?_⟩
    have s5 := same_new hp2 (.tup [.int (((us1.length : Nat) : Int) + ((i : Nat) : Int))])
    refine catA_of (s5 _ _ (s34 _ _ hp)) upd_same (by show pre.length + 1 ≤ 100000; omega) fun p3 H4 s6 h4 => ?_
    have s45 := s4.trans (s5.trans s6)
    have s35 := s3.trans s45
    have cp : 1 ≤ pcnt pi' := by rw [pcnt_inn]; exact Nat.le_add_right _ _
    refine ⟨b, p3, pi', _, rfl, PAt.tk (t3.trans (tk_same s45)) hb, h4, by omega, by rw [List.length_append, List.length_singleton]; omega, fun p5 H5 its5 hp5 s7 h5 k5 => ?_⟩
    have s46 := s45.trans s7
    have s36 := s3.trans s46
    have f5 := s46 _ _ g2
    have l5 := k5.len
    have l3 := g3.len
    rw [prL_len] at l5
    rw [List.length_cons, prK_len] at l3
    have l6 := take_sum (innP p) i
    refine ⟨fl, p5, _, _, rfl, rfl, f5, h5, sz (by omega), ?_⟩
    have tk := tk_put (o := .lst (its ++ its5)) f5
    refine ⟨_, _, _, rfl, same_mut s36 nfl, t3.trans ((tk_same s46).trans tk), tk _ _ (s46 _ _ g1), upd_same, ?_⟩
    rw [prK_take hpi, ← List.cons_append, Nat.zero_add]
    exact (g3.imp fun _ _ z => (EnP.tk (tk_same s46) z).tk tk).app (All2.map (f := fun (e : List Int × Pt) => ((((us1.length : Nat) : Int) + ((i : Nat) : Int)) :: e.1, e.2)) (k5.imp fun _ _ z => EnP.deep (z.tk tk)))
  · rintro σ H3 ⟨o4, o5, its, rfl, s3, _, g1, g2, g3⟩
    refine ⟨_, rfl, q fl H3 its nfl s3 g2 ?_⟩
    rw [k2.len, List.take_length] at g3
    rw [k1] at g3
    rw [prL_eq]
    exact g3
theorem no_Tpl {f : Addr} {fd : FuncData} : FnOk P w K mg base CX0 1 f fd ["part", "place"] (spTPl 0) := by
  have no : ∀ vs H Q E, ¬ spTPl 0 vs H Q E := fun vs H Q E h => by
    obtain ⟨a, pl, p, pre, _, _, _, h0, _⟩ := h
    have := pcnt_inn p
    omega
  exact ⟨fun vs H Q E h => absurd h (no vs H Q E), fun A outer s H args us vs Q E _ _ _ _ h => absurd h (no vs H Q E)⟩
theorem all_Tpl (T : Txt K mg) {f g1 g2 : Addr} {fd d1 d2 : FuncData} (F : Fun K "_law_tplaces" "_law_tplaces" s_law_tplaces f fd) (R_law_tplaces : Ref K mg "_law_tplaces" f fd ["part", "place"])
    (G_law_simples : FnOk P w K mg base CX0 1 g1 d1 ["part"] spSmp) (R_law_simples : Ref K mg "_law_simples" g1 d1 ["part"]) (G_law_inner : FnOk P w K mg base CX0 1 g2 d2 ["part"] spInn) (R_law_inner : Ref K mg "_law_inner" g2 d2 ["part"]) : ∀ n : Nat, FnOk P w K mg base CX0 (n + 1) f fd ["part", "place"] (spTPl n)
  | 0 => no_Tpl
  | n + 1 => ok_Tpl T F (all_Tpl T F R_law_tplaces G_law_simples R_law_simples G_law_inner R_law_inner n) R_law_tplaces G_law_simples R_law_simples G_law_inner R_law_inner
end
end KB

namespace KB
open PySem L2 HT

/-! ### del xs[a:] -/
theorem filt_take {α : Type} (sel : Nat → Bool) (a : Nat) : ∀ (xs : List α) (j : Nat), (∀ k, j ≤ k → k < j + xs.length → sel k = decide (a ≤ k)) →
    (xs.zipIdx j).filterMap (fun p => if sel p.2 = true then none else some p.1) = xs.take (a - j)
  | [], _, _ => by simp
  | x :: r, j, h => by
    have h0 := h j (Nat.le_refl _) (by rw [List.length_cons]; omega)
    have ih := filt_take sel a r (j + 1) fun k h1 h2 => h k (by omega) (by rw [List.length_cons]; omega)
    rw [List.zipIdx_cons, List.filterMap_cons]
    by_cases c : a ≤ j
    · rw [decide_eq_true c] at h0
      simp only [h0, if_true]
      rw [ih]
      have e1 : a - j = 0 := by omega
      have e2 : a - (j + 1) = 0 := by omega
      rw [e1, e2]
      rfl
    · rw [decide_eq_false c] at h0
      simp only [h0]
      rw [ih]
      have e1 : a - j = (a - (j + 1)) + 1 := by omega
      rw [e1]
      rfl
theorem bounds_from {a n : Nat} (h : a ≤ n) : sliceBounds (some (a : Int)) none none n = ((a : Int), (n : Int), 1) := by
  simp only [sliceBounds, Option.getD_none]
  have h1 : ¬ ((a : Int) < 0) := by omega
  simp only [h1, if_false, show (1 : Int) > 0 by decide, if_true]
  congr 1
  omega
section
variable {prog : Program} {w : World} {A : Around} {E : Value → Shared → Prop} {s : Shared}
theorem delItem_from {l sl : Addr} {items : Array Value} {n : Nat} {vl : Value} {a : Nat} {Q : Unit → Shared → Prop}
    (e : s.heap.get? l = some { cls := .type "list", data := .seq items n }) (hs : s.heap.IsSliceOf sl vl .none .none) (pl : IsPart vl (some (a : Int))) (ha : a ≤ items.size)
    (hsz : items.size ≤ sizeLine) (h : ∀ g : Array Value → Array Value, g items = (items.toList.take a).toArray → Q () { s with heap := s.heap.update l (Obj.mapSeq g) }) :
    wpAny (model prog w) A (delItem (.ref l) (.ref sl)) Q E s := by
  have hl : s.heap.IsList l items := PySem.IsL.isList e
  obtain ⟨os, hos, hcs, hds⟩ := id hs
  have hTs : s.TypeIs (.ref sl) "slice" := ⟨os, hos, hcs⟩
  have hstep : ¬ ((rawPart none == rawInt 0) = true) := Bool.false_ne_true
  refine wpAny_delItem_slot hl.typeIs (by decide) F.slot_list_delitem (wpAny_call_entry F.slot_list_delitem hl.typeIs F.entry_list_delitem ?_ (F.args_list_delitem_2 _ _))
  show wpAny _ _ (Builtin.List.listSubscript? (.ref sl) >>= _) _ _ s
  refine wpAny_bind ?_
  unfold Builtin.List.listSubscript?
  refine wpAny_bind (wpAny_specialOf hTs slice_no_index ?_)
  simp only [Option.isNone_none, if_true]
  refine wpAny_pure ?_
  show wpAny _ _ (typeOf (.ref sl) >>= _) _ _ s
  refine wpAny_bind (wpAny_typeOf hTs ?_)
  first
    | rw [if_neg (by decide)]
    | refine PySem.W.KFB.if_not (by decide) ?_
  rw [listSliceParts_eq]
  refine wpAny_bind (wpAny_bind (wpAny_field hos hds (x := .none) rfl (wpAny_bind (wpAny_listPart .none ?_))))
  rw [if_neg hstep]
  refine wpAny_bind (wpAny_field hos hds (x := vl) rfl (wpAny_bind (wpAny_listPart pl ?_)))
  refine wpAny_bind (wpAny_field hos hds (x := .none) rfl (wpAny_bind (wpAny_listPart .none (wpAny_pure ?_))))
  unfold Builtin.List.listItems
  refine wpAny_bind (wpAny_bind (wpAny_seqItems e rfl (wpAny_pure ?_)))
  refine wpAny_bind (wpAny_of_eq ((sliceIndices_raw (some (a : Int)) none none items.size (by simp)).trans (congrArg (pure : Int × Int × Int → Sem (Int × Int × Int)) (bounds_from ha))) ?_)
  refine wpAny_bind (wpAny_rule ?_)
  show wpAny _ _ (updateSeq l _ >>= _) _ _ s
  have hsel : ∀ (sel : Nat → Bool), (∀ k : Nat, sel k = (((a : Int) ≤ (k : Int)) && ((k : Int) < (items.size : Int)) && (((k : Int) - (a : Int)) % 1 == 0))) →
      (List.filterMap (fun p => if sel p.2 = true then none else some p.1) items.toList.zipIdx).toArray = (items.toList.take a).toArray := by
    intro sel hk
    congr 1
    refine filt_take sel a items.toList 0 fun k _ h2 => ?_
    rw [hk k]
    have h3 : (k : Int) < (items.size : Int) := by
      rw [Array.length_toList] at h2
      omega
    have h4 : (((k : Int) - (a : Int)) % 1 == 0) = true := by
      rw [Int.emod_one]
      rfl
    rw [h4, decide_eq_true h3, Bool.and_true, Bool.and_true]
    by_cases c : a ≤ k
    · rw [decide_eq_true c, decide_eq_true (by omega)]
    · rw [decide_eq_false c, decide_eq_false (by omega)]
  refine wpAny_bind (wpAny_updateSeq (hz := hsz) (_hz' := ?sz) e rfl ?_)
  case sz =>
    refine Nat.le_trans (Nat.le_of_eq (congrArg Array.size (hsel _ fun k => rfl))) ?_
    rw [List.size_toArray, List.length_take]
    omega
  refine wpAny_bind (wpAny_letGo ?_)
  exact wpAny_pure ⟨.none, rfl, h _ (hsel _ fun k => rfl)⟩
end
section
variable {X : Cx} {pos : Pos}
/-- del xs[a:] -/
def tDelFrom (to ti : TE) : TS := fun D σ H => to σ H fun x H1 => tPart ti σ H1 fun o H2 => ∃ (l : Addr) (xs : List V) (a : Nat), x = .ref l ∧ o = some (a : Int) ∧ H2 l = some (.lst xs) ∧ a ≤ xs.length ∧ D.nx σ (upd H2 l (.lst (xs.take a)))
theorem ps_delFrom {o lo : Expr} {to ti : TE} {spos tpos : Pos} (ho : PE X o to) (hi : PE X lo ti) : PS X (.Delete [.Subscript o (.Slice (some lo) none none spos) tpos] pos) (tDelFrom to ti) := by
  refine ⟨fun pins s σ H D I h => ?_⟩
  refine wpAny_Delete (wpAny_deleteEach_cons (wpAny_delete_Subscript (thn (ho.run pins s σ H _ I h) fun u s1 ⟨x, H1, I1, rx, q1⟩ => ?_)))
  refine wpAny_Slice (thn ((po_some hi).run pins s1 σ H1 _ I1 q1) fun vl s2 ⟨l', H2, I2, pl, q2⟩ => thn (po_none.run pins s2 σ H2 (fun o H3 => o = none ∧ H3 = H2) I2 ⟨rfl, rfl⟩) fun vu s3 ⟨u', H3, I3, pu, eu, eH⟩ => ?_)
  subst eu eH
  rw [evalPart_none]
  refine wpAny_pure ?_
  obtain ⟨l, xs, a, ex, eo, hH, ha, q⟩ := q2
  subst ex eo
  cases (show u = Value.ref l from rx)
  have hvu : vu = Value.none := by
    cases pu
    rfl
  subst hvu
  have I4 : Inv X pins σ H3 { s3 with heap := s3.heap.push { cls := .type "slice", data := .fields #[vl, .none, .none] } } := I3.kept (t' := s3.toks) fun b ob q => Heap.get?_push_of_some _ q
  obtain ⟨z, its, n, r, hl, e⟩ := I4.lstM hH
  refine delItem_from (a := a) e (Heap.IsSliceOf.new ..) pl (by rw [List.size_toArray, ← hl]; exact ha) (by rw [List.size_toArray, ← hl]; exact z) fun g hg => ?_
  refine wpAny_deleteEach_nil ⟨σ, _, I4.lset (its' := its.take a) (t' := s3.toks) hH e hg (r.take a) ?_, q⟩
  rw [List.length_take]
  omega
end
end KB

namespace KB
open PySem L2 HT

def kidsT : Tm → List Tm | .mk _ _ k => List.ofFn k
def hdT : Tm → Hd | .mk h _ _ => h
def lazyH : Hd → Bool | .lett _ | .iff => true | _ => false
def firstT (t : Tm) : List Tm := if lazyH (hdT t) = true then (kidsT t).take 1 else kidsT t
def restT (t : Tm) : List Tm := if lazyH (hdT t) = true then (kidsT t).drop 1 else []
def noT : Tm := mkL .plus []
def kid (t : Tm) (i : Nat) : Tm := ((kidsT t)[i]?).getD noT
theorem kids_len {h : Hd} {n : Nat} {k : _root_.Fin n → Tm} : (kidsT (.mk h n k)).length = n := List.length_ofFn
theorem kid_eq {t : Tm} {i : Nat} (h : i < (kidsT t).length) : (kidsT t)[i]? = some (kid t i) := by
  unfold kid
  rw [List.getElem?_eq_getElem h]
  rfl
theorem all2_fnR {H : Hp} : ∀ {n : Nat} {k : _root_.Fin n → Tm} {ys : _root_.Fin n → Addr}, (∀ i, At H (k i) (ys i)) → All2 (RefV H) (List.ofFn k) (Rfs ys)
  | 0, _, _, _ => trivial
  | n + 1, k, ys, h => by
    unfold Rfs
    rw [List.ofFn_succ, List.ofFn_succ]
    exact ⟨⟨ys 0, rfl, h 0⟩, all2_fnR (k := fun i => k i.succ) (ys := fun i => ys i.succ) fun i => h i.succ⟩
theorem At.kids {H : Hp} {t : Tm} {a : Addr} (h : At H t a) : ∃ xs, Lay H a (hdT t) xs ∧ All2 (RefV H) (kidsT t) xs := by
  cases t with
  | mk hd n k =>
    obtain ⟨ys, l, r⟩ := h
    exact ⟨Rfs ys, l, all2_fnR r⟩
section
variable {P : Program} {w : World} {K : PySem.W.Frag} {mg : Str → Option Value} {base : Heap}
/-! ### last_taken -/
def spLast : Sp := fun vs H Q _ => ∃ (gl : Addr) (xs : List V) (n : Nat), vs = [.ref gl, .int (n : Int)] ∧ H gl = some (.lst xs) ∧ n ≤ xs.length ∧
  ∀ H2 v, Same H H2 → H2 v = some (.tup (xs.drop (xs.length - n))) → Q (.ref v) (upd H2 gl (.lst (xs.take (xs.length - n))))
abbrev slast_taken : Stmt := top 3
theorem sclast_taken : FnScope ["got", "many", "first", "taken"] ["got", "many"] (defScope slast_taken) := ⟨rfl, rfl, rfl, by decide +kernel, rfl, by decide +kernel, by decide +kernel⟩
theorem ok_last (T : Txt K mg) {f : Addr} {fd : FuncData} (F : Fun K "last_taken" "last_taken" slast_taken f fd) : FnOk P w K mg base CX0 1 f fd ["got", "many"] spLast := by
  refine F.ok sclast_taken (fun vs H Q E h => ?_) (fun cdv A outer s H vs Q E hr h => ?_)
  · obtain ⟨gl, xs, n, rfl, _⟩ := h
    rfl
  obtain ⟨gl, xs, n, rfl, hg, hn, q⟩ := h
  refine ⟨_, pss_cons (ps_set (i := 2) sclast_taken.nd rfl (Or.inl rfl) (pe_op op_sub (pe_callB call_len_seq (by rfl) T.m_len PySem.boot_len (pa_cons (pv 0) pa_nil)) (pv 1)))
    (pss_cons (ps_set (i := 3) sclast_taken.nd rfl (Or.inl rfl) (pe_callTy call_tuple_of (by rfl) T.m_tuple (by decide +kernel) (pa_cons (pe_slice sl_list (pv 0) (po_some (pv 2)) po_none) pa_nil)))
    (pss_cons (ps_delFrom (pv 0) (pv 2)) (pss_one (ps_ret (pv 3))))), ?_⟩
  refine ⟨_, rfl, gl, _, rfl, .inl (SqL.of hg), _, rfl, _, _, rfl, rfl, ?_⟩
  have efirst : (xs.length : Int) - (n : Int) = ((xs.length - n : Nat) : Int) := by omega
  refine ⟨_, rfl, _, rfl, _, rfl, gl, _, rfl, SqL.of hg, fun u hu => ⟨u, _, rfl, .inl ⟨SqL.of upd_same, fun v hv => ?_⟩⟩⟩
  have ecut : cutV xs (some ((xs.length : Int) - (n : Int))) none = xs.drop (xs.length - n) := by
    rw [efirst, cut_from (by omega) (by omega), Int.toNat_natCast]
  have sA := (same_new hu (.lst (cutV xs (some ((xs.length : Int) - (n : Int))) none))).trans (same_new hv (.tup (cutV xs (some ((xs.length : Int) - (n : Int))) none)))
  have hv2 : upd (upd H u (.lst (cutV xs (some ((xs.length : Int) - (n : Int))) none))) v (.tup (cutV xs (some ((xs.length : Int) - (n : Int))) none)) v = some (.tup (xs.drop (xs.length - n))) := by
    rw [upd_same, ecut]
  exact ⟨_, rfl, _, rfl, _, rfl, gl, xs, xs.length - n, rfl, congrArg some efirst, sA _ _ hg, Nat.sub_le _ _, _, rfl, q _ _ sA hv2⟩
end
end KB

namespace KB
open PySem L2 HT

/-! ### a part with another one put in -/
def putP (o : Pt) : Pt → List Int → Pt
  | _, [] => o
  | .give j t, _ :: _ => .give j t
  | .ask f ts j, _ :: _ => .ask f ts j
  | .tell x t p, k :: ks => .tell x t (if (1 : Int) = k then putP o p ks else p)
  | .lett x t p, k :: ks => .lett x t (if (1 : Int) = k then putP o p ks else p)
  | .iff t p q, k :: ks => .iff t (if (1 : Int) = k then putP o p ks else p) (if (2 : Int) = k then putP o q ks else q)
  | .post j x p q, k :: ks => .post j x (if (0 : Int) = k then putP o p ks else p) (if (1 : Int) = k then putP o q ks else q)
def rebI : Pt → List Pt → Pt
  | .tell x t _, [p] => .tell x t p
  | .lett x t _, [p] => .lett x t p
  | .iff t _ _, [p, q] => .iff t p q
  | .post j x _ _, [p, q] => .post j x p q
  | p, _ => p
theorem putP_nil (o p : Pt) : putP o p [] = o := by cases p <;> rfl
theorem putP_set (o p : Pt) (i : Nat) (q : Pt) (ks : List Int) (h : (innP p)[i]? = some q) : putP o p ((((smpN p : Nat) : Int) + ((i : Nat) : Int)) :: ks) = rebI p ((innP p).set i (putP o q ks)) := by
  cases p with
  | give j t => cases h
  | ask f ts j => cases h
  | tell x t p =>
    match i, h with
    | 0, h => cases (Option.some.inj h); rfl
    | i + 1, h => exact absurd h (by simp [innP])
  | lett x t p =>
    match i, h with
    | 0, h => cases (Option.some.inj h); rfl
    | i + 1, h => exact absurd h (by simp [innP])
  | iff t p p2 =>
    match i, h with
    | 0, h => cases (Option.some.inj h); rfl
    | 1, h => cases (Option.some.inj h); rfl
    | i + 2, h => exact absurd h (by simp [innP])
  | post j x p p2 =>
    match i, h with
    | 0, h => cases (Option.some.inj h); rfl
    | 1, h => cases (Option.some.inj h); rfl
    | i + 2, h => exact absurd h (by simp [innP])
theorem PVr.tk {H H' : Hp} (e : TK H H') {p : Pt} {v : V} (h : PVr H p v) : PVr H' p v := let ⟨b, e1, h1⟩ := h; ⟨b, e1, h1.tk e⟩
theorem rebI_at {H : Hp} {p : Pt} {a : Addr} {ps : List Pt} {vs : List V} (hA : PAt H p a) (hl : ps.length = (innP p).length) (h : All2 (PVr H) ps vs) : ∃ xs, H a = some (.tup xs) ∧ xs.length ≤ 5 ∧ vs.length ≤ xs.length ∧
    ∀ {H' : Hp} {r : Addr}, TK H H' → H' r = some (.tup (xs.take (xs.length - vs.length) ++ vs)) → PAt H' (rebI p ps) r := by
  cases p with
  | give j t =>
    obtain ⟨b, h1, h2⟩ := hA
    match ps, vs, hl, h with
    | [], [], _, _ => exact ⟨_, h1, by simp, by simp, fun tk hr => ⟨b, hr, h2.tk tk⟩⟩
  | ask f ts j =>
    obtain ⟨b, us, h1, h2, h3⟩ := hA
    match ps, vs, hl, h with
    | [], [], _, _ => exact ⟨_, h1, by simp, by simp, fun tk hr => ⟨b, us, hr, tk _ _ h2, h3.imp fun _ _ z => z.tk tk⟩⟩
  | tell x t p =>
    obtain ⟨b, c, h1, h2, h3⟩ := hA
    match ps, vs, hl, h with
    | [_], [_], _, ⟨⟨d, rfl, hd⟩, _⟩ => exact ⟨_, h1, by simp, by simp, fun tk hr => ⟨b, d, hr, h2.tk tk, hd.tk tk⟩⟩
  | lett x t p =>
    obtain ⟨b, c, h1, h2, h3⟩ := hA
    match ps, vs, hl, h with
    | [_], [_], _, ⟨⟨d, rfl, hd⟩, _⟩ => exact ⟨_, h1, by simp, by simp, fun tk hr => ⟨b, d, hr, h2.tk tk, hd.tk tk⟩⟩
  | iff t p q =>
    obtain ⟨b, c, d, h1, h2, h3, h4⟩ := hA
    match ps, vs, hl, h with
    | [_, _], [_, _], _, h' =>
      obtain ⟨⟨d1, rfl, hd1⟩, ⟨d2, rfl, hd2⟩, _⟩ := h'
      exact ⟨_, h1, by simp, by simp, fun tk hr => ⟨b, d1, d2, hr, h2.tk tk, hd1.tk tk, hd2.tk tk⟩⟩
  | post j x p q =>
    obtain ⟨c, d, h1, h2, h3⟩ := hA
    match ps, vs, hl, h with
    | [_, _], [_, _], _, h' =>
      obtain ⟨⟨d1, rfl, hd1⟩, ⟨d2, rfl, hd2⟩, _⟩ := h'
      exact ⟨_, h1, by simp, by simp, fun tk hr => ⟨d1, d2, hr, hd1.tk tk, hd2.tk tk⟩⟩
theorem All2.set {α : Type} {S : α → V → Prop} {x : α} {v : V} (hx : S x v) : ∀ {as : List α} {vs : List V} (i : Nat), All2 S as vs → All2 S (as.set i x) (vs.set i v)
  | [], [], _, _ => trivial
  | a :: as, w :: vs, 0, h => ⟨hx, h.2⟩
  | a :: as, w :: vs, i + 1, h => ⟨h.1, All2.set hx i h.2⟩
  | [], _ :: _, _, h => h.elim
  | _ :: _, [], _, h => h.elim
/-! ### places within -/
theorem prK_mem {s : Nat} {k : Int} {ks : List Int} {one : Pt} : ∀ {ps : List Pt} {i : Nat}, ((k :: ks, one) ∈ prK s i ps) → ∃ j q, ps[j]? = some q ∧ k = ((s : Nat) : Int) + (((i + j : Nat) : Nat) : Int) ∧ (ks, one) ∈ prL q
  | [], _, h => by cases h
  | p :: r, i, h => by
    rcases List.mem_append.mp (show (k :: ks, one) ∈ (prL p).map _ ++ prK s (i + 1) r from h) with z | z
    · obtain ⟨e, he, h1⟩ := List.mem_map.mp z
      have h2 := Prod.mk.inj h1
      obtain ⟨h3, h4⟩ := List.cons.inj h2.1
      exact ⟨0, p, rfl, h3.symm, by rw [← h4, ← h2.2]; exact he⟩
    · obtain ⟨j, q, h1, h2, h3⟩ := prK_mem z
      refine ⟨j + 1, q, h1, ?_, h3⟩
      rw [h2]
      have e : i + 1 + j = i + (j + 1) := by omega
      rw [e]
theorem prK_ne {s : Nat} {one : Pt} : ∀ {ps : List Pt} {i : Nat}, ¬ (([], one) ∈ prK s i ps)
  | [], _, h => by cases h
  | p :: r, i, h => by
    rcases List.mem_append.mp (show ([], one) ∈ (prL p).map _ ++ prK s (i + 1) r from h) with z | z
    · obtain ⟨e, _, h1⟩ := List.mem_map.mp z
      exact nomatch (Prod.mk.inj h1).1
    · exact prK_ne z
theorem prL_cons {p : Pt} {k : Int} {ks : List Int} {one : Pt} (h : (k :: ks, one) ∈ prL p) : ∃ j q, (innP p)[j]? = some q ∧ k = ((smpN p : Nat) : Int) + ((j : Nat) : Int) ∧ (ks, one) ∈ prL q := by
  rw [prL_eq] at h
  rcases List.mem_cons.mp h with z | z
  · exact nomatch (Prod.mk.inj z).1
  · obtain ⟨j, q, h1, h2, h3⟩ := prK_mem z
    rw [Nat.zero_add] at h2
    exact ⟨j, q, h1, h2, h3⟩
theorem prL_nil {p one : Pt} (h : ([], one) ∈ prL p) : one = p := by
  rw [prL_eq] at h
  rcases List.mem_cons.mp h with z | z
  · exact (Prod.mk.inj z).2
  · exact absurd z prK_ne
/-! ### what is asked of an errand's parts: the words within ws, the hand-ons within js -/
def hdN : Hd → List Str
  | .nam x => [x]
  | .lett x => [x]
  | _ => []
def nmsT : Tm → List Str
  | .mk h _ k => hdN h ++ (List.ofFn fun i => nmsT (k i)).flatten
theorem nms_mk (t : Tm) : nmsT t = hdN (hdT t) ++ ((kidsT t).map nmsT).flatten := by
  cases t with
  | mk h n k =>
    show hdN h ++ _ = hdN h ++ ((List.ofFn k).map nmsT).flatten
    rw [List.map_ofFn]
    rfl
structure TmW (ws : List Str) (t : Tm) : Prop where
  s : STm t
  c : ∀ y ∈ nmsT t, y ∈ ws
def aP (ws js : List Str) : Pt → Prop
  | .give j t => j ∈ js ∧ TmW ws t
  | .ask f ts j => j ∈ js ∧ isW f = true ∧ ts.length ≤ 4 ∧ ∀ t ∈ ts, TmW ws t
  | .tell x t p => (isW x = true ∧ x ∈ ws) ∧ TmW ws t ∧ aP ws js p
  | .lett x t p => (isW x = true ∧ x ∈ ws) ∧ TmW ws t ∧ aP ws js p
  | .iff t p q => TmW ws t ∧ aP ws js p ∧ aP ws js q
  | .post j x p q => (isW j = true ∧ j ∈ js) ∧ (isW x = true ∧ x ∈ ws) ∧ aP ws js p ∧ aP ws js q
theorem aP_kids {ws js : List Str} {p q : Pt} (h : aP ws js p) (hq : q ∈ innP p) : aP ws js q := by
  cases p with
  | give j t => cases hq
  | ask f ts j => cases hq
  | tell x t p => rw [List.mem_singleton.mp hq]; exact h.2.2
  | lett x t p => rw [List.mem_singleton.mp hq]; exact h.2.2
  | iff t p u =>
    rcases List.mem_cons.mp hq with z | z
    · rw [z]; exact h.2.1
    · rw [List.mem_singleton.mp z]; exact h.2.2
  | post j x p u =>
    rcases List.mem_cons.mp hq with z | z
    · rw [z]; exact h.2.2.1
    · rw [List.mem_singleton.mp z]; exact h.2.2.2
theorem aP_in {ws js : List Str} : ∀ (ks : List Int) {p one : Pt}, (ks, one) ∈ prL p → aP ws js p → aP ws js one
  | [], p, one, h, w => by rw [prL_nil h]; exact w
  | k :: ks, p, one, h, w => by
    obtain ⟨j, q, h1, _, h3⟩ := prL_cons h
    exact aP_in ks h3 (aP_kids w (List.mem_of_getElem? h1))
/-- the same of a part with one in it exchanged -/
structure Alk (ws js : List Str) (p' p : Pt) : Prop where
  n : pcnt p' = pcnt p
  w : wP p' = wP p
  j : jP p' = jP p
  a : aP ws js p'
theorem reb_one {ws js : List Str} {p q q' : Pt} {i : Nat} (h : (innP p)[i]? = some q) (k : Alk ws js q' q) (hw : aP ws js p) : Alk ws js (rebI p ((innP p).set i q')) p := by
  obtain ⟨h1, h2, h3, h4⟩ := k
  cases p with
  | give j t => cases h
  | ask f ts j => cases h
  | tell x t p =>
    match i, h with
    | 0, h =>
      have e := Option.some.inj h
      subst e
      exact ⟨congrArg (1 + ·) h1, congrArg (x :: ·) h2, h3, hw.1, hw.2.1, h4⟩
    | i + 1, h => exact absurd h (by simp [innP])
  | lett x t p =>
    match i, h with
    | 0, h =>
      have e := Option.some.inj h
      subst e
      exact ⟨congrArg (1 + ·) h1, congrArg (x :: ·) h2, h3, hw.1, hw.2.1, h4⟩
    | i + 1, h => exact absurd h (by simp [innP])
  | iff t p p2 =>
    match i, h with
    | 0, h =>
      have e := Option.some.inj h
      subst e
      exact ⟨by show 1 + pcnt q' + pcnt p2 = 1 + pcnt p + pcnt p2; rw [h1], by show wP q' ++ wP p2 = wP p ++ wP p2; rw [h2], by show jP q' ++ jP p2 = jP p ++ jP p2; rw [h3], hw.1, h4, hw.2.2⟩
    | 1, h =>
      have e := Option.some.inj h
      subst e
      exact ⟨by show 1 + pcnt p + pcnt q' = 1 + pcnt p + pcnt p2; rw [h1], by show wP p ++ wP q' = wP p ++ wP p2; rw [h2], by show jP p ++ jP q' = jP p ++ jP p2; rw [h3], hw.1, hw.2.1, h4⟩
    | i + 2, h => exact absurd h (by simp [innP])
  | post j x p p2 =>
    match i, h with
    | 0, h =>
      have e := Option.some.inj h
      subst e
      exact ⟨by show 1 + pcnt q' + pcnt p2 = 1 + pcnt p + pcnt p2; rw [h1], by show x :: (wP q' ++ wP p2) = x :: (wP p ++ wP p2); rw [h2], by show j :: (jP q' ++ jP p2) = j :: (jP p ++ jP p2); rw [h3], hw.1, hw.2.1, h4, hw.2.2.2⟩
    | 1, h =>
      have e := Option.some.inj h
      subst e
      exact ⟨by show 1 + pcnt p + pcnt q' = 1 + pcnt p + pcnt p2; rw [h1], by show x :: (wP p ++ wP q') = x :: (wP p ++ wP p2); rw [h2], by show j :: (jP p ++ jP q') = j :: (jP p ++ jP p2); rw [h3], hw.1, hw.2.1, hw.2.2.1, h4⟩
    | i + 2, h => exact absurd h (by simp [innP])
theorem put_keep {ws js : List Str} {o one : Pt} (k : Alk ws js o one) : ∀ (ks : List Int) {p : Pt}, (ks, one) ∈ prL p → aP ws js p → Alk ws js (putP o p ks) p
  | [], p, h, w => by
    have e := prL_nil h
    subst e
    rw [putP_nil]
    exact k
  | c :: ks, p, h, w => by
    obtain ⟨j, q, e1, e2, e3⟩ := prL_cons h
    have i1 := put_keep k ks e3 (aP_kids w (List.mem_of_getElem? e1))
    rw [e2, putP_set o p j q ks e1]
    exact reb_one e1 i1 w
theorem eqv_nilT (ks : List Int) : PyData.eqv (.tuple (ks.map PyData.int)) (.tuple []) = ks.isEmpty := by cases ks <;> rfl
theorem shaped_intsT (ks : List Int) : SeqAt.shaped (.tuple (ks.map PyData.int)) = true := by
  refine shaped_of (layAll fun d hd => ?_) (Nat.le_trans (depth_tup (m := 0) fun d hd => ?_) (by decide))
  · obtain ⟨x, _, rfl⟩ := List.mem_map.mp hd
    rfl
  · obtain ⟨x, _, rfl⟩ := List.mem_map.mp hd
    exact Nat.le_refl 0
theorem slA_of {K : PySem.W.Frag} {H : Hp} {a : Addr} {xs : List V} {lo hi : Option Int} {Q : VK} (ha : H a = some (.tup xs))
    (q : ∀ p H', Same H H' → H' p = some (.tup (cutV xs lo hi)) → Q (.ref p) H') : rSlA K (.ref a) lo hi H Q := by
  refine ⟨a, xs, rfl, SqT.of ha, fun z => q a H (Same.refl H) ?_, fun _ p hp => q p _ (same_new hp _) upd_same⟩
  have e : cutV xs lo hi = xs := by
    unfold cutV
    rw [z.1, z.2, List.drop_zero, Nat.sub_zero, List.take_length]
  rw [e]
  exact ha

section
variable {P : Program} {w : World} {K : PySem.W.Frag} {mg : Str → Option Value} {base : Heap}
/-! ### _law_tput -/
def spTput (n : Nat) : Sp := fun vs H Q _ => ∃ (a pl ob : Addr) (p o one : Pt) (ks : List Int), vs = [.ref a, .ref pl, .ref ob] ∧ PAt H p a ∧ H pl = some (.tup (ks.map V.int)) ∧ PAt H o ob ∧ (ks, one) ∈ prL p ∧ ks.length < n ∧ ∀ r H', Same H H' → PAt H' (putP o p ks) r → Q (.ref r) H'
abbrev s_law_tput : Stmt := top 43
theorem scLtput : FnScope ["part", "place", "other", "first", "inner", "at"] ["part", "place", "other"] (defScope s_law_tput) := ⟨rfl, rfl, rfl, by decide +kernel, rfl, by decide +kernel, by decide +kernel⟩
theorem ok_tput (T : Txt K mg) {n : Nat} {f g1 g2 : Addr} {fd d1 d2 : FuncData} (F : Fun K "_law_tput" "_law_tput" s_law_tput f fd) (G_law_tput : FnOk P w K mg base CX0 (n + 1) f fd ["part", "place", "other"] (spTput n)) (R_law_tput : Ref K mg "_law_tput" f fd ["part", "place", "other"])
    (G_law_simples : FnOk P w K mg base CX0 1 g1 d1 ["part"] spSmp) (R_law_simples : Ref K mg "_law_simples" g1 d1 ["part"]) (G_law_inner : FnOk P w K mg base CX0 1 g2 d2 ["part"] spInn) (R_law_inner : Ref K mg "_law_inner" g2 d2 ["part"]) : FnOk P w K mg base CX0 (n + 2) f fd ["part", "place", "other"] (spTput (n + 1)) := by
  refine F.ok scLtput (fun vs H Q E h => ?_) (fun cdv A outer s H vs Q E hr h => ?_)
  · obtain ⟨a, pl, ob, p, o, one, ks, rfl, _⟩ := h
    rfl
  obtain ⟨a, pl, ob, p, o, one, ks, rfl, hA, hp, hO, hm, hn, q⟩ := h
  refine ⟨_, (pss_cons (ps_if (pt_cmpR (op_eqD hr.units) (pv 1) (pe_tup pa_nil) (nomark _)) (pss_one (ps_ret (pv 2))) pss_nil)
    (pss_cons (ps_set (i := 3) scLtput.nd rfl (Or.inl rfl) (pe_callB call_len_seq (by rfl) T.m_len PySem.boot_len (pa_cons (pe_call G_law_simples (hr.mono (by omega)) rfl R_law_simples.m R_law_simples.k R_law_simples.b .nil pass0 (pa_cons (pv 0) pa_nil)) pa_nil)))
    (pss_cons (ps_set (i := 4) scLtput.nd rfl (Or.inl rfl) (pe_callTy call_list_of (by rfl) T.m_list (by decide +kernel) (pa_cons (pe_call G_law_inner (hr.mono (by omega)) rfl R_law_inner.m R_law_inner.k R_law_inner.b .nil pass0 (pa_cons (pv 0) pa_nil)) pa_nil)))
    (pss_cons (ps_set (i := 5) scLtput.nd rfl (Or.inl rfl) (pe_op op_sub (pe_ix ix_tup (pv 1) pe_int (fun _ _ => rfl)) (pv 3)))
    (pss_cons (ps_asg (pe_call G_law_tput hr rfl R_law_tput.m R_law_tput.k R_law_tput.b .nil pass0 (pa_cons (pe_ix ix_list (pv 4) (pv 5) (fun _ _ => rfl)) (pa_cons (pe_slice sl_tupA (pv 1) (po_some pe_int) po_none) (pa_cons (pv 2) pa_nil)))) (pg_sub (pv 4) (pv 5) set_list))
    (pss_one (ps_ret (pe_op op_catA (pe_slice sl_tupA (pv 0) po_none (po_some (pe_op op_sub (pe_callB call_len_seq (by rfl) T.m_len PySem.boot_len (pa_cons (pv 0) pa_nil)) (pe_callB call_len_seq (by rfl) T.m_len PySem.boot_len (pa_cons (pv 4) pa_nil))))) (pe_callTy call_tuple_of (by rfl) T.m_tuple (by decide +kernel) (pa_cons (pv 4) pa_nil)))))))))), ?_⟩
  refine ⟨_, rfl, sz (by show 0 ≤ 100000; decide), fun t0 ht0 => ?_⟩
  have s0 := same_new ht0 (.tup [])
  refine ⟨.tuple (ks.map PyData.int), .tuple [], .tup (SqT.of (s0 _ _ hp)) (dp_ints ks), .tup (SqT.of upd_same) .nil, shaped_intsT ks, rfl, _, rfl, ?_⟩
  rw [eqv_nilT]
  generalize upd H t0 (.tup []) = H0 at s0
  have hA0 := hA.tk (tk_same s0)
  have hO0 := hO.tk (tk_same s0)
  have hp0 := s0 _ _ hp
  cases ks with
  | nil =>
    refine itT rfl ⟨_, rfl, q ob H0 s0 ?_⟩
    rw [putP_nil]
    exact hO0
  | cons k ks =>
    obtain ⟨i, p', hpi, ek, hm'⟩ := prL_cons hm
    have hil : i < (innP p).length := (List.getElem?_eq_some_iff.mp hpi).1
    have hil2 : (innP p).length ≤ 2 := by cases p <;> simp [innP]
    refine itF rfl ⟨_, rfl, a, p, rfl, hA0, fun pp H1 us1 s1 h1 k1' => ⟨pp, us1, rfl, .inr (SqT.of h1), ?_⟩⟩
    have k1 := k1'.len.trans (smpN_is p)
    refine ⟨_, rfl, a, p, rfl, hA0.tk (tk_same s1), fun pi H2 us s2 h2 k2 => ⟨pi, us, rfl, .inr (SqT.of h2), fun nl hnl => ?_⟩⟩
    have s3 := same_new hnl (.lst us)
    have s13 := s1.trans (s2.trans s3)
    have hus := k2.len
    refine ⟨_, rfl, pl, _, _, _, rfl, rfl, SqT.of (s13 _ _ hp0), at0, _, rfl, _, _, rfl, rfl, ?_⟩
    have ek2 : k - ((us1.length : Nat) : Int) = ((i : Nat) : Int) := by
      rw [ek, k1]
      omega
    obtain ⟨v, hv⟩ : ∃ v, us[i]? = some v := ⟨_, List.getElem?_eq_getElem (by omega)⟩
    obtain ⟨p2, hp2, b, rfl, hb⟩ := k2.get hv
    rw [hpi] at hp2
    cases (Option.some.inj hp2)
    refine ⟨_, rfl, _, rfl, nl, _, _, _, rfl, rfl, SqL.of upd_same, (by rw [ek2]; exact atI_nat hv), ?_⟩
    refine ⟨_, rfl, _, rfl, ?_⟩
    dsimp only [tNoPart]
    refine slA_of (K := K) (lo := some 1) (hi := none) (s13 _ _ hp0) fun nb H4 s4 g4 => ?_
    have e5 : cutV ((k :: ks).map V.int) (some 1) none = ks.map V.int := cut1
    rw [e5] at g4
    have s14 := s13.trans s4
    refine ⟨_, rfl, b, nb, ob, p', o, one, ks, rfl, hb.tk ((tk_same s3).trans (tk_same s4)), g4, hO0.tk (tk_same s14), hm', by simpa using hn, fun r H5 s5 h5 => ?_⟩
    have s15 := s14.trans s5
    have n5 := s5 _ _ (s4 _ _ (upd_same (H := H2) (a := nl) (o := .lst us)))
    refine ⟨_, rfl, _, rfl, nl, _, _, i, rfl, rfl, n5, ?_, ?_⟩
    · rw [ek2]
      unfold ixN
      rw [if_pos (by omega), if_pos (by omega)]
      rfl
    have hfresh : H0 nl = none := (s1.trans s2).free hnl
    have s16 : Same H0 (upd H5 nl (.lst (us.set i (.ref r)))) := same_mut s15 hfresh
    have tk6 := tk_put (o := .lst (us.set i (.ref r))) n5
    have n6 : upd H5 nl (.lst (us.set i (.ref r))) nl = some (.lst (us.set i (.ref r))) := upd_same
    have k6 : All2 (PVr (upd H5 nl (.lst (us.set i (.ref r))))) ((innP p).set i (putP o p' ks)) (us.set i (.ref r)) := All2.set ⟨r, rfl, h5.tk tk6⟩ i (k2.imp fun _ _ z => PVr.tk ((tk_same (s3.trans (s4.trans s5))).trans tk6) z)
    generalize upd H5 nl (.lst (us.set i (.ref r))) = H6 at s16 n6 k6
    obtain ⟨xs, hx1, hx2, hx3, hx4⟩ := rebI_at (hA0.tk (tk_same s16)) (by rw [List.length_set]) k6
    refine ⟨_, rfl, ?_⟩
    dsimp only [tNoPart]
    refine ⟨_, rfl, a, _, rfl, .inr (SqT.of hx1), _, rfl, nl, _, rfl, .inl (SqL.of n6), _, _, rfl, rfl, _, rfl, ?_⟩
    refine slA_of (K := K) (lo := none) (hi := some ((xs.length : Int) - ((us.set i (.ref r)).length : Int))) hx1 fun t1 H7 s7 g7 => ?_
    have e8 : cutV xs none (some ((xs.length : Int) - ((us.set i (V.ref r)).length : Int))) = xs.take (xs.length - (us.set i (V.ref r)).length) := by
      rw [cut_to (by omega) (by omega)]
      congr 1
      omega
    rw [e8] at g7
    refine ⟨_, rfl, nl, _, rfl, .inl ⟨SqL.of (s7 _ _ n6), fun t2 ht2 => ?_⟩⟩
    have s8 := same_new ht2 (.tup (us.set i (.ref r)))
    have hul : (us.set i (V.ref r)).length = us.length := List.length_set
    refine catA_of (s8 _ _ g7) upd_same (by rw [List.length_take]; omega) fun r2 H9 s9 g9 => ?_
    have s79 := s7.trans (s8.trans s9)
    refine q r2 H9 (s0.trans (s16.trans s79)) ?_
    rw [ek, putP_set o p i p' ks hpi]
    exact hx4 (tk_same s79) g9
theorem no_tput {f : Addr} {fd : FuncData} : FnOk P w K mg base CX0 1 f fd ["part", "place", "other"] (spTput 0) := by
  have no : ∀ vs H Q E, ¬ spTput 0 vs H Q E := fun vs H Q E h => by
    obtain ⟨a, pl, ob, p, o, one, ks, _, _, _, _, _, h0, _⟩ := h
    omega
  exact ⟨fun vs H Q E h => absurd h (no vs H Q E), fun A outer s H args us vs Q E _ _ _ _ h => absurd h (no vs H Q E)⟩
theorem all_tput (T : Txt K mg) {f g1 g2 : Addr} {fd d1 d2 : FuncData} (F : Fun K "_law_tput" "_law_tput" s_law_tput f fd) (R_law_tput : Ref K mg "_law_tput" f fd ["part", "place", "other"])
    (G_law_simples : FnOk P w K mg base CX0 1 g1 d1 ["part"] spSmp) (R_law_simples : Ref K mg "_law_simples" g1 d1 ["part"]) (G_law_inner : FnOk P w K mg base CX0 1 g2 d2 ["part"] spInn) (R_law_inner : Ref K mg "_law_inner" g2 d2 ["part"]) : ∀ n : Nat, FnOk P w K mg base CX0 (n + 1) f fd ["part", "place", "other"] (spTput n)
  | 0 => no_tput
  | n + 1 => ok_tput T F (all_tput T F R_law_tput G_law_simples R_law_simples G_law_inner R_law_inner n) R_law_tput G_law_simples R_law_simples G_law_inner R_law_inner
end
end KB

namespace KB
open PySem L2 HT

/-! ### new words -/
def digs (k : Nat) : List Nat := (if h : k / 26 = 0 then [] else digs (k / 26)) ++ [97 + k % 26]
termination_by k
decreasing_by omega
theorem digs_eq (k : Nat) : digs k = (if k / 26 = 0 then [] else digs (k / 26)) ++ [97 + k % 26] := by
  rw [digs]
  by_cases h : k / 26 = 0
  · rw [dif_pos h, if_pos h]
  · rw [dif_neg h, if_neg h]
def digs0 (k : Nat) : List Nat := if k = 0 then [] else digs k
theorem digs0_eq {k : Nat} (h : k ≠ 0) : digs0 k = digs0 (k / 26) ++ [97 + k % 26] := by
  unfold digs0
  rw [if_neg h, digs_eq]
theorem digs_digs0 (k : Nat) : digs k = digs0 (k / 26) ++ [97 + k % 26] := digs_eq k
theorem digs_inj : ∀ {a b : Nat}, digs a = digs b → a = b := by
  have go : ∀ n a b : Nat, a ≤ n → digs a = digs b → a = b := by
    intro n
    induction n with
    | zero =>
      intro a b ha h
      have h0 : a = 0 := by omega
      subst h0
      rw [digs_eq 0, digs_eq b] at h
      have h1 : ([] : List Nat) = (if b / 26 = 0 then [] else digs (b / 26)) ∧ [97] = [97 + b % 26] := List.append_inj' h rfl
      have h2 : b % 26 = 0 := by
        have := (List.cons.inj h1.2).1
        omega
      by_cases c : b / 26 = 0
      · omega
      · rw [if_neg c, digs_eq] at h1
        have := congrArg List.length h1.1
        simp at this
    | succ n ih =>
      intro a b ha h
      rw [digs_eq a, digs_eq b] at h
      have h1 := List.append_inj' h rfl
      have h2 : a % 26 = b % 26 := by
        have := (List.cons.inj h1.2).1
        omega
      have ne : ∀ k, digs k ≠ [] := fun k z => by
        rw [digs_eq] at z
        simp at z
      by_cases c : a / 26 = 0
      · by_cases d : b / 26 = 0
        · omega
        · rw [if_pos c, if_neg d] at h1
          exact absurd h1.1.symm (ne _)
      · by_cases d : b / 26 = 0
        · rw [if_neg c, if_pos d] at h1
          exact absurd h1.1 (ne _)
        · rw [if_neg c, if_neg d] at h1
          have := ih (a / 26) (b / 26) (by omega) h1.1
          omega
  intro a b h
  exact go a a b (Nat.le_refl _) h
theorem digs_len : ∀ n k : Nat, k < 26 ^ (n + 1) → (digs k).length ≤ n + 1 := by
  intro n
  induction n with
  | zero =>
    intro k h
    rw [digs_eq, if_pos (by omega)]
    exact Nat.le_refl 1
  | succ n ih =>
    intro k h
    rw [digs_eq, List.length_append, List.length_singleton]
    by_cases c : k / 26 = 0
    · rw [if_pos c]
      simp
    · rw [if_neg c]
      have := ih (k / 26) (by
        rw [Nat.pow_succ] at h
        exact Nat.div_lt_of_lt_mul (by rw [Nat.mul_comm]; exact h))
      omega
def wordOf (k : Nat) : Str := ⟨(digs k ++ [113]).toArray⟩
theorem wordOf_inj {a b : Nat} (h : wordOf a = wordOf b) : a = b := by
  have h1 : (digs a ++ [113]).toArray = (digs b ++ [113]).toArray := congrArg Str.cps h
  have h2 := congrArg Array.toList h1
  exact digs_inj (List.append_inj' h2 rfl).1
theorem wordOf_home (k : Nat) : wordOf k ≠ "home" := by
  intro h
  have h1 : (digs k ++ [113]).toArray = (Str.ofString "home").cps := congrArg Str.cps h
  have h2 := congrArg Array.toList h1
  have h3 : (digs k ++ [113]).getLast? = some 113 := by rw [List.getLast?_append]; rfl
  have h4 : (digs k ++ [113]) = (Str.ofString "home").cps.toList := h2
  rw [h4] at h3
  revert h3
  decide +kernel

/-! ### new words are words -/
theorem digs_small : ∀ n k : Nat, k ≤ n → ∀ c ∈ digs k, small c = true := by
  intro n
  induction n with
  | zero =>
    intro k hk c hc
    have h0 : k = 0 := by omega
    subst h0
    rw [digs_eq, if_pos rfl, List.nil_append] at hc
    rw [List.mem_singleton.mp hc]
    decide
  | succ n ih =>
    intro k hk c hc
    rw [digs_eq] at hc
    rcases List.mem_append.mp hc with z | z
    · by_cases d : k / 26 = 0
      · rw [if_pos d] at z
        cases z
      · rw [if_neg d] at z
        exact ih (k / 26) (by omega) c z
    · rw [List.mem_singleton.mp z]
      unfold small
      rw [decide_eq_true (by omega), decide_eq_true (by omega)]
      rfl
theorem isW_wordOf {k : Nat} (h : k < 26 ^ 7) : isW (wordOf k) = true := by
  have hl := digs_len 6 k h
  have hz : (wordOf k).length = (digs k).length + 1 := by
    show ((digs k ++ [113]).toArray).size = _
    rw [List.size_toArray, List.length_append]
    rfl
  have hk : keptW.contains (wordOf k) = false := by
    cases hc : keptW.contains (wordOf k) with
    | false => rfl
    | true =>
      exfalso
      have hm : wordOf k ∈ keptW := by simpa using hc
      have hlast : (wordOf k).cps.toList.getLast? = some 113 := by
        show (digs k ++ [113]).toArray.toList.getLast? = some 113
        rw [List.getLast?_append]
        rfl
      have all : ∀ z ∈ keptW, z.cps.toList.getLast? ≠ some 113 := by decide +kernel
      exact all _ hm hlast
  unfold isW
  rw [hk, hz]
  have a1 : decide (1 ≤ (digs k).length + 1) = true := decide_eq_true (by omega)
  have a2 : decide ((digs k).length + 1 ≤ 8) = true := decide_eq_true (by omega)
  rw [a1, a2]
  have a3 : (wordOf k).cps.toList.all small = true := by
    show (digs k ++ [113]).toArray.toList.all small = true
    rw [List.all_eq_true]
    intro c hc
    rcases List.mem_append.mp (show c ∈ digs k ++ [113] from hc) with z | z
    · exact digs_small k k (Nat.le_refl _) c z
    · rw [List.mem_singleton.mp z]
      decide
  rw [a3]
  rfl
section
variable {P : Program} {w : World} {K : PySem.W.Frag} {mg : Str → Option Value} {base : Heap}
/-! ### word_of -/
structure TxS (K : PySem.W.Frag) (mg : Str → Option Value) : Prop where
  signs : ∃ t, mg "SIGNS" = some (.str lettersS t)
  behind : ∃ t, mg "BEHIND" = some (.str "q" t)
  home : ∃ t, mg "HOME" = some (.str "home" t)
def spWordOf : Sp := fun vs H Q _ => ∃ k : Nat, vs = [.int (k : Int)] ∧ k < 26 ^ 9 ∧ Q (.str (wordOf k)) H
abbrev sword_of : Stmt := top 17
theorem scword_of : FnScope ["k", "word", "rest"] ["k"] (defScope sword_of) := ⟨rfl, rfl, rfl, by decide +kernel, rfl, by decide +kernel, by decide +kernel⟩
theorem str_cons (c : Nat) (l : List Nat) : (⟨#[c]⟩ : Str) ++ ⟨l.toArray⟩ = ⟨(c :: l).toArray⟩ := by
  show (⟨#[c] ++ l.toArray⟩ : Str) = _
  congr 1
  simp
theorem ok_wordOf (T : Txt K mg) (S : TxS K mg) {f : Addr} {fd : FuncData} (F : Fun K "word_of" "word_of" sword_of f fd) : FnOk P w K mg base CX0 1 f fd ["k"] spWordOf := by
  refine F.ok scword_of (fun vs H Q E h => ?_) (fun cdv A outer s H vs Q E hr h => ?_)
  · obtain ⟨k, rfl, _⟩ := h
    rfl
  obtain ⟨k, rfl, hk, q⟩ := h
  obtain ⟨t1, hs⟩ := S.signs
  obtain ⟨t2, hb⟩ := S.behind
  refine ⟨_, (pss_cons (ps_set (i := 1) scword_of.nd rfl (Or.inl rfl) (pe_op op_add_str (pe_ix ix_str (pe_glob (v := .str lettersS) rfl hs ⟨_, rfl⟩) (pe_op op_mod (pv 0) (pe_callB call_len (by rfl) T.m_len PySem.boot_len (pa_cons (pe_glob (v := .str lettersS) rfl hs ⟨_, rfl⟩) pa_nil))) (fun _ _ => rfl)) (pe_glob (v := .str "q") rfl hb ⟨_, rfl⟩)))
    (pss_cons (ps_set (i := 2) scword_of.nd rfl (Or.inl rfl) (pe_op op_fdivW (pv 0) (pe_callB call_len (by rfl) T.m_len PySem.boot_len (pa_cons (pe_glob (v := .str lettersS) rfl hs ⟨_, rfl⟩) pa_nil))))
    (pss_cons (ps_while PassesOwn.never (pt_cmpR op_gt (pv 2) pe_int (nomark _)) (pss_cons (ps_set (i := 1) scword_of.nd rfl (Or.inl rfl) (pe_op op_add_str (pe_ix ix_str (pe_glob (v := .str lettersS) rfl hs ⟨_, rfl⟩) (pe_op op_mod (pv 2) (pe_callB call_len (by rfl) T.m_len PySem.boot_len (pa_cons (pe_glob (v := .str lettersS) rfl hs ⟨_, rfl⟩) pa_nil))) (fun _ _ => rfl)) (pv 1)))
    (pss_one (ps_set (i := 2) scword_of.nd rfl (Or.inl rfl) (pe_op op_fdivW (pv 2) (pe_callB call_len (by rfl) T.m_len PySem.boot_len (pa_cons (pe_glob (v := .str lettersS) rfl hs ⟨_, rfl⟩) pa_nil)))))))
    (pss_one (ps_ret (pv 1)))))), ?_⟩
  have hl26 : lettersS.length = 26 := by decide +kernel
  have hd10 : (digs k ++ [113]).length ≤ 10 := by
    rw [List.length_append]
    have := digs_len 8 k hk
    show (digs k).length + 1 ≤ 10
    omega
  have lenW : LenV K (.str lettersS) H 26 := ⟨by decide +kernel, hl26.symm⟩
  refine ⟨_, rfl, _, _, rfl, lenW, _, _, rfl, rfl, (by show (0 : Int) < 26; decide), lettersS, _, _, rfl, rfl, (by decide +kernel), letters_at (Int.emod_nonneg _ (by decide)) (Int.emod_lt_of_pos _ (by decide)), _, _, rfl, rfl, sz (by show 1 + 1 ≤ 100000; decide), ?_⟩
  refine ⟨_, rfl, _, _, rfl, lenW, _, _, rfl, rfl, ⟨by decide, log_many (by decide) (by decide)⟩, ?_⟩
  refine ⟨fun m σ H' => ∃ (r : Nat) (l : List Nat), σ = [some (.int (k : Int)), some (.str ⟨l.toArray⟩), some (.int (r : Int))] ∧ H = H' ∧ r = m ∧ digs0 r ++ l = digs k ++ [113], ⟨_, k / 26, [97 + k % 26, 113], ?_, rfl, rfl, ?_⟩, ?_⟩
  · congr 3
  · rw [digs_digs0 k]
    simp
  rintro m σ H' ⟨r, l, rfl, rfl, rfl, e⟩
  refine ⟨_, rfl, _, _, rfl, rfl, _, rfl, ?_⟩
  by_cases c : r = 0
  · subst c
    refine itF (decide_eq_false (by omega)) ⟨_, rfl, ?_⟩
    have e2 : l = digs k ++ [113] := e
    rw [e2]
    exact q
  · refine itT (decide_eq_true (by omega)) ⟨fun σ' H' => ∃ m', m' < r ∧ ∃ (r' : Nat) (l : List Nat), σ' = [some (.int (k : Int)), some (.str ⟨l.toArray⟩), some (.int (r' : Int))] ∧ H = H' ∧ r' = m' ∧ digs0 r' ++ l = digs k ++ [113], fun _ _ z => z, ?_⟩
    have hll : l.length ≤ 10 := by
      have := congrArg List.length e
      rw [List.length_append] at this
      omega
    refine ⟨_, rfl, _, _, rfl, lenW, _, _, rfl, rfl, (by show (0 : Int) < 26; decide), lettersS, _, _, rfl, rfl, (by decide +kernel), letters_at (Int.emod_nonneg _ (by decide)) (Int.emod_lt_of_pos _ (by decide)), _, rfl, _, _, rfl, rfl, sz (by show 1 + l.toArray.size ≤ 100000; rw [List.size_toArray]; omega), ?_⟩
    refine ⟨_, rfl, _, _, rfl, lenW, _, _, rfl, rfl, ⟨by decide, log_many (by decide) (by decide)⟩, ?_⟩
    refine ⟨r / 26, by omega, r / 26, (97 + r % 26) :: l, ?_, rfl, rfl, ?_⟩
    · rw [str_cons]
      congr 4
    · rw [← e, digs0_eq c]
      simp
end
end KB

namespace KB
open PySem L2 HT

theorem simple_is {h : Hd} {n : Nat} {k : _root_.Fin n → Tm} : simple (.mk h n k) = true ↔ flatHd h = true ∧ ∀ i, simple (k i) = true := by
  constructor
  · exact simple_mk
  · intro ⟨a, b⟩
    have e : (Tm.mk h n k) = mkL h (List.ofFn k) ∨ True := .inr trivial
    show (flatHd h && (List.ofFn fun i => simple (k i)).all id) = true
    rw [a, Bool.true_and, List.all_eq_true]
    intro x hx
    obtain ⟨i, rfl⟩ := List.mem_ofFn.mp hx
    exact b i
theorem kids_mkL (h : Hd) (ts : List Tm) : kidsT (mkL h ts) = ts := ofFn_get ts
theorem pd_mkL (h : Hd) (ts : List Tm) : pd (mkL h ts) = pdH h (ts.map pd) := by
  show pdH h (List.ofFn fun i => pd (ts.get i)) = _
  have e : (List.ofFn fun i : Fin ts.length => pd (ts.get i)) = (List.ofFn fun i : Fin ts.length => ts.get i).map pd := by
    rw [List.map_ofFn]
    rfl
  rw [e, ofFn_get]
theorem pd_kids (t : Tm) : pd t = pdH (hdT t) ((kidsT t).map pd) := by
  cases t with
  | mk h n k =>
    show pdH h (List.ofFn fun i => pd (k i)) = pdH h ((List.ofFn k).map pd)
    rw [List.map_ofFn]
    rfl
/-! ### other words -/
def calH (g : Str → Str) : Hd → Hd
  | .nam x => .nam (g x)
  | .lett x => .lett (g x)
  | h => h
def calT (g : Str → Str) : Tm → Tm
  | .mk h n k => mkL (calH g h) (List.ofFn fun i => calT g (k i))
theorem calT_eq (g : Str → Str) (t : Tm) : calT g t = mkL (calH g (hdT t)) ((kidsT t).map (calT g)) := by
  cases t with
  | mk h n k =>
    show mkL (calH g h) (List.ofFn fun i => calT g (k i)) = mkL (calH g h) ((List.ofFn k).map (calT g))
    rw [List.map_ofFn]
    rfl
theorem nms_kid {t u : Tm} (m : u ∈ kidsT t) : ∀ y ∈ nmsT u, y ∈ nmsT t := fun y hy => by
  rw [nms_mk t]
  exact List.mem_append_right _ (List.mem_flatten.mpr ⟨_, List.mem_map.mpr ⟨u, m, rfl⟩, hy⟩)
theorem nms_hd {t : Tm} : ∀ y ∈ hdN (hdT t), y ∈ nmsT t := fun y hy => by
  rw [nms_mk t]
  exact List.mem_append_left _ hy
theorem ok_cal {g : Str → Str} : ∀ {t : Tm}, okT t → (∀ y ∈ nmsT t, isW (g y) = true) → okT (calT g t) := by
  intro t
  induction t with
  | mk h n k ih =>
    intro o hg
    show okT (mkL (calH g h) (List.ofFn fun i => calT g (k i)))
    refine ok_mkL ?_ fun t ht => ?_
    · cases h with
      | nam x => exact hg x (nms_hd x (List.mem_singleton.mpr rfl))
      | lett x => exact hg x (nms_hd x (List.mem_singleton.mpr rfl))
      | num z => exact o.1
      | ask f => exact o.1
      | _ => trivial
    · obtain ⟨i, rfl⟩ := List.mem_ofFn.mp ht
      exact ih i (o.2 i) fun y hy => hg y (nms_kid (List.mem_ofFn.mpr ⟨i, rfl⟩) y hy)
theorem cnt_cal {g : Str → Str} : ∀ t : Tm, cnt (calT g t) = cnt t := by
  intro t
  induction t with
  | mk h n k ih =>
    show cnt (mkL (calH g h) (List.ofFn fun i => calT g (k i))) = _
    rw [cnt_mkL, cnt_mk]
    congr 1
    show ((List.ofFn fun i => calT g (k i)).map cnt).sum = ((List.ofFn k).map cnt).sum
    rw [List.map_ofFn, List.map_ofFn]
    congr 2
    funext i
    exact ih i
theorem simple_cal {g : Str → Str} : ∀ {t : Tm}, simple t = true → simple (calT g t) = true := by
  intro t
  induction t with
  | mk h n k ih =>
    intro o
    obtain ⟨o1, o2⟩ := simple_mk o
    show simple (mkL (calH g h) (List.ofFn fun i => calT g (k i))) = true
    refine simple_mkL (by cases h <;> exact o1) fun t ht => ?_
    obtain ⟨i, rfl⟩ := List.mem_ofFn.mp ht
    exact ih i (o2 i)
theorem ht_cal {g : Str → Str} : ∀ {t : Tm} {n : Nat}, HtLe n t → HtLe n (calT g t) := by
  intro t
  induction t with
  | mk h m k ih =>
    intro n o
    cases n with
    | zero => exact o.elim
    | succ n =>
      show HtLe (n + 1) (mkL (calH g h) (List.ofFn fun i => calT g (k i)))
      refine ht_mkL fun t ht => ?_
      obtain ⟨i, rfl⟩ := List.mem_ofFn.mp ht
      exact ih i (o i)
theorem nms_cal {g : Str → Str} : ∀ t : Tm, nmsT (calT g t) = (nmsT t).map g := by
  intro t
  induction t with
  | mk h n k ih =>
    rw [nms_mk, nms_mk]
    rw [show calT g (.mk h n k) = mkL (calH g h) (List.ofFn fun i => calT g (k i)) from rfl, kids_mkL]
    show hdN (calH g h) ++ ((List.ofFn fun i => calT g (k i)).map nmsT).flatten = (hdN h ++ ((List.ofFn k).map nmsT).flatten).map g
    rw [List.map_append, List.map_flatten, List.map_map, List.map_ofFn, List.map_ofFn]
    have e1 : hdN (calH g h) = (hdN h).map g := by cases h <;> rfl
    rw [e1]
    congr 3
    funext i
    exact ih i
theorem TmW.cal {ws : List Str} {g : Str → Str} {t : Tm} (h : TmW ws t) (hg : ∀ y ∈ ws, isW (g y) = true) : TmW (ws.map g) (calT g t) where
  s := ⟨ok_cal h.s.ok fun y hy => hg y (h.c y hy), simple_cal h.s.si, by rw [cnt_cal]; exact h.s.cn, ht_cal h.s.ht⟩
  c y hy := by
    rw [nms_cal] at hy
    obtain ⟨z, hz, rfl⟩ := List.mem_map.mp hy
    exact List.mem_map.mpr ⟨z, h.c z hz, rfl⟩
theorem calT_id {g g' : Str → Str} : ∀ {t : Tm}, (∀ y ∈ nmsT t, g' (g y) = g y) → calT g' (calT g t) = calT g t := by
  intro t
  induction t with
  | mk h n k ih =>
    intro hg
    rw [calT_eq g' (calT g (.mk h n k))]
    rw [show calT g (.mk h n k) = mkL (calH g h) (List.ofFn fun i => calT g (k i)) from rfl, kids_mkL]
    show mkL (calH g' (calH g h)) ((List.ofFn fun i => calT g (k i)).map (calT g')) = _
    have e1 : calH g' (calH g h) = calH g h := by
      cases h with
      | nam x => exact congrArg Hd.nam (hg x (nms_hd x (List.mem_singleton.mpr rfl)))
      | lett x => exact congrArg Hd.lett (hg x (nms_hd x (List.mem_singleton.mpr rfl)))
      | _ => rfl
    rw [e1, List.map_ofFn]
    congr 2
    funext i
    exact ih i fun y hy => hg y (nms_kid (List.mem_ofFn.mpr ⟨i, rfl⟩) y hy)
def calP (g k : Str → Str) : Pt → Pt
  | .give j t => .give (k j) (calT g t)
  | .ask f ts j => .ask f (ts.map (calT g)) (k j)
  | .tell x t p => .tell (g x) (calT g t) (calP g k p)
  | .lett x t p => .lett (g x) (calT g t) (calP g k p)
  | .iff t p q => .iff (calT g t) (calP g k p) (calP g k q)
  | .post j x p q => .post (k j) (g x) (calP g k p) (calP g k q)
theorem wP_cal {g k : Str → Str} : ∀ p : Pt, wP (calP g k p) = (wP p).map g
  | .give j t => rfl
  | .ask f ts j => rfl
  | .tell x t p => congrArg (g x :: ·) (wP_cal p)
  | .lett x t p => congrArg (g x :: ·) (wP_cal p)
  | .iff t p q => by
    show wP (calP g k p) ++ wP (calP g k q) = (wP p ++ wP q).map g
    rw [wP_cal p, wP_cal q, List.map_append]
  | .post j x p q => by
    show g x :: (wP (calP g k p) ++ wP (calP g k q)) = (x :: (wP p ++ wP q)).map g
    rw [wP_cal p, wP_cal q, List.map_cons, List.map_append]
theorem jP_cal {g k : Str → Str} : ∀ p : Pt, jP (calP g k p) = (jP p).map k
  | .give j t => rfl
  | .ask f ts j => rfl
  | .tell x t p => jP_cal p
  | .lett x t p => jP_cal p
  | .iff t p q => by
    show jP (calP g k p) ++ jP (calP g k q) = (jP p ++ jP q).map k
    rw [jP_cal p, jP_cal q, List.map_append]
  | .post j x p q => by
    show k j :: (jP (calP g k p) ++ jP (calP g k q)) = (j :: (jP p ++ jP q)).map k
    rw [jP_cal p, jP_cal q, List.map_cons, List.map_append]
theorem pcnt_cal {g k : Str → Str} : ∀ p : Pt, pcnt (calP g k p) = pcnt p
  | .give j t => rfl
  | .ask f ts j => rfl
  | .tell x t p => congrArg (1 + ·) (pcnt_cal p)
  | .lett x t p => congrArg (1 + ·) (pcnt_cal p)
  | .iff t p q => by
    show 1 + pcnt (calP g k p) + pcnt (calP g k q) = 1 + pcnt p + pcnt q
    rw [pcnt_cal p, pcnt_cal q]
  | .post j x p q => by
    show 1 + pcnt (calP g k p) + pcnt (calP g k q) = 1 + pcnt p + pcnt q
    rw [pcnt_cal p, pcnt_cal q]
theorem aP_cal {ws js : List Str} {g k : Str → Str} (hg : ∀ y ∈ ws, isW (g y) = true) (hk : ∀ j ∈ js, isW j = true → isW (k j) = true) : ∀ {p : Pt}, aP ws js p → aP (ws.map g) (js.map k) (calP g k p)
  | .give j t, h => ⟨List.mem_map.mpr ⟨j, h.1, rfl⟩, h.2.cal hg⟩
  | .ask f ts j, h => ⟨List.mem_map.mpr ⟨j, h.1, rfl⟩, h.2.1, by rw [List.length_map]; exact h.2.2.1, fun t ht => by
    obtain ⟨u, hu, rfl⟩ := List.mem_map.mp ht
    exact (h.2.2.2 u hu).cal hg⟩
  | .tell x t p, h => ⟨⟨hg x h.1.2, List.mem_map.mpr ⟨x, h.1.2, rfl⟩⟩, h.2.1.cal hg, aP_cal hg hk h.2.2⟩
  | .lett x t p, h => ⟨⟨hg x h.1.2, List.mem_map.mpr ⟨x, h.1.2, rfl⟩⟩, h.2.1.cal hg, aP_cal hg hk h.2.2⟩
  | .iff t p q, h => ⟨h.1.cal hg, aP_cal hg hk h.2.1, aP_cal hg hk h.2.2⟩
  | .post j x p q, h => ⟨⟨hk j h.1.2 h.1.1, List.mem_map.mpr ⟨j, h.1.2, rfl⟩⟩, ⟨hg x h.2.1.2, List.mem_map.mpr ⟨x, h.2.1.2, rfl⟩⟩, aP_cal hg hk h.2.2.1, aP_cal hg hk h.2.2.2⟩
theorem calP_id {ws js : List Str} {g g' k k' : Str → Str} (hg : ∀ y ∈ ws, g' (g y) = g y) (hk : ∀ j ∈ js, k' (k j) = k j) : ∀ {p : Pt}, aP ws js p → calP g' k' (calP g k p) = calP g k p
  | .give j t, h => by
    show Pt.give (k' (k j)) (calT g' (calT g t)) = Pt.give (k j) (calT g t)
    rw [hk j h.1, calT_id fun y hy => hg y (h.2.c y hy)]
  | .ask f ts j, h => by
    show Pt.ask f ((ts.map (calT g)).map (calT g')) (k' (k j)) = Pt.ask f (ts.map (calT g)) (k j)
    rw [hk j h.1, List.map_map]
    congr 1
    refine List.map_congr_left fun t ht => ?_
    exact calT_id fun y hy => hg y ((h.2.2.2 t ht).c y hy)
  | .tell x t p, h => by
    show Pt.tell (g' (g x)) (calT g' (calT g t)) (calP g' k' (calP g k p)) = Pt.tell (g x) (calT g t) (calP g k p)
    rw [hg x h.1.2, calT_id fun y hy => hg y (h.2.1.c y hy), calP_id hg hk h.2.2]
  | .lett x t p, h => by
    show Pt.lett (g' (g x)) (calT g' (calT g t)) (calP g' k' (calP g k p)) = Pt.lett (g x) (calT g t) (calP g k p)
    rw [hg x h.1.2, calT_id fun y hy => hg y (h.2.1.c y hy), calP_id hg hk h.2.2]
  | .iff t p q, h => by
    show Pt.iff (calT g' (calT g t)) (calP g' k' (calP g k p)) (calP g' k' (calP g k q)) = Pt.iff (calT g t) (calP g k p) (calP g k q)
    rw [calT_id fun y hy => hg y (h.1.c y hy), calP_id hg hk h.2.1, calP_id hg hk h.2.2]
  | .post j x p q, h => by
    show Pt.post (k' (k j)) (g' (g x)) (calP g' k' (calP g k p)) (calP g' k' (calP g k q)) = Pt.post (k j) (g x) (calP g k p) (calP g k q)
    rw [hk j h.1.2, hg x h.2.1.2, calP_id hg hk h.2.2.1, calP_id hg hk h.2.2.2]
/-! ### words by numbers -/
def numG (ws : List Str) : Nat → Str → Str
  | 0, x => x
  | i + 1, x => if ws[i]? = some x then wordOf i else numG ws i x
theorem num_at {ws : List Str} (hn : ws.Nodup) {i : Nat} {x : Str} (hi : ws[i]? = some x) : ∀ n, i < n → numG ws n x = wordOf i
  | n + 1, h => by
    show (if ws[n]? = some x then wordOf n else numG ws n x) = wordOf i
    by_cases c : ws[n]? = some x
    · rw [if_pos c]
      obtain ⟨h1, h2⟩ := List.getElem?_eq_some_iff.mp hi
      obtain ⟨h3, h4⟩ := List.getElem?_eq_some_iff.mp c
      have := (List.getElem_inj hn).mp (h4.trans h2.symm)
      rw [this]
    · rw [if_neg c]
      refine num_at hn hi n ?_
      by_cases d : i = n
      · rw [d] at hi; exact absurd hi c
      · omega
def numW (ws : List Str) (x : Str) : Str := numG ws ws.length x
theorem numW_at {ws : List Str} (hn : ws.Nodup) {i : Nat} {x : Str} (hi : ws[i]? = some x) : numW ws x = wordOf i := num_at hn hi _ (List.getElem?_eq_some_iff.mp hi).1
theorem numW_get {ws : List Str} (hn : ws.Nodup) {x : Str} (hx : x ∈ ws) : ∃ i, i < ws.length ∧ ws[i]? = some x ∧ numW ws x = wordOf i := by
  obtain ⟨i, hi, rfl⟩ := List.mem_iff_getElem.mp hx
  exact ⟨i, hi, List.getElem?_eq_getElem hi, numW_at hn (List.getElem?_eq_getElem hi)⟩
theorem numW_map {ws : List Str} (hn : ws.Nodup) : ws.map (numW ws) = (List.range ws.length).map wordOf := by
  refine List.ext_getElem (by simp) fun i h1 h2 => ?_
  rw [List.length_map] at h1
  rw [List.getElem_map, List.getElem_map, List.getElem_range]
  exact numW_at hn (List.getElem?_eq_getElem h1)
theorem words_nd (n : Nat) : ((List.range n).map wordOf).Nodup := by
  rw [List.nodup_iff_pairwise_ne, List.pairwise_map]
  refine List.Pairwise.imp ?_ List.nodup_range
  intro a b hab z
  exact hab (wordOf_inj z)
theorem numW_nd {ws : List Str} (hn : ws.Nodup) : (ws.map (numW ws)).Nodup := by
  rw [numW_map hn]
  exact words_nd _
theorem numW_id {ws : List Str} (hn : ws.Nodup) {x : Str} (hx : x ∈ ws) : numW (ws.map (numW ws)) (numW ws x) = numW ws x := by
  obtain ⟨i, h1, h2, h3⟩ := numW_get hn hx
  rw [h3]
  refine numW_at (numW_nd hn) ?_
  rw [List.getElem?_map, h2]
  exact congrArg some h3
theorem numW_isW {ws : List Str} (hn : ws.Nodup) (hl : ws.length ≤ 1000) {x : Str} (hx : x ∈ ws) : isW (numW ws x) = true := by
  obtain ⟨i, h1, h2, h3⟩ := numW_get hn hx
  rw [h3]
  exact isW_wordOf (Nat.lt_of_lt_of_le (show i < 1000 by omega) (by decide))
end KB

namespace KB
open PySem L2 HT

/-! ### errands told anew -/
def wsE (e : TEr) : List Str := e.2.1 ++ wP e.2.2
def jsE (e : TEr) : List Str := jP e.2.2
def gW (e : TEr) : Str → Str := numW (wsE e)
def gJ (e : TEr) : Str → Str := fun j => if j = "home" then "home" else numW (jsE e) j
def anewE (e : TEr) : TEr := (e.1, e.2.1.map (gW e), calP (gW e) (gJ e) e.2.2)
structure AnE (e : TEr) : Prop where
  w : isW e.1 = true
  ns : ∀ x ∈ e.2.1, isW x = true
  nl : e.2.1.length ≤ 4
  a : aP (wsE e) ("home" :: jsE e) e.2.2
  cn : pcnt e.2.2 ≤ 50
  un : (wsE e).Nodup
  uj : (jsE e).Nodup
theorem not_home {j : Str} (h : isW j = true) : j ≠ "home" := fun z => by
  rw [z] at h
  exact absurd h (by decide +kernel)
theorem aP_jw {ws js : List Str} : ∀ {p : Pt}, aP ws js p → ∀ j ∈ jP p, isW j = true ∧ j ∈ js
  | .give j t, _, _, h => by cases h
  | .ask f ts j, _, _, h => by cases h
  | .tell x t p, h, j, hj => aP_jw h.2.2 j hj
  | .lett x t p, h, j, hj => aP_jw h.2.2 j hj
  | .iff t p q, h, j, hj => by
    rcases List.mem_append.mp hj with z | z
    · exact aP_jw h.2.1 j z
    · exact aP_jw h.2.2 j z
  | .post i x p q, h, j, hj => by
    rcases List.mem_cons.mp hj with z | z
    · rw [z]; exact h.1
    · rcases List.mem_append.mp z with z | z
      · exact aP_jw h.2.2.1 j z
      · exact aP_jw h.2.2.2 j z
theorem aP_ww {ws js : List Str} : ∀ {p : Pt}, aP ws js p → ∀ x ∈ wP p, isW x = true
  | .give j t, _, _, h => by cases h
  | .ask f ts j, _, _, h => by cases h
  | .tell x t p, h, y, hy => by
    rcases List.mem_cons.mp hy with z | z
    · rw [z]; exact h.1.1
    · exact aP_ww h.2.2 y z
  | .lett x t p, h, y, hy => by
    rcases List.mem_cons.mp hy with z | z
    · rw [z]; exact h.1.1
    · exact aP_ww h.2.2 y z
  | .iff t p q, h, j, hj => by
    rcases List.mem_append.mp hj with z | z
    · exact aP_ww h.2.1 j z
    · exact aP_ww h.2.2 j z
  | .post i x p q, h, j, hj => by
    rcases List.mem_cons.mp hj with z | z
    · rw [z]; exact h.2.1.1
    · rcases List.mem_append.mp z with z | z
      · exact aP_ww h.2.2.1 j z
      · exact aP_ww h.2.2.2 j z
theorem wP_len : ∀ p : Pt, (wP p).length ≤ pcnt p
  | .give j t => Nat.zero_le _
  | .ask f ts j => Nat.zero_le _
  | .tell x t p => by have := wP_len p; show (wP p).length + 1 ≤ 1 + pcnt p; omega
  | .lett x t p => by have := wP_len p; show (wP p).length + 1 ≤ 1 + pcnt p; omega
  | .iff t p q => by
    have h1 := wP_len p
    have h2 := wP_len q
    show (wP p ++ wP q).length ≤ 1 + pcnt p + pcnt q
    rw [List.length_append]; omega
  | .post j x p q => by
    have h1 := wP_len p
    have h2 := wP_len q
    show (wP p ++ wP q).length + 1 ≤ 1 + pcnt p + pcnt q
    rw [List.length_append]; omega
theorem jP_len : ∀ p : Pt, (jP p).length ≤ pcnt p
  | .give j t => Nat.zero_le _
  | .ask f ts j => Nat.zero_le _
  | .tell x t p => by have := jP_len p; show (jP p).length ≤ 1 + pcnt p; omega
  | .lett x t p => by have := jP_len p; show (jP p).length ≤ 1 + pcnt p; omega
  | .iff t p q => by
    have h1 := jP_len p
    have h2 := jP_len q
    show (jP p ++ jP q).length ≤ 1 + pcnt p + pcnt q
    rw [List.length_append]; omega
  | .post j x p q => by
    have h1 := jP_len p
    have h2 := jP_len q
    show (jP p ++ jP q).length + 1 ≤ 1 + pcnt p + pcnt q
    rw [List.length_append]; omega
theorem AnE.wl {e : TEr} (h : AnE e) : (wsE e).length ≤ 54 := by
  have h1 := wP_len e.2.2
  have h2 := h.cn
  have h3 := h.nl
  show (e.2.1 ++ wP e.2.2).length ≤ 54
  rw [List.length_append]; omega
theorem AnE.jl {e : TEr} (h : AnE e) : (jsE e).length ≤ 50 := Nat.le_trans (jP_len _) h.cn
theorem AnE.gw {e : TEr} (h : AnE e) {y : Str} (hy : y ∈ wsE e) : isW (gW e y) = true := numW_isW h.un (Nat.le_trans h.wl (by decide)) hy
theorem AnE.gj {e : TEr} (h : AnE e) {j : Str} (hj : j ∈ jsE e) : isW (gJ e j) = true ∧ gJ e j = numW (jsE e) j := by
  have h1 := not_home (aP_jw h.a j hj).1
  have e1 : gJ e j = numW (jsE e) j := if_neg h1
  exact ⟨by rw [e1]; exact numW_isW h.uj (Nat.le_trans h.jl (by decide)) hj, e1⟩
theorem gJ_home (e : TEr) : gJ e "home" = "home" := if_pos rfl
theorem AnE.gjs {e : TEr} (h : AnE e) {j : Str} (hj : j ∈ ("home" :: jsE e : List Str)) (hw : isW j = true) : isW (gJ e j) = true := by
  rcases List.mem_cons.mp hj with z | z
  · exact absurd z (not_home hw)
  · exact (h.gj z).1
theorem wsE_anew (e : TEr) : wsE (anewE e) = (wsE e).map (gW e) := by
  show e.2.1.map (gW e) ++ wP (calP (gW e) (gJ e) e.2.2) = (e.2.1 ++ wP e.2.2).map (gW e)
  rw [wP_cal, List.map_append]
theorem jsE_anew (e : TEr) (h : AnE e) : jsE (anewE e) = (jsE e).map (numW (jsE e)) := by
  show jP (calP (gW e) (gJ e) e.2.2) = _
  rw [jP_cal]
  exact List.map_congr_left fun j hj => (h.gj hj).2
theorem AnE.anew {e : TEr} (h : AnE e) : AnE (anewE e) where
  w := h.w
  ns x hx := by
    obtain ⟨y, hy, rfl⟩ := List.mem_map.mp hx
    exact h.gw (List.mem_append_left _ hy)
  nl := by
    show (e.2.1.map (gW e)).length ≤ 4
    rw [List.length_map]; exact h.nl
  a := by
    have := aP_cal (fun y hy => h.gw hy) (fun j hj hw => h.gjs hj hw) h.a
    rw [wsE_anew, jsE_anew e h]
    rw [List.map_cons, gJ_home] at this
    have e1 : (jsE e).map (gJ e) = (jsE e).map (numW (jsE e)) := List.map_congr_left fun j hj => (h.gj hj).2
    rw [e1] at this
    exact this
  cn := by
    show pcnt (calP (gW e) (gJ e) e.2.2) ≤ 50
    rw [pcnt_cal]; exact h.cn
  un := by rw [wsE_anew]; exact numW_nd h.un
  uj := by rw [jsE_anew e h]; exact numW_nd h.uj
theorem anew_anew {e : TEr} (h : AnE e) : anewE (anewE e) = anewE e := by
  have hw : ∀ y ∈ wsE e, gW (anewE e) (gW e y) = gW e y := fun y hy => by
    show numW (wsE (anewE e)) (gW e y) = gW e y
    rw [wsE_anew]
    exact numW_id h.un hy
  have hj : ∀ j ∈ ("home" :: jsE e : List Str), gJ (anewE e) (gJ e j) = gJ e j := fun j hj => by
    rcases List.mem_cons.mp hj with z | z
    · rw [z, gJ_home, gJ_home]
    · have h1 := h.gj z
      show (if gJ e j = ("home" : Str) then ("home" : Str) else numW (jsE (anewE e)) (gJ e j)) = gJ e j
      rw [if_neg (not_home h1.1), jsE_anew e h, h1.2]
      exact numW_id h.uj z
  show (e.1, (e.2.1.map (gW e)).map (gW (anewE e)), calP (gW (anewE e)) (gJ (anewE e)) (calP (gW e) (gJ e) e.2.2)) = (e.1, e.2.1.map (gW e), calP (gW e) (gJ e) e.2.2)
  rw [calP_id hw hj h.a, List.map_map]
  congr 2
  exact List.map_congr_left fun x hx => hw x (List.mem_append_left _ hx)
/-! ### drawn errands -/
theorem nms_sc {hd : Str → Option Nat} : ∀ {t : Tm} {xs : List Str}, simple t = true → okS hd t xs → ∀ y ∈ nmsT t, y ∈ xs := by
  intro t
  induction t with
  | mk h n k ih =>
    intro xs hs ho y hy
    obtain ⟨s1, s2⟩ := simple_mk hs
    rw [nms_mk] at hy
    rcases List.mem_append.mp hy with z | z
    · cases h with
      | nam x => rw [List.mem_singleton.mp z]; exact ho.1
      | lett x => cases s1
      | _ => cases z
    · obtain ⟨l, hl, hy2⟩ := List.mem_flatten.mp z
      obtain ⟨u, hu, rfl⟩ := List.mem_map.mp hl
      obtain ⟨i, rfl⟩ := List.mem_ofFn.mp hu
      have e1 : inn h i.val xs = xs := by cases h <;> first | rfl | cases s1
      have := ho.2 i
      rw [e1] at this
      exact ih i (s2 i) this y hy2
theorem SmT.tw {hd : Str → Option Nat} {xs ws : List Str} {t : Tm} (h : SmT hd xs t) (hx : ∀ x ∈ xs, x ∈ ws) : TmW ws t := ⟨h.st, fun y hy => hx y (nms_sc h.si h.sc y hy)⟩
theorem okP_aP {hd : Str → Option Nat} {ws js : List Str} : ∀ {p : Pt} {xs hs : List Str}, okP hd p xs hs → (∀ x ∈ xs, x ∈ ws) → (∀ j ∈ hs, j ∈ js) → (∀ x ∈ wP p, x ∈ ws) → (∀ j ∈ jP p, j ∈ js) → aP ws js p
  | .give j t, xs, hs, h, a, b, _, _ => ⟨b j h.1, h.2.tw a⟩
  | .ask f ts j, xs, hs, h, a, b, _, _ => ⟨b j h.1, h.2.1, h.2.2.2.1, fun t ht => (h.2.2.2.2 t ht).tw a⟩
  | .tell x t p, xs, hs, h, a, b, c, d => ⟨⟨h.1, c x List.mem_cons_self⟩, h.2.1.tw a, okP_aP h.2.2 (fun y hy => by
      rcases List.mem_append.mp hy with z | z
      · exact a y z
      · rw [List.mem_singleton.mp z]; exact c x List.mem_cons_self) b (fun y hy => c y (List.mem_cons_of_mem _ hy)) d⟩
  | .lett x t p, xs, hs, h, a, b, c, d => ⟨⟨h.1, c x List.mem_cons_self⟩, h.2.1.tw a, okP_aP h.2.2 (fun y hy => by
      rcases List.mem_append.mp hy with z | z
      · exact a y z
      · rw [List.mem_singleton.mp z]; exact c x List.mem_cons_self) b (fun y hy => c y (List.mem_cons_of_mem _ hy)) d⟩
  | .iff t p q, xs, hs, h, a, b, c, d => ⟨h.1.tw a, okP_aP h.2.1 a b (fun y hy => c y (List.mem_append_left _ hy)) (fun y hy => d y (List.mem_append_left _ hy)), okP_aP h.2.2 a b (fun y hy => c y (List.mem_append_right _ hy)) (fun y hy => d y (List.mem_append_right _ hy))⟩
  | .post j x p q, xs, hs, h, a, b, c, d => ⟨⟨h.1, d j List.mem_cons_self⟩, ⟨h.2.1, c x List.mem_cons_self⟩, okP_aP h.2.2.1 (fun y hy => by
      rcases List.mem_append.mp hy with z | z
      · exact a y z
      · rw [List.mem_singleton.mp z]; exact c x List.mem_cons_self) b (fun y hy => c y (List.mem_cons_of_mem _ (List.mem_append_left _ hy))) (fun y hy => d y (List.mem_cons_of_mem _ (List.mem_append_left _ hy))),
    okP_aP h.2.2.2 a (fun y hy => by
      rcases List.mem_append.mp hy with z | z
      · exact b y z
      · rw [List.mem_singleton.mp z]; exact d j List.mem_cons_self) (fun y hy => c y (List.mem_cons_of_mem _ (List.mem_append_right _ hy))) (fun y hy => d y (List.mem_cons_of_mem _ (List.mem_append_right _ hy)))⟩
theorem GdTE.an {hF : Str → Option Nat} {e : TEr} (h : GdTE hF e) : AnE e where
  w := h.w
  ns := h.ws
  nl := h.n4
  a := okP_aP h.ok (fun x hx => List.mem_append_left _ hx) (fun j hj => by rw [List.mem_singleton.mp hj]; exact List.mem_cons_self) (fun x hx => List.mem_append_right _ hx) (fun j hj => List.mem_cons_of_mem _ hj)
  cn := Nat.le_trans h.cn (by decide)
  un := h.un
  uj := h.uj
/-! ### as Python's data -/
theorem aP_kP {ws js : List Str} (hj : ∀ j ∈ js, PySem.PyData.strOk j = true) : ∀ {p : Pt}, aP ws js p → kP p
  | .give j t, h => ⟨hj j h.1, h.2.s⟩
  | .ask f ts j, h => ⟨hj j h.1, h.2.1, h.2.2.1, fun t ht => (h.2.2.2 t ht).s⟩
  | .tell x t p, h => ⟨h.1.1, h.2.1.s, aP_kP hj h.2.2⟩
  | .lett x t p, h => ⟨h.1.1, h.2.1.s, aP_kP hj h.2.2⟩
  | .iff t p q, h => ⟨h.1.s, aP_kP hj h.2.1, aP_kP hj h.2.2⟩
  | .post j x p q, h => ⟨h.1.1, h.2.1.1, aP_kP hj h.2.2.1, aP_kP hj h.2.2.2⟩
theorem AnE.jok {e : TEr} (h : AnE e) : ∀ j ∈ ("home" :: jsE e : List Str), PySem.PyData.strOk j = true := fun j hj => by
  rcases List.mem_cons.mp hj with z | z
  · rw [z]; decide +kernel
  · exact isW_ok (aP_jw h.a j z).1
theorem AnE.kp {e : TEr} (h : AnE e) : kP e.2.2 := aP_kP h.jok h.a
def pdE (e : TEr) : PyData := .tuple [.str e.1, .tuple (e.2.1.map PyData.str), pdP e.2.2]
def pdB (es : List TEr) : PyData := .tuple (es.map pdE)
theorem dp_er {K : PySem.W.Frag} {H : Hp} {e : TEr} {v : V} (h : TErV H e v) : Dp K H v (pdE e) := by
  obtain ⟨q, r, b, rfl, h1, h2, h3⟩ := h
  exact .tup (SqT.of h1) (.cons (.str _) (.cons (.tup (SqT.of h2) (dp_strs _)) (.cons (dp_pat h3) .nil)))
theorem dp_ers {K : PySem.W.Frag} {H : Hp} : ∀ {es : List TEr} {vs : List V}, All2 (TErV H) es vs → DpAll K H vs (es.map pdE)
  | [], [], _ => .nil
  | e :: es, v :: vs, h => .cons (dp_er h.1) (dp_ers h.2)
  | [], _ :: _, h => h.elim
  | _ :: _, [], h => h.elim
theorem dp_bk {K : PySem.W.Frag} {H : Hp} {es : List TEr} {vs : List V} {p : Addr} (h : TBkAt H es vs p) : Dp K H (.ref p) (pdB es) := .tup (SqT.of h.1) (dp_ers h.2)
theorem shaped_bk {es : List TEr} (h : ∀ e ∈ es, AnE e) : SeqAt.shaped (pdB es) = true := by
  refine shaped_of (layAll fun d hd => ?_) (Nat.le_trans (depth_tup (m := 57) fun d hd => ?_) (by decide))
  · obtain ⟨e, he, rfl⟩ := List.mem_map.mp hd
    have g := h e he
    exact lay_cons (lay_str g.w) (lay_cons (layAll fun d hd => by
      obtain ⟨x, hx, rfl⟩ := List.mem_map.mp hd
      exact lay_str (g.ns x hx)) (lay_cons (lay_pdP g.kp) rfl))
  · obtain ⟨e, he, rfl⟩ := List.mem_map.mp hd
    have g := h e he
    refine depth_tup (m := 56) fun d hd => ?_
    rcases List.mem_cons.mp hd with z | z
    · rw [z]; exact dep_str
    · rcases List.mem_cons.mp z with z | z
      · rw [z]
        exact Nat.le_trans (depth_tup (m := 0) fun d hd => by
          obtain ⟨x, hx, rfl⟩ := List.mem_map.mp hd
          exact Nat.le_refl 0) (by decide)
      · rw [List.mem_singleton.mp z]
        have := depth_pdP g.kp
        have := g.cn
        omega
end KB

namespace KB
open PySem PySem.Spec PyProof.Rows L2 LamX NdefX

/-! ### what stays where tables of code objects may grow -/
def Sx (H H' : Hp) : Prop := ExtN H H' ∧ ∀ b, H' b = none → H b = none
theorem Sx.refl (H : Hp) : Sx H H := ⟨ExtN.refl H, fun _ z => z⟩
theorem Sx.trans {H H1 H2 : Hp} (a : Sx H H1) (b : Sx H1 H2) : Sx H H2 := ⟨a.1.trans b.1, fun x z => a.2 x (b.2 x z)⟩
theorem Sx.free {H H' : Hp} (s : Sx H H') {b : Addr} (z : H' b = none) : H b = none := s.2 b z
theorem Sx.at_ {H H' : Hp} (s : Sx H H') {b : Addr} {o : HO} (h : H b = some o) (n : ∀ ps, o ≠ .tbl ps) : H' b = some o := s.1 b o h n
theorem Sx.t {H H' : Hp} (s : Sx H H') {b : Addr} {xs : List V} (h : H b = some (.tup xs)) : H' b = some (.tup xs) := s.1 b _ h fun _ z => nomatch z
theorem Sx.l {H H' : Hp} (s : Sx H H') {b : Addr} {xs : List V} (h : H b = some (.lst xs)) : H' b = some (.lst xs) := s.1 b _ h fun _ z => nomatch z
theorem Sx.d {H H' : Hp} (s : Sx H H') {b : Addr} {kvs : List (Key × V)} (h : H b = some (.dK kvs)) : H' b = some (.dK kvs) := s.1 b _ h fun _ z => nomatch z
theorem Sx.tk {H H' : Hp} (s : Sx H H') : TK H H' := fun _ _ h => s.t h
theorem Sx.code {H H' : Hp} (s : Sx H H') {c : Addr} {q : Str} (h : H c = some (CodeO c q)) : H' c = some (CodeO c q) := s.1 c _ h codeO_ne
theorem sx_same {H H' : Hp} (s : Same H H') : Sx H H' := ⟨fun b o h _ => s b o h, fun b z => s.free z⟩
theorem sx_new {H : Hp} {p : Addr} (h : H p = none) (o : HO) : Sx H (upd H p o) := sx_same (same_new h o)
theorem sx_mut {H H' : Hp} (s : Sx H H') {a : Addr} (h : H a = none) (o : HO) : Sx H (upd H' a o) := by
  refine ⟨fun b u z n => ?_, fun b z => ?_⟩
  · rw [upd_ne (ne_of_none z h)]
    exact s.1 b u z n
  · by_cases e : b = a
    · rw [e]; exact h
    · rw [upd_ne e] at z
      exact s.2 b z
theorem tabs_new {T : List (Addr × Str)} {H H' : Hp} (t : Tabs T H) (s : Same H H') : Tabs T H' := t.ext fun b o h => s b o h
/-- nothing that is a table is written -/
theorem tabs_mut {T : List (Addr × Str)} {H : Hp} (t : Tabs T H) {a : Addr} {xs : List V} (h : H a = some (.lst xs)) (o : HO) : Tabs T (upd H a o) := fun p hp => by
  obtain ⟨ps, h1, h2, h3⟩ := t p hp
  refine ⟨ps, by rw [upd_ne (ne_of h1 h (fun z => nomatch z))]; exact h1, h2, fun pos cv hc => ?_⟩
  obtain ⟨c, e1, e2⟩ := h3 pos cv hc
  refine ⟨c, e1, ?_⟩
  rw [upd_ne (ne_of e2 h (fun z => by unfold CodeO at z; cases z))]
  exact e2
/-! ### a lambda with parameters -/
/-- its words, the cells that it captured, its code object -/
structure LF where
  qual : Str
  pr : Arguments
  bd : Expr
  sc : Scope
  cl : List (Str × Addr)
  c : Addr
abbrev LF.obj (F : LF) (pm ctv : Value) : Obj := PySem.W.kla_obj "<lambda>" F.qual F.pr F.bd F.sc F.cl pm F.c ctv
def LamO (f : Addr) (F : LF) : HO := .ext fun h => ∃ pm ctv : Value, h.get? f = some (F.obj pm ctv)
theorem lamO_ne {f : Addr} {F : LF} (ps : Array Value) : LamO f F ≠ .tbl ps := fun z => by
  unfold LamO at z
  cases z
theorem lamO_at {P : Program} {w : World} {H : Hp} {h : Heap} {f : Addr} {F : LF} (ok : HOk P w H h) (e : H f = some (LamO f F)) : ∃ pm ctv : Value, h.get? f = some (F.obj pm ctv) := (ok f _ e).1
/-- what is known of a lambda at f -/
def Kn (f : Addr) (F : LF) (H : Hp) : Prop := H f = some (LamO f F) ∧ H F.c = some (CodeO F.c F.qual)
theorem Kn.sx {f : Addr} {F : LF} {H H' : Hp} (s : Sx H H') (k : Kn f F H) : Kn f F H' := ⟨s.1 f _ k.1 lamO_ne, s.code k.2⟩
section
variable {X : Cx} {pins : List (Addr × Obj)} {σ : L2.St} {H : Hp} {s : Shared}
theorem inv_lam {F : LF} {pm ctv : Value} {t' : Nat} (I : Inv X pins σ H s) : Inv X pins σ (upd H s.heap.objs.size (LamO s.heap.objs.size F)) { s with heap := s.heap.push (F.obj pm ctv), toks := t' } := by
  have e : (s.heap.push (F.obj pm ctv)).get? s.heap.objs.size = some (F.obj pm ctv) := Heap.get?_push_size _ rfl
  exact I.laid (fun b u z => Heap.get?_push_of_some _ z) (Nat.le_refl _) ⟨⟨pm, ctv, e⟩, ⟨_, e⟩, fun h1 h2 z st => let ⟨p, t, y⟩ := z; ⟨p, t, st _ y⟩⟩
/-- the lambda is made; what was known stays, nothing that was known is gone -/
theorem lam_mk {T : List (Addr × Str)} {c P : Addr} {pr : Arguments} {bd : Expr} {sc : Scope} {pos : Pos} {E Q : Value → Shared → Prop} (I : Inv X pins σ H s) (TB : TabB X.base X.mg c P) (hcode : X.env.code = .ref c)
    (hm : (P, X.env.qual ++ "<lambda>") ∈ T) (hu : ∀ p ∈ T, p.1 = P → p.2 = X.env.qual ++ "<lambda>") (hT : Tabs T H) (hdef : defaultsOf pr X.env = ([], [])) (hfree : ∀ y ∈ sc.names, y.2 = .free → ∃ c, X.env.cells.lookup y.1 = some c)
    (h : ∀ (f c' : Addr) (H1 : Hp) (s' : Shared), Inv X pins σ H1 s' → Sx H H1 → Tabs T H1 → H f = none → Kn f ⟨X.env.qual ++ "<lambda>", pr, bd, sc, cloFrom X.env.cells sc.names [], c'⟩ H1 → Q (.ref f) s') :
    wpAny (model X.prog X.w) X.A (eval (.Lambda pr bd sc pos) X.env) Q E s := by
  obtain ⟨tb, kP, kt, ka⟩ := hT _ hm
  have heapP := I.hok P _ kP
  have heapP : s.heap.get? P = some { cls := .none, data := .fields tb } := heapP
  apply PySem.W.kla_eval hdef
  cases hc : codeAmong pos tb.toList with
  | some cv =>
    obtain ⟨c', rfl, known⟩ := ka pos cv hc
    apply PySem.W.kla_makeFunctionHit (mg := X.mg) (c := c) (P := P) (ps := tb) (closure_ok hfree) I.ok.glob (I.mod.glob.keeps I.bk) hcode (TB.code.keeps I.bk) heapP kt hc (TB.bm.keeps I.bk)
    intro ctv h' tk ext big
    have J : Inv X pins σ H { s with heap := h', toks := tk } := I.kept ext
    have nF : H h'.objs.size = none := J.hok.fresh (Nat.le_refl _)
    have up := sx_new nF (LamO h'.objs.size ⟨X.env.qual ++ "<lambda>", pr, bd, sc, cloFrom X.env.cells sc.names [], c'⟩)
    exact h h'.objs.size c' _ _ (inv_lam J) up (tabs_new hT (same_new nF _)) nF ⟨upd_same, up.code known⟩
  | none =>
    apply PySem.W.kla_makeFunction (mg := X.mg) (c := c) (P := P) (ps := tb) (closure_ok hfree) I.ok.glob (I.mod.glob.keeps I.bk) hcode (TB.code.keeps I.bk) heapP kt hc TB.gP (TB.bm.keeps I.bk)
    intro c' ctv h' tk ext lo hi rec tab
    obtain ⟨c2, oc, vs, t, e2, hoc, hd, hv⟩ := rec
    cases e2
    have newC : H c' = none := I.hok.fresh lo
    have J := inv_table (t' := tk) (more := #[rawInt pos.line, rawInt pos.col, .ref c']) (h' := h') (q := X.env.qual ++ "<lambda>") I kP (fun b o n e => ext b o n e) tab lo ⟨oc, vs, t, hoc, hd, hv⟩
    have up : Sx H (upd (upd H P (.tbl (tb ++ #[rawInt pos.line, rawInt pos.col, .ref c']))) c' (CodeO c' (X.env.qual ++ "<lambda>"))) := by
      refine ⟨fun b o e n => ?_, fun b e => upd_none (upd_none e)⟩
      have n1 : b ≠ c' := ne_of_none e newC
      have n2 : b ≠ P := fun z => by
        rw [z, kP] at e
        exact n tb (Option.some.inj e).symm
      rw [upd_ne n1, upd_ne n2]
      exact e
    have T1 : Tabs T (upd (upd H P (.tbl (tb ++ #[rawInt pos.line, rawInt pos.col, .ref c']))) c' (CodeO c' (X.env.qual ++ "<lambda>"))) := fun p hp => by
      by_cases hb : p.1 = P
      · rw [hu p hp hb, hb]
        have eL : (tb ++ #[rawInt pos.line, rawInt pos.col, Value.ref c']).toList = tb.toList ++ [rawInt pos.line, rawInt pos.col, .ref c'] := by simp
        refine ⟨_, (upd_ne (ne_of_none kP newC)).trans upd_same, by rw [eL]; exact PySem.TriplesOk_snoc _ _ _ _ kt, fun p' cv hcv => ?_⟩
        rw [eL] at hcv
        rcases among_app _ kt hcv with z | z
        · obtain ⟨c0, q1, q2⟩ := ka p' cv z
          exact ⟨c0, q1, up.code q2⟩
        · exact ⟨c', z, upd_same⟩
      · obtain ⟨ps', q1, q2, q3⟩ := hT p hp
        refine ⟨ps', (upd_ne (ne_of_none q1 newC)).trans ((upd_ne hb).trans q1), q2, fun pos' cv hcv => ?_⟩
        obtain ⟨c0, z1, z2⟩ := q3 pos' cv hcv
        exact ⟨c0, z1, up.code z2⟩
    have nF := J.hok.fresh (Nat.le_refl _)
    have up2 := sx_new nF (LamO h'.objs.size ⟨X.env.qual ++ "<lambda>", pr, bd, sc, cloFrom X.env.cells sc.names [], c'⟩)
    exact h h'.objs.size c' _ _ (inv_lam J) (up.trans up2) (tabs_new T1 (same_new nF _)) (up.free nF) ⟨upd_same, up2.code upd_same⟩
/-- a lambda, by what it leaves -/
def tLambda (T : List (Addr × Str)) (mk : Addr → LF) : TE := fun σ H Q => Tabs T H ∧ ∀ (f c' : Addr) (H1 : Hp), Sx H H1 → Tabs T H1 → H f = none → Kn f (mk c') H1 → Q (.ref f) H1
theorem pe_lambda {T : List (Addr × Str)} {c P : Addr} {pr : Arguments} {bd : Expr} {sc : Scope} {pos : Pos} (TB : TabB X.base X.mg c P) (hcode : X.env.code = .ref c) (hm : (P, X.env.qual ++ "<lambda>") ∈ T) (hu : ∀ p ∈ T, p.1 = P → p.2 = X.env.qual ++ "<lambda>")
    (hdef : defaultsOf pr X.env = ([], [])) (hfree : ∀ y ∈ sc.names, y.2 = .free → X.env.scope.names.lookup y.1 = some .cell ∨ X.env.scope.names.lookup y.1 = some .free) :
    PE X (.Lambda pr bd sc pos) (tLambda T fun c' => ⟨X.env.qual ++ "<lambda>", pr, bd, sc, cloFrom X.env.cells sc.names [], c'⟩) := by
  refine ⟨fun pins s σ H Q I h => ?_⟩
  obtain ⟨hT, h⟩ := h
  have hfr : ∀ y ∈ sc.names, y.2 = .free → ∃ c, X.env.cells.lookup y.1 = some c := fun y hy e => (hfree y hy e).elim (fun z => I.ok.has _ (.inl z)) fun z => I.ok.has _ (.inr z)
  exact lam_mk I TB hcode hm hu hT hdef hfr fun f c' H1 s' J up T1 nf kn => ⟨.ref f, H1, J, rfl, h f c' H1 up T1 nf kn⟩
end
/-- that a lambda stands at f from (s, H) on, as long as kn: what the def that got it may lean on -/
structure LamAt (P : Program) (w : World) (K : PySem.W.Frag) (mg : Str → Option Value) (base : Heap) (fs : List Addr) (k : Nat) (f : Addr) (kn : Hp → Prop) (sp : List V → Hp → VK → Prop) (s : Shared) (H : Hp) : Prop where
  kp : ∀ H1 H2, Sx H1 H2 → kn H1 → kn H2
  fn : ∀ (s1 : Shared) (H1 : Hp), HOk P w H1 s1.heap → kn H1 → PySem.W.FnAt f s1.heap
  run : ∀ (A : Around) (outer : List Env) (s1 : Shared) (H1 : Hp) (us : List Value) (vs : List V) (Q : VK), Room k A → Env0 P w K mg base A outer s1 H1 → Un fs [] H H1 s.heap s1.heap → kn H1 → Vals vs us → sp vs H1 Q →
    codeAny (model P w) A (.call (.ref f) ⟨us, []⟩) (CR CX0 outer P w H1 s1 Q E0) s1
theorem cells_un {cl : List (Str × Addr)} {fr : List Str} {ws : List (Option V)} {fs : List Addr} {h h1 : Heap} {H H1 : Hp} (C : CellsAt cl fr ws h H) (un : Un fs [] H H1 h h1) : CellsAt cl fr ws h1 H1 := by
  have kp : ∀ y c, cl.lookup y = some c → ∀ v, h.IsCell c v → h1.IsCell c v := fun y c e v ⟨o, ho, hd⟩ => by
    obtain ⟨sl, q⟩ := un.any ho (C.all y c e).1 (by simp)
    exact ⟨_, q, hd⟩
  refine ⟨C.len, fun y c e => ?_, C.inj, fun i y e => ?_⟩
  · obtain ⟨n, v, z⟩ := C.all y c e
    refine ⟨?_, v, kp y c e v z⟩
    obtain ⟨o, ho, _⟩ := z
    exact un.free c o ho n (by simp)
  · obtain ⟨c, hc, hv⟩ := C.has i y e
    refine ⟨c, hc, fun v ev => ?_⟩
    obtain ⟨u, r, z⟩ := hv v ev
    exact ⟨u, r, kp y c hc _ z⟩
section
variable {X : Cx} {pins : List (Addr × Obj)} {σ : L2.St} {H : Hp} {s : Shared}
theorem lam_at {N ps fr : List Str} {js : List Nat} {k : Nat} {f : Addr} {F : LF} {tb : TE} (I : Inv X pins σ H s) (S : NScope N ps fr F.sc) (cp : Caps X F.cl fr js)
    (hbind : ∀ (pm ctv : Value) (us : List Value), us.length = ps.length → bindArgs (PySem.W.kla_fn "<lambda>" F.qual F.pr F.bd F.sc F.cl pm (.ref F.c) ctv) ⟨us, []⟩ = pure (ps.zip us))
    (hb : ∀ (A : Around) (outer : List Env) (s1 : Shared) (H1 : Hp), Room k (A.deeper (envF ⟨"<lambda>", F.qual, F.pr, [], F.sc, F.cl, F.c⟩ f s1.heap.objs.size)) →
      PE (ncx CX0 X.prog X.w X.K X.mg X.base N ⟨"<lambda>", F.qual, F.pr, [], F.sc, F.cl, F.c⟩ f A outer s1 H1 E0) F.bd tb) :
    LamAt X.prog X.w X.K X.mg X.base (frs X.stack) (k + 1) f (Kn f F) (fun vs H1 Q => vs.length = ps.length ∧ tb (startF N vs (js.map (slotAt σ))) H1 Q) s H := by
  refine ⟨fun H1 H2 sx kn => kn.sx sx, fun s1 H1 ok kn => ?_, fun A outer s1 H1 us vs Q hr e0 un kn r hsp => ?_⟩
  · obtain ⟨pm, ctv, e⟩ := lamO_at ok kn.1
    exact ⟨_, _, _, _, e⟩
  obtain ⟨hl, ht⟩ := hsp
  obtain ⟨pm, ctv, e⟩ := lamO_at e0.hok kn.1
  have lim : s1.heap.NoLimit := e0.mod.nolimit.keeps fun b o e => (e0.bs b o e).1
  have C := cells_un (cells_of I cp) un
  refine PySem.W.kla_callFunE hr.depth e rfl S.co S.gen rfl (codeO_at e0.hok kn.2) ?_
  rw [hbind pm ctv us (by rw [← r.length]; exact hl)]
  refine wpAny_pure (wpAny_newFunctionEnv S.nocell (fun y hy => S.par y.1 (List.of_mem_zip hy).1) (fun h1 ns sb => ⟨lim.fresh _ sb, ?_⟩) S.kind)
  show codeAny _ _ (.expr F.bd (envF ⟨"<lambda>", F.qual, F.pr, [], F.sc, F.cl, F.c⟩ f s1.heap.objs.size)) _ _
  have kp : ∀ b o, s1.heap.get? b = some o → h1.get? b = some o := fun b o e => sb.extBut b o (Nat.ne_of_lt (Heap.lt_size e)) (Heap.get?_push_of_some _ e)
  have J : Inv (ncx CX0 X.prog X.w X.K X.mg X.base N ⟨"<lambda>", F.qual, F.pr, [], F.sc, F.cl, F.c⟩ f A outer s1 H1 E0) [] (startF N vs (js.map (slotAt σ))) H1 { s1 with heap := h1, toks := s1.toks + (ps.zip us).length } := inv_startN S hr.hd e0 hl r C ns kp
  refine PySem.W.kla_codeExpr (wpAny_mono ((hb A outer s1 H1 (hr.deeper _)).run [] _ _ H1 Q J ht) (fun v s' z => ?_) fun e s' z => z)
  obtain ⟨x, H2, J2, rv, qv⟩ := z
  exact ⟨x, H2, J2.os, J2.bare, J2.base, J2.hok, rv, qv⟩
end
/-! ### a parameter that holds a lambda, called -/
def tCallM (i : Nat) (f : Addr) (kn : Hp → Prop) (sp : List V → Hp → VK → Prop) (t : TA) : TE := fun σ H Q => (σ[i]? = some (some (.ref f)) ∧ kn H) ∧ t σ H fun vs H1 => kn H1 ∧ sp vs H1 Q
theorem pe_callM {CX : CXT} {P : Program} {w : World} {K : PySem.W.Frag} {mg : Str → Option Value} {base : Heap} {N : List Str} {x a : Str} {sg : Scope} {g f : Addr} {cd : Value} {A : Around} {outer : List Env} {s : Shared} {H : Hp} {E : XK} {k i : Nat} {kn : Hp → Prop} {sp : List V → Hp → VK → Prop} {t : TA} {e : Expr} {es : List Expr} {p pos : Pos}
    (L : LamAt P w K mg base (frs outer) k f kn sp s H) (hr : Room k (A.deeper (envOfC x sg s.heap.objs.size g cd))) (hN : N[i]? = some a) (hv : Vis sg a) (ha : PA (cxOf CX P w K mg base N x sg g cd A outer s H E).nox (e :: es) t)
    (hd : (a == ("__debug__" : Str)) = false := by decide) (hcd : (a == ("__classdict__" : Str)) = false := by decide)
    (he : starEach (e :: es) (cxOf CX P w K mg base N x sg g cd A outer s H E).nox.env = (false, eval e (cxOf CX P w K mg base N x sg g cd A outer s H E).nox.env) :: starEach es (cxOf CX P w K mg base N x sg g cd A outer s H E).nox.env := by rfl)
    (hpl : (backTo pos (starEach es (cxOf CX P w K mg base N x sg g cd A outer s H E).nox.env)).any (·.1) = false := by rfl) :
    PE (cxOf CX P w K mg base N x sg g cd A outer s H E).nox (.Call (.Name a p) (e :: es) [] pos) (tCallM i f kn sp t) := by
  refine ⟨fun pins s0 σ H0 Q I h => ?_⟩
  obtain ⟨⟨hs, hkn⟩, ht⟩ := h
  refine wpAny_Call_Name_kw (thn ((pe_var (pos := p) hN hv hd hcd).run pins s0 σ H0 (fun v H1 => v = .ref f ∧ H1 = H0) I ⟨.ref f, hs, rfl, rfl⟩) fun u s1 z => ?_)
  obtain ⟨v, H1, I1, r1, rfl, rfl⟩ := z
  obtain rfl : u = Value.ref f := r1
  refine PySem.W.callWith_F (first := []) (L.fn s1 _ I1.hok hkn) (thn (ha.run pos pins s1 σ _ _ I1 ht) fun us s2 z => ?_) he hpl
  obtain ⟨vs, H2, I2, r, hkn2, q⟩ := z
  refine ⟨L.fn s2 H2 I2.hok hkn2, wpAny_call (codeAny_mono (L.run _ _ s2 H2 us vs Q hr I2.env0 I2.base hkn2 r q) fun res s' y => ?_)⟩
  match res, y with
  | .ok (.ret u), y => exact I2.after y
  | .ok .next, y => exact False.elim y
  | .ok .brk, y => exact False.elim y
  | .ok .cont, y => exact False.elim y
  | .error _, y => exact False.elim y
/-! ### a def that is handed a lambda -/
/-- what is promised of a def whose parameter is a lambda: by the lambda's promise -/
abbrev SpL := Addr → (Hp → Prop) → (List V → Hp → VK → Prop) → Sp
structure FnL (P : Program) (w : World) (K : PySem.W.Frag) (mg : Str → Option Value) (base : Heap) (kl k : Nat) (f : Addr) (fd : FuncData) (ps : List Str) (sp : SpL) : Prop where
  ln : ∀ fl kn sl vs H Q E, sp fl kn sl vs H Q E → vs.length = ps.length
  go : ∀ (A : Around) (outer : List Env) (s : Shared) (H : Hp) (us : List Value) (vs : List V) (Q : VK) (fl : Addr) (kn : Hp → Prop) (sl : List V → Hp → VK → Prop), Room (k + kl) A → Env0 P w K mg base A outer s H → LamAt P w K mg base (frs outer) kl fl kn sl s H → BindsTo s fd ⟨us, []⟩ (ps.zip us) → Vals vs us → sp fl kn sl vs H Q E0 →
    codeAny (model P w) A (.call (.ref f) ⟨us, []⟩) (CR CX0 outer P w H s Q E0) s
theorem okL {P : Program} {w : World} {K : PySem.W.Frag} {mg : Str → Option Value} {base : Heap} {x qual : Str} {st : Stmt} {f : Addr} {fd : FuncData} {N ps : List Str} {kl k : Nat} {sp : SpL} (F : L2.Fun K x qual st f fd) (S : FnScope N ps (defScope st)) (len : ∀ fl kn sl vs H Q E, sp fl kn sl vs H Q E → vs.length = ps.length)
    (hb : ∀ (cdv : Value) (A : Around) (outer : List Env) (s : Shared) (H : Hp) (vs : List V) (Q : VK) (fl : Addr) (kn : Hp → Prop) (sl : List V → Hp → VK → Prop), Room (k + kl) (A.deeper (envOfC qual (defScope st) s.heap.objs.size f cdv)) → LamAt P w K mg base (frs outer) kl fl kn sl s H → sp fl kn sl vs H Q E0 →
      ∃ t, PSs (cxOf CX0 P w K mg base N qual (defScope st) f cdv A outer s H E0).nox (defBody st) t ∧ t { nx := fun _ H' => Q .non H', rt := Q } (start N vs) H) : FnL P w K mg base kl (k + 1) f fd ps sp := by
  obtain ⟨_, _, _, _, _, _, cv, _, _, rfl, look, code⟩ := F.ex
  refine ⟨len, fun A outer s H us vs Q fl kn sl room e0 L bnd rel want => ?_⟩
  have grow := fun b u e => (e0.bs b u e).1
  have inK : K.In s.heap := e0.mod.kin.keeps grow
  have nolim : s.heap.NoLimit := e0.mod.nolimit.keeps grow
  have room' : Room (k + kl + 1) A := room.mono (by omega)
  apply codeAny_call_function room.depth (inK _ _ look) rfl S.co S.gen rfl (PySem.W.codeRec_of inK code)
  apply bnd
  apply wpAny_newFunctionEnv_cells S.kind
  · rintro ⟨n, v⟩ hy
    cases S.par n (List.of_mem_zip hy).1 with
    | inl q => exact Or.inl q
    | inr q => exact Or.inr ⟨q, PySem.W.cellsFrom_some _ _ _ (Or.inl q)⟩
  intro env he s1 z
  subst he
  refine ⟨nolim.keeps z.toInCall.keep, codeAny_func ?_⟩
  obtain ⟨t, ht, hq⟩ := hb cv A outer s H vs Q fl kn sl (room'.deeper _) L want
  apply wpAny_mono (ht.nox.run [] s1 (start N vs) H _ (inv_start S room.hd e0 (len _ _ _ _ _ _ _ want) rel z) hq)
  · intro fl s' z
    cases fl with
    | ret u =>
      obtain ⟨v, σ', H', J, rv, q⟩ := z
      exact ⟨v, H', J.os, J.bare, J.base, J.hok, rv, q⟩
    | next =>
      obtain ⟨σ', H', J, q⟩ := z
      exact ⟨.non, H', J.os, J.bare, J.base, J.hok, rfl, q⟩
    | brk => exact z.choose_spec.choose_spec.2.elim
    | cont => exact z.choose_spec.choose_spec.2.elim
  · intro e s' z
    exact z
/-- a def called with a lambda among what it is handed -/
def tCallLm (N : List Str) (n : Nat) (js : List Nat) (tb : TE) (mk : Addr → LF) (sp : SpL) (t : TA) : TE := fun σ H Q => t σ H fun vs H1 => ∃ f c', Kn f (mk c') H1 ∧ sp f (Kn f (mk c')) (fun us H2 Q' => us.length = n ∧ tb (startF N us (js.map (slotAt σ))) H2 Q') vs H1 Q E0
theorem pe_callLm {X : Cx} {kl k : Nat} {g : Addr} {gd : FuncData} {gps : List Str} {sp : SpL} {x : Str} {p pos : Pos} {e : Expr} {es : List Expr} {t : TA} {N ps fr : List Str} {js : List Nat} {mk : Addr → LF} {tb : TE}
    (G : FnL X.prog X.w X.K X.mg X.base (kl + 1) k g gd gps sp) (hr : Room (k + (kl + 1)) X.A) (hg : Gl X x) (hm : X.mg x = some (.ref g)) (hk : PySem.W.keepIn X.K (.ref g) = true) (hbg : Binds X.K gd gps []) (ha : PA X (e :: es) t)
    (S : ∀ c', NScope N ps fr (mk c').sc) (cp : X.Ok → ∀ c', Caps X (mk c').cl fr js)
    (hbind : ∀ (c' : Addr) (pm ctv : Value) (us : List Value), us.length = ps.length → bindArgs (PySem.W.kla_fn "<lambda>" (mk c').qual (mk c').pr (mk c').bd (mk c').sc (mk c').cl pm (.ref (mk c').c) ctv) ⟨us, []⟩ = pure (ps.zip us))
    (hb : ∀ (f c' : Addr) (A : Around) (outer : List Env) (s1 : Shared) (H1 : Hp), Room kl (A.deeper (envF ⟨"<lambda>", (mk c').qual, (mk c').pr, [], (mk c').sc, (mk c').cl, (mk c').c⟩ f s1.heap.objs.size)) →
      PE (ncx CX0 X.prog X.w X.K X.mg X.base N ⟨"<lambda>", (mk c').qual, (mk c').pr, [], (mk c').sc, (mk c').cl, (mk c').c⟩ f A outer s1 H1 E0) (mk c').bd tb)
    (hdb : (x == ("__debug__" : Str)) = false := by decide) (he : starEach (e :: es) X.env = (false, eval e X.env) :: starEach es X.env := by rfl) (hpl : (backTo pos (starEach es X.env)).any (·.1) = false := by rfl) :
    PE X (.Call (.Name x p) (e :: es) [] pos) (tCallLm N ps.length js tb mk sp t) := by
  refine ⟨fun pins s σ H Q I h => ?_⟩
  apply wpAny_Call_Name_kw (ld_glob I hg hm ?_ hdb)
  apply PySem.W.callWith_K (h₀ := X.base) I.ok.mod.kin hk ?_ he hpl
  apply thn (ha.run pos pins s σ H _ I h)
  rintro us s1 ⟨vs, H1, I1, rv, f, c', kn, want⟩
  refine ⟨I1.kIn, ?_⟩
  have L := lam_at (k := kl) I1 (S c') (cp I1.ok c') (hbind c') (fun A outer s2 H2 room => hb f c' A outer s2 H2 room)
  have hl : (us ++ []).length = gps.length := by
    rw [List.append_nil, ← rv.length]
    exact G.ln _ _ _ _ _ _ _ want
  have bd := hbg s1 us I1.kIn hl
  rw [List.append_nil] at bd
  apply wpAny_call
  apply codeAny_mono (G.go X.A X.stack s1 H1 us vs Q f _ _ hr I1.env0 L bd rv want)
  intro res s' q
  match res, q with
  | .ok (.ret u), q => exact I1.after q
  | .ok .next, q => exact False.elim q
  | .ok .brk, q => exact False.elim q
  | .ok .cont, q => exact False.elim q
  | .error e, q => exact False.elim q
end KB

namespace KB
open PySem L2 HT

theorem All2.take {α : Type} {S : α → V → Prop} : ∀ {as : List α} {vs : List V} (n : Nat), All2 S as vs → All2 S (as.take n) (vs.take n)
  | _, _, 0, _ => trivial
  | [], [], _ + 1, _ => trivial
  | a :: as, v :: vs, n + 1, h => ⟨h.1, All2.take n h.2⟩
  | [], _ :: _, _ + 1, h => h.elim
  | _ :: _, [], _ + 1, h => h.elim
theorem All2.drop {α : Type} {S : α → V → Prop} : ∀ {as : List α} {vs : List V} (n : Nat), All2 S as vs → All2 S (as.drop n) (vs.drop n)
  | _, _, 0, h => h
  | [], [], _ + 1, _ => trivial
  | a :: as, v :: vs, n + 1, h => All2.drop n h.2
  | [], _ :: _, _ + 1, h => h.elim
  | _ :: _, [], _ + 1, h => h.elim
/-! ### remade as a machine of data -/
section
variable {N B : Type} (R : Tre N) (g : N → List B → B) (F : N → B)
def rmX : List (N × Bool) → List B → List B
  | [], G => G
  | (n, false) :: r, G => rmX r (G ++ [F n])
  | (n, true) :: r, G => rmX r (G.take (G.length - (R.kids n).length) ++ [g n (G.drop (G.length - (R.kids n).length))])
def rmV : List (N × Bool) → Nat → Prop
  | [], m => m = 1
  | (n, false) :: r, m => rmV r (m + 1)
  | (n, true) :: r, m => (R.kids n).length ≤ m ∧ rmV r (m - (R.kids n).length + 1)
def rmW : List (N × Bool) → Nat
  | [] => 0
  | (n, false) :: r => 2 * R.sz n + rmW r
  | (n, true) :: r => 1 + rmW r
def kidsF (ks : List N) : List (N × Bool) := ks.map fun n => (n, false)
theorem rmX_kids (r : List (N × Bool)) : ∀ (ks : List N) (G : List B), rmX R g F (kidsF ks ++ r) G = rmX R g F r (G ++ ks.map F)
  | [], G => by
    show rmX R g F r G = rmX R g F r (G ++ [])
    rw [List.append_nil]
  | k :: ks, G => by
    show rmX R g F (kidsF ks ++ r) (G ++ [F k]) = _
    rw [rmX_kids r ks, List.append_assoc]
    rfl
theorem rmV_kids (r : List (N × Bool)) : ∀ (ks : List N) (m : Nat), rmV R r (m + ks.length) → rmV R (kidsF ks ++ r) m
  | [], m, h => h
  | k :: ks, m, h => by
    show rmV R (kidsF ks ++ r) (m + 1)
    refine rmV_kids r ks (m + 1) ?_
    have e : m + 1 + ks.length = m + (k :: ks).length := by rw [List.length_cons]; omega
    rw [e]
    exact h
theorem rmW_kids (r : List (N × Bool)) : ∀ ks : List N, rmW R (kidsF ks ++ r) = 2 * R.szs ks + rmW R r
  | [] => (Nat.zero_add _).symm
  | k :: ks => by
    show 2 * R.sz k + rmW R (kidsF ks ++ r) = _
    rw [rmW_kids r ks, R.szs_cons]
    omega
theorem rmW_len : ∀ r : List (N × Bool), r.length ≤ rmW R r
  | [] => Nat.le_refl _
  | (n, false) :: r => by
    have := rmW_len r
    have := R.pos n
    show r.length + 1 ≤ 2 * R.sz n + rmW R r
    omega
  | (n, true) :: r => by
    have := rmW_len r
    show r.length + 1 ≤ 1 + rmW R r
    omega
theorem rmX_open (hF : ∀ n, F n = g n ((R.kids n).map F)) (n : N) (r : List (N × Bool)) (G : List B) : rmX R g F (kidsF (R.kids n) ++ (n, true) :: r) G = rmX R g F ((n, false) :: r) G := by
  rw [rmX_kids]
  show rmX R g F r ((G ++ (R.kids n).map F).take ((G ++ (R.kids n).map F).length - (R.kids n).length) ++ [g n ((G ++ (R.kids n).map F).drop ((G ++ (R.kids n).map F).length - (R.kids n).length))]) = rmX R g F r (G ++ [F n])
  have e : (G ++ (R.kids n).map F).length - (R.kids n).length = G.length := by
    rw [List.length_append, List.length_map]
    omega
  rw [e, List.take_left, List.drop_left, ← hF]
theorem rmV_open {n : N} {r : List (N × Bool)} {m : Nat} (h : rmV R ((n, false) :: r) m) : rmV R (kidsF (R.kids n) ++ (n, true) :: r) m := by
  refine rmV_kids R _ _ _ ⟨Nat.le_add_left _ _, ?_⟩
  rw [Nat.add_sub_cancel]
  exact h
end
section
variable {P : Program} {w : World} {K : PySem.W.Frag} {mg : Str → Option Value} {base : Heap} {N B : Type}
/-- what a function promises that makes one thing of a part and what its parts came to -/
def spMade (R : Tre N) (S : Hp → B → V → Prop) (g : N → List B → B) : Sp := fun vs H Q _ => ∃ (n : N) (a q : Addr) (bs : List B) (us : List V), vs = [.ref a, .ref q] ∧ R.A H n a ∧ H q = some (.tup us) ∧ All2 (S H) bs us ∧ bs.length = (R.kids n).length ∧
  ∀ v H', Same H H' → S H' (g n bs) v → Q v H'
def WtV (R : Tre N) (H : Hp) (e : N × Bool) (v : V) : Prop := ∃ q a, v = .ref q ∧ H q = some (.tup [.ref a, .bl e.2]) ∧ R.A H e.1 a
theorem WtV.tk {R : Tre N} {H H' : Hp} (k : TK H H') {e : N × Bool} {v : V} (h : WtV R H e v) : WtV R H' e v := let ⟨q, a, e1, h1, h2⟩ := h; ⟨q, a, e1, k _ _ h1, R.tk k h2⟩
def spRem (R : Tre N) (S : Hp → B → V → Prop) (F : N → B) (gp gm : Addr) : Sp := fun vs H Q _ => ∃ (n : N) (a : Addr), vs = [.ref a, .ref gp, .ref gm] ∧ R.A H n a ∧ R.sz n ≤ 5000 ∧ ∀ v H', Same H H' → S H' (F n) v → Q v H'
abbrev sremade : Stmt := top 2
theorem scremade : FnScope ["body", "parts", "made", "got", "waiting", "part", "are_parts_done", "own", "one"] ["body", "parts", "made"] (defScope sremade) := ⟨rfl, rfl, rfl, by decide +kernel, rfl, by decide +kernel, by decide +kernel⟩
def RemX (R : Tre N) (S : Hp → B → V → Prop) (g : N → List B → B) (F : N → B) (J : Hp → Prop) (H : Hp) (a gp gm fl wl : Addr) (n : N) (m : Nat) (σ : St) (H' : Hp) : Prop :=
  ∃ o5 o6 o7 o8 rs gs es bs, σ = [some (.ref a), some (.ref gp), some (.ref gm), some (.ref fl), some (.ref wl), o5, o6, o7, o8] ∧ Sx H H' ∧ J H' ∧ H' fl = some (.lst gs) ∧ All2 (S H') bs gs ∧ H' wl = some (.lst (List.reverse rs)) ∧ All2 (WtV R H') es rs ∧
  m = rmW R es ∧ bs.length + rmW R es ≤ 2 * R.sz n ∧ rmV R es bs.length ∧ rmX R g F es bs = [F n]
/-- what stays of what a def leans on -/
structure Jx (J : Hp → Prop) : Prop where
  sm : ∀ {H H' : Hp}, Same H H' → J H → J H'
  mu : ∀ {H : Hp} {a : Addr} {xs : List V} {o : HO}, H a = some (.lst xs) → J H → J (upd H a o)
/-- remade, where what is made of a part may fill tables -/
def spRemX (R : Tre N) (S : Hp → B → V → Prop) (g : N → List B → B) (F : N → B) (J : Hp → Prop) (gp : Addr) : SpL := fun gm kn sl vs H Q _ => ∃ (n : N) (a : Addr), vs = [.ref a, .ref gp, .ref gm] ∧ kn H ∧ J H ∧ R.A H n a ∧ R.sz n ≤ 5000 ∧
  (∀ (H1 : Hp) (m : N) (b q : Addr) (bs : List B) (us : List V) (Q' : VK), Sx H H1 → kn H1 → J H1 → R.A H1 m b → H1 q = some (.tup us) → All2 (S H1) bs us → bs.length = (R.kids m).length → (∀ v H2, Sx H1 H2 → J H2 → S H2 (g m bs) v → Q' v H2) → sl [.ref b, .ref q] H1 Q') ∧
  ∀ v H', Sx H H' → J H' → S H' (F n) v → Q v H'
theorem body_remade (R : Tre N) (S : Hp → B → V → Prop) (g : N → List B → B) (Fv : N → B) (hF : ∀ n, Fv n = g n ((R.kids n).map Fv)) (tS : ∀ {H H' : Hp} {b : B} {v : V}, TK H H' → S H b v → S H' b v) {J : Hp → Prop} (jx : Jx J) (T : Txt K mg) {k1 : Nat} {f gp gm f3 : Addr} {gd d3 : FuncData} {x : Str}
    (GKIDS : FnOk P w K mg base CX0 k1 gp gd [x] (spKids R)) (kk : PySem.W.keepIn K (.ref gp) = true) (bb : Binds K gd [x] []) (Glast_taken : FnOk P w K mg base CX0 1 f3 d3 ["got", "many"] spLast) (Rlast_taken : Ref K mg "last_taken" f3 d3 ["got", "many"])
    {kn : Hp → Prop} {sl : List V → Hp → VK → Prop} (kp : ∀ H1 H2, Sx H1 H2 → kn H1 → kn H2) {cdv : Value} {A : Around} {outer : List Env} {s : Shared} {H : Hp} {vs : List V} {Q : VK} {E : XK} (hr : Room (k1 + 1) (A.deeper (PyProof.Rows.envOfC "remade" (defScope sremade) s.heap.objs.size f cdv)))
    (hcall : ∀ {t : TA} {e : Expr} {es : List Expr} {p pos : Pos}, PA (cxOf CX0 P w K mg base ["body", "parts", "made", "got", "waiting", "part", "are_parts_done", "own", "one"] "remade" (defScope sremade) f cdv A outer s H E).nox (e :: es) t →
      starEach (e :: es) (cxOf CX0 P w K mg base ["body", "parts", "made", "got", "waiting", "part", "are_parts_done", "own", "one"] "remade" (defScope sremade) f cdv A outer s H E).nox.env = (false, eval e (cxOf CX0 P w K mg base ["body", "parts", "made", "got", "waiting", "part", "are_parts_done", "own", "one"] "remade" (defScope sremade) f cdv A outer s H E).nox.env) :: starEach es (cxOf CX0 P w K mg base ["body", "parts", "made", "got", "waiting", "part", "are_parts_done", "own", "one"] "remade" (defScope sremade) f cdv A outer s H E).nox.env →
      (backTo pos (starEach es (cxOf CX0 P w K mg base ["body", "parts", "made", "got", "waiting", "part", "are_parts_done", "own", "one"] "remade" (defScope sremade) f cdv A outer s H E).nox.env)).any (·.1) = false →
      PE (cxOf CX0 P w K mg base ["body", "parts", "made", "got", "waiting", "part", "are_parts_done", "own", "one"] "remade" (defScope sremade) f cdv A outer s H E).nox (.Call (.Name "made" p) (e :: es) [] pos) (tCallM 2 gm kn sl t))
    (h : spRemX R S g Fv J gp gm kn sl vs H Q E0) : ∃ t, PSs (cxOf CX0 P w K mg base ["body", "parts", "made", "got", "waiting", "part", "are_parts_done", "own", "one"] "remade" (defScope sremade) f cdv A outer s H E).nox (defBody sremade) t ∧ t { nx := fun _ H' => Q .non H', rt := Q } (start ["body", "parts", "made", "got", "waiting", "part", "are_parts_done", "own", "one"] vs) H := by
  obtain ⟨n, a, rfl, hkn, hJ, hA, hz, hM, q⟩ := h
  refine ⟨_, (pss_cons (ps_set (i := 3) scremade.nd rfl (Or.inl rfl) (pe_lst pa_nil))
    (pss_cons (ps_set (i := 4) scremade.nd rfl (Or.inl rfl) (pe_lst (pa_cons (pe_tup (pa_cons (pv 0) (pa_cons pe_bl pa_nil))) pa_nil)))
    (pss_cons (ps_while PassesOwn.never (pt_truth (pv 4) (by intro _; rfl)) (pss_cons (ps_asg (pe_bm0 PySem.F.plainAttrs_list PySem.F.slot_list_pop PySem.F.type_list_pop mt_pop (pv 4)) (pg_tup rfl (pgs_cons (pg_name (i := 5) scremade.nd rfl (Or.inl rfl)) (pgs_cons (pg_name (i := 6) scremade.nd rfl (Or.inl rfl)) pgs_nil))))
    (pss_cons (ps_set (i := 7) scremade.nd rfl (Or.inl rfl) (pe_callL (i := 1) GKIDS (hr.mono (by omega)) rfl (.inl rfl) kk bb .nil pass0 (pa_cons (pv 5) pa_nil)))
    (pss_one (ps_if (pt_val (pv 6)) (pss_one (ps_expr (pe_bm PySem.F.plainAttrs_list PySem.F.slot_list_append PySem.F.type_list_append mt_append (pv 3) (pa_cons (hcall (pa_cons (pv 5) (pa_cons (pe_call Glast_taken (hr.mono (by omega)) rfl Rlast_taken.m Rlast_taken.k Rlast_taken.b .nil pass0 (pa_cons (pv 3) (pa_cons (pe_callB call_len_seq (by rfl) T.m_len PySem.boot_len (pa_cons (pv 7) pa_nil)) pa_nil))) pa_nil)) (by rfl) (by rfl)) pa_nil)))) (pss_cons (ps_expr (pe_bm PySem.F.plainAttrs_list PySem.F.slot_list_append PySem.F.type_list_append mt_append (pv 4) (pa_cons (pe_tup (pa_cons (pv 5) (pa_cons pe_bl pa_nil))) pa_nil)))
    (pss_one (ps_expr (pe_bm PySem.F.plainAttrs_list PySem.F.slot_list_extend PySem.F.type_list_extend mt_extend (pv 4) (pa_cons (pe_lc (own := [("one", 8)]) (g := gName 8) (by rfl) scremade.nd (pi_tup (pe_revT (pv 7) (po_some (pe_un un_neg pe_int)))) (blkOk_by (own := [("one", 8)]) (N := ["body", "parts", "made", "got", "waiting", "part", "are_parts_done", "own", "one"]) (sc := defScope sremade) (by decide +kernel)) (fun _ _ _ _ _ => (pg_name (i := 8) scremade.nd rfl (Or.inl rfl))) (fun _ _ _ _ _ => pts_nil) (fun _ _ _ _ _ => (pe_tup (pa_cons (pv 8) (pa_cons pe_bl pa_nil))))) pa_nil))))))))))
    (pss_one (ps_ret (pe_bm0 PySem.F.plainAttrs_list PySem.F.slot_list_pop PySem.F.type_list_pop mt_pop (pv 3))))))), ?_⟩
  refine ⟨sz (by show 0 ≤ 100000; decide), fun fl hfl => ?_⟩
  have s0 := same_new hfl (.lst [])
  have f0 : upd H fl (.lst []) fl = some (.lst []) := upd_same
  refine ⟨_, rfl, sz (by show 2 ≤ 100000; decide), fun p0 hp0 => ?_⟩
  have s1 := same_new hp0 (.tup [.ref a, .bl false])
  refine ⟨sz (by show 1 ≤ 100000; decide), fun wl hwl => ?_⟩
  have s2 := same_new hwl (.lst [.ref p0])
  have s12 := s1.trans s2
  have hwf : fl ≠ wl := ne_of_none (s1 _ _ f0) hwl
  have sA := s0.trans s12
  have hpos := R.pos n
  refine ⟨RemX R S g Fv J H a gp gm fl wl n, ⟨_, none, none, none, none, [.ref p0], [], [(n, false)], [], rfl, sx_same sA, jx.sm sA hJ, s12 _ _ f0, trivial, upd_same, ⟨⟨p0, a, rfl, s2 _ _ upd_same, R.tk (tk_same sA) hA⟩, trivial⟩, rfl, ?_, rfl, rfl⟩, ?_⟩
  · show 0 + (2 * R.sz n + 0) ≤ 2 * R.sz n
    omega
  have hw0 : H wl = none := (s0.trans s1).free hwl
  clear s0 f0 s1 hp0 hwl s2 s12 sA
  rintro m σ H1 ⟨o5, o6, o7, o8, rs, gs, es, bs, rfl, s1, j1, h1, k1, h2, k2, rfl, hm, hv, hx⟩
  refine ⟨_, rfl, _, .inl ⟨_, SqL.of h2, rfl⟩, ?_⟩
  cases rs with
  | nil =>
    cases es with
    | cons _ _ => exact k2.elim
    | nil =>
      have e : bs = [Fv n] := hx
      subst e
      match gs, k1 with
      | [v], ⟨hv1, _⟩ =>
        refine itF rfl ⟨_, rfl, .inl ⟨rfl, _, SqL.of h1⟩, fl, _, v, rfl, rfl, h1, rfl, ?_⟩
        exact q _ _ (sx_mut s1 hfl _) (jx.mu h1 j1) (tS (tk_put h1) hv1)
  | cons r rs =>
    cases es with
    | nil => exact k2.elim
    | cons e1 es =>
      obtain ⟨n1, b1⟩ := e1
      obtain ⟨⟨qa, b, rfl, g1, g2⟩, k3⟩ := k2
      refine itT (by simp) ⟨fun σ' H' => ∃ m', m' < rmW R ((n1, b1) :: es) ∧ RemX R S g Fv J H a gp gm fl wl n m' σ' H', fun _ _ z => z, ?_⟩
      refine ⟨_, rfl, .inl ⟨rfl, _, SqL.of h2⟩, wl, _, .ref qa, rfl, rfl, h2, by simp, ?_⟩
      have eD : ((V.ref qa :: rs).reverse).dropLast = rs.reverse := by rw [List.reverse_cons, List.dropLast_concat]
      rw [eD]
      have tk2 : TK H1 (upd H1 wl (.lst rs.reverse)) := tk_put h2
      have s2 : Sx H (upd H1 wl (.lst rs.reverse)) := sx_mut s1 hw0 _
      have j2 : J (upd H1 wl (.lst rs.reverse)) := jx.mu h2 j1
      have w2 : upd H1 wl (.lst rs.reverse) wl = some (.lst rs.reverse) := upd_same
      have f2 : upd H1 wl (.lst rs.reverse) fl = some (.lst gs) := by
        rw [upd_ne hwf]
        exact h1
      have k4 := k1.imp fun _ _ z => tS tk2 z
      have k5 := k3.imp fun _ _ z => WtV.tk tk2 z
      have g4 := tk2 _ _ g1
      have g6 := R.tk tk2 g2
      clear tk2
      generalize upd H1 wl (.lst rs.reverse) = H2 at s2 j2 w2 f2 k4 k5 g4 g6
      refine ⟨qa, _, rfl, SqT.of g4, rfl, _, _, rfl, _, _, rfl, rfl, ?_⟩
      refine ⟨rfl, _, rfl, n1, b, rfl, g6, fun pp H3 us s3 h3 k6 => ?_⟩
      have hus := k6.len
      have sH3 := s2.trans (sx_same s3)
      have j3 := jx.sm s3 j2
      have w3 := s3 _ _ w2
      have f3 := s3 _ _ f2
      have A3 := R.tk (tk_same s3) g6
      have k7 := k4.imp fun _ _ z => tS (tk_same s3) z
      have k8 := k5.imp fun _ _ z => WtV.tk (tk_same s3) z
      have hgs := k7.len
      have hrs := k8.len
      have hel := rmW_len R es
      have hnk := R.len_szs (R.kids n1)
      have hsz : R.sz n1 = 1 + R.szs (R.kids n1) := R.szk n1
      refine ⟨_, rfl, _, rfl, ?_⟩
      cases b1 with
      | true =>
        obtain ⟨hv1, hv2⟩ : (R.kids n1).length ≤ bs.length ∧ rmV R es (bs.length - (R.kids n1).length + 1) := hv
        have hW : rmW R ((n1, true) :: es) = 1 + rmW R es := rfl
        refine itT rfl ⟨_, rfl, .inl ⟨rfl, _, SqL.of f3⟩, ⟨rfl, kp _ _ sH3 hkn⟩, _, rfl, _, rfl, _, rfl, pp, _, rfl, .inr (SqT.of h3), fl, gs, us.length, rfl, f3, by omega, fun H4 v4 s4 h4 => ?_⟩
        have f4 := s4 _ _ f3
        have tk4 : TK H4 (upd H4 fl (.lst (gs.take (gs.length - us.length)))) := tk_put f4
        have k9 := ((k7.drop (gs.length - us.length)).imp fun _ _ z => tS (tk_same s4) z).imp fun _ _ z => tS tk4 z
        have sM := sx_mut (sH3.trans (sx_same s4)) hfl (.lst (gs.take (gs.length - us.length)))
        have jM := jx.mu (o := .lst (gs.take (gs.length - us.length))) f4 (jx.sm s4 j3)
        refine ⟨kp _ _ sM hkn, hM _ n1 b v4 (bs.drop (gs.length - us.length)) (gs.drop (gs.length - us.length)) _ sM (kp _ _ sM hkn) jM (R.tk ((tk_same s4).trans tk4) A3) (tk4 _ _ h4) k9 ?_ fun v5 H5 s5 j5 hv5 => ?_⟩
        · rw [List.length_drop]
          omega
        have f5 := s5.l (upd_same (H := H4) (a := fl) (o := .lst (gs.take (gs.length - us.length))))
        refine ⟨fl, _, _, rfl, rfl, f5, Nat.lt_of_le_of_lt (m := 20000) (by rw [List.length_take]; omega) (by decide), ?_⟩
        have tk6 : TK H5 (upd H5 fl (.lst (gs.take (gs.length - us.length) ++ [v5]))) := tk_put f5
        have tkA : TK H3 (upd H5 fl (.lst (gs.take (gs.length - us.length) ++ [v5]))) := (tk_same s4).trans (tk4.trans (s5.tk.trans tk6))
        refine ⟨rmW R es, by rw [hW]; omega, _, _, _, _, rs, gs.take (gs.length - us.length) ++ [v5], es, bs.take (gs.length - us.length) ++ [g n1 (bs.drop (gs.length - us.length))], rfl, ?_, jx.mu f5 j5, upd_same, ?_, ?_, k8.imp fun _ _ z => WtV.tk tkA z, rfl, ?_, ?_, ?_⟩
        · exact sx_mut (sM.trans s5) hfl _
        · exact ((k7.take _).imp fun _ _ z => tS tkA z).app ⟨tS tk6 hv5, trivial⟩
        · rw [upd_ne (Ne.symm hwf)]
          refine s5.l ?_
          rw [upd_ne (Ne.symm hwf)]
          exact s4 _ _ w3
        · rw [List.length_append, List.length_take, List.length_singleton]
          rw [hW] at hm
          omega
        · rw [List.length_append, List.length_take, List.length_singleton]
          have e : min (gs.length - us.length) bs.length + 1 = bs.length - (R.kids n1).length + 1 := by omega
          rw [e]
          exact hv2
        · have e : gs.length - us.length = bs.length - (R.kids n1).length := by omega
          rw [e]
          exact hx
      | false =>
        have hW : rmW R ((n1, false) :: es) = 2 * R.sz n1 + rmW R es := rfl
        refine itF rfl ⟨_, rfl, .inl ⟨rfl, _, SqL.of w3⟩, _, rfl, sz (by show 2 ≤ 100000; decide), fun p3 hp3 => ?_⟩
        have t3 := same_new hp3 (.tup [.ref b, .bl true])
        have w4 := t3 _ _ w3
        refine ⟨wl, _, _, rfl, rfl, w4, Nat.lt_of_le_of_lt (m := 20000) (by rw [List.length_reverse]; omega) (by decide), ?_⟩
        have tk4 := (tk_same t3).trans (tk_put (o := .lst (rs.reverse ++ [.ref p3])) w4)
        have s4 : Sx H (upd (upd H3 p3 (.tup [.ref b, .bl true])) wl (.lst (rs.reverse ++ [.ref p3]))) := sx_mut (sH3.trans (sx_same t3)) hw0 _
        have j4 : J (upd (upd H3 p3 (.tup [.ref b, .bl true])) wl (.lst (rs.reverse ++ [.ref p3]))) := jx.mu w4 (jx.sm t3 j3)
        have w5 : upd (upd H3 p3 (.tup [.ref b, .bl true])) wl (.lst (rs.reverse ++ [.ref p3])) wl = some (.lst (rs.reverse ++ [.ref p3])) := upd_same
        have f5 : upd (upd H3 p3 (.tup [.ref b, .bl true])) wl (.lst (rs.reverse ++ [.ref p3])) fl = some (.lst gs) := by
          rw [upd_ne hwf]
          exact t3 _ _ f3
        have g5 : upd (upd H3 p3 (.tup [.ref b, .bl true])) wl (.lst (rs.reverse ++ [.ref p3])) p3 = some (.tup [.ref b, .bl true]) := tk_put w4 _ _ upd_same
        have A5 := R.tk tk4 A3
        have k9 := k7.imp fun _ _ z => tS tk4 z
        have k10 := k8.imp fun _ _ z => WtV.tk tk4 z
        have k11 := k6.imp fun _ _ z => Tre.V.tk tk4 z
        have h5 := tk4 _ _ h3
        clear tk4
        generalize upd (upd H3 p3 (.tup [.ref b, .bl true])) wl (.lst (rs.reverse ++ [.ref p3])) = H4 at s4 j4 w5 f5 g5 A5 k9 k10 k11 h5
        refine ⟨_, rfl, .inl ⟨rfl, _, SqL.of w5⟩, _, rfl, 1, rfl, -1, rfl, rfl, pp, _, rfl, SqT.of h5, fun p6 hp6 => ?_⟩
        have s6 := same_new hp6 (.tup us.reverse)
        have h6 : upd H4 p6 (.tup us.reverse) p6 = some (.tup us.reverse) := upd_same
        have k12 := (k11.imp fun _ _ z => Tre.V.tk (tk_same s6) z).rev
        generalize upd H4 p6 (.tup us.reverse) = H5 at s6 h6 k12
        refine ⟨p6, rfl, ⟨_, SqT.of h6⟩, fun D hD => lc_tup (K := K) (a := p6) (xs := us.reverse) (fun i H' => Same H5 H' ∧ ∃ acc, H' D = some (.lst acc) ∧ All2 (WtV R H') (kidsF ((R.kids n1).reverse.take i)) acc) ⟨same_new hD _, [], upd_same, by rw [List.take_zero]; trivial⟩ ?_ ?_ ?_⟩
        · rintro i H' _ ⟨z, _⟩
          exact SqT.of (z _ _ h6)
        · rintro i x H6 hx6 ⟨s7, acc, h7, k13⟩
          obtain ⟨nk, hnk6, bk, rfl, hbk⟩ := k12.get hx6
          obtain ⟨hj, hj2⟩ := List.getElem?_eq_some_iff.mp hnk6
          have hle := k13.len
          unfold kidsF at hle
          rw [List.length_map, List.length_take] at hle
          rw [List.length_reverse] at hj
          refine ⟨rfl, ?_⟩
          dsimp only [tYes]
          refine iteT ⟨_, rfl, sz (by show 2 ≤ 100000; decide), fun p8 hp8 => ?_⟩
          have s8 := same_new hp8 (.tup [.ref bk, .bl false])
          have h8 := s8 _ _ h7
          have tk8 := (tk_same s8).trans (tk_put (o := .lst (acc ++ [.ref p8])) h8)
          refine ⟨acc, h8, Nat.lt_of_le_of_lt (m := 20000) (by omega) (by decide), same_mut (s7.trans s8) hD, _, upd_same, ?_⟩
          have eT : kidsF ((R.kids n1).reverse.take (i + 1)) = kidsF ((R.kids n1).reverse.take i) ++ [(nk, false)] := by
            unfold kidsF
            rw [List.take_succ_eq_append_getElem (by rw [List.length_reverse]; exact hj), List.map_append, hj2]
            rfl
          rw [eT]
          exact (k13.imp fun _ _ z => WtV.tk tk8 z).app ⟨⟨p8, bk, rfl, tk_put (o := .lst (acc ++ [.ref p8])) h8 _ _ upd_same, R.tk tk8 (R.tk (tk_same s7) hbk)⟩, trivial⟩
        · rintro H6 ⟨s7, acc, h7, k13⟩
          have eR : us.reverse.length = (R.kids n1).reverse.length := by rw [List.length_reverse, List.length_reverse]; exact hus
          rw [eR, List.take_length] at k13
          have hac := k13.len
          unfold kidsF at hac
          rw [List.length_map, List.length_reverse] at hac
          have s67 := s6.trans s7
          have w7 := s67 _ _ w5
          refine ⟨wl, D, _, _, rfl, rfl, w7, h7, sz (by rw [List.length_append, List.length_reverse, List.length_singleton]; omega), ?_⟩
          have tk9 := tk_put (o := .lst (rs.reverse ++ [.ref p3] ++ acc)) w7
          have tkB := (tk_same s67).trans tk9
          refine ⟨rmW R (kidsF (R.kids n1) ++ (n1, true) :: es), ?_, _, _, _, _, acc.reverse ++ .ref p3 :: rs, gs, kidsF (R.kids n1) ++ (n1, true) :: es, bs, rfl, sx_mut (s4.trans (sx_same s67)) hw0 _, jx.mu w7 (jx.sm s67 j4), ?_, k9.imp fun _ _ z => tS tkB z, ?_, ?_, rfl, ?_, rmV_open R hv, ?_⟩
          · rw [rmW_kids, hW]
            show 2 * R.szs (R.kids n1) + (1 + rmW R es) < _
            omega
          · rw [upd_ne hwf]
            exact s67 _ _ f5
          · rw [upd_same, List.reverse_append, List.reverse_cons, List.reverse_reverse]
          · refine All2.app ?_ ⟨⟨p3, b, rfl, tkB _ _ g5, R.tk tkB A5⟩, k10.imp fun _ _ z => WtV.tk tkB z⟩
            have z := k13.rev
            unfold kidsF at z ⊢
            rw [← List.map_reverse, List.reverse_reverse] at z
            exact z.imp fun _ _ y => WtV.tk tk9 y
          · rw [rmW_kids]
            rw [hW] at hm
            show bs.length + (2 * R.szs (R.kids n1) + (1 + rmW R es)) ≤ _
            omega
          · rw [rmX_open R g Fv hF]
            exact hx
/-- remade, a lambda making each thing -/
theorem okL_remade (R : Tre N) (S : Hp → B → V → Prop) (g : N → List B → B) (Fv : N → B) (hF : ∀ n, Fv n = g n ((R.kids n).map Fv)) (tS : ∀ {H H' : Hp} {b : B} {v : V}, TK H H' → S H b v → S H' b v) {J : Hp → Prop} (jx : Jx J) (T : Txt K mg) {kl k1 : Nat} {f gp f3 : Addr} {fd gd d3 : FuncData} {x : Str} (F : Fun K "remade" "remade" sremade f fd)
    (GKIDS : FnOk P w K mg base CX0 k1 gp gd [x] (spKids R)) (kk : PySem.W.keepIn K (.ref gp) = true) (bb : Binds K gd [x] []) (Glast_taken : FnOk P w K mg base CX0 1 f3 d3 ["got", "many"] spLast) (Rlast_taken : Ref K mg "last_taken" f3 d3 ["got", "many"]) :
    FnL P w K mg base kl (k1 + 2) f fd ["body", "parts", "made"] (spRemX R S g Fv J gp) := by
  refine okL F scremade (fun fl kn sl vs H Q E h => ?_) (fun cdv A outer s H vs Q fl kn sl hr L h => ?_)
  · obtain ⟨n, a, rfl, _⟩ := h
    rfl
  exact body_remade R S g Fv hF tS jx T GKIDS kk bb Glast_taken Rlast_taken L.kp (hr.mono (by omega)) (fun ha he hp => pe_callM L (hr.mono (by omega)) rfl (.inl rfl) ha (by decide) (by decide) he hp) h
/-- what a def promises that makes one thing, where tables may be filled -/
def spMadeX (R : Tre N) (S : Hp → B → V → Prop) (g : N → List B → B) (J : Hp → Prop) : Sp := fun vs H Q _ => ∃ (n : N) (a q : Addr) (bs : List B) (us : List V), vs = [.ref a, .ref q] ∧ J H ∧ R.A H n a ∧ H q = some (.tup us) ∧ All2 (S H) bs us ∧ bs.length = (R.kids n).length ∧
  ∀ v H', Sx H H' → J H' → S H' (g n bs) v → Q v H'
def spRemJ (R : Tre N) (S : Hp → B → V → Prop) (F : N → B) (J : Hp → Prop) (gp gm : Addr) : Sp := fun vs H Q _ => ∃ (n : N) (a : Addr), vs = [.ref a, .ref gp, .ref gm] ∧ J H ∧ R.A H n a ∧ R.sz n ≤ 5000 ∧ ∀ v H', Sx H H' → J H' → S H' (F n) v → Q v H'
/-- a def in a slot called, its promise told like a lambda's -/
theorem pe_callM0 {X : Cx} {k i : Nat} {f : Addr} {fd : FuncData} {ps : List Str} {sp : Sp} {x : Str} {p pos : Pos} {e : Expr} {es : List Expr} {t : TA} (F : FnOk X.prog X.w X.K X.mg X.base CX0 k f fd ps sp) (hr : Room k X.A) (hN : X.N[i]? = some x) (hv : Vis X.env.scope x) (hk : PySem.W.keepIn X.K (.ref f) = true) (hb : Binds X.K fd ps []) (ha : PA X (e :: es) t)
    (hdb : (x == ("__debug__" : Str)) = false) (hcd : (x == ("__classdict__" : Str)) = false) (he : starEach (e :: es) X.env = (false, eval e X.env) :: starEach es X.env) (hpl : (backTo pos (starEach es X.env)).any (·.1) = false) :
    PE X (.Call (.Name x p) (e :: es) [] pos) (tCallM i f (fun _ => True) (fun vs H Q => sp vs H Q E0) t) := by
  refine ⟨fun pins s σ H Q I h => ?_⟩
  obtain ⟨⟨hs, _⟩, ht⟩ := h
  refine wpAny_Call_Name_kw (thn ((pe_var (pos := p) hN hv hdb hcd).run pins s σ H (fun v H1 => v = .ref f ∧ H1 = H) I ⟨.ref f, hs, rfl, rfl⟩) fun u s1 z => ?_)
  obtain ⟨v, H1, I1, r1, rfl, rfl⟩ := z
  obtain rfl : u = Value.ref f := r1
  refine PySem.W.callWith_K (h₀ := X.base) I.ok.mod.kin hk (thn (ha.run pos pins s1 σ _ _ I1 ht) fun us s2 z => ?_) he hpl
  obtain ⟨vs, H2, I2, r, _, q⟩ := z
  refine ⟨I2.kIn, run_fn (dvs := []) F hr hb .nil pass0 I2 r ?_⟩
  rw [List.append_nil]
  exact q
/-- remade, a def making each thing -/
theorem okJ_remade (R : Tre N) (S : Hp → B → V → Prop) (g : N → List B → B) (Fv : N → B) (hF : ∀ n, Fv n = g n ((R.kids n).map Fv)) (tS : ∀ {H H' : Hp} {b : B} {v : V}, TK H H' → S H b v → S H' b v) {J : Hp → Prop} (jx : Jx J) (T : Txt K mg) {k1 k2 : Nat} {f gp gm f3 : Addr} {fd gd md d3 : FuncData} {x y z : Str} (F : Fun K "remade" "remade" sremade f fd)
    (GKIDS : FnOk P w K mg base CX0 k1 gp gd [x] (spKids R)) (kk : PySem.W.keepIn K (.ref gp) = true) (bb : Binds K gd [x] []) (Glast_taken : FnOk P w K mg base CX0 1 f3 d3 ["got", "many"] spLast) (Rlast_taken : Ref K mg "last_taken" f3 d3 ["got", "many"])
    (GMADE : FnOk P w K mg base CX0 k2 gm md [y, z] (spMadeX R S g J)) (kk2 : PySem.W.keepIn K (.ref gm) = true) (bb2 : Binds K md [y, z] []) : FnOk P w K mg base CX0 (k1 + k2 + 2) f fd ["body", "parts", "made"] (spRemJ R S Fv J gp gm) := by
  refine F.ok scremade (fun vs H Q E h => ?_) (fun cdv A outer s H vs Q E hr h => ?_)
  · obtain ⟨n, a, rfl, _⟩ := h
    rfl
  obtain ⟨n, a, rfl, hJ, hA, hz, q⟩ := h
  exact body_remade R S g Fv hF tS jx T GKIDS kk bb Glast_taken Rlast_taken (kn := fun _ => True) (sl := fun vs H Q => spMadeX R S g J vs H Q E0) (fun _ _ _ _ => trivial) (hr.mono (by omega)) (fun ha he hp => pe_callM0 (i := 2) GMADE (hr.mono (by omega)) rfl (.inl rfl) kk2 bb2 ha (by decide) (by decide) he hp)
    ⟨n, a, rfl, trivial, hJ, hA, hz, fun H1 m b q bs us Q' s1 _ j1 a1 h1 k1 l1 q1 => ⟨m, b, q, bs, us, rfl, j1, a1, h1, k1, l1, q1⟩, q⟩
end
end KB

namespace KB
open PySem L2 HT

theorem at3 {x y z u : V} {r : List V} : atI (x :: y :: z :: u :: r) 3 = some u := at_of (j := 3) rfl rfl
theorem at4 {x y z u t : V} {r : List V} : atI (x :: y :: z :: u :: t :: r) 4 = some t := at_of (j := 4) rfl rfl
/-! ### data that stands in tuples of our own -/
mutual
inductive RAt (H : Hp) : PyData → V → Prop
  | str (x : Str) : RAt H (.str x) (.str x)
  | int (z : Int) : RAt H (.int z) (.int z)
  | tup {a : Addr} {us : List V} {ds : List PyData} : H a = some (.tup us) → RAtL H ds us → RAt H (.tuple ds) (.ref a)
inductive RAtL (H : Hp) : List PyData → List V → Prop
  | nil : RAtL H [] []
  | cons {d : PyData} {v : V} {ds : List PyData} {vs : List V} : RAt H d v → RAtL H ds vs → RAtL H (d :: ds) (v :: vs)
end
mutual
theorem RAt.tk {H H' : Hp} (k : TK H H') : ∀ {d : PyData} {v : V}, RAt H d v → RAt H' d v
  | _, _, .str x => .str x
  | _, _, .int z => .int z
  | _, _, .tup h l => .tup (k _ _ h) (RAtL.tk k l)
theorem RAtL.tk {H H' : Hp} (k : TK H H') : ∀ {ds : List PyData} {vs : List V}, RAtL H ds vs → RAtL H' ds vs
  | _, _, .nil => .nil
  | _, _, .cons h l => .cons (RAt.tk k h) (RAtL.tk k l)
end
mutual
theorem RAt.dp {K : PySem.W.Frag} {H : Hp} : ∀ {d : PyData} {v : V}, RAt H d v → Dp K H v d
  | _, _, .str x => .str x
  | _, _, .int z => .int z
  | _, _, .tup h l => .tup (SqT.of h) (RAtL.dp l)
theorem RAtL.dp {K : PySem.W.Frag} {H : Hp} : ∀ {ds : List PyData} {vs : List V}, RAtL H ds vs → DpAll K H vs ds
  | _, _, .nil => .nil
  | _, _, .cons h l => .cons (RAt.dp h) (RAtL.dp l)
end
theorem ratL_of {H : Hp} : ∀ {ds : List PyData} {vs : List V}, All2 (RAt H) ds vs → RAtL H ds vs
  | [], [], _ => .nil
  | _ :: _, _ :: _, h => .cons h.1 (ratL_of h.2)
  | [], _ :: _, h => h.elim
  | _ :: _, [], h => h.elim
theorem RAtL.all {H : Hp} : ∀ {ds : List PyData} {vs : List V}, RAtL H ds vs → All2 (RAt H) ds vs
  | _, _, .nil => trivial
  | _, _, .cons h l => ⟨h, l.all⟩
theorem RAtL.len {H : Hp} {ds : List PyData} {vs : List V} (h : RAtL H ds vs) : vs.length = ds.length := h.all.len
theorem rat_strs {H : Hp} : ∀ xs : List Str, RAtL H (xs.map PyData.str) (xs.map V.str)
  | [] => .nil
  | x :: r => .cons (.str x) (rat_strs r)
/-! ### parts and terms of an errand -/
def aN (ws js : List Str) : Nd → Prop
  | .inl p => aP ws js p
  | .inr t => TmW ws t
theorem aN_kids {ws js : List Str} {n m : Nd} (h : aN ws js n) (hm : m ∈ kidsN n) : aN ws js m := by
  cases n with
  | inr t =>
    obtain ⟨hd, c, k⟩ := t
    obtain ⟨u, hu, rfl⟩ := List.mem_map.mp hm
    obtain ⟨i, rfl⟩ := List.mem_ofFn.mp hu
    have h : TmW ws _ := h
    obtain ⟨s1, s2⟩ := simple_mk h.s.si
    refine ⟨⟨h.s.ok.2 i, s2 i, ?_, ?_⟩, fun y hy => h.c y (nms_kid (List.mem_ofFn.mpr ⟨i, rfl⟩) y hy)⟩
    · have h1 := cnt_mem (List.mem_ofFn.mpr ⟨i, rfl⟩ : k i ∈ List.ofFn k)
      have h2 := h.s.cn
      rw [cnt_mk] at h2
      omega
    · exact HtLe.up (n := 1) (h.s.ht i)
  | inl p =>
    have h : aP ws js p := h
    rcases List.mem_append.mp hm with z | z
    · obtain ⟨t, ht, rfl⟩ := List.mem_map.mp z
      cases p with
      | give j u => rw [List.mem_singleton.mp ht]; exact h.2
      | ask f ts j => exact h.2.2.2 t ht
      | tell x u p => rw [List.mem_singleton.mp ht]; exact h.2.1
      | lett x u p => rw [List.mem_singleton.mp ht]; exact h.2.1
      | iff u p q => rw [List.mem_singleton.mp ht]; exact h.1
      | post j x p q => cases ht
    · obtain ⟨q, hq, rfl⟩ := List.mem_map.mp z
      have hq2 : q ∈ innP p := by cases p <;> exact hq
      exact aP_kids h hq2
def TrW (ws js : List Str) : Tre Nd where
  kids := kidsN
  sz := szN
  pl := plN
  A := fun H n a => NAt H n a ∧ aN ws js n
  tk e h := ⟨TrN.tk e h.1, h.2⟩
  szk := TrN.szk
  plk := TrN.plk
theorem kids_w {ws js : List Str} : ∀ vs H Q E, spKids (TrW ws js) vs H Q E → spKids TrN vs H Q E := by
  intro vs H Q E ⟨n, a, e, h, q⟩
  refine ⟨n, a, e, h.1, fun p H' us s1 g1 k1 => q p H' us s1 g1 ?_⟩
  refine all2_mem k1 fun m hm v hv => ?_
  obtain ⟨b, e1, hb⟩ := hv
  exact ⟨b, e1, hb, aN_kids h.2 hm⟩
/-! ### the program's telling anew, as data -/
def gD (W J : Str → Str) : Nd → List PyData → PyData
  | .inl (.give j _), ds => .tuple (.str "give" :: .str (J j) :: ds)
  | .inl (.ask f _ j), ds => .tuple [.str "ask", .str f, .tuple ds, .str (J j)]
  | .inl (.tell x _ _), ds => .tuple (.str "tell" :: .str (W x) :: ds)
  | .inl (.lett x _ _), ds => .tuple (.str "let" :: .str (W x) :: ds)
  | .inl (.iff _ _ _), ds => .tuple (.str "if" :: ds)
  | .inl (.post j x _ _), ds => .tuple (.str "post" :: .str (J j) :: .str (W x) :: ds)
  | .inr t, ds => pdH (calH W (hdT t)) ds
def fD (W J : Str → Str) : Nd → PyData
  | .inl p => pdP (calP W J p)
  | .inr t => pd (calT W t)
theorem fD_eq (W J : Str → Str) (n : Nd) : fD W J n = gD W J n ((kidsN n).map (fD W J)) := by
  cases n with
  | inl p =>
    cases p with
    | ask f ts j =>
      show PyData.tuple [.str "ask", .str f, .tuple ((ts.map (calT W)).map pd), .str (J j)] = .tuple [.str "ask", .str f, .tuple ((ts.map Sum.inr ++ []).map (fD W J)), .str (J j)]
      rw [List.append_nil, List.map_map, List.map_map]
      rfl
    | _ => rfl
  | inr t =>
    show pd (calT W t) = pdH (calH W (hdT t)) ((kidsN (.inr t)).map (fD W J))
    rw [calT_eq, pd_mkL, List.map_map]
    congr 1
    obtain ⟨h, n, k⟩ := t
    show (List.ofFn k).map _ = ((List.ofFn k).map Sum.inr).map (fD W J)
    rw [List.map_map]
    rfl
/-- the words that are looked up at a part or term, its hand-ons -/
def hdW : Nd → List Str
  | .inl (.tell x _ _) | .inl (.lett x _ _) | .inl (.post _ x _ _) => [x]
  | .inr t => hdN (hdT t)
  | _ => []
def hdJ : Nd → List Str
  | .inl (.give j _) | .inl (.ask _ _ j) | .inl (.post j _ _ _) => [j]
  | _ => []
def Tells (kvs : List (Key × V)) (g : Str → Str) (ys : List Str) : Prop := ∀ y ∈ ys, valV kvs (Sum.inr y) = some (.str (g y))
def tmL : Nd → Prop
  | .inl (.lett _ _ _) | .inl (.iff _ _ _) | .inr _ => True
  | _ => False
theorem hd4 {x : Str} (h : x = "let" ∨ x = "if" ∨ x = "number" ∨ x = "name" ∨ x = "plus" ∨ x = "less") : x ≠ "give" ∧ x ≠ "ask" ∧ x ≠ "tell" ∧ x ≠ "post" := by
  rcases h with z | z | z | z | z | z <;> subst z <;> decide +kernel
section
variable {P : Program} {w : World} {K : PySem.W.Frag} {mg : Str → Option Value} {base : Heap}
/-! ### renamed_term -/
def spRnT : Sp := fun vs H Q _ => ∃ (n : Nd) (a q d : Addr) (ds : List PyData) (us : List V) (kvs : List (Key × V)) (W J : Str → Str), vs = [.ref a, .ref q, .ref d] ∧ NAt H n a ∧ tmL n ∧ H q = some (.tup us) ∧ RAtL H ds us ∧ us.length ≤ 10 ∧ H d = some (.dK kvs) ∧ Tells kvs W (hdW n) ∧
  ∀ v H', Same H H' → RAt H' (gD W J n ds) v → Q v H'
abbrev srenamed_term : Stmt := top 22
theorem screnamed_term : FnScope ["term", "own", "words", "head"] ["term", "own", "words"] (defScope srenamed_term) := ⟨rfl, rfl, rfl, by decide +kernel, rfl, by decide +kernel, by decide +kernel⟩
theorem ok_rnt {f : Addr} {fd : FuncData} (F : Fun K "renamed_term" "renamed_term" srenamed_term f fd) : FnOk P w K mg base CX0 1 f fd ["term", "own", "words"] spRnT := by
  refine F.ok screnamed_term (fun vs H Q E h => ?_) (fun cdv A outer s H vs Q E hr h => ?_)
  · obtain ⟨n, a, q, d, ds, us, kvs, W, J, rfl, _⟩ := h
    rfl
  obtain ⟨n, a, q, d, ds, us, kvs, W, J, rfl, hA, hn, hq, hD, hl, hd, hk, q2⟩ := h
  refine ⟨_, (pss_cons (ps_set (i := 3) screnamed_term.nd rfl (Or.inl rfl) (pe_ix ix_tup (pv 0) pe_int (fun _ _ => rfl)))
    (pss_cons (ps_if (pt_cmpR op_eq (pv 3) pe_str (nomark _)) (pss_one (ps_ret (pv 0))) pss_nil)
    (pss_cons (ps_if (pt_cmpR op_eq (pv 3) pe_str (nomark _)) (pss_one (ps_ret (pe_tup (pa_cons (pv 3) (pa_cons (pe_dget (hu_of hr) (pv 2) (pe_ix ix_tup (pv 0) pe_int (fun _ _ => rfl)) (fun _ _ => rfl)) pa_nil))))) pss_nil)
    (pss_cons (ps_if (pt_cmpR op_eq (pv 3) pe_str (nomark _)) (pss_one (ps_ret (pe_tup (pa_cons (pv 3) (pa_cons (pe_dget (hu_of hr) (pv 2) (pe_ix ix_tup (pv 0) pe_int (fun _ _ => rfl)) (fun _ _ => rfl)) (StX.pa_star (pv 1) pa_nil)))))) pss_nil)
    (pss_cons (ps_if (pt_cmpR op_eq (pv 3) pe_str (nomark _)) (pss_one (ps_ret (pe_tup (pa_cons (pv 3) (pa_cons (pe_ix ix_tup (pv 0) pe_int (fun _ _ => rfl)) (pa_cons (pv 1) pa_nil)))))) pss_nil)
    (pss_one (ps_ret (pe_tup (pa_cons (pv 3) (StX.pa_star (pv 1) pa_nil)))))))))), ?_⟩
  have ea : us ++ [] = us := List.append_nil us
  -- (head, *own)
  have fin : ∀ (p : Addr) (hs0 : Str) (hp : H p = none) (e : gD W J n ds = .tuple (.str hs0 :: ds)), Q (.ref p) (upd H p (.tup (.str hs0 :: (us ++ [])))) := by
    intro p hs0 hp e
    rw [ea]
    have s1 := same_new hp (.tup (.str hs0 :: us))
    refine q2 _ _ s1 ?_
    rw [e]
    exact .tup upd_same (.cons (.str _) (hD.tk (tk_same s1)))
  have small : ∀ hs0 : Str, (V.str hs0 :: (us ++ [])).length ≤ 100000 := fun hs0 => by
    rw [ea, List.length_cons]; omega
  cases n with
  | inl p =>
    cases p with
    | lett x t p =>
      obtain ⟨⟨b, c, h1, h2, h3⟩, _⟩ := hA
      refine ⟨_, rfl, a, _, _, _, rfl, rfl, SqT.of h1, at0, ?_⟩
      refine ⟨_, rfl, rfl, _, rfl, itF rfl ⟨_, rfl, rfl, _, rfl, itF rfl ⟨_, rfl, rfl, _, rfl, itT rfl ?_⟩⟩⟩
      refine ⟨_, rfl, _, rfl, _, rfl, a, _, _, _, rfl, rfl, SqT.of h1, at1, d, _, rfl, by have e := hk x (List.mem_singleton.mpr rfl); rw [← e]; exact DGet.k (k := Sum.inr x) hd, ?_⟩
      refine ⟨_, rfl, q, us, rfl, .inl (SqT.of hq), sz (by show (V.str "let" :: V.str (W x) :: (us ++ [])).length ≤ 100000; rw [ea, List.length_cons, List.length_cons]; omega), fun p2 hp2 => ?_⟩
      show Q (.ref p2) (upd H p2 (.tup (V.str "let" :: V.str (W x) :: (us ++ []))))
      rw [ea]
      have s1 := same_new hp2 (.tup (V.str "let" :: V.str (W x) :: us))
      exact q2 _ _ s1 (.tup upd_same (.cons (.str _) (.cons (.str _) (hD.tk (tk_same s1)))))
    | iff t p u =>
      obtain ⟨⟨b, c, e, h1, h2, h3, h4⟩, _⟩ := hA
      refine ⟨_, rfl, a, _, _, _, rfl, rfl, SqT.of h1, at0, ?_⟩
      refine ⟨_, rfl, rfl, _, rfl, itF rfl ⟨_, rfl, rfl, _, rfl, itF rfl ⟨_, rfl, rfl, _, rfl, itF rfl ⟨_, rfl, rfl, _, rfl, itF rfl ?_⟩⟩⟩⟩
      exact ⟨_, rfl, _, rfl, q, us, rfl, .inl (SqT.of hq), sz (small _), fun p2 hp2 => fin p2 _ hp2 rfl⟩
    | _ => exact hn.elim
  | inr t =>
    obtain ⟨hT, hsi⟩ := hA
    obtain ⟨h, m, k⟩ := t
    obtain ⟨ys, l, hk2⟩ := hT
    obtain ⟨e1, e2⟩ := simple_mk hsi
    cases h with
    | num z =>
      obtain ⟨l1, l2⟩ := l
      refine ⟨_, rfl, a, _, _, _, rfl, rfl, SqT.of l2, at0, ?_⟩
      exact ⟨_, rfl, rfl, _, rfl, itT rfl ⟨_, rfl, q2 _ _ (Same.refl _) (.tup l2 (.cons (.str _) (.cons (.int _) .nil)))⟩⟩
    | nam x =>
      obtain ⟨l1, l2⟩ := l
      refine ⟨_, rfl, a, _, _, _, rfl, rfl, SqT.of l2, at0, ?_⟩
      refine ⟨_, rfl, rfl, _, rfl, itF rfl ⟨_, rfl, rfl, _, rfl, itT rfl ?_⟩⟩
      refine ⟨_, rfl, _, rfl, _, rfl, a, _, _, _, rfl, rfl, SqT.of l2, at1, d, _, rfl, by have e := hk x (List.mem_singleton.mpr rfl); rw [← e]; exact DGet.k (k := Sum.inr x) hd, sz (by show 2 ≤ 100000; decide), fun p2 hp2 => ?_⟩
      exact q2 _ _ (same_new hp2 _) (.tup upd_same (.cons (.str _) (.cons (.str _) .nil)))
    | plus =>
      obtain ⟨l1, l2⟩ := l
      refine ⟨_, rfl, a, _, _, _, rfl, rfl, SqT.of l2, at0, ?_⟩
      refine ⟨_, rfl, rfl, _, rfl, itF rfl ⟨_, rfl, rfl, _, rfl, itF rfl ⟨_, rfl, rfl, _, rfl, itF rfl ⟨_, rfl, rfl, _, rfl, itF rfl ?_⟩⟩⟩⟩
      exact ⟨_, rfl, _, rfl, q, us, rfl, .inl (SqT.of hq), sz (small _), fun p2 hp2 => fin p2 _ hp2 rfl⟩
    | less =>
      obtain ⟨l1, l2⟩ := l
      refine ⟨_, rfl, a, _, _, _, rfl, rfl, SqT.of l2, at0, ?_⟩
      refine ⟨_, rfl, rfl, _, rfl, itF rfl ⟨_, rfl, rfl, _, rfl, itF rfl ⟨_, rfl, rfl, _, rfl, itF rfl ⟨_, rfl, rfl, _, rfl, itF rfl ?_⟩⟩⟩⟩
      exact ⟨_, rfl, _, rfl, q, us, rfl, .inl (SqT.of hq), sz (small _), fun p2 hp2 => fin p2 _ hp2 rfl⟩
    | _ => cases e1
/-! ### renamed_part -/
def spRnP : Sp := fun vs H Q _ => ∃ (n : Nd) (a q d d2 : Addr) (ds : List PyData) (us : List V) (kvs kvs2 : List (Key × V)) (W J : Str → Str), vs = [.ref a, .ref q, .ref d, .ref d2] ∧ NAt H n a ∧ H q = some (.tup us) ∧ RAtL H ds us ∧ us.length ≤ 10 ∧ H d = some (.dK kvs) ∧ Tells kvs W (hdW n) ∧ H d2 = some (.dK kvs2) ∧ Tells kvs2 J (hdJ n) ∧
  ∀ v H', Same H H' → RAt H' (gD W J n ds) v → Q v H'
abbrev srenamed_part : Stmt := top 21
theorem screnamed_part : FnScope ["part", "own", "words", "hands", "head"] ["part", "own", "words", "hands"] (defScope srenamed_part) := ⟨rfl, rfl, rfl, by decide +kernel, rfl, by decide +kernel, by decide +kernel⟩
theorem ok_rnp {f f1 : Addr} {fd d1 : FuncData} (F : Fun K "renamed_part" "renamed_part" srenamed_part f fd) (Grenamed_term : FnOk P w K mg base CX0 1 f1 d1 ["term", "own", "words"] spRnT) (Rrenamed_term : Ref K mg "renamed_term" f1 d1 ["term", "own", "words"]) : FnOk P w K mg base CX0 2 f fd ["part", "own", "words", "hands"] spRnP := by
  refine F.ok screnamed_part (fun vs H Q E h => ?_) (fun cdv A outer s H vs Q E hr h => ?_)
  · obtain ⟨n, a, q, d, d2, ds, us, kvs, kvs2, W, J, rfl, _⟩ := h
    rfl
  obtain ⟨n, a, q, d, d2, ds, us, kvs, kvs2, W, J, rfl, hA, hq, hD, hl, hd, hk, hd2, hk2, q2⟩ := h
  refine ⟨_, (pss_cons (ps_set (i := 4) screnamed_part.nd rfl (Or.inl rfl) (pe_ix ix_tup (pv 0) pe_int (fun _ _ => rfl)))
    (pss_cons (ps_if (pt_cmpR op_eq (pv 4) pe_str (nomark _)) (pss_one (ps_ret (pe_tup (pa_cons (pv 4) (pa_cons (pe_dget (hu_of hr) (pv 3) (pe_ix ix_tup (pv 0) pe_int (fun _ _ => rfl)) (fun _ _ => rfl)) (StX.pa_star (pv 1) pa_nil)))))) pss_nil)
    (pss_cons (ps_if (pt_cmpR op_eq (pv 4) pe_str (nomark _)) (pss_one (ps_ret (pe_tup (pa_cons (pv 4) (pa_cons (pe_ix ix_tup (pv 0) pe_int (fun _ _ => rfl)) (pa_cons (pv 1) (pa_cons (pe_dget (hu_of hr) (pv 3) (pe_ix ix_tup (pv 0) pe_int (fun _ _ => rfl)) (fun _ _ => rfl)) pa_nil))))))) pss_nil)
    (pss_cons (ps_if (pt_cmpR op_eq (pv 4) pe_str (nomark _)) (pss_one (ps_ret (pe_tup (pa_cons (pv 4) (pa_cons (pe_dget (hu_of hr) (pv 2) (pe_ix ix_tup (pv 0) pe_int (fun _ _ => rfl)) (fun _ _ => rfl)) (StX.pa_star (pv 1) pa_nil)))))) pss_nil)
    (pss_cons (ps_if (pt_cmpR op_eq (pv 4) pe_str (nomark _)) (pss_one (ps_ret (pe_tup (pa_cons (pv 4) (pa_cons (pe_dget (hu_of hr) (pv 3) (pe_ix ix_tup (pv 0) pe_int (fun _ _ => rfl)) (fun _ _ => rfl)) (pa_cons (pe_dget (hu_of hr) (pv 2) (pe_ix ix_tup (pv 0) pe_int (fun _ _ => rfl)) (fun _ _ => rfl)) (StX.pa_star (pv 1) pa_nil))))))) pss_nil)
    (pss_one (ps_ret (pe_call Grenamed_term (hr.mono (by omega)) rfl Rrenamed_term.m Rrenamed_term.k Rrenamed_term.b .nil pass0 (pa_cons (pv 0) (pa_cons (pv 1) (pa_cons (pv 2) pa_nil))))))))))), ?_⟩
  have ea : us ++ [] = us := List.append_nil us
  have hdT : ∃ hs0 r, H a = some (.tup (V.str hs0 :: r)) ∧ (tmL n → hs0 ≠ "give" ∧ hs0 ≠ "ask" ∧ hs0 ≠ "tell" ∧ hs0 ≠ "post") := by
    cases n with
    | inl p =>
      obtain ⟨r, e⟩ := hA.1.head
      refine ⟨_, _, e, fun z => ?_⟩
      cases p with
      | lett x t p => exact hd4 (.inl rfl)
      | iff t p q => exact hd4 (.inr (.inl rfl))
      | _ => exact z.elim
    | inr t =>
      obtain ⟨hT, hsi⟩ := hA
      obtain ⟨h, m, k⟩ := t
      obtain ⟨ys, l, _⟩ := hT
      obtain ⟨r, e⟩ := l.head
      obtain ⟨e1, e2⟩ := simple_mk hsi
      refine ⟨_, _, e, fun _ => ?_⟩
      cases h with
      | num z => exact hd4 (.inr (.inr (.inl rfl)))
      | nam z => exact hd4 (.inr (.inr (.inr (.inl rfl))))
      | plus => exact hd4 (.inr (.inr (.inr (.inr (.inl rfl)))))
      | less => exact hd4 (.inr (.inr (.inr (.inr (.inr rfl)))))
      | _ => cases e1
  by_cases ct : tmL n
  · obtain ⟨hs0, r, h1, h2⟩ := hdT
    obtain ⟨n1, n2, n3, n4⟩ := h2 ct
    have ne : ∀ x : Str, hs0 ≠ x → decide (V.str hs0 = V.str x) = false := fun x hx => decide_eq_false fun z => hx (V.str.inj z)
    refine ⟨_, rfl, a, _, _, _, rfl, rfl, SqT.of h1, at0, ?_⟩
    refine ⟨_, rfl, rfl, _, rfl, itF (ne _ n1) ⟨_, rfl, rfl, _, rfl, itF (ne _ n2) ⟨_, rfl, rfl, _, rfl, itF (ne _ n3) ⟨_, rfl, rfl, _, rfl, itF (ne _ n4) ?_⟩⟩⟩⟩
    exact ⟨_, rfl, _, rfl, _, rfl, n, a, q, d, ds, us, kvs, W, J, rfl, hA, ct, hq, hD, hl, hd, hk, q2⟩
  · cases n with
    | inr t => exact absurd trivial ct
    | inl p =>
      cases p with
      | lett x t p => exact absurd trivial ct
      | iff t p u => exact absurd trivial ct
      | give j t =>
        obtain ⟨⟨b, h1, h2⟩, _⟩ := hA
        refine ⟨_, rfl, a, _, _, _, rfl, rfl, SqT.of h1, at0, ?_⟩
        refine ⟨_, rfl, rfl, _, rfl, itT rfl ?_⟩
        refine ⟨_, rfl, _, rfl, _, rfl, a, _, _, _, rfl, rfl, SqT.of h1, at1, d2, _, rfl, by have e := hk2 j (List.mem_singleton.mpr rfl); rw [← e]; exact DGet.k (k := Sum.inr j) hd2, ?_⟩
        refine ⟨_, rfl, q, us, rfl, .inl (SqT.of hq), sz (by show (V.str "give" :: V.str (J j) :: (us ++ [])).length ≤ 100000; rw [ea, List.length_cons, List.length_cons]; omega), fun p2 hp2 => ?_⟩
        show Q (.ref p2) (upd H p2 (.tup (V.str "give" :: V.str (J j) :: (us ++ []))))
        rw [ea]
        have s1 := same_new hp2 (.tup (V.str "give" :: V.str (J j) :: us))
        exact q2 _ _ s1 (.tup upd_same (.cons (.str _) (.cons (.str _) (hD.tk (tk_same s1)))))
      | ask f0 ts j =>
        obtain ⟨⟨b, vs, h1, h2, h3⟩, _⟩ := hA
        refine ⟨_, rfl, a, _, _, _, rfl, rfl, SqT.of h1, at0, ?_⟩
        refine ⟨_, rfl, rfl, _, rfl, itF rfl ⟨_, rfl, rfl, _, rfl, itT rfl ?_⟩⟩
        refine ⟨_, rfl, _, rfl, a, _, _, _, rfl, rfl, SqT.of h1, at1, _, rfl, _, rfl, _, rfl, a, _, _, _, rfl, rfl, SqT.of h1, at3, d2, _, rfl, by have e := hk2 j (List.mem_singleton.mpr rfl); rw [← e]; exact DGet.k (k := Sum.inr j) hd2, sz (by show 4 ≤ 100000; decide), fun p2 hp2 => ?_⟩
        have s1 := same_new hp2 (.tup [V.str "ask", V.str f0, .ref q, V.str (J j)])
        exact q2 _ _ s1 (.tup upd_same (.cons (.str _) (.cons (.str _) (.cons (.tup (s1 _ _ hq) (hD.tk (tk_same s1))) (.cons (.str _) .nil)))))
      | tell x t p =>
        obtain ⟨⟨b, c, h1, h2, h3⟩, _⟩ := hA
        refine ⟨_, rfl, a, _, _, _, rfl, rfl, SqT.of h1, at0, ?_⟩
        refine ⟨_, rfl, rfl, _, rfl, itF rfl ⟨_, rfl, rfl, _, rfl, itF rfl ⟨_, rfl, rfl, _, rfl, itT rfl ?_⟩⟩⟩
        refine ⟨_, rfl, _, rfl, _, rfl, a, _, _, _, rfl, rfl, SqT.of h1, at1, d, _, rfl, by have e := hk x (List.mem_singleton.mpr rfl); rw [← e]; exact DGet.k (k := Sum.inr x) hd, ?_⟩
        refine ⟨_, rfl, q, us, rfl, .inl (SqT.of hq), sz (by show (V.str "tell" :: V.str (W x) :: (us ++ [])).length ≤ 100000; rw [ea, List.length_cons, List.length_cons]; omega), fun p2 hp2 => ?_⟩
        show Q (.ref p2) (upd H p2 (.tup (V.str "tell" :: V.str (W x) :: (us ++ []))))
        rw [ea]
        have s1 := same_new hp2 (.tup (V.str "tell" :: V.str (W x) :: us))
        exact q2 _ _ s1 (.tup upd_same (.cons (.str _) (.cons (.str _) (hD.tk (tk_same s1)))))
      | post j x p u =>
        obtain ⟨⟨c, e, h1, h2, h3⟩, _⟩ := hA
        refine ⟨_, rfl, a, _, _, _, rfl, rfl, SqT.of h1, at0, ?_⟩
        refine ⟨_, rfl, rfl, _, rfl, itF rfl ⟨_, rfl, rfl, _, rfl, itF rfl ⟨_, rfl, rfl, _, rfl, itF rfl ⟨_, rfl, rfl, _, rfl, itT rfl ?_⟩⟩⟩⟩
        refine ⟨_, rfl, _, rfl, _, rfl, a, _, _, _, rfl, rfl, SqT.of h1, at1, d2, _, rfl, by have e := hk2 j (List.mem_singleton.mpr rfl); rw [← e]; exact DGet.k (k := Sum.inr j) hd2, ?_⟩
        refine ⟨_, rfl, _, rfl, a, _, _, _, rfl, rfl, SqT.of h1, at2, d, _, rfl, by have e := hk x (List.mem_singleton.mpr rfl); rw [← e]; exact DGet.k (k := Sum.inr x) hd, ?_⟩
        refine ⟨_, rfl, q, us, rfl, .inl (SqT.of hq), sz (by show (V.str "post" :: V.str (J j) :: V.str (W x) :: (us ++ [])).length ≤ 100000; rw [ea, List.length_cons, List.length_cons, List.length_cons]; omega), fun p2 hp2 => ?_⟩
        show Q (.ref p2) (upd H p2 (.tup (V.str "post" :: V.str (J j) :: V.str (W x) :: (us ++ []))))
        rw [ea]
        have s1 := same_new hp2 (.tup (V.str "post" :: V.str (J j) :: V.str (W x) :: us))
        exact q2 _ _ s1 (.tup upd_same (.cons (.str _) (.cons (.str _) (.cons (.str _) (hD.tk (tk_same s1))))))
end
end KB

namespace KB
open PySem L2 HT

/-! ### the words and hand-ons that are met -/
def wHd : Pt → List Str
  | .tell x _ _ | .lett x _ _ | .post _ x _ _ => [x]
  | _ => []
def jHd : Pt → List Str
  | .post j _ _ _ => [j]
  | _ => []
theorem flat_pre (f g : Pt → List Str) (h : ∀ p, g p = f p ++ ((restP p).map g).flatten) : ∀ (n : Nat) (p : Pt), pcnt p ≤ n → ((TrP.pre p).map f).flatten = g p := by
  intro n
  induction n with
  | zero => intro p hp; have := TrP.pos p; have e : TrP.sz p = pcnt p := rfl; omega
  | succ n ih =>
    intro p hp
    rw [TrP.pre_mk, List.map_cons, List.flatten_cons, h p]
    congr 1
    have hs : pcnt p = 1 + ((restP p).map pcnt).sum := TrP.szk p
    have go : ∀ qs : List Pt, (qs.map pcnt).sum ≤ n → ((TrP.pres qs).map f).flatten = (qs.map g).flatten := by
      intro qs
      induction qs with
      | nil => intro _; rfl
      | cons q r ihr =>
        intro hq
        rw [List.map_cons, List.sum_cons] at hq
        rw [TrP.pres_cons, List.map_append, List.flatten_append, List.map_cons, List.flatten_cons, ih q (by omega), ihr (by omega)]
    exact go (restP p) (by omega)
theorem wP_pre (p : Pt) : ((TrP.pre p).map wHd).flatten = wP p := flat_pre wHd wP (fun p => by cases p <;> simp [wP, wHd, restP]) _ p (Nat.le_refl _)
theorem jP_pre (p : Pt) : ((TrP.pre p).map jHd).flatten = jP p := flat_pre jHd jP (fun p => by cases p <;> simp [jP, jHd, restP]) _ p (Nat.le_refl _)
theorem flat_take {f : Pt → List Str} {ps : List Pt} {i : Nat} {p : Pt} (h : ps[i]? = some p) : ((ps.take (i + 1)).map f).flatten = ((ps.take i).map f).flatten ++ f p := by
  obtain ⟨hi, he⟩ := List.getElem?_eq_some_iff.mp h
  rw [List.take_succ_eq_append_getElem hi, he, List.map_append, List.flatten_append, List.map_singleton, List.flatten_cons, List.flatten_nil, List.append_nil]
theorem flat_le {f : Pt → List Str} (hf : ∀ p, (f p).length ≤ 1) (ps : List Pt) : ((ps.map f).flatten).length ≤ ps.length := by
  induction ps with
  | nil => exact Nat.le_refl _
  | cons p r ih =>
    have := hf p
    rw [List.map_cons, List.flatten_cons, List.length_append, List.length_cons]
    omega
theorem wHd_le (p : Pt) : (wHd p).length ≤ 1 := by cases p <;> simp [wHd]
theorem jHd_le (p : Pt) : (jHd p).length ≤ 1 := by cases p <;> simp [jHd]
theorem pre_len (p : Pt) : (TrP.pre p).length = pcnt p := by
  unfold Tre.pre
  rw [List.length_map]
  exact TrP.pl_len _ p (Nat.le_refl _)
/-- a dict comprehension over any walk -/
theorem dc_walk {J : It} {n : Nat} {G : Hp → Prop} {Y : Nat → Hp → V → Hp → Prop} (w : Walk J n G Y) {g : TG} {tt : TT} {tk tv : TE} {vs : List Nat} {σ : St} {H1 : Hp} {D : Addr} {Qd : Hp → Prop} (Pv : Nat → Hp → Prop) (h0 : Pv 0 (upd H1 D (.dK [])))
    (hG : ∀ i H, i ≤ n → Pv i H → G H)
    (hs : ∀ i x H H', i < n → Pv i H → Y i H x H' → g x (wipe σ vs) H' fun σ2 H2 => wipe σ2 vs = wipe σ vs ∧ tt σ2 H2 fun b H3 =>
      if b = true then tk σ2 H3 fun y H4 => tv σ2 H4 fun z H5 => ∃ kvs k, y = kV k ∧ H5 D = some (.dK kvs) ∧ kvs.length < sizeLine ∧ Pv (i + 1) (upd H5 D (.dK (putK kvs k z))) else Pv (i + 1) H3) (hd : ∀ H, Pv n H → Qd H) :
    ∃ W : Nat → Nat → Hp → Prop, (∃ m, W 0 m (upd H1 D (.dK []))) ∧ ∀ i m H, W i m H →
      (J.stop i H ∧ Qd H) ∨ (J.go i H ∧ ∃ Nx : Hp → Prop, (∀ H', Nx H' → ∃ m', m' < m ∧ W (i + 1) m' H') ∧ ∀ x H', J.yld i H x H' → g x (wipe σ vs) H' fun σ2 H2 => wipe σ2 vs = wipe σ vs ∧ tt σ2 H2 fun b H3 =>
        if b = true then tk σ2 H3 fun y H4 => tv σ2 H4 fun z H5 => ∃ kvs k, y = kV k ∧ H5 D = some (.dK kvs) ∧ kvs.length < sizeLine ∧ Nx (upd H5 D (.dK (putK kvs k z))) else Nx H3) := by
  refine ⟨fun i m H => m = n - i ∧ i ≤ n ∧ Pv i H, ⟨n, by simp, Nat.zero_le _, h0⟩, ?_⟩
  rintro i m H ⟨rfl, hi, p⟩
  have g1 := hG i H hi p
  by_cases c : i < n
  · exact .inr ⟨w.goes i H c g1, Pv (i + 1), fun H' p' => ⟨n - (i + 1), by omega, rfl, c, p'⟩, fun x H' y => hs i x H H' c p (w.yields i H x H' c g1 y)⟩
  · have e : i = n := by omega
    subst e
    exact .inl ⟨w.stops H g1, hd H p⟩
theorem num_step {ws : List Str} {i : Nat} {y : Str} {kvs : List (Key × V)} (hy : ws[i]? = some y) (hk : ∀ x ∈ ws.take i, valV kvs (Sum.inr x) = some (.str (numG ws i x))) : ∀ x ∈ ws.take (i + 1), valV (putK kvs (Sum.inr y) (.str (wordOf i))) (Sum.inr x) = some (.str (numG ws (i + 1) x)) := by
  obtain ⟨hj, hj2⟩ := List.getElem?_eq_some_iff.mp hy
  intro x hx
  show valV (putK kvs (Sum.inr y) (.str (wordOf i))) (Sum.inr x) = some (.str (if ws[i]? = some x then wordOf i else numG ws i x))
  rw [List.take_succ_eq_append_getElem hj, hj2] at hx
  by_cases exy : x = y
  · subst exy
    rw [valV_put, if_pos rfl, if_pos hy]
  · rw [valV_put, if_neg (fun z => exy (Sum.inr.inj z)), if_neg (by rw [hy]; intro z; exact exy (Option.some.inj z).symm)]
    rcases List.mem_append.mp hx with z | z
    · exact hk x z
    · exact absurd (List.mem_singleton.mp z) exy
theorem len26 : lettersS.length = 26 := by decide +kernel
theorem valV_none_nil {k : Key} : valV ([] : List (Key × V)) k = none := rfl
section
variable {P : Program} {w : World} {K : PySem.W.Frag} {mg : Str → Option Value} {base : Heap}
/-! ### words_met -/
def spWm : Sp := fun vs H Q _ => ∃ (r b : Addr) (ns : List Str) (p : Pt), vs = [.ref r, .ref b] ∧ H r = some (.tup (ns.map V.str)) ∧ ns.length ≤ 100 ∧ PAt H p b ∧ pcnt p ≤ 1000 ∧ ∀ l H', H l = none → Same H H' → H' l = some (.lst ((ns ++ wP p).map V.str)) → Q (.ref l) H'
abbrev swords_met : Stmt := top 12
theorem scwords_met : FnScope ["names", "body", "words", "part"] ["names", "body"] (defScope swords_met) := ⟨rfl, rfl, rfl, by decide +kernel, rfl, by decide +kernel, by decide +kernel⟩
theorem ok_wm (T : Txt K mg) {f f1 f2 : Addr} {fd d1 d2 : FuncData} (F : Fun K "words_met" "words_met" swords_met f fd) (Gmet : FnOk P w K mg base CX0 2 f1 d1 ["body", "parts"] (spMet TrP f2)) (Rmet : Ref K mg "met" f1 d1 ["body", "parts"]) (Rrest_of : Ref K mg "rest_of" f2 d2 ["part"]) : FnOk P w K mg base CX0 3 f fd ["names", "body"] spWm := by
  refine F.ok scwords_met (fun vs H Q E h => ?_) (fun cdv A outer s H vs Q E hr h => ?_)
  · obtain ⟨r, b, ns, p, rfl, _⟩ := h
    rfl
  obtain ⟨r, b, ns, p, rfl, hR, hnl, hA, hc, q⟩ := h
  refine ⟨_, (pss_cons (ps_set (i := 2) scwords_met.nd rfl (Or.inl rfl) (pe_callTy call_list_of (by rfl) T.m_list (by decide +kernel) (pa_cons (pv 0) pa_nil)))
    (pss_cons (ps_for PassesOwn.never rfl (pi_list (pe_call Gmet (hr.mono (by omega)) rfl Rmet.m Rmet.k Rmet.b .nil pass0 (pa_cons (pv 1) (pa_cons (pe_glob (v := .ref f2) rfl Rrest_of.m rfl) pa_nil)))) (pg_name (i := 3) scwords_met.nd rfl (Or.inl rfl)) (pss_one (ps_if (pt_cmpR op_in_seq (pe_ix ix_tup (pv 3) pe_int (fun _ _ => rfl)) (pe_tup (pa_cons pe_str (pa_cons pe_str pa_nil))) rfl) (pss_one (ps_expr (pe_bm PySem.F.plainAttrs_list PySem.F.slot_list_append PySem.F.type_list_append mt_append (pv 2) (pa_cons (pe_ix ix_tup (pv 3) pe_int (fun _ _ => rfl)) pa_nil)))) (pss_one (ps_if (pt_cmpR op_eq (pe_ix ix_tup (pv 3) pe_int (fun _ _ => rfl)) pe_str (nomark _)) (pss_one (ps_expr (pe_bm PySem.F.plainAttrs_list PySem.F.slot_list_append PySem.F.type_list_append mt_append (pv 2) (pa_cons (pe_ix ix_tup (pv 3) pe_int (fun _ _ => rfl)) pa_nil)))) pss_nil)))))
    (pss_one (ps_ret (pv 2))))), ?_⟩
  refine ⟨_, rfl, r, _, rfl, .inr (SqT.of hR), fun fl hfl => ?_⟩
  have s1 := same_new hfl (.lst (ns.map V.str))
  have f1' : upd H fl (.lst (ns.map V.str)) fl = some (.lst (ns.map V.str)) := upd_same
  generalize upd H fl (.lst (ns.map V.str)) = H1 at s1 f1'
  refine ⟨_, rfl, p, b, rfl, PAt.tk (tk_same s1) hA, hc, fun pm H2 its hpm s2 h2 k2 => ?_⟩
  have hits : its.length = pcnt p := by rw [k2.len, pre_len]
  have npf : pm ≠ fl := fun z => by rw [z] at hpm; rw [f1'] at hpm; cases hpm
  refine ⟨pm, rfl, ⟨_, SqL.of h2⟩, for_list (K := K) (a := pm) (xs := its) (fun i σ H' => ∃ o, σ = [some (.ref r), some (.ref b), some (.ref fl), o] ∧ Same H H' ∧ H' pm = some (.lst its) ∧ All2 (TrP.V H') (TrP.pre p) its ∧ H' fl = some (.lst ((ns ++ (((TrP.pre p).take i).map wHd).flatten).map V.str))) ?_ ?_ ?_ ?_⟩
  · refine ⟨none, rfl, s1.trans s2, h2, k2, ?_⟩
    rw [List.take_zero]
    show H2 fl = some (.lst ((ns ++ []).map V.str))
    rw [List.append_nil]
    exact s2 _ _ f1'
  · rintro i σ H' _ ⟨o, rfl, _, g1, _⟩
    exact SqL.of g1
  · rintro i x σ H3 hx ⟨o, rfl, s3, g1, k3, g2⟩
    obtain ⟨u, hu, c, rfl, hcu⟩ := k3.get hx
    have hil := (List.getElem?_eq_some_iff.mp hx).1
    have hcu : PAt H3 u c := hcu
    obtain ⟨rd, hd⟩ := hcu.head
    refine ⟨_, rfl, c, _, _, _, rfl, rfl, SqT.of hd, at0, sz (by show 2 ≤ 100000; decide), fun t ht => ?_⟩
    have s4 := same_new ht (.tup [.str "tell", .str "let"])
    have ht4 : upd H3 t (.tup [.str "tell", .str "let"]) t = some (.tup [.str "tell", .str "let"]) := upd_same
    generalize upd H3 t (.tup [.str "tell", .str "let"]) = H4 at s4 ht4
    have s34 := s3.trans s4
    have hcu4 : PAt H4 u c := PAt.tk (tk_same s4) hcu
    have g14 := s4 _ _ g1
    have g24 := s4 _ _ g2
    have k4 : All2 (TrP.V H4) (TrP.pre p) its := k3.imp fun _ _ z => Tre.V.tk (tk_same s4) z
    refine ⟨t, _, rfl, .inr (SqT.of ht4), rfl, rfl, _, rfl, ?_⟩
    have hle : ((ns ++ (((TrP.pre p).take i).map wHd).flatten).map V.str).length ≤ 1100 := by
      have h1 := flat_le wHd_le ((TrP.pre p).take i)
      have h2 : ((TrP.pre p).take i).length ≤ (TrP.pre p).length := by rw [List.length_take]; omega
      rw [pre_len] at h2
      rw [List.length_map, List.length_append]
      omega
    have put : ∀ y : Str, wHd u = [y] → (∃ o, [some (V.ref r), some (.ref b), some (.ref fl), some (.ref c)] = [some (.ref r), some (.ref b), some (.ref fl), o] ∧ Same H (upd H4 fl (.lst ((ns ++ (((TrP.pre p).take i).map wHd).flatten).map V.str ++ [.str y]))) ∧ upd H4 fl (.lst ((ns ++ (((TrP.pre p).take i).map wHd).flatten).map V.str ++ [.str y])) pm = some (.lst its) ∧
        All2 (TrP.V (upd H4 fl (.lst ((ns ++ (((TrP.pre p).take i).map wHd).flatten).map V.str ++ [.str y])))) (TrP.pre p) its ∧ upd H4 fl (.lst ((ns ++ (((TrP.pre p).take i).map wHd).flatten).map V.str ++ [.str y])) fl = some (.lst ((ns ++ (((TrP.pre p).take (i + 1)).map wHd).flatten).map V.str))) := fun y hy => by
      have tk := tk_put (o := .lst ((ns ++ (((TrP.pre p).take i).map wHd).flatten).map V.str ++ [.str y])) g24
      refine ⟨_, rfl, same_mut s34 hfl, by rw [upd_ne npf]; exact g14, k4.imp fun _ _ z => Tre.V.tk tk z, ?_⟩
      rw [upd_same, flat_take hu, hy, ← List.append_assoc, List.map_append (l₁ := ns ++ _)]
      rfl
    have keep : wHd u = [] → (∃ o, [some (V.ref r), some (.ref b), some (.ref fl), some (.ref c)] = [some (.ref r), some (.ref b), some (.ref fl), o] ∧ Same H H4 ∧ H4 pm = some (.lst its) ∧ All2 (TrP.V H4) (TrP.pre p) its ∧ H4 fl = some (.lst ((ns ++ (((TrP.pre p).take (i + 1)).map wHd).flatten).map V.str))) := fun hy => ⟨_, rfl, s34, g14, k4, by rw [flat_take hu, hy, List.append_nil]; exact g24⟩
    cases u with
    | tell x t0 p0 =>
      obtain ⟨b1, c1, e1, e2, e3⟩ := hcu4
      exact itT rfl ⟨_, rfl, .inl ⟨rfl, _, SqL.of g24⟩, _, rfl, c, _, _, _, rfl, rfl, SqT.of e1, at1, fl, _, _, rfl, rfl, g24, Nat.lt_of_le_of_lt hle (by decide), put x rfl⟩
    | lett x t0 p0 =>
      obtain ⟨b1, c1, e1, e2, e3⟩ := hcu4
      exact itT rfl ⟨_, rfl, .inl ⟨rfl, _, SqL.of g24⟩, _, rfl, c, _, _, _, rfl, rfl, SqT.of e1, at1, fl, _, _, rfl, rfl, g24, Nat.lt_of_le_of_lt hle (by decide), put x rfl⟩
    | post j x p1 p2 =>
      obtain ⟨c1, d1, e1, e2, e3⟩ := hcu4
      exact itF rfl ⟨_, rfl, c, _, _, _, rfl, rfl, SqT.of e1, at0, rfl, _, rfl, itT rfl ⟨_, rfl, .inl ⟨rfl, _, SqL.of g24⟩, _, rfl, c, _, _, _, rfl, rfl, SqT.of e1, at2, fl, _, _, rfl, rfl, g24, Nat.lt_of_le_of_lt hle (by decide), put x rfl⟩⟩
    | give j t0 =>
      obtain ⟨b1, e1, e2⟩ := hcu4
      exact itF rfl ⟨_, rfl, c, _, _, _, rfl, rfl, SqT.of e1, at0, rfl, _, rfl, itF rfl (keep rfl)⟩
    | ask f0 ts j =>
      obtain ⟨b1, vs1, e1, e2, e3⟩ := hcu4
      exact itF rfl ⟨_, rfl, c, _, _, _, rfl, rfl, SqT.of e1, at0, rfl, _, rfl, itF rfl (keep rfl)⟩
    | iff t0 p1 p2 =>
      obtain ⟨b1, c1, d1, e1, e2, e3, e4⟩ := hcu4
      exact itF rfl ⟨_, rfl, c, _, _, _, rfl, rfl, SqT.of e1, at0, rfl, _, rfl, itF rfl (keep rfl)⟩
  · rintro σ H3 ⟨o, rfl, s3, _, _, g2⟩
    rw [hits, ← pre_len, List.take_length, wP_pre] at g2
    exact ⟨_, rfl, q fl H3 hfl s3 g2⟩
/-! ### _law_by_numbers -/
def spByN : Sp := fun vs H Q _ => ∃ (l : Addr) (ws : List Str), vs = [.ref l] ∧ H l = some (.lst (ws.map V.str)) ∧ ws.length ≤ 4000 ∧ ∀ d H' kvs, H d = none → Same H H' → H' d = some (.dK kvs) → kvs.length ≤ ws.length → Tells kvs (numW ws) ws → Q (.ref d) H'
abbrev s_law_by_numbers : Stmt := top 48
theorem scLby_numbers : FnScope ["words", "letters", "found", "k", "word", "left", "told"] ["words"] (defScope s_law_by_numbers) := ⟨rfl, rfl, rfl, by decide +kernel, rfl, by decide +kernel, by decide +kernel⟩
theorem ok_Lbyn (T : Txt K mg) {f : Addr} {fd : FuncData} (F : Fun K "_law_by_numbers" "_law_by_numbers" s_law_by_numbers f fd) : FnOk P w K mg base CX0 1 f fd ["words"] spByN := by
  refine F.ok scLby_numbers (fun vs H Q E h => ?_) (fun cdv A outer s H vs Q E hr h => ?_)
  · obtain ⟨l, ws, rfl, _⟩ := h
    rfl
  obtain ⟨l, ws, rfl, hl, hz, q⟩ := h
  refine ⟨_, (pss_cons (ps_set (i := 1) scLby_numbers.nd rfl (Or.inl rfl) pe_str)
    (pss_cons (ps_set (i := 2) scLby_numbers.nd rfl (Or.inl rfl) pe_dnewK)
    (pss_cons (ps_for PassesOwn.never rfl (pi_enum (by rfl) T.m_enumerate (pa_cons (pv 0) pa_nil)) (pg_tup rfl (pgs_cons (pg_name (i := 3) scLby_numbers.nd rfl (Or.inl rfl)) (pgs_cons (pg_name (i := 4) scLby_numbers.nd rfl (Or.inl rfl)) pgs_nil))) (pss_cons (ps_set (i := 5) scLby_numbers.nd rfl (Or.inl rfl) (pv 3))
    (pss_cons (ps_set (i := 6) scLby_numbers.nd rfl (Or.inl rfl) (pe_ix ix_str (pv 1) (pe_op op_mod (pv 5) pe_int) (fun _ _ => rfl)))
    (pss_cons (ps_while PassesOwn.never (pt_cmpR op_gt (pv 5) pe_int (nomark _)) (pss_cons (ps_set (i := 5) scLby_numbers.nd rfl (Or.inl rfl) (pe_op op_fdivW (pv 5) pe_int))
    (pss_one (ps_set (i := 6) scLby_numbers.nd rfl (Or.inl rfl) (pe_op op_add_str (pe_ix ix_str (pv 1) (pe_op op_mod (pv 5) pe_int) (fun _ _ => rfl)) (pv 6))))))
    (pss_one (ps_dput (hu_of hr) (pv 2) (pv 4) (pe_op op_add_str (pv 6) pe_str) rfl))))))
    (pss_one (ps_ret (pv 2)))))), ?_⟩
  intro d hd
  have s1 := same_new hd (.dK [])
  have d1 : upd H d (.dK []) d = some (.dK []) := upd_same
  generalize upd H d (.dK []) = H1 at s1 d1
  have nld : l ≠ d := ne_of_none hl hd
  refine ⟨_, rfl, l, ws.map V.str, rfl, SqL.of (s1 _ _ hl), for_it (walk_enum (xs := ws.map V.str)) (fun i σ H' => ∃ o3 o4 o5 o6 kvs, σ = [some (.ref l), some (.str lettersS), some (.ref d), o3, o4, o5, o6] ∧ Same H H' ∧ H' d = some (.dK kvs) ∧ kvs.length ≤ i ∧ ∀ x ∈ ws.take i, valV kvs (Sum.inr x) = some (.str (numG ws i x))) ?_ ?_ ?_ ?_⟩
  · exact ⟨none, none, none, none, [], rfl, s1, d1, Nat.le_refl _, fun x hx => by rw [List.take_zero] at hx; cases hx⟩
  · rintro i σ H' _ ⟨o3, o4, o5, o6, kvs, rfl, s2, _⟩
    exact SqL.of (s2 _ _ hl)
  · rintro i x σ H2 H3 hi ⟨o3, o4, o5, o6, kvs, rfl, s2, d2, hkl, hk⟩ ⟨T0, x1, x2, rfl, hT, rfl, e1, e2⟩
    have e1' : x1 = .int (i : Nat) := (Option.some.inj e1).symm
    subst e1'
    have e2' : (ws.map V.str)[i]? = some x2 := e2
    rw [List.getElem?_map] at e2'
    obtain ⟨y, hy, rfl⟩ : ∃ y, ws[i]? = some y ∧ V.str y = x2 := by
      cases e : ws[i]? with
      | none => rw [e] at e2'; cases e2'
      | some y => rw [e] at e2'; exact ⟨y, rfl, Option.some.inj e2'⟩
    obtain ⟨hj, hj2⟩ := List.getElem?_eq_some_iff.mp hy
    have s3 := same_new hT (.tup [.int (i : Nat), .str y])
    refine ⟨T0, _, rfl, SqT.of upd_same, rfl, _, _, rfl, _, _, rfl, rfl, ?_⟩
    have s23 := s2.trans s3
    have d3 := s3 _ _ d2
    generalize upd H2 T0 (.tup [.int (i : Nat), .str y]) = H3 at s3 s23 d3
    refine ⟨_, rfl, ?_⟩
    refine ⟨_, rfl, _, rfl, _, _, rfl, rfl, (by show (0 : Int) < 26; decide), lettersS, _, _, rfl, rfl, (by decide +kernel), letters_at (Int.emod_nonneg _ (by decide)) (Int.emod_lt_of_pos _ (by decide)), ?_⟩
    -- the letters of a number
    have hd8 : (digs i).length ≤ 9 := digs_len 8 i (Nat.lt_of_lt_of_le (show i < 4000 by rw [List.length_map] at hi; omega) (by decide))
    refine ⟨fun m σ H' => ∃ (r : Nat) (c : Nat) (t : List Nat), σ = [some (.ref l), some (.str lettersS), some (.ref d), some (.int (i : Nat)), some (.str y), some (.int (r : Int)), some (.str ⟨(c :: t).toArray⟩)] ∧ H3 = H' ∧ r / 26 = m ∧ digs0 (r / 26) ++ (c :: t) = digs i, ⟨_, i, 97 + i % 26, [], ?_, rfl, rfl, ?_⟩, ?_⟩
    · congr 7
    · exact (digs_digs0 i).symm
    rintro m σ H' ⟨r, c, t, rfl, rfl, rfl, e⟩
    refine ⟨_, rfl, _, _, rfl, rfl, _, rfl, ?_⟩
    have hll : (c :: t).length ≤ 9 := by
      have := congrArg List.length e
      rw [List.length_append] at this
      omega
    by_cases cc : r ≤ 25
    · refine itF (decide_eq_false (by omega)) ?_
      have hr0 : r / 26 = 0 := by omega
      rw [hr0] at e
      have e3 : c :: t = digs i := e
      refine ⟨_, rfl, _, _, rfl, rfl, sz (by show (c :: t).toArray.size + 1 ≤ 100000; rw [List.size_toArray]; omega), ?_⟩
      refine ⟨_, rfl, _, rfl, d, _, rfl, DPut.k (k := Sum.inr y) d3 (Nat.lt_of_le_of_lt (m := 4000) (by rw [List.length_map] at hi; omega) (by decide)), ?_⟩
      have ew : ((⟨(c :: t).toArray⟩ : Str) ++ ("q" : Str)) = wordOf i := by
        rw [e3]
        show (⟨(digs i).toArray ++ (Str.ofString "q").cps⟩ : Str) = ⟨(digs i ++ [113]).toArray⟩
        congr 1
        simp
        decide +kernel
      rw [ew]
      have hlp := length_putK kvs (Sum.inr y) (V.str (wordOf i))
      refine ⟨_, _, _, _, _, rfl, same_mut s23 hd, upd_same, by omega, fun x hx => ?_⟩
      show valV (putK kvs (Sum.inr y) (.str (wordOf i))) (Sum.inr x) = some (.str (if ws[i]? = some x then wordOf i else numG ws i x))
      rw [List.take_succ_eq_append_getElem hj, hj2] at hx
      by_cases exy : x = y
      · subst exy
        rw [valV_put, if_pos rfl, if_pos hy]
      · rw [valV_put, if_neg (fun z => exy (Sum.inr.inj z)), if_neg (by rw [hy]; intro z; exact exy (Option.some.inj z).symm)]
        rcases List.mem_append.mp hx with z | z
        · exact hk x z
        · exact absurd (List.mem_singleton.mp z) exy
    · refine itT (decide_eq_true (by omega)) ⟨fun σ' H' => ∃ m', m' < r / 26 ∧ ∃ (r : Nat) (c : Nat) (t : List Nat), σ' = [some (.ref l), some (.str lettersS), some (.ref d), some (.int (i : Nat)), some (.str y), some (.int (r : Int)), some (.str ⟨(c :: t).toArray⟩)] ∧ H3 = H' ∧ r / 26 = m' ∧ digs0 (r / 26) ++ (c :: t) = digs i, fun _ _ z => z, ?_⟩
      refine ⟨_, rfl, _, _, rfl, rfl, ⟨by decide, log_many (by decide) (by decide)⟩, ?_⟩
      refine ⟨_, rfl, _, rfl, _, _, rfl, rfl, (by show (0 : Int) < 26; decide), lettersS, _, _, rfl, rfl, (by decide +kernel), letters_at (Int.emod_nonneg _ (by decide)) (Int.emod_lt_of_pos _ (by decide)), _, rfl, _, _, rfl, rfl, sz (by show 1 + (c :: t).toArray.size ≤ 100000; rw [List.size_toArray]; omega), ?_⟩
      refine ⟨r / 26 / 26, by omega, r / 26, 97 + r / 26 % 26, c :: t, ?_, rfl, rfl, ?_⟩
      · rw [str_cons]
        congr 8
      · have hne : r / 26 ≠ 0 := by omega
        rw [← e, digs0_eq hne]
        simp
  · rintro σ H2 ⟨o3, o4, o5, o6, kvs, rfl, s2, d2, hkl, hk⟩
    rw [List.length_map] at hkl
    rw [List.length_map, List.take_length] at hk
    exact ⟨_, rfl, q d H2 kvs hd s2 d2 hkl hk⟩
end
end KB

namespace KB
open PySem L2 HT

theorem wP_inn (p : Pt) : wP p = wHd p ++ ((innP p).map wP).flatten := by cases p <;> simp [wP, wHd, innP]
theorem jP_inn (p : Pt) : jP p = jHd p ++ ((innP p).map jP).flatten := by cases p <;> simp [jP, jHd, innP]
theorem hsP_post_is (p : Pt) : decide (V.str (hsP p) = V.str "post") = !(jHd p).isEmpty := by cases p <;> rfl
theorem sum_take (ps : List Pt) (i : Nat) : ((ps.take i).map pcnt).sum ≤ (ps.map pcnt).sum := take_sum ps i
theorem flat_sum (f : Pt → List Str) (hf : ∀ p, (f p).length ≤ pcnt p) (ps : List Pt) : ((ps.map f).flatten).length ≤ (ps.map pcnt).sum := by
  induction ps with
  | nil => exact Nat.le_refl _
  | cons p r ih =>
    have := hf p
    rw [List.map_cons, List.flatten_cons, List.length_append, List.map_cons, List.sum_cons]
    omega
section
variable {P : Program} {w : World} {K : PySem.W.Frag} {mg : Str → Option Value} {base : Heap}
/-! ### posts_met -/
def spPm : Sp := fun vs H Q _ => ∃ (b : Addr) (p : Pt), vs = [.ref b] ∧ PAt H p b ∧ pcnt p ≤ 1000 ∧ ∀ l H', H l = none → Same H H' → H' l = some (.lst ((jP p).map V.str)) → Q (.ref l) H'
abbrev sposts_met : Stmt := top 13
theorem scposts_met : FnScope ["body", "part"] ["body"] (defScope sposts_met) := ⟨rfl, rfl, rfl, by decide +kernel, rfl, by decide +kernel, by decide +kernel⟩
theorem ok_pm (T : Txt K mg) {f f1 f2 : Addr} {fd d1 d2 : FuncData} (F : Fun K "posts_met" "posts_met" sposts_met f fd) (Gmet : FnOk P w K mg base CX0 2 f1 d1 ["body", "parts"] (spMet TrP f2)) (Rmet : Ref K mg "met" f1 d1 ["body", "parts"]) (Rrest_of : Ref K mg "rest_of" f2 d2 ["part"]) : FnOk P w K mg base CX0 3 f fd ["body"] spPm := by
  refine F.ok scposts_met (fun vs H Q E h => ?_) (fun cdv A outer s H vs Q E hr h => ?_)
  · obtain ⟨b, p, rfl, _⟩ := h
    rfl
  obtain ⟨b, p, rfl, hA, hc, q⟩ := h
  refine ⟨_, (pss_one (ps_ret (pe_lc (own := [("part", 1)]) (g := gName 1) (tt := tTest (tOp rEq (tOp (rIxT K) (tVar 1) (tC (.int 0))) (tC (.str "post")))) (te := tOp (rIxT K) (tVar 1) (tC (.int 1))) (by rfl) scposts_met.nd (pi_list (pe_call Gmet (hr.mono (by omega)) rfl Rmet.m Rmet.k Rmet.b .nil pass0 (pa_cons (pv 0) (pa_cons (pe_glob (v := .ref f2) rfl Rrest_of.m rfl) pa_nil)))) (blkOk_by (own := [("part", 1)]) (N := ["body", "part"]) (sc := defScope sposts_met) (by decide +kernel)) (fun _ _ _ _ _ => (pg_name (i := 1) scposts_met.nd rfl (Or.inl rfl))) (fun _ _ _ _ _ => (pts_one (pt_cmpR op_eq (pe_ix ix_tup (pv 1) pe_int (fun _ _ => rfl)) pe_str (nomark _)))) (fun _ _ _ _ _ => (pe_ix ix_tup (pv 1) pe_int (fun _ _ => rfl)))))), ?_⟩
  refine ⟨_, rfl, p, b, rfl, hA, hc, fun pm H2 its hpm s2 h2 k2 => ?_⟩
  have hits : its.length = pcnt p := by rw [k2.len, pre_len]
  refine ⟨pm, rfl, ⟨_, SqL.of h2⟩, fun D hD => lc_list (K := K) (a := pm) (xs := its) (fun i H' => Same H2 H' ∧ H' D = some (.lst ((((TrP.pre p).take i).map jHd).flatten.map V.str))) ⟨same_new hD _, by rw [List.take_zero]; exact upd_same⟩ ?_ ?_ ?_⟩
  · rintro i H' _ ⟨s4, _⟩
    exact SqL.of (s4 _ _ h2)
  · rintro i x H4 hx ⟨s4, h4⟩
    obtain ⟨u, hu, c, rfl, hcu⟩ := k2.get hx
    have hcu4 : PAt H4 u c := PAt.tk (tk_same s4) hcu
    obtain ⟨rd, hd⟩ := hcu4.head
    have hle : ((((TrP.pre p).take i).map jHd).flatten.map V.str).length ≤ 1000 := by
      have h1 := flat_le jHd_le ((TrP.pre p).take i)
      have h2 : ((TrP.pre p).take i).length ≤ (TrP.pre p).length := by rw [List.length_take]; omega
      rw [pre_len] at h2
      rw [List.length_map]
      omega
    refine ⟨rfl, ?_⟩
    refine ⟨_, rfl, c, _, _, _, rfl, rfl, SqT.of hd, at0, rfl, _, rfl, ?_⟩
    rw [hsP_post_is]
    cases u with
    | post j x p1 p2 =>
      obtain ⟨c1, d1, e1, e2, e3⟩ := hcu4
      refine iteT ⟨_, rfl, c, _, _, _, rfl, rfl, SqT.of e1, at1, _, h4, Nat.lt_of_le_of_lt hle (by decide), same_mut s4 hD, ?_⟩
      rw [upd_same, flat_take hu, List.map_append]
      rfl
    | _ =>
      refine iteF ⟨s4, ?_⟩
      rw [flat_take hu]
      rw [h4]
      exact congrArg (fun z => some (HO.lst (List.map V.str z))) (List.append_nil _).symm
  · rintro H4 ⟨s4, h4⟩
    rw [hits, ← pre_len, List.take_length, jP_pre] at h4
    exact q D H4 (s2.free hD) (s2.trans s4) h4
/-! ### numbered -/
def spNbd : Sp := fun vs H Q _ => ∃ (l : Addr) (ws : List Str), vs = [.ref l] ∧ H l = some (.lst (ws.map V.str)) ∧ ws.length ≤ 4000 ∧ ∀ d H' kvs, H d = none → Same H H' → H' d = some (.dK kvs) → kvs.length ≤ ws.length → Tells kvs (numW ws) ws → Q (.ref d) H'
abbrev snumbered : Stmt := top 20
theorem scnumbered : FnScope ["words", "k", "word"] ["words"] (defScope snumbered) := ⟨rfl, rfl, rfl, by decide +kernel, rfl, by decide +kernel, by decide +kernel⟩
theorem ok_nbd (T : Txt K mg) {f f1 : Addr} {fd d1 : FuncData} (F : Fun K "numbered" "numbered" snumbered f fd) (Gword_of : FnOk P w K mg base CX0 1 f1 d1 ["k"] spWordOf) (Rword_of : Ref K mg "word_of" f1 d1 ["k"]) : FnOk P w K mg base CX0 2 f fd ["words"] spNbd := by
  refine F.ok scnumbered (fun vs H Q E h => ?_) (fun cdv A outer s H vs Q E hr h => ?_)
  · obtain ⟨l, ws, rfl, _⟩ := h
    rfl
  obtain ⟨l, ws, rfl, hl, hz, q⟩ := h
  refine ⟨_, (pss_one (ps_ret (pe_dc (own := [("k", 1), ("word", 2)]) (g := gTup K 2 (gCons (gName 1) (gCons (gName 2) gNil))) (tt := tYes) (tk := tVar 2) (tv := tCall spWordOf [] E0 (tCons (tVar 1) tNil)) (by rfl) scnumbered.nd (pi_enum (by rfl) T.m_enumerate (pa_cons (pv 0) pa_nil)) (blkOk_by (own := [("k", 1), ("word", 2)]) (N := ["words", "k", "word"]) (sc := defScope snumbered) (by decide +kernel)) (fun _ _ _ _ _ => (pg_tup rfl (pgs_cons (pg_name (i := 1) scnumbered.nd rfl (Or.inl rfl)) (pgs_cons (pg_name (i := 2) scnumbered.nd rfl (Or.inl rfl)) pgs_nil)))) (fun _ _ _ _ _ => pts_nil) (fun _ _ _ _ _ => (pv 2)) (fun _ _ _ _ _ => (pe_call Gword_of (hr.mono (by omega)) rfl Rword_of.m Rword_of.k Rword_of.b .nil pass0 (pa_cons (pv 1) pa_nil)))))), ?_⟩
  refine ⟨_, rfl, l, ws.map V.str, rfl, SqL.of hl, fun D hD => dc_walk (walk_enum (xs := ws.map V.str)) (fun i H' => ∃ kvs, Same H H' ∧ H' D = some (.dK kvs) ∧ kvs.length ≤ i ∧ ∀ x ∈ ws.take i, valV kvs (Sum.inr x) = some (.str (numG ws i x))) ⟨[], same_new hD _, upd_same, Nat.le_refl _, fun x hx => by rw [List.take_zero] at hx; cases hx⟩ ?_ ?_ ?_⟩
  · rintro i H' _ ⟨kvs, s2, _⟩
    exact SqL.of (s2 _ _ hl)
  · rintro i x H2 H3 hi ⟨kvs, s2, d2, hkl, hk⟩ ⟨T0, x1, x2, rfl, hT, rfl, e1, e2⟩
    have e1' : x1 = .int (i : Nat) := (Option.some.inj e1).symm
    subst e1'
    have e2' : (ws.map V.str)[i]? = some x2 := e2
    rw [List.getElem?_map] at e2'
    obtain ⟨y, hy, rfl⟩ : ∃ y, ws[i]? = some y ∧ V.str y = x2 := by
      cases e : ws[i]? with
      | none => rw [e] at e2'; cases e2'
      | some y => rw [e] at e2'; exact ⟨y, rfl, Option.some.inj e2'⟩
    have hj := (List.getElem?_eq_some_iff.mp hy).1
    have s3 := same_new hT (.tup [.int (i : Nat), .str y])
    refine ⟨T0, _, rfl, SqT.of upd_same, rfl, _, _, rfl, _, _, rfl, rfl, rfl, ?_⟩
    dsimp only [tYes]
    refine iteT ⟨_, rfl, _, rfl, i, rfl, Nat.lt_of_lt_of_le (show i < 4000 by omega) (by decide), kvs, Sum.inr y, rfl, s3 _ _ d2, Nat.lt_of_le_of_lt (m := 4000) (by omega) (by decide), ?_⟩
    have hlp := length_putK kvs (Sum.inr y) (V.str (wordOf i))
    exact ⟨_, same_mut (s2.trans s3) hD, upd_same, by omega, num_step hy hk⟩
  · rintro H2 ⟨kvs, s2, d2, hkl, hk⟩
    rw [List.length_map] at hkl
    rw [List.length_map, List.take_length] at hk
    exact q D H2 kvs hD s2 d2 hkl hk
/-! ### _law_twords -/
def spTw (n : Nat) : Sp := fun vs H Q _ => ∃ (a : Addr) (p : Pt), vs = [.ref a] ∧ PAt H p a ∧ pcnt p ≤ n ∧ pcnt p ≤ 1000 ∧ ∀ l H', H l = none → Same H H' → H' l = some (.lst ((wP p).map V.str)) → Q (.ref l) H'
abbrev s_law_twords : Stmt := top 44
theorem scLtwords : FnScope ["part", "found", "one"] ["part"] (defScope s_law_twords) := ⟨rfl, rfl, rfl, by decide +kernel, rfl, by decide +kernel, by decide +kernel⟩
theorem ok_tw {n : Nat} {f f1 : Addr} {fd d1 : FuncData} (F : Fun K "_law_twords" "_law_twords" s_law_twords f fd) (G_law_twords : FnOk P w K mg base CX0 (n + 1) f fd ["part"] (spTw n)) (R_law_twords : Ref K mg "_law_twords" f fd ["part"])
    (G_law_inner : FnOk P w K mg base CX0 1 f1 d1 ["part"] spInn) (R_law_inner : Ref K mg "_law_inner" f1 d1 ["part"]) : FnOk P w K mg base CX0 (n + 2) f fd ["part"] (spTw (n + 1)) := by
  refine F.ok scLtwords (fun vs H Q E h => ?_) (fun cdv A outer s H vs Q E hr h => ?_)
  · obtain ⟨a, p, rfl, _⟩ := h
    rfl
  obtain ⟨a, p, rfl, hA, hn, hc, q⟩ := h
  refine ⟨_, (pss_cons (ps_set (i := 1) scLtwords.nd rfl (Or.inl rfl) (pe_lst pa_nil))
    (pss_cons (ps_if (pt_cmpR op_in_seq (pe_ix ix_tup (pv 0) pe_int (fun _ _ => rfl)) (pe_tup (pa_cons pe_str (pa_cons pe_str pa_nil))) rfl) (pss_one (ps_expr (pe_bm PySem.F.plainAttrs_list PySem.F.slot_list_append PySem.F.type_list_append mt_append (pv 1) (pa_cons (pe_ix ix_tup (pv 0) pe_int (fun _ _ => rfl)) pa_nil)))) pss_nil)
    (pss_cons (ps_if (pt_cmpR op_eq (pe_ix ix_tup (pv 0) pe_int (fun _ _ => rfl)) pe_str (nomark _)) (pss_one (ps_expr (pe_bm PySem.F.plainAttrs_list PySem.F.slot_list_append PySem.F.type_list_append mt_append (pv 1) (pa_cons (pe_ix ix_tup (pv 0) pe_int (fun _ _ => rfl)) pa_nil)))) pss_nil)
    (pss_cons (ps_for PassesOwn.never rfl (pi_tup (pe_call G_law_inner (hr.mono (by omega)) rfl R_law_inner.m R_law_inner.k R_law_inner.b .nil pass0 (pa_cons (pv 0) pa_nil))) (pg_name (i := 2) scLtwords.nd rfl (Or.inl rfl)) (pss_one (ps_expr (pe_bm PySem.F.plainAttrs_list PySem.F.slot_list_extend PySem.F.type_list_extend mt_extend (pv 1) (pa_cons (pe_call G_law_twords (hr.mono (by omega)) rfl R_law_twords.m R_law_twords.k R_law_twords.b .nil pass0 (pa_cons (pv 2) pa_nil)) pa_nil)))))
    (pss_one (ps_ret (pv 1))))))), ?_⟩
  have hck := pcnt_inn p
  refine ⟨sz (by show 0 ≤ 100000; decide), fun fl hfl => ?_⟩
  have s0 := same_new hfl (.lst [])
  have f0 : upd H fl (.lst []) fl = some (.lst []) := upd_same
  generalize upd H fl (.lst []) = H0 at s0 f0
  have hA0 := PAt.tk (tk_same s0) hA
  obtain ⟨rd, hd⟩ := hA0.head
  have tail : ∀ H1, Same H H1 → H1 fl = some (.lst ((wHd p).map V.str)) → (tSeq (tFor (iTup K (tCall spInn [] E0 (tCons (tVar 0) tNil))) (gName 2) (tDrop (tBM K "list" rExtend (tVar 1) (tCons (tCall (spTw n) [] E0 (tCons (tVar 2) tNil)) tNil)))) (tRet (tVar 1))) { nx := fun x H' => Q V.non H', rt := Q } [some (.ref a), some (.ref fl), none] H1 := by
    intro H1 s1 h1
    refine ⟨_, rfl, a, p, rfl, PAt.tk (tk_same s1) hA, fun pi H2 us s2 h2 k2 => ?_⟩
    have s12 := s1.trans s2
    refine ⟨pi, rfl, ⟨_, SqT.of h2⟩, for_tup (xs := us) (fun i σ H' => ∃ o, σ = [some (.ref a), some (.ref fl), o] ∧ Same H H' ∧ TK H2 H' ∧ H' fl = some (.lst ((wHd p ++ (((innP p).take i).map wP).flatten).map V.str))) ?_ ?_ ?_ ?_⟩
    · refine ⟨_, rfl, s12, fun _ _ z => z, ?_⟩
      rw [List.take_zero]
      show H2 fl = some (.lst ((wHd p ++ []).map V.str))
      rw [List.append_nil]
      exact s2 _ _ h1
    · rintro i σ H' _ ⟨o, rfl, _, t3, _⟩
      exact SqT.of (t3 _ _ h2)
    · rintro i x σ H3 hx ⟨o, rfl, s3, t3, g3⟩
      obtain ⟨u, hu, b, rfl, hb⟩ := k2.get hx
      have hct := mem_sum (mem_of_get hu)
      refine ⟨_, rfl, .inl ⟨rfl, _, SqL.of g3⟩, _, rfl, b, u, rfl, PAt.tk t3 hb, by omega, by omega, fun l4 H4 hl4 s4 h4 => ?_⟩
      have g4 := s4 _ _ g3
      have e1 : ((wHd p ++ (((innP p).take i).map wP).flatten).map V.str).length ≤ 1001 := by
        have h1 := flat_sum wP wP_len ((innP p).take i)
        have h2 := sum_take (innP p) i
        have h3 := wHd_le p
        rw [List.length_map, List.length_append]
        omega
      have e2 : ((wP u).map V.str).length ≤ 1000 := by
        have := wP_len u
        rw [List.length_map]; omega
      refine ⟨fl, l4, _, _, rfl, rfl, g4, h4, sz (by omega), ?_⟩
      refine ⟨_, rfl, same_mut (s3.trans s4) hfl, t3.trans ((tk_same s4).trans (tk_put g4)), ?_⟩
      rw [upd_same, flat_take hu, ← List.map_append, List.append_assoc]
    · rintro σ H3 ⟨o, rfl, s3, t3, g3⟩
      refine ⟨_, rfl, q fl H3 hfl s3 ?_⟩
      rw [k2.len, List.take_length, ← wP_inn] at g3
      exact g3
  refine ⟨_, rfl, a, _, _, _, rfl, rfl, SqT.of hd, at0, sz (by show 2 ≤ 100000; decide), fun t ht => ?_⟩
  have s4 := same_new ht (.tup [.str "let", .str "tell"])
  have ht4 : upd H0 t (.tup [.str "let", .str "tell"]) t = some (.tup [.str "let", .str "tell"]) := upd_same
  generalize upd H0 t (.tup [.str "let", .str "tell"]) = H4 at s4 ht4
  have s04 := s0.trans s4
  have g4 := s4 _ _ f0
  have hA4 : PAt H4 p a := PAt.tk (tk_same s4) hA0
  refine ⟨t, _, rfl, .inr (SqT.of ht4), rfl, rfl, _, rfl, ?_⟩
  have big : ([] : List V).length < sizeLine := by decide
  cases p with
  | tell x t0 p0 =>
    obtain ⟨b1, c1, e1, e2, e3⟩ := hA4
    have tk := tk_put (o := .lst ([] ++ [V.str x])) g4
    exact itT rfl ⟨_, rfl, .inl ⟨rfl, _, SqL.of g4⟩, _, rfl, a, _, _, _, rfl, rfl, SqT.of e1, at1, fl, _, _, rfl, rfl, g4, big, ⟨_, rfl, a, _, _, _, rfl, rfl, SqT.of (tk _ _ e1), at0, rfl, _, rfl, itF rfl (tail _ (same_mut s04 hfl) upd_same)⟩⟩
  | lett x t0 p0 =>
    obtain ⟨b1, c1, e1, e2, e3⟩ := hA4
    have tk := tk_put (o := .lst ([] ++ [V.str x])) g4
    exact itT rfl ⟨_, rfl, .inl ⟨rfl, _, SqL.of g4⟩, _, rfl, a, _, _, _, rfl, rfl, SqT.of e1, at1, fl, _, _, rfl, rfl, g4, big, ⟨_, rfl, a, _, _, _, rfl, rfl, SqT.of (tk _ _ e1), at0, rfl, _, rfl, itF rfl (tail _ (same_mut s04 hfl) upd_same)⟩⟩
  | post j x p1 p2 =>
    obtain ⟨c1, d1, e1, e2, e3⟩ := hA4
    exact itF rfl ⟨_, rfl, a, _, _, _, rfl, rfl, SqT.of e1, at0, rfl, _, rfl, itT rfl ⟨_, rfl, .inl ⟨rfl, _, SqL.of g4⟩, _, rfl, a, _, _, _, rfl, rfl, SqT.of e1, at2, fl, _, _, rfl, rfl, g4, big, tail _ (same_mut s04 hfl) upd_same⟩⟩
  | give j t0 =>
    obtain ⟨b1, e1, e2⟩ := hA4
    exact itF rfl ⟨_, rfl, a, _, _, _, rfl, rfl, SqT.of e1, at0, rfl, _, rfl, itF rfl (tail _ s04 g4)⟩
  | ask f0 ts j =>
    obtain ⟨b1, vs1, e1, e2, e3⟩ := hA4
    exact itF rfl ⟨_, rfl, a, _, _, _, rfl, rfl, SqT.of e1, at0, rfl, _, rfl, itF rfl (tail _ s04 g4)⟩
  | iff t0 p1 p2 =>
    obtain ⟨b1, c1, d1, e1, e2, e3, e4⟩ := hA4
    exact itF rfl ⟨_, rfl, a, _, _, _, rfl, rfl, SqT.of e1, at0, rfl, _, rfl, itF rfl (tail _ s04 g4)⟩
theorem no_tw {f : Addr} {fd : FuncData} : FnOk P w K mg base CX0 1 f fd ["part"] (spTw 0) := by
  have no : ∀ vs H Q E, ¬ spTw 0 vs H Q E := fun vs H Q E h => by
    obtain ⟨a, p, _, _, h0, _⟩ := h
    have := pcnt_inn p
    omega
  exact ⟨fun vs H Q E h => absurd h (no vs H Q E), fun A outer s H args us vs Q E _ _ _ _ h => absurd h (no vs H Q E)⟩
theorem all_tw {f f1 : Addr} {fd d1 : FuncData} (F : Fun K "_law_twords" "_law_twords" s_law_twords f fd) (R_law_twords : Ref K mg "_law_twords" f fd ["part"])
    (G_law_inner : FnOk P w K mg base CX0 1 f1 d1 ["part"] spInn) (R_law_inner : Ref K mg "_law_inner" f1 d1 ["part"]) : ∀ n : Nat, FnOk P w K mg base CX0 (n + 1) f fd ["part"] (spTw n)
  | 0 => no_tw
  | n + 1 => ok_tw F (all_tw F R_law_twords G_law_inner R_law_inner n) R_law_twords G_law_inner R_law_inner
/-! ### _law_tposts -/
def spTp (n : Nat) : Sp := fun vs H Q _ => ∃ (a : Addr) (p : Pt), vs = [.ref a] ∧ PAt H p a ∧ pcnt p ≤ n ∧ pcnt p ≤ 1000 ∧ ∀ l H', H l = none → Same H H' → H' l = some (.lst ((jP p).map V.str)) → Q (.ref l) H'
abbrev s_law_tposts : Stmt := top 45
theorem scLtposts : FnScope ["part", "found", "one"] ["part"] (defScope s_law_tposts) := ⟨rfl, rfl, rfl, by decide +kernel, rfl, by decide +kernel, by decide +kernel⟩
theorem ok_tp {n : Nat} {f f1 : Addr} {fd d1 : FuncData} (F : Fun K "_law_tposts" "_law_tposts" s_law_tposts f fd) (G_law_tposts : FnOk P w K mg base CX0 (n + 1) f fd ["part"] (spTp n)) (R_law_tposts : Ref K mg "_law_tposts" f fd ["part"])
    (G_law_inner : FnOk P w K mg base CX0 1 f1 d1 ["part"] spInn) (R_law_inner : Ref K mg "_law_inner" f1 d1 ["part"]) : FnOk P w K mg base CX0 (n + 2) f fd ["part"] (spTp (n + 1)) := by
  refine F.ok scLtposts (fun vs H Q E h => ?_) (fun cdv A outer s H vs Q E hr h => ?_)
  · obtain ⟨a, p, rfl, _⟩ := h
    rfl
  obtain ⟨a, p, rfl, hA, hn, hc, q⟩ := h
  refine ⟨_, (pss_cons (ps_set (i := 1) scLtposts.nd rfl (Or.inl rfl) (pe_ifExp (pt_cmpR op_eq (pe_ix ix_tup (pv 0) pe_int (fun _ _ => rfl)) pe_str (nomark _)) (pe_lst (pa_cons (pe_ix ix_tup (pv 0) pe_int (fun _ _ => rfl)) pa_nil)) (pe_lst pa_nil)))
    (pss_cons (ps_for PassesOwn.never rfl (pi_tup (pe_call G_law_inner (hr.mono (by omega)) rfl R_law_inner.m R_law_inner.k R_law_inner.b .nil pass0 (pa_cons (pv 0) pa_nil))) (pg_name (i := 2) scLtposts.nd rfl (Or.inl rfl)) (pss_one (ps_expr (pe_bm PySem.F.plainAttrs_list PySem.F.slot_list_extend PySem.F.type_list_extend mt_extend (pv 1) (pa_cons (pe_call G_law_tposts (hr.mono (by omega)) rfl R_law_tposts.m R_law_tposts.k R_law_tposts.b .nil pass0 (pa_cons (pv 2) pa_nil)) pa_nil)))))
    (pss_one (ps_ret (pv 1))))), ?_⟩
  have hck := pcnt_inn p
  obtain ⟨rd, hd⟩ := hA.head
  have tail : ∀ fl, H fl = none → (tSeq (tFor (iTup K (tCall spInn [] E0 (tCons (tVar 0) tNil))) (gName 2) (tDrop (tBM K "list" rExtend (tVar 1) (tCons (tCall (spTp n) [] E0 (tCons (tVar 2) tNil)) tNil)))) (tRet (tVar 1))) { nx := fun x H' => Q V.non H', rt := Q } [some (.ref a), some (.ref fl), none] (upd H fl (.lst ((jHd p).map V.str))) := by
    intro fl hfl
    have s1 := same_new hfl (.lst ((jHd p).map V.str))
    have h1 : upd H fl (.lst ((jHd p).map V.str)) fl = some (.lst ((jHd p).map V.str)) := upd_same
    generalize upd H fl (.lst ((jHd p).map V.str)) = H1 at s1 h1
    refine ⟨_, rfl, a, p, rfl, PAt.tk (tk_same s1) hA, fun pi H2 us s2 h2 k2 => ?_⟩
    have s12 := s1.trans s2
    refine ⟨pi, rfl, ⟨_, SqT.of h2⟩, for_tup (xs := us) (fun i σ H' => ∃ o, σ = [some (.ref a), some (.ref fl), o] ∧ Same H H' ∧ TK H2 H' ∧ H' fl = some (.lst ((jHd p ++ (((innP p).take i).map jP).flatten).map V.str))) ?_ ?_ ?_ ?_⟩
    · refine ⟨_, rfl, s12, fun _ _ z => z, ?_⟩
      rw [List.take_zero]
      show H2 fl = some (.lst ((jHd p ++ []).map V.str))
      rw [List.append_nil]
      exact s2 _ _ h1
    · rintro i σ H' _ ⟨o, rfl, _, t3, _⟩
      exact SqT.of (t3 _ _ h2)
    · rintro i x σ H3 hx ⟨o, rfl, s3, t3, g3⟩
      obtain ⟨u, hu, b, rfl, hb⟩ := k2.get hx
      have hct := mem_sum (mem_of_get hu)
      refine ⟨_, rfl, .inl ⟨rfl, _, SqL.of g3⟩, _, rfl, b, u, rfl, PAt.tk t3 hb, by omega, by omega, fun l4 H4 hl4 s4 h4 => ?_⟩
      have g4 := s4 _ _ g3
      have e1 : ((jHd p ++ (((innP p).take i).map jP).flatten).map V.str).length ≤ 1001 := by
        have h1 := flat_sum jP jP_len ((innP p).take i)
        have h2 := sum_take (innP p) i
        have h3 := jHd_le p
        rw [List.length_map, List.length_append]
        omega
      have e2 : ((jP u).map V.str).length ≤ 1000 := by
        have := jP_len u
        rw [List.length_map]; omega
      refine ⟨fl, l4, _, _, rfl, rfl, g4, h4, sz (by omega), ?_⟩
      refine ⟨_, rfl, same_mut (s3.trans s4) hfl, t3.trans ((tk_same s4).trans (tk_put g4)), ?_⟩
      rw [upd_same, flat_take hu, ← List.map_append, List.append_assoc]
    · rintro σ H3 ⟨o, rfl, s3, t3, g3⟩
      refine ⟨_, rfl, q fl H3 hfl s3 ?_⟩
      rw [k2.len, List.take_length, ← jP_inn] at g3
      exact g3
  refine ⟨_, rfl, a, _, _, _, rfl, rfl, SqT.of hd, at0, rfl, _, rfl, ?_⟩
  cases p with
  | post j x p1 p2 =>
    obtain ⟨c1, d1, e1, e2, e3⟩ := hA
    exact itT rfl ⟨_, rfl, a, _, _, _, rfl, rfl, SqT.of e1, at1, sz (by show 1 ≤ 100000; decide), tail⟩
  | _ => exact itF rfl ⟨sz (by show 0 ≤ 100000; decide), tail⟩
theorem no_tp {f : Addr} {fd : FuncData} : FnOk P w K mg base CX0 1 f fd ["part"] (spTp 0) := by
  have no : ∀ vs H Q E, ¬ spTp 0 vs H Q E := fun vs H Q E h => by
    obtain ⟨a, p, _, _, h0, _⟩ := h
    have := pcnt_inn p
    omega
  exact ⟨fun vs H Q E h => absurd h (no vs H Q E), fun A outer s H args us vs Q E _ _ _ _ h => absurd h (no vs H Q E)⟩
theorem all_tp {f f1 : Addr} {fd d1 : FuncData} (F : Fun K "_law_tposts" "_law_tposts" s_law_tposts f fd) (R_law_tposts : Ref K mg "_law_tposts" f fd ["part"])
    (G_law_inner : FnOk P w K mg base CX0 1 f1 d1 ["part"] spInn) (R_law_inner : Ref K mg "_law_inner" f1 d1 ["part"]) : ∀ n : Nat, FnOk P w K mg base CX0 (n + 1) f fd ["part"] (spTp n)
  | 0 => no_tp
  | n + 1 => ok_tp F (all_tp F R_law_tposts G_law_inner R_law_inner n) R_law_tposts G_law_inner R_law_inner
end
end KB

namespace KB
open PySem L2 HT

theorem lay_len {H : Hp} {a : Addr} {h : Hd} {xs : List V} (l : Lay H a h xs) : xs.length ≤ 4 := by
  cases h with
  | num z => rw [l.1]; exact Nat.zero_le _
  | nam z => rw [l.1]; exact Nat.zero_le _
  | ask f => exact l.1
  | plus => have e := l.1; omega
  | less => have e := l.1; omega
  | tell => have e := l.1; omega
  | lett x => have e := l.1; omega
  | iff => have e := l.1; omega
theorem stk_of {H : Hp} : ∀ {ts : List Tm} {vs : List V}, All2 (RefV H) ts vs → Stk H vs ts
  | [], [], _ => trivial
  | t :: ts, v :: vs, h => ⟨h.1, stk_of h.2⟩
  | [], _ :: _, h => h.elim
  | _ :: _, [], h => h.elim
theorem HtLe.kid {n : Nat} {t u : Tm} (h : HtLe (n + 1) t) (m : u ∈ kidsT t) : HtLe n u := by
  obtain ⟨hd, k, c⟩ := t
  obtain ⟨i, rfl⟩ := List.mem_ofFn.mp m
  exact h i
section
variable {P : Program} {w : World} {K : PySem.W.Frag} {mg : Str → Option Value} {base : Heap}
/-! ### _law_parts -/
abbrev s_law_parts : Stmt := top 33
theorem scLparts : FnScope ["term"] ["term"] (defScope s_law_parts) := ⟨rfl, rfl, rfl, by decide +kernel, rfl, by decide +kernel, by decide +kernel⟩
theorem ok_Lparts (T : Txt K mg) {f : Addr} {fd : FuncData} (F : Fun K "_law_parts" "_law_parts" s_law_parts f fd) : FnOk P w K mg base CX0 1 f fd ["term"] spParts := by
  refine F.ok scLparts (fun vs H Q E h => ?_) (fun cdv A outer s H vs Q E hr h => ?_)
  · obtain ⟨a, h, xs, rfl, _⟩ := h
    rfl
  obtain ⟨a, h, xs, rfl, l, q⟩ := h
  refine ⟨_, (pss_cons (ps_if (pt_cmpR op_in_seq (pe_ix ix_tup (pv 0) pe_int (fun _ _ => rfl)) (pe_tup (pa_cons pe_str (pa_cons pe_str pa_nil))) rfl) (pss_one (ps_ret (pe_tup pa_nil))) pss_nil)
    (pss_cons (ps_if (pt_cmpR op_eq (pe_ix ix_tup (pv 0) pe_int (fun _ _ => rfl)) pe_str (nomark _)) (pss_one (ps_ret (pe_ix ix_tup (pv 0) pe_int (fun _ _ => rfl)))) pss_nil)
    (pss_one (ps_ret (pe_slice sl_tupA (pv 0) (po_some (pe_op op_add pe_int (pe_callTy call_int1 (by rfl) T.m_int (by decide +kernel) (pa_cons (pe_cmpR op_eq (pe_ix ix_tup (pv 0) pe_int (fun _ _ => rfl)) pe_str (nomark _)) pa_nil)))) po_none))))), ?_⟩
  obtain ⟨r, hd⟩ := l.head
  refine ⟨_, rfl, a, _, _, _, rfl, rfl, SqT.of hd, at0, sz (by show 2 ≤ 100000; decide), fun t ht => ?_⟩
  have s1 := same_new ht (.tup [.str "number", .str "name"])
  refine ⟨t, _, rfl, .inr (SqT.of upd_same), rfl, rfl, _, rfl, ?_⟩
  cases h with
  | num z =>
    refine itT rfl ⟨sz (by decide), fun p hp => q p _ (s1.trans (same_new hp _)) ?_⟩
    rw [l.1, upd_same]
  | nam z =>
    refine itT rfl ⟨sz (by decide), fun p hp => q p _ (s1.trans (same_new hp _)) ?_⟩
    rw [l.1, upd_same]
  | ask f =>
    obtain ⟨l1, p, l2, l3⟩ := l
    refine itF rfl ⟨_, rfl, a, _, _, _, rfl, rfl, SqT.of (s1 _ _ l2), at0, rfl, _, rfl, ?_⟩
    refine itT rfl ⟨_, rfl, a, _, _, _, rfl, rfl, SqT.of (s1 _ _ l2), at2, ?_⟩
    exact q p _ s1 (s1 _ _ l3)
  | lett x =>
    refine itF rfl ⟨_, rfl, a, _, _, _, rfl, rfl, SqT.of (s1 _ _ l.2), at0, rfl, _, rfl, ?_⟩
    refine itF rfl ⟨_, rfl, _, rfl, a, _, _, _, rfl, rfl, SqT.of (s1 _ _ l.2), at0, rfl, .inr ⟨_, rfl, _, _, rfl, rfl, _, rfl, a, _, rfl, SqT.of (s1 _ _ l.2), ?_, ?_⟩⟩
    · exact fun z => absurd z (not_whole (i := 2) (by decide) len2)
    · intro _ p hp
      refine q p _ (s1.trans (same_new hp _)) ?_
      rw [upd_same]
      exact congrArg (fun z => some (HO.tup z)) cut2
  | plus | less | tell | iff =>
    refine itF rfl ⟨_, rfl, a, _, _, _, rfl, rfl, SqT.of (s1 _ _ l.2), at0, rfl, _, rfl, ?_⟩
    refine itF rfl ⟨_, rfl, _, rfl, a, _, _, _, rfl, rfl, SqT.of (s1 _ _ l.2), at0, rfl, .inr ⟨_, rfl, _, _, rfl, rfl, _, rfl, a, _, rfl, SqT.of (s1 _ _ l.2), ?_, ?_⟩⟩
    · exact fun z => absurd z (not_whole (i := 1) (by decide) len1)
    · intro _ p hp
      refine q p _ (s1.trans (same_new hp _)) ?_
      rw [upd_same]
      exact congrArg (fun z => some (HO.tup z)) cut1

/-! ### _law_called -/
def spCalled (n : Nat) : Sp := fun vs H Q _ => ∃ (a d : Addr) (t : Tm) (kvs : List (Key × V)) (g : Str → Str), vs = [.ref a, .ref d] ∧ At H t a ∧ HtLe n t ∧ H d = some (.dK kvs) ∧ (∀ y ∈ nmsT t, valV kvs (Sum.inr y) = some (.str (g y))) ∧
  ∀ b H', Same H H' → At H' (calT g t) b → Q (.ref b) H'
abbrev s_law_called : Stmt := top 46
theorem scLcalled : FnScope ["term", "words", "parts", "part"] ["term", "words"] (defScope s_law_called) := ⟨rfl, rfl, rfl, by decide +kernel, rfl, by decide +kernel, by decide +kernel⟩
theorem ok_Lcalled (T : Txt K mg) {n : Nat} {f f1 : Addr} {fd d1 : FuncData} (F : Fun K "_law_called" "_law_called" s_law_called f fd) (G_law_called : FnOk P w K mg base CX0 (n + 1) f fd ["term", "words"] (spCalled n)) (R_law_called : Ref K mg "_law_called" f fd ["term", "words"])
    (G_law_parts : FnOk P w K mg base CX0 1 f1 d1 ["term"] spParts) (R_law_parts : Ref K mg "_law_parts" f1 d1 ["term"]) : FnOk P w K mg base CX0 (n + 2) f fd ["term", "words"] (spCalled (n + 1)) := by
  refine F.ok scLcalled (fun vs H Q E h => ?_) (fun cdv A outer s H vs Q E hr h => ?_)
  · obtain ⟨a, d, t, kvs, g, rfl, _⟩ := h
    rfl
  obtain ⟨a, d, t, kvs, g, rfl, hA, hh, hd, hk, q⟩ := h
  refine ⟨_, (pss_cons (ps_if (pt_cmpR op_eq (pe_ix ix_tup (pv 0) pe_int (fun _ _ => rfl)) pe_str (nomark _)) (pss_one (ps_ret (pv 0))) pss_nil)
    (pss_cons (ps_if (pt_cmpR op_eq (pe_ix ix_tup (pv 0) pe_int (fun _ _ => rfl)) pe_str (nomark _)) (pss_one (ps_ret (pe_tup (pa_cons pe_str (pa_cons (pe_dget (hu_of hr) (pv 1) (pe_ix ix_tup (pv 0) pe_int (fun _ _ => rfl)) (fun _ _ => rfl)) pa_nil))))) pss_nil)
    (pss_cons (ps_set (i := 2) scLcalled.nd rfl (Or.inl rfl) (pe_callTy call_tuple_of (by rfl) T.m_tuple (by decide +kernel) (pa_cons (pe_lc (own := [("part", 3)]) (g := gName 3) (tt := tYes) (te := tCall (spCalled n) [] E0 (tCons (tVar 3) (tCons (tVar 1) tNil))) (by rfl) scLcalled.nd (pi_tup (pe_call G_law_parts (hr.mono (by omega)) rfl R_law_parts.m R_law_parts.k R_law_parts.b .nil pass0 (pa_cons (pv 0) pa_nil))) (blkOk_by (own := [("part", 3)]) (N := ["term", "words", "parts", "part"]) (sc := defScope s_law_called) (by decide +kernel)) (fun _ _ _ _ _ => (pg_name (i := 3) scLcalled.nd rfl (Or.inl rfl))) (fun _ _ _ _ _ => pts_nil) (fun _ _ _ _ _ => (pe_call G_law_called hr rfl R_law_called.m R_law_called.k R_law_called.b .nil pass0 (pa_cons (pv 3) (pa_cons (pv 1) pa_nil))))) pa_nil)))
    (pss_cons (ps_if (pt_cmpR op_eq (pe_ix ix_tup (pv 0) pe_int (fun _ _ => rfl)) pe_str (nomark _)) (pss_one (ps_ret (pe_tup (pa_cons pe_str (pa_cons (pe_ix ix_tup (pv 0) pe_int (fun _ _ => rfl)) (pa_cons (pv 2) pa_nil)))))) pss_nil)
    (pss_cons (ps_if (pt_cmpR op_eq (pe_ix ix_tup (pv 0) pe_int (fun _ _ => rfl)) pe_str (nomark _)) (pss_one (ps_ret (pe_op op_catA (pe_tup (pa_cons pe_str (pa_cons (pe_dget (hu_of hr) (pv 1) (pe_ix ix_tup (pv 0) pe_int (fun _ _ => rfl)) (fun _ _ => rfl)) pa_nil))) (pv 2)))) pss_nil)
    (pss_one (ps_ret (pe_op op_catA (pe_slice sl_tupA (pv 0) po_none (po_some pe_int)) (pv 2))))))))), ?_⟩
  obtain ⟨xs, l, kk⟩ := At.kids hA
  obtain ⟨r, hr0⟩ := l.head
  have hlen : (kidsT t).length ≤ 4 := by
    have e1 := kk.len
    have e2 := lay_len l
    omega
  have ecal := calT_eq g t
  have rest : ∀ (Qn : St → Hp → Prop) (H0 : Hp), Same H H0 → (∀ p H' vs, Same H H' → H' p = some (.tup vs) → All2 (RefV H') ((kidsT t).map (calT g)) vs → Qn [some (.ref a), some (.ref d), some (.ref p), none] H') →
      (tAsg (tCB (fun xs H Q => ∃ p ys, xs = [V.ref p] ∧ ((SqL K H p ys ∧ ∀ l, H l = none → Q (.ref l) (upd H l (.tup ys))) ∨ (SqT K H p ys ∧ Q (.ref p) H))) (tCons (tLc (iTup K (tCall spParts [] E0 (tCons (tVar 0) tNil))) (gName 3) tYes (tCall (spCalled n) [] E0 (tCons (tVar 3) (tCons (tVar 1) tNil))) [3]) tNil)) (gName 2)) { nx := Qn, rt := Q } [some (.ref a), some (.ref d), none, none] H0 := by
    intro Qn H0 s0 hq
    refine ⟨_, rfl, a, hdT t, xs, rfl, l.mono s0, fun pp H1 s01 h1 => ?_⟩
    have s1 := s0.trans s01
    have k1 := kk.imp fun _ _ z => RefV.tk (tk_same s1) z
    refine ⟨pp, rfl, ⟨_, SqT.of h1⟩, fun D hD => lc_tup (K := K) (a := pp) (xs := xs) (fun i H' => Same H1 H' ∧ ∃ acc, H' D = some (.lst acc) ∧ All2 (RefV H') (((kidsT t).take i).map (calT g)) acc) ⟨same_new hD _, [], upd_same, by rw [List.take_zero]; trivial⟩ ?_ ?_ ?_⟩
    · rintro i H' _ ⟨s2, _⟩
      exact SqT.of (s2 _ _ h1)
    · rintro i x H2 hx ⟨s2, acc, h2, k2⟩
      obtain ⟨u, hu, c, rfl, hcu⟩ := k1.get hx
      obtain ⟨hj, hj2⟩ := List.getElem?_eq_some_iff.mp hu
      have hmem := mem_of_get hu
      have hl2 := k2.len
      rw [List.length_map, List.length_take] at hl2
      refine ⟨rfl, ?_⟩
      dsimp only [tYes]
      refine iteT ⟨_, rfl, _, rfl, c, d, u, kvs, g, rfl, hcu.tk (tk_same s2), hh.kid hmem, (s1.trans s2) _ _ hd, fun y hy => hk y (nms_kid hmem y hy), fun b H3 s3 hb => ?_⟩
      have h3 := s3 _ _ h2
      have tk := tk_put (o := .lst (acc ++ [.ref b])) h3
      refine ⟨acc, h3, Nat.lt_of_le_of_lt (m := 100) (by omega) (by decide), same_mut (s2.trans s3) hD, _, upd_same, ?_⟩
      rw [List.take_succ_eq_append_getElem hj, hj2, List.map_append]
      exact ((k2.imp fun _ _ z => RefV.tk (tk_same s3) z).imp fun _ _ z => RefV.tk tk z).app ⟨⟨b, rfl, hb.tk tk⟩, trivial⟩
    rintro H2 ⟨s2, acc, h2, k2⟩
    rw [k1.len, List.take_length] at k2
    refine ⟨D, acc, rfl, .inl ⟨SqL.of h2, fun p' hp' => ?_⟩⟩
    have s3 := same_new hp' (.tup acc)
    exact hq p' _ acc (s1.trans (s2.trans s3)) upd_same (k2.imp fun _ _ z => RefV.tk (tk_same s3) z)
  have word : ∀ {y : Str}, y ∈ nmsT t → ∀ {H'}, Same H H' → DGet H' d (.str y) (some (.str (g y))) := fun {y} hy _ s => by
    have e := hk _ hy
    have z := DGet.k (k := Sum.inr y) (s _ _ hd)
    rw [e] at z
    exact z
  refine ⟨_, rfl, a, _, _, _, rfl, rfl, SqT.of hr0, at0, rfl, _, rfl, ?_⟩
  rw [ecal] at q
  cases hh2 : hdT t with
  | num z =>
    rw [hh2] at q l
    refine itT rfl ⟨_, rfl, q a H (Same.refl H) (at_mkL (h := .num z) l ?_)⟩
    rw [l.1] at kk ⊢
    cases e : kidsT t with
    | nil => trivial
    | cons u us => rw [e] at kk; exact kk.elim
  | nam y =>
    rw [hh2] at q l
    refine itF rfl ⟨_, rfl, a, _, _, _, rfl, rfl, SqT.of l.2, at0, rfl, _, rfl, itT rfl ?_⟩
    refine ⟨_, rfl, _, rfl, a, _, _, _, rfl, rfl, SqT.of l.2, at1, d, _, rfl, word ((nms_hd _ (by rw [hh2]; exact List.mem_singleton.mpr rfl))) (Same.refl H), sz (by show 2 ≤ 100000; decide), fun p2 hp2 => ?_⟩
    refine q p2 _ (same_new hp2 _) (at_mkL (h := .nam (g y)) (vs := []) ⟨rfl, upd_same⟩ ?_)
    rw [l.1] at kk
    cases e : kidsT t with
    | nil => trivial
    | cons u us => rw [e] at kk; exact kk.elim
  | ask f0 =>
    rw [hh2] at q l
    obtain ⟨l4, pq, l2, l3⟩ := l
    refine itF rfl ⟨_, rfl, a, _, _, _, rfl, rfl, SqT.of l2, at0, rfl, _, rfl, itF rfl ?_⟩
    refine rest _ H (Same.refl H) fun p H' vs s1 hp k => ?_
    refine ⟨_, rfl, a, _, _, _, rfl, rfl, SqT.of (s1 _ _ l2), at0, rfl, _, rfl, itT rfl ?_⟩
    refine ⟨_, rfl, a, _, _, _, rfl, rfl, SqT.of (s1 _ _ l2), at1, _, rfl, sz (by show 3 ≤ 100000; decide), fun p2 hp2 => ?_⟩
    have s2 := same_new hp2 (.tup [.str "ask", .str f0, .ref p])
    have hl := k.len
    rw [List.length_map] at hl
    exact q p2 _ (s1.trans s2) (at_mkL (h := .ask f0) (vs := vs) ⟨by omega, p, upd_same, s2 _ _ hp⟩ (stk_of (k.imp fun _ _ z => RefV.tk (tk_same s2) z)))
  | lett y =>
    rw [hh2] at q l
    refine itF rfl ⟨_, rfl, a, _, _, _, rfl, rfl, SqT.of l.2, at0, rfl, _, rfl, itF rfl ?_⟩
    refine rest _ H (Same.refl H) fun p H' vs s1 hp k => ?_
    refine ⟨_, rfl, a, _, _, _, rfl, rfl, SqT.of (s1 _ _ l.2), at0, rfl, _, rfl, itF rfl ?_⟩
    refine ⟨_, rfl, a, _, _, _, rfl, rfl, SqT.of (s1 _ _ l.2), at0, rfl, _, rfl, itT rfl ?_⟩
    refine ⟨_, rfl, _, rfl, a, _, _, _, rfl, rfl, SqT.of (s1 _ _ l.2), at1, d, _, rfl, word ((nms_hd _ (by rw [hh2]; exact List.mem_singleton.mpr rfl))) s1, sz (by show 2 ≤ 100000; decide), fun p2 hp2 => ?_⟩
    have s2 := same_new hp2 (.tup [.str "let", .str (g y)])
    have hl := k.len
    rw [List.length_map] at hl
    refine ⟨_, rfl, catA_of upd_same (s2 _ _ hp) (by show 2 + _ ≤ 100000; omega) fun p3 H3 s3 h3 => ?_⟩
    have hl2 : vs.length = 2 := by
      have e1 := kk.len
      have e2 := l.1
      omega
    exact q p3 H3 (s1.trans (s2.trans s3)) (at_mkL (h := .lett (g y)) (vs := vs) ⟨hl2, h3⟩ (stk_of (k.imp fun _ _ z => RefV.tk (tk_same (s2.trans s3)) z)))
  | plus =>
    rw [hh2] at q l
    refine itF rfl ⟨_, rfl, a, _, _, _, rfl, rfl, SqT.of l.2, at0, rfl, _, rfl, itF rfl ?_⟩
    refine rest _ H (Same.refl H) fun p H' vs s1 hp k => ?_
    refine ⟨_, rfl, a, _, _, _, rfl, rfl, SqT.of (s1 _ _ l.2), at0, rfl, _, rfl, itF rfl ?_⟩
    refine ⟨_, rfl, a, _, _, _, rfl, rfl, SqT.of (s1 _ _ l.2), at0, rfl, _, rfl, itF rfl ?_⟩
    have hl := k.len
    rw [List.length_map] at hl
    have hl2 : vs.length = 2 := by
      have e1 := kk.len
      have e2 := l.1
      omega
    refine ⟨_, rfl, _, rfl, a, _, rfl, SqT.of (s1 _ _ l.2), ?_, ?_⟩
    · intro z
      have z2 : 1 = (V.str "plus" :: xs).length := z.2
      rw [List.length_cons, l.1] at z2
      exact absurd z2 (by decide)
    · intro _ p2 hp2
      have e1 : cutV (V.str "plus" :: xs) none (some 1) = [V.str "plus"] := rfl
      rw [e1]
      have s2 := same_new hp2 (.tup [V.str "plus"])
      refine ⟨_, rfl, catA_of upd_same (s2 _ _ hp) (by show 1 + _ ≤ 100000; omega) fun p3 H3 s3 h3 => ?_⟩
      exact q p3 H3 (s1.trans (s2.trans s3)) (at_mkL (h := .plus) (vs := vs) ⟨hl2, h3⟩ (stk_of (k.imp fun _ _ z => RefV.tk (tk_same (s2.trans s3)) z)))
  | less =>
    rw [hh2] at q l
    refine itF rfl ⟨_, rfl, a, _, _, _, rfl, rfl, SqT.of l.2, at0, rfl, _, rfl, itF rfl ?_⟩
    refine rest _ H (Same.refl H) fun p H' vs s1 hp k => ?_
    refine ⟨_, rfl, a, _, _, _, rfl, rfl, SqT.of (s1 _ _ l.2), at0, rfl, _, rfl, itF rfl ?_⟩
    refine ⟨_, rfl, a, _, _, _, rfl, rfl, SqT.of (s1 _ _ l.2), at0, rfl, _, rfl, itF rfl ?_⟩
    have hl := k.len
    rw [List.length_map] at hl
    have hl2 : vs.length = 2 := by
      have e1 := kk.len
      have e2 := l.1
      omega
    refine ⟨_, rfl, _, rfl, a, _, rfl, SqT.of (s1 _ _ l.2), ?_, ?_⟩
    · intro z
      have z2 : 1 = (V.str "less" :: xs).length := z.2
      rw [List.length_cons, l.1] at z2
      exact absurd z2 (by decide)
    · intro _ p2 hp2
      have e1 : cutV (V.str "less" :: xs) none (some 1) = [V.str "less"] := rfl
      rw [e1]
      have s2 := same_new hp2 (.tup [V.str "less"])
      refine ⟨_, rfl, catA_of upd_same (s2 _ _ hp) (by show 1 + _ ≤ 100000; omega) fun p3 H3 s3 h3 => ?_⟩
      exact q p3 H3 (s1.trans (s2.trans s3)) (at_mkL (h := .less) (vs := vs) ⟨hl2, h3⟩ (stk_of (k.imp fun _ _ z => RefV.tk (tk_same (s2.trans s3)) z)))
  | tell =>
    rw [hh2] at q l
    refine itF rfl ⟨_, rfl, a, _, _, _, rfl, rfl, SqT.of l.2, at0, rfl, _, rfl, itF rfl ?_⟩
    refine rest _ H (Same.refl H) fun p H' vs s1 hp k => ?_
    refine ⟨_, rfl, a, _, _, _, rfl, rfl, SqT.of (s1 _ _ l.2), at0, rfl, _, rfl, itF rfl ?_⟩
    refine ⟨_, rfl, a, _, _, _, rfl, rfl, SqT.of (s1 _ _ l.2), at0, rfl, _, rfl, itF rfl ?_⟩
    have hl := k.len
    rw [List.length_map] at hl
    have hl2 : vs.length = 1 := by
      have e1 := kk.len
      have e2 := l.1
      omega
    refine ⟨_, rfl, _, rfl, a, _, rfl, SqT.of (s1 _ _ l.2), ?_, ?_⟩
    · intro z
      have z2 : 1 = (V.str "tell" :: xs).length := z.2
      rw [List.length_cons, l.1] at z2
      exact absurd z2 (by decide)
    · intro _ p2 hp2
      have e1 : cutV (V.str "tell" :: xs) none (some 1) = [V.str "tell"] := rfl
      rw [e1]
      have s2 := same_new hp2 (.tup [V.str "tell"])
      refine ⟨_, rfl, catA_of upd_same (s2 _ _ hp) (by show 1 + _ ≤ 100000; omega) fun p3 H3 s3 h3 => ?_⟩
      exact q p3 H3 (s1.trans (s2.trans s3)) (at_mkL (h := .tell) (vs := vs) ⟨hl2, h3⟩ (stk_of (k.imp fun _ _ z => RefV.tk (tk_same (s2.trans s3)) z)))
  | iff =>
    rw [hh2] at q l
    refine itF rfl ⟨_, rfl, a, _, _, _, rfl, rfl, SqT.of l.2, at0, rfl, _, rfl, itF rfl ?_⟩
    refine rest _ H (Same.refl H) fun p H' vs s1 hp k => ?_
    refine ⟨_, rfl, a, _, _, _, rfl, rfl, SqT.of (s1 _ _ l.2), at0, rfl, _, rfl, itF rfl ?_⟩
    refine ⟨_, rfl, a, _, _, _, rfl, rfl, SqT.of (s1 _ _ l.2), at0, rfl, _, rfl, itF rfl ?_⟩
    have hl := k.len
    rw [List.length_map] at hl
    have hl2 : vs.length = 3 := by
      have e1 := kk.len
      have e2 := l.1
      omega
    refine ⟨_, rfl, _, rfl, a, _, rfl, SqT.of (s1 _ _ l.2), ?_, ?_⟩
    · intro z
      have z2 : 1 = (V.str "if" :: xs).length := z.2
      rw [List.length_cons, l.1] at z2
      exact absurd z2 (by decide)
    · intro _ p2 hp2
      have e1 : cutV (V.str "if" :: xs) none (some 1) = [V.str "if"] := rfl
      rw [e1]
      have s2 := same_new hp2 (.tup [V.str "if"])
      refine ⟨_, rfl, catA_of upd_same (s2 _ _ hp) (by show 1 + _ ≤ 100000; omega) fun p3 H3 s3 h3 => ?_⟩
      exact q p3 H3 (s1.trans (s2.trans s3)) (at_mkL (h := .iff) (vs := vs) ⟨hl2, h3⟩ (stk_of (k.imp fun _ _ z => RefV.tk (tk_same (s2.trans s3)) z)))
theorem no_Lcalled {f : Addr} {fd : FuncData} : FnOk P w K mg base CX0 1 f fd ["term", "words"] (spCalled 0) := by
  have no : ∀ vs H Q E, ¬ spCalled 0 vs H Q E := fun vs H Q E h => by
    obtain ⟨a, d, t, _, _, _, _, h0, _⟩ := h
    exact h0.elim
  exact ⟨fun vs H Q E h => absurd h (no vs H Q E), fun A outer s H args us vs Q E _ _ _ _ h => absurd h (no vs H Q E)⟩
theorem all_Lcalled (T : Txt K mg) {f f1 : Addr} {fd d1 : FuncData} (F : Fun K "_law_called" "_law_called" s_law_called f fd) (R_law_called : Ref K mg "_law_called" f fd ["term", "words"])
    (G_law_parts : FnOk P w K mg base CX0 1 f1 d1 ["term"] spParts) (R_law_parts : Ref K mg "_law_parts" f1 d1 ["term"]) : ∀ n : Nat, FnOk P w K mg base CX0 (n + 1) f fd ["term", "words"] (spCalled n)
  | 0 => no_Lcalled
  | n + 1 => ok_Lcalled T F (all_Lcalled T F R_law_called G_law_parts R_law_parts n) R_law_called G_law_parts R_law_parts
end
end KB

namespace KB
open PySem L2 HT

theorem aP_terms {ws js : List Str} {p : Pt} (h : aP ws js p) : ∀ t ∈ termsP p, TmW ws t := by
  intro t ht
  cases p with
  | give j u => rw [List.mem_singleton.mp ht]; exact h.2
  | ask f ts j => exact h.2.2.2 t ht
  | tell x u p => rw [List.mem_singleton.mp ht]; exact h.2.1
  | lett x u p => rw [List.mem_singleton.mp ht]; exact h.2.1
  | iff u p q => rw [List.mem_singleton.mp ht]; exact h.1
  | post j x p q => cases ht
theorem aP_tl {ws js : List Str} {p : Pt} (h : aP ws js p) : (termsP p).length ≤ 4 := by
  cases p with
  | ask f ts j => exact h.2.2.1
  | _ => simp [termsP]
theorem Tells.get {H : Hp} {d : Addr} {kvs : List (Key × V)} {g : Str → Str} {ys : List Str} (hd : H d = some (.dK kvs)) (h : Tells kvs g ys) {y : Str} (hy : y ∈ ys) : DGet H d (.str y) (some (.str (g y))) := by
  have e := h y hy
  rw [← e]
  exact DGet.k (k := Sum.inr y) hd
section
variable {P : Program} {w : World} {K : PySem.W.Frag} {mg : Str → Option Value} {base : Heap}
/-! ### _law_tcalled -/
def spTc (n : Nat) : Sp := fun vs H Q _ => ∃ (a d d2 : Addr) (p : Pt) (kvs kvs2 : List (Key × V)) (ws js : List Str) (g k : Str → Str), vs = [.ref a, .ref d, .ref d2] ∧ PAt H p a ∧ aP ws js p ∧ pcnt p ≤ n ∧ H d = some (.dK kvs) ∧ Tells kvs g ws ∧ H d2 = some (.dK kvs2) ∧ Tells kvs2 k js ∧
  ∀ b H', Same H H' → PAt H' (calP g k p) b → Q (.ref b) H'
abbrev s_law_tcalled : Stmt := top 47
theorem scLtcalled : FnScope ["part", "words", "posts", "inner", "one", "some"] ["part", "words", "posts"] (defScope s_law_tcalled) := ⟨rfl, rfl, rfl, by decide +kernel, rfl, by decide +kernel, by decide +kernel⟩
theorem ok_tc (T : Txt K mg) {n : Nat} {f f1 f2 f3 : Addr} {fd d1 d2 d3 : FuncData} (F : Fun K "_law_tcalled" "_law_tcalled" s_law_tcalled f fd) (G_law_tcalled : FnOk P w K mg base CX0 (n + 3) f fd ["part", "words", "posts"] (spTc n)) (R_law_tcalled : Ref K mg "_law_tcalled" f fd ["part", "words", "posts"])
    (G_law_inner : FnOk P w K mg base CX0 1 f1 d1 ["part"] spInn) (R_law_inner : Ref K mg "_law_inner" f1 d1 ["part"]) (G_law_simples : FnOk P w K mg base CX0 1 f2 d2 ["part"] spSmp) (R_law_simples : Ref K mg "_law_simples" f2 d2 ["part"])
    (G_law_called : FnOk P w K mg base CX0 3 f3 d3 ["term", "words"] (spCalled 2)) (R_law_called : Ref K mg "_law_called" f3 d3 ["term", "words"]) : FnOk P w K mg base CX0 (n + 4) f fd ["part", "words", "posts"] (spTc (n + 1)) := by
  refine F.ok scLtcalled (fun vs H Q E h => ?_) (fun cdv A outer s H vs Q E hr h => ?_)
  · obtain ⟨a, d, d2, p, kvs, kvs2, ws, js, g, k, rfl, _⟩ := h
    rfl
  obtain ⟨a, d, d2, p, kvs, kvs2, ws, js, g, k, rfl, hA, ha, hn, hd, hk, hd2, hk2, q⟩ := h
  refine ⟨_, (pss_cons (ps_set (i := 3) scLtcalled.nd rfl (Or.inl rfl) (pe_callTy call_tuple_of (by rfl) T.m_tuple (by decide +kernel) (pa_cons (pe_lc (own := [("one", 4)]) (g := gName 4) (tt := tYes) (te := tCall (spTc n) [] E0 (tCons (tVar 4) (tCons (tVar 1) (tCons (tVar 2) tNil)))) (by rfl) scLtcalled.nd (pi_tup (pe_call G_law_inner (hr.mono (by omega)) rfl R_law_inner.m R_law_inner.k R_law_inner.b .nil pass0 (pa_cons (pv 0) pa_nil))) (blkOk_by (own := [("one", 4)]) (N := ["part", "words", "posts", "inner", "one", "some"]) (sc := defScope s_law_tcalled) (by decide +kernel)) (fun _ _ _ _ _ => (pg_name (i := 4) scLtcalled.nd rfl (Or.inl rfl))) (fun _ _ _ _ _ => pts_nil) (fun _ _ _ _ _ => (pe_call G_law_tcalled hr rfl R_law_tcalled.m R_law_tcalled.k R_law_tcalled.b .nil pass0 (pa_cons (pv 4) (pa_cons (pv 1) (pa_cons (pv 2) pa_nil)))))) pa_nil)))
    (pss_cons (ps_set (i := 5) scLtcalled.nd rfl (Or.inl rfl) (pe_callTy call_tuple_of (by rfl) T.m_tuple (by decide +kernel) (pa_cons (pe_lc (own := [("one", 4)]) (g := gName 4) (tt := tYes) (te := tCall (spCalled 2) [] E0 (tCons (tVar 4) (tCons (tVar 1) tNil))) (by rfl) scLtcalled.nd (pi_tup (pe_call G_law_simples (hr.mono (by omega)) rfl R_law_simples.m R_law_simples.k R_law_simples.b .nil pass0 (pa_cons (pv 0) pa_nil))) (blkOk_by (own := [("one", 4)]) (N := ["part", "words", "posts", "inner", "one", "some"]) (sc := defScope s_law_tcalled) (by decide +kernel)) (fun _ _ _ _ _ => (pg_name (i := 4) scLtcalled.nd rfl (Or.inl rfl))) (fun _ _ _ _ _ => pts_nil) (fun _ _ _ _ _ => (pe_call G_law_called (hr.mono (by omega)) rfl R_law_called.m R_law_called.k R_law_called.b .nil pass0 (pa_cons (pv 4) (pa_cons (pv 1) pa_nil))))) pa_nil)))
    (pss_cons (ps_if (pt_cmpR op_eq (pe_ix ix_tup (pv 0) pe_int (fun _ _ => rfl)) pe_str (nomark _)) (pss_one (ps_ret (pe_tup (pa_cons pe_str (pa_cons (pe_dget (hu_of hr) (pv 2) (pe_ix ix_tup (pv 0) pe_int (fun _ _ => rfl)) (fun _ _ => rfl)) (pa_cons (pe_ix ix_tup (pv 5) pe_int (fun _ _ => rfl)) pa_nil)))))) pss_nil)
    (pss_cons (ps_if (pt_cmpR op_eq (pe_ix ix_tup (pv 0) pe_int (fun _ _ => rfl)) pe_str (nomark _)) (pss_one (ps_ret (pe_tup (pa_cons pe_str (pa_cons (pe_ix ix_tup (pv 0) pe_int (fun _ _ => rfl)) (pa_cons (pv 5) (pa_cons (pe_dget (hu_of hr) (pv 2) (pe_ix ix_tup (pv 0) pe_int (fun _ _ => rfl)) (fun _ _ => rfl)) pa_nil))))))) pss_nil)
    (pss_cons (ps_if (pt_cmpR op_eq (pe_ix ix_tup (pv 0) pe_int (fun _ _ => rfl)) pe_str (nomark _)) (pss_one (ps_ret (pe_op op_catA (pe_op op_catA (pe_tup (pa_cons pe_str pa_nil)) (pv 5)) (pv 3)))) pss_nil)
    (pss_cons (ps_if (pt_cmpR op_eq (pe_ix ix_tup (pv 0) pe_int (fun _ _ => rfl)) pe_str (nomark _)) (pss_one (ps_ret (pe_op op_catA (pe_tup (pa_cons pe_str (pa_cons (pe_dget (hu_of hr) (pv 2) (pe_ix ix_tup (pv 0) pe_int (fun _ _ => rfl)) (fun _ _ => rfl)) (pa_cons (pe_dget (hu_of hr) (pv 1) (pe_ix ix_tup (pv 0) pe_int (fun _ _ => rfl)) (fun _ _ => rfl)) pa_nil)))) (pv 3)))) pss_nil)
    (pss_one (ps_ret (pe_op op_catA (pe_op op_catA (pe_tup (pa_cons (pe_ix ix_tup (pv 0) pe_int (fun _ _ => rfl)) (pa_cons (pe_dget (hu_of hr) (pv 1) (pe_ix ix_tup (pv 0) pe_int (fun _ _ => rfl)) (fun _ _ => rfl)) pa_nil))) (pv 5)) (pv 3)))))))))), ?_⟩
  have hck := pcnt_inn p
  -- inner
  refine ⟨_, rfl, a, p, rfl, hA, fun pp H1 us1 s1 h1 k1 => ?_⟩
  have il : (innP p).length ≤ 2 := by cases p <;> simp [innP]
  refine ⟨pp, rfl, ⟨_, SqT.of h1⟩, fun D hD => lc_tup (K := K) (a := pp) (xs := us1) (fun i H' => Same H1 H' ∧ ∃ acc, H' D = some (.lst acc) ∧ All2 (PVr H') (((innP p).take i).map (calP g k)) acc) ⟨same_new hD _, [], upd_same, by rw [List.take_zero]; trivial⟩ ?_ ?_ ?_⟩
  · rintro i H' _ ⟨s2, _⟩
    exact SqT.of (s2 _ _ h1)
  · rintro i x H2 hx ⟨s2, acc, h2, k2⟩
    obtain ⟨u, hu, c, rfl, hcu⟩ := k1.get hx
    obtain ⟨hj, hj2⟩ := List.getElem?_eq_some_iff.mp hu
    have hmem := mem_of_get hu
    have hct := mem_sum hmem
    have hl2 := k2.len
    rw [List.length_map, List.length_take] at hl2
    refine ⟨rfl, ?_⟩
    dsimp only [tYes]
    have s02 := s1.trans s2
    refine iteT ⟨_, rfl, _, rfl, _, rfl, c, d, d2, u, kvs, kvs2, ws, js, g, k, rfl, PAt.tk (tk_same s2) hcu, aP_kids ha hmem, by omega, s02 _ _ hd, hk, s02 _ _ hd2, hk2, fun b H3 s3 hb => ?_⟩
    have h3 := s3 _ _ h2
    have tk := tk_put (o := .lst (acc ++ [.ref b])) h3
    refine ⟨acc, h3, Nat.lt_of_le_of_lt (m := 100) (by omega) (by decide), same_mut (s2.trans s3) hD, _, upd_same, ?_⟩
    rw [List.take_succ_eq_append_getElem hj, hj2, List.map_append]
    exact ((k2.imp fun _ _ z => PVr.tk (tk_same s3) z).imp fun _ _ z => PVr.tk tk z).app ⟨⟨b, rfl, PAt.tk tk hb⟩, trivial⟩
  rintro H2 ⟨s2, vi, h2, k2⟩
  rw [k1.len, List.take_length] at k2
  refine ⟨D, vi, rfl, .inl ⟨SqL.of h2, fun pi hpi => ?_⟩⟩
  have s3 := same_new hpi (.tup vi)
  have g3 : upd H2 pi (.tup vi) pi = some (.tup vi) := upd_same
  have s03 := s1.trans (s2.trans s3)
  have k3 := k2.imp fun _ _ z => PVr.tk (tk_same s3) z
  generalize upd H2 pi (.tup vi) = H3 at s3 g3 s03 k3
  clear k2 h2 k1 h1 hD s2 s3 hpi
  -- some
  refine ⟨_, rfl, a, p, rfl, PAt.tk (tk_same s03) hA, fun pp2 H4 us2 s4 h4 k4 => ?_⟩
  refine ⟨pp2, rfl, ⟨_, SqT.of h4⟩, fun D2 hD2 => lc_tup (K := K) (a := pp2) (xs := us2) (fun i H' => Same H4 H' ∧ ∃ acc, H' D2 = some (.lst acc) ∧ All2 (RefV H') (((termsP p).take i).map (calT g)) acc) ⟨same_new hD2 _, [], upd_same, by rw [List.take_zero]; trivial⟩ ?_ ?_ ?_⟩
  · rintro i H' _ ⟨s5, _⟩
    exact SqT.of (s5 _ _ h4)
  · rintro i x H5 hx ⟨s5, acc, h5, k5⟩
    obtain ⟨u, hu, c, rfl, hcu⟩ := k4.get hx
    obtain ⟨hj, hj2⟩ := List.getElem?_eq_some_iff.mp hu
    have hmem := mem_of_get hu
    have htw := aP_terms ha u hmem
    have hl2 := k5.len
    have hl3 := aP_tl ha
    rw [List.length_map, List.length_take] at hl2
    refine ⟨rfl, ?_⟩
    dsimp only [tYes]
    have s05 := s03.trans (s4.trans s5)
    refine iteT ⟨_, rfl, _, rfl, c, d, u, kvs, g, rfl, hcu.tk (tk_same s5), htw.s.ht, s05 _ _ hd, fun y hy => hk y (htw.c y hy), fun b H6 s6 hb => ?_⟩
    have h6 := s6 _ _ h5
    have tk := tk_put (o := .lst (acc ++ [.ref b])) h6
    refine ⟨acc, h6, Nat.lt_of_le_of_lt (m := 100) (by omega) (by decide), same_mut (s5.trans s6) hD2, _, upd_same, ?_⟩
    rw [List.take_succ_eq_append_getElem hj, hj2, List.map_append]
    exact ((k5.imp fun _ _ z => RefV.tk (tk_same s6) z).imp fun _ _ z => RefV.tk tk z).app ⟨⟨b, rfl, hb.tk tk⟩, trivial⟩
  rintro H5 ⟨s5, vt, h5, k5⟩
  rw [k4.len, List.take_length] at k5
  refine ⟨D2, vt, rfl, .inl ⟨SqL.of h5, fun ps hps => ?_⟩⟩
  have s6 := same_new hps (.tup vt)
  have g6 : upd H5 ps (.tup vt) ps = some (.tup vt) := upd_same
  have s36 := s4.trans (s5.trans s6)
  have s06 := s03.trans s36
  have k6 := k5.imp fun _ _ z => RefV.tk (tk_same s6) z
  have g36 := s36 _ _ g3
  have k36 := k3.imp fun _ _ z => PVr.tk (tk_same s36) z
  generalize upd H5 ps (.tup vt) = H6 at s6 g6 s36 s06 k6 g36 k36
  clear k5 h5 k4 h4 hD2 s4 s5 s6 hps k3 g3 s36
  have hA6 := PAt.tk (tk_same s06) hA
  have hd6 := s06 _ _ hd
  have hd26 := s06 _ _ hd2
  have lt := k6.len
  have li := k36.len
  rw [List.length_map] at lt li
  cases p with
  | give j t =>
    obtain ⟨b, h1, h2⟩ := hA6
    match vt, k6 with
    | [v1], ⟨⟨b1, e1, r1⟩, _⟩ =>
      subst e1
      refine ⟨_, rfl, a, _, _, _, rfl, rfl, SqT.of h1, at0, rfl, _, rfl, itT rfl ?_⟩
      refine ⟨_, rfl, _, rfl, a, _, _, _, rfl, rfl, SqT.of h1, at1, d2, _, rfl, hk2.get hd26 ha.1, _, rfl, ps, _, _, _, rfl, rfl, SqT.of g6, at0, sz (by show 3 ≤ 100000; decide), fun p2 hp2 => ?_⟩
      have s7 := same_new hp2 (.tup [V.str "give", .str (k j), .ref b1])
      exact q p2 _ (s06.trans s7) ⟨b1, upd_same, r1.tk (tk_same s7)⟩
  | ask f0 ts j =>
    obtain ⟨b, vs1, h1, h2, h3⟩ := hA6
    refine ⟨_, rfl, a, _, _, _, rfl, rfl, SqT.of h1, at0, rfl, _, rfl, itF rfl ⟨_, rfl, a, _, _, _, rfl, rfl, SqT.of h1, at0, rfl, _, rfl, itT rfl ?_⟩⟩
    refine ⟨_, rfl, a, _, _, _, rfl, rfl, SqT.of h1, at1, _, rfl, _, rfl, _, rfl, a, _, _, _, rfl, rfl, SqT.of h1, at3, d2, _, rfl, hk2.get hd26 ha.1, sz (by show 4 ≤ 100000; decide), fun p2 hp2 => ?_⟩
    have s7 := same_new hp2 (.tup [V.str "ask", .str f0, .ref ps, .str (k j)])
    exact q p2 _ (s06.trans s7) ⟨ps, vt, upd_same, s7 _ _ g6, k6.imp fun _ _ z => RefV.tk (tk_same s7) z⟩
  | iff t p1 p2 =>
    obtain ⟨b, c, e, h1, h2, h3, h4⟩ := hA6
    match vt, k6, vi, k36 with
    | [v1], ⟨⟨b1, e1, r1⟩, _⟩, [u1, u2], ⟨⟨c1, e2, r2⟩, ⟨c2, e3, r3⟩, _⟩ =>
      subst e1 e2 e3
      refine ⟨_, rfl, a, _, _, _, rfl, rfl, SqT.of h1, at0, rfl, _, rfl, itF rfl ⟨_, rfl, a, _, _, _, rfl, rfl, SqT.of h1, at0, rfl, _, rfl, itF rfl ⟨_, rfl, a, _, _, _, rfl, rfl, SqT.of h1, at0, rfl, _, rfl, itT rfl ?_⟩⟩⟩
      refine ⟨sz (by show 1 ≤ 100000; decide), fun t1 ht1 => ?_⟩
      have s7 := same_new ht1 (.tup [V.str "if"])
      refine ⟨_, rfl, catA_of upd_same (s7 _ _ g6) (by show 1 + 1 ≤ 100000; decide) fun t2 H8 s8 g8 => ?_⟩
      refine ⟨_, rfl, catA_of g8 ((s7.trans s8) _ _ g36) (by show 2 + 2 ≤ 100000; decide) fun t3 H9 s9 g9 => ?_⟩
      have s79 := s7.trans (s8.trans s9)
      exact q t3 H9 (s06.trans s79) ⟨b1, c1, c2, g9, r1.tk (tk_same s79), PAt.tk (tk_same s79) r2, PAt.tk (tk_same s79) r3⟩
  | post j x p1 p2 =>
    obtain ⟨c, e, h1, h2, h3⟩ := hA6
    match vi, k36 with
    | [u1, u2], ⟨⟨c1, e2, r2⟩, ⟨c2, e3, r3⟩, _⟩ =>
      subst e2 e3
      refine ⟨_, rfl, a, _, _, _, rfl, rfl, SqT.of h1, at0, rfl, _, rfl, itF rfl ⟨_, rfl, a, _, _, _, rfl, rfl, SqT.of h1, at0, rfl, _, rfl, itF rfl ⟨_, rfl, a, _, _, _, rfl, rfl, SqT.of h1, at0, rfl, _, rfl, itF rfl ⟨_, rfl, a, _, _, _, rfl, rfl, SqT.of h1, at0, rfl, _, rfl, itT rfl ?_⟩⟩⟩⟩
      refine ⟨_, rfl, _, rfl, a, _, _, _, rfl, rfl, SqT.of h1, at1, d2, _, rfl, hk2.get hd26 ha.1.2, _, rfl, _, rfl, a, _, _, _, rfl, rfl, SqT.of h1, at2, d, _, rfl, hk.get hd6 ha.2.1.2, sz (by show 3 ≤ 100000; decide), fun t1 ht1 => ?_⟩
      have s7 := same_new ht1 (.tup [V.str "post", .str (k j), .str (g x)])
      refine ⟨_, rfl, catA_of upd_same (s7 _ _ g36) (by show 3 + 2 ≤ 100000; decide) fun t2 H8 s8 g8 => ?_⟩
      have s78 := s7.trans s8
      exact q t2 H8 (s06.trans s78) ⟨c1, c2, g8, PAt.tk (tk_same s78) r2, PAt.tk (tk_same s78) r3⟩
  | tell x t p1 =>
    obtain ⟨b, c, h1, h2, h3⟩ := hA6
    match vt, k6, vi, k36 with
    | [v1], ⟨⟨b1, e1, r1⟩, _⟩, [u1], ⟨⟨c1, e2, r2⟩, _⟩ =>
      subst e1 e2
      refine ⟨_, rfl, a, _, _, _, rfl, rfl, SqT.of h1, at0, rfl, _, rfl, itF rfl ⟨_, rfl, a, _, _, _, rfl, rfl, SqT.of h1, at0, rfl, _, rfl, itF rfl ⟨_, rfl, a, _, _, _, rfl, rfl, SqT.of h1, at0, rfl, _, rfl, itF rfl ⟨_, rfl, a, _, _, _, rfl, rfl, SqT.of h1, at0, rfl, _, rfl, itF rfl ?_⟩⟩⟩⟩
      refine ⟨_, rfl, a, _, _, _, rfl, rfl, SqT.of h1, at0, _, rfl, _, rfl, a, _, _, _, rfl, rfl, SqT.of h1, at1, d, _, rfl, hk.get hd6 ha.1.2, sz (by show 2 ≤ 100000; decide), fun t1 ht1 => ?_⟩
      have s7 := same_new ht1 (.tup [V.str "tell", .str (g x)])
      refine ⟨_, rfl, catA_of upd_same (s7 _ _ g6) (by show 2 + 1 ≤ 100000; decide) fun t2 H8 s8 g8 => ?_⟩
      refine ⟨_, rfl, catA_of g8 ((s7.trans s8) _ _ g36) (by show 3 + 1 ≤ 100000; decide) fun t3 H9 s9 g9 => ?_⟩
      have s79 := s7.trans (s8.trans s9)
      exact q t3 H9 (s06.trans s79) ⟨b1, c1, g9, r1.tk (tk_same s79), PAt.tk (tk_same s79) r2⟩
  | lett x t p1 =>
    obtain ⟨b, c, h1, h2, h3⟩ := hA6
    match vt, k6, vi, k36 with
    | [v1], ⟨⟨b1, e1, r1⟩, _⟩, [u1], ⟨⟨c1, e2, r2⟩, _⟩ =>
      subst e1 e2
      refine ⟨_, rfl, a, _, _, _, rfl, rfl, SqT.of h1, at0, rfl, _, rfl, itF rfl ⟨_, rfl, a, _, _, _, rfl, rfl, SqT.of h1, at0, rfl, _, rfl, itF rfl ⟨_, rfl, a, _, _, _, rfl, rfl, SqT.of h1, at0, rfl, _, rfl, itF rfl ⟨_, rfl, a, _, _, _, rfl, rfl, SqT.of h1, at0, rfl, _, rfl, itF rfl ?_⟩⟩⟩⟩
      refine ⟨_, rfl, a, _, _, _, rfl, rfl, SqT.of h1, at0, _, rfl, _, rfl, a, _, _, _, rfl, rfl, SqT.of h1, at1, d, _, rfl, hk.get hd6 ha.1.2, sz (by show 2 ≤ 100000; decide), fun t1 ht1 => ?_⟩
      have s7 := same_new ht1 (.tup [V.str "let", .str (g x)])
      refine ⟨_, rfl, catA_of upd_same (s7 _ _ g6) (by show 2 + 1 ≤ 100000; decide) fun t2 H8 s8 g8 => ?_⟩
      refine ⟨_, rfl, catA_of g8 ((s7.trans s8) _ _ g36) (by show 3 + 1 ≤ 100000; decide) fun t3 H9 s9 g9 => ?_⟩
      have s79 := s7.trans (s8.trans s9)
      exact q t3 H9 (s06.trans s79) ⟨b1, c1, g9, r1.tk (tk_same s79), PAt.tk (tk_same s79) r2⟩
theorem no_tc {f : Addr} {fd : FuncData} : FnOk P w K mg base CX0 3 f fd ["part", "words", "posts"] (spTc 0) := by
  have no : ∀ vs H Q E, ¬ spTc 0 vs H Q E := fun vs H Q E h => by
    obtain ⟨a, d, d2, p, kvs, kvs2, ws, js, g, k, _, _, _, h0, _⟩ := h
    have := pcnt_inn p
    omega
  exact ⟨fun vs H Q E h => absurd h (no vs H Q E), fun A outer s H args us vs Q E _ _ _ _ h => absurd h (no vs H Q E)⟩
theorem all_tc (T : Txt K mg) {f f1 f2 f3 : Addr} {fd d1 d2 d3 : FuncData} (F : Fun K "_law_tcalled" "_law_tcalled" s_law_tcalled f fd) (R_law_tcalled : Ref K mg "_law_tcalled" f fd ["part", "words", "posts"])
    (G_law_inner : FnOk P w K mg base CX0 1 f1 d1 ["part"] spInn) (R_law_inner : Ref K mg "_law_inner" f1 d1 ["part"]) (G_law_simples : FnOk P w K mg base CX0 1 f2 d2 ["part"] spSmp) (R_law_simples : Ref K mg "_law_simples" f2 d2 ["part"])
    (G_law_called : FnOk P w K mg base CX0 3 f3 d3 ["term", "words"] (spCalled 2)) (R_law_called : Ref K mg "_law_called" f3 d3 ["term", "words"]) : ∀ n : Nat, FnOk P w K mg base CX0 (n + 3) f fd ["part", "words", "posts"] (spTc n)
  | 0 => no_tc
  | n + 1 => ok_tc T F (all_tc T F R_law_tcalled G_law_inner R_law_inner G_law_simples R_law_simples G_law_called R_law_called n) R_law_tcalled G_law_inner R_law_inner G_law_simples R_law_simples G_law_called R_law_called
end
end KB

namespace KB
open PySem PySem.Spec PyProof.Rows L2

/-! ### {**d, k: v} -/
section
variable {prog : Program} {w : World} {K : Type} [DecidableEq K] {knd : KeyKind prog w K} {A : Around} {E : Value → Shared → Prop} {s : Shared}
theorem put_pairs {a : Addr} {ps : List (K × Value)} {c : K} {cv u : Value} {Q : Unit → Shared → Prop} (hc : knd.is c cv = true) (hm : s.heap.DictOf knd a ps) (hz : ps.length ≤ sizeLine)
    (q : ∀ g, g.DictOf knd a (stored ps c u) → Heap.SameBut a s.heap g → Q () { s with heap := g }) : wpAny (model prog w) A (dictPut a (knd.hash c) cv u) Q E s := by
  obtain ⟨ob, ds, n, h1, h2, h3, h4, h5, h6⟩ := hm
  have hds : ds.size ≤ sizeLine := by
    have e1 := h5.length
    have e2 : ds.toList.length = ds.size := by simp
    omega
  unfold dictPut
  refine wpAny_bind (wpAny_dictFind_of hc h1 h3 h4 ?_)
  have hx : (ds.findIdx? fun e => knd.is c e.key) = ps.findIdx? fun p => decide (p.1 = c) := by
    rw [← h5.findIdx c]
    obtain ⟨l⟩ := ds
    simp
  cases hi : ds.findIdx? fun e => knd.is c e.key with
  | some i =>
    refine wpAny_updateDict h1 h3 (q _ ⟨_, _, n, Heap.get?_update_self _ h1 (Obj.isFreed_of_dict (Obj.data_mapDict h3 _)), h2.mapDict _, Obj.data_mapDict h3 _, h4.modify _ _, ?_, ?_⟩ (Heap.SameBut.update ..))
    · rw [stored, if_pos (any_of_findIdx_some (hx ▸ hi))]
      have hl : (ds.toList.findIdx? fun e => knd.is c e.key) = some i := by
        rw [← hi]
        obtain ⟨l⟩ := ds
        simp
      have := h5.modify h6 hl u
      obtain ⟨l⟩ := ds
      simpa using this
    · rw [stored, if_pos (any_of_findIdx_some (hx ▸ hi)), keys_map_store]
      exact h6
  | none =>
    have hno : c ∉ ps.map (·.1) := not_mem_of_findIdx_none (hx ▸ hi)
    have hany : ¬ (ps.any fun p => decide (p.1 = c)) = true := by
      rw [List.any_eq_true]
      rintro ⟨p, hp, he⟩
      exact hno (List.mem_map.mpr ⟨p, hp, of_decide_eq_true he⟩)
    refine wpAny_updateDictKeys (hz := hds) h1 h3 (q _ ⟨_, _, n + 1, Heap.get?_update_self _ h1 (Obj.isFreed_of_dict (Obj.data_mapDictKeys h3 _)), h2.mapDictKeys _, Obj.data_mapDictKeys h3 _, h4.push hc _, ?_, ?_⟩ (Heap.SameBut.update ..))
    · rw [stored, if_neg hany]
      have := h5.append hc (knd.hash c) u
      obtain ⟨l⟩ := ds
      simpa using this
    · rw [stored, if_neg hany, List.map_append, List.nodup_append]
      refine ⟨h6, by simp, ?_⟩
      intro x hx1 y hy
      simp only [List.map_cons, List.map_nil, List.mem_singleton] at hy
      subst hy
      exact fun e => hno (e ▸ hx1)
theorem merge_pairs {a b : Addr} {ps rs : List (K × Value)} {Q : Unit → Shared → Prop} (hab : a ≠ b) (hb : (b == sysModules) = false) (ha : s.heap.DictOf knd a ps) (hr : s.heap.DictOf knd b rs) (hz : ps.length + rs.length ≤ sizeLine)
    (q : ∀ g, g.DictOf knd a (merged ps rs) → Heap.SameBut a s.heap g → Q () { s with heap := g }) : wpAny (model prog w) A (mergeMapping a (.ref b) false) Q E s := by
  obtain ⟨oa, da, na, a1, a2, a3, a4, a5, a6⟩ := id ha
  obtain ⟨ob, db, nb, b1, b2, b3, b4, b5, b6⟩ := id hr
  have hlen : rs.length = db.size := by rw [← b5.length]; simp
  unfold mergeMapping
  refine wpAny_bind (wpAny_isInstance hr.typeIs isSubtype_dict_dict ?_)
  dsimp only
  rw [if_pos rfl]
  refine wpAny_bind (wpAny_specialOf hr.typeIs F.slot_dict_iter.lookup ?_)
  refine wpAny_bind (wpAny_pure ?_)
  rw [beq_self_eq_true]
  dsimp only
  rw [if_neg (by rw [hb]; exact Bool.false_ne_true)]
  refine wpAny_bind (wpAny_dictEntries a1 a3 ?_)
  have main : wpAny (model prog w) A (do
      let l ← dictEntries b
      let ep ← dictEpoch b
      forIn (List.range l.size) PUnit.unit fun i (_ : PUnit) => (do
        let l2 ← dictEntries b
        match l2[i]? with
        | some e => do
          holding [e.key, e.val] (dictPut a e.hash e.key e.val)
          let ep2 ← dictEpoch b
          if (ep2 != ep) = true then do
            unsupported "dict.changed-during-merge"
            pure (ForInStep.yield PUnit.unit)
          else pure (ForInStep.yield PUnit.unit)
        | x => do
          unsupported "dict.changed-during-merge"
          pure (ForInStep.yield PUnit.unit) : Sem (ForInStep PUnit))
      pure ()) Q E s := by
    refine wpAny_bind (wpAny_dictEntries b1 b3 ?_)
    refine wpAny_bind (wpAny_dictEpoch b1 b3 ?_)
    refine wpAny_bind ?_
    rw [List.range_eq_range']
    refine wpAny_forIn_list _
      (fun rest _ s' => ∃ g i, s' = { s with heap := g } ∧ rest = List.range' i (db.size - i) ∧ i ≤ db.size ∧ g.DictOf knd a (merged ps (rs.take i)) ∧ g.get? b = some ob ∧ Heap.SameBut a s.heap g)
      _ ?_ ?_ _ _ ⟨s.heap, 0, rfl, by simp, Nat.zero_le _, by simpa [merged] using ha, b1, Heap.SameBut.refl _ _⟩
    · rintro x rest u s' ⟨g, i, rfl, h1, h2, h3, h4, h5⟩
      have hlt : i < db.size := by
        rcases Nat.lt_or_ge i db.size with h | h
        · exact h
        · rw [Nat.sub_eq_zero_of_le h] at h1
          simp at h1
      obtain ⟨rfl, hrest⟩ : x = i ∧ rest = List.range' (i + 1) (db.size - (i + 1)) := by
        have e : db.size - i = (db.size - (i + 1)) + 1 := by omega
        rw [e, List.range'_succ] at h1
        injection h1 with e1 e2
        exact ⟨e1, e2⟩
      refine wpAny_bind (wpAny_dictEntries h4 b3 ?_)
      rw [Array.getElem?_eq_getElem hlt]
      obtain ⟨⟨c, u2⟩, hkv⟩ : ∃ p, rs[x]? = some p := ⟨rs[x]'(by rw [hlen]; exact hlt), List.getElem?_eq_getElem _⟩
      obtain ⟨g1, g2⟩ := b5.get? (e := db[x]) (by simp [hlt]) hkv
      obtain ⟨c2, g3, g4⟩ := b4 db[x] (Array.getElem_mem hlt)
      obtain rfl : c2 = c := knd.inj _ _ _ g3 g1
      dsimp only
      rw [g4, g2]
      have hmx : (merged ps (rs.take x)).length ≤ sizeLine := by
        have e1 := merged_length_le ps (rs.take x)
        have e2 : (rs.take x).length ≤ rs.length := by rw [List.length_take]; omega
        omega
      refine wpAny_bind (wpAny_holding (put_pairs g1 h3 hmx fun g' d' s' => ?_))
      have h4' : g'.get? b = some ob := (s'.2 b (Ne.symm hab)).trans h4
      refine wpAny_bind (wpAny_dictEpoch h4' b3 ?_)
      rw [if_neg (by simp)]
      exact wpAny_pure ⟨g', x + 1, rfl, hrest, hlt, by rw [merged_take_succ ps rs x (c2, u2) hkv]; exact d', h4', h5.trans s'⟩
    · rintro u s' ⟨g, i, rfl, h1, h2, h3, h4, h5⟩
      have hin : i = db.size := by
        rcases Nat.lt_or_ge i db.size with h | h
        · have e : db.size - i = (db.size - (i + 1)) + 1 := by omega
          rw [e, List.range'_succ] at h1
          exact nomatch h1
        · exact Nat.le_antisymm h2 h
      rw [hin, ← hlen, List.take_length] at h3
      exact wpAny_pure (q g h3 h5)
  by_cases he : da.isEmpty = true
  · rw [if_pos he]
    refine wpAny_bind (wpAny_dictEntries b1 b3 ?_)
    have quiet : (forIn db PUnit.unit fun e (_ : PUnit) => (match e.key with
        | Value.ref a => do
          let x ← specialOf e.key (Str.ofString "__eq__")
          if (x != some (Value.builtin "object.__eq__")) = true then
            if (Array.filter (fun y => y.hash == e.hash) db).size > 1 then do
              unsupported "dict.merge-into-an-empty-dict:keys-of-equal-hash"
              pure (ForInStep.yield PUnit.unit)
            else pure (ForInStep.yield PUnit.unit)
          else pure (ForInStep.yield PUnit.unit)
        | x => pure (ForInStep.yield PUnit.unit) : Sem (ForInStep PUnit))) = pure PUnit.unit := by
      rw [← Array.forIn_toList]
      refine forIn_yield_id _ fun e hm c => ?_
      obtain ⟨k, hkey, _⟩ := b4 e (Array.mem_toList_iff.mp hm)
      have hv := knd.byValue k _ hkey
      split
      · rename_i z hz
        rw [hz] at hv
        exact absurd hv Bool.false_ne_true
      · rfl
    refine wpAny_bind (wpAny_of_eq quiet ?_)
    exact main
  · rw [if_neg he]
    exact main
/-- a dict display that begins with ** and has one pair behind -/
theorem dd_is (v k u : Sem Value) : dictDisplay [(none, v), (some k, u)] = (do
    let d ← alloc { cls := .type "dict", data := .dict #[] }
    let m ← holding [.ref d] v
    (((holding [.ref d, m] (mergeMapping d m false)).onRaise fun x => do let _ ← holding [.ref d, m, x] (runValue (.builtin "proto.let_go" {}))).tryCatch fun e => do
        if ← isInstance e (.type "AttributeError") then
          rule "dict.display.not-a-mapping"; raiseError "TypeError" s!"'{← typeNameOf m}' object is not a mapping"
        throw e).onRaise fun x => do let _ ← holding [.ref d, x] (runValue (.builtin "proto.let_go" {}))
    let sub ← holding [.ref d] (subDict [(k, u)])
    (holding [.ref d, .ref sub] (mergeMapping d (.ref sub) false)).onRaise fun x => do let _ ← holding [.ref d, x] (runValue (.builtin "proto.let_go" {}))
    pure (.ref d)) := by
  unfold dictDisplay
  simp
end
section
variable {X : Cx}
/-- {**d, k: v} -/
def tDD (tv : TE) (trs : List (TE × TE)) : TE := fun σ H Q => ∀ p, H p = none → tv σ (upd H p (.dK [])) fun x H1 => ∃ (o : Addr) (ps : List (Key × V)), x = .ref o ∧ o ≠ p ∧ H1 p = some (.dK []) ∧ H1 o = some (.dK ps) ∧
  ∀ q, upd H1 p (.dK ps) q = none → tPairs trs σ (upd (upd H1 p (.dK ps)) q (.dK [])) fun us H2 => H2 q = some (.dK []) ∧ H2 p = some (.dK ps) ∧ q ≠ p ∧ ∃ rs : List (Key × V), us = rs.map (fun kv => (kV kv.1, kv.2)) ∧ rs.length ≤ 15 ∧ ps.length + rs.length ≤ sizeLine ∧
    Q (.ref p) (upd (upd H2 q (.dK (mergeK [] rs))) p (.dK (mergeK ps (mergeK [] rs))))
theorem pe_dd {pos : Pos} {ve ke ue : Expr} {tv : TE} {trs : List (TE × TE)} (hv : PE X ve tv) (h : PPs X pos [some ke] [ue] trs) : PE X (.Dict [none, some ke] [ve, ue] pos) (tDD tv trs) := by
  refine ⟨fun pins s σ H Q I q => ?_⟩
  rw [arm_eval_Dict]
  show wpAny _ _ (do standAt pos; dictDisplay [(none, do let x ← eval ve X.env; standAt pos; pure x), (some (eval ke X.env), do let x ← eval ue X.env; standAt pos; pure x)]) _ _ _
  rw [dd_is]
  refine wpAny_bind (wpAny_standAt (wpAny_bind (wpAny_alloc (wpAny_bind (wpAny_holding ?_)))))
  have hn := I.hok.fresh (Nat.le_refl s.heap.objs.size)
  have I1 := I.laid (a := s.heap.objs.size) (o := .dK []) (h' := s.heap.push { cls := .type "dict", data := .dict #[] }) (t' := s.toks) (fun _ _ q => Heap.get?_push_of_some _ q) (Nat.le_refl _) (dk_empty s.heap I.big)
  refine wpAny_bind (thn (hv.run pins _ σ _ _ I1 (q _ hn)) fun u s1 ⟨x, H1, I2, rx, o, ps, ex, hop, e1, e2, q1⟩ => wpAny_bind (wpAny_standAt (wpAny_pure ?_)))
  subst ex
  obtain rfl : u = Value.ref o := rx
  obtain ⟨z1, hd1, vs1, r1, dd1⟩ := dk_of I2.hok e1
  cases r1
  obtain ⟨z2, hd2, vs2, r2, dd2⟩ := dk_of I2.hok e2
  refine wpAny_bind (wpAny_onRaise (wpAny_tryCatch (wpAny_onRaise (wpAny_holding (merge_pairs (Ne.symm hop) hd2 dd1 dd2 (by rw [List.length_nil, Nat.zero_add, ← r2.length]; exact z2) fun g dg hs => ?_)))))
  have hnd : (vs2.map (·.1)).Nodup := by
    obtain ⟨_, _, _, _, _, _, _, _, hx⟩ := dd2
    exact hx
  rw [merged_nil_of_nodup vs2 hnd] at dg
  have he : ∃ y, g.get? s.heap.objs.size = some y := let ⟨y, _, _, hy, _⟩ := dg; ⟨y, hy⟩
  have I3 := d_write (t' := s1.toks) I2 (by rw [e1]; exact True.intro) hs he (dk_new (H' := upd H1 s.heap.objs.size (.dK ps)) z2 hd1 r2 dg)
  have hq := I3.hok.fresh (Nat.le_refl g.objs.size)
  have I4 := I3.laid (a := g.objs.size) (o := .dK []) (h' := g.push { cls := .type "dict", data := .dict #[] }) (t' := s1.toks) (fun _ _ q => Heap.get?_push_of_some _ q) (Nat.le_refl _) (dk_empty g I3.big)
  refine wpAny_bind (wpAny_holding (wpAny_subDict (knd := mixKind X.prog X.w) (pairs := pairTrees [some ke] [ue] X.env pos) (by show 1 ≤ 15; decide) (thn (h.run pins _ σ _ _ I4 (q1 _ hq)) fun ws s2 ⟨us, H2, I5, rel, f1, f2, hqp, rs, eu, l15, lz, q2⟩ => ?_)))
  subst eu
  obtain ⟨cs, c, rk⟩ := carries_of (P := X.prog) (w := X.w) rel
  obtain ⟨z5, hd5, vs5, r5, dd5⟩ := dk_of I5.hok f1
  cases r5
  refine ⟨cs, c, dd5, fun g' dg' hs' => ?_⟩
  have hz : (mergeK [] rs).length ≤ sizeLine := by
    have h1 := length_mergeK rs []
    rw [List.length_nil] at h1
    rw [sizeLine_eq]
    omega
  have he' : ∃ y, g'.get? g.objs.size = some y := let ⟨y, _, _, hy, _⟩ := dg'; ⟨y, hy⟩
  have I6 := d_write (t' := s2.toks + ws.length) I5 (by rw [f1]; exact True.intro) hs' he' (dk_new (H' := upd H2 g.objs.size (.dK (mergeK [] rs))) hz hd5 (rk.merge .nil) dg')
  have f3 : upd H2 g.objs.size (.dK (mergeK [] rs)) s.heap.objs.size = some (.dK ps) := by
    rw [upd_ne (Ne.symm hqp)]
    exact f2
  obtain ⟨z7, hd7, vs7, r7, dd7⟩ := dk_of I6.hok f3
  obtain ⟨z8, hd8, vs8, r8, dd8⟩ := dk_of I6.hok (upd_same (H := H2) (a := g.objs.size) (o := .dK (mergeK [] rs)))
  have hl8 : vs7.length + vs8.length ≤ sizeLine := by
    rw [← r7.length, ← r8.length]
    have h1 := length_mergeK rs []
    rw [List.length_nil] at h1
    omega
  refine wpAny_bind (wpAny_onRaise (wpAny_holding (merge_pairs (Ne.symm hqp) hd8 dd7 dd8 hl8 fun g2 dg2 hs2 => ?_)))
  have he2 : ∃ y, g2.get? s.heap.objs.size = some y := let ⟨y, _, _, hy, _⟩ := dg2; ⟨y, hy⟩
  have hz9 : (mergeK ps (mergeK [] rs)).length ≤ sizeLine := by
    have h1 := length_mergeK rs []
    have h2 := length_mergeK (mergeK [] rs) ps
    rw [List.length_nil] at h1
    omega
  exact wpAny_pure ⟨.ref s.heap.objs.size, _, d_write (t' := s2.toks + ws.length) I6 (by rw [f3]; exact True.intro) hs2 he2 (dk_new hz9 hd7 (r8.merge r7) dg2), rfl, q2⟩
end
end KB

namespace KB
open PySem PySem.Spec PyProof.Rows L2 LamX NdefX

/-! ### a def whose code object is known -/
structure FunC (K : PySem.W.Frag) (x qual : Str) (st : Stmt) (f : Addr) (fd : FuncData) (c : Addr) : Prop where
  ex : ∃ (oc : Value) (od : Option Addr) (kV doc pm : Value) (an : Option Addr) (ct : Value) (osl : Array (Option Value)),
    fd = PySem.W.fnOf x qual (defArgs st) (defBody st) (defScope st) .none kV doc pm an (.ref c) ct ∧ K.lookup f = some ⟨oc, od, .func fd, osl⟩ ∧ PySem.W.codeIn K (.ref c) qual = true
theorem funC_mk {K : PySem.W.Frag} {x qual : Str} {st : Stmt} {f c : Addr} {oc : Value} {od an : Option Addr} {osl : Array (Option Value)} {kV doc pm ct : Value} (l : K.lookup f = some ⟨oc, od, .func (PySem.W.fnOf x qual (defArgs st) (defBody st) (defScope st) .none kV doc pm an (.ref c) ct), osl⟩) (h : PySem.W.codeIn K (.ref c) qual = true) :
    FunC K x qual st f (PySem.W.fnOf x qual (defArgs st) (defBody st) (defScope st) .none kV doc pm an (.ref c) ct) c := ⟨⟨oc, od, kV, doc, pm, an, ct, osl, rfl, l, h⟩⟩
section
variable {P : Program} {w : World} {K : PySem.W.Frag} {mg : Str → Option Value} {base : Heap}
theorem okC {x qual : Str} {st : Stmt} {f c : Addr} {fd : FuncData} {N ps : List Str} {k : Nat} {sp : Sp} (F : FunC K x qual st f fd c) (S : FnScope N ps (defScope st)) (len : ∀ vs H Q E, sp vs H Q E → vs.length = ps.length)
    (hb : ∀ (A : Around) (outer : List Env) (s : Shared) (H : Hp) (vs : List V) (Q : VK) (E : XK), Room k (A.deeper (envOfC qual (defScope st) s.heap.objs.size f (.ref c))) → sp vs H Q E →
      ∃ t, PSs (cxOf CX0 P w K mg base N qual (defScope st) f (.ref c) A outer s H E).nox (defBody st) t ∧ t { nx := fun _ H' => Q .non H', rt := Q } (start N vs) H) : FnOk P w K mg base CX0 (k + 1) f fd ps sp := by
  obtain ⟨oc, od, kV, doc, pm, an, ct, osl, rfl, look, code⟩ := F.ex
  refine fn_of look code S len fun A outer s H vs Q E room want => ?_
  obtain ⟨t, ht, hq⟩ := hb A outer s H vs Q E room want
  exact ⟨t, ht.nox, hq⟩
end
/-- g(e, e2, lambda ..) -/
theorem pe_callLam {X : Cx} {kl k : Nat} {g : Addr} {gd : FuncData} {gps : List Str} {sp : SpL} {x : Str} {p pos lpos : Pos} {e e2 : Expr} {t1 t2 : TE} {pr : Arguments} {bd : Expr} {sc : Scope} {T : List (Addr × Str)} {c P : Addr} {N ps fr : List Str} {js : List Nat} {tb : TE}
    (TB : TabB X.base X.mg c P) (hcode : X.env.code = .ref c) (hm : (P, X.env.qual ++ "<lambda>") ∈ T) (hu : ∀ p ∈ T, p.1 = P → p.2 = X.env.qual ++ "<lambda>")
    (G : FnL X.prog X.w X.K X.mg X.base (kl + 1) k g gd gps sp) (hr : Room (k + (kl + 1)) X.A) (hg : Gl X x) (hmg : X.mg x = some (.ref g)) (hk : PySem.W.keepIn X.K (.ref g) = true) (hbg : Binds X.K gd gps []) (h1 : PE X e t1) (h2 : PE X e2 t2)
    (S : NScope N ps fr sc) (hfree : ∀ y ∈ sc.names, y.2 = .free → X.env.scope.names.lookup y.1 = some .cell ∨ X.env.scope.names.lookup y.1 = some .free) (hfr : ∀ y ∈ fr, (y, NameKind.free) ∈ sc.names) (hjs : js.map (fun j => X.N[j]?) = fr.map some)
    (hbind : ∀ (q : Str) (cl : List (Str × Addr)) (c' : Addr) (pm ctv : Value) (us : List Value), us.length = ps.length → bindArgs (PySem.W.kla_fn "<lambda>" q pr bd sc cl pm (.ref c') ctv) ⟨us, []⟩ = pure (ps.zip us))
    (hb : ∀ (q : Str) (cl : List (Str × Addr)) (f c' : Addr) (A : Around) (outer : List Env) (s1 : Shared) (H1 : Hp), Room kl (A.deeper (envF ⟨"<lambda>", q, pr, [], sc, cl, c'⟩ f s1.heap.objs.size)) →
      PE (ncx CX0 X.prog X.w X.K X.mg X.base N ⟨"<lambda>", q, pr, [], sc, cl, c'⟩ f A outer s1 H1 E0) bd tb)
    (hdef : defaultsOf pr X.env = ([], []) := by rfl) (hdb : (x == ("__debug__" : Str)) = false := by decide)
    (he : starEach [e, e2, .Lambda pr bd sc lpos] X.env = (false, eval e X.env) :: starEach [e2, .Lambda pr bd sc lpos] X.env := by rfl) (hpl : (backTo pos (starEach [e2, .Lambda pr bd sc lpos] X.env)).any (·.1) = false := by rfl)
    (hs2 : starEach [e2, .Lambda pr bd sc lpos] X.env = (false, eval e2 X.env) :: starEach [.Lambda pr bd sc lpos] X.env := by rfl) (hs3 : starEach [.Lambda pr bd sc lpos] X.env = (false, eval (.Lambda pr bd sc lpos) X.env) :: starEach [] X.env := by rfl) :
    PE X (.Call (.Name x p) [e, e2, .Lambda pr bd sc lpos] [] pos) (tCallLm N ps.length js tb (fun c' => ⟨X.env.qual ++ "<lambda>", pr, bd, sc, cloFrom X.env.cells sc.names [], c'⟩) sp (tCons t1 (tCons t2 (tCons (tLambda T fun c' => ⟨X.env.qual ++ "<lambda>", pr, bd, sc, cloFrom X.env.cells sc.names [], c'⟩) tNil)))) :=
  pe_callLm G hr hg hmg hk hbg (pa_cons h1 (pa_cons h2 (pa_cons (pe_lambda TB hcode hm hu hdef hfree) pa_nil hs3) hs2) he) (fun _ => S) (fun ok c' => Caps.made ok hfree hfr hjs) (fun c' pm ctv us hl => hbind _ _ c' pm ctv us hl) (fun f c' A outer s1 H1 room => hb _ _ f c' A outer s1 H1 room) hdb he hpl
end KB

namespace KB
open PySem L2 HT LamX NdefX

theorem tabs_jx (T : List (Addr × Str)) : Jx (Tabs T) := ⟨fun s t => tabs_new t s, fun h t => tabs_mut t h _⟩
theorem ncnt_a {ws js : List Str} {p : Pt} (hj : ∀ j ∈ js, PySem.PyData.strOk j = true) (h : aP ws js p) : ncnt p ≤ 13 * pcnt p := ncnt_le (aP_kP hj h)
theorem hdW_in {ws js : List Str} {n : Nd} (h : aN ws js n) : ∀ y ∈ hdW n, y ∈ ws := by
  intro y hy
  cases n with
  | inl p =>
    cases p with
    | tell x t p => rw [List.mem_singleton.mp hy]; exact h.1.2
    | lett x t p => rw [List.mem_singleton.mp hy]; exact h.1.2
    | post j x p q => rw [List.mem_singleton.mp hy]; exact h.2.1.2
    | _ => cases hy
  | inr t =>
    have h : TmW ws t := h
    exact h.c y (nms_hd y hy)
theorem hdJ_in {ws js : List Str} {n : Nd} (h : aN ws js n) : ∀ j ∈ hdJ n, j ∈ js := by
  intro j hj
  cases n with
  | inl p =>
    cases p with
    | give i t => rw [List.mem_singleton.mp hj]; exact h.1
    | ask f ts i => rw [List.mem_singleton.mp hj]; exact h.1
    | post i x p q => rw [List.mem_singleton.mp hj]; exact h.1.2
    | _ => cases hj
  | inr t => cases hj
theorem kids_le {ws js : List Str} {n : Nd} (h : aN ws js n) : (kidsN n).length ≤ 10 := by
  cases n with
  | inl p =>
    have h1 := aP_tl (p := p) h
    have h2 : (restP p).length ≤ 2 := by cases p <;> simp [restP]
    show ((termsP p).map Sum.inr ++ (restP p).map Sum.inl).length ≤ 10
    rw [List.length_append, List.length_map, List.length_map]
    omega
  | inr t =>
    obtain ⟨hd, c, k⟩ := t
    have h : TmW ws _ := h
    have h1 := h.s.cn
    rw [cnt_mk] at h1
    have h2 : (List.ofFn k).length ≤ cnts (List.ofFn k) := by
      generalize List.ofFn k = l
      induction l with
      | nil => exact Nat.zero_le _
      | cons u r ih =>
        obtain ⟨hu, cu, ku⟩ := u
        rw [List.length_cons, cnts_cons, cnt_mk]
        omega
    show ((List.ofFn k).map Sum.inr).length ≤ 10
    rw [List.length_map]
    omega
section
variable {P : Program} {w : World} {K : PySem.W.Frag} {mg : Str → Option Value} {base : Heap}
/-! ### errand_anew -/
def spEa (T : List (Addr × Str)) : Sp := fun vs H Q _ => ∃ (r b : Addr) (e : TEr), vs = [.str e.1, .ref r, .ref b] ∧ H r = some (.tup (e.2.1.map V.str)) ∧ PAt H e.2.2 b ∧ AnE e ∧ Tabs T H ∧ ∀ v H', Sx H H' → Tabs T H' → RAt H' (pdE (anewE e)) v → Q v H'
abbrev serrand_anew : Stmt := top 19
theorem scerrand_anew : FnScope ["name", "names", "body", "words", "hands", "told", "x"] ["name", "names", "body"] (defScope serrand_anew) := ⟨rfl, rfl, rfl, by decide +kernel, rfl, by decide +kernel, by decide +kernel⟩
theorem ok_ea (T : Txt K mg) (S : TxS K mg) {c Pt0 : Addr} {TT : List (Addr × Str)} (TB : TabB base mg c Pt0) (hTT : TT = [(Pt0, ("errand_anew.<locals>.<lambda>" : Str))]) {f f1 f2 f3 f4 f5 f6 : Addr} {fd d1 d2 d3 d4 d5 d6 : FuncData} (F : FunC K "errand_anew" "errand_anew" serrand_anew f fd c)
    (Gnumbered : FnOk P w K mg base CX0 2 f1 d1 ["words"] spNbd) (Rnumbered : Ref K mg "numbered" f1 d1 ["words"]) (Gwords_met : FnOk P w K mg base CX0 3 f2 d2 ["names", "body"] spWm) (Rwords_met : Ref K mg "words_met" f2 d2 ["names", "body"])
    (Gposts_met : FnOk P w K mg base CX0 3 f3 d3 ["body"] spPm) (Rposts_met : Ref K mg "posts_met" f3 d3 ["body"]) (Gremade : ∀ (ws js : List Str) (W J : Str → Str), FnL P w K mg base 3 4 f4 d4 ["body", "parts", "made"] (spRemX (TrW ws js) RAt (gD W J) (fD W J) (Tabs TT) f5)) (Rremade : Ref K mg "remade" f4 d4 ["body", "parts", "made"])
    (Rturned_parts : Ref K mg "turned_parts" f5 d5 ["part"]) (Grenamed_part : FnOk P w K mg base CX0 2 f6 d6 ["part", "own", "words", "hands"] spRnP) (Rrenamed_part : Ref K mg "renamed_part" f6 d6 ["part", "own", "words", "hands"]) : FnOk P w K mg base CX0 8 f fd ["name", "names", "body"] (spEa TT) := by
  refine okC F scerrand_anew (fun vs H Q E h => ?_) (fun A outer s H vs Q E hr h => ?_)
  · obtain ⟨r, b, e, rfl, _⟩ := h
    rfl
  obtain ⟨r, b, e, rfl, hR, hA, hE, hTb, q⟩ := h
  obtain ⟨th, eh⟩ := S.home
  refine ⟨_, (pss_cons (ps_set (i := 3) scerrand_anew.nd rfl (Or.inr rfl) (pe_call Gnumbered (hr.mono (by omega)) rfl Rnumbered.m Rnumbered.k Rnumbered.b .nil pass0 (pa_cons (pe_call Gwords_met (hr.mono (by omega)) rfl Rwords_met.m Rwords_met.k Rwords_met.b .nil pass0 (pa_cons (pv 1) (pa_cons (pv 2) pa_nil))) pa_nil)))
    (pss_cons (ps_set (i := 4) scerrand_anew.nd rfl (Or.inr rfl) (pe_dd (pe_call Gnumbered (hr.mono (by omega)) rfl Rnumbered.m Rnumbered.k Rnumbered.b .nil pass0 (pa_cons (pe_call Gposts_met (hr.mono (by omega)) rfl Rposts_met.m Rposts_met.k Rposts_met.b .nil pass0 (pa_cons (pv 2) pa_nil)) pa_nil)) (pps_cons (pe_glob (v := .str "home") rfl eh ⟨_, rfl⟩) (pe_glob (v := .str "home") rfl eh ⟨_, rfl⟩) pps_nil)))
    (pss_cons (ps_set (i := 5) scerrand_anew.nd rfl (Or.inl rfl) (pe_callLam (T := TT) (N := ["part", "own", "words", "hands"]) (ps := ["part", "own"]) (fr := ["words", "hands"]) (js := [3, 4]) TB rfl (by rw [hTT]; exact List.mem_singleton.mpr rfl) (fun p hp _ => by rw [hTT] at hp; rw [List.mem_singleton.mp hp]; rfl)
        (Gremade (wsE e) ("home" :: jsE e) (gW e) (gJ e)) (hr.mono (by omega)) rfl Rremade.m Rremade.k Rremade.b (pv 2) (pe_glob (v := .ref f5) rfl Rturned_parts.m rfl) (nscope_by (by decide +kernel)) (by change ∀ y : Str × NameKind, y ∈ _ → y.2 = NameKind.free → (defScope serrand_anew).names.lookup y.1 = some NameKind.cell ∨ (defScope serrand_anew).names.lookup y.1 = some NameKind.free; decide +kernel) (by decide +kernel) (by rfl) (fun _ _ _ _ _ us hl => match us, hl with | [_, _], _ => rfl)
        (fun _ _ _ _ _ _ _ _ room => pe_call Grenamed_part (room.mono (by omega)) rfl Rrenamed_part.m Rrenamed_part.k Rrenamed_part.b .nil pass0 (pa_cons (pv 0) (pa_cons (pv 1) (pa_cons (pv 2) (pa_cons (pv 3) pa_nil)))))))
    (pss_one (ps_ret (pe_tup (pa_cons (pv 0) (pa_cons (pe_callTy call_tuple_of (by rfl) T.m_tuple (by decide +kernel) (pa_cons (pe_lc (own := [("x", 6)]) (g := gName 6) (tt := tYes) (te := tDGet (tVar 3) (tVar 6)) (by rfl) scerrand_anew.nd (pi_tup (pv 1)) (blkOk_by (own := [("x", 6)]) (N := ["name", "names", "body", "words", "hands", "told", "x"]) (sc := defScope serrand_anew) (by decide +kernel)) (fun _ _ _ _ _ => (pg_name (i := 6) scerrand_anew.nd rfl (Or.inl rfl))) (fun _ _ _ _ _ => pts_nil) (fun _ _ _ _ _ => (pe_dget (hu_of hr) (pv 3) (pv 6) (fun _ _ => rfl)))) pa_nil)) (pa_cons (pv 5) pa_nil))))))))), ?_⟩
  have hhome : ∀ j ∈ jsE e, (Sum.inr j : Key) ≠ Sum.inr ("home" : Str) := fun j hj z => not_home (aP_jw hE.a j hj).1 (Sum.inr.inj z)
  -- words
  refine ⟨_, rfl, _, rfl, r, b, e.2.1, e.2.2, rfl, hR, Nat.le_trans hE.nl (by decide), hA, Nat.le_trans hE.cn (by decide), fun l1 H1 hl1 s1 h1 => ?_⟩
  refine ⟨l1, wsE e, rfl, h1, Nat.le_trans hE.wl (by decide), fun d H2 kvs hd s2 h2 hkl hk => ?_⟩
  have s12 := s1.trans s2
  clear h1 hl1
  -- hands
  intro p hp
  have s3 := same_new hp (.dK [])
  have p3 : upd H2 p (.dK []) p = some (.dK []) := upd_same
  generalize upd H2 p (.dK []) = H3 at s3 p3
  refine ⟨_, rfl, b, e.2.2, rfl, PAt.tk (tk_same (s12.trans s3)) hA, Nat.le_trans hE.cn (by decide), fun l4 H4 hl4 s4 h4 => ?_⟩
  refine ⟨l4, jsE e, rfl, h4, Nat.le_trans hE.jl (by decide), fun d2 H5 kvs2 hd2 s5 h5 hkl2 hk2 => ?_⟩
  have s35 := s4.trans s5
  have p5 := s35 _ _ p3
  have nd2p : d2 ≠ p := fun z => by
    have := (s4.free hd2)
    rw [z, p3] at this
    cases this
  refine ⟨d2, kvs2, rfl, nd2p, p5, h5, fun q0 hq0 => ?_⟩
  have nqp : q0 ≠ p := fun z => by
    rw [z, upd_same] at hq0
    cases hq0
  have hq5 : H5 q0 = none := by
    rw [upd_ne nqp] at hq0
    exact hq0
  refine ⟨upd_same, by rw [upd_ne (Ne.symm nqp), upd_same], nqp, [(Sum.inr ("home" : Str), .str "home")], rfl, by decide, ?_, ?_⟩
  · have := hE.jl
    rw [sizeLine_eq]
    show kvs2.length + 1 ≤ _
    omega
  have s25 : Same H2 H5 := s3.trans s35
  have s6 : Same H2 (upd (upd (upd (upd H5 p (.dK kvs2)) q0 (.dK [])) q0 (.dK (mergeK [] [(Sum.inr ("home" : Str), V.str "home")]))) p (.dK (mergeK kvs2 (mergeK [] [(Sum.inr ("home" : Str), V.str "home")])))) :=
    same_mut (same_mut ((same_mut s25 hp).trans (same_new hq0 _)) (s25.free hq5)) hp
  have p6 : upd (upd (upd (upd H5 p (.dK kvs2)) q0 (.dK [])) q0 (.dK (mergeK [] [(Sum.inr ("home" : Str), V.str "home")]))) p (.dK (mergeK kvs2 (mergeK [] [(Sum.inr ("home" : Str), V.str "home")]))) p = some (.dK (putK kvs2 (Sum.inr ("home" : Str)) (.str "home"))) := upd_same
  generalize upd (upd (upd (upd H5 p (.dK kvs2)) q0 (.dK [])) q0 (.dK (mergeK [] [(Sum.inr ("home" : Str), V.str "home")]))) p (.dK (mergeK kvs2 (mergeK [] [(Sum.inr ("home" : Str), V.str "home")]))) = H6 at s6 p6
  have s06 := s12.trans s6
  have d6 := s6 _ _ h2
  have hJ : Tells (putK kvs2 (Sum.inr ("home" : Str)) (.str "home")) (gJ e) ("home" :: jsE e) := fun j hj => by
    rw [valV_put]
    rcases List.mem_cons.mp hj with z | z
    · rw [z, if_pos rfl, gJ_home]
    · rw [if_neg (hhome j z), (hE.gj z).2]
      exact hk2 j z
  clear hq0 hq5 nqp s25 nd2p p5 s35 h5 h4 hl4 s4 s5 s3 p3 hp
  have T6 : Tabs TT H6 := tabs_new hTb s06
  have A6 := PAt.tk (tk_same s06) hA
  -- told
  refine ⟨_, rfl, T6, fun fl c' H7 s7 T7 hfl kn7 => ?_⟩
  refine ⟨fl, c', kn7, .inl e.2.2, b, rfl, kn7, T7, ⟨⟨PAt.tk s7.tk A6, hE.kp⟩, hE.a⟩, Nat.le_trans (ncnt_a hE.jok hE.a) (by have := hE.cn; omega), ?_, fun v8 H8 s8 T8 r8 => ?_⟩
  · intro H9 m a9 q9 bs us Q' s9 kn9 T9 hm h9 k9 l9 q'
    refine ⟨rfl, ?_⟩
    have s79 := s7.trans s9
    refine ⟨_, rfl, _, rfl, _, rfl, _, rfl, m, a9, q9, d, p, bs, us, kvs, _, gW e, gJ e, rfl, hm.1, h9, ratL_of k9, ?_, s79.d d6, fun y hy => hk y (hdW_in hm.2 y hy), s79.d p6, fun j hj => hJ j (hdJ_in hm.2 j hj), fun v H10 s10 r10 => q' v H10 (sx_same s10) (tabs_new T9 s10) r10⟩
    have e1 := k9.len
    have e2 := kids_le hm.2
    rw [e1, l9]
    exact e2
  have s08 := (sx_same s06).trans (s7.trans s8)
  have R8 := s08.t hR
  have d8 := (s7.trans s8).d d6
  -- what is told
  refine ⟨_, rfl, _, rfl, r, rfl, ⟨_, SqT.of R8⟩, fun D hD => lc_tup (K := K) (a := r) (xs := e.2.1.map V.str) (fun i H' => Same H8 H' ∧ H' D = some (.lst ((e.2.1.take i).map fun x => V.str (gW e x)))) ⟨same_new hD _, by rw [List.take_zero]; exact upd_same⟩ ?_ ?_ ?_⟩
  · rintro i H' _ ⟨s9, _⟩
    exact SqT.of (s9 _ _ R8)
  · rintro i x H9 hx ⟨s9, h9⟩
    rw [List.getElem?_map] at hx
    obtain ⟨y, hy, rfl⟩ : ∃ y, e.2.1[i]? = some y ∧ V.str y = x := by
      cases e0 : e.2.1[i]? with
      | none => rw [e0] at hx; cases hx
      | some y => rw [e0] at hx; exact ⟨y, rfl, Option.some.inj hx⟩
    obtain ⟨hj, hj2⟩ := List.getElem?_eq_some_iff.mp hy
    refine ⟨rfl, ?_⟩
    dsimp only [tYes]
    refine iteT ⟨_, rfl, _, rfl, d, _, rfl, Tells.get (s9 _ _ d8) hk (List.mem_append_left _ (mem_of_get hy)), _, h9, ?_, same_mut s9 hD, ?_⟩
    · rw [List.length_map, List.length_take]
      have := hE.nl
      exact Nat.lt_of_le_of_lt (m := 4) (by omega) (by decide)
    · rw [upd_same, List.take_succ_eq_append_getElem hj, hj2, List.map_append]
      rfl
  rintro H9 ⟨s9, h9⟩
  rw [List.length_map, List.take_length] at h9
  refine ⟨D, _, rfl, .inl ⟨SqL.of h9, fun t0 ht0 => ?_⟩⟩
  have s10 := same_new ht0 (.tup (e.2.1.map fun x => V.str (gW e x)))
  have h10 : upd H9 t0 (.tup (e.2.1.map fun x => V.str (gW e x))) t0 = some (.tup (e.2.1.map fun x => V.str (gW e x))) := upd_same
  generalize upd H9 t0 (.tup (e.2.1.map fun x => V.str (gW e x))) = H10 at s10 h10
  refine ⟨_, rfl, sz (by show 3 ≤ 100000; decide), fun t1 ht1 => ?_⟩
  have s11 := same_new ht1 (.tup [.str e.1, .ref t0, v8])
  have s8' := s9.trans (s10.trans s11)
  refine q _ _ (s08.trans (sx_same s8')) (tabs_new T8 s8') (.tup upd_same (.cons (.str _) (.cons (.tup (s11 _ _ h10) ?_) (.cons (r8.tk (tk_same s8')) .nil))))
  have := rat_strs (H := upd H10 t1 (.tup [.str e.1, .ref t0, v8])) (e.2.1.map (gW e))
  rw [List.map_map, List.map_map] at this
  show RAtL _ ((e.2.1.map (gW e)).map PyData.str) _
  rw [List.map_map]
  exact this
end
end KB

namespace KB
open PySem L2 HT LamX NdefX

theorem RAtL.app {H : Hp} : ∀ {ds es : List PyData} {vs us : List V}, RAtL H ds vs → RAtL H es us → RAtL H (ds ++ es) (vs ++ us)
  | _, _, _, _, .nil, h => h
  | _, _, _, _, .cons a b, h => .cons a (b.app h)
section
variable {P : Program} {w : World} {K : PySem.W.Frag} {mg : Str → Option Value} {base : Heap}
/-! ### anew -/
def spAn (T : List (Addr × Str)) : Sp := fun vs H Q _ => ∃ (p : Addr) (es : List TEr) (us : List V), vs = [.ref p] ∧ TBkAt H es us p ∧ es.length ≤ 6 ∧ (∀ e ∈ es, AnE e) ∧ Tabs T H ∧ ∀ v H', Sx H H' → Tabs T H' → RAt H' (pdB (es.map anewE)) v → Q v H'
abbrev sanew : Stmt := top 18
theorem scanew : FnScope ["turned", "name", "names", "body"] ["turned"] (defScope sanew) := ⟨rfl, rfl, rfl, by decide +kernel, rfl, by decide +kernel, by decide +kernel⟩
theorem ok_an (T : Txt K mg) {TT : List (Addr × Str)} {f f1 : Addr} {fd d1 : FuncData} (F : Fun K "anew" "anew" sanew f fd) (Gerrand_anew : FnOk P w K mg base CX0 8 f1 d1 ["name", "names", "body"] (spEa TT)) (Rerrand_anew : Ref K mg "errand_anew" f1 d1 ["name", "names", "body"]) : FnOk P w K mg base CX0 9 f fd ["turned"] (spAn TT) := by
  refine F.ok scanew (fun vs H Q E h => ?_) (fun cdv A outer s H vs Q E hr h => ?_)
  · obtain ⟨p, es, us, rfl, _⟩ := h
    rfl
  obtain ⟨p, es, us, rfl, hB, hl6, hE, hT, q⟩ := h
  refine ⟨_, (pss_one (ps_ret (pe_callTy call_tuple_of (by rfl) T.m_tuple (by decide +kernel) (pa_cons (pe_lc (own := [("name", 1), ("names", 2), ("body", 3)]) (g := gTup K 3 (gCons (gName 1) (gCons (gName 2) (gCons (gName 3) gNil)))) (tt := tYes) (te := tCall (spEa TT) [] E0 (tCons (tVar 1) (tCons (tVar 2) (tCons (tVar 3) tNil)))) (by rfl) scanew.nd (pi_tup (pv 0)) (blkOk_by (own := [("name", 1), ("names", 2), ("body", 3)]) (N := ["turned", "name", "names", "body"]) (sc := defScope sanew) (by decide +kernel)) (fun _ _ _ _ _ => (pg_tup rfl (pgs_cons (pg_name (i := 1) scanew.nd rfl (Or.inl rfl)) (pgs_cons (pg_name (i := 2) scanew.nd rfl (Or.inl rfl)) (pgs_cons (pg_name (i := 3) scanew.nd rfl (Or.inl rfl)) pgs_nil))))) (fun _ _ _ _ _ => pts_nil) (fun _ _ _ _ _ => (pe_call Gerrand_anew (hr.mono (by omega)) rfl Rerrand_anew.m Rerrand_anew.k Rerrand_anew.b .nil pass0 (pa_cons (pv 1) (pa_cons (pv 2) (pa_cons (pv 3) pa_nil)))))) pa_nil)))), ?_⟩
  refine ⟨_, rfl, p, rfl, ⟨_, SqT.of hB.1⟩, fun D hD => lc_tup (K := K) (a := p) (xs := us) (fun i H' => Sx H H' ∧ Tabs TT H' ∧ ∃ acc, H' D = some (.lst acc) ∧ RAtL H' (((es.take i).map anewE).map pdE) acc) ⟨sx_new hD _, tabs_new hT (same_new hD _), [], upd_same, by rw [List.take_zero]; exact .nil⟩ ?_ ?_ ?_⟩
  · rintro i H' _ ⟨s1, _⟩
    exact SqT.of (s1.t hB.1)
  · rintro i x H1 hx ⟨s1, t1, acc, h1, k1⟩
    obtain ⟨e, he, qa, r, b, rfl, g1, g2, g3⟩ := hB.2.get hx
    obtain ⟨hj, hj2⟩ := List.getElem?_eq_some_iff.mp he
    have hee := mem_of_get he
    have hl := k1.len
    rw [List.length_map, List.length_map, List.length_take] at hl
    refine ⟨qa, _, rfl, SqT.of (s1.t g1), rfl, _, _, rfl, _, _, rfl, _, _, rfl, rfl, rfl, ?_⟩
    dsimp only [tYes]
    refine iteT ⟨_, rfl, _, rfl, _, rfl, r, b, e, rfl, s1.t g2, PAt.tk s1.tk g3, hE e hee, t1, fun v H2 s2 t2 r2 => ?_⟩
    have h2 := s2.l h1
    have tk := tk_put (o := .lst (acc ++ [v])) h2
    refine ⟨acc, h2, Nat.lt_of_le_of_lt (m := 6) (by omega) (by decide), sx_mut (s1.trans s2) hD _, tabs_mut t2 h2 _, _, upd_same, ?_⟩
    rw [List.take_succ_eq_append_getElem hj, hj2, List.map_append, List.map_append]
    exact ((k1.tk s2.tk).tk tk).app (.cons (r2.tk tk) .nil)
  rintro H1 ⟨s1, t1, acc, h1, k1⟩
  rw [hB.2.len, List.take_length] at k1
  refine ⟨D, acc, rfl, .inl ⟨SqL.of h1, fun t0 ht0 => ?_⟩⟩
  have s2 := same_new ht0 (.tup acc)
  exact q _ _ (s1.trans (sx_same s2)) (tabs_new t1 s2) (.tup upd_same (k1.tk (tk_same s2)))
/-! ### are_alike -/
def alike2 (es fs : List TEr) : Bool := PyData.eqv (pdB (es.map anewE)) (pdB (fs.map anewE))
theorem an_map {es : List TEr} (h : ∀ e ∈ es, AnE e) : ∀ e ∈ es.map anewE, AnE e := fun e he => by
  obtain ⟨x, hx, rfl⟩ := List.mem_map.mp he
  exact (h x hx).anew
def spAa (T : List (Addr × Str)) : Sp := fun vs H Q _ => ∃ (p p2 : Addr) (es fs : List TEr) (us ws : List V), vs = [.ref p, .ref p2] ∧ TBkAt H es us p ∧ es.length ≤ 6 ∧ (∀ e ∈ es, AnE e) ∧ TBkAt H fs ws p2 ∧ fs.length ≤ 6 ∧ (∀ e ∈ fs, AnE e) ∧ Tabs T H ∧ ∀ H', Sx H H' → Tabs T H' → Q (.bl (alike2 es fs)) H'
abbrev sare_alike : Stmt := top 23
theorem scare_alike : FnScope ["turned", "other"] ["turned", "other"] (defScope sare_alike) := ⟨rfl, rfl, rfl, by decide +kernel, rfl, by decide +kernel, by decide +kernel⟩
theorem ok_aa {TT : List (Addr × Str)} {f f1 : Addr} {fd d1 : FuncData} (F : Fun K "are_alike" "are_alike" sare_alike f fd) (Ganew : FnOk P w K mg base CX0 9 f1 d1 ["turned"] (spAn TT)) (Ranew : Ref K mg "anew" f1 d1 ["turned"]) : FnOk P w K mg base CX0 10 f fd ["turned", "other"] (spAa TT) := by
  refine F.ok scare_alike (fun vs H Q E h => ?_) (fun cdv A outer s H vs Q E hr h => ?_)
  · obtain ⟨p, p2, es, fs, us, ws, rfl, _⟩ := h
    rfl
  obtain ⟨p, p2, es, fs, us, ws, rfl, hB, hl, hE, hB2, hl2, hE2, hT, q⟩ := h
  refine ⟨_, (pss_one (ps_ret (pe_cmpR (op_eqD hr.units) (pe_call Ganew (hr.mono (by omega)) rfl Ranew.m Ranew.k Ranew.b .nil pass0 (pa_cons (pv 0) pa_nil)) (pe_call Ganew (hr.mono (by omega)) rfl Ranew.m Ranew.k Ranew.b .nil pass0 (pa_cons (pv 1) pa_nil)) (nomark _)))), ?_⟩
  refine ⟨_, rfl, p, es, us, rfl, hB, hl, hE, hT, fun v1 H1 s1 t1 r1 => ?_⟩
  refine ⟨_, rfl, p2, fs, ws, rfl, ⟨s1.t hB2.1, hB2.2.imp fun _ _ z => TErV.tk s1.tk z⟩, hl2, hE2, t1, fun v2 H2 s2 t2 r2 => ?_⟩
  exact ⟨_, _, (r1.tk s2.tk).dp, r2.dp, shaped_bk (an_map hE), shaped_bk (an_map hE2), q H2 (s1.trans s2) t2⟩
/-! ### _law_anew -/
def spLan : Sp := fun vs H Q _ => ∃ (p : Addr) (es : List TEr) (us : List V), vs = [.ref p] ∧ TBkAt H es us p ∧ es.length ≤ 6 ∧ (∀ e ∈ es, AnE e) ∧ ∀ r H' us', Same H H' → TBkAt H' (es.map anewE) us' r → Q (.ref r) H'
abbrev s_law_anew : Stmt := top 49
theorem scLanew : FnScope ["turned", "found", "name", "names", "part", "words", "posts", "one"] ["turned"] (defScope s_law_anew) := ⟨rfl, rfl, rfl, by decide +kernel, rfl, by decide +kernel, by decide +kernel⟩
theorem ok_lan (T : Txt K mg) {f f1 f2 f3 f4 : Addr} {fd d1 d2 d3 d4 : FuncData} (F : Fun K "_law_anew" "_law_anew" s_law_anew f fd) (G_law_by_numbers : FnOk P w K mg base CX0 1 f1 d1 ["words"] spByN) (R_law_by_numbers : Ref K mg "_law_by_numbers" f1 d1 ["words"])
    (G_law_twords : FnOk P w K mg base CX0 51 f2 d2 ["part"] (spTw 50)) (R_law_twords : Ref K mg "_law_twords" f2 d2 ["part"]) (G_law_tposts : FnOk P w K mg base CX0 51 f3 d3 ["part"] (spTp 50)) (R_law_tposts : Ref K mg "_law_tposts" f3 d3 ["part"])
    (G_law_tcalled : FnOk P w K mg base CX0 53 f4 d4 ["part", "words", "posts"] (spTc 50)) (R_law_tcalled : Ref K mg "_law_tcalled" f4 d4 ["part", "words", "posts"]) : FnOk P w K mg base CX0 54 f fd ["turned"] spLan := by
  refine F.ok scLanew (fun vs H Q E h => ?_) (fun cdv A outer s H vs Q E hr h => ?_)
  · obtain ⟨p, es, us, rfl, _⟩ := h
    rfl
  obtain ⟨p, es, us, rfl, hB, hl6, hE, q⟩ := h
  refine ⟨_, (pss_cons (ps_set (i := 1) scLanew.nd rfl (Or.inl rfl) (pe_lst pa_nil))
    (pss_cons (ps_for PassesOwn.never rfl (pi_tup (pv 0)) (pg_tup rfl (pgs_cons (pg_name (i := 2) scLanew.nd rfl (Or.inl rfl)) (pgs_cons (pg_name (i := 3) scLanew.nd rfl (Or.inl rfl)) (pgs_cons (pg_name (i := 4) scLanew.nd rfl (Or.inl rfl)) pgs_nil)))) (pss_cons (ps_set (i := 5) scLanew.nd rfl (Or.inr rfl) (pe_call G_law_by_numbers (hr.mono (by omega)) rfl R_law_by_numbers.m R_law_by_numbers.k R_law_by_numbers.b .nil pass0 (pa_cons (pe_op op_cat (pe_callTy call_list_of (by rfl) T.m_list (by decide +kernel) (pa_cons (pv 3) pa_nil)) (pe_call G_law_twords (hr.mono (by omega)) rfl R_law_twords.m R_law_twords.k R_law_twords.b .nil pass0 (pa_cons (pv 4) pa_nil))) pa_nil)))
    (pss_cons (ps_set (i := 6) scLanew.nd rfl (Or.inl rfl) (pe_call G_law_by_numbers (hr.mono (by omega)) rfl R_law_by_numbers.m R_law_by_numbers.k R_law_by_numbers.b .nil pass0 (pa_cons (pe_call G_law_tposts (hr.mono (by omega)) rfl R_law_tposts.m R_law_tposts.k R_law_tposts.b .nil pass0 (pa_cons (pv 4) pa_nil)) pa_nil)))
    (pss_cons (ps_dput (hu_of hr) (pv 6) pe_str pe_str rfl)
    (pss_cons (ps_set (i := 3) scLanew.nd rfl (Or.inl rfl) (pe_callTy call_tuple_of (by rfl) T.m_tuple (by decide +kernel) (pa_cons (pe_lc (own := [("one", 7)]) (g := gName 7) (tt := tYes) (te := tDGet (tVar 5) (tVar 7)) (by rfl) scLanew.nd (pi_tup (pv 3)) (blkOk_by (own := [("one", 7)]) (N := ["turned", "found", "name", "names", "part", "words", "posts", "one"]) (sc := defScope s_law_anew) (by decide +kernel)) (fun _ _ _ _ _ => (pg_name (i := 7) scLanew.nd rfl (Or.inl rfl))) (fun _ _ _ _ _ => pts_nil) (fun _ _ _ _ _ => (pe_dget (hu_of hr) (pv 5) (pv 7) (fun _ _ => rfl)))) pa_nil)))
    (pss_one (ps_expr (pe_bm PySem.F.plainAttrs_list PySem.F.slot_list_append PySem.F.type_list_append mt_append (pv 1) (pa_cons (pe_tup (pa_cons (pv 2) (pa_cons (pv 3) (pa_cons (pe_call G_law_tcalled (hr.mono (by omega)) rfl R_law_tcalled.m R_law_tcalled.k R_law_tcalled.b .nil pass0 (pa_cons (pv 4) (pa_cons (pv 5) (pa_cons (pv 6) pa_nil)))) pa_nil)))) pa_nil)))))))))
    (pss_one (ps_ret (pe_callTy call_tuple_of (by rfl) T.m_tuple (by decide +kernel) (pa_cons (pv 1) pa_nil)))))), ?_⟩
  refine ⟨sz (by show 0 ≤ 100000; decide), fun fl hfl => ?_⟩
  have s0 := same_new hfl (.lst [])
  have f0 : upd H fl (.lst []) fl = some (.lst []) := upd_same
  generalize upd H fl (.lst []) = H0 at s0 f0
  refine ⟨_, rfl, p, rfl, ⟨_, SqT.of (s0 _ _ hB.1)⟩, for_tup (xs := us) (fun i σ H' => ∃ o2 o3 o4 o5 o6 acc, σ = [some (.ref p), some (.ref fl), o2, o3, o4, o5, o6, none] ∧ Same H H' ∧ H' fl = some (.lst acc) ∧ All2 (TErV H') ((es.take i).map anewE) acc) ?_ ?_ ?_ ?_⟩
  · exact ⟨_, _, _, _, _, [], rfl, s0, f0, by rw [List.take_zero]; trivial⟩
  · rintro i σ H' _ ⟨o2, o3, o4, o5, o6, acc, rfl, s1, _⟩
    exact SqT.of (s1 _ _ hB.1)
  · rintro i x σ H1 hx ⟨o2, o3, o4, o5, o6, acc, rfl, s1, h1, k1⟩
    obtain ⟨e, he, qa, r, b, rfl, g1, g2, g3⟩ := hB.2.get hx
    obtain ⟨hj, hj2⟩ := List.getElem?_eq_some_iff.mp he
    have hee := mem_of_get he
    have aE := hE e hee
    have hl := k1.len
    rw [List.length_map, List.length_take] at hl
    have r1 := s1 _ _ g2
    have p1 := PAt.tk (tk_same s1) g3
    refine ⟨qa, _, rfl, SqT.of (s1 _ _ g1), rfl, _, _, rfl, _, _, rfl, _, _, rfl, rfl, ?_⟩
    -- words
    refine ⟨_, rfl, r, _, rfl, .inr (SqT.of r1), fun l2 hl2 => ?_⟩
    have s2 := same_new hl2 (.lst (e.2.1.map V.str))
    have g5 : upd H1 l2 (.lst (e.2.1.map V.str)) l2 = some (.lst (e.2.1.map V.str)) := upd_same
    generalize upd H1 l2 (.lst (e.2.1.map V.str)) = H2 at s2 g5
    refine ⟨_, rfl, b, e.2.2, rfl, PAt.tk (tk_same s2) p1, aE.cn, Nat.le_trans aE.cn (by decide), fun l3 H3 hl3 s3 h3 => ?_⟩
    refine ⟨l2, l3, _, _, rfl, rfl, s3 _ _ g5, h3, sz ?_, fun l4 hl4 => ?_⟩
    · have := aE.wl
      have e1 : (wsE e).length = e.2.1.length + (wP e.2.2).length := List.length_append
      rw [List.length_map, List.length_map]
      omega
    have s4 := same_new hl4 (.lst (e.2.1.map V.str ++ (wP e.2.2).map V.str))
    have h4 : upd H3 l4 (.lst (e.2.1.map V.str ++ (wP e.2.2).map V.str)) l4 = some (.lst ((wsE e).map V.str)) := by
      rw [upd_same]
      show _ = some (HO.lst ((e.2.1 ++ wP e.2.2).map V.str))
      rw [List.map_append]
    generalize upd H3 l4 (.lst (e.2.1.map V.str ++ (wP e.2.2).map V.str)) = H4 at s4 h4
    have s24 := s2.trans (s3.trans s4)
    refine ⟨l4, wsE e, rfl, h4, Nat.le_trans aE.wl (by decide), fun d H5 kvs hd s5 h5 hkl hk => ?_⟩
    have s25 := s24.trans s5
    have s15 := s1.trans s25
    -- posts
    refine ⟨_, rfl, b, e.2.2, rfl, PAt.tk (tk_same s25) p1, aE.cn, Nat.le_trans aE.cn (by decide), fun l6 H6 hl6' s6 h6 => ?_⟩
    refine ⟨l6, jsE e, rfl, h6, Nat.le_trans aE.jl (by decide), fun d2 H7 kvs2 hd2 s7 h7 hkl2 hk2 => ?_⟩
    have s57 := s6.trans s7
    have hd25 : H5 d2 = none := s6.free hd2
    have n12 : d ≠ d2 := ne_of_none h5 hd25
    refine ⟨_, rfl, d2, _, rfl, DPut.k (k := Sum.inr ("home" : Str)) h7 (Nat.lt_of_le_of_lt (m := 4000) (by have := aE.jl; omega) (by decide)), ?_⟩
    have s58 : Same H5 (upd H7 d2 (.dK (putK kvs2 (Sum.inr ("home" : Str)) (.str "home")))) := same_mut s57 hd25
    have h8 : upd H7 d2 (.dK (putK kvs2 (Sum.inr ("home" : Str)) (.str "home"))) d2 = some (.dK (putK kvs2 (Sum.inr ("home" : Str)) (.str "home"))) := upd_same
    have t78 : TK H7 (upd H7 d2 (.dK (putK kvs2 (Sum.inr ("home" : Str)) (.str "home")))) := fun a xs z => by
      by_cases c : a = d2
      · rw [c, h7] at z; cases z
      · rw [upd_ne c]; exact z
    generalize upd H7 d2 (.dK (putK kvs2 (Sum.inr ("home" : Str)) (.str "home"))) = H8 at s58 h8 t78
    have hJ : Tells (putK kvs2 (Sum.inr ("home" : Str)) (.str "home")) (gJ e) ("home" :: jsE e) := fun j hj => by
      rw [valV_put]
      rcases List.mem_cons.mp hj with z | z
      · rw [z, if_pos rfl, gJ_home]
      · rw [if_neg (fun y => not_home (aP_jw aE.a j z).1 (Sum.inr.inj y)), (aE.gj z).2]
        exact hk2 j z
    have s18 : Same H1 H8 := s25.trans s58
    have s08 := s1.trans s18
    have d8 := s58 _ _ h5
    -- names
    refine ⟨_, rfl, r, rfl, ⟨_, SqT.of (s18 _ _ r1)⟩, fun D hD => lc_tup (K := K) (a := r) (xs := e.2.1.map V.str) (fun i H' => Same H8 H' ∧ H' D = some (.lst ((e.2.1.take i).map fun x => V.str (gW e x)))) ⟨same_new hD _, by rw [List.take_zero]; exact upd_same⟩ ?_ ?_ ?_⟩
    · rintro i H' _ ⟨s9, _⟩
      exact SqT.of ((s18.trans s9) _ _ r1)
    · rintro i x H9 hx ⟨s9, h9⟩
      rw [List.getElem?_map] at hx
      obtain ⟨y, hy, rfl⟩ : ∃ y, e.2.1[i]? = some y ∧ V.str y = x := by
        cases e0 : e.2.1[i]? with
        | none => rw [e0] at hx; cases hx
        | some y => rw [e0] at hx; exact ⟨y, rfl, Option.some.inj hx⟩
      obtain ⟨hj, hj2⟩ := List.getElem?_eq_some_iff.mp hy
      refine ⟨rfl, ?_⟩
      dsimp only [tYes]
      refine iteT ⟨_, rfl, _, rfl, d, _, rfl, Tells.get (s9 _ _ d8) hk (List.mem_append_left _ (mem_of_get hy)), _, h9, ?_, same_mut s9 hD, ?_⟩
      · rw [List.length_map, List.length_take]
        have := aE.nl
        exact Nat.lt_of_le_of_lt (m := 4) (by omega) (by decide)
      · rw [upd_same, List.take_succ_eq_append_getElem hj, hj2, List.map_append]
        rfl
    rintro H9 ⟨s9, h9⟩
    rw [List.length_map, List.take_length] at h9
    refine ⟨D, _, rfl, .inl ⟨SqL.of h9, fun t0 ht0 => ?_⟩⟩
    have s10 := same_new ht0 (.tup (e.2.1.map fun x => V.str (gW e x)))
    have h10 : upd H9 t0 (.tup (e.2.1.map fun x => V.str (gW e x))) t0 = some (.tup ((e.2.1.map (gW e)).map V.str)) := by
      rw [upd_same, List.map_map]
      rfl
    generalize upd H9 t0 (.tup (e.2.1.map fun x => V.str (gW e x))) = H10 at s10 h10
    have s8a := s9.trans s10
    have s1a := s18.trans s8a
    -- the part
    refine ⟨_, rfl, .inl ⟨rfl, _, SqL.of (s1a _ _ h1)⟩, _, rfl, _, rfl, _, rfl, _, rfl, _, rfl, b, d, d2, e.2.2, kvs, _, wsE e, _, gW e, gJ e, rfl, PAt.tk (tk_same s1a) p1, aE.a, aE.cn, s8a _ _ d8, hk, s8a _ _ h8, hJ, fun b2 H11 s11 hb2 => ?_⟩
    refine ⟨sz (by show 3 ≤ 100000; decide), fun t1 ht1 => ?_⟩
    have s12 := same_new ht1 (.tup [.str e.1, .ref t0, .ref b2])
    have h12 : upd H11 t1 (.tup [.str e.1, .ref t0, .ref b2]) t1 = some (.tup [.str e.1, .ref t0, .ref b2]) := upd_same
    generalize upd H11 t1 (.tup [.str e.1, .ref t0, .ref b2]) = H12 at s12 h12
    have s1c := s1a.trans (s11.trans s12)
    have f12 := s1c _ _ h1
    refine ⟨fl, _, _, rfl, rfl, f12, Nat.lt_of_le_of_lt (m := 6) (by omega) (by decide), ?_⟩
    have tk := tk_put (o := .lst (acc ++ [V.ref t1])) f12
    refine ⟨_, _, _, _, _, _, rfl, same_mut (s1.trans s1c) hfl, upd_same, ?_⟩
    rw [List.take_succ_eq_append_getElem hj, hj2, List.map_append]
    have all := k1.imp fun _ _ z => (TErV.tk (tk_same s1c) z).tk tk
    exact all.app ⟨⟨t1, t0, b2, rfl, tk _ _ h12, tk _ _ (s12 _ _ (s11 _ _ h10)), PAt.tk ((tk_same s12).trans tk) hb2⟩, trivial⟩
  · rintro σ H1 ⟨o2, o3, o4, o5, o6, acc, rfl, s1, h1, k1⟩
    rw [hB.2.len, List.take_length] at k1
    refine ⟨_, rfl, fl, acc, rfl, .inl ⟨SqL.of h1, fun t0 ht0 => ?_⟩⟩
    have s2 := same_new ht0 (.tup acc)
    exact q t0 _ acc (s1.trans s2) ⟨upd_same, k1.imp fun _ _ z => TErV.tk (tk_same s2) z⟩
end
end KB

namespace KB
open PySem L2 HT LamX NdefX

theorem pl_short : ∀ (ks : List Int) {p one : Pt}, (ks, one) ∈ prL p → ks.length < pcnt p
  | [], p, one, h => by
    have := pcnt_inn p
    show 0 < pcnt p
    omega
  | k :: ks, p, one, h => by
    obtain ⟨j, q, h1, _, h3⟩ := prL_cons h
    have := pl_short ks h3
    have := mem_sum (List.mem_of_getElem? h1)
    have := pcnt_inn p
    show ks.length + 1 < pcnt p
    omega
theorem TmW.mk2 {ws : List Str} {h : Hd} (hh : h = .plus ∨ h = .less) {ts : List Tm} (h1 : ∀ t ∈ ts, okT t ∧ simple t = true ∧ HtLe 1 t ∧ ∀ y ∈ nmsT t, y ∈ ws) (h2 : 1 + cnts ts ≤ 3) : TmW ws (mkL h ts) where
  s := ⟨ok_mkL (by rcases hh with z | z <;> rw [z] <;> trivial) fun t ht => (h1 t ht).1, simple_mkL (by rcases hh with z | z <;> rw [z] <;> rfl) fun t ht => (h1 t ht).2.1, by rw [cnt_mkL]; exact h2, ht_mkL fun t ht => (h1 t ht).2.2.1⟩
  c y hy := by
    rw [nms_mk, kids_mkL] at hy
    have e : hdN (hdT (mkL h ts)) = [] := by rcases hh with z | z <;> rw [z] <;> rfl
    rw [e, List.nil_append] at hy
    obtain ⟨l, hl, hy2⟩ := List.mem_flatten.mp hy
    obtain ⟨t, ht, rfl⟩ := List.mem_map.mp hl
    exact (h1 t ht).2.2.2 y hy2
section
variable {P : Program} {w : World} {K : PySem.W.Frag} {mg : Str → Option Value} {base : Heap}
/-! ### _law_other_simple -/
def spOs : Sp := fun vs H Q _ => ∃ (a : Addr) (t : Tm) (ws : List Str), vs = [.ref a] ∧ At H t a ∧ TmW ws t ∧ ∀ b t' H', Same H H' → At H' t' b → TmW ws t' → Q (.ref b) H'
abbrev s_law_other_simple : Stmt := top 50
theorem scLother_simple : FnScope ["term"] ["term"] (defScope s_law_other_simple) := ⟨rfl, rfl, rfl, by decide +kernel, rfl, by decide +kernel, by decide +kernel⟩
theorem ok_os (T : Txt K mg) {f : Addr} {fd : FuncData} (F : Fun K "_law_other_simple" "_law_other_simple" s_law_other_simple f fd) : FnOk P w K mg base CX0 1 f fd ["term"] spOs := by
  refine F.ok scLother_simple (fun vs H Q E h => ?_) (fun cdv A outer s H vs Q E hr h => ?_)
  · obtain ⟨a, t, ws, rfl, _⟩ := h
    rfl
  obtain ⟨a, t, ws, rfl, hA, hw, q⟩ := h
  refine ⟨_, (pss_cons (ps_if (pt_cmpR op_eq (pe_ix ix_tup (pv 0) pe_int (fun _ _ => rfl)) pe_str (nomark _)) (pss_one (ps_ret (pe_tup (pa_cons pe_str (pa_cons (pe_op op_modN (pe_op op_add (pe_ix ix_tup (pv 0) pe_int (fun _ _ => rfl)) pe_int) pe_int) pa_nil))))) pss_nil)
    (pss_cons (ps_if (pt_cmpR op_eq (pe_ix ix_tup (pv 0) pe_int (fun _ _ => rfl)) pe_str (nomark _)) (pss_one (ps_ret (pe_tup (pa_cons pe_str (pa_cons (pv 0) (pa_cons (pe_tup (pa_cons pe_str (pa_cons pe_int pa_nil))) pa_nil)))))) pss_nil)
    (pss_one (ps_ret (pe_op op_catA (pe_tup (pa_cons (pe_ix ix_list (pe_lst (pa_cons pe_str (pa_cons pe_str pa_nil))) (pe_callTy call_int1 (by rfl) T.m_int (by decide +kernel) (pa_cons (pe_cmpR op_eq (pe_ix ix_tup (pv 0) pe_int (fun _ _ => rfl)) pe_str (nomark _)) pa_nil)) (fun _ _ => rfl)) pa_nil)) (pe_slice sl_tupA (pv 0) (po_some pe_int) po_none)))))), ?_⟩
  obtain ⟨h, n, k⟩ := t
  obtain ⟨ys, l, hk⟩ := id hA
  obtain ⟨e1, e2⟩ := simple_mk hw.s.si
  have kid : ∀ t ∈ List.ofFn k, okT t ∧ simple t = true ∧ HtLe 1 t ∧ ∀ y ∈ nmsT t, y ∈ ws := fun t ht => by
    obtain ⟨i, rfl⟩ := List.mem_ofFn.mp ht
    exact ⟨hw.s.ok.2 i, e2 i, hw.s.ht i, fun y hy => hw.c y (nms_kid (List.mem_ofFn.mpr ⟨i, rfl⟩) y hy)⟩
  have cn : 1 + cnts (List.ofFn k) ≤ 3 := by
    have := hw.s.cn
    rw [cnt_mk] at this
    exact this
  cases h with
  | num z =>
    obtain ⟨l1, l2⟩ := l
    refine ⟨_, rfl, a, _, _, _, rfl, rfl, SqT.of l2, at0, rfl, _, rfl, itT rfl ?_⟩
    refine ⟨_, rfl, a, _, _, _, rfl, rfl, SqT.of l2, at1, _, _, rfl, rfl, _, _, rfl, rfl, by show (1000 : Int) ≠ 0; decide, sz (by show 2 ≤ 100000; decide), fun p hp => ?_⟩
    have hz : 0 ≤ Int.fmod (z + 1) 1000 ∧ Int.fmod (z + 1) 1000 < 1000 := ⟨Int.fmod_nonneg_of_pos _ (by decide), Int.fmod_lt_of_pos _ (by decide)⟩
    refine q p (mkL (.num (Int.fmod (z + 1) 1000)) []) _ (same_new hp _) (at_mkL (h := .num (Int.fmod (z + 1) 1000)) (vs := []) ⟨rfl, upd_same⟩ trivial) ⟨⟨ok_mkL hz (fun t ht => nomatch ht), rfl, by show 1 + 0 ≤ 3; decide, ht_mkL (fun t ht => nomatch ht)⟩, fun y hy => by cases hy⟩
  | nam x =>
    obtain ⟨l1, l2⟩ := l
    have hn : n = 0 := by
      have := congrArg List.length l1
      unfold Rfs at this
      rw [List.length_ofFn] at this
      exact this
    subst hn
    refine ⟨_, rfl, a, _, _, _, rfl, rfl, SqT.of l2, at0, rfl, _, rfl, itF rfl ⟨_, rfl, a, _, _, _, rfl, rfl, SqT.of l2, at0, rfl, _, rfl, itT rfl ?_⟩⟩
    refine ⟨_, rfl, sz (by show 2 ≤ 100000; decide), fun p1 hp1 => ?_⟩
    have s1 := same_new hp1 (.tup [V.str "number", .int 0])
    have h1 : upd H p1 (.tup [V.str "number", .int 0]) p1 = some (.tup [V.str "number", .int 0]) := upd_same
    generalize upd H p1 (.tup [V.str "number", .int 0]) = H1 at s1 h1
    refine ⟨sz (by show 3 ≤ 100000; decide), fun p2 hp2 => ?_⟩
    have s2 := same_new hp2 (.tup [V.str "plus", .ref a, .ref p1])
    have s12 := s1.trans s2
    refine q p2 (mkL .plus [.mk (.nam x) 0 k, mkL (.num 0) []]) _ s12 (at_mkL (h := .plus) (vs := [.ref a, .ref p1]) ⟨rfl, upd_same⟩ ⟨⟨a, rfl, hA.tk (tk_same s12)⟩, ⟨p1, rfl, at_mkL (h := .num 0) (vs := []) ⟨rfl, s2 _ _ h1⟩ trivial⟩, trivial⟩) (TmW.mk2 (.inl rfl) (fun t ht => ?_) ?_)
    · rcases List.mem_cons.mp ht with z | z
      · rw [z]
        exact ⟨hw.s.ok, hw.s.si, fun i => i.elim0, hw.c⟩
      · rw [List.mem_singleton.mp z]
        exact ⟨ok_mkL ⟨by decide, by decide⟩ (fun t ht => nomatch ht), rfl, ht_mkL (fun t ht => nomatch ht), fun y hy => by cases hy⟩
    · have e3 : cnt (.mk (.nam x) 0 k) = 1 := by rw [cnt_mk]; rfl
      show 1 + (cnt (.mk (.nam x) 0 k) + (cnt (mkL (.num 0) []) + 0)) ≤ 3
      rw [e3]
      decide
  | plus =>
    obtain ⟨l1, l2⟩ := l
    refine ⟨_, rfl, a, _, _, _, rfl, rfl, SqT.of l2, at0, rfl, _, rfl, itF rfl ⟨_, rfl, a, _, _, _, rfl, rfl, SqT.of l2, at0, rfl, _, rfl, itF rfl ?_⟩⟩
    refine ⟨sz (by show 2 ≤ 100000; decide), fun ll hll => ?_⟩
    have s1 := same_new hll (.lst [V.str "plus", .str "less"])
    refine ⟨_, rfl, a, _, _, _, rfl, rfl, SqT.of (s1 _ _ l2), at0, rfl, .inr ⟨_, rfl, ll, _, _, _, rfl, rfl, SqL.of upd_same, at1, sz (by show 1 ≤ 100000; decide), fun p1 hp1 => ?_⟩⟩
    have s2 := same_new hp1 (.tup [V.str "less"])
    have h1 : upd (upd H ll (.lst [V.str "plus", .str "less"])) p1 (.tup [V.str "less"]) p1 = some (.tup [V.str "less"]) := upd_same
    have s12 := s1.trans s2
    generalize upd (upd H ll (.lst [V.str "plus", .str "less"])) p1 (.tup [V.str "less"]) = H2 at s2 h1 s12
    refine ⟨_, rfl, _, rfl, ?_⟩
    dsimp only [tNoPart]
    refine slA_of (K := K) (lo := some 1) (hi := none) (s12 _ _ l2) fun p3 H3 s3 h3 => ?_
    have e3 : cutV (V.str "plus" :: Rfs ys) (some 1) none = Rfs ys := cut1
    rw [e3] at h3
    refine catA_of (s3 _ _ h1) h3 (by show 1 + (Rfs ys).length ≤ 100000; rw [l1]; decide) fun p4 H4 s4 h4 => ?_
    have s14 := s12.trans (s3.trans s4)
    exact q p4 (mkL .less (List.ofFn k)) H4 s14 (at_mkL (h := .less) (vs := Rfs ys) ⟨l1, h4⟩ (Stk.fn fun i => (hk i).mono s14)) (TmW.mk2 (.inr rfl) kid cn)
  | less =>
    obtain ⟨l1, l2⟩ := l
    refine ⟨_, rfl, a, _, _, _, rfl, rfl, SqT.of l2, at0, rfl, _, rfl, itF rfl ⟨_, rfl, a, _, _, _, rfl, rfl, SqT.of l2, at0, rfl, _, rfl, itF rfl ?_⟩⟩
    refine ⟨sz (by show 2 ≤ 100000; decide), fun ll hll => ?_⟩
    have s1 := same_new hll (.lst [V.str "plus", .str "less"])
    refine ⟨_, rfl, a, _, _, _, rfl, rfl, SqT.of (s1 _ _ l2), at0, rfl, .inr ⟨_, rfl, ll, _, _, _, rfl, rfl, SqL.of upd_same, at0, sz (by show 1 ≤ 100000; decide), fun p1 hp1 => ?_⟩⟩
    have s2 := same_new hp1 (.tup [V.str "plus"])
    have h1 : upd (upd H ll (.lst [V.str "plus", .str "less"])) p1 (.tup [V.str "plus"]) p1 = some (.tup [V.str "plus"]) := upd_same
    have s12 := s1.trans s2
    generalize upd (upd H ll (.lst [V.str "plus", .str "less"])) p1 (.tup [V.str "plus"]) = H2 at s2 h1 s12
    refine ⟨_, rfl, _, rfl, ?_⟩
    dsimp only [tNoPart]
    refine slA_of (K := K) (lo := some 1) (hi := none) (s12 _ _ l2) fun p3 H3 s3 h3 => ?_
    have e3 : cutV (V.str "less" :: Rfs ys) (some 1) none = Rfs ys := cut1
    rw [e3] at h3
    refine catA_of (s3 _ _ h1) h3 (by show 1 + (Rfs ys).length ≤ 100000; rw [l1]; decide) fun p4 H4 s4 h4 => ?_
    have s14 := s12.trans (s3.trans s4)
    exact q p4 (mkL .plus (List.ofFn k)) H4 s14 (at_mkL (h := .plus) (vs := Rfs ys) ⟨l1, h4⟩ (Stk.fn fun i => (hk i).mono s14)) (TmW.mk2 (.inl rfl) kid cn)
  | _ => cases e1
end
end KB

namespace KB
open PySem L2 HT LamX NdefX

/-- a part with other terms -/
def withT : Pt → List Tm → Pt
  | .give j _, [t] => .give j t
  | .ask f _ j, ts => .ask f ts j
  | .tell x _ p, [t] => .tell x t p
  | .lett x _ p, [t] => .lett x t p
  | .iff _ p q, [t] => .iff t p q
  | p, _ => p
def swapT : Pt → Pt
  | .tell x t p => .lett x t p
  | .lett x t p => .tell x t p
  | p => p
theorem withT_alk {ws js : List Str} {p : Pt} {ts : List Tm} (h : aP ws js p) (hl : ts.length = (termsP p).length) (ht : ∀ t ∈ ts, TmW ws t) : Alk ws js (withT p ts) p := by
  cases p with
  | give j t =>
    match ts, hl with
    | [u], _ => exact ⟨rfl, rfl, rfl, h.1, ht u List.mem_cons_self⟩
  | ask f us j => exact ⟨rfl, rfl, rfl, h.1, h.2.1, by rw [hl]; exact h.2.2.1, ht⟩
  | tell x t p =>
    match ts, hl with
    | [u], _ => exact ⟨rfl, rfl, rfl, h.1, ht u List.mem_cons_self, h.2.2⟩
  | lett x t p =>
    match ts, hl with
    | [u], _ => exact ⟨rfl, rfl, rfl, h.1, ht u List.mem_cons_self, h.2.2⟩
  | iff t p q =>
    match ts, hl with
    | [u], _ => exact ⟨rfl, rfl, rfl, ht u List.mem_cons_self, h.2.1, h.2.2⟩
  | post j x p q => exact ⟨rfl, rfl, rfl, h⟩
theorem swapT_alk {ws js : List Str} {p : Pt} (h : aP ws js p) : Alk ws js (swapT p) p := by
  cases p with
  | _ => exact ⟨rfl, rfl, rfl, h⟩
/-- a tuple of m terms -/
def TsV (ws : List Str) (m : Nat) (H : Hp) (v : V) : Prop := ∃ b vs ts, v = .ref b ∧ H b = some (.tup vs) ∧ All2 (RefV H) ts vs ∧ ts.length = m ∧ ∀ t ∈ ts, TmW ws t
theorem TsV.tk {ws : List Str} {m : Nat} {H H' : Hp} (k : TK H H') {v : V} (h : TsV ws m H v) : TsV ws m H' v := let ⟨b, vs, ts, e, h1, h2, h3, h4⟩ := h; ⟨b, vs, ts, e, k _ _ h1, h2.imp fun _ _ z => z.tk k, h3, h4⟩
section
variable {P : Program} {w : World} {K : PySem.W.Frag} {mg : Str → Option Value} {base : Heap}
/-! ### _law_one_sign -/
def spSg : Sp := fun vs H Q _ => ∃ (tp p : Addr) (es : List TEr) (us : List V), vs = [.ref tp, .ref p] ∧ Tp H tp ∧ TBkAt H es us p ∧ 1 ≤ es.length ∧ es.length ≤ 6 ∧ (∀ e ∈ es, AnE e) ∧ ∀ r H' fs us', But1 tp H H' → Tp H' tp → TBkAt H' fs us' r → fs.length = es.length → (∀ e ∈ fs, AnE e) → Q (.ref r) H'
abbrev s_law_one_sign : Stmt := top 51
theorem scLone_sign : FnScope ["tape", "turned", "at", "name", "names", "part", "places", "place", "one", "some", "k", "here", "terms", "other", "errand"] ["tape", "turned"] (defScope s_law_one_sign) := ⟨rfl, rfl, rfl, by decide +kernel, rfl, by decide +kernel, by decide +kernel⟩
theorem ok_sg (T : Txt K mg) {f f1 f2 f3 f4 f5 : Addr} {fd d1 d2 d3 d4 d5 : FuncData} (F : Fun K "_law_one_sign" "_law_one_sign" s_law_one_sign f fd) (G_law_digit : FnOk P w K mg base CX0 1 f1 d1 ["tape", "many"] spDig) (R_law_digit : Ref K mg "_law_digit" f1 d1 ["tape", "many"])
    (G_law_tplaces : FnOk P w K mg base CX0 51 f2 d2 ["part", "place"] (spTPl 50)) (R_law_tplaces : Ref K mg "_law_tplaces" f2 d2 ["part", "place"]) (G_law_simples : FnOk P w K mg base CX0 1 f3 d3 ["part"] spSmp) (R_law_simples : Ref K mg "_law_simples" f3 d3 ["part"])
    (G_law_other_simple : FnOk P w K mg base CX0 1 f4 d4 ["term"] spOs) (R_law_other_simple : Ref K mg "_law_other_simple" f4 d4 ["term"]) (G_law_tput : FnOk P w K mg base CX0 52 f5 d5 ["part", "place", "other"] (spTput 51)) (R_law_tput : Ref K mg "_law_tput" f5 d5 ["part", "place", "other"]) : FnOk P w K mg base CX0 53 f fd ["tape", "turned"] spSg := by
  refine F.ok scLone_sign (fun vs H Q E h => ?_) (fun cdv A outer s H vs Q E hr h => ?_)
  · obtain ⟨tp, p, es, us, rfl, _⟩ := h
    rfl
  obtain ⟨tp, p, es, us, rfl, ht, hB, hl1, hl6, hc, q⟩ := h
  refine ⟨_, (pss_cons (ps_set (i := 2) scLone_sign.nd rfl (Or.inl rfl) (pe_call G_law_digit (hr.mono (by omega)) rfl R_law_digit.m R_law_digit.k R_law_digit.b .nil pass0 (pa_cons (pv 0) (pa_cons (pe_callB call_len_seq (by rfl) T.m_len PySem.boot_len (pa_cons (pv 1) pa_nil)) pa_nil))))
    (pss_cons (ps_asg (pe_ix ix_tup (pv 1) (pv 2) (fun _ _ => rfl)) (pg_tup rfl (pgs_cons (pg_name (i := 3) scLone_sign.nd rfl (Or.inl rfl)) (pgs_cons (pg_name (i := 4) scLone_sign.nd rfl (Or.inl rfl)) (pgs_cons (pg_name (i := 5) scLone_sign.nd rfl (Or.inl rfl)) pgs_nil)))))
    (pss_cons (ps_set (i := 6) scLone_sign.nd rfl (Or.inl rfl) (pe_call G_law_tplaces (hr.mono (by omega)) rfl R_law_tplaces.m R_law_tplaces.k R_law_tplaces.b .nil pass0 (pa_cons (pv 5) (pa_cons (pe_tup pa_nil) pa_nil))))
    (pss_cons (ps_asg (pe_ix ix_list (pv 6) (pe_call G_law_digit (hr.mono (by omega)) rfl R_law_digit.m R_law_digit.k R_law_digit.b .nil pass0 (pa_cons (pv 0) (pa_cons (pe_callB call_len_seq (by rfl) T.m_len PySem.boot_len (pa_cons (pv 6) pa_nil)) pa_nil))) (fun _ _ => rfl)) (pg_tup rfl (pgs_cons (pg_name (i := 7) scLone_sign.nd rfl (Or.inl rfl)) (pgs_cons (pg_name (i := 8) scLone_sign.nd rfl (Or.inl rfl)) pgs_nil))))
    (pss_cons (ps_set (i := 9) scLone_sign.nd rfl (Or.inl rfl) (pe_lst (pa_cons (pe_call G_law_simples (hr.mono (by omega)) rfl R_law_simples.m R_law_simples.k R_law_simples.b .nil pass0 (pa_cons (pv 8) pa_nil)) pa_nil)))
    (pss_cons (ps_for PassesOwn.never rfl (pi_range1 rfl T.m_range (pa_cons (pe_callB call_len_seq (by rfl) T.m_len PySem.boot_len (pa_cons (pe_ix ix_list (pv 9) pe_int (fun _ _ => rfl)) pa_nil)) pa_nil)) (pg_name (i := 10) scLone_sign.nd rfl (Or.inl rfl)) (pss_cons (ps_set (i := 11) scLone_sign.nd rfl (Or.inl rfl) (pe_tup (pa_cons (pe_call G_law_other_simple (hr.mono (by omega)) rfl R_law_other_simple.m R_law_other_simple.k R_law_other_simple.b .nil pass0 (pa_cons (pe_ix ix_tup (pe_ix ix_list (pv 9) pe_int (fun _ _ => rfl)) (pv 10) (fun _ _ => rfl)) pa_nil)) pa_nil)))
    (pss_one (ps_expr (pe_bm PySem.F.plainAttrs_list PySem.F.slot_list_append PySem.F.type_list_append mt_append (pv 9) (pa_cons (pe_op op_catA (pe_op op_catA (pe_slice sl_tupA (pe_ix ix_list (pv 9) pe_int (fun _ _ => rfl)) po_none (po_some (pv 10))) (pv 11)) (pe_slice sl_tupA (pe_ix ix_list (pv 9) pe_int (fun _ _ => rfl)) (po_some (pe_op op_add (pv 10) pe_int)) po_none)) pa_nil))))))
    (pss_cons (ps_set (i := 12) scLone_sign.nd rfl (Or.inl rfl) (pe_ix ix_list (pe_op op_cat (pv 9) (pe_lst (pa_cons (pe_revT (pe_ix ix_list (pv 9) pe_int (fun _ _ => rfl)) (po_some (pe_un un_neg pe_int))) pa_nil))) (pe_call G_law_digit (hr.mono (by omega)) rfl R_law_digit.m R_law_digit.k R_law_digit.b .nil pass0 (pa_cons (pv 0) (pa_cons (pe_op op_add (pe_callB call_len_seq (by rfl) T.m_len PySem.boot_len (pa_cons (pv 9) pa_nil)) pe_int) pa_nil))) (fun _ _ => rfl)))
    (pss_cons (ps_set (i := 13) scLone_sign.nd rfl (Or.inl rfl) (pv 8))
    (Evl.pss_cut (ps_if (pt_cmpR op_eq (pe_ix ix_tup (pv 8) pe_int (fun _ _ => rfl)) pe_str (nomark _)) (pss_one (ps_set (i := 13) scLone_sign.nd rfl (Or.inl rfl) (pe_op op_catA (pe_slice sl_tupA (pv 8) po_none (po_some pe_int)) (pe_tup (pa_cons (pv 12) (pa_cons (pe_ix ix_tup (pv 8) pe_int (fun _ _ => rfl)) pa_nil)))))) (pss_one (ps_if (pt_cmpR op_eq (pe_ix ix_tup (pv 8) pe_int (fun _ _ => rfl)) pe_str (nomark _)) (pss_one (ps_set (i := 13) scLone_sign.nd rfl (Or.inl rfl) (pe_op op_catA (pe_op op_catA (pe_tup (pa_cons pe_str pa_nil)) (pv 12)) (pe_slice sl_tupA (pv 8) (po_some pe_int) po_none)))) (pss_one (ps_if (pt_cmpR op_ne (pe_ix ix_tup (pv 8) pe_int (fun _ _ => rfl)) pe_str (nomark _)) (pss_one (ps_set (i := 13) scLone_sign.nd rfl (Or.inl rfl) (pe_op op_catA (pe_op op_catA (pe_slice sl_tupA (pv 8) po_none (po_some pe_int)) (pv 12)) (pe_slice sl_tupA (pv 8) (po_some pe_int) po_none)))) pss_nil)))))
    (Evl.pss_cut (ps_if (PW.pt (pw_and (pt_cmpR op_in_seq (pe_ix ix_tup (pv 8) pe_int (fun _ _ => rfl)) (pe_tup (pa_cons pe_str (pa_cons pe_str pa_nil))) rfl) (pw_and1 (pt_cmpR op_eq (pe_call G_law_digit (hr.mono (by omega)) rfl R_law_digit.m R_law_digit.k R_law_digit.b .nil pass0 (pa_cons (pv 0) (pa_cons pe_int pa_nil))) pe_int (nomark _))))) (pss_one (ps_set (i := 13) scLone_sign.nd rfl (Or.inl rfl) (pe_op op_catA (pe_tup (pa_cons (pe_ix ix_list (pe_lst (pa_cons pe_str (pa_cons pe_str pa_nil))) (pe_callTy call_int1 (by rfl) T.m_int (by decide +kernel) (pa_cons (pe_cmpR op_eq (pe_ix ix_tup (pv 8) pe_int (fun _ _ => rfl)) pe_str (nomark _)) pa_nil)) (fun _ _ => rfl)) pa_nil)) (pe_slice sl_tupA (pv 8) (po_some pe_int) po_none)))) pss_nil)
    (pss_cons (ps_set (i := 14) scLone_sign.nd rfl (Or.inl rfl) (pe_tup (pa_cons (pv 3) (pa_cons (pv 4) (pa_cons (pe_call G_law_tput (hr.mono (by omega)) rfl R_law_tput.m R_law_tput.k R_law_tput.b .nil pass0 (pa_cons (pv 5) (pa_cons (pv 7) (pa_cons (pv 13) pa_nil)))) pa_nil)))))
    (pss_one (ps_ret (pe_op op_catA (pe_op op_catA (pe_slice sl_tupA (pv 1) po_none (po_some (pv 2))) (pe_tup (pa_cons (pv 14) pa_nil))) (pe_slice sl_tupA (pv 1) (po_some (pe_op op_add (pv 2) pe_int)) po_none))))))))))))))), ?_⟩
  have hus := hB.2.len
  -- at
  refine ⟨_, rfl, _, rfl, p, _, rfl, .inr (SqT.of hB.1), tp, _, rfl, ht, by omega, by omega, fun at0_ H1 r0 r1 b1 t1 => ?_⟩
  obtain ⟨an, rfl⟩ : ∃ an : Nat, at0_ = (an : Int) := ⟨at0_.toNat, by omega⟩
  have han : an < es.length := by omega
  have tk1 := tp_tk ht b1
  have hB1 : TBkAt H1 es us p := ⟨tk1 _ _ hB.1, hB.2.imp fun _ _ z => TErV.tk tk1 z⟩
  obtain ⟨v0, hv0⟩ : ∃ v, us[an]? = some v := ⟨_, List.getElem?_eq_getElem (by omega)⟩
  obtain ⟨e, he, qa, nr, b, rfl, g1, g2, g3⟩ := hB1.2.get hv0
  have hee := mem_of_get he
  have aE := hc e hee
  refine ⟨_, rfl, _, rfl, p, _, _, _, rfl, rfl, SqT.of hB1.1, atI_nat hv0, qa, _, rfl, SqT.of g1, rfl, _, _, rfl, _, _, rfl, _, _, rfl, rfl, ?_⟩
  -- places
  refine ⟨_, rfl, sz (by show 0 ≤ 100000; decide), fun e0 he0 => ?_⟩
  have s3 := same_new he0 (.tup [])
  refine ⟨b, e0, e.2.2, [], rfl, g3.tk (tk_same s3), upd_same, aE.cn, by show 0 + _ ≤ 2000; have := aE.cn; omega, fun tl H4 its htl s4 h4 k4 => ?_⟩
  have s24 := s3.trans s4
  have hits := k4.len
  rw [prL_len] at hits
  have hpos : 1 ≤ pcnt e.2.2 := by rw [pcnt_inn]; omega
  have t4 : Tp H4 tp := t1.same s24
  have ntl : tl ≠ tp := by
    obtain ⟨z, hz⟩ := t1
    exact (ne_of_none (s3 _ _ hz) htl).symm
  -- place, one
  refine ⟨_, rfl, _, rfl, _, rfl, tl, _, rfl, .inl (SqL.of h4), tp, _, rfl, t4, by omega, by have := aE.cn; omega, fun r5 H5 r50 r51 b5 t5 => ?_⟩
  have tk5 := tp_tk t4 b5
  obtain ⟨v5, hv5⟩ : ∃ v, its[r5.toNat]? = some v := ⟨_, List.getElem?_eq_getElem (by omega)⟩
  obtain ⟨⟨ks, one⟩, hz, qz, rz, bz, rfl, z1, z2, z3⟩ := k4.get hv5
  have hzm := mem_of_get hz
  refine ⟨tl, _, _, _, rfl, rfl, SqL.of (b5 _ _ ntl h4), at_of (j := r5.toNat) (by omega) hv5, qz, _, rfl, SqT.of (tk5 _ _ z1), rfl, _, _, rfl, _, _, rfl, rfl, ?_⟩
  have z2' : H5 rz = some (.tup (ks.map V.int)) := tk5 _ _ z2
  have z3' : PAt H5 one bz := PAt.tk tk5 z3
  have ao := aP_in ks hzm aE.a
  have lks := pl_short ks hzm
  -- some
  refine ⟨_, rfl, bz, one, rfl, z3', fun b0 H6 vs0 s6 h6 k6 => ?_⟩
  refine ⟨sz (by show 1 ≤ 100000; decide), fun sl hsl => ?_⟩
  have s7 := same_new hsl (.lst [.ref b0])
  have h7 : upd H6 sl (.lst [.ref b0]) sl = some (.lst [.ref b0]) := upd_same
  have h67 := s7 _ _ h6
  have k67 : All2 (RefV (upd H6 sl (.lst [.ref b0]))) (termsP one) vs0 := k6.imp fun _ _ z => z.tk (tk_same s7)
  have s57 := s6.trans s7
  have hsl5 : H5 sl = none := s6.free hsl
  generalize upd H6 sl (.lst [.ref b0]) = H7 at s7 h7 h67 k67 s57
  have hv0l := k67.len
  have htl4 := aP_tl ao
  have tw := aP_terms ao
  refine ⟨_, rfl, sl, _, _, _, rfl, rfl, SqL.of h7, at0, b0, vs0, rfl, .inr (SqT.of h67), _, rfl, by omega, by omega, ?_⟩
  have hnl : ((vs0.length : Nat) : Int).toNat = vs0.length := Int.toNat_natCast _
  refine for_range (lo := 0) (n := ((vs0.length : Nat) : Int).toNat) (fun i σ H' => ∃ o10 o11 acc, σ = [some (.ref tp), some (.ref p), some (.int (an : Int)), some (.str e.1), some (.ref nr), some (.ref b), some (.ref tl), some (.ref rz), some (.ref bz), some (.ref sl), o10, o11, none, none, none] ∧ Same H5 H' ∧ TK H7 H' ∧ H' sl = some (.lst (.ref b0 :: acc)) ∧ acc.length = i ∧ ∀ v ∈ acc, TsV (wsE e) (termsP one).length H' v) ⟨_, _, [], rfl, s57, fun _ _ z => z, h7, rfl, fun _ z => nomatch z⟩ ?_ ?_
  · rintro i σ H8 hi ⟨o10, o11, acc, rfl, s8, t8, h8, l8, a8⟩
    rw [hnl] at hi
    have g8 := t8 _ _ h67
    have k8 : All2 (RefV H8) (termsP one) vs0 := k67.imp fun _ _ z => z.tk t8
    obtain ⟨v, hv⟩ : ∃ v, vs0[i]? = some v := ⟨_, List.getElem?_eq_getElem hi⟩
    obtain ⟨t, ht0, c, rfl, hct⟩ := k8.get hv
    have htm := mem_of_get ht0
    refine ⟨_, rfl, sl, _, _, _, rfl, rfl, SqL.of h8, at0, _, rfl, b0, _, _, _, rfl, rfl, SqT.of g8, (by rw [Int.zero_add]; exact atI_nat hv), ?_⟩
    refine ⟨c, t, wsE e, rfl, hct, tw t htm, fun c9 t9 H9 s9 h9 w9 => ?_⟩
    refine ⟨sz (by show 1 ≤ 100000; decide), fun q1 hq1 => ?_⟩
    have s10 := same_new hq1 (.tup [.ref c9])
    have h10 : upd H9 q1 (.tup [.ref c9]) q1 = some (.tup [.ref c9]) := upd_same
    generalize upd H9 q1 (.tup [.ref c9]) = H10 at s10 h10
    have s810 := s9.trans s10
    refine ⟨_, rfl, .inl ⟨rfl, _, SqL.of (s810 _ _ h8)⟩, ?_⟩
    refine ⟨_, rfl, sl, _, _, _, rfl, rfl, SqL.of (s810 _ _ h8), at0, ?_⟩
    dsimp only [tNoPart]
    refine ⟨_, rfl, _, rfl, ?_⟩
    refine slA_of (K := K) (lo := none) (hi := some ((0 : Int) + (i : Nat))) (s810 _ _ g8) fun q2 H11 s11 h11 => ?_
    rw [cut_to (by omega) (by omega)] at h11
    have e1 : ((0 : Int) + (i : Nat)).toNat = i := by omega
    rw [e1] at h11
    refine ⟨_, rfl, catA_of h11 (s11 _ _ h10) (by rw [List.length_take]; show _ + 1 ≤ 100000; omega) fun q3 H12 s12 h12 => ?_⟩
    have s812 := s810.trans (s11.trans s12)
    refine ⟨_, rfl, sl, _, _, _, rfl, rfl, SqL.of (s812 _ _ h8), at0, ?_⟩
    dsimp only [tNoPart]
    refine ⟨_, rfl, _, _, rfl, rfl, _, rfl, ?_⟩
    refine slA_of (K := K) (lo := some ((0 : Int) + (i : Nat) + 1)) (hi := none) (s812 _ _ g8) fun q4 H13 s13 h13 => ?_
    rw [cut_from (by omega) (by omega)] at h13
    have e2 : ((0 : Int) + (i : Nat) + 1).toNat = i + 1 := by omega
    rw [e2] at h13
    refine catA_of (s13 _ _ h12) h13 (by rw [List.length_append, List.length_take, List.length_drop, List.length_singleton]; omega) fun q5 H14 s14 h14 => ?_
    have s814 := s812.trans (s13.trans s14)
    have f14 := s814 _ _ h8
    refine ⟨sl, _, _, rfl, rfl, f14, Nat.lt_of_le_of_lt (m := 10) (by rw [List.length_cons]; omega) (by decide), ?_⟩
    have tk := tk_put (o := .lst (V.ref b0 :: acc ++ [V.ref q5])) f14
    have tk814 := (tk_same s814).trans tk
    refine ⟨_, _, acc ++ [V.ref q5], rfl, same_mut (s8.trans s814) hsl5, t8.trans tk814, upd_same, by rw [List.length_append, List.length_singleton, l8], fun v hv2 => ?_⟩
    rcases List.mem_append.mp hv2 with z | z
    · exact (a8 v z).tk tk814
    · rw [List.mem_singleton.mp z]
      have k14 := k8.imp fun _ _ z => z.tk tk814
      refine ⟨q5, _, (termsP one).take i ++ [t9] ++ (termsP one).drop (i + 1), rfl, tk _ _ h14, All2.app (All2.app (k14.take i) ⟨⟨c9, rfl, (h9.tk (tk_same (s10.trans (s11.trans (s12.trans (s13.trans s14)))))).tk tk⟩, trivial⟩) (k14.drop (i + 1)), ?_, fun u hu => ?_⟩
      · rw [List.length_append, List.length_append, List.length_take, List.length_drop, List.length_singleton]
        omega
      · rcases List.mem_append.mp hu with y | y
        · rcases List.mem_append.mp y with x | x
          · exact tw u (List.mem_of_mem_take x)
          · rw [List.mem_singleton.mp x]; exact w9
        · exact tw u (List.mem_of_mem_drop y)
  rintro σ H8 ⟨o10, o11, acc, rfl, s8, t8, h8, l8, a8⟩
  rw [hnl] at l8
  have g8 := t8 _ _ h67
  have k8 : All2 (RefV H8) (termsP one) vs0 := k67.imp fun _ _ z => z.tk t8
  have t8p : Tp H8 tp := t5.same s8
  have nsl : sl ≠ tp := by
    obtain ⟨z, hz⟩ := t5
    exact (ne_of_none hz hsl5).symm
  -- terms
  refine ⟨_, rfl, _, rfl, sl, _, _, _, rfl, rfl, SqL.of h8, at0, 1, rfl, -1, rfl, rfl, b0, _, rfl, SqT.of g8, fun p5 hp5 => ?_⟩
  have s9 := same_new hp5 (.tup vs0.reverse)
  have g9 : upd H8 p5 (.tup vs0.reverse) p5 = some (.tup vs0.reverse) := upd_same
  generalize upd H8 p5 (.tup vs0.reverse) = H9 at s9 g9
  refine ⟨sz (by show 1 ≤ 100000; decide), fun l2 hl2 => ?_⟩
  have s10 := same_new hl2 (.lst [.ref p5])
  have g10 : upd H9 l2 (.lst [.ref p5]) l2 = some (.lst [.ref p5]) := upd_same
  generalize upd H9 l2 (.lst [.ref p5]) = H10 at s10 g10
  have s810 := s9.trans s10
  have htl5 : vs0.length ≤ 4 := by omega
  refine ⟨sl, l2, _, _, rfl, rfl, s810 _ _ h8, g10, sz (by rw [List.length_cons, List.length_singleton]; omega), fun l3 hl3 => ?_⟩
  have s11 := same_new hl3 (.lst (V.ref b0 :: acc ++ [V.ref p5]))
  have g11 : upd H10 l3 (.lst (V.ref b0 :: acc ++ [V.ref p5])) l3 = some (.lst (V.ref b0 :: acc ++ [V.ref p5])) := upd_same
  generalize upd H10 l3 (.lst (V.ref b0 :: acc ++ [V.ref p5])) = H11 at s11 g11
  have s811 := s810.trans s11
  have t11 : Tp H11 tp := t8p.same s811
  have n3 : l3 ≠ tp := by
    obtain ⟨z, hz⟩ := t8p.same s810
    exact (ne_of_none hz hl3).symm
  have all11 : ∀ v ∈ (V.ref b0 :: acc ++ [V.ref p5]), TsV (wsE e) (termsP one).length H11 v := fun v hv => by
    rcases List.mem_append.mp hv with z | z
    · rcases List.mem_cons.mp z with y | y
      · rw [y]
        exact ⟨b0, vs0, termsP one, rfl, s811 _ _ g8, k8.imp fun _ _ z => z.tk (tk_same s811), rfl, tw⟩
      · exact (a8 v y).tk (tk_same s811)
    · rw [List.mem_singleton.mp z]
      exact ⟨p5, vs0.reverse, (termsP one).reverse, rfl, s11 _ _ (s10 _ _ g9), All2.rev (k8.imp fun _ _ z => z.tk (tk_same s811)), List.length_reverse, fun t ht => tw t (List.mem_reverse.mp ht)⟩
  refine ⟨_, rfl, _, rfl, sl, _, rfl, .inl (SqL.of (s811 _ _ h8)), _, _, rfl, rfl, tp, _, rfl, t11, by rw [List.length_cons]; omega, by rw [List.length_cons]; omega, fun r12 H12 r120 r121 b12 t12 => ?_⟩
  have tk12 := tp_tk t11 b12
  obtain ⟨v12, hv12⟩ : ∃ v, (V.ref b0 :: acc ++ [V.ref p5])[r12.toNat]? = some v := ⟨_, List.getElem?_eq_getElem (by rw [List.length_append, List.length_singleton]; omega)⟩
  refine ⟨l3, _, _, _, rfl, rfl, SqL.of (b12 _ _ n3 g11), at_of (j := r12.toNat) (by omega) hv12, ?_⟩
  obtain ⟨bt, vt, ts, rfl, w1, w2, w3, w4⟩ := (all11 v12 (mem_of_get hv12)).tk tk12
  have tk512 : TK H5 H12 := (tk_same s8).trans ((tk_same s811).trans tk12)
  have b512 : But1 tp H5 H12 := (but_same (s8.trans s811)).trans b12
  have O12 : PAt H12 one bz := PAt.tk tk512 z3'
  have lvt := w2.len
  -- other
  refine ⟨_, rfl, ?_⟩
  refine ⟨fun σ' H' => ∃ ob o, σ' = [some (.ref tp), some (.ref p), some (.int (an : Int)), some (.str e.1), some (.ref nr), some (.ref b), some (.ref tl), some (.ref rz), some (.ref bz), some (.ref sl), o10, o11, some (.ref bt), some (.ref ob), none] ∧ Same H12 H' ∧ PAt H' o ob ∧ Alk (wsE e) ("home" :: jsE e) o one, ?_, ?_⟩
  · have wal := withT_alk ao w3 w4
    cases one with
    | ask f0 us0 j =>
      obtain ⟨q2, vs2, h1, h2, h3⟩ := O12
      refine ⟨_, rfl, bz, _, _, _, rfl, rfl, SqT.of h1, at0, rfl, _, rfl, itT rfl ?_⟩
      refine ⟨_, rfl, ?_⟩
      dsimp only [tNoPart]
      refine ⟨_, rfl, ?_⟩
      refine slA_of (K := K) h1 fun u1 H13 s13 h13 => ?_
      have e1 : cutV [V.str "ask", .str f0, .ref q2, .str j] none (some 2) = [V.str "ask", .str f0] := by rw [cut_to (by decide) (by show 2 ≤ 4; decide)]; rfl
      have h13' : H13 u1 = some (.tup [V.str "ask", .str f0]) := h13.trans (congrArg (fun z => some (HO.tup z)) e1)
      refine ⟨_, rfl, _, rfl, bz, _, _, _, rfl, rfl, SqT.of (s13 _ _ h1), at3, sz (by show 2 ≤ 100000; decide), fun u2 hu2 => ?_⟩
      have s14 := same_new hu2 (.tup [.ref bt, .str j])
      refine catA_of (s14 _ _ h13') upd_same (by show 2 + 2 ≤ 100000; decide) fun u3 H15 s15 h15 => ?_
      have sA := s13.trans (s14.trans s15)
      exact ⟨u3, .ask f0 ts j, rfl, sA, ⟨bt, vt, h15, sA _ _ w1, w2.imp fun _ _ z => z.tk (tk_same sA)⟩, wal⟩
    | iff t0 p1 p2 =>
      obtain ⟨b2, c2, d2, h1, h2, h3, h4⟩ := O12
      match ts, vt, w2, w3, w1, wal with
      | [t1], [_], w2, w3, w1, wal =>
        obtain ⟨⟨x1, rfl, hx1⟩, _⟩ := w2
        refine ⟨_, rfl, bz, _, _, _, rfl, rfl, SqT.of h1, at0, rfl, _, rfl, itF rfl ⟨_, rfl, bz, _, _, _, rfl, rfl, SqT.of h1, at0, rfl, _, rfl, itT rfl ?_⟩⟩
        refine ⟨sz (by show 1 ≤ 100000; decide), fun u1 hu1 => ?_⟩
        have s13 := same_new hu1 (.tup [V.str "if"])
        refine ⟨_, rfl, catA_of upd_same (s13 _ _ w1) (by show 1 + 1 ≤ 100000; decide) fun u2 H14 s14 h14 => ?_⟩
        have s1314 := s13.trans s14
        refine ⟨_, rfl, _, rfl, ?_⟩
        dsimp only [tNoPart]
        refine slA_of (K := K) (lo := some 2) (hi := none) (s1314 _ _ h1) fun u3 H15 s15 h15 => ?_
        rw [cut2] at h15
        refine catA_of (s15 _ _ h14) h15 (by show 2 + 2 ≤ 100000; decide) fun u4 H16 s16 h16 => ?_
        have sA := s1314.trans (s15.trans s16)
        exact ⟨u4, .iff t1 p1 p2, rfl, sA, ⟨x1, c2, d2, h16, hx1.tk (tk_same sA), PAt.tk (tk_same sA) h3, PAt.tk (tk_same sA) h4⟩, wal⟩
    | post j x p1 p2 =>
      have O := O12
      obtain ⟨c2, d2, h1, h2, h3⟩ := O12
      exact ⟨_, rfl, bz, _, _, _, rfl, rfl, SqT.of h1, at0, rfl, _, rfl, itF rfl ⟨_, rfl, bz, _, _, _, rfl, rfl, SqT.of h1, at0, rfl, _, rfl, itF rfl ⟨_, rfl, bz, _, _, _, rfl, rfl, SqT.of h1, at0, rfl, _, rfl, itF rfl ⟨bz, .post j x p1 p2, rfl, Same.refl _, O, wal⟩⟩⟩⟩
    | give j t0 =>
      obtain ⟨b2, h1, h2⟩ := O12
      match ts, vt, w2, w3, w1, wal with
      | [t1], [_], w2, w3, w1, wal =>
        obtain ⟨⟨x1, rfl, hx1⟩, _⟩ := w2
        refine ⟨_, rfl, bz, _, _, _, rfl, rfl, SqT.of h1, at0, rfl, _, rfl, itF rfl ⟨_, rfl, bz, _, _, _, rfl, rfl, SqT.of h1, at0, rfl, _, rfl, itF rfl ⟨_, rfl, bz, _, _, _, rfl, rfl, SqT.of h1, at0, rfl, _, rfl, itT rfl ?_⟩⟩⟩
        refine ⟨_, rfl, ?_⟩
        dsimp only [tNoPart]
        refine ⟨_, rfl, ?_⟩
        refine slA_of (K := K) h1 fun u1 H13 s13 h13 => ?_
        have e1 : cutV [V.str "give", .str j, .ref b2] none (some 2) = [V.str "give", .str j] := by rw [cut_to (by decide) (by show 2 ≤ 3; decide)]; rfl
        have h13' : H13 u1 = some (.tup [V.str "give", .str j]) := h13.trans (congrArg (fun z => some (HO.tup z)) e1)
        refine ⟨_, rfl, catA_of h13' (s13 _ _ w1) (by show 2 + 1 ≤ 100000; decide) fun u2 H14 s14 h14 => ?_⟩
        have s1314 := s13.trans s14
        refine ⟨_, rfl, _, rfl, ?_⟩
        dsimp only [tNoPart]
        refine slA_of (K := K) (lo := some 3) (hi := none) (s1314 _ _ h1) fun u3 H15 s15 h15 => ?_
        rw [cut3] at h15
        refine catA_of (s15 _ _ h14) h15 (by show 3 + 0 ≤ 100000; decide) fun u4 H16 s16 h16 => ?_
        have sA := s1314.trans (s15.trans s16)
        exact ⟨u4, .give j t1, rfl, sA, ⟨x1, h16, hx1.tk (tk_same sA)⟩, wal⟩
    | tell x t0 p1 =>
      obtain ⟨b2, c2, h1, h2, h3⟩ := O12
      match ts, vt, w2, w3, w1, wal with
      | [t1], [_], w2, w3, w1, wal =>
        obtain ⟨⟨x1, rfl, hx1⟩, _⟩ := w2
        refine ⟨_, rfl, bz, _, _, _, rfl, rfl, SqT.of h1, at0, rfl, _, rfl, itF rfl ⟨_, rfl, bz, _, _, _, rfl, rfl, SqT.of h1, at0, rfl, _, rfl, itF rfl ⟨_, rfl, bz, _, _, _, rfl, rfl, SqT.of h1, at0, rfl, _, rfl, itT rfl ?_⟩⟩⟩
        refine ⟨_, rfl, ?_⟩
        dsimp only [tNoPart]
        refine ⟨_, rfl, ?_⟩
        refine slA_of (K := K) h1 fun u1 H13 s13 h13 => ?_
        have e1 : cutV [V.str "tell", .str x, .ref b2, .ref c2] none (some 2) = [V.str "tell", .str x] := by rw [cut_to (by decide) (by show 2 ≤ 4; decide)]; rfl
        have h13' : H13 u1 = some (.tup [V.str "tell", .str x]) := h13.trans (congrArg (fun z => some (HO.tup z)) e1)
        refine ⟨_, rfl, catA_of h13' (s13 _ _ w1) (by show 2 + 1 ≤ 100000; decide) fun u2 H14 s14 h14 => ?_⟩
        have s1314 := s13.trans s14
        refine ⟨_, rfl, _, rfl, ?_⟩
        dsimp only [tNoPart]
        refine slA_of (K := K) (lo := some 3) (hi := none) (s1314 _ _ h1) fun u3 H15 s15 h15 => ?_
        rw [cut3] at h15
        refine catA_of (s15 _ _ h14) h15 (by show 3 + 1 ≤ 100000; decide) fun u4 H16 s16 h16 => ?_
        have sA := s1314.trans (s15.trans s16)
        exact ⟨u4, .tell x t1 p1, rfl, sA, ⟨x1, c2, h16, hx1.tk (tk_same sA), PAt.tk (tk_same sA) h3⟩, wal⟩
    | lett x t0 p1 =>
      obtain ⟨b2, c2, h1, h2, h3⟩ := O12
      match ts, vt, w2, w3, w1, wal with
      | [t1], [_], w2, w3, w1, wal =>
        obtain ⟨⟨x1, rfl, hx1⟩, _⟩ := w2
        refine ⟨_, rfl, bz, _, _, _, rfl, rfl, SqT.of h1, at0, rfl, _, rfl, itF rfl ⟨_, rfl, bz, _, _, _, rfl, rfl, SqT.of h1, at0, rfl, _, rfl, itF rfl ⟨_, rfl, bz, _, _, _, rfl, rfl, SqT.of h1, at0, rfl, _, rfl, itT rfl ?_⟩⟩⟩
        refine ⟨_, rfl, ?_⟩
        dsimp only [tNoPart]
        refine ⟨_, rfl, ?_⟩
        refine slA_of (K := K) h1 fun u1 H13 s13 h13 => ?_
        have e1 : cutV [V.str "let", .str x, .ref b2, .ref c2] none (some 2) = [V.str "let", .str x] := by rw [cut_to (by decide) (by show 2 ≤ 4; decide)]; rfl
        have h13' : H13 u1 = some (.tup [V.str "let", .str x]) := h13.trans (congrArg (fun z => some (HO.tup z)) e1)
        refine ⟨_, rfl, catA_of h13' (s13 _ _ w1) (by show 2 + 1 ≤ 100000; decide) fun u2 H14 s14 h14 => ?_⟩
        have s1314 := s13.trans s14
        refine ⟨_, rfl, _, rfl, ?_⟩
        dsimp only [tNoPart]
        refine slA_of (K := K) (lo := some 3) (hi := none) (s1314 _ _ h1) fun u3 H15 s15 h15 => ?_
        rw [cut3] at h15
        refine catA_of (s15 _ _ h14) h15 (by show 3 + 1 ≤ 100000; decide) fun u4 H16 s16 h16 => ?_
        have sA := s1314.trans (s15.trans s16)
        exact ⟨u4, .lett x t1 p1, rfl, sA, ⟨x1, c2, h16, hx1.tk (tk_same sA), PAt.tk (tk_same sA) h3⟩, wal⟩
  rintro σ1 H13 ⟨ob, o, rfl, s13, hO, halk⟩
  have t13 : Tp H13 tp := t12.same s13
  have O13 : PAt H13 one bz := PAt.tk (tk_same s13) O12
  -- let and tell
  refine ⟨fun σ' H' => ∃ ob o, σ' = [some (.ref tp), some (.ref p), some (.int (an : Int)), some (.str e.1), some (.ref nr), some (.ref b), some (.ref tl), some (.ref rz), some (.ref bz), some (.ref sl), o10, o11, some (.ref bt), some (.ref ob), none] ∧ But1 tp H13 H' ∧ Tp H' tp ∧ PAt H' o ob ∧ Alk (wsE e) ("home" :: jsE e) o one, ?_, ?_⟩
  · obtain ⟨rd, hd⟩ := O13.head
    refine ⟨_, rfl, bz, _, _, _, rfl, rfl, SqT.of hd, at0, sz (by show 2 ≤ 100000; decide), fun u1 hu1 => ?_⟩
    have s14 := same_new hu1 (.tup [.str "let", .str "tell"])
    have h14 : upd H13 u1 (.tup [.str "let", .str "tell"]) u1 = some (.tup [.str "let", .str "tell"]) := upd_same
    generalize upd H13 u1 (.tup [.str "let", .str "tell"]) = H14 at s14 h14
    have t14 : Tp H14 tp := t13.same s14
    refine ⟨u1, _, rfl, .inr (SqT.of h14), rfl, rfl, _, rfl, ?_⟩
    have stay : But1 tp H13 H14 := but_same s14
    cases one with
    | tell x t0 p1 =>
      obtain ⟨b2, c2, h1, h2, h3⟩ := PAt.tk (tk_same s14) O13
      refine itT rfl ⟨_, rfl, tp, 3, rfl, t14, by decide, by decide, fun r15 H15 _ _ b15 t15 => ⟨rfl, _, rfl, ?_⟩⟩
      have tk15 := tp_tk t14 b15
      have b135 : But1 tp H13 H15 := (but_same s14).trans b15
      have tk135 : TK H13 H15 := (tk_same s14).trans tk15
      refine ite2 (fun c => ?_) (fun c => ?_)
      · refine ⟨sz (by show 2 ≤ 100000; decide), fun ll hll => ?_⟩
        have s16 := same_new hll (.lst [V.str "let", .str "tell"])
        refine ⟨_, rfl, bz, _, _, _, rfl, rfl, SqT.of (s16 _ _ (tk15 _ _ h1)), at0, rfl, .inr ⟨_, rfl, ll, _, _, _, rfl, rfl, SqL.of upd_same, at0, sz (by show 1 ≤ 100000; decide), fun q1 hq1 => ?_⟩⟩
        have s17 := same_new hq1 (.tup [V.str "let"])
        have h17 : upd (upd H15 ll (.lst [V.str "let", .str "tell"])) q1 (.tup [V.str "let"]) q1 = some (.tup [V.str "let"]) := upd_same
        have s1517 := s16.trans s17
        generalize upd (upd H15 ll (.lst [V.str "let", .str "tell"])) q1 (.tup [V.str "let"]) = H17 at s17 h17 s1517
        refine ⟨_, rfl, _, rfl, ?_⟩
        dsimp only [tNoPart]
        refine slA_of (K := K) (lo := some 1) (hi := none) (s1517 _ _ (tk15 _ _ h1)) fun q2 H18 s18 h18 => ?_
        rw [cut1] at h18
        refine catA_of (s18 _ _ h17) h18 (by show 1 + 3 ≤ 100000; decide) fun q3 H19 s19 h19 => ?_
        have s1519 := s1517.trans (s18.trans s19)
        have tkA := tk15.trans (tk_same s1519)
        exact ⟨q3, .lett x t0 p1, rfl, b135.trans (but_same s1519), t15.same s1519, ⟨b2, c2, h19, h2.tk tkA, PAt.tk tkA h3⟩, swapT_alk ao⟩
      · exact ⟨ob, o, rfl, b135, t15, PAt.tk tk135 hO, halk⟩
    | lett x t0 p1 =>
      obtain ⟨b2, c2, h1, h2, h3⟩ := PAt.tk (tk_same s14) O13
      refine itT rfl ⟨_, rfl, tp, 3, rfl, t14, by decide, by decide, fun r15 H15 _ _ b15 t15 => ⟨rfl, _, rfl, ?_⟩⟩
      have tk15 := tp_tk t14 b15
      have b135 : But1 tp H13 H15 := (but_same s14).trans b15
      have tk135 : TK H13 H15 := (tk_same s14).trans tk15
      refine ite2 (fun c => ?_) (fun c => ?_)
      · refine ⟨sz (by show 2 ≤ 100000; decide), fun ll hll => ?_⟩
        have s16 := same_new hll (.lst [V.str "let", .str "tell"])
        refine ⟨_, rfl, bz, _, _, _, rfl, rfl, SqT.of (s16 _ _ (tk15 _ _ h1)), at0, rfl, .inr ⟨_, rfl, ll, _, _, _, rfl, rfl, SqL.of upd_same, at1, sz (by show 1 ≤ 100000; decide), fun q1 hq1 => ?_⟩⟩
        have s17 := same_new hq1 (.tup [V.str "tell"])
        have h17 : upd (upd H15 ll (.lst [V.str "let", .str "tell"])) q1 (.tup [V.str "tell"]) q1 = some (.tup [V.str "tell"]) := upd_same
        have s1517 := s16.trans s17
        generalize upd (upd H15 ll (.lst [V.str "let", .str "tell"])) q1 (.tup [V.str "tell"]) = H17 at s17 h17 s1517
        refine ⟨_, rfl, _, rfl, ?_⟩
        dsimp only [tNoPart]
        refine slA_of (K := K) (lo := some 1) (hi := none) (s1517 _ _ (tk15 _ _ h1)) fun q2 H18 s18 h18 => ?_
        rw [cut1] at h18
        refine catA_of (s18 _ _ h17) h18 (by show 1 + 3 ≤ 100000; decide) fun q3 H19 s19 h19 => ?_
        have s1519 := s1517.trans (s18.trans s19)
        have tkA := tk15.trans (tk_same s1519)
        exact ⟨q3, .tell x t0 p1, rfl, b135.trans (but_same s1519), t15.same s1519, ⟨b2, c2, h19, h2.tk tkA, PAt.tk tkA h3⟩, swapT_alk ao⟩
      · exact ⟨ob, o, rfl, b135, t15, PAt.tk tk135 hO, halk⟩
    | _ => exact itF rfl ⟨ob, o, rfl, stay, t14, PAt.tk (tk_same s14) hO, halk⟩
  rintro σ2 H14 ⟨ob2, o2, rfl, b14, t14, hO2, halk2⟩
  have tk14 := tp_tk t13 b14
  have tk514 : TK H5 H14 := tk512.trans ((tk_same s13).trans tk14)
  have tk114 : TK H1 H14 := (tk_same s24).trans (tk5.trans tk514)
  -- errand
  refine ⟨_, rfl, _, rfl, _, rfl, _, rfl, _, rfl, b, rz, ob2, e.2.2, o2, one, ks, rfl, PAt.tk tk114 g3, tk514 _ _ z2', hO2, hzm, by have := aE.cn; omega, fun r15 H15 s15 h15 => ?_⟩
  have wput := put_keep halk2 ks hzm aE.a
  refine ⟨sz (by show 3 ≤ 100000; decide), fun y2 hy2 => ?_⟩
  have s16 := same_new hy2 (.tup [.str e.1, .ref nr, .ref r15])
  have h16 : upd H15 y2 (.tup [.str e.1, .ref nr, .ref r15]) y2 = some (.tup [.str e.1, .ref nr, .ref r15]) := upd_same
  generalize upd H15 y2 (.tup [.str e.1, .ref nr, .ref r15]) = H16 at s16 h16
  have s1416 := s15.trans s16
  have tk116 : TK H1 H16 := tk114.trans (tk_same s1416)
  have hB16 : TBkAt H16 es us p := ⟨tk116 _ _ hB1.1, hB1.2.imp fun _ _ z => TErV.tk tk116 z⟩
  -- the book told
  refine ⟨_, rfl, ?_⟩
  dsimp only [tNoPart]
  refine ⟨_, rfl, _, rfl, ?_⟩
  refine slA_of (K := K) (lo := none) (hi := some (an : Int)) hB16.1 fun y1 H17 s17 h17 => ?_
  rw [cut_to (by omega) (by omega), Int.toNat_natCast] at h17
  refine ⟨_, rfl, sz (by show 1 ≤ 100000; decide), fun y3 hy3 => ?_⟩
  have s18 := same_new hy3 (.tup [.ref y2])
  refine catA_of (s18 _ _ h17) upd_same (by rw [List.length_take]; show _ + 1 ≤ 100000; omega) fun y4 H19 s19 h19 => ?_
  have s1719 := s17.trans (s18.trans s19)
  refine ⟨_, rfl, ?_⟩
  dsimp only [tNoPart]
  refine ⟨_, rfl, _, _, rfl, rfl, _, rfl, ?_⟩
  refine slA_of (K := K) (lo := some ((an : Int) + 1)) (hi := none) (s1719 _ _ hB16.1) fun y5 H20 s20 h20 => ?_
  have e16 : ((an : Int) + 1).toNat = an + 1 := by omega
  rw [cut_from (by omega) (by omega), e16] at h20
  refine catA_of (s20 _ _ h19) h20 (by rw [List.length_append, List.length_take, List.length_drop, List.length_singleton]; omega) fun y6 H21 s21 h21 => ?_
  have s1721 := s1719.trans (s20.trans s21)
  have tk21 : TK H16 H21 := tk_same s1721
  have b21 : But1 tp H H21 := b1.trans (((but_same s24).trans b5).trans (b512.trans (((but_same s13).trans b14).trans (but_same (s1416.trans s1721)))))
  have tp21 : Tp H21 tp := t14.same (s1416.trans s1721)
  have k21 := hB16.2.imp fun _ _ z => TErV.tk tk21 z
  refine q y6 H21 (es.take an ++ [(e.1, e.2.1, putP o2 e.2.2 ks)] ++ es.drop (an + 1)) _ b21 tp21 ⟨h21, ?_⟩ ?_ ?_
  · refine All2.app (All2.app (k21.take an) ⟨⟨y2, nr, r15, rfl, tk21 _ _ h16, (tk116.trans tk21) _ _ g2, h15.tk ((tk_same s16).trans tk21)⟩, trivial⟩) (k21.drop (an + 1))
  · rw [List.length_append, List.length_append, List.length_take, List.length_drop, List.length_singleton]
    omega
  · intro e' he'
    rcases List.mem_append.mp he' with z | z
    · rcases List.mem_append.mp z with y | y
      · exact hc e' (List.mem_of_mem_take y)
      · rw [List.mem_singleton.mp y]
        have ew : wsE (e.1, e.2.1, putP o2 e.2.2 ks) = wsE e := by
          show e.2.1 ++ wP (putP o2 e.2.2 ks) = e.2.1 ++ wP e.2.2
          rw [wput.w]
        have ej : jsE (e.1, e.2.1, putP o2 e.2.2 ks) = jsE e := wput.j
        exact ⟨aE.w, aE.ns, aE.nl, by rw [ew, ej]; exact wput.a, by show pcnt (putP o2 e.2.2 ks) ≤ 50; rw [wput.n]; exact aE.cn, by rw [ew]; exact aE.un, by rw [ej]; exact aE.uj⟩
    · exact hc e' (List.mem_of_mem_drop z)
end
end KB

namespace KB
open PySem L2 HT LamX NdefX

/-! ### thirty parts within one another -/
def xk (k : Nat) : Str := (("z" : Str) ++ (⟨#[97 + k / 26]⟩ : Str)) ++ (⟨#[97 + k % 26]⟩ : Str)
def yk (k : Nat) : Str := ("y" : Str) ++ xk k
def numT (k : Nat) : Tm := mkL (.num (k : Int)) []
def manyP : Nat → Pt
  | 0 => .give "home" (mkL (.nam "start") [])
  | k + 1 => if k % 2 = 0 then .lett (xk k) (numT k) (manyP k) else .post (xk k) (yk k) (manyP k) (.give (xk k) (numT k))
def manyB : List TEr := [("f", ["start"], manyP 30)]
def manyW : List Str := wsE ("f", ["start"], manyP 30)
def manyJ : List Str := jsE ("f", ["start"], manyP 30)
theorem many_ok : ∀ k < 30, isW (xk k) = true ∧ isW (yk k) = true ∧ (k % 2 = 0 → xk k ∈ manyW) ∧ (k % 2 = 1 → yk k ∈ manyW ∧ xk k ∈ manyJ) := by decide +kernel
theorem many_start : ("start" : Str) ∈ manyW := by decide +kernel
theorem tw_num {ws : List Str} {k : Nat} (h : k < 1000) : TmW ws (numT k) := ⟨⟨ok_mkL (show (0 : Int) ≤ (k : Int) ∧ (k : Int) < 1000 by omega) (fun t ht => nomatch ht), rfl, by show 1 + 0 ≤ 3; decide, ht_mkL (fun t ht => nomatch ht)⟩, fun y hy => by cases hy⟩
theorem tw_nam {ws : List Str} {x : Str} (hw : isW x = true) (h : x ∈ ws) : TmW ws (mkL (.nam x) []) := ⟨⟨ok_mkL hw (fun t ht => nomatch ht), rfl, by show 1 + 0 ≤ 3; decide, ht_mkL (fun t ht => nomatch ht)⟩, fun y hy => by
  have e : nmsT (mkL (.nam x) []) = [x] := rfl
  rw [e] at hy
  rw [List.mem_singleton.mp hy]
  exact h⟩
theorem many_aP : ∀ n, n ≤ 30 → aP manyW ("home" :: manyJ) (manyP n)
  | 0, _ => ⟨List.mem_cons_self, tw_nam (by decide +kernel) many_start⟩
  | k + 1, h => by
    obtain ⟨h1, h2, h3, h4⟩ := many_ok k (by omega)
    have ih := many_aP k (by omega)
    show aP manyW ("home" :: manyJ) (if k % 2 = 0 then Pt.lett (xk k) (numT k) (manyP k) else Pt.post (xk k) (yk k) (manyP k) (.give (xk k) (numT k)))
    by_cases c : k % 2 = 0
    · rw [if_pos c]
      exact ⟨⟨h1, h3 c⟩, tw_num (by omega), ih⟩
    · rw [if_neg c]
      obtain ⟨h5, h6⟩ := h4 (by omega)
      exact ⟨⟨h1, List.mem_cons_of_mem _ h6⟩, ⟨h2, h5⟩, ih, List.mem_cons_of_mem _ h6, tw_num (by omega)⟩
theorem many_an : ∀ e ∈ manyB, AnE e := fun e he => by
  rw [List.mem_singleton.mp he]
  exact ⟨by decide +kernel, by decide +kernel, by decide +kernel, many_aP 30 (Nat.le_refl _), by decide +kernel, by decide +kernel, by decide +kernel⟩
section
variable {P : Program} {w : World} {K : PySem.W.Frag} {mg : Str → Option Value} {base : Heap}
/-! ### _law_many_words -/
def spMw : Sp := fun vs H Q _ => vs = [] ∧ ∀ r H' us, Same H H' → TBkAt H' manyB us r → Q (.ref r) H'
abbrev s_law_many_words : Stmt := top 52
theorem scLmany_words : FnScope ["part", "letters", "k", "x", "some"] [] (defScope s_law_many_words) := ⟨rfl, rfl, rfl, by decide +kernel, rfl, by decide +kernel, by decide +kernel⟩
theorem ok_mw (T : Txt K mg) {f : Addr} {fd : FuncData} (F : Fun K "_law_many_words" "_law_many_words" s_law_many_words f fd) : FnOk P w K mg base CX0 1 f fd [] spMw := by
  refine F.ok scLmany_words (fun vs H Q E h => ?_) (fun cdv A outer s H vs Q E hr h => ?_)
  · obtain ⟨rfl, _⟩ := h
    rfl
  obtain ⟨rfl, q⟩ := h
  refine ⟨_, (pss_cons (ps_set (i := 0) scLmany_words.nd rfl (Or.inl rfl) (pe_tup (pa_cons pe_str (pa_cons pe_str (pa_cons (pe_tup (pa_cons pe_str (pa_cons pe_str pa_nil))) pa_nil)))))
    (pss_cons (ps_set (i := 1) scLmany_words.nd rfl (Or.inl rfl) pe_str)
    (pss_cons (ps_for PassesOwn.never rfl (pi_range1 rfl T.m_range (pa_cons pe_int pa_nil)) (pg_name (i := 2) scLmany_words.nd rfl (Or.inl rfl)) (pss_cons (ps_set (i := 3) scLmany_words.nd rfl (Or.inl rfl) (pe_op op_add_str (pe_op op_add_str pe_str (pe_ix ix_str (pv 1) (pe_op op_fdivN (pv 2) pe_int) (fun _ _ => rfl))) (pe_ix ix_str (pv 1) (pe_op op_modN (pv 2) pe_int) (fun _ _ => rfl))))
    (pss_cons (ps_set (i := 4) scLmany_words.nd rfl (Or.inl rfl) (pe_lst (pa_cons (pe_tup (pa_cons pe_str (pa_cons (pv 3) (pa_cons (pe_tup (pa_cons pe_str (pa_cons (pv 2) pa_nil))) (pa_cons (pv 0) pa_nil))))) pa_nil)))
    (pss_cons (ps_set (i := 4) scLmany_words.nd rfl (Or.inl rfl) (pe_op op_cat (pv 4) (pe_lst (pa_cons (pe_tup (pa_cons pe_str (pa_cons (pv 3) (pa_cons (pe_op op_add_str pe_str (pv 3)) (pa_cons (pv 0) (pa_cons (pe_tup (pa_cons pe_str (pa_cons (pv 3) (pa_cons (pe_tup (pa_cons pe_str (pa_cons (pv 2) pa_nil))) pa_nil)))) pa_nil)))))) pa_nil))))
    (pss_one (ps_set (i := 0) scLmany_words.nd rfl (Or.inl rfl) (pe_ix ix_list (pv 4) (pe_op op_modN (pv 2) pe_int) (fun _ _ => rfl))))))))
    (pss_one (ps_ret (pe_tup (pa_cons (pe_tup (pa_cons pe_str (pa_cons (pe_tup (pa_cons pe_str pa_nil)) (pa_cons (pv 0) pa_nil)))) pa_nil))))))), ?_⟩
  refine ⟨sz (by show 2 ≤ 100000; decide), fun p1 hp1 => ?_⟩
  have s1 := same_new hp1 (.tup [V.str "name", .str "start"])
  have h1 : upd H p1 (.tup [V.str "name", .str "start"]) p1 = some (.tup [V.str "name", .str "start"]) := upd_same
  generalize upd H p1 (.tup [V.str "name", .str "start"]) = H1 at s1 h1
  refine ⟨sz (by show 3 ≤ 100000; decide), fun p2 hp2 => ?_⟩
  have s2 := same_new hp2 (.tup [V.str "give", .str "home", .ref p1])
  have h2 : upd H1 p2 (.tup [V.str "give", .str "home", .ref p1]) p2 = some (.tup [V.str "give", .str "home", .ref p1]) := upd_same
  have h12 := s2 _ _ h1
  have s12 := s1.trans s2
  generalize upd H1 p2 (.tup [V.str "give", .str "home", .ref p1]) = H2 at s2 h2 h12 s12
  have A0 : PAt H2 (manyP 0) p2 := ⟨p1, h2, at_mkL (h := .nam "start") (vs := []) ⟨rfl, h12⟩ trivial⟩
  refine ⟨30, rfl, by decide, by decide, ?_⟩
  refine for_range (lo := 0) (n := (30 : Int).toNat) (fun i σ H' => ∃ o2 o3 o4 pa, σ = [some (.ref pa), some (.str lettersS), o2, o3, o4] ∧ Same H H' ∧ PAt H' (manyP i) pa) ⟨_, _, _, p2, rfl, s12, A0⟩ ?_ ?_
  · rintro i σ H3 hi ⟨o2, o3, o4, pa, rfl, s3, A3⟩
    have hi : i < 30 := hi
    have ei : (0 : Int) + (i : Nat) = (i : Int) := Int.zero_add _
    rw [ei]
    have e1 : Int.fdiv (i : Int) 26 = ((i / 26 : Nat) : Int) := by
      rw [Int.fdiv_eq_ediv_of_nonneg _ (by decide)]
      rfl
    have e2 : Int.fmod (i : Int) 26 = ((i % 26 : Nat) : Int) := by
      rw [Int.fmod_eq_emod_of_nonneg _ (by decide)]
      rfl
    have e3 : Int.fmod (i : Int) 2 = ((i % 2 : Nat) : Int) := by
      rw [Int.fmod_eq_emod_of_nonneg _ (by decide)]
      rfl
    refine ⟨_, rfl, _, rfl, _, _, rfl, rfl, ⟨by decide, by decide⟩, ?_⟩
    dsimp only
    rw [e1]
    refine ⟨lettersS, _, _, rfl, rfl, (by decide +kernel), letters_at (by omega) (by omega), ?_⟩
    rw [Int.toNat_natCast]
    refine ⟨_, _, rfl, rfl, sz (by show 1 + 1 ≤ 100000; decide), ?_⟩
    refine ⟨_, rfl, _, rfl, _, _, rfl, rfl, (by show (26 : Int) ≠ 0; decide), ?_⟩
    dsimp only
    rw [e2]
    refine ⟨lettersS, _, _, rfl, rfl, (by decide +kernel), letters_at (by omega) (by omega), ?_⟩
    rw [Int.toNat_natCast]
    refine ⟨_, _, rfl, rfl, sz (by show 2 + 1 ≤ 100000; decide), ?_⟩
    have ex : ((("z" : Str) ++ (⟨#[97 + i / 26]⟩ : Str)) ++ (⟨#[97 + i % 26]⟩ : Str)) = xk i := rfl
    rw [ex]
    -- some
    refine ⟨_, rfl, _, rfl, sz (by show 2 ≤ 100000; decide), fun q1 hq1 => ?_⟩
    have s4 := same_new hq1 (.tup [V.str "number", .int (i : Int)])
    have g4 : upd H3 q1 (.tup [V.str "number", .int (i : Int)]) q1 = some (.tup [V.str "number", .int (i : Int)]) := upd_same
    generalize upd H3 q1 (.tup [V.str "number", .int (i : Int)]) = H4 at s4 g4
    refine ⟨_, rfl, sz (by show 4 ≤ 100000; decide), fun q2 hq2 => ?_⟩
    have s5 := same_new hq2 (.tup [V.str "let", .str (xk i), .ref q1, .ref pa])
    have g5 : upd H4 q2 (.tup [V.str "let", .str (xk i), .ref q1, .ref pa]) q2 = some (.tup [V.str "let", .str (xk i), .ref q1, .ref pa]) := upd_same
    have g45 := s5 _ _ g4
    have s35 := s4.trans s5
    generalize upd H4 q2 (.tup [V.str "let", .str (xk i), .ref q1, .ref pa]) = H5 at s5 g5 g45 s35
    refine ⟨sz (by show 1 ≤ 100000; decide), fun l1 hl1 => ?_⟩
    have s6 := same_new hl1 (.lst [.ref q2])
    have g6 : upd H5 l1 (.lst [.ref q2]) l1 = some (.lst [.ref q2]) := upd_same
    have s36 := s35.trans s6
    generalize upd H5 l1 (.lst [.ref q2]) = H6 at s6 g6 s36
    -- the other one
    refine ⟨_, rfl, _, rfl, _, rfl, _, _, rfl, rfl, sz (by show 1 + 3 ≤ 100000; decide), _, rfl, _, rfl, _, rfl, sz (by show 2 ≤ 100000; decide), fun q3 hq3 => ?_⟩
    have ey : ("y" : Str) ++ xk i = yk i := rfl
    rw [ey]
    have s7 := same_new hq3 (.tup [V.str "number", .int (i : Int)])
    have g7 : upd H6 q3 (.tup [V.str "number", .int (i : Int)]) q3 = some (.tup [V.str "number", .int (i : Int)]) := upd_same
    generalize upd H6 q3 (.tup [V.str "number", .int (i : Int)]) = H7 at s7 g7
    refine ⟨sz (by show 3 ≤ 100000; decide), fun q4 hq4 => ?_⟩
    have s8 := same_new hq4 (.tup [V.str "give", .str (xk i), .ref q3])
    have g8 : upd H7 q4 (.tup [V.str "give", .str (xk i), .ref q3]) q4 = some (.tup [V.str "give", .str (xk i), .ref q3]) := upd_same
    have g78 := s8 _ _ g7
    have s68 := s7.trans s8
    generalize upd H7 q4 (.tup [V.str "give", .str (xk i), .ref q3]) = H8 at s8 g8 g78 s68
    refine ⟨sz (by show 5 ≤ 100000; decide), fun q5 hq5 => ?_⟩
    have s9 := same_new hq5 (.tup [V.str "post", .str (xk i), .str (yk i), .ref pa, .ref q4])
    have g9 : upd H8 q5 (.tup [V.str "post", .str (xk i), .str (yk i), .ref pa, .ref q4]) q5 = some (.tup [V.str "post", .str (xk i), .str (yk i), .ref pa, .ref q4]) := upd_same
    have g89 := s9 _ _ g8
    have g79 := s9 _ _ g78
    have s69 := s68.trans s9
    generalize upd H8 q5 (.tup [V.str "post", .str (xk i), .str (yk i), .ref pa, .ref q4]) = H9 at s9 g9 g89 g79 s69
    refine ⟨sz (by show 1 ≤ 100000; decide), fun l2 hl2 => ?_⟩
    have s10 := same_new hl2 (.lst [.ref q5])
    have g10 : upd H9 l2 (.lst [.ref q5]) l2 = some (.lst [.ref q5]) := upd_same
    have s610 := s69.trans s10
    generalize upd H9 l2 (.lst [.ref q5]) = H10 at s10 g10 s610
    refine ⟨l1, l2, _, _, rfl, rfl, s610 _ _ g6, g10, sz (by show 1 + 1 ≤ 100000; decide), fun l3 hl3 => ?_⟩
    have s11 := same_new hl3 (.lst ([V.ref q2] ++ [V.ref q5]))
    have g11 : upd H10 l3 (.lst ([V.ref q2] ++ [V.ref q5])) l3 = some (.lst ([V.ref q2] ++ [V.ref q5])) := upd_same
    have s611 := s610.trans s11
    generalize upd H10 l3 (.lst ([V.ref q2] ++ [V.ref q5])) = H11 at s11 g11 s611
    have s311 := s36.trans s611
    refine ⟨_, rfl, _, rfl, _, _, rfl, rfl, (by show (2 : Int) ≠ 0; decide), ?_⟩
    dsimp only
    rw [e3]
    have A11 : PAt H11 (manyP i) pa := PAt.tk (tk_same s311) A3
    have es : manyP (i + 1) = if i % 2 = 0 then .lett (xk i) (numT i) (manyP i) else .post (xk i) (yk i) (manyP i) (.give (xk i) (numT i)) := rfl
    by_cases c : i % 2 = 0
    · rw [c]
      refine ⟨l3, _, _, _, rfl, rfl, SqL.of g11, at0, ?_⟩
      refine ⟨_, _, _, q2, rfl, s3.trans s311, ?_⟩
      rw [es, if_pos c]
      exact ⟨q1, pa, (s6.trans s611) _ _ g5, at_mkL (h := .num (i : Int)) (vs := []) ⟨rfl, (s6.trans s611) _ _ g45⟩ trivial, A11⟩
    · have c1 : i % 2 = 1 := by omega
      rw [c1]
      refine ⟨l3, _, _, _, rfl, rfl, SqL.of g11, at1, ?_⟩
      refine ⟨_, _, _, q5, rfl, s3.trans s311, ?_⟩
      rw [es, if_neg c]
      have s911 := s10.trans s11
      exact ⟨pa, q4, s911 _ _ g9, A11, q3, s911 _ _ g89, at_mkL (h := .num (i : Int)) (vs := []) ⟨rfl, s911 _ _ g79⟩ trivial⟩
  · rintro σ H3 ⟨o2, o3, o4, pa, rfl, s3, A3⟩
    have A3 : PAt H3 (manyP 30) pa := A3
    refine ⟨sz (by show 1 ≤ 100000; decide), fun q1 hq1 => ?_⟩
    have s4 := same_new hq1 (.tup [V.str "start"])
    have g4 : upd H3 q1 (.tup [V.str "start"]) q1 = some (.tup [V.str "start"]) := upd_same
    generalize upd H3 q1 (.tup [V.str "start"]) = H4 at s4 g4
    refine ⟨_, rfl, sz (by show 3 ≤ 100000; decide), fun q2 hq2 => ?_⟩
    have s5 := same_new hq2 (.tup [V.str "f", .ref q1, .ref pa])
    have g5 : upd H4 q2 (.tup [V.str "f", .ref q1, .ref pa]) q2 = some (.tup [V.str "f", .ref q1, .ref pa]) := upd_same
    have g45 := s5 _ _ g4
    have s35 := s4.trans s5
    generalize upd H4 q2 (.tup [V.str "f", .ref q1, .ref pa]) = H5 at s5 g5 g45 s35
    refine ⟨sz (by show 1 ≤ 100000; decide), fun q3 hq3 => ?_⟩
    have s6 := same_new hq3 (.tup [.ref q2])
    have s36 := s35.trans s6
    exact q q3 _ [.ref q2] (s3.trans s36) ⟨upd_same, ⟨q2, q1, pa, rfl, s6 _ _ g5, s6 _ _ g45, PAt.tk (tk_same s36) A3⟩, trivial⟩
end
end KB

namespace KB
open PySem L2 HT LamX NdefX

theorem Sx.seq {K : PySem.W.Frag} {H H' : Hp} {a : Addr} {xs : List V} (e : Sx H H') (h : SqL K H a xs) : SqL K H' a xs := by
  rcases h with (h | ⟨o, h⟩) | h
  · exact .inl (.inl (e.l h))
  · exact .inl (.inr ⟨o, e.1 _ _ h fun _ z => nomatch z⟩)
  · exact .inr h
theorem sx_but {tp : Addr} {H H1 H2 : Hp} (h0 : H tp = none) (s : Sx H H1) (b : But1 tp H1 H2) (t : Tp H2 tp) : Sx H H2 := by
  refine ⟨fun a o ha hn => b a o (ne_of_none ha h0) (s.1 a o ha hn), fun a ha => ?_⟩
  have hne : a ≠ tp := fun z => by
    obtain ⟨c, hc⟩ := t
    rw [z, hc] at ha
    cases ha
  refine s.2 a ?_
  cases e : H1 a with
  | none => rfl
  | some o => rw [b a o hne e] at ha; cases ha
theorem tabs_but {T : List (Addr × Str)} {tp : Addr} {H H' : Hp} (t : Tabs T H) (b : But1 tp H H') (h : Tp H tp) : Tabs T H' := fun p hp => by
  obtain ⟨c, hc⟩ := h
  obtain ⟨ps, h1, h2, h3⟩ := t p hp
  refine ⟨ps, b _ _ (fun z => ?_) h1, h2, fun pos cv hcv => ?_⟩
  · rw [z, hc] at h1
    cases h1
  · obtain ⟨d, e, hd⟩ := h3 pos cv hcv
    refine ⟨d, e, b _ _ (fun z => ?_) hd⟩
    rw [z, hc] at hd
    exact nomatch (Option.some.inj hd)
theorem bk_tk {H H' : Hp} (t : TK H H') {es : List TEr} {us : List V} {p : Addr} (h : TBkAt H es us p) : TBkAt H' es us p := ⟨t _ _ h.1, h.2.imp fun _ _ z => TErV.tk t z⟩
theorem TBkAt.sx {H H' : Hp} (s : Sx H H') {es : List TEr} {us : List V} {p : Addr} (h : TBkAt H es us p) : TBkAt H' es us p := ⟨s.t h.1, h.2.imp fun _ _ z => TErV.tk s.tk z⟩
def BkA (H : Hp) (v : V) : Prop := ∃ p es us, v = .ref p ∧ TBkAt H es us p ∧ (es : List TEr).length ≤ 6 ∧ ∀ e ∈ es, AnE e
theorem BkA.sx {H H' : Hp} (s : Sx H H') {v : V} (h : BkA H v) : BkA H' v := let ⟨p, es, us, e, h1, h2, h3⟩ := h; ⟨p, es, us, e, h1.sx s, h2, h3⟩
theorem anew_twice {es : List TEr} (h : ∀ e ∈ es, AnE e) : (es.map anewE).map anewE = es.map anewE := by
  rw [List.map_map]
  exact List.map_congr_left fun e he => anew_anew (h e he)
theorem alike_comm (es fs : List TEr) : alike2 es fs = alike2 fs es := PySem.W.eqv_comm _ _
theorem alike_anew {es : List TEr} (h : ∀ e ∈ es, AnE e) : alike2 es (es.map anewE) = true := by
  unfold alike2
  rw [anew_twice h]
  exact eqv_self (shaped_bk (an_map h))
def spLawT (K : PySem.W.Frag) (T : List (Addr × Str)) : Sp := fun vs H Q _ => ∃ (a : Addr) (ns : List Int), vs = [.ref a] ∧ SqL K H a (ns.map V.int) ∧ ns.length ≤ 63 ∧ Tabs T H ∧ ∀ H', Q (.bl true) H'
section
variable {P : Program} {w : World} {K : PySem.W.Frag} {mg : Str → Option Value} {base : Heap}
/-! ### law -/
abbrev slaw : Stmt := top 53
theorem sclaw : FnScope ["script", "straight", "turned", "one", "due", "k", "tape", "turn", "told"] ["script"] (defScope slaw) := ⟨rfl, rfl, rfl, by decide +kernel, rfl, by decide +kernel, by decide +kernel⟩
theorem ok_law (T : Txt K mg) (mmin : mg "min" = none) {TT : List (Addr × Str)} {f f1 f2 f3 f4 f5 f6 f7 f8 : Addr} {fd d1 d2 d3 d4 d5 d6 d7 d8 : FuncData} (F : Fun K "law" "law" slaw f fd)
    (G_law_tape : FnOk P w K mg base CX0 2 f1 d1 ["script", "k"] (spTape K)) (R_law_tape : Ref K mg "_law_tape" f1 d1 ["script", "k"]) (G_law_digit : FnOk P w K mg base CX0 1 f2 d2 ["tape", "many"] spDig) (R_law_digit : Ref K mg "_law_digit" f2 d2 ["tape", "many"])
    (G_law_turned_book : FnOk P w K mg base CX0 17 f3 d3 ["script", "start", "straight"] (spTBook K)) (R_law_turned_book : Ref K mg "_law_turned_book" f3 d3 ["script", "start", "straight"]) (G_law_many_words : FnOk P w K mg base CX0 1 f4 d4 [] spMw) (R_law_many_words : Ref K mg "_law_many_words" f4 d4 [])
    (G_law_anew : FnOk P w K mg base CX0 54 f5 d5 ["turned"] spLan) (R_law_anew : Ref K mg "_law_anew" f5 d5 ["turned"]) (Ganew : FnOk P w K mg base CX0 9 f6 d6 ["turned"] (spAn TT)) (Ranew : Ref K mg "anew" f6 d6 ["turned"])
    (Gare_alike : FnOk P w K mg base CX0 10 f7 d7 ["turned", "other"] (spAa TT)) (Rare_alike : Ref K mg "are_alike" f7 d7 ["turned", "other"]) (G_law_one_sign : FnOk P w K mg base CX0 53 f8 d8 ["tape", "turned"] spSg) (R_law_one_sign : Ref K mg "_law_one_sign" f8 d8 ["tape", "turned"]) :
    FnOk P w K mg base CX0 55 f fd ["script"] (spLawT K TT) := by
  refine F.ok sclaw (fun vs H Q E h => ?_) (fun cdv A outer s H vs Q E hr h => ?_)
  · obtain ⟨a, ns, rfl, _⟩ := h
    rfl
  obtain ⟨sc, ns, rfl, hS, hn63, hT, q⟩ := h
  refine ⟨_, (pss_cons (ps_set (i := 1) sclaw.nd rfl (Or.inl rfl) (pe_cmpR op_lt (pe_call G_law_digit (hr.mono (by omega)) rfl R_law_digit.m R_law_digit.k R_law_digit.b .nil pass0 (pa_cons (pe_call G_law_tape (hr.mono (by omega)) rfl R_law_tape.m R_law_tape.k R_law_tape.b .nil pass0 (pa_cons (pv 0) (pa_cons pe_int pa_nil))) (pa_cons pe_int pa_nil))) pe_int (nomark _)))
    (pss_cons (ps_set (i := 2) sclaw.nd rfl (Or.inl rfl) (pe_call G_law_turned_book (hr.mono (by omega)) rfl R_law_turned_book.m R_law_turned_book.k R_law_turned_book.b .nil pass0 (pa_cons (pv 0) (pa_cons pe_int (pa_cons (pv 1) pa_nil)))))
    (pss_cons (ps_for PassesOwn.never rfl (pi_list (pe_lst (pa_cons (pv 2) (pa_cons (pe_call0 G_law_many_words (hr.mono (by omega)) rfl R_law_many_words.m R_law_many_words.k R_law_many_words.b .nil pass0) pa_nil)))) (pg_name (i := 3) sclaw.nd rfl (Or.inl rfl)) (pss_cons (ps_set (i := 4) sclaw.nd rfl (Or.inl rfl) (pe_call G_law_anew (hr.mono (by omega)) rfl R_law_anew.m R_law_anew.k R_law_anew.b .nil pass0 (pa_cons (pv 3) pa_nil)))
    (pss_one (ps_if (PW.pt (pw_or (pt_cmpR (op_neD hr.units) (pe_call Ganew (hr.mono (by omega)) rfl Ranew.m Ranew.k Ranew.b .nil pass0 (pa_cons (pv 3) pa_nil)) (pv 4) (nomark _)) (pw_or (pt_cmpR (op_neD hr.units) (pe_call Ganew (hr.mono (by omega)) rfl Ranew.m Ranew.k Ranew.b .nil pass0 (pa_cons (pv 4) pa_nil)) (pv 4) (nomark _)) (pw_or1 (pt_cmpR op_notBl (pe_call Gare_alike (hr.mono (by omega)) rfl Rare_alike.m Rare_alike.k Rare_alike.b .nil pass0 (pa_cons (pv 3) (pa_cons (pv 4) pa_nil))) pe_bl (nomark _)))))) (pss_one (ps_ret pe_bl)) pss_nil))))
    (pss_cons (ps_for PassesOwn.never rfl (pi_range2 rfl T.m_range (pa_cons pe_int (pa_cons (pe_callB (call_max2 rfl) (by rfl) T.m_max (by decide +kernel) (pa_cons pe_int (pa_cons (pe_callB (call_min2 rfl) (by rfl) mmin (by decide +kernel) (pa_cons pe_int (pa_cons (pe_callB call_len_seq (by rfl) T.m_len PySem.boot_len (pa_cons (pv 0) pa_nil)) pa_nil))) pa_nil))) pa_nil))) (pg_name (i := 5) sclaw.nd rfl (Or.inl rfl)) (pss_cons (ps_set (i := 6) sclaw.nd rfl (Or.inl rfl) (pe_call G_law_tape (hr.mono (by omega)) rfl R_law_tape.m R_law_tape.k R_law_tape.b .nil pass0 (pa_cons (pv 0) (pa_cons (pv 5) pa_nil))))
    (pss_one (ps_for PassesOwn.never rfl (pi_range1 rfl T.m_range (pa_cons pe_int pa_nil)) (pg_name (i := 7) sclaw.nd rfl (Or.inl rfl)) (pss_cons (ps_set (i := 3) sclaw.nd rfl (Or.inl rfl) (pe_call G_law_one_sign (hr.mono (by omega)) rfl R_law_one_sign.m R_law_one_sign.k R_law_one_sign.b .nil pass0 (pa_cons (pv 6) (pa_cons (pv 2) pa_nil))))
    (pss_cons (ps_set (i := 4) sclaw.nd rfl (Or.inl rfl) (pe_cmpR (op_eqD hr.units) (pe_call G_law_anew (hr.mono (by omega)) rfl R_law_anew.m R_law_anew.k R_law_anew.b .nil pass0 (pa_cons (pv 3) pa_nil)) (pe_call G_law_anew (hr.mono (by omega)) rfl R_law_anew.m R_law_anew.k R_law_anew.b .nil pass0 (pa_cons (pv 2) pa_nil)) (nomark _)))
    (pss_one (ps_for PassesOwn.never rfl (pi_list (pe_lst (pa_cons (pe_call Gare_alike (hr.mono (by omega)) rfl Rare_alike.m Rare_alike.k Rare_alike.b .nil pass0 (pa_cons (pv 2) (pa_cons (pv 3) pa_nil))) (pa_cons (pe_call Gare_alike (hr.mono (by omega)) rfl Rare_alike.m Rare_alike.k Rare_alike.b .nil pass0 (pa_cons (pv 3) (pa_cons (pv 2) pa_nil))) pa_nil)))) (pg_name (i := 8) sclaw.nd rfl (Or.inl rfl)) (pss_one (ps_if (PW.pt (pw_or (pt_not (pt_val (pe_callB call_isi (by rfl) T.m_isinstance (by decide +kernel) (pa_cons (pv 8) (pa_cons (pe_bltn (v := .ty "bool") rfl T.m_bool (by decide +kernel) rfl) pa_nil))))) (pw_or1 (pt_cmpR op_ne (pv 8) (pv 4) (nomark _))))) (pss_one (ps_ret pe_bl)) pss_nil))))))))))
    (pss_one (ps_ret pe_bl)))))), ?_⟩
  -- straight
  refine ⟨_, rfl, sc, ns, 0, rfl, hS, by decide, by decide, fun hp z0 hhp => ?_⟩
  have s1 := same_new hhp (.lst [.int z0])
  have t1 : Tp (upd H hp (.lst [.int z0])) hp := ⟨z0, upd_same⟩
  generalize upd H hp (.lst [.int z0]) = H1 at s1 t1
  refine ⟨hp, 7, rfl, t1, by decide, by decide, fun r0 H2 _ _ b2 t2 => ⟨_, _, rfl, rfl, ?_⟩⟩
  have s2 : Same H H2 := fun b o hb => b2 b o (ne_of_none hb hhp) (s1 b o hb)
  have T2 := tabs_new hT s2
  -- turned
  refine ⟨_, rfl, _, rfl, sc, ns, 0, _, rfl, s2.seq hS, by decide, by decide, fun p es us H3 s3 hB hG => ?_⟩
  have hE : ∀ e ∈ es, AnE e := by
    obtain ⟨hF, hGe, _⟩ := hG.er
    exact fun e he => (hGe e he).an
  have hl1 := hG.len.1
  have hl6 := hG.len.2
  have T3 := tabs_new T2 s3
  have hS3 := (s2.trans s3).seq hS
  refine ⟨_, rfl, rfl, fun pm H4 um s4 hBm => ?_⟩
  refine ⟨sz (by show 2 ≤ 100000; decide), fun sl hsl => ?_⟩
  have s5 := same_new hsl (.lst [.ref p, .ref pm])
  have g5 : upd H4 sl (.lst [.ref p, .ref pm]) sl = some (.lst [.ref p, .ref pm]) := upd_same
  have s35 := s4.trans s5
  have hB5 := (bk_tk (tk_same s35) hB)
  have hBm5 := (bk_tk (tk_same s5) hBm)
  have T5 := tabs_new T3 s35
  have hS5 := s35.seq hS3
  generalize upd H4 sl (.lst [.ref p, .ref pm]) = H5 at s5 g5 s35 hB5 hBm5 T5 hS5
  -- the book and the thirty parts
  refine ⟨sl, rfl, ⟨_, SqL.of g5⟩, for_list (K := K) (a := sl) (xs := [.ref p, .ref pm]) (fun i σ H' => ∃ o3 o4, σ = [some (.ref sc), some (.bl (decide (r0 < 4))), some (.ref p), o3, o4, none, none, none, none] ∧ Sx H5 H' ∧ Tabs TT H') ⟨_, _, rfl, Sx.refl _, T5⟩ ?_ ?_ ?_⟩
  · rintro i σ H' _ ⟨o3, o4, rfl, s6, _⟩
    exact SqL.of (s6.l g5)
  · rintro i x σ H6 hx ⟨o3, o4, rfl, s6, T6⟩
    have hx5 : BkA H5 x := by
      have hm := List.mem_of_getElem? hx
      rcases List.mem_cons.mp hm with z | z
      · rw [z]; exact ⟨p, es, us, rfl, hB5, hl6, hE⟩
      · rw [List.mem_singleton.mp z]; exact ⟨pm, manyB, um, rfl, hBm5, by decide, many_an⟩
    obtain ⟨p6, es6, us6, rfl, hB6, hl6', hE6⟩ := hx5.sx s6
    have sh := shaped_bk (an_map hE6)
    refine ⟨_, rfl, p6, es6, us6, rfl, hB6, hl6', hE6, fun p7 H7 us7 s7 hB7 => ?_⟩
    have hB67 := (bk_tk (tk_same s7) hB6)
    have T7 := tabs_new T6 s7
    have hl7 : (es6.map anewE).length ≤ 6 := by rw [List.length_map]; exact hl6'
    refine ⟨_, rfl, p6, es6, us6, rfl, hB67, hl6', hE6, T7, fun v8 H8 s8 T8 r8 => ?_⟩
    have hB8 := (TBkAt.sx s8 hB7)
    refine ⟨_, rfl, _, _, r8.dp, dp_bk hB8, sh, sh, _, rfl, itF (by rw [eqv_self sh]; rfl) ?_⟩
    refine ⟨_, rfl, p7, es6.map anewE, us7, rfl, hB8, hl7, an_map hE6, T8, fun v9 H9 s9 T9 r9 => ?_⟩
    rw [anew_twice hE6] at r9
    have hB9 := (TBkAt.sx s9 hB8)
    refine ⟨_, rfl, _, _, r9.dp, dp_bk hB9, sh, sh, _, rfl, itF (by rw [eqv_self sh]; rfl) ?_⟩
    refine ⟨_, rfl, _, rfl, p6, p7, es6, es6.map anewE, us6, us7, rfl, (TBkAt.sx s9 (TBkAt.sx s8 hB67)), hl6', hE6, hB9, hl7, an_map hE6, T9, fun H10 s10 T10 => ?_⟩
    rw [alike_anew hE6]
    refine ⟨_, _, rfl, rfl, _, rfl, itF rfl ?_⟩
    exact ⟨_, _, rfl, s6.trans ((sx_same s7).trans (s8.trans (s9.trans s10))), T10⟩
  rintro σ H6 ⟨o3, o4, rfl, s6, T6⟩
  have hS6 := s6.seq hS5
  have hB6 := (TBkAt.sx s6 hB5)
  have eL : ((ns.map V.int).length : Int) = (ns.length : Int) := by rw [List.length_map]
  refine ⟨_, rfl, sc, _, rfl, .inl hS6, _, _, rfl, _, _, rfl, _, _, rfl, ?_⟩
  refine ⟨⟨by decide, by decide, ?_, ?_⟩, for_range (lo := 7) (n := _) (fun i σ H' => ∃ o3 o4 o5 o6 o7 o8, σ = [some (.ref sc), some (.bl (decide (r0 < 4))), some (.ref p), o3, o4, o5, o6, o7, o8] ∧ Sx H6 H' ∧ Tabs TT H') ⟨_, _, _, _, _, _, rfl, Sx.refl _, T6⟩ ?_ ?_⟩
  · rw [eL]
    split <;> (try split) <;> omega
  · rw [eL]
    have e62 : (2 : Int) ^ 62 = 4611686018427387904 := by decide
    rw [e62]
    split <;> (try split) <;> omega
  · rintro i σ H7 hi ⟨o3, o4, o5, o6, o7, o8, rfl, s7, T7⟩
    have hi100 : i < 100 := by
      refine Nat.lt_of_lt_of_le hi ?_
      rw [eL]
      split <;> (try split) <;> omega
    refine ⟨_, rfl, _, rfl, sc, ns, _, rfl, s7.seq hS6, by omega, by omega, fun tp z1 htp => ?_⟩
    have s8 := same_new htp (.lst [.int z1])
    have t8 : Tp (upd H7 tp (.lst [.int z1])) tp := ⟨z1, upd_same⟩
    have T8 := tabs_new T7 s8
    generalize upd H7 tp (.lst [.int z1]) = H8 at s8 t8 T8
    refine ⟨3, rfl, by decide, by decide, for_range (lo := 0) (n := (3 : Int).toNat) (fun j σ H' => ∃ o3 o4 o7 o8, σ = [some (.ref sc), some (.bl (decide (r0 < 4))), some (.ref p), o3, o4, some (.int (7 + (i : Nat))), some (.ref tp), o7, o8] ∧ Sx H7 H' ∧ Tabs TT H' ∧ Tp H' tp) ⟨_, _, _, _, rfl, sx_same s8, T8, t8⟩ ?_ ?_⟩
    · rintro j σ H9 hj ⟨o3', o4', o7', o8', rfl, s9, T9, t9⟩
      have hB9 := (TBkAt.sx s9 (TBkAt.sx s7 hB6))
      refine ⟨_, rfl, _, rfl, tp, p, es, us, rfl, t9, hB9, hl1, hl6, hE, fun r10 H10 fs us10 b10 t10 hB10 hlf hEf => ?_⟩
      have s10 := sx_but htp s9 b10 t10
      have T10 := tabs_but T9 b10 t9
      have hBo := (TBkAt.sx s10 (TBkAt.sx s7 hB6))
      have hl10 : fs.length ≤ 6 := by omega
      refine ⟨_, rfl, r10, fs, us10, rfl, hB10, hl10, hEf, fun r11 H11 us11 s11 hB11 => ?_⟩
      refine ⟨_, rfl, p, es, us, rfl, (bk_tk (tk_same s11) hBo), hl6, hE, fun r12 H12 us12 s12 hB12 => ?_⟩
      have s1012 := s11.trans s12
      refine ⟨_, _, dp_bk ((bk_tk (tk_same s12) hB11)), dp_bk hB12, shaped_bk (an_map hEf), shaped_bk (an_map hE), ?_⟩
      have T12 := tabs_new T10 s1012
      have hB12a := (bk_tk (tk_same s1012) hBo)
      have hB12b := (bk_tk (tk_same s1012) hB10)
      -- told
      refine ⟨_, rfl, _, rfl, p, r10, es, fs, us, us10, rfl, hB12a, hl6, hE, hB12b, hl10, hEf, T12, fun H13 s13 T13 => ?_⟩
      refine ⟨_, rfl, _, rfl, r10, p, fs, es, us10, us, rfl, (TBkAt.sx s13 hB12b), hl10, hEf, (TBkAt.sx s13 hB12a), hl6, hE, T13, fun H14 s14 T14 => ?_⟩
      refine ⟨sz (by show 2 ≤ 100000; decide), fun bl hbl => ?_⟩
      have s15 := same_new hbl (.lst [.bl (alike2 es fs), .bl (alike2 fs es)])
      have g15 : upd H14 bl (.lst [.bl (alike2 es fs), .bl (alike2 fs es)]) bl = some (.lst [.bl (alike2 es fs), .bl (alike2 fs es)]) := upd_same
      have T15 := tabs_new T14 s15
      have s1015 : Sx H10 (upd H14 bl (.lst [.bl (alike2 es fs), .bl (alike2 fs es)])) := (sx_same s1012).trans (s13.trans (s14.trans (sx_same s15)))
      generalize upd H14 bl (.lst [.bl (alike2 es fs), .bl (alike2 fs es)]) = H15 at s15 g15 T15 s1015
      have t15 : Tp H15 tp := by
        obtain ⟨z, hz⟩ := t10
        exact ⟨z, s1015.l hz⟩
      refine ⟨bl, rfl, ⟨_, SqL.of g15⟩, for_list (K := K) (a := bl) (xs := [.bl (alike2 es fs), .bl (alike2 fs es)]) (fun m σ H' => ∃ o8, σ = [some (.ref sc), some (.bl (decide (r0 < 4))), some (.ref p), some (.ref r10), some (.bl (alike2 fs es)), some (.int (7 + (i : Nat))), some (.ref tp), some (.int (0 + (j : Nat))), o8] ∧ H' = H15) ⟨_, rfl, rfl⟩ ?_ ?_ ?_⟩
      · rintro m σ H' _ ⟨o8, rfl, rfl⟩
        exact SqL.of g15
      · rintro m x σ H16 hx ⟨o8, rfl, rfl⟩
        have ex : x = .bl (alike2 fs es) := by
          have hm := List.mem_of_getElem? hx
          rcases List.mem_cons.mp hm with z | z
          · rw [z, alike_comm]
          · exact List.mem_singleton.mp z
        subst ex
        refine ⟨_, rfl, .bl _, .ty "bool", .type "bool", .type "bool", true, rfl, .ty "bool", .base (.bl _), kit_ty (by decide +kernel), _, rfl, ?_⟩
        refine iteF ⟨_, rfl, _, rfl, rfl, _, rfl, itF ?_ ⟨_, rfl, rfl⟩⟩
        rw [decide_eq_true rfl]
        rfl
      · rintro σ H16 ⟨o8, rfl, rfl⟩
        exact ⟨_, _, _, _, rfl, s10.trans s1015, T15, t15⟩
    · rintro σ H9 ⟨o3', o4', o7', o8', rfl, s9, T9, t9⟩
      exact ⟨_, _, _, _, _, _, rfl, s7.trans s9, T9⟩
  · rintro σ H7 _
    exact q _
end
end KB

namespace KB
open PySem L2
theorem all_mk {l : PySem.W.OpenLaw} {w : World} {K : PySem.W.Frag} {h : Heap} {mg : Str → Option Value} {fa : Addr} (X : K.In h) (G : h.Ns mainGlobals mg) (hfa : mg "law" = some (.ref fa))
    {ca pt f1 f2 f3 f4 f5 f6 f7 f8 f9 f10 f11 f12 f13 f14 f15 f16 f17 f18 f19 f20 f21 f22 f23 f24 f25 f26 f27 f28 f29 f30 f31 f32 f33 f34 f35 f36 f37 f38 f39 f40 f41 f42 f43 f44 f45 tuSIMPLE_HEADS : Addr}
    {od1 an1 od2 an2 od3 an3 od4 an4 od5 an5 od6 an6 od7 an7 od8 an8 od9 an9 od10 an10 od11 an11 od12 an12 od13 an13 od14 an14 od15 an15 od16 an16 od17 an17 od18 an18 od19 an19 od20 an20 od21 an21 od22 an22 od23 an23 od24 an24 od25 an25 od26 an26 od27 an27 od28 an28 od29 an29 od30 an30 od31 an31 od32 an32 od33 an33 od34 an34 od35 an35 od36 an36 od37 an37 od38 an38 od39 an39 od40 an40 od41 an41 od42 an42 od43 an43 od44 an44 od45 an45  : Option Addr}
    {sl1 sl2 sl3 sl4 sl5 sl6 sl7 sl8 sl9 sl10 sl11 sl12 sl13 sl14 sl15 sl16 sl17 sl18 sl19 sl20 sl21 sl22 sl23 sl24 sl25 sl26 sl27 sl28 sl29 sl30 sl31 sl32 sl33 sl34 sl35 sl36 sl37 sl38 sl39 sl40 sl41 sl42 sl43 sl44 sl45  : Array (Option Value)}
    {oc1 kV1 dc1 pm1 cd1 ct1 oc2 kV2 dc2 pm2 cd2 ct2 oc3 kV3 dc3 pm3 cd3 ct3 oc4 kV4 dc4 pm4 cd4 ct4 oc5 kV5 dc5 pm5 cd5 ct5 oc6 kV6 dc6 pm6 cd6 ct6 oc7 kV7 dc7 pm7 cd7 ct7 oc8 kV8 dc8 pm8 cd8 ct8 oc9 kV9 dc9 pm9 cd9 ct9 oc10 kV10 dc10 pm10 cd10 ct10 oc11 kV11 dc11 pm11 cd11 ct11 oc12 kV12 dc12 pm12 ct12 oc13 kV13 dc13 pm13 cd13 ct13 oc14 kV14 dc14 pm14 cd14 ct14 oc15 kV15 dc15 pm15 cd15 ct15 oc16 kV16 dc16 pm16 cd16 ct16 oc17 kV17 dc17 pm17 cd17 ct17 oc18 kV18 dc18 pm18 cd18 ct18 oc19 kV19 dc19 pm19 cd19 ct19 oc20 kV20 dc20 pm20 cd20 ct20 oc21 kV21 dc21 pm21 cd21 ct21 oc22 kV22 dc22 pm22 cd22 ct22 oc23 kV23 dc23 pm23 cd23 ct23 oc24 kV24 dc24 pm24 cd24 ct24 oc25 kV25 dc25 pm25 cd25 ct25 oc26 kV26 dc26 pm26 cd26 ct26 oc27 kV27 dc27 pm27 cd27 ct27 oc28 kV28 dc28 pm28 cd28 ct28 oc29 kV29 dc29 pm29 cd29 ct29 oc30 kV30 dc30 pm30 cd30 ct30 oc31 kV31 dc31 pm31 cd31 ct31 oc32 kV32 dc32 pm32 cd32 ct32 oc33 kV33 dc33 pm33 cd33 ct33 oc34 kV34 dc34 pm34 cd34 ct34 oc35 kV35 dc35 pm35 cd35 ct35 oc36 kV36 dc36 pm36 cd36 ct36 oc37 kV37 dc37 pm37 cd37 ct37 oc38 kV38 dc38 pm38 cd38 ct38 oc39 kV39 dc39 pm39 cd39 ct39 oc40 kV40 dc40 pm40 cd40 ct40 oc41 kV41 dc41 pm41 cd41 ct41 oc42 kV42 dc42 pm42 cd42 ct42 oc43 kV43 dc43 pm43 cd43 ct43 oc44 kV44 dc44 pm44 cd44 ct44 oc45 kV45 dc45 pm45 cd45 ct45  : Value}
    (a1 : PySem.W.nsIn K mainGlobals "met" = some (some (.ref f1)))
    (l1 : K.lookup f1 = some ⟨oc1, od1, .func (PySem.W.fnOf "met" "met" (defArgs smet) (defBody smet) (defScope smet) .none kV1 dc1 pm1 an1 cd1 ct1), sl1⟩)
    (c1 : PySem.W.codeIn K cd1 "met" = true)
    (k1 : PySem.W.keepIn K (.ref f1) = true)
    (a2 : PySem.W.nsIn K mainGlobals "remade" = some (some (.ref f2)))
    (l2 : K.lookup f2 = some ⟨oc2, od2, .func (PySem.W.fnOf "remade" "remade" (defArgs sremade) (defBody sremade) (defScope sremade) .none kV2 dc2 pm2 an2 cd2 ct2), sl2⟩)
    (c2 : PySem.W.codeIn K cd2 "remade" = true)
    (k2 : PySem.W.keepIn K (.ref f2) = true)
    (a3 : PySem.W.nsIn K mainGlobals "last_taken" = some (some (.ref f3)))
    (l3 : K.lookup f3 = some ⟨oc3, od3, .func (PySem.W.fnOf "last_taken" "last_taken" (defArgs slast_taken) (defBody slast_taken) (defScope slast_taken) .none kV3 dc3 pm3 an3 cd3 ct3), sl3⟩)
    (c3 : PySem.W.codeIn K cd3 "last_taken" = true)
    (k3 : PySem.W.keepIn K (.ref f3) = true)
    (a4 : PySem.W.nsIn K mainGlobals "parts_of" = some (some (.ref f4)))
    (l4 : K.lookup f4 = some ⟨oc4, od4, .func (PySem.W.fnOf "parts_of" "parts_of" (defArgs sparts_of) (defBody sparts_of) (defScope sparts_of) .none kV4 dc4 pm4 an4 cd4 ct4), sl4⟩)
    (c4 : PySem.W.codeIn K cd4 "parts_of" = true)
    (k4 : PySem.W.keepIn K (.ref f4) = true)
    (a5 : PySem.W.nsIn K mainGlobals "terms_in" = some (some (.ref f5)))
    (l5 : K.lookup f5 = some ⟨oc5, od5, .func (PySem.W.fnOf "terms_in" "terms_in" (defArgs sterms_in) (defBody sterms_in) (defScope sterms_in) .none kV5 dc5 pm5 an5 cd5 ct5), sl5⟩)
    (c5 : PySem.W.codeIn K cd5 "terms_in" = true)
    (k5 : PySem.W.keepIn K (.ref f5) = true)
    (a6 : PySem.W.nsIn K mainGlobals "rest_of" = some (some (.ref f6)))
    (l6 : K.lookup f6 = some ⟨oc6, od6, .func (PySem.W.fnOf "rest_of" "rest_of" (defArgs srest_of) (defBody srest_of) (defScope srest_of) .none kV6 dc6 pm6 an6 cd6 ct6), sl6⟩)
    (c6 : PySem.W.codeIn K cd6 "rest_of" = true)
    (k6 : PySem.W.keepIn K (.ref f6) = true)
    (a7 : PySem.W.nsIn K mainGlobals "turned_parts" = some (some (.ref f7)))
    (l7 : K.lookup f7 = some ⟨oc7, od7, .func (PySem.W.fnOf "turned_parts" "turned_parts" (defArgs sturned_parts) (defBody sturned_parts) (defScope sturned_parts) .none kV7 dc7 pm7 an7 cd7 ct7), sl7⟩)
    (c7 : PySem.W.codeIn K cd7 "turned_parts" = true)
    (k7 : PySem.W.keepIn K (.ref f7) = true)
    (a8 : PySem.W.nsIn K mainGlobals "words_met" = some (some (.ref f8)))
    (l8 : K.lookup f8 = some ⟨oc8, od8, .func (PySem.W.fnOf "words_met" "words_met" (defArgs swords_met) (defBody swords_met) (defScope swords_met) .none kV8 dc8 pm8 an8 cd8 ct8), sl8⟩)
    (c8 : PySem.W.codeIn K cd8 "words_met" = true)
    (k8 : PySem.W.keepIn K (.ref f8) = true)
    (a9 : PySem.W.nsIn K mainGlobals "posts_met" = some (some (.ref f9)))
    (l9 : K.lookup f9 = some ⟨oc9, od9, .func (PySem.W.fnOf "posts_met" "posts_met" (defArgs sposts_met) (defBody sposts_met) (defScope sposts_met) .none kV9 dc9 pm9 an9 cd9 ct9), sl9⟩)
    (c9 : PySem.W.codeIn K cd9 "posts_met" = true)
    (k9 : PySem.W.keepIn K (.ref f9) = true)
    (a10 : PySem.W.nsIn K mainGlobals "word_of" = some (some (.ref f10)))
    (l10 : K.lookup f10 = some ⟨oc10, od10, .func (PySem.W.fnOf "word_of" "word_of" (defArgs sword_of) (defBody sword_of) (defScope sword_of) .none kV10 dc10 pm10 an10 cd10 ct10), sl10⟩)
    (c10 : PySem.W.codeIn K cd10 "word_of" = true)
    (k10 : PySem.W.keepIn K (.ref f10) = true)
    (a11 : PySem.W.nsIn K mainGlobals "anew" = some (some (.ref f11)))
    (l11 : K.lookup f11 = some ⟨oc11, od11, .func (PySem.W.fnOf "anew" "anew" (defArgs sanew) (defBody sanew) (defScope sanew) .none kV11 dc11 pm11 an11 cd11 ct11), sl11⟩)
    (c11 : PySem.W.codeIn K cd11 "anew" = true)
    (k11 : PySem.W.keepIn K (.ref f11) = true)
    (a12 : PySem.W.nsIn K mainGlobals "errand_anew" = some (some (.ref f12)))
    (l12 : K.lookup f12 = some ⟨oc12, od12, .func (PySem.W.fnOf "errand_anew" "errand_anew" (defArgs serrand_anew) (defBody serrand_anew) (defScope serrand_anew) .none kV12 dc12 pm12 an12 (.ref ca) ct12), sl12⟩)
    (c12 : PySem.W.codeIn K (.ref ca) "errand_anew" = true)
    (k12 : PySem.W.keepIn K (.ref f12) = true)
    (a13 : PySem.W.nsIn K mainGlobals "numbered" = some (some (.ref f13)))
    (l13 : K.lookup f13 = some ⟨oc13, od13, .func (PySem.W.fnOf "numbered" "numbered" (defArgs snumbered) (defBody snumbered) (defScope snumbered) .none kV13 dc13 pm13 an13 cd13 ct13), sl13⟩)
    (c13 : PySem.W.codeIn K cd13 "numbered" = true)
    (k13 : PySem.W.keepIn K (.ref f13) = true)
    (a14 : PySem.W.nsIn K mainGlobals "renamed_part" = some (some (.ref f14)))
    (l14 : K.lookup f14 = some ⟨oc14, od14, .func (PySem.W.fnOf "renamed_part" "renamed_part" (defArgs srenamed_part) (defBody srenamed_part) (defScope srenamed_part) .none kV14 dc14 pm14 an14 cd14 ct14), sl14⟩)
    (c14 : PySem.W.codeIn K cd14 "renamed_part" = true)
    (k14 : PySem.W.keepIn K (.ref f14) = true)
    (a15 : PySem.W.nsIn K mainGlobals "renamed_term" = some (some (.ref f15)))
    (l15 : K.lookup f15 = some ⟨oc15, od15, .func (PySem.W.fnOf "renamed_term" "renamed_term" (defArgs srenamed_term) (defBody srenamed_term) (defScope srenamed_term) .none kV15 dc15 pm15 an15 cd15 ct15), sl15⟩)
    (c15 : PySem.W.codeIn K cd15 "renamed_term" = true)
    (k15 : PySem.W.keepIn K (.ref f15) = true)
    (a16 : PySem.W.nsIn K mainGlobals "are_alike" = some (some (.ref f16)))
    (l16 : K.lookup f16 = some ⟨oc16, od16, .func (PySem.W.fnOf "are_alike" "are_alike" (defArgs sare_alike) (defBody sare_alike) (defScope sare_alike) .none kV16 dc16 pm16 an16 cd16 ct16), sl16⟩)
    (c16 : PySem.W.codeIn K cd16 "are_alike" = true)
    (k16 : PySem.W.keepIn K (.ref f16) = true)
    (a17 : PySem.W.nsIn K mainGlobals "_law_cell_at" = some (some (.ref f17)))
    (l17 : K.lookup f17 = some ⟨oc17, od17, .func (PySem.W.fnOf "_law_cell_at" "_law_cell_at" (defArgs s_law_cell_at) (defBody s_law_cell_at) (defScope s_law_cell_at) .none kV17 dc17 pm17 an17 cd17 ct17), sl17⟩)
    (c17 : PySem.W.codeIn K cd17 "_law_cell_at" = true)
    (k17 : PySem.W.keepIn K (.ref f17) = true)
    (a18 : PySem.W.nsIn K mainGlobals "_law_tape" = some (some (.ref f18)))
    (l18 : K.lookup f18 = some ⟨oc18, od18, .func (PySem.W.fnOf "_law_tape" "_law_tape" (defArgs s_law_tape) (defBody s_law_tape) (defScope s_law_tape) .none kV18 dc18 pm18 an18 cd18 ct18), sl18⟩)
    (c18 : PySem.W.codeIn K cd18 "_law_tape" = true)
    (k18 : PySem.W.keepIn K (.ref f18) = true)
    (a19 : PySem.W.nsIn K mainGlobals "_law_digit" = some (some (.ref f19)))
    (l19 : K.lookup f19 = some ⟨oc19, od19, .func (PySem.W.fnOf "_law_digit" "_law_digit" (defArgs s_law_digit) (defBody s_law_digit) (defScope s_law_digit) .none kV19 dc19 pm19 an19 cd19 ct19), sl19⟩)
    (c19 : PySem.W.codeIn K cd19 "_law_digit" = true)
    (k19 : PySem.W.keepIn K (.ref f19) = true)
    (a20 : PySem.W.nsIn K mainGlobals "_law_words" = some (some (.ref f20)))
    (l20 : K.lookup f20 = some ⟨oc20, od20, .func (PySem.W.fnOf "_law_words" "_law_words" (defArgs s_law_words) (defBody s_law_words) (defScope s_law_words) .none kV20 dc20 pm20 an20 cd20 ct20), sl20⟩)
    (c20 : PySem.W.codeIn K cd20 "_law_words" = true)
    (k20 : PySem.W.keepIn K (.ref f20) = true)
    (a21 : PySem.W.nsIn K mainGlobals "_law_number" = some (some (.ref f21)))
    (l21 : K.lookup f21 = some ⟨oc21, od21, .func (PySem.W.fnOf "_law_number" "_law_number" (defArgs s_law_number) (defBody s_law_number) (defScope s_law_number) .none kV21 dc21 pm21 an21 cd21 ct21), sl21⟩)
    (c21 : PySem.W.codeIn K cd21 "_law_number" = true)
    (k21 : PySem.W.keepIn K (.ref f21) = true)
    (a22 : PySem.W.nsIn K mainGlobals "_law_leaf" = some (some (.ref f22)))
    (l22 : K.lookup f22 = some ⟨oc22, od22, .func (PySem.W.fnOf "_law_leaf" "_law_leaf" (defArgs s_law_leaf) (defBody s_law_leaf) (defScope s_law_leaf) .none kV22 dc22 pm22 an22 cd22 ct22), sl22⟩)
    (c22 : PySem.W.codeIn K cd22 "_law_leaf" = true)
    (k22 : PySem.W.keepIn K (.ref f22) = true)
    (a23 : PySem.W.nsIn K mainGlobals "_law_shares" = some (some (.ref f23)))
    (l23 : K.lookup f23 = some ⟨oc23, od23, .func (PySem.W.fnOf "_law_shares" "_law_shares" (defArgs s_law_shares) (defBody s_law_shares) (defScope s_law_shares) .none kV23 dc23 pm23 an23 cd23 ct23), sl23⟩)
    (c23 : PySem.W.codeIn K cd23 "_law_shares" = true)
    (k23 : PySem.W.keepIn K (.ref f23) = true)
    (a24 : PySem.W.nsIn K mainGlobals "_law_less_one" = some (some (.ref f24)))
    (l24 : K.lookup f24 = some ⟨oc24, od24, .func (PySem.W.fnOf "_law_less_one" "_law_less_one" (defArgs s_law_less_one) (defBody s_law_less_one) (defScope s_law_less_one) .none kV24 dc24 pm24 an24 cd24 ct24), sl24⟩)
    (c24 : PySem.W.codeIn K cd24 "_law_less_one" = true)
    (k24 : PySem.W.keepIn K (.ref f24) = true)
    (a25 : PySem.W.nsIn K mainGlobals "_law_parts" = some (some (.ref f25)))
    (l25 : K.lookup f25 = some ⟨oc25, od25, .func (PySem.W.fnOf "_law_parts" "_law_parts" (defArgs s_law_parts) (defBody s_law_parts) (defScope s_law_parts) .none kV25 dc25 pm25 an25 cd25 ct25), sl25⟩)
    (c25 : PySem.W.codeIn K cd25 "_law_parts" = true)
    (k25 : PySem.W.keepIn K (.ref f25) = true)
    (a26 : PySem.W.nsIn K mainGlobals "_law_simple" = some (some (.ref f26)))
    (l26 : K.lookup f26 = some ⟨oc26, od26, .func (PySem.W.fnOf "_law_simple" "_law_simple" (defArgs s_law_simple) (defBody s_law_simple) (defScope s_law_simple) .none kV26 dc26 pm26 an26 cd26 ct26), sl26⟩)
    (c26 : PySem.W.codeIn K cd26 "_law_simple" = true)
    (k26 : PySem.W.keepIn K (.ref f26) = true)
    (a27 : PySem.W.nsIn K mainGlobals "_law_some_hand" = some (some (.ref f27)))
    (l27 : K.lookup f27 = some ⟨oc27, od27, .func (PySem.W.fnOf "_law_some_hand" "_law_some_hand" (defArgs s_law_some_hand) (defBody s_law_some_hand) (defScope s_law_some_hand) .none kV27 dc27 pm27 an27 cd27 ct27), sl27⟩)
    (c27 : PySem.W.codeIn K cd27 "_law_some_hand" = true)
    (k27 : PySem.W.keepIn K (.ref f27) = true)
    (a28 : PySem.W.nsIn K mainGlobals "_law_end" = some (some (.ref f28)))
    (l28 : K.lookup f28 = some ⟨oc28, od28, .func (PySem.W.fnOf "_law_end" "_law_end" (defArgs s_law_end) (defBody s_law_end) (defScope s_law_end) .none kV28 dc28 pm28 an28 cd28 ct28), sl28⟩)
    (c28 : PySem.W.codeIn K cd28 "_law_end" = true)
    (k28 : PySem.W.keepIn K (.ref f28) = true)
    (a29 : PySem.W.nsIn K mainGlobals "_law_part" = some (some (.ref f29)))
    (l29 : K.lookup f29 = some ⟨oc29, od29, .func (PySem.W.fnOf "_law_part" "_law_part" (defArgs s_law_part) (defBody s_law_part) (defScope s_law_part) .none kV29 dc29 pm29 an29 cd29 ct29), sl29⟩)
    (c29 : PySem.W.codeIn K cd29 "_law_part" = true)
    (k29 : PySem.W.keepIn K (.ref f29) = true)
    (a30 : PySem.W.nsIn K mainGlobals "_law_turned_body" = some (some (.ref f30)))
    (l30 : K.lookup f30 = some ⟨oc30, od30, .func (PySem.W.fnOf "_law_turned_body" "_law_turned_body" (defArgs s_law_turned_body) (defBody s_law_turned_body) (defScope s_law_turned_body) .none kV30 dc30 pm30 an30 cd30 ct30), sl30⟩)
    (c30 : PySem.W.codeIn K cd30 "_law_turned_body" = true)
    (k30 : PySem.W.keepIn K (.ref f30) = true)
    (a31 : PySem.W.nsIn K mainGlobals "_law_turned_book" = some (some (.ref f31)))
    (l31 : K.lookup f31 = some ⟨oc31, od31, .func (PySem.W.fnOf "_law_turned_book" "_law_turned_book" (defArgs s_law_turned_book) (defBody s_law_turned_book) (defScope s_law_turned_book) .none kV31 dc31 pm31 an31 cd31 ct31), sl31⟩)
    (c31 : PySem.W.codeIn K cd31 "_law_turned_book" = true)
    (k31 : PySem.W.keepIn K (.ref f31) = true)
    (a32 : PySem.W.nsIn K mainGlobals "_law_inner" = some (some (.ref f32)))
    (l32 : K.lookup f32 = some ⟨oc32, od32, .func (PySem.W.fnOf "_law_inner" "_law_inner" (defArgs s_law_inner) (defBody s_law_inner) (defScope s_law_inner) .none kV32 dc32 pm32 an32 cd32 ct32), sl32⟩)
    (c32 : PySem.W.codeIn K cd32 "_law_inner" = true)
    (k32 : PySem.W.keepIn K (.ref f32) = true)
    (a33 : PySem.W.nsIn K mainGlobals "_law_simples" = some (some (.ref f33)))
    (l33 : K.lookup f33 = some ⟨oc33, od33, .func (PySem.W.fnOf "_law_simples" "_law_simples" (defArgs s_law_simples) (defBody s_law_simples) (defScope s_law_simples) .none kV33 dc33 pm33 an33 cd33 ct33), sl33⟩)
    (c33 : PySem.W.codeIn K cd33 "_law_simples" = true)
    (k33 : PySem.W.keepIn K (.ref f33) = true)
    (a34 : PySem.W.nsIn K mainGlobals "_law_tplaces" = some (some (.ref f34)))
    (l34 : K.lookup f34 = some ⟨oc34, od34, .func (PySem.W.fnOf "_law_tplaces" "_law_tplaces" (defArgs s_law_tplaces) (defBody s_law_tplaces) (defScope s_law_tplaces) .none kV34 dc34 pm34 an34 cd34 ct34), sl34⟩)
    (c34 : PySem.W.codeIn K cd34 "_law_tplaces" = true)
    (k34 : PySem.W.keepIn K (.ref f34) = true)
    (a35 : PySem.W.nsIn K mainGlobals "_law_tput" = some (some (.ref f35)))
    (l35 : K.lookup f35 = some ⟨oc35, od35, .func (PySem.W.fnOf "_law_tput" "_law_tput" (defArgs s_law_tput) (defBody s_law_tput) (defScope s_law_tput) .none kV35 dc35 pm35 an35 cd35 ct35), sl35⟩)
    (c35 : PySem.W.codeIn K cd35 "_law_tput" = true)
    (k35 : PySem.W.keepIn K (.ref f35) = true)
    (a36 : PySem.W.nsIn K mainGlobals "_law_twords" = some (some (.ref f36)))
    (l36 : K.lookup f36 = some ⟨oc36, od36, .func (PySem.W.fnOf "_law_twords" "_law_twords" (defArgs s_law_twords) (defBody s_law_twords) (defScope s_law_twords) .none kV36 dc36 pm36 an36 cd36 ct36), sl36⟩)
    (c36 : PySem.W.codeIn K cd36 "_law_twords" = true)
    (k36 : PySem.W.keepIn K (.ref f36) = true)
    (a37 : PySem.W.nsIn K mainGlobals "_law_tposts" = some (some (.ref f37)))
    (l37 : K.lookup f37 = some ⟨oc37, od37, .func (PySem.W.fnOf "_law_tposts" "_law_tposts" (defArgs s_law_tposts) (defBody s_law_tposts) (defScope s_law_tposts) .none kV37 dc37 pm37 an37 cd37 ct37), sl37⟩)
    (c37 : PySem.W.codeIn K cd37 "_law_tposts" = true)
    (k37 : PySem.W.keepIn K (.ref f37) = true)
    (a38 : PySem.W.nsIn K mainGlobals "_law_called" = some (some (.ref f38)))
    (l38 : K.lookup f38 = some ⟨oc38, od38, .func (PySem.W.fnOf "_law_called" "_law_called" (defArgs s_law_called) (defBody s_law_called) (defScope s_law_called) .none kV38 dc38 pm38 an38 cd38 ct38), sl38⟩)
    (c38 : PySem.W.codeIn K cd38 "_law_called" = true)
    (k38 : PySem.W.keepIn K (.ref f38) = true)
    (a39 : PySem.W.nsIn K mainGlobals "_law_tcalled" = some (some (.ref f39)))
    (l39 : K.lookup f39 = some ⟨oc39, od39, .func (PySem.W.fnOf "_law_tcalled" "_law_tcalled" (defArgs s_law_tcalled) (defBody s_law_tcalled) (defScope s_law_tcalled) .none kV39 dc39 pm39 an39 cd39 ct39), sl39⟩)
    (c39 : PySem.W.codeIn K cd39 "_law_tcalled" = true)
    (k39 : PySem.W.keepIn K (.ref f39) = true)
    (a40 : PySem.W.nsIn K mainGlobals "_law_by_numbers" = some (some (.ref f40)))
    (l40 : K.lookup f40 = some ⟨oc40, od40, .func (PySem.W.fnOf "_law_by_numbers" "_law_by_numbers" (defArgs s_law_by_numbers) (defBody s_law_by_numbers) (defScope s_law_by_numbers) .none kV40 dc40 pm40 an40 cd40 ct40), sl40⟩)
    (c40 : PySem.W.codeIn K cd40 "_law_by_numbers" = true)
    (k40 : PySem.W.keepIn K (.ref f40) = true)
    (a41 : PySem.W.nsIn K mainGlobals "_law_anew" = some (some (.ref f41)))
    (l41 : K.lookup f41 = some ⟨oc41, od41, .func (PySem.W.fnOf "_law_anew" "_law_anew" (defArgs s_law_anew) (defBody s_law_anew) (defScope s_law_anew) .none kV41 dc41 pm41 an41 cd41 ct41), sl41⟩)
    (c41 : PySem.W.codeIn K cd41 "_law_anew" = true)
    (k41 : PySem.W.keepIn K (.ref f41) = true)
    (a42 : PySem.W.nsIn K mainGlobals "_law_other_simple" = some (some (.ref f42)))
    (l42 : K.lookup f42 = some ⟨oc42, od42, .func (PySem.W.fnOf "_law_other_simple" "_law_other_simple" (defArgs s_law_other_simple) (defBody s_law_other_simple) (defScope s_law_other_simple) .none kV42 dc42 pm42 an42 cd42 ct42), sl42⟩)
    (c42 : PySem.W.codeIn K cd42 "_law_other_simple" = true)
    (k42 : PySem.W.keepIn K (.ref f42) = true)
    (a43 : PySem.W.nsIn K mainGlobals "_law_one_sign" = some (some (.ref f43)))
    (l43 : K.lookup f43 = some ⟨oc43, od43, .func (PySem.W.fnOf "_law_one_sign" "_law_one_sign" (defArgs s_law_one_sign) (defBody s_law_one_sign) (defScope s_law_one_sign) .none kV43 dc43 pm43 an43 cd43 ct43), sl43⟩)
    (c43 : PySem.W.codeIn K cd43 "_law_one_sign" = true)
    (k43 : PySem.W.keepIn K (.ref f43) = true)
    (a44 : PySem.W.nsIn K mainGlobals "_law_many_words" = some (some (.ref f44)))
    (l44 : K.lookup f44 = some ⟨oc44, od44, .func (PySem.W.fnOf "_law_many_words" "_law_many_words" (defArgs s_law_many_words) (defBody s_law_many_words) (defScope s_law_many_words) .none kV44 dc44 pm44 an44 cd44 ct44), sl44⟩)
    (c44 : PySem.W.codeIn K cd44 "_law_many_words" = true)
    (k44 : PySem.W.keepIn K (.ref f44) = true)
    (a45 : PySem.W.nsIn K mainGlobals "law" = some (some (.ref f45)))
    (l45 : K.lookup f45 = some ⟨oc45, od45, .func (PySem.W.fnOf "law" "law" (defArgs slaw) (defBody slaw) (defScope slaw) .none kV45 dc45 pm45 an45 cd45 ct45), sl45⟩)
    (c45 : PySem.W.codeIn K cd45 "law" = true)
    (k45 : PySem.W.keepIn K (.ref f45) = true)
    (z_len : PySem.W.nsIn K mainGlobals "len" = some none)
    (z_isinstance : PySem.W.nsIn K mainGlobals "isinstance" = some none)
    (z_int : PySem.W.nsIn K mainGlobals "int" = some none)
    (z_tuple : PySem.W.nsIn K mainGlobals "tuple" = some none)
    (z_list : PySem.W.nsIn K mainGlobals "list" = some none)
    (z_str : PySem.W.nsIn K mainGlobals "str" = some none)
    (z_bool : PySem.W.nsIn K mainGlobals "bool" = some none)
    (z_max : PySem.W.nsIn K mainGlobals "max" = some none)
    (z_all : PySem.W.nsIn K mainGlobals "all" = some none)
    (z_dict : PySem.W.nsIn K mainGlobals "dict" = some none)
    (z_range : PySem.W.nsIn K mainGlobals "range" = some none)
    (z_enumerate : PySem.W.nsIn K mainGlobals "enumerate" = some none)
    (z_reversed : PySem.W.nsIn K mainGlobals "reversed" = some none)
    (z_min : PySem.W.nsIn K mainGlobals "min" = some none)
    {tSIGNS : Tok}
    (qSIGNS : PySem.W.nsIn K mainGlobals "SIGNS" = some (some (.str lettersS tSIGNS)))
    {tBEHIND : Tok}
    (qBEHIND : PySem.W.nsIn K mainGlobals "BEHIND" = some (some (.str "q" tBEHIND)))
    {tHOME : Tok}
    (qHOME : PySem.W.nsIn K mainGlobals "HOME" = some (some (.str "home" tHOME)))
    (taSIMPLE_HEADS : PySem.W.nsIn K mainGlobals "SIMPLE_HEADS" = some (some (.ref tuSIMPLE_HEADS)))
    {tdSIMPLE_HEADS : Option Addr} {tnSIMPLE_HEADS : Nat} {tsSIMPLE_HEADS : Array (Option Value)} {tvSIMPLE_HEADS : Array Value}
    (tlSIMPLE_HEADS : K.lookup tuSIMPLE_HEADS = some ⟨.type "tuple", tdSIMPLE_HEADS, .seq tvSIMPLE_HEADS tnSIMPLE_HEADS, tsSIMPLE_HEADS⟩)
    (twSIMPLE_HEADS : Vals heads tvSIMPLE_HEADS.toList)
    (nTab : K.lookup pt = none)
    (hCode : PySem.W.codeHdIn K ca pt = true)
    : (∀ p ∈ [(ca, pt)], K.lookup p.2 = none) ∧ (∀ p ∈ [(ca, pt)], PySem.W.CodeHd h p.1 p.2) ∧ ∃ fd : FuncData, (∀ (s : Shared) (v : Value), BindsTo s fd ⟨[v], []⟩ [("script", v)]) ∧ ∀ base : Heap, K.In base → base.Ns mainGlobals mg → LamX.TabB base mg ca pt → FnOk l.prog w K mg base CX0 55 fa fd ["script"] (spLawT K [(pt, ("errand_anew.<locals>.<lambda>" : Str))]) := by
  have e := hfa.symm.trans (PySem.W.mg_of X G a45)
  cases e
  have T : Txt K mg := ⟨PySem.W.mg_none_of X G z_len, PySem.W.mg_none_of X G z_isinstance, PySem.W.mg_none_of X G z_int, PySem.W.mg_none_of X G z_tuple, PySem.W.mg_none_of X G z_list, PySem.W.mg_none_of X G z_str, PySem.W.mg_none_of X G z_bool, PySem.W.mg_none_of X G z_max, PySem.W.mg_none_of X G z_all, PySem.W.mg_none_of X G z_dict, PySem.W.mg_none_of X G z_range, PySem.W.mg_none_of X G z_enumerate, PySem.W.mg_none_of X G z_reversed⟩
  have hSIMPLE_HEADS : ∃ a, mg "SIMPLE_HEADS" = some (.ref a) ∧ ∀ H, SqT K H a heads := ⟨tuSIMPLE_HEADS, PySem.W.mg_of X G taSIMPLE_HEADS, fun H => .inr ⟨_, tvSIMPLE_HEADS, tnSIMPLE_HEADS, tlSIMPLE_HEADS, rfl, rfl, by
    have e9 := twSIMPLE_HEADS.length
    have e10 : heads.length = 4 := rfl
    rw [e10] at e9
    have e8 : tvSIMPLE_HEADS.size = 4 := by
      rw [← Array.length_toList]
      exact e9.symm
    rw [e8]
    decide, twSIMPLE_HEADS⟩⟩
  have SX : TxS K mg := ⟨⟨_, PySem.W.mg_of X G qSIGNS⟩, ⟨_, PySem.W.mg_of X G qBEHIND⟩, ⟨_, PySem.W.mg_of X G qHOME⟩⟩
  have F1 := fun_mk (st := smet) l1 c1 k1
  have R1 : Ref K mg "met" f1 _ ["body", "parts"] := ⟨PySem.W.mg_of X G a1, k1, F1.binds (ps := ["body", "parts"]) fun _ _ _ _ _ _ us hl => match us, hl with | [_, _], _ => rfl⟩
  have F2 := fun_mk (st := sremade) l2 c2 k2
  have R2 : Ref K mg "remade" f2 _ ["body", "parts", "made"] := ⟨PySem.W.mg_of X G a2, k2, F2.binds (ps := ["body", "parts", "made"]) fun _ _ _ _ _ _ us hl => match us, hl with | [_, _, _], _ => rfl⟩
  have F3 := fun_mk (st := slast_taken) l3 c3 k3
  have R3 : Ref K mg "last_taken" f3 _ ["got", "many"] := ⟨PySem.W.mg_of X G a3, k3, F3.binds (ps := ["got", "many"]) fun _ _ _ _ _ _ us hl => match us, hl with | [_, _], _ => rfl⟩
  have F4 := fun_mk (st := sparts_of) l4 c4 k4
  have R4 : Ref K mg "parts_of" f4 _ ["term"] := ⟨PySem.W.mg_of X G a4, k4, F4.binds (ps := ["term"]) fun _ _ _ _ _ _ us hl => match us, hl with | [_], _ => rfl⟩
  have F5 := fun_mk (st := sterms_in) l5 c5 k5
  have R5 : Ref K mg "terms_in" f5 _ ["part"] := ⟨PySem.W.mg_of X G a5, k5, F5.binds (ps := ["part"]) fun _ _ _ _ _ _ us hl => match us, hl with | [_], _ => rfl⟩
  have F6 := fun_mk (st := srest_of) l6 c6 k6
  have R6 : Ref K mg "rest_of" f6 _ ["part"] := ⟨PySem.W.mg_of X G a6, k6, F6.binds (ps := ["part"]) fun _ _ _ _ _ _ us hl => match us, hl with | [_], _ => rfl⟩
  have F7 := fun_mk (st := sturned_parts) l7 c7 k7
  have R7 : Ref K mg "turned_parts" f7 _ ["part"] := ⟨PySem.W.mg_of X G a7, k7, F7.binds (ps := ["part"]) fun _ _ _ _ _ _ us hl => match us, hl with | [_], _ => rfl⟩
  have F8 := fun_mk (st := swords_met) l8 c8 k8
  have R8 : Ref K mg "words_met" f8 _ ["names", "body"] := ⟨PySem.W.mg_of X G a8, k8, F8.binds (ps := ["names", "body"]) fun _ _ _ _ _ _ us hl => match us, hl with | [_, _], _ => rfl⟩
  have F9 := fun_mk (st := sposts_met) l9 c9 k9
  have R9 : Ref K mg "posts_met" f9 _ ["body"] := ⟨PySem.W.mg_of X G a9, k9, F9.binds (ps := ["body"]) fun _ _ _ _ _ _ us hl => match us, hl with | [_], _ => rfl⟩
  have F10 := fun_mk (st := sword_of) l10 c10 k10
  have R10 : Ref K mg "word_of" f10 _ ["k"] := ⟨PySem.W.mg_of X G a10, k10, F10.binds (ps := ["k"]) fun _ _ _ _ _ _ us hl => match us, hl with | [_], _ => rfl⟩
  have F11 := fun_mk (st := sanew) l11 c11 k11
  have R11 : Ref K mg "anew" f11 _ ["turned"] := ⟨PySem.W.mg_of X G a11, k11, F11.binds (ps := ["turned"]) fun _ _ _ _ _ _ us hl => match us, hl with | [_], _ => rfl⟩
  have F12 := fun_mk (st := serrand_anew) l12 c12 k12
  have R12 : Ref K mg "errand_anew" f12 _ ["name", "names", "body"] := ⟨PySem.W.mg_of X G a12, k12, F12.binds (ps := ["name", "names", "body"]) fun _ _ _ _ _ _ us hl => match us, hl with | [_, _, _], _ => rfl⟩
  have F13 := fun_mk (st := snumbered) l13 c13 k13
  have R13 : Ref K mg "numbered" f13 _ ["words"] := ⟨PySem.W.mg_of X G a13, k13, F13.binds (ps := ["words"]) fun _ _ _ _ _ _ us hl => match us, hl with | [_], _ => rfl⟩
  have F14 := fun_mk (st := srenamed_part) l14 c14 k14
  have R14 : Ref K mg "renamed_part" f14 _ ["part", "own", "words", "hands"] := ⟨PySem.W.mg_of X G a14, k14, F14.binds (ps := ["part", "own", "words", "hands"]) fun _ _ _ _ _ _ us hl => match us, hl with | [_, _, _, _], _ => rfl⟩
  have F15 := fun_mk (st := srenamed_term) l15 c15 k15
  have R15 : Ref K mg "renamed_term" f15 _ ["term", "own", "words"] := ⟨PySem.W.mg_of X G a15, k15, F15.binds (ps := ["term", "own", "words"]) fun _ _ _ _ _ _ us hl => match us, hl with | [_, _, _], _ => rfl⟩
  have F16 := fun_mk (st := sare_alike) l16 c16 k16
  have R16 : Ref K mg "are_alike" f16 _ ["turned", "other"] := ⟨PySem.W.mg_of X G a16, k16, F16.binds (ps := ["turned", "other"]) fun _ _ _ _ _ _ us hl => match us, hl with | [_, _], _ => rfl⟩
  have F17 := fun_mk (st := s_law_cell_at) l17 c17 k17
  have R17 : Ref K mg "_law_cell_at" f17 _ ["script", "k"] := ⟨PySem.W.mg_of X G a17, k17, F17.binds (ps := ["script", "k"]) fun _ _ _ _ _ _ us hl => match us, hl with | [_, _], _ => rfl⟩
  have F18 := fun_mk (st := s_law_tape) l18 c18 k18
  have R18 : Ref K mg "_law_tape" f18 _ ["script", "k"] := ⟨PySem.W.mg_of X G a18, k18, F18.binds (ps := ["script", "k"]) fun _ _ _ _ _ _ us hl => match us, hl with | [_, _], _ => rfl⟩
  have F19 := fun_mk (st := s_law_digit) l19 c19 k19
  have R19 : Ref K mg "_law_digit" f19 _ ["tape", "many"] := ⟨PySem.W.mg_of X G a19, k19, F19.binds (ps := ["tape", "many"]) fun _ _ _ _ _ _ us hl => match us, hl with | [_, _], _ => rfl⟩
  have F20 := fun_mk (st := s_law_words) l20 c20 k20
  have R20 : Ref K mg "_law_words" f20 _ ["tape", "many"] := ⟨PySem.W.mg_of X G a20, k20, F20.binds (ps := ["tape", "many"]) fun _ _ _ _ _ _ us hl => match us, hl with | [_, _], _ => rfl⟩
  have F21 := fun_mk (st := s_law_number) l21 c21 k21
  have R21 : Ref K mg "_law_number" f21 _ ["tape"] := ⟨PySem.W.mg_of X G a21, k21, F21.binds (ps := ["tape"]) fun _ _ _ _ _ _ us hl => match us, hl with | [_], _ => rfl⟩
  have F22 := fun_mk (st := s_law_leaf) l22 c22 k22
  have R22 : Ref K mg "_law_leaf" f22 _ ["tape", "known", "around"] := ⟨PySem.W.mg_of X G a22, k22, F22.binds (ps := ["tape", "known", "around"]) fun _ _ _ _ _ _ us hl => match us, hl with | [_, _, _], _ => rfl⟩
  have F23 := fun_mk (st := s_law_shares) l23 c23 k23
  have R23 : Ref K mg "_law_shares" f23 _ ["tape", "room", "many"] := ⟨PySem.W.mg_of X G a23, k23, F23.binds (ps := ["tape", "room", "many"]) fun _ _ _ _ _ _ us hl => match us, hl with | [_, _, _], _ => rfl⟩
  have F24 := fun_mk (st := s_law_less_one) l24 c24 k24
  have R24 : Ref K mg "_law_less_one" f24 _ ["around"] := ⟨PySem.W.mg_of X G a24, k24, F24.binds (ps := ["around"]) fun _ _ _ _ _ _ us hl => match us, hl with | [_], _ => rfl⟩
  have F25 := fun_mk (st := s_law_parts) l25 c25 k25
  have R25 : Ref K mg "_law_parts" f25 _ ["term"] := ⟨PySem.W.mg_of X G a25, k25, F25.binds (ps := ["term"]) fun _ _ _ _ _ _ us hl => match us, hl with | [_], _ => rfl⟩
  have F26 := fun_mk (st := s_law_simple) l26 c26 k26
  have R26 : Ref K mg "_law_simple" f26 _ ["tape", "around", "deep"] := ⟨PySem.W.mg_of X G a26, k26, F26.binds (ps := ["tape", "around", "deep"]) fun _ _ _ _ _ _ us hl => match us, hl with | [_, _, _], _ => rfl⟩
  have F27 := fun_mk (st := s_law_some_hand) l27 c27 k27
  have R27 : Ref K mg "_law_some_hand" f27 _ ["tape", "known", "hands"] := ⟨PySem.W.mg_of X G a27, k27, F27.binds (ps := ["tape", "known", "hands"]) fun _ _ _ _ _ _ us hl => match us, hl with | [_, _, _], _ => rfl⟩
  have F28 := fun_mk (st := s_law_end) l28 c28 k28
  have R28 : Ref K mg "_law_end" f28 _ ["tape", "known", "around", "hands"] := ⟨PySem.W.mg_of X G a28, k28, F28.binds (ps := ["tape", "known", "around", "hands"]) fun _ _ _ _ _ _ us hl => match us, hl with | [_, _, _, _], _ => rfl⟩
  have F29 := fun_mk (st := s_law_part) l29 c29 k29
  have R29 : Ref K mg "_law_part" f29 _ ["tape", "known", "around", "hands", "room", "deep"] := ⟨PySem.W.mg_of X G a29, k29, F29.binds (ps := ["tape", "known", "around", "hands", "room", "deep"]) fun _ _ _ _ _ _ us hl => match us, hl with | [_, _, _, _, _, _], _ => rfl⟩
  have F30 := fun_mk (st := s_law_turned_body) l30 c30 k30
  have R30 : Ref K mg "_law_turned_body" f30 _ ["tape", "known", "names"] := ⟨PySem.W.mg_of X G a30, k30, F30.binds (ps := ["tape", "known", "names"]) fun _ _ _ _ _ _ us hl => match us, hl with | [_, _, _], _ => rfl⟩
  have F31 := fun_mk (st := s_law_turned_book) l31 c31 k31
  have R31 : Ref K mg "_law_turned_book" f31 _ ["script", "start", "straight"] := ⟨PySem.W.mg_of X G a31, k31, F31.binds (ps := ["script", "start", "straight"]) fun _ _ _ _ _ _ us hl => match us, hl with | [_, _, _], _ => rfl⟩
  have F32 := fun_mk (st := s_law_inner) l32 c32 k32
  have R32 : Ref K mg "_law_inner" f32 _ ["part"] := ⟨PySem.W.mg_of X G a32, k32, F32.binds (ps := ["part"]) fun _ _ _ _ _ _ us hl => match us, hl with | [_], _ => rfl⟩
  have F33 := fun_mk (st := s_law_simples) l33 c33 k33
  have R33 : Ref K mg "_law_simples" f33 _ ["part"] := ⟨PySem.W.mg_of X G a33, k33, F33.binds (ps := ["part"]) fun _ _ _ _ _ _ us hl => match us, hl with | [_], _ => rfl⟩
  have F34 := fun_mk (st := s_law_tplaces) l34 c34 k34
  have R34 : Ref K mg "_law_tplaces" f34 _ ["part", "place"] := ⟨PySem.W.mg_of X G a34, k34, F34.binds (ps := ["part", "place"]) fun _ _ _ _ _ _ us hl => match us, hl with | [_, _], _ => rfl⟩
  have F35 := fun_mk (st := s_law_tput) l35 c35 k35
  have R35 : Ref K mg "_law_tput" f35 _ ["part", "place", "other"] := ⟨PySem.W.mg_of X G a35, k35, F35.binds (ps := ["part", "place", "other"]) fun _ _ _ _ _ _ us hl => match us, hl with | [_, _, _], _ => rfl⟩
  have F36 := fun_mk (st := s_law_twords) l36 c36 k36
  have R36 : Ref K mg "_law_twords" f36 _ ["part"] := ⟨PySem.W.mg_of X G a36, k36, F36.binds (ps := ["part"]) fun _ _ _ _ _ _ us hl => match us, hl with | [_], _ => rfl⟩
  have F37 := fun_mk (st := s_law_tposts) l37 c37 k37
  have R37 : Ref K mg "_law_tposts" f37 _ ["part"] := ⟨PySem.W.mg_of X G a37, k37, F37.binds (ps := ["part"]) fun _ _ _ _ _ _ us hl => match us, hl with | [_], _ => rfl⟩
  have F38 := fun_mk (st := s_law_called) l38 c38 k38
  have R38 : Ref K mg "_law_called" f38 _ ["term", "words"] := ⟨PySem.W.mg_of X G a38, k38, F38.binds (ps := ["term", "words"]) fun _ _ _ _ _ _ us hl => match us, hl with | [_, _], _ => rfl⟩
  have F39 := fun_mk (st := s_law_tcalled) l39 c39 k39
  have R39 : Ref K mg "_law_tcalled" f39 _ ["part", "words", "posts"] := ⟨PySem.W.mg_of X G a39, k39, F39.binds (ps := ["part", "words", "posts"]) fun _ _ _ _ _ _ us hl => match us, hl with | [_, _, _], _ => rfl⟩
  have F40 := fun_mk (st := s_law_by_numbers) l40 c40 k40
  have R40 : Ref K mg "_law_by_numbers" f40 _ ["words"] := ⟨PySem.W.mg_of X G a40, k40, F40.binds (ps := ["words"]) fun _ _ _ _ _ _ us hl => match us, hl with | [_], _ => rfl⟩
  have F41 := fun_mk (st := s_law_anew) l41 c41 k41
  have R41 : Ref K mg "_law_anew" f41 _ ["turned"] := ⟨PySem.W.mg_of X G a41, k41, F41.binds (ps := ["turned"]) fun _ _ _ _ _ _ us hl => match us, hl with | [_], _ => rfl⟩
  have F42 := fun_mk (st := s_law_other_simple) l42 c42 k42
  have R42 : Ref K mg "_law_other_simple" f42 _ ["term"] := ⟨PySem.W.mg_of X G a42, k42, F42.binds (ps := ["term"]) fun _ _ _ _ _ _ us hl => match us, hl with | [_], _ => rfl⟩
  have F43 := fun_mk (st := s_law_one_sign) l43 c43 k43
  have R43 : Ref K mg "_law_one_sign" f43 _ ["tape", "turned"] := ⟨PySem.W.mg_of X G a43, k43, F43.binds (ps := ["tape", "turned"]) fun _ _ _ _ _ _ us hl => match us, hl with | [_, _], _ => rfl⟩
  have F44 := fun_mk (st := s_law_many_words) l44 c44 k44
  have R44 : Ref K mg "_law_many_words" f44 _ [] := ⟨PySem.W.mg_of X G a44, k44, F44.binds (ps := []) fun _ _ _ _ _ _ us hl => match us, hl with | [], _ => rfl⟩
  have F45 := fun_mk (st := slaw) l45 c45 k45
  have FC := funC_mk (st := serrand_anew) l12 c12
  refine ⟨fun p hp => by rw [List.mem_singleton.mp hp]; exact nTab, fun p hp => by rw [List.mem_singleton.mp hp]; exact PySem.W.codeHd_of_K X hCode, ?_⟩
  refine ⟨PySem.W.fnOf "law" "law" (defArgs slaw) (defBody slaw) (defScope slaw) .none kV45 dc45 pm45 an45 cd45 ct45, fun s v => .of_eq rfl, fun base _ _ TB => ?_⟩
  have G_law_cell_at := ok_cell (P := l.prog) (w := w) (mg := mg) (base := base) T F17
  have G_law_tape := ok_tape (P := l.prog) (w := w) (mg := mg) (base := base) T F18 G_law_cell_at R17
  have G_law_digit := ok_dig (P := l.prog) (w := w) (mg := mg) (base := base) F19
  have G_law_words := ok_words (P := l.prog) (w := w) (mg := mg) (base := base) T F20 G_law_digit R19
  have G_law_number := ok_num (P := l.prog) (w := w) (mg := mg) (base := base) F21 G_law_digit R19
  have G_law_leaf := ok_leaf (P := l.prog) (w := w) (mg := mg) (base := base) T F22 G_law_digit R19 G_law_number R21
  have G_law_shares := ok_shares (P := l.prog) (w := w) (mg := mg) (base := base) T F23 G_law_digit R19
  have G_law_less_one := ok_less (P := l.prog) (w := w) (mg := mg) (base := base) F24
  have G_law_simple := all_simple (P := l.prog) (w := w) (mg := mg) (base := base) T F26 G_law_digit R19 G_law_leaf R22 R26
  have G_law_some_hand := ok_hand (P := l.prog) (w := w) (mg := mg) (base := base) T F27 G_law_digit R19
  have G_law_end := ok_end (P := l.prog) (w := w) (mg := mg) (base := base) T F28 G_law_digit R19 G_law_some_hand R27 G_law_less_one R24 G_law_simple R26
  have G_law_part := all_part (P := l.prog) (w := w) (mg := mg) (base := base) T F29 G_law_digit R19 G_law_some_hand R27 G_law_end R28 G_law_simple R26 G_law_shares R23 R29 8
  have G_law_turned_body := ok_tbody (P := l.prog) (w := w) (mg := mg) (base := base) T F30 G_law_digit R19 G_law_part R29
  have G_law_turned_book := ok_tbook (P := l.prog) (w := w) (mg := mg) (base := base) T F31 G_law_digit R19 G_law_tape R18 G_law_words R20 G_law_turned_body R30
  have Gparts_of := ok_parts (P := l.prog) (w := w) (mg := mg) (base := base) F4
  have Gterms_in := ok_tin (P := l.prog) (w := w) (mg := mg) (base := base) F5
  have Grest_of := ok_rest (P := l.prog) (w := w) (mg := mg) (base := base) F6
  have Gturned_parts := ok_tparts (P := l.prog) (w := w) (mg := mg) (base := base) hSIMPLE_HEADS F7 Gparts_of R4 Gterms_in R5 Grest_of R6
  have Gmet := ok_met (P := l.prog) (w := w) (mg := mg) (base := base) TrP F1 Grest_of R6.k R6.b
  have Glast_taken := ok_last (P := l.prog) (w := w) (mg := mg) (base := base) T F3
  have Gwords_met := ok_wm (P := l.prog) (w := w) (mg := mg) (base := base) T F8 Gmet R1 R6
  have Gposts_met := ok_pm (P := l.prog) (w := w) (mg := mg) (base := base) T F9 Gmet R1 R6
  have Gword_of := ok_wordOf (P := l.prog) (w := w) (mg := mg) (base := base) T SX F10
  have Gnumbered := ok_nbd (P := l.prog) (w := w) (mg := mg) (base := base) T F13 Gword_of R10
  have Grenamed_term := ok_rnt (P := l.prog) (w := w) (mg := mg) (base := base) F15
  have Grenamed_part := ok_rnp (P := l.prog) (w := w) (mg := mg) (base := base) F14 Grenamed_term R15
  have Grem : ∀ (ws js : List Str) (W J : Str → Str), _ := fun ws js W J => okL_remade (P := l.prog) (w := w) (mg := mg) (base := base) (kl := 3) (TrW ws js) RAt (gD W J) (fD W J) (fD_eq W J) (fun k z => z.tk k) (tabs_jx [(pt, ("errand_anew.<locals>.<lambda>" : Str))]) T F2 (Gturned_parts.imp kids_w) R7.k R7.b Glast_taken R3
  have Gerrand_anew := ok_ea (P := l.prog) (w := w) (mg := mg) (base := base) T SX TB rfl FC Gnumbered R13 Gwords_met R8 Gposts_met R9 Grem R2 R7 Grenamed_part R14
  have Ganew := ok_an (P := l.prog) (w := w) (mg := mg) (base := base) T F11 Gerrand_anew R12
  have Gare_alike := ok_aa (P := l.prog) (w := w) (mg := mg) (base := base) F16 Ganew R11
  have G_law_inner := ok_inn (P := l.prog) (w := w) (mg := mg) (base := base) T F32
  have G_law_simples := ok_smp (P := l.prog) (w := w) (mg := mg) (base := base) T F33
  have G_law_tplaces := all_Tpl (P := l.prog) (w := w) (mg := mg) (base := base) T F34 R34 G_law_simples R33 G_law_inner R32 50
  have G_law_tput := all_tput (P := l.prog) (w := w) (mg := mg) (base := base) T F35 R35 G_law_simples R33 G_law_inner R32 51
  have G_law_twords := all_tw (P := l.prog) (w := w) (mg := mg) (base := base) F36 R36 G_law_inner R32 50
  have G_law_tposts := all_tp (P := l.prog) (w := w) (mg := mg) (base := base) F37 R37 G_law_inner R32 50
  have G_law_parts := ok_Lparts (P := l.prog) (w := w) (mg := mg) (base := base) T F25
  have G_law_called := all_Lcalled (P := l.prog) (w := w) (mg := mg) (base := base) T F38 R38 G_law_parts R25 2
  have G_law_tcalled := all_tc (P := l.prog) (w := w) (mg := mg) (base := base) T F39 R39 G_law_inner R32 G_law_simples R33 G_law_called R38 50
  have G_law_by_numbers := ok_Lbyn (P := l.prog) (w := w) (mg := mg) (base := base) T F40
  have G_law_anew := ok_lan (P := l.prog) (w := w) (mg := mg) (base := base) T F41 G_law_by_numbers R40 G_law_twords R36 G_law_tposts R37 G_law_tcalled R39
  have G_law_other_simple := ok_os (P := l.prog) (w := w) (mg := mg) (base := base) T F42
  have G_law_one_sign := ok_sg (P := l.prog) (w := w) (mg := mg) (base := base) T F43 G_law_digit R19 G_law_tplaces R34 G_law_simples R33 G_law_other_simple R42 G_law_tput R35
  have G_law_many_words := ok_mw (P := l.prog) (w := w) (mg := mg) (base := base) T F44
  exact ok_law T (PySem.W.mg_none_of X G z_min) F45 G_law_tape R18 G_law_digit R19 G_law_turned_book R31 G_law_many_words R44 G_law_anew R41 Ganew R11 Gare_alike R16 G_law_one_sign R43
theorem walkT {l : PySem.W.OpenLaw} {q : Program} {loose : List Str} {XP : (Str → Option Value) → Heap → Prop} {YP : World → Heap → Prop} {d : DefRec} {K : Params → PySem.W.Frag} (hn : l.most = some 63) (hdf : d.params.defaults = [])
    (hY : ∀ (w : World) (h : Heap), YP w h → (K w.params).In h)
    (F : ∀ (w : World) (mg : Str → Option Value) (fa : Addr) (h : Heap), YP w h → (K w.params).In h → h.Ns mainGlobals mg → mg d.name = some (.ref fa) → ∃ ca pt : Addr, h.get? pt = some { cls := .none, data := .fields #[] } ∧
      (∀ p ∈ [(ca, pt)], (K w.params).lookup p.2 = none) ∧ (∀ p ∈ [(ca, pt)], PySem.W.CodeHd h p.1 p.2) ∧ ∃ fd : FuncData, (∀ (s : Shared) (u : Value), BindsTo s fd ⟨[u], []⟩ [("script", u)]) ∧ ∀ base : Heap, (K w.params).In base → base.Ns mainGlobals mg → LamX.TabB base mg ca pt → FnOk l.prog w (K w.params) mg base CX0 55 fa fd ["script"] (spLawT (K w.params) [(pt, ("errand_anew.<locals>.<lambda>" : Str))])) :
    PySem.W.WalkO q loose XP YP l.row.toRowW d [] (fun f vs => PySem.call f vs) := by
  refine LamX.walk_ofTs (n := 63) (k := 55) (x := "script") (CX := fun _ => CX0) hn (by decide) hdf ⟨rfl, by decide, by decide⟩ hY (fun w mg fa h Y KX G hmg => ?_) (fun _ _ _ _ _ z => z)
  obtain ⟨ca, pt, hT, hN, hC, fd, hb, hF⟩ := F w mg fa h Y KX G hmg
  refine ⟨fd, [(ca, pt)], spLawT (K w.params) [(pt, ("errand_anew.<locals>.<lambda>" : Str))], fun p hp => by rw [List.mem_singleton.mp hp]; exact hT, hN, hC, hb, fun H a ns hl _ hS hL => ⟨a, ns, rfl, hL, hl, fun p hp => ?_, fun _ => rfl⟩, fun base hK hG hTB => hF base hK hG (hTB _ (List.mem_singleton.mpr rfl))⟩
  rw [List.mem_singleton.mp hp]
  exact LamX.TabS.nil (hS _ (List.mem_singleton.mpr rfl))
end KB

open PySem PySem.W PyProof.Rows in
set_option maxRecDepth 100000 in
set_option maxHeartbeats 0 in
theorem PySem.Challenge.cw_whatnext_k24_alike_but_for_a_sign_holds : PySem.Challenge.rw_whatnext_k24_alike_but_for_a_sign.Holds := by
  w_on; o_law; k_head; (case hw => w_witness2)
  k_fill
  refine KB.walkT (l := PySem.Challenge.rw_whatnext_k24_alike_but_for_a_sign) rfl rfl (fun w h Y => PySem.W.km_in_of Y) ?F
  case F =>
    intro w mg fa h Y KX G hmg
    km_tabs Y
    refine' ⟨_, _, hT8 _ List.mem_cons_self, KB.all_mk KX G hmg ?a1 ?l1 ?c1 ?k1 ?a2 ?l2 ?c2 ?k2 ?a3 ?l3 ?c3 ?k3 ?a4 ?l4 ?c4 ?k4 ?a5 ?l5 ?c5 ?k5 ?a6 ?l6 ?c6 ?k6 ?a7 ?l7 ?c7 ?k7 ?a8 ?l8 ?c8 ?k8 ?a9 ?l9 ?c9 ?k9 ?a10 ?l10 ?c10 ?k10 ?a11 ?l11 ?c11 ?k11 ?a12 ?l12 ?c12 ?k12 ?a13 ?l13 ?c13 ?k13 ?a14 ?l14 ?c14 ?k14 ?a15 ?l15 ?c15 ?k15 ?a16 ?l16 ?c16 ?k16 ?a17 ?l17 ?c17 ?k17 ?a18 ?l18 ?c18 ?k18 ?a19 ?l19 ?c19 ?k19 ?a20 ?l20 ?c20 ?k20 ?a21 ?l21 ?c21 ?k21 ?a22 ?l22 ?c22 ?k22 ?a23 ?l23 ?c23 ?k23 ?a24 ?l24 ?c24 ?k24 ?a25 ?l25 ?c25 ?k25 ?a26 ?l26 ?c26 ?k26 ?a27 ?l27 ?c27 ?k27 ?a28 ?l28 ?c28 ?k28 ?a29 ?l29 ?c29 ?k29 ?a30 ?l30 ?c30 ?k30 ?a31 ?l31 ?c31 ?k31 ?a32 ?l32 ?c32 ?k32 ?a33 ?l33 ?c33 ?k33 ?a34 ?l34 ?c34 ?k34 ?a35 ?l35 ?c35 ?k35 ?a36 ?l36 ?c36 ?k36 ?a37 ?l37 ?c37 ?k37 ?a38 ?l38 ?c38 ?k38 ?a39 ?l39 ?c39 ?k39 ?a40 ?l40 ?c40 ?k40 ?a41 ?l41 ?c41 ?k41 ?a42 ?l42 ?c42 ?k42 ?a43 ?l43 ?c43 ?k43 ?a44 ?l44 ?c44 ?k44 ?a45 ?l45 ?c45 ?k45 ?z_len ?z_isinstance ?z_int ?z_tuple ?z_list ?z_str ?z_bool ?z_max ?z_all ?z_dict ?z_range ?z_enumerate ?z_reversed ?z_min ?qSIGNS ?qBEHIND ?qHOME ?taSIMPLE_HEADS ?tlSIMPLE_HEADS ?twSIMPLE_HEADS ?nTab ?hCode⟩
    (case a1 => k_is)
    (case l1 => k_is)
    (case c1 => k_is)
    (case k1 => k_is)
    (case a2 => k_is)
    (case l2 => k_is)
    (case c2 => k_is)
    (case k2 => k_is)
    (case a3 => k_is)
    (case l3 => k_is)
    (case c3 => k_is)
    (case k3 => k_is)
    (case a4 => k_is)
    (case l4 => k_is)
    (case c4 => k_is)
    (case k4 => k_is)
    (case a5 => k_is)
    (case l5 => k_is)
    (case c5 => k_is)
    (case k5 => k_is)
    (case a6 => k_is)
    (case l6 => k_is)
    (case c6 => k_is)
    (case k6 => k_is)
    (case a7 => k_is)
    (case l7 => k_is)
    (case c7 => k_is)
    (case k7 => k_is)
    (case a8 => k_is)
    (case l8 => k_is)
    (case c8 => k_is)
    (case k8 => k_is)
    (case a9 => k_is)
    (case l9 => k_is)
    (case c9 => k_is)
    (case k9 => k_is)
    (case a10 => k_is)
    (case l10 => k_is)
    (case c10 => k_is)
    (case k10 => k_is)
    (case a11 => k_is)
    (case l11 => k_is)
    (case c11 => k_is)
    (case k11 => k_is)
    (case a12 => k_is)
    (case l12 => k_is)
    (case c12 => k_is)
    (case k12 => k_is)
    (case a13 => k_is)
    (case l13 => k_is)
    (case c13 => k_is)
    (case k13 => k_is)
    (case a14 => k_is)
    (case l14 => k_is)
    (case c14 => k_is)
    (case k14 => k_is)
    (case a15 => k_is)
    (case l15 => k_is)
    (case c15 => k_is)
    (case k15 => k_is)
    (case a16 => k_is)
    (case l16 => k_is)
    (case c16 => k_is)
    (case k16 => k_is)
    (case a17 => k_is)
    (case l17 => k_is)
    (case c17 => k_is)
    (case k17 => k_is)
    (case a18 => k_is)
    (case l18 => k_is)
    (case c18 => k_is)
    (case k18 => k_is)
    (case a19 => k_is)
    (case l19 => k_is)
    (case c19 => k_is)
    (case k19 => k_is)
    (case a20 => k_is)
    (case l20 => k_is)
    (case c20 => k_is)
    (case k20 => k_is)
    (case a21 => k_is)
    (case l21 => k_is)
    (case c21 => k_is)
    (case k21 => k_is)
    (case a22 => k_is)
    (case l22 => k_is)
    (case c22 => k_is)
    (case k22 => k_is)
    (case a23 => k_is)
    (case l23 => k_is)
    (case c23 => k_is)
    (case k23 => k_is)
    (case a24 => k_is)
    (case l24 => k_is)
    (case c24 => k_is)
    (case k24 => k_is)
    (case a25 => k_is)
    (case l25 => k_is)
    (case c25 => k_is)
    (case k25 => k_is)
    (case a26 => k_is)
    (case l26 => k_is)
    (case c26 => k_is)
    (case k26 => k_is)
    (case a27 => k_is)
    (case l27 => k_is)
    (case c27 => k_is)
    (case k27 => k_is)
    (case a28 => k_is)
    (case l28 => k_is)
    (case c28 => k_is)
    (case k28 => k_is)
    (case a29 => k_is)
    (case l29 => k_is)
    (case c29 => k_is)
    (case k29 => k_is)
    (case a30 => k_is)
    (case l30 => k_is)
    (case c30 => k_is)
    (case k30 => k_is)
    (case a31 => k_is)
    (case l31 => k_is)
    (case c31 => k_is)
    (case k31 => k_is)
    (case a32 => k_is)
    (case l32 => k_is)
    (case c32 => k_is)
    (case k32 => k_is)
    (case a33 => k_is)
    (case l33 => k_is)
    (case c33 => k_is)
    (case k33 => k_is)
    (case a34 => k_is)
    (case l34 => k_is)
    (case c34 => k_is)
    (case k34 => k_is)
    (case a35 => k_is)
    (case l35 => k_is)
    (case c35 => k_is)
    (case k35 => k_is)
    (case a36 => k_is)
    (case l36 => k_is)
    (case c36 => k_is)
    (case k36 => k_is)
    (case a37 => k_is)
    (case l37 => k_is)
    (case c37 => k_is)
    (case k37 => k_is)
    (case a38 => k_is)
    (case l38 => k_is)
    (case c38 => k_is)
    (case k38 => k_is)
    (case a39 => k_is)
    (case l39 => k_is)
    (case c39 => k_is)
    (case k39 => k_is)
    (case a40 => k_is)
    (case l40 => k_is)
    (case c40 => k_is)
    (case k40 => k_is)
    (case a41 => k_is)
    (case l41 => k_is)
    (case c41 => k_is)
    (case k41 => k_is)
    (case a42 => k_is)
    (case l42 => k_is)
    (case c42 => k_is)
    (case k42 => k_is)
    (case a43 => k_is)
    (case l43 => k_is)
    (case c43 => k_is)
    (case k43 => k_is)
    (case a44 => k_is)
    (case l44 => k_is)
    (case c44 => k_is)
    (case k44 => k_is)
    (case a45 => k_is)
    (case l45 => k_is)
    (case c45 => k_is)
    (case k45 => k_is)
    (case z_len => k_is)
    (case z_isinstance => k_is)
    (case z_int => k_is)
    (case z_tuple => k_is)
    (case z_list => k_is)
    (case z_str => k_is)
    (case z_bool => k_is)
    (case z_max => k_is)
    (case z_all => k_is)
    (case z_dict => k_is)
    (case z_range => k_is)
    (case z_enumerate => k_is)
    (case z_reversed => k_is)
    (case z_min => k_is)
    (case qSIGNS => k_is)
    (case qBEHIND => k_is)
    (case qHOME => k_is)
    (case taSIMPLE_HEADS => k_is)
    (case tlSIMPLE_HEADS => k_is)
    (case twSIMPLE_HEADS => exact .cons ⟨_, rfl⟩ (.cons ⟨_, rfl⟩ (.cons ⟨_, rfl⟩ (.cons ⟨_, rfl⟩ (.nil)))))
    (case nTab => kernel_rfl)
    (case hCode => kernel_rfl)
#print axioms PySem.Challenge.cw_whatnext_k24_alike_but_for_a_sign_holds
