import PyProof.Rows.All
import Wide.All
import OpenK.AllK
import Wide.FinOn
import HandS.ForMost
import HandS.TupAny
import HandS.Style
import HandS.IsInst
import HandS.Star
import HandS.RevRange
import HandS.Wide
import HandS.Conv
import PyProof.StrOps2
import HandS.Evl
import HandS.Flow
import HandS.CallLocal
import HandS.DictComp
import HandS.Rev
import HandS.Comp
import HandS.Zip0
import PyProof.Draws
import PyProof.EnumMake
import HandS.Deep
import PyProof.Rows.StrMeet
import PySem.Challenge.RW_whatnext_k18_whole_hand_ons_where_someth
set_option Elab.async false
set_option maxRecDepth 100000
set_option maxHeartbeats 8000000
set_option linter.unusedVariables false
namespace KB
open PySem L2
open PySem.AutoSeq1 PySem.MeetsSeq PySem.MeetsSeq2 PySem.MeetsSeq3

def top (i : Nat) : Stmt := (PySem.Challenge.pw_whatnext_k18_whole_hand_ons_where_someth).main.body.getD i (.Pass ⟨0, 0, 0, 0⟩)

/-! ### two rules that the layer lacks: a list extended by a tuple, a text times a number -/
theorem ext_lt (l b : Addr) (us ws : Array Value) (n m : Nat) (dd : Option Addr) (sl : Array (Option Value))
    (h0 : ¬(!us.isEmpty && Builtin.List.listTooLong (us.size + ws.size)) = true) (h1 : us.size ≤ sizeLine) (h2 : us.size + ws.size ≤ sizeLine + 1) :
    Meets (Builtin.«list.extend» ⟨[.ref l, .ref b], []⟩) (fun _ R s => s.heap.get? l = some { cls := .type "list", dict := none, data := .seq us n, slots := #[] } ∧
      s.heap.get? b = some { cls := .type "tuple", dict := dd, data := .seq ws m, slots := sl } ∧
      R (.ok (.ret Value.none)) { s with heap := s.heap.update l (Obj.mapSeq fun x => x ++ ws), toks := s.toks }) := by
  refine .of_wp fun prog w A R s h => ?_
  obtain ⟨hp, g, d, tk, os⟩ := s
  obtain ⟨hl, hb, h⟩ := h
  have f1 := idx_int; have f2 := sub_tuple_tuple; have f3 := sub_list_list; have f4 := sub_tuple_list; have f5 := sub_list_tuple
  have hz' : (us ++ ws).size ≤ sizeLine + 1 := by
    rw [Array.size_append]
    exact h2
  wp_walk using (wpAny_updateSeq hl rfl (hz := h1) (_hz' := hz')), wpAny_loadPart' hl, wpAny_loadPart' hb
  exact ⟨_, rfl, h⟩
section
variable {X : Cx}
def rExtT (K : PySem.W.Frag) : V → List V → Hp → VK → Prop := fun x vs H Q => ∃ l b xs zs, x = .ref l ∧ vs = [.ref b] ∧ H l = some (.lst xs) ∧ SqT K H b zs ∧ xs.length + zs.length ≤ sizeLine ∧ Q .non (upd H l (.lst (xs ++ zs)))
theorem mt_extT : MtR X "list.extend" (rExtT X.K) := by
  intro pins s σ H x vs v us Q I rx rv h
  obtain ⟨l, b, xs, zs, rfl, rfl, hH, hB, hz, q⟩ := h
  cases rx
  obtain ⟨u, rfl, ru⟩ := rv.one
  cases ru
  obtain ⟨z, its, n, r, hl, e⟩ := I.lstM hH
  obtain ⟨its2, r2, ⟨⟨c2, d2, a2, s2⟩, e2, hc, n2, hd⟩, _⟩ := I.tuple hB
  cases hc
  cases hd
  have hl2 := r2.length
  have hsz : its.toArray.size + its2.toArray.size ≤ sizeLine := by
    rw [List.size_toArray, List.size_toArray]
    omega
  have hlong : ¬ (!its.toArray.isEmpty && Builtin.List.listTooLong (its.toArray.size + its2.toArray.size)) = true := by
    rw [notLongL hsz, Bool.and_false]
    exact Bool.false_ne_true
  refine call_meets F.slot_list_extend ⟨_, e, rfl⟩ F.entry_list_extend (F.args_list_extend_2 _ _)
    (ext_lt l b its.toArray its2.toArray n n2 d2 s2 hlong (by rw [List.size_toArray]; omega) (by omega)) ⟨e, e2, ?_⟩
  exact ⟨.non, _, I.lset (its' := its ++ its2) hH e (by simp) (r.append r2) (by rw [List.length_append]; exact hz), rfl, q⟩
end
end KB

namespace KB
open PySem L2

/-! ### terms as data -/
inductive Hd | num (z : Int) | nam (x : Str) | plus | less | tell | lett (x : Str) | iff | ask (f : Str)
inductive Tm | mk (h : Hd) (n : Nat) (k : Fin n → Tm)
def hs : Hd → Str
  | .num _ => "number" | .nam _ => "name" | .plus => "plus" | .less => "less" | .tell => "tell" | .lett _ => "let" | .iff => "if" | .ask _ => "ask"
/-- what stands at a, xs being its parts -/
def Lay (H : Hp) (a : Addr) : Hd → List V → Prop
  | .num z, xs => xs = [] ∧ H a = some (.tup [.str "number", .int z])
  | .nam x, xs => xs = [] ∧ H a = some (.tup [.str "name", .str x])
  | .plus, xs => xs.length = 2 ∧ H a = some (.tup (.str "plus" :: xs))
  | .less, xs => xs.length = 2 ∧ H a = some (.tup (.str "less" :: xs))
  | .tell, xs => xs.length = 1 ∧ H a = some (.tup (.str "tell" :: xs))
  | .lett x, xs => xs.length = 2 ∧ H a = some (.tup (.str "let" :: .str x :: xs))
  | .iff, xs => xs.length = 3 ∧ H a = some (.tup (.str "if" :: xs))
  | .ask f, xs => xs.length ≤ 4 ∧ ∃ p, H a = some (.tup [.str "ask", .str f, .ref p]) ∧ H p = some (.tup xs)
def Rfs {n : Nat} (ys : Fin n → Addr) : List V := List.ofFn fun i => V.ref (ys i)
def At (H : Hp) : Tm → Addr → Prop
  | .mk h n k, a => ∃ ys : Fin n → Addr, Lay H a h (Rfs ys) ∧ ∀ i, At H (k i) (ys i)
def cnt : Tm → Nat
  | .mk _ _ k => 1 + (List.ofFn fun i => cnt (k i)).sum
def places : Tm → List (List Int)
  | .mk _ n k => [] :: (List.ofFn fun i : Fin n => (places (k i)).map ((i.val : Int) :: ·)).flatten
def flatHd : Hd → Bool
  | .num _ | .nam _ | .plus | .less => true
  | _ => false
def simple : Tm → Bool
  | .mk h _ k => flatHd h && (List.ofFn fun i => simple (k i)).all id
def letsOf : Tm → List Str
  | .mk h _ k => (match h with | .lett x => [x] | _ => []) ++ (List.ofFn fun i => letsOf (k i)).flatten

theorem Lay.mono {H H' : Hp} (e : Same H H') {a : Addr} {h : Hd} {xs : List V} (l : Lay H a h xs) : Lay H' a h xs := by
  cases h with
  | ask f => obtain ⟨z, p, h1, h2⟩ := l; exact ⟨z, p, e _ _ h1, e _ _ h2⟩
  | _ => exact ⟨l.1, e _ _ l.2⟩
theorem At.mono {H H' : Hp} (e : Same H H') : ∀ {t : Tm} {a : Addr}, At H t a → At H' t a := by
  intro t
  induction t with
  | mk h n k ih =>
    rintro a ⟨ys, l, r⟩
    exact ⟨ys, l.mono e, fun i => ih i (r i)⟩
/-- every node begins with its word -/
theorem Lay.head {H : Hp} {a : Addr} {h : Hd} {xs : List V} (l : Lay H a h xs) : ∃ r, H a = some (.tup (.str (hs h) :: r)) := by
  cases h with
  | ask f => obtain ⟨z, p, h1, h2⟩ := l; exact ⟨_, h1⟩
  | _ => exact ⟨_, l.2⟩

theorem same_new {H : Hp} {p : Addr} (h : H p = none) (o : HO) : Same H (upd H p o) := fun b u q => by
  rw [upd_ne (ne_of_none q h)]
  exact q
theorem sIx_at {n d : Nat} {i : Int} (h0 : 0 ≤ i) (h : i.toNat ≤ n) : HT.sIx n d (some i) = i.toNat := by
  show (if i < 0 then (i + (n : Int)).toNat else min i.toNat n) = i.toNat
  rw [if_neg (by omega)]
  omega
theorem sIx_no {n d : Nat} : HT.sIx n d none = d := rfl
theorem not_whole {xs : List V} {i : Int} (h0 : 0 < i) (h : i.toNat ≤ xs.length) : ¬ (HT.sIx xs.length 0 (some i) = 0 ∧ HT.sIx xs.length xs.length none = xs.length) := by
  rw [sIx_at (by omega) h]
  omega
theorem cut_from {xs : List V} {i : Int} (h0 : 0 ≤ i) (h : i.toNat ≤ xs.length) : cutV xs (some i) none = xs.drop i.toNat := by
  unfold cutV
  rw [sIx_at h0 h, sIx_no, List.take_of_length_le (by rw [List.length_drop]; exact Nat.le_refl _)]
theorem len1 {α : Type} {x : α} {r : List α} : 1 ≤ (x :: r).length := Nat.succ_le_succ (Nat.zero_le _)
theorem len2 {α : Type} {x y : α} {r : List α} : 2 ≤ (x :: y :: r).length := Nat.succ_le_succ len1
theorem cut1 {x : V} {r : List V} : cutV (x :: r) (some 1) none = r := cut_from (i := 1) (by decide) len1
theorem cut2 {x y : V} {r : List V} : cutV (x :: y :: r) (some 2) none = r := cut_from (i := 2) (by decide) len2
theorem itT {b : Bool} {A B : Prop} (e : b = true) (h : A) : if b = true then A else B := by
  rw [if_pos e]
  exact h
theorem itF {b : Bool} {A B : Prop} (e : b = false) (h : B) : if b = true then A else B := by
  rw [if_neg (by rw [e]; exact Bool.false_ne_true)]
  exact h
theorem at0 {x : V} {r : List V} : atI (x :: r) 0 = some x := at_of (j := 0) rfl rfl
theorem at1 {x y : V} {r : List V} : atI (x :: y :: r) 1 = some y := at_of (j := 1) rfl rfl
theorem at2 {x y z : V} {r : List V} : atI (x :: y :: z :: r) 2 = some z := at_of (j := 2) rfl rfl
theorem sz {n : Nat} (h : n ≤ 100000) : n ≤ sizeLine := Nat.le_trans h (by decide)
/-- the facts of the top -/
structure Ref (K : PySem.W.Frag) (mg : Str → Option Value) (x : Str) (f : Addr) (fd : FuncData) (ps : List Str) : Prop where
  m : mg x = some (.ref f)
  k : PySem.W.keepIn K (.ref f) = true
  b : Binds K fd ps []
structure Txt (K : PySem.W.Frag) (mg : Str → Option Value) : Prop where
  m_len : mg "len" = none
  m_isinstance : mg "isinstance" = none
  m_int : mg "int" = none
  m_tuple : mg "tuple" = none
  m_list : mg "list" = none
  m_str : mg "str" = none
  m_bool : mg "bool" = none
  m_max : mg "max" = none
  m_all : mg "all" = none
  m_dict : mg "dict" = none
  m_range : mg "range" = none
  m_enumerate : mg "enumerate" = none
  m_reversed : mg "reversed" = none

section
variable {P : Program} {w : World} {K : PySem.W.Frag} {mg : Str → Option Value} {base : Heap}
/-! ### parts_of and _law_parts -/
def spParts : Sp := fun vs H Q _ => ∃ a h xs, vs = [.ref a] ∧ Lay H a h xs ∧ ∀ p H', Same H H' → H' p = some (.tup xs) → Q (.ref p) H'
abbrev sparts_of : Stmt := top 4
theorem scparts_of : FnScope ["term"] ["term"] (defScope sparts_of) := ⟨rfl, rfl, rfl, by decide +kernel, rfl, by decide +kernel, by decide +kernel⟩
theorem ok_parts {f : Addr} {fd : FuncData} (F : Fun K "parts_of" "parts_of" sparts_of f fd) : FnOk P w K mg base CX0 1 f fd ["term"] spParts := by
  refine F.ok scparts_of (fun vs H Q E h => ?_) (fun cdv A outer s H vs Q E hr h => ?_)
  · obtain ⟨a, h, xs, rfl, _⟩ := h
    rfl
  obtain ⟨a, h, xs, rfl, l, q⟩ := h
  refine ⟨_, (pss_cons (ps_if (pt_cmpR op_in_seq (pe_ix ix_tup (pv 0) pe_int (fun _ _ => rfl)) (pe_tup (pa_cons pe_str (pa_cons pe_str pa_nil))) rfl) (pss_one (ps_ret (pe_tup pa_nil))) pss_nil)
    (pss_cons (ps_if (pt_cmpR op_eq (pe_ix ix_tup (pv 0) pe_int (fun _ _ => rfl)) pe_str (nomark _)) (pss_one (ps_ret (pe_ix ix_tup (pv 0) pe_int (fun _ _ => rfl)))) pss_nil)
    (pss_cons (ps_if (pt_cmpR op_eq (pe_ix ix_tup (pv 0) pe_int (fun _ _ => rfl)) pe_str (nomark _)) (pss_one (ps_ret (pe_slice sl_tupA (pv 0) (po_some pe_int) po_none))) pss_nil)
    (pss_one (ps_ret (pe_slice sl_tupA (pv 0) (po_some pe_int) po_none)))))), ?_⟩
  obtain ⟨r, hd⟩ := l.head
  refine ⟨_, rfl, a, _, _, _, rfl, rfl, SqT.of hd, at0, sz (by show 2 ≤ 100000; decide), fun t ht => ?_⟩
  have s1 := same_new ht (.tup [.str "number", .str "name"])
  have l1 := l.mono s1
  refine ⟨t, _, rfl, .inr (SqT.of upd_same), rfl, rfl, _, rfl, ?_⟩
  cases h with
  | num z =>
    refine itT rfl ⟨sz (by decide), fun p hp => q p _ (s1.trans (same_new hp _)) ?_⟩
    rw [l.1, upd_same]
  | nam z =>
    refine itT rfl ⟨sz (by decide), fun p hp => q p _ (s1.trans (same_new hp _)) ?_⟩
    rw [l.1, upd_same]
  | ask f =>
    obtain ⟨l1, p, l2, l3⟩ := l
    refine itF rfl ⟨_, rfl, a, _, _, _, rfl, rfl, SqT.of (s1 _ _ l2), at0, rfl, _, rfl, ?_⟩
    refine itT rfl ⟨_, rfl, a, _, _, _, rfl, rfl, SqT.of (s1 _ _ l2), at2, ?_⟩
    exact q p _ s1 (s1 _ _ l3)
  | lett x =>
    refine itF rfl ⟨_, rfl, a, _, _, _, rfl, rfl, SqT.of (s1 _ _ l.2), at0, rfl, _, rfl, ?_⟩
    refine itF rfl ⟨_, rfl, a, _, _, _, rfl, rfl, SqT.of (s1 _ _ l.2), at0, rfl, _, rfl, ?_⟩
    refine itT rfl ⟨_, rfl, _, rfl, a, _, rfl, SqT.of (s1 _ _ l.2), ?_, ?_⟩
    · exact fun z => absurd z (not_whole (by decide) len2)
    · intro _ p hp
      refine q p _ (s1.trans (same_new hp _)) ?_
      rw [upd_same, cut2]
  | plus | less | tell | iff =>
    refine itF rfl ⟨_, rfl, a, _, _, _, rfl, rfl, SqT.of (s1 _ _ l.2), at0, rfl, _, rfl, ?_⟩
    refine itF rfl ⟨_, rfl, a, _, _, _, rfl, rfl, SqT.of (s1 _ _ l.2), at0, rfl, _, rfl, ?_⟩
    refine itF rfl ⟨_, rfl, _, rfl, a, _, rfl, SqT.of (s1 _ _ l.2), ?_, ?_⟩
    · exact fun z => absurd z (not_whole (by decide) len1)
    · intro _ p hp
      refine q p _ (s1.trans (same_new hp _)) ?_
      rw [upd_same, cut1]
end
end KB

namespace KB
open PySem L2

/-! ### rules and small facts -/
def repS (z : Str) (k : Int) : Str := ⟨(List.replicate k.toNat z.cps).foldl (· ++ ·) #[]⟩
def rMulS : R2 := fun x y H Q => ∃ z k, x = .str z ∧ y = .int k ∧ 1 ≤ k ∧ k ≤ 1000 ∧ 1 ≤ z.length ∧ z.length ≤ 1000 ∧ Q (.str (repS z k)) H
theorem repS_one (z : Str) : repS z 1 = z := by
  unfold repS
  show (⟨#[] ++ z.cps⟩ : Str) = z
  rw [Array.empty_append]
theorem size_rep (xs : Array Nat) : ∀ (k : Nat) (acc : Array Nat), ((List.replicate k xs).foldl (· ++ ·) acc).size = acc.size + k * xs.size
  | 0, acc => by
    rw [Nat.zero_mul]
    rfl
  | k + 1, acc => by
    rw [List.replicate_succ, List.foldl_cons, size_rep xs k, Array.size_append, Nat.succ_mul]
    omega
theorem op_mul_str {X : Cx} : OpR X (binaryOp .Mult) rMulS := by
  intro pins s σ H x y v u Q I rx ry h
  obtain ⟨z, k, rfl, rfl, h1, h2, h3, h4, q⟩ := h
  obtain ⟨t, rfl⟩ := rx
  obtain ⟨t', rfl⟩ := ry
  refine PySem.P.mul_str ?_ ?_ ?_ ?_
  · rw [decide_eq_false (by omega), decide_eq_false (by omega)]
    rfl
  · intro _ _
    have e1 : (1000 : Int) * k ≤ 1000000 := by omega
    have e2 : (9223372036854775807 : Int) / k ≥ 9223372036854775 := by
      have e3 : (9223372036854775807 : Int) / k ≥ 9223372036854775807 / 1000 := by
        refine Int.le_ediv_of_mul_le (by omega) ?_
        have : (9223372036854775807 / 1000 : Int) = 9223372036854775 := by decide
        rw [this]
        have : (9223372036854775 : Int) * k ≤ 9223372036854775 * 1000 := Int.mul_le_mul_of_nonneg_left h2 (by decide)
        omega
      have : (9223372036854775807 / 1000 : Int) = 9223372036854775 := by decide
      omega
    have e4 : ((2 : Int) ^ 63 - 1) = 9223372036854775807 := by decide
    rw [e4]
    omega
  · intro _ _
    have e : z.length * k.toNat ≤ 1000 * 1000 := Nat.mul_le_mul h4 (by omega)
    exact decide_eq_false (by show ¬ _ > sizeLine; exact Nat.not_lt.mpr (Nat.le_trans e (by decide)))
  · rw [if_neg (by omega)]
    have hz : (z.length == 0) = false := by
      rw [beq_eq_false_iff_ne]
      omega
    by_cases hk : k = 1
    · subst hk
      rw [if_pos (by rfl)]
      rw [repS_one] at q
      exact ⟨.str z, H, I, ⟨t, rfl⟩, q⟩
    · have hk2 : (k == 1) = false := by
        rw [beq_eq_false_iff_ne]
        exact hk
      rw [if_neg (by rw [hk2, hz]; decide)]
      have e : z.length * k.toNat ≤ 1000 * 1000 := Nat.mul_le_mul h4 (by omega)
      have e2 := size_rep z.cps k.toNat #[]
      refine ⟨?_, .str (repS z k), H, I.tok _, ⟨_, rfl⟩, q⟩
      show (List.foldl (fun x1 x2 => x1 ++ x2) #[] (List.replicate k.toNat z.cps)).size ≤ sizeLine
      rw [e2, Nat.mul_comm]
      show 0 + z.length * k.toNat ≤ sizeLine
      rw [Nat.zero_add]
      exact Nat.le_trans e (by decide)

/-! ### stacks of terms -/
def Stk (H : Hp) : List V → List Tm → Prop
  | [], [] => True
  | v :: vs, t :: ts => (∃ b, v = .ref b ∧ At H t b) ∧ Stk H vs ts
  | _, _ => False
theorem Stk.mono {H H' : Hp} (e : Same H H') : ∀ {vs : List V} {ts : List Tm}, Stk H vs ts → Stk H' vs ts
  | [], [], _ => trivial
  | _ :: _, _ :: _, h => ⟨let ⟨b, e1, h1⟩ := h.1; ⟨b, e1, h1.mono e⟩, Stk.mono e h.2⟩
  | [], _ :: _, h => h.elim
  | _ :: _, [], h => h.elim
theorem Stk.app {H : Hp} : ∀ {vs us : List V} {ts ss : List Tm}, Stk H vs ts → Stk H us ss → Stk H (vs ++ us) (ts ++ ss)
  | [], _, [], _, _, k => k
  | _ :: _, _, _ :: _, _, h, k => ⟨h.1, Stk.app h.2 k⟩
  | [], _, _ :: _, _, h, _ => h.elim
  | _ :: _, _, [], _, h, _ => h.elim
theorem Stk.rev {H : Hp} : ∀ {vs : List V} {ts : List Tm}, Stk H vs ts → Stk H vs.reverse ts.reverse
  | [], [], _ => trivial
  | v :: vs, t :: ts, h => by
    rw [List.reverse_cons, List.reverse_cons]
    exact Stk.app (Stk.rev h.2) ⟨h.1, trivial⟩
  | [], _ :: _, h => h.elim
  | _ :: _, [], h => h.elim
theorem Stk.len {H : Hp} : ∀ {vs : List V} {ts : List Tm}, Stk H vs ts → vs.length = ts.length
  | [], [], _ => rfl
  | _ :: _, _ :: _, h => congrArg (· + 1) (Stk.len h.2)
  | [], _ :: _, h => h.elim
  | _ :: _, [], h => h.elim
theorem Stk.fn {H : Hp} : ∀ {n : Nat} {ys : Fin n → Addr} {k : Fin n → Tm}, (∀ i, At H (k i) (ys i)) → Stk H (Rfs ys) (List.ofFn k)
  | 0, _, _, _ => trivial
  | n + 1, ys, k, h => by
    unfold Rfs
    rw [List.ofFn_succ, List.ofFn_succ]
    exact ⟨⟨_, rfl, h 0⟩, Stk.fn (ys := fun i => ys i.succ) (k := fun i => k i.succ) fun i => h i.succ⟩
def cnts (ts : List Tm) : Nat := (ts.map cnt).sum
theorem cnts_app (a b : List Tm) : cnts (a ++ b) = cnts a + cnts b := by
  unfold cnts
  rw [List.map_append, List.sum_append]
theorem cnts_rev (a : List Tm) : cnts a.reverse = cnts a := by
  induction a with
  | nil => rfl
  | cons x r ih =>
    rw [List.reverse_cons, cnts_app, ih]
    unfold cnts
    simp only [List.map_cons, List.map_nil, List.sum_cons, List.sum_nil]
    omega
theorem cnt_mk {h : Hd} {n : Nat} {k : Fin n → Tm} : cnt (.mk h n k) = 1 + cnts (List.ofFn k) := by
  show 1 + (List.ofFn fun i => cnt (k i)).sum = 1 + ((List.ofFn k).map cnt).sum
  rw [List.map_ofFn]
  rfl
theorem cnts_cons {t : Tm} {r : List Tm} : cnts (t :: r) = cnt t + cnts r := rfl
theorem cnt_pos : ∀ t : Tm, 1 ≤ cnt t
  | .mk _ _ _ => by rw [cnt_mk]; omega
theorem len_cnts : ∀ ts : List Tm, ts.length ≤ cnts ts
  | [] => Nat.le_refl _
  | t :: r => by
    have h1 := cnt_pos t
    have h2 := len_cnts r
    rw [cnts_cons, List.length_cons]
    omega

section
variable {P : Program} {w : World} {K : PySem.W.Frag} {mg : Str → Option Value} {base : Heap}
theorem same_mut {H H' : Hp} {p : Addr} {o : HO} (e : Same H H') (h : H p = none) : Same H (upd H' p o) := fun a u ha => by
  rw [upd_ne (ne_of_none ha h)]
  exact e _ _ ha
/-- a list rewritten leaves the terms -/
theorem Lay.put {H : Hp} {l : Addr} {xs ys : List V} (hl : H l = some (.lst xs)) {a : Addr} {h : Hd} {us : List V} (q : Lay H a h us) : Lay (upd H l (.lst ys)) a h us := by
  have go : ∀ {b : Addr} {zs : List V}, H b = some (.tup zs) → upd H l (.lst ys) b = some (.tup zs) := fun {b zs} z => by
    rw [upd_ne (ne_of z hl (by intro e; cases e))]
    exact z
  cases h with
  | ask f => obtain ⟨z, p, h1, h2⟩ := q; exact ⟨z, p, go h1, go h2⟩
  | _ => exact ⟨q.1, go q.2⟩
theorem At.put {H : Hp} {l : Addr} {xs ys : List V} (hl : H l = some (.lst xs)) : ∀ {t : Tm} {a : Addr}, At H t a → At (upd H l (.lst ys)) t a := by
  intro t
  induction t with
  | mk h n k ih =>
    rintro a ⟨zs, q, r⟩
    exact ⟨zs, q.put hl, fun i => ih i (r i)⟩
theorem Stk.put {H : Hp} {l : Addr} {xs ys : List V} (hl : H l = some (.lst xs)) : ∀ {vs : List V} {ts : List Tm}, Stk H vs ts → Stk (upd H l (.lst ys)) vs ts
  | [], [], _ => trivial
  | _ :: _, _ :: _, h => ⟨let ⟨b, e1, h1⟩ := h.1; ⟨b, e1, h1.put hl⟩, Stk.put hl h.2⟩
  | [], _ :: _, h => h.elim
  | _ :: _, [], h => h.elim
end
end KB

namespace KB
open PySem L2

/-! ### what leaves the tuples -/
def TK (H H' : Hp) : Prop := ∀ a xs, H a = some (.tup xs) → H' a = some (.tup xs)
theorem TK.refl (H : Hp) : TK H H := fun _ _ h => h
theorem TK.trans {H H1 H2 : Hp} (a : TK H H1) (b : TK H1 H2) : TK H H2 := fun x o h => b x o (a x o h)
theorem tk_same {H H' : Hp} (e : Same H H') : TK H H' := fun a _ h => e a _ h
theorem tk_put {H : Hp} {l : Addr} {xs : List V} {o : HO} (hl : H l = some (.lst xs)) : TK H (upd H l o) := fun a zs z => by
  rw [upd_ne (ne_of z hl (by intro e; cases e))]
  exact z
theorem Lay.tk {H H' : Hp} (e : TK H H') {a : Addr} {h : Hd} {xs : List V} (l : Lay H a h xs) : Lay H' a h xs := by
  cases h with
  | ask f => obtain ⟨z, p, h1, h2⟩ := l; exact ⟨z, p, e _ _ h1, e _ _ h2⟩
  | _ => exact ⟨l.1, e _ _ l.2⟩
theorem At.tk {H H' : Hp} (e : TK H H') : ∀ {t : Tm} {a : Addr}, At H t a → At H' t a := by
  intro t
  induction t with
  | mk h n k ih =>
    rintro a ⟨ys, l, r⟩
    exact ⟨ys, l.tk e, fun i => ih i (r i)⟩

theorem Stk.tk {H H' : Hp} (e : TK H H') : ∀ {vs : List V} {ts : List Tm}, Stk H vs ts → Stk H' vs ts
  | [], [], _ => trivial
  | _ :: _, _ :: _, h => ⟨let ⟨b, e1, h1⟩ := h.1; ⟨b, e1, h1.tk e⟩, Stk.tk e h.2⟩
  | [], _ :: _, h => h.elim
  | _ :: _, [], h => h.elim
theorem Stk.get {H : Hp} : ∀ {vs : List V} {ts : List Tm} {i : Nat} {v : V}, Stk H vs ts → vs[i]? = some v → ∃ t, ts[i]? = some t ∧ ∃ b, v = .ref b ∧ At H t b
  | [], [], _, _, _, e => by simp at e
  | x :: vs, t :: ts, 0, v, h, e => ⟨t, rfl, by
    have e' : x = v := by simpa using e
    subst e'
    exact h.1⟩
  | x :: vs, t :: ts, i + 1, v, h, e => by
    obtain ⟨b, h1, h2⟩ := Stk.get (i := i) (v := v) h.2 (by simpa using e)
    exact ⟨b, by simpa using h1, h2⟩
  | [], _ :: _, _, _, h, _ => h.elim
  | _ :: _, [], _, _, h, _ => h.elim

/-! ### two lists, item by item -/
def All2 {α : Type} (R : α → V → Prop) : List α → List V → Prop
  | [], [] => True
  | a :: as, v :: vs => R a v ∧ All2 R as vs
  | _, _ => False
theorem All2.imp {α : Type} {R S : α → V → Prop} (e : ∀ a v, R a v → S a v) : ∀ {as : List α} {vs : List V}, All2 R as vs → All2 S as vs
  | [], [], _ => trivial
  | _ :: _, _ :: _, h => ⟨e _ _ h.1, All2.imp e h.2⟩
  | [], _ :: _, h => h.elim
  | _ :: _, [], h => h.elim
theorem All2.app {α : Type} {R : α → V → Prop} : ∀ {as bs : List α} {vs ws : List V}, All2 R as vs → All2 R bs ws → All2 R (as ++ bs) (vs ++ ws)
  | [], _, [], _, _, k => k
  | _ :: _, _, _ :: _, _, h, k => ⟨h.1, All2.app h.2 k⟩
  | [], _, _ :: _, _, h, _ => h.elim
  | _ :: _, _, [], _, h, _ => h.elim
theorem All2.len {α : Type} {R : α → V → Prop} : ∀ {as : List α} {vs : List V}, All2 R as vs → vs.length = as.length
  | [], [], _ => rfl
  | _ :: _, _ :: _, h => congrArg (· + 1) (All2.len h.2)
  | [], _ :: _, h => h.elim
  | _ :: _, [], h => h.elim
theorem All2.get {α : Type} {R : α → V → Prop} : ∀ {as : List α} {vs : List V} {i : Nat} {v : V}, All2 R as vs → vs[i]? = some v → ∃ a, as[i]? = some a ∧ R a v
  | [], [], _, _, _, e => by simp at e
  | a :: as, x :: vs, 0, v, h, e => ⟨a, rfl, by
    have e' : x = v := by simpa using e
    subst e'
    exact h.1⟩
  | a :: as, x :: vs, i + 1, v, h, e => by
    obtain ⟨b, h1, h2⟩ := All2.get (i := i) (v := v) h.2 (by simpa using e)
    exact ⟨b, by simpa using h1, h2⟩
  | [], _ :: _, _, _, h, _ => h.elim
  | _ :: _, [], _, _, h, _ => h.elim

end KB

namespace KB
open PySem L2

/-! ### books -/
abbrev Er := Str × List Str × Tm
def ErV (H : Hp) (e : Er) (v : V) : Prop := ∃ q r b, v = .ref q ∧ H q = some (.tup [.str e.1, .ref r, .ref b]) ∧ H r = some (.tup (e.2.1.map V.str)) ∧ At H e.2.2 b
theorem ErV.tk {H H' : Hp} (t : TK H H') {e : Er} {v : V} (h : ErV H e v) : ErV H' e v :=
  let ⟨q, r, b, e1, h1, h2, h3⟩ := h; ⟨q, r, b, e1, t _ _ h1, t _ _ h2, h3.tk t⟩
def BkAt (H : Hp) (es : List Er) (vs : List V) (p : Addr) : Prop := H p = some (.tup vs) ∧ All2 (ErV H) es vs
theorem BkAt.tk {H H' : Hp} (t : TK H H') {es : List Er} {vs : List V} {p : Addr} (h : BkAt H es vs p) : BkAt H' es vs p := ⟨t _ _ h.1, h.2.imp fun _ _ z => z.tk t⟩
theorem All2.map {α β : Type} {R : β → V → Prop} {f : α → β} : ∀ {as : List α} {vs : List V}, All2 (fun a v => R (f a) v) as vs → All2 R (as.map f) vs
  | [], [], _ => trivial
  | _ :: _, _ :: _, h => ⟨h.1, All2.map h.2⟩
  | [], _ :: _, h => h.elim
  | _ :: _, [], h => h.elim

section
variable {P : Program} {w : World} {K : PySem.W.Frag} {mg : Str → Option Value} {base : Heap}
theorem mem_of_get {α : Type} {l : List α} {i : Nat} {a : α} (h : l[i]? = some a) : a ∈ l := List.mem_of_getElem? h
end
end KB

namespace KB
open PySem L2

theorem catA_of {K : PySem.W.Frag} {H : Hp} {a b : Addr} {xs ys : List V} {Q : VK} (ha : H a = some (.tup xs)) (hb : H b = some (.tup ys)) (hl : xs.length + ys.length ≤ 100000)
    (q : ∀ p H', Same H H' → H' p = some (.tup (xs ++ ys)) → Q (.ref p) H') : rCatA K (.ref a) (.ref b) H Q := by
  refine ⟨a, b, xs, ys, rfl, rfl, SqT.of ha, SqT.of hb, sz hl, fun z => ?_, fun _ z => ?_, fun _ _ p hp => ?_⟩
  · refine q b H (Same.refl H) ?_
    rw [z]
    exact hb
  · refine q a H (Same.refl H) ?_
    rw [z, List.append_nil]
    exact ha
  · exact q p _ (same_new hp _) upd_same
theorem cnt_mem {t : Tm} {ts : List Tm} (h : t ∈ ts) : cnt t ≤ cnts ts := by
  induction ts with
  | nil => cases h
  | cons a r ih =>
    rw [cnts_cons]
    rcases List.mem_cons.mp h with z | z
    · subst z
      omega
    · have := ih z
      omega
theorem cnts_take (ts : List Tm) (i : Nat) : cnts (ts.take i) ≤ cnts ts := by
  have e : cnts ts = cnts (ts.take i) + cnts (ts.drop i) := by rw [← cnts_app, List.take_append_drop]
  omega
def letsL (ts : List Tm) : List Str := (ts.map letsOf).flatten
def hdLets : Hd → List Str
  | .lett x => [x]
  | _ => []
theorem hdLets_le (h : Hd) : (hdLets h).length ≤ 1 := by
  cases h with
  | lett x => exact Nat.le_refl 1
  | _ => exact Nat.zero_le 1
theorem lets_mk {h : Hd} {n : Nat} {k : _root_.Fin n → Tm} : letsOf (.mk h n k) = hdLets h ++ letsL (List.ofFn k) := by
  have e : (List.ofFn fun i => letsOf (k i)) = (List.ofFn k).map letsOf := (List.map_ofFn ..).symm
  unfold letsL
  rw [← e]
  cases h <;> rfl
theorem lets_len : ∀ t : Tm, (letsOf t).length ≤ cnt t := by
  have go : ∀ ts : List Tm, (∀ t ∈ ts, (letsOf t).length ≤ cnt t) → (letsL ts).length ≤ cnts ts := by
    intro ts
    induction ts with
    | nil => intro _; exact Nat.le_refl _
    | cons a r ih =>
      intro h
      have h1 := h a List.mem_cons_self
      have h2 := ih fun u hu => h u (List.mem_cons_of_mem _ hu)
      have e : letsL (a :: r) = letsOf a ++ letsL r := by
        unfold letsL
        rw [List.map_cons, List.flatten_cons]
      rw [e, List.length_append, cnts_cons]
      omega
  intro t
  induction t with
  | mk h n k ih =>
    have := go (List.ofFn k) fun t ht => by
      obtain ⟨i, rfl⟩ := List.mem_ofFn.mp ht
      exact ih i
    rw [lets_mk, cnt_mk, List.length_append]
    have : (hdLets h).length ≤ 1 := hdLets_le h
    omega
theorem letsL_take {ts : List Tm} {i : Nat} {t : Tm} (h : ts[i]? = some t) : letsL (ts.take (i + 1)) = letsL (ts.take i) ++ letsOf t := by
  obtain ⟨hi, he⟩ := List.getElem?_eq_some_iff.mp h
  unfold letsL
  rw [List.take_succ_eq_append_getElem hi, List.map_append, List.flatten_append, he]
  simp

end KB

namespace KB
open PySem L2

/-! ### words as the program has them -/
def keptW : List Str := ["let", "be", "in", "tell", "if", "then", "else", "home", "zyzzyva"]
def small (c : Nat) : Bool := decide (97 ≤ c) && decide (c ≤ 122)
def isW (z : Str) : Bool := !keptW.contains z && (decide (1 ≤ z.length) && decide (z.length ≤ 8)) && z.cps.toList.all small
theorem isW_ok {z : Str} (h : isW z = true) : PySem.PyData.strOk z = true := by
  unfold isW at h
  rw [Bool.and_eq_true] at h
  have h2 := h.2
  rw [List.all_eq_true] at h2
  unfold PySem.PyData.strOk
  rw [← Array.all_toList, List.all_eq_true]
  intro c hc
  have := h2 c hc
  unfold small at this
  rw [Bool.and_eq_true] at this
  have := of_decide_eq_true this.2
  exact decide_eq_true (by omega)
theorem isW_len {z : Str} (h : isW z = true) : z.length ≤ 8 := by
  unfold isW at h
  rw [Bool.and_eq_true, Bool.and_eq_true, Bool.and_eq_true] at h
  exact of_decide_eq_true h.1.2.2
/-! ### the tape and lists of words -/
def But1 (tp : Addr) (H H' : Hp) : Prop := ∀ b o, b ≠ tp → H b = some o → H' b = some o
def Tp (H : Hp) (tp : Addr) : Prop := ∃ z, H tp = some (.lst [.int z])
theorem But1.refl (tp : Addr) (H : Hp) : But1 tp H H := fun _ _ _ h => h
theorem But1.trans {tp : Addr} {H H1 H2 : Hp} (a : But1 tp H H1) (b : But1 tp H1 H2) : But1 tp H H2 := fun x o n h => b x o n (a x o n h)
theorem but_same {tp : Addr} {H H' : Hp} (e : Same H H') : But1 tp H H' := fun b o _ h => e b o h
theorem But1.tk {tp : Addr} {H H' : Hp} (ht : Tp H tp) (e : But1 tp H H') : TK H H' := fun a xs h => by
  obtain ⟨z, hz⟩ := ht
  exact e a _ (ne_of h hz (by intro q; cases q)) h
/-- a list of words -/
def Wls (H : Hp) (a : Addr) (xs : List Str) : Prop := H a = some (.lst (xs.map V.str)) ∧ ∀ x ∈ xs, isW x = true
theorem wls_tp {H : Hp} {a tp : Addr} {xs : List Str} (h : H a = some (.lst (xs.map V.str))) (t : Tp H tp) : a ≠ tp := by
  rintro rfl
  obtain ⟨z, hz⟩ := t
  rw [h] at hz
  have e := HO.lst.inj (Option.some.inj hz)
  cases xs with
  | nil => cases e
  | cons x r =>
    rw [List.map_cons] at e
    cases (List.cons.inj e).1
theorem Wls.but {tp a : Addr} {H H' : Hp} {xs : List Str} (e : But1 tp H H') (t : Tp H tp) (h : Wls H a xs) : Wls H' a xs := ⟨e _ _ (wls_tp h.1 t) h.1, h.2⟩
theorem dp_strs {K : PySem.W.Frag} {H : Hp} : ∀ xs : List Str, DpAll K H (xs.map V.str) (xs.map PyData.str)
  | [] => .nil
  | x :: r => .cons (.str x) (dp_strs r)
theorem lay_strs : ∀ {xs : List Str}, (∀ x ∈ xs, PySem.PyData.strOk x = true) → PySem.PyData.canLayAll0 (xs.map PyData.str) = true
  | [], _ => rfl
  | x :: r, h => by
    show (PySem.PyData.strOk x && PySem.PyData.canLayAll0 (r.map PyData.str)) = true
    rw [h x List.mem_cons_self, lay_strs fun y hy => h y (List.mem_cons_of_mem _ hy)]
    rfl
theorem shaped_of {d : PyData} (h1 : d.canLay0 = true) (h2 : d.depth ≤ 64) : SeqAt.shaped d = true := Bool.and_eq_true_iff.mpr ⟨h1, decide_eq_true h2⟩
theorem depth_strs : ∀ xs : List Str, PySem.PyData.depthAll (xs.map PyData.str) = 0
  | [] => rfl
  | x :: r => by
    show max (PySem.PyData.depth (.str x)) (PySem.PyData.depthAll (r.map PyData.str)) = 0
    rw [depth_strs r]
    rfl
theorem shaped_strs {xs : List Str} (h : ∀ x ∈ xs, isW x = true) : SeqAt.shaped (.list (xs.map PyData.str)) = true := by
  refine shaped_of (lay_strs fun x hx => isW_ok (h x hx)) ?_
  show PySem.PyData.depthAll (xs.map PyData.str) + 1 ≤ 64
  rw [depth_strs]
  decide
theorem eqv_nil (xs : List Str) : PyData.eqv (.list (xs.map PyData.str)) (.list []) = xs.isEmpty := by
  cases xs <;> rfl

section
variable {P : Program} {w : World} {K : PySem.W.Frag} {mg : Str → Option Value} {base : Heap}
/-! ### _law_cell_at -/
def spCell (K : PySem.W.Frag) : Sp := fun vs H Q _ => ∃ (a : Addr) (ns : List Int) (k : Int), vs = [.ref a, .int k] ∧ SqL K H a (ns.map V.int) ∧ 0 ≤ k ∧ ∀ z, Q (.int z) H
abbrev s_law_cell_at : Stmt := top 25
theorem scLcell_at : FnScope ["script", "k"] ["script", "k"] (defScope s_law_cell_at) := ⟨rfl, rfl, rfl, by decide +kernel, rfl, by decide +kernel, by decide +kernel⟩
theorem ok_cell (T : Txt K mg) {f : Addr} {fd : FuncData} (F : Fun K "_law_cell_at" "_law_cell_at" s_law_cell_at f fd) : FnOk P w K mg base CX0 1 f fd ["script", "k"] (spCell K) := by
  refine F.ok scLcell_at (fun vs H Q E h => ?_) (fun cdv A outer s H vs Q E hr h => ?_)
  · obtain ⟨a, ns, k, rfl, _⟩ := h
    rfl
  obtain ⟨a, ns, k, rfl, hS, h0, q⟩ := h
  refine ⟨_, (pss_cons (ps_if (pt_cmpR op_lt (pv 1) (pe_callB call_len_seq (by rfl) T.m_len PySem.boot_len (pa_cons (pv 0) pa_nil)) (nomark _)) (pss_one (ps_ret (pe_ix ix_list (pv 0) (pv 1) (fun _ _ => rfl)))) pss_nil)
    (pss_one (ps_ret pe_int))), ?_⟩
  refine ⟨_, rfl, _, rfl, a, _, rfl, .inl hS, _, _, rfl, rfl, _, rfl, ?_⟩
  refine ite2 (fun c => ?_) (fun c => ?_)
  · have c' : k < (((ns.map V.int).length : Nat) : Int) := of_decide_eq_true c
    rw [List.length_map] at c'
    have hk : k.toNat < ns.length := by omega
    refine ⟨_, rfl, _, rfl, a, _, _, .int ns[k.toNat], rfl, rfl, hS, at_of (j := k.toNat) (by omega) ?_, q _⟩
    rw [List.getElem?_map, List.getElem?_eq_getElem hk]
    rfl
  · exact q 0
/-! ### _law_tape -/
def spTape (K : PySem.W.Frag) : Sp := fun vs H Q _ => ∃ (a : Addr) (ns : List Int) (k : Int), vs = [.ref a, .int k] ∧ SqL K H a (ns.map V.int) ∧ 0 ≤ k ∧ k ≤ 1000 ∧ ∀ p z, H p = none → Q (.ref p) (upd H p (.lst [.int z]))
abbrev s_law_tape : Stmt := top 26
theorem scLtape : FnScope ["script", "k", "cell", "p", "one", "found", "turn"] ["script", "k"] (defScope s_law_tape) := ⟨rfl, rfl, rfl, by decide +kernel, rfl, by decide +kernel, by decide +kernel⟩
theorem ok_tape (T : Txt K mg) {f g : Addr} {fd gd : FuncData} (F : Fun K "_law_tape" "_law_tape" s_law_tape f fd) (G_law_cell_at : FnOk P w K mg base CX0 1 g gd ["script", "k"] (spCell K)) (R_law_cell_at : Ref K mg "_law_cell_at" g gd ["script", "k"]) : FnOk P w K mg base CX0 2 f fd ["script", "k"] (spTape K) := by
  refine F.ok scLtape (fun vs H Q E h => ?_) (fun cdv A outer s H vs Q E hr h => ?_)
  · obtain ⟨a, ns, k, rfl, _⟩ := h
    rfl
  obtain ⟨a, ns, k, rfl, hS, h0, h1, q⟩ := h
  refine ⟨_, (pss_cons (ps_set (i := 2) scLtape.nd rfl (Or.inl rfl) (pe_call G_law_cell_at hr rfl R_law_cell_at.m R_law_cell_at.k R_law_cell_at.b .nil pass0 (pa_cons (pv 0) (pa_cons (pv 1) pa_nil))))
    (pss_cons (ps_if (pt_cmpR op_eq (pv 2) pe_int (nomark _)) (pss_one (ps_ret (pe_lst (pa_cons pe_int pa_nil)))) pss_nil)
    (pss_cons (ps_if (pt_cmpR op_ge (pv 2) (pe_op op_pow pe_int pe_int) (nomark _)) (pss_one (ps_ret (pe_lst (pa_cons (pe_op op_sub (pv 2) (pe_op op_pow pe_int pe_int)) pa_nil)))) pss_nil)
    (pss_cons (ps_set (i := 3) scLtape.nd rfl (Or.inl rfl) pe_int)
    (pss_cons (ps_set (i := 4) scLtape.nd rfl (Or.inl rfl) (pe_op op_mod (pe_op op_add (pe_op op_add (pe_op op_mul (pv 2) pe_int) (pe_op op_mul pe_int (pv 1))) pe_int) (pv 3)))
    (pss_cons (ps_set (i := 5) scLtape.nd rfl (Or.inl rfl) (pv 4))
    (pss_cons (ps_for PassesOwn.never rfl (pi_range1 rfl T.m_range (pa_cons pe_int pa_nil)) (pg_name (i := 6) scLtape.nd rfl (Or.inl rfl)) (pss_cons (ps_set (i := 4) scLtape.nd rfl (Or.inl rfl) (pe_op op_mod (pe_op op_add (pe_op op_add (pe_op op_add (pe_op op_mul (pv 4) (pv 4)) (pe_op op_mul pe_int (pv 6))) (pv 2)) pe_int) (pv 3)))
    (pss_one (ps_set (i := 5) scLtape.nd rfl (Or.inl rfl) (pe_op op_add (pe_op op_mul (pv 5) (pv 3)) (pv 4))))))
    (pss_one (ps_ret (pe_lst (pa_cons (pv 5) pa_nil))))))))))), ?_⟩
  have b1 : ∀ x : Int, 0 ≤ x → x < 2305843009213693951 → -(2 ^ 64) < x ∧ x < 2 ^ 64 := fun x h1 h2 => by
    have e : (2 : Int) ^ 64 = 18446744073709551616 := by decide
    rw [e]
    omega
  refine ⟨_, rfl, _, rfl, a, ns, k, rfl, hS, h0, fun z => ?_⟩
  refine ⟨_, rfl, rfl, _, rfl, ?_⟩
  refine ite2 (fun c => ?_) (fun c => ?_)
  · exact ⟨sz (by show 1 ≤ 100000; decide), fun p hp => q p 0 hp⟩
  refine ⟨_, rfl, _, _, rfl, rfl, ⟨by decide, by decide, by decide⟩, _, _, rfl, rfl, _, rfl, ?_⟩
  refine ite2 (fun c => ?_) (fun c => ?_)
  · exact ⟨_, rfl, _, _, rfl, rfl, ⟨by decide, by decide, by decide⟩, _, _, rfl, rfl, sz (by show 1 ≤ 100000; decide), fun p hp => q p _ hp⟩
  refine ⟨_, rfl, _, _, rfl, rfl, .inr ⟨by decide, by decide⟩, _, rfl, _, _, rfl, rfl, .inl ⟨by decide, by decide⟩, _, _, rfl, rfl, _, _, rfl, rfl, _, rfl, _, _, rfl, rfl, (by show (0 : Int) < 2305843009213693951; decide), ?_⟩
  refine ⟨_, rfl, ?_⟩
  refine ⟨20, rfl, by decide, by decide, for_range (lo := 0) (n := 20) (fun i σ H' => ∃ one found o, σ = [some (.ref a), some (.int k), some (.int z), some (.int 2305843009213693951), some (.int one), some (.int found), o] ∧ H' = H ∧ 0 ≤ one ∧ one < 2305843009213693951) ?_ ?_ ?_⟩
  · exact ⟨_, _, _, rfl, rfl, Int.emod_nonneg _ (by decide), Int.emod_lt_of_pos _ (by decide)⟩
  · rintro i σ H' hi ⟨one, found, o, rfl, rfl, g0, g1⟩
    refine ⟨_, rfl, _, rfl, _, _, rfl, rfl, .inl (b1 one g0 g1), _, rfl, _, _, rfl, rfl, .inl ⟨by decide, by decide⟩, _, _, rfl, rfl, _, rfl, _, _, rfl, rfl, _, _, rfl, rfl, _, rfl, _, _, rfl, rfl, (by show (0 : Int) < 2305843009213693951; decide), ?_⟩
    refine ⟨_, rfl, _, rfl, _, _, rfl, rfl, .inr ⟨by decide, by decide⟩, _, rfl, _, _, rfl, rfl, ?_⟩
    exact ⟨_, _, _, rfl, rfl, Int.emod_nonneg _ (by decide), Int.emod_lt_of_pos _ (by decide)⟩
  · rintro σ H' ⟨one, found, o, rfl, rfl, g0, g1⟩
    exact ⟨_, rfl, sz (by show 1 ≤ 100000; decide), fun p hp => q p _ hp⟩
/-! ### _law_digit -/
def spDig : Sp := fun vs H Q _ => ∃ (tp : Addr) (many : Int), vs = [.ref tp, .int many] ∧ Tp H tp ∧ 0 < many ∧ many ≤ 100000000000000000000000000000000000000000000000000000000000 ∧ ∀ r H', 0 ≤ r → r < many → But1 tp H H' → Tp H' tp → Q (.int r) H'
theorem log_many {m : Int} (h0 : 0 < m) (h1 : m ≤ 100000000000000000000000000000000000000000000000000000000000) : m.natAbs.log2 < 9000 := by
  refine PySem.Flt.log2_lt_of (by decide) (Nat.lt_of_le_of_lt (m := 100000000000000000000000000000000000000000000000000000000000) (by omega) ?_)
  exact Nat.lt_of_lt_of_le (m := 2 ^ 200) (by decide) (Nat.pow_le_pow_right (by decide) (by decide))
abbrev s_law_digit : Stmt := top 27
theorem scLdigit : FnScope ["tape", "many", "found"] ["tape", "many"] (defScope s_law_digit) := ⟨rfl, rfl, rfl, by decide +kernel, rfl, by decide +kernel, by decide +kernel⟩
theorem ok_dig {f : Addr} {fd : FuncData} (F : Fun K "_law_digit" "_law_digit" s_law_digit f fd) : FnOk P w K mg base CX0 1 f fd ["tape", "many"] spDig := by
  refine F.ok scLdigit (fun vs H Q E h => ?_) (fun cdv A outer s H vs Q E hr h => ?_)
  · obtain ⟨tp, many, rfl, _⟩ := h
    rfl
  obtain ⟨tp, many, rfl, ⟨z, hz⟩, h0, h1, q⟩ := h
  refine ⟨_, (pss_cons (ps_set (i := 2) scLdigit.nd rfl (Or.inl rfl) (pe_op op_mod (pe_ix ix_list (pv 0) pe_int (fun _ _ => rfl)) (pv 1)))
    (pss_cons (ps_asg (pe_op op_fdivW (pe_ix ix_list (pv 0) pe_int (fun _ _ => rfl)) (pv 1)) (pg_sub (pv 0) pe_int set_list))
    (pss_one (ps_ret (pv 2))))), ?_⟩
  refine ⟨_, rfl, tp, _, _, _, rfl, rfl, SqL.of hz, at0, _, rfl, _, _, rfl, rfl, h0, ?_⟩
  refine ⟨_, rfl, tp, _, _, _, rfl, rfl, SqL.of hz, at0, _, rfl, _, _, rfl, rfl, ⟨h0, log_many h0 h1⟩, ?_⟩
  refine ⟨_, rfl, tp, _, _, 0, rfl, rfl, hz, rfl, ?_⟩
  refine ⟨_, rfl, q _ _ (Int.emod_nonneg _ (by omega)) (Int.emod_lt_of_pos _ h0) (fun b o n h => ?_) ⟨_, upd_same⟩⟩
  rw [upd_ne n]
  exact h
/-! ### _law_number -/
def spNum : Sp := fun vs H Q _ => ∃ (tp : Addr), vs = [.ref tp] ∧ Tp H tp ∧ ∀ r H', But1 tp H H' → Tp H' tp → Q (.int r) H'
abbrev s_law_number : Stmt := top 29
theorem scLnumber : FnScope ["tape", "way"] ["tape"] (defScope s_law_number) := ⟨rfl, rfl, rfl, by decide +kernel, rfl, by decide +kernel, by decide +kernel⟩
theorem at_some {xs : List V} {i : Int} (h0 : 0 ≤ i) (h1 : i < (xs.length : Int)) : ∃ v, atI xs i = some v ∧ v ∈ xs := by
  have h : i.toNat < xs.length := by omega
  exact ⟨xs[i.toNat], at_of (j := i.toNat) (by omega) (List.getElem?_eq_getElem h), List.getElem_mem h⟩
theorem ok_num {f g : Addr} {fd gd : FuncData} (F : Fun K "_law_number" "_law_number" s_law_number f fd) (G_law_digit : FnOk P w K mg base CX0 1 g gd ["tape", "many"] spDig) (R_law_digit : Ref K mg "_law_digit" g gd ["tape", "many"]) : FnOk P w K mg base CX0 2 f fd ["tape"] spNum := by
  refine F.ok scLnumber (fun vs H Q E h => ?_) (fun cdv A outer s H vs Q E hr h => ?_)
  · obtain ⟨tp, rfl, _⟩ := h
    rfl
  obtain ⟨tp, rfl, ht, q⟩ := h
  refine ⟨_, (pss_cons (ps_set (i := 1) scLnumber.nd rfl (Or.inl rfl) (pe_call G_law_digit hr rfl R_law_digit.m R_law_digit.k R_law_digit.b .nil pass0 (pa_cons (pv 0) (pa_cons pe_int pa_nil))))
    (pss_cons (ps_if (pt_cmpR op_eq (pv 1) pe_int (nomark _)) (pss_one (ps_ret (pe_call G_law_digit hr rfl R_law_digit.m R_law_digit.k R_law_digit.b .nil pass0 (pa_cons (pv 0) (pa_cons pe_int pa_nil))))) pss_nil)
    (pss_one (ps_ret (pe_ix ix_list (pe_lst (pa_cons pe_int (pa_cons pe_int (pa_cons pe_int (pa_cons pe_int (pa_cons pe_int pa_nil)))))) (pv 1) (fun _ _ => rfl)))))), ?_⟩
  refine ⟨_, rfl, tp, 6, rfl, ht, by decide, by decide, fun r H1 r0 r1 k1 t1 => ?_⟩
  refine ⟨_, rfl, rfl, _, rfl, ?_⟩
  refine ite2 (fun c => ?_) (fun c => ?_)
  · exact ⟨_, rfl, tp, 1000, rfl, t1, by decide, by decide, fun r2 H2 _ _ k2 t2 => q r2 H2 (k1.trans k2) t2⟩
  · have c' : r ≠ 5 := fun z => c (decide_eq_true (congrArg V.int z))
    refine ⟨sz (by show 5 ≤ 100000; decide), fun p hp => ?_⟩
    have np : tp ≠ p := by
      obtain ⟨z, hz⟩ := t1
      exact ne_of_none hz hp
    obtain ⟨v, hv, hm⟩ := at_some (xs := [V.int 0, .int 1, .int 1, .int 2, .int 3]) (i := r) r0 (by show r < 5; omega)
    have hi : ∃ n, v = V.int n := by
      simp only [List.mem_cons, List.not_mem_nil, or_false] at hm
      rcases hm with z | z | z | z | z <;> exact ⟨_, z⟩
    obtain ⟨n, rfl⟩ := hi
    refine ⟨_, rfl, p, _, _, _, rfl, rfl, SqL.of upd_same, hv, ?_⟩
    refine q n _ (k1.trans (but_same (same_new hp _))) ?_
    obtain ⟨z, hz⟩ := t1
    exact ⟨z, same_new hp _ _ _ hz⟩
end
end KB

namespace KB
open PySem L2

/-! ### good terms -/
def okH : Hd → Prop
  | .nam x | .lett x | .ask x => isW x = true
  | _ => True
def okT : Tm → Prop
  | .mk h _ k => okH h ∧ ∀ i, okT (k i)
def HtLe : Nat → Tm → Prop
  | 0, _ => False
  | n + 1, .mk _ _ k => ∀ i, HtLe n (k i)
theorem HtLe.up : ∀ {n : Nat} {t : Tm}, HtLe n t → HtLe (n + 1) t
  | 0, _, h => h.elim
  | n + 1, .mk _ _ _, h => fun i => HtLe.up (n := n) (h i)
theorem HtLe.le {n m : Nat} {t : Tm} (h : HtLe n t) (e : n ≤ m) : HtLe m t := by
  induction e with
  | refl => exact h
  | step _ ih => exact ih.up
/-- each name within its word's reach, each ask with as many terms as hd says -/
def okN (hd : Str → Option Nat) : Hd → Nat → List Str → Prop
  | .nam x, _, xs => x ∈ xs
  | .ask f, n, _ => hd f = some n
  | _, _, _ => True
def inn : Hd → Nat → List Str → List Str
  | .lett x, 1, xs => xs ++ [x]
  | _, _, xs => xs
def okS (hd : Str → Option Nat) : Tm → List Str → Prop
  | .mk h n k, xs => okN hd h n xs ∧ ∀ i, okS hd (k i) (inn h i.val xs)
def mkL (h : Hd) (ts : List Tm) : Tm := .mk h ts.length fun i => ts.get i
theorem ofFn_get (ts : List Tm) : List.ofFn (fun i => ts.get i) = ts := by
  refine List.ext_getElem (by simp) fun i h1 h2 => ?_
  simp
theorem cnt_mkL {h : Hd} {ts : List Tm} : cnt (mkL h ts) = 1 + cnts ts := by
  unfold mkL
  rw [cnt_mk, ofFn_get]
theorem ok_mkL {h : Hd} {ts : List Tm} (a : okH h) (b : ∀ t ∈ ts, okT t) : okT (mkL h ts) := ⟨a, fun i => b _ (List.get_mem ts i)⟩
theorem ht_mkL {n : Nat} {h : Hd} {ts : List Tm} (b : ∀ t ∈ ts, HtLe n t) : HtLe (n + 1) (mkL h ts) := fun i => b _ (List.get_mem ts i)
theorem sc_mkL {hd : Str → Option Nat} {h : Hd} {ts : List Tm} {xs : List Str} (a : okN hd h ts.length xs) (b : ∀ i t, ts[i]? = some t → okS hd t (inn h i xs)) : okS hd (mkL h ts) xs :=
  ⟨a, fun i => b i.val _ (by rw [List.getElem?_eq_getElem i.isLt]; rfl)⟩
theorem lt_mkL {h : Hd} {ts : List Tm} : letsOf (mkL h ts) = hdLets h ++ letsL ts := by
  unfold mkL
  rw [lets_mk, ofFn_get]
theorem letsL_app (a b : List Tm) : letsL (a ++ b) = letsL a ++ letsL b := by
  unfold letsL
  rw [List.map_append, List.flatten_append]
theorem letsL_cons (t : Tm) (r : List Tm) : letsL (t :: r) = letsOf t ++ letsL r := by
  unfold letsL
  rw [List.map_cons, List.flatten_cons]
theorem stk_fn {H : Hp} : ∀ {vs : List V} {ts : List Tm}, Stk H vs ts → ∃ ys : _root_.Fin ts.length → Addr, Rfs ys = vs ∧ ∀ i, At H (ts.get i) (ys i)
  | [], [], _ => ⟨fun i => i.elim0, rfl, fun i => i.elim0⟩
  | v :: vs, t :: ts, h => by
    obtain ⟨⟨b, e, hb⟩, hr⟩ := h
    subst e
    obtain ⟨ys, e1, e2⟩ := stk_fn hr
    refine ⟨fun i => match i with | ⟨0, _⟩ => b | ⟨j + 1, hj⟩ => ys ⟨j, Nat.lt_of_succ_lt_succ hj⟩, ?_, ?_⟩
    · unfold Rfs
      show List.ofFn (n := ts.length + 1) _ = _
      rw [List.ofFn_succ, ← e1]
      rfl
    · rintro ⟨j, hj⟩
      cases j with
      | zero => exact hb
      | succ j => exact e2 ⟨j, Nat.lt_of_succ_lt_succ hj⟩
  | [], _ :: _, h => h.elim
  | _ :: _, [], h => h.elim
theorem at_mkL {H : Hp} {a : Addr} {h : Hd} {vs : List V} {ts : List Tm} (l : Lay H a h vs) (s : Stk H vs ts) : At H (mkL h ts) a := by
  obtain ⟨ys, e1, e2⟩ := stk_fn s
  refine ⟨ys, ?_, e2⟩
  rw [e1]
  exact l
/-- a new good term at a, of at most n terms, within at most d -/
structure Gd (H : Hp) (a : Addr) (n d : Nat) (hd : Str → Option Nat) (xs ls : List Str) (t : Tm) : Prop where
  at_ : At H t a
  ok : okT t
  cn : cnt t ≤ n
  dp : HtLe d t
  sc : okS hd t xs
  lt : letsOf t = ls
theorem Gd.tk {H H' : Hp} {a : Addr} {n d : Nat} {hd : Str → Option Nat} {xs ls : List Str} {t : Tm} (e : TK H H') (g : Gd H a n d hd xs ls t) : Gd H' a n d hd xs ls t := ⟨g.at_.tk e, g.ok, g.cn, g.dp, g.sc, g.lt⟩
theorem Gd.le {H : Hp} {a : Addr} {n d m e : Nat} {hd : Str → Option Nat} {xs ls : List Str} {t : Tm} (g : Gd H a n d hd xs ls t) (h1 : n ≤ m) (h2 : d ≤ e) : Gd H a m e hd xs ls t := ⟨g.at_, g.ok, Nat.le_trans g.cn h1, g.dp.le h2, g.sc, g.lt⟩
theorem gd_num {H : Hp} {a : Addr} {z : Int} {hd : Str → Option Nat} {xs : List Str} (l : Lay H a (.num z) []) : Gd H a 1 1 hd xs [] (mkL (.num z) []) :=
  ⟨at_mkL l trivial, ok_mkL trivial (fun _ z => nomatch z), (by rw [cnt_mkL]; exact Nat.le_refl 1), ht_mkL (n := 0) (fun _ z => nomatch z), sc_mkL trivial (fun _ _ z => by simp at z), lt_mkL⟩
theorem gd_nam {H : Hp} {a : Addr} {x : Str} {hd : Str → Option Nat} {xs : List Str} (l : Lay H a (.nam x) []) (o : isW x = true) (m : x ∈ xs) : Gd H a 1 1 hd xs [] (mkL (.nam x) []) :=
  ⟨at_mkL l trivial, ok_mkL o (fun _ z => nomatch z), (by rw [cnt_mkL]; exact Nat.le_refl 1), ht_mkL (n := 0) (fun _ z => nomatch z), sc_mkL m (fun _ _ z => by simp at z), lt_mkL⟩

section
variable {P : Program} {w : World} {K : PySem.W.Frag} {mg : Str → Option Value} {base : Heap}
/-! ### _law_leaf -/
def spLeaf : Sp := fun vs H Q _ => ∃ (tp : Addr) (kv : V) (ar : Addr) (xs : List Str), vs = [.ref tp, kv, .ref ar] ∧ Tp H tp ∧ Wls H ar xs ∧ xs.length ≤ 1000 ∧ ∀ a t H', But1 tp H H' → Tp H' tp → (∀ hd, Gd H' a 1 1 hd xs [] t) → Q (.ref a) H'
abbrev s_law_leaf : Stmt := top 30
theorem scLleaf : FnScope ["tape", "known", "around"] ["tape", "known", "around"] (defScope s_law_leaf) := ⟨rfl, rfl, rfl, by decide +kernel, rfl, by decide +kernel, by decide +kernel⟩
theorem Tp.same {H H' : Hp} {tp : Addr} (e : Same H H') (t : Tp H tp) : Tp H' tp := let ⟨z, h⟩ := t; ⟨z, e _ _ h⟩
theorem ok_leaf (T : Txt K mg) {f g h : Addr} {fd gd hd : FuncData} (F : Fun K "_law_leaf" "_law_leaf" s_law_leaf f fd) (G_law_digit : FnOk P w K mg base CX0 1 g gd ["tape", "many"] spDig) (R_law_digit : Ref K mg "_law_digit" g gd ["tape", "many"])
    (G_law_number : FnOk P w K mg base CX0 2 h hd ["tape"] spNum) (R_law_number : Ref K mg "_law_number" h hd ["tape"]) : FnOk P w K mg base CX0 3 f fd ["tape", "known", "around"] spLeaf := by
  refine F.ok scLleaf (fun vs H Q E h => ?_) (fun cdv A outer s H vs Q E hr h => ?_)
  · obtain ⟨tp, kv, ar, xs, rfl, _⟩ := h
    rfl
  obtain ⟨tp, kv, ar, xs, rfl, ht, hw, hl, q⟩ := h
  refine ⟨_, (pss_cons (ps_if (PW.pt (pw_and (pt_cmpR (op_neD hr.units) (pv 2) (pe_lst pa_nil) (nomark _)) (pw_and1 (pt_cmpR op_gt (pe_call G_law_digit (hr.mono (by omega)) rfl R_law_digit.m R_law_digit.k R_law_digit.b .nil pass0 (pa_cons (pv 0) (pa_cons pe_int pa_nil))) pe_int (nomark _))))) (pss_one (ps_ret (pe_tup (pa_cons pe_str (pa_cons (pe_ix ix_list (pv 2) (pe_call G_law_digit (hr.mono (by omega)) rfl R_law_digit.m R_law_digit.k R_law_digit.b .nil pass0 (pa_cons (pv 0) (pa_cons (pe_callB call_len_seq (by rfl) T.m_len PySem.boot_len (pa_cons (pv 2) pa_nil)) pa_nil))) (fun _ _ => rfl)) pa_nil))))) pss_nil)
    (pss_one (ps_ret (pe_tup (pa_cons pe_str (pa_cons (pe_call G_law_number hr rfl R_law_number.m R_law_number.k R_law_number.b .nil pass0 (pa_cons (pv 0) pa_nil)) pa_nil)))))), ?_⟩
  have numW : ∀ H1, But1 tp H H1 → Tp H1 tp → (tRet (tTup (tCons (tC (.str "number")) (tCons (tCall spNum [] E0 (tCons (tVar 0) tNil)) tNil)))) { nx := fun x H' => Q V.non H', rt := Q } [some (.ref tp), some kv, some (.ref ar)] H1 := by
    intro H1 k1 t1
    refine ⟨_, rfl, tp, rfl, t1, fun r H2 k2 t2 => ⟨sz (by show 2 ≤ 100000; decide), fun p hp => ?_⟩⟩
    have s := same_new hp (.tup [.str "number", .int r])
    exact q p (mkL (.num r) []) _ ((k1.trans k2).trans (but_same s)) (t2.same s) (fun _ => gd_num ⟨rfl, upd_same⟩)
  refine ⟨_, rfl, sz (by show 0 ≤ 100000; decide), fun p0 hp0 => ?_⟩
  have s0 := same_new hp0 (.lst [])
  refine ⟨.list (xs.map PyData.str), .list [], .lst (SqL.of (s0 _ _ hw.1)) (dp_strs xs), .lst (SqL.of upd_same) .nil, shaped_strs hw.2, rfl, _, rfl, ?_⟩
  rw [eqv_nil]
  cases xs with
  | nil => exact iteF (numW _ (but_same s0) (ht.same s0))
  | cons x0 xr =>
    refine iteT ⟨_, rfl, tp, 3, rfl, ht.same s0, by decide, by decide, fun r H1 r0 r1 k1 t1 => ?_⟩
    have k01 := (but_same s0).trans k1
    refine ⟨_, _, rfl, rfl, _, rfl, ?_⟩
    refine ite2 (fun c => ?_) (fun c => ?_)
    · have w1 := hw.but k01 ht
      refine ⟨_, rfl, _, rfl, _, rfl, ar, _, rfl, .inl (SqL.of w1.1), tp, _, rfl, t1, ?_, ?_, fun r2 H2 r3 r4 k2 t2 => ?_⟩
      · show (0 : Int) < (((x0 :: xr).map V.str).length : Nat)
        rw [List.length_map, List.length_cons]
        omega
      · rw [List.length_map]
        omega
      have w2 := w1.but k2 t1
      obtain ⟨v, hv, hm⟩ := at_some r3 r4
      obtain ⟨z, hz, rfl⟩ := List.mem_map.mp hm
      refine ⟨ar, _, _, _, rfl, rfl, SqL.of w2.1, hv, sz (by show 2 ≤ 100000; decide), fun p hp => ?_⟩
      have s := same_new hp (.tup [.str "name", .str z])
      exact q p (mkL (.nam z) []) _ ((k01.trans k2).trans (but_same s)) (t2.same s) (fun _ => gd_nam ⟨rfl, upd_same⟩ (hw.2 z hz) hz)
    · exact numW _ k01 t1
/-! ### _law_shares -/
def spShr : Sp := fun vs H Q _ => ∃ (tp : Addr) (room many : Int), vs = [.ref tp, .int room, .int many] ∧ Tp H tp ∧ 0 ≤ many ∧ many ≤ room ∧ room ≤ 1000 ∧
  ∀ (p : Addr) (xs : List Int) (H' : Hp), But1 tp H H' → Tp H' tp → H p = none → H' p = some (.lst (xs.map V.int)) → (xs.length : Int) = many → (∀ x ∈ xs, (1 : Int) ≤ x) → xs.sum ≤ room → Q (.ref p) H'
abbrev s_law_shares : Stmt := top 31
theorem scLshares : FnScope ["tape", "room", "many", "found", "left", "k", "more"] ["tape", "room", "many"] (defScope s_law_shares) := ⟨rfl, rfl, rfl, by decide +kernel, rfl, by decide +kernel, by decide +kernel⟩
theorem rep1 (n : Nat) : (List.replicate n [V.int 1]).flatten = (List.replicate n (1 : Int)).map V.int := by
  induction n with
  | zero => rfl
  | succ n ih =>
    rw [List.replicate_succ, List.flatten_cons, ih, List.replicate_succ]
    rfl
theorem sum1 (n : Nat) : (List.replicate n (1 : Int)).sum = n := by
  induction n with
  | zero => rfl
  | succ n ih =>
    rw [List.replicate_succ, List.sum_cons, ih]
    omega
theorem ok_shares (T : Txt K mg) {f g : Addr} {fd gd : FuncData} (F : Fun K "_law_shares" "_law_shares" s_law_shares f fd) (G_law_digit : FnOk P w K mg base CX0 1 g gd ["tape", "many"] spDig) (R_law_digit : Ref K mg "_law_digit" g gd ["tape", "many"]) : FnOk P w K mg base CX0 2 f fd ["tape", "room", "many"] spShr := by
  refine F.ok scLshares (fun vs H Q E h => ?_) (fun cdv A outer s H vs Q E hr h => ?_)
  · obtain ⟨tp, room, many, rfl, _⟩ := h
    rfl
  obtain ⟨tp, room, many, rfl, ht, h0, h1, h2, q⟩ := h
  refine ⟨_, (pss_cons (ps_set (i := 3) scLshares.nd rfl (Or.inl rfl) (pe_op op_rep (pe_lst (pa_cons pe_int pa_nil)) (pv 2)))
    (pss_cons (ps_set (i := 4) scLshares.nd rfl (Or.inl rfl) (pe_op op_sub (pv 1) (pv 2)))
    (pss_cons (ps_for PassesOwn.never rfl (pi_range1 rfl T.m_range (pa_cons (pv 2) pa_nil)) (pg_name (i := 5) scLshares.nd rfl (Or.inl rfl)) (pss_cons (ps_set (i := 6) scLshares.nd rfl (Or.inl rfl) (pe_call G_law_digit hr rfl R_law_digit.m R_law_digit.k R_law_digit.b .nil pass0 (pa_cons (pv 0) (pa_cons (pe_op op_add (pv 4) pe_int) pa_nil))))
    (pss_cons (ps_asg (pe_op op_add (pe_ix ix_list (pv 3) (pv 5) (fun _ _ => rfl)) (pv 6)) (pg_sub (pv 3) (pv 5) set_list))
    (pss_one (ps_set (i := 4) scLshares.nd rfl (Or.inl rfl) (pe_op op_sub (pv 4) (pv 6)))))))
    (pss_one (ps_ret (pv 3)))))), ?_⟩
  refine ⟨sz (by show 1 ≤ 100000; decide), fun p1 hp1 => ?_⟩
  have s1 := same_new hp1 (.lst [.int 1])
  refine ⟨_, rfl, p1, _, _, rfl, rfl, upd_same, by omega, by omega, sz (by show 1 * many.toNat ≤ 100000; omega), fun fl hfl => ?_⟩
  have s2 := same_new hfl (.lst (List.replicate many.toNat [V.int 1]).flatten)
  have s12 := s1.trans s2
  have hfl0 : H fl = none := s1.free hfl
  have f1 : upd (upd H p1 (.lst [.int 1])) fl (.lst (List.replicate many.toNat [V.int 1]).flatten) fl = some (.lst ((List.replicate many.toNat (1 : Int)).map V.int)) := by
    rw [upd_same, rep1]
  refine ⟨_, rfl, _, rfl, _, _, rfl, rfl, ?_⟩
  refine ⟨_, rfl, many, rfl, by omega, by omega, ?_⟩
  have ntp : fl ≠ tp := by
    obtain ⟨z, hz⟩ := ht
    exact (ne_of_none hz hfl0).symm
  refine for_range (lo := 0) (n := many.toNat) (fun i σ H' => ∃ left o5 o6 xs, σ = [some (.ref tp), some (.int room), some (.int many), some (.ref fl), some (.int left), o5, o6] ∧ But1 tp H H' ∧ Tp H' tp ∧ H' fl = some (.lst ((xs : List Int).map V.int)) ∧
    (xs.length : Int) = many ∧ (∀ x ∈ xs, (1 : Int) ≤ x) ∧ xs.sum + left = room ∧ 0 ≤ left) ?_ ?_ ?_
  · refine ⟨_, _, _, List.replicate many.toNat 1, rfl, but_same s12, ht.same s12, f1, ?_, ?_, ?_, by omega⟩
    · rw [List.length_replicate]
      omega
    · intro x hx
      rw [(List.mem_replicate.mp hx).2]
      decide
    · rw [sum1]
      omega
  · rintro i σ H1 hi ⟨left, o5, o6, xs, rfl, k1, t1, g1, g2, g3, g4, g5⟩
    refine ⟨_, rfl, _, rfl, _, _, rfl, rfl, tp, _, rfl, t1, by omega, ?_, fun r H2 r0 r1 k2 t2 => ?_⟩
    · have : xs.sum ≥ 0 := by
        clear g1 g2 g4
        induction xs with
        | nil => decide
        | cons x r ih =>
          have e1 := g3 x List.mem_cons_self
          have e2 := ih fun y hy => g3 y (List.mem_cons_of_mem _ hy)
          rw [List.sum_cons]
          omega
      omega
    have g6 := k2 _ _ ntp g1
    have hi2 : i < xs.length := by omega
    have hx : xs[i]? = some xs[i] := List.getElem?_eq_getElem hi2
    have e0 : (0 : Int) + (i : Nat) = ((i : Nat) : Int) := by omega
    refine ⟨_, rfl, _, rfl, fl, _, _, .int xs[i], rfl, rfl, SqL.of g6, ?_, _, rfl, _, _, rfl, rfl, ?_⟩
    · rw [e0]
      exact atI_nat (by rw [List.getElem?_map, hx]; rfl)
    refine ⟨_, rfl, _, rfl, fl, _, _, i, rfl, rfl, g6, ?_, ?_⟩
    · rw [e0, List.length_map]
      unfold ixN
      rw [if_pos (by omega), if_pos (by omega)]
      rfl
    refine ⟨_, rfl, _, rfl, _, _, rfl, rfl, ?_⟩
    refine ⟨_, _, _, xs.set i (xs[i] + r), rfl, fun b o n h => ?_, ?_, ?_, ?_, ?_, ?_, by omega⟩
    · by_cases e : b = fl
      · subst e
        rw [hfl0] at h
        cases h
      · rw [upd_ne e]
        exact k2 _ _ n (k1 _ _ n h)
    · obtain ⟨z, hz⟩ := t2
      exact ⟨z, by rw [upd_ne (Ne.symm ntp)]; exact hz⟩
    · rw [upd_same, List.map_set]
    · rw [List.length_set]
      exact g2
    · intro x hx'
      rcases List.mem_or_eq_of_mem_set hx' with z | z
      · exact g3 x z
      · have := g3 _ (List.getElem_mem hi2)
        omega
    · rw [sum_set hx]
      omega
  · rintro σ H1 ⟨left, o5, o6, xs, rfl, k1, t1, g1, g2, g3, g4, g5⟩
    exact ⟨_, rfl, q fl xs H1 k1 t1 hfl0 g1 g2 g3 (by omega)⟩
/-! ### _law_less_one -/
def spLess : Sp := fun vs H Q _ => ∃ (ar : Addr) (xs : List Str), vs = [.ref ar] ∧ Wls H ar xs ∧ ∀ a t H', Same H H' → (∀ hd, Gd H' a 3 2 hd xs [] t) → Q (.ref a) H'
abbrev s_law_less_one : Stmt := top 32
theorem scLless_one : FnScope ["around"] ["around"] (defScope s_law_less_one) := ⟨rfl, rfl, rfl, by decide +kernel, rfl, by decide +kernel, by decide +kernel⟩
theorem ok_less {f : Addr} {fd : FuncData} (F : Fun K "_law_less_one" "_law_less_one" s_law_less_one f fd) : FnOk P w K mg base CX0 1 f fd ["around"] spLess := by
  refine F.ok scLless_one (fun vs H Q E h => ?_) (fun cdv A outer s H vs Q E hr h => ?_)
  · obtain ⟨ar, xs, rfl, _⟩ := h
    rfl
  obtain ⟨ar, xs, rfl, hw, q⟩ := h
  refine ⟨_, (pss_cons (ps_if (pt_cmpR (op_eqD hr.units) (pv 0) (pe_lst pa_nil) (nomark _)) (pss_one (ps_ret (pe_tup (pa_cons pe_str (pa_cons pe_int pa_nil))))) pss_nil)
    (pss_one (ps_ret (pe_tup (pa_cons pe_str (pa_cons (pe_tup (pa_cons pe_str (pa_cons (pe_ix ix_list (pv 0) pe_int (fun _ _ => rfl)) pa_nil))) (pa_cons (pe_tup (pa_cons pe_str (pa_cons pe_int pa_nil))) pa_nil))))))), ?_⟩
  refine ⟨_, rfl, sz (by show 0 ≤ 100000; decide), fun p0 hp0 => ?_⟩
  have s0 := same_new hp0 (.lst [])
  refine ⟨.list (xs.map PyData.str), .list [], .lst (SqL.of (s0 _ _ hw.1)) (dp_strs xs), .lst (SqL.of upd_same) .nil, shaped_strs hw.2, rfl, _, rfl, ?_⟩
  rw [eqv_nil]
  cases xs with
  | nil =>
    refine iteT ⟨sz (by show 2 ≤ 100000; decide), fun p hp => ?_⟩
    exact q p (mkL (.num 0) []) _ (s0.trans (same_new hp _)) (fun _ => (gd_num ⟨rfl, upd_same⟩).le (by decide) (by decide))
  | cons x0 xr =>
    refine iteF ⟨_, rfl, ar, _, _, _, rfl, rfl, SqL.of (s0 _ _ hw.1), at0, sz (by show 2 ≤ 100000; decide), fun p1 hp1 => ?_⟩
    have s1 := same_new hp1 (.tup [.str "name", .str x0])
    refine ⟨sz (by show 2 ≤ 100000; decide), fun p2 hp2 => ?_⟩
    have s2 := same_new hp2 (.tup [.str "number", .int 1])
    refine ⟨sz (by show 3 ≤ 100000; decide), fun p3 hp3 => ?_⟩
    have s3 := same_new hp3 (.tup [.str "less", .ref p1, .ref p2])
    have s23 := s2.trans s3
    have l1 : Lay _ p1 (.nam x0) [] := ⟨rfl, s23 _ _ upd_same⟩
    have l2 : Lay _ p2 (.num 1) [] := ⟨rfl, s3 _ _ upd_same⟩
    refine q p3 (mkL .less [mkL (.nam x0) [], mkL (.num 1) []]) _ (s0.trans (s1.trans s23)) fun hd => ?_
    have g1 := gd_nam (hd := hd) (xs := x0 :: xr) l1 (hw.2 x0 List.mem_cons_self) List.mem_cons_self
    have g2 := gd_num (hd := hd) (xs := x0 :: xr) l2
    refine ⟨?_, ?_, ?_, ?_, ?_, ?_⟩
    · exact at_mkL (vs := [.ref p1, .ref p2]) ⟨rfl, upd_same⟩ ⟨⟨p1, rfl, g1.at_⟩, ⟨p2, rfl, g2.at_⟩, trivial⟩
    · refine ok_mkL trivial fun t ht => ?_
      simp only [List.mem_cons, List.not_mem_nil, or_false] at ht
      rcases ht with z | z
      · subst z
        exact g1.ok
      · subst z
        exact g2.ok
    · have c1 := g1.cn
      have c2 := g2.cn
      rw [cnt_mkL, cnts_cons, cnts_cons]
      show 1 + (_ + (_ + 0)) ≤ 3
      omega
    · refine ht_mkL fun t ht => ?_
      simp only [List.mem_cons, List.not_mem_nil, or_false] at ht
      rcases ht with z | z
      · subst z
        exact g1.dp
      · subst z
        exact g2.dp
    · refine sc_mkL trivial fun i t hi => ?_
      match i, hi with
      | 0, hi =>
        cases (Option.some.inj hi)
        exact g1.sc
      | 1, hi =>
        cases (Option.some.inj hi)
        exact g2.sc
      | i + 2, hi => simp at hi
    · rw [lt_mkL, letsL_cons, letsL_cons, g1.lt, g2.lt]
      rfl
end
end KB

namespace KB
open PySem L2

/-! ### what a generator of terms has at hand -/
def But2 (tp wl : Addr) (H H' : Hp) : Prop := ∀ b o, b ≠ tp → b ≠ wl → H b = some o → H' b = some o
theorem But2.refl (tp wl : Addr) (H : Hp) : But2 tp wl H H := fun _ _ _ _ h => h
theorem But2.trans {tp wl : Addr} {H H1 H2 : Hp} (a : But2 tp wl H H1) (b : But2 tp wl H1 H2) : But2 tp wl H H2 := fun x o n m h => b x o n m (a x o n m h)
theorem But1.two {tp wl : Addr} {H H' : Hp} (a : But1 tp H H') : But2 tp wl H H' := fun x o n _ h => a x o n h
theorem but2_same {tp wl : Addr} {H H' : Hp} (e : Same H H') : But2 tp wl H H' := fun b o _ _ h => e b o h
def kwE : Key := Sum.inr "errands"
def kwH : Key := Sum.inr "heads"
def kwW : Key := Sum.inr "words"
def knD (el hd wl : Addr) : List (Key × V) := [(Sum.inr "errands", .ref el), (Sum.inr "heads", .ref hd), (Sum.inr "words", .ref wl)]
structure GS (H : Hp) (tp kd wl : Addr) (hF : Str → Option Nat) (ws : List Str) : Prop where
  t : Tp H tp
  w : Wls H wl ws
  wn : ws.length ≤ 100
  k : ∃ el hd fs kvs, H kd = some (.dK (knD el hd wl)) ∧ el ≠ wl ∧ Wls H el fs ∧ 0 < fs.length ∧ fs.length ≤ 100 ∧ H hd = some (.dK kvs) ∧ ∀ f ∈ fs, ∃ n : Int, valV kvs (Sum.inr f) = some (.int n) ∧ 0 ≤ n ∧ n ≤ 4 ∧ hF f = some n.toNat
theorem GS.ntk {H : Hp} {tp kd wl : Addr} {hF : Str → Option Nat} {ws : List Str} (g : GS H tp kd wl hF ws) {a : Addr} {o : HO} (h : H a = some o) (hn : ∀ xs, o ≠ .lst xs) : a ≠ tp ∧ a ≠ wl := by
  obtain ⟨z, hz⟩ := g.t
  exact ⟨ne_of h hz (hn _), ne_of h g.w.1 (hn _)⟩
theorem GS.tk {H H' : Hp} {tp kd wl : Addr} {hF : Str → Option Nat} {ws : List Str} (g : GS H tp kd wl hF ws) (b : But2 tp wl H H') : TK H H' := fun a _ h => by
  obtain ⟨n1, n2⟩ := g.ntk h (fun _ z => nomatch z)
  exact b a _ n1 n2 h
theorem GS.step {H H' : Hp} {tp kd wl : Addr} {hF : Str → Option Nat} {ws ws' : List Str} (g : GS H tp kd wl hF ws) (b : But2 tp wl H H') (t : Tp H' tp) (w : Wls H' wl ws') (wn : ws'.length ≤ 100) : GS H' tp kd wl hF ws' := by
  obtain ⟨el, hd, fs, kvs, k1, k2, k3, k4, k5, k6, k7⟩ := g.k
  refine ⟨t, w, wn, el, hd, fs, kvs, ?_, k2, ⟨b _ _ (wls_tp k3.1 g.t) k2 k3.1, k3.2⟩, k4, k5, ?_, k7⟩
  · obtain ⟨n1, n2⟩ := g.ntk k1 (fun _ z => nomatch z)
    exact b _ _ n1 n2 k1
  · obtain ⟨n1, n2⟩ := g.ntk k6 (fun _ z => nomatch z)
    exact b _ _ n1 n2 k6
theorem GS.one {H H' : Hp} {tp kd wl : Addr} {hF : Str → Option Nat} {ws : List Str} (g : GS H tp kd wl hF ws) (b : But1 tp H H') (t : Tp H' tp) : GS H' tp kd wl hF ws :=
  g.step b.two t (g.w.but b g.t) g.wn
theorem GS.same {H H' : Hp} {tp kd wl : Addr} {hF : Str → Option Nat} {ws : List Str} (g : GS H tp kd wl hF ws) (e : Same H H') : GS H' tp kd wl hF ws := g.one (but_same e) (g.t.same e)
theorem Wls.two {tp kd wl a : Addr} {H H' : Hp} {xs : List Str} {hF : Str → Option Nat} {ws : List Str} (e : But2 tp wl H H') (g : GS H tp kd wl hF ws) (n : a ≠ wl) (h : Wls H a xs) : Wls H' a xs := ⟨e _ _ (wls_tp h.1 g.t) n h.1, h.2⟩
/-- an object that was new stays -/
theorem GS.new {tp kd wl : Addr} {H : Hp} {hF : Str → Option Nat} {ws : List Str} (g : GS H tp kd wl hF ws) {p : Addr} (h : H p = none) : p ≠ tp ∧ p ≠ wl := by
  obtain ⟨z, hz⟩ := g.t
  exact ⟨(ne_of_none hz h).symm, (ne_of_none g.w.1 h).symm⟩
theorem But2.put {tp wl : Addr} {H H' : Hp} {p : Addr} {o : HO} (e : But2 tp wl H H') (h : H p = none) : But2 tp wl H (upd H' p o) := fun a u n m ha => by
  rw [upd_ne (ne_of_none ha h)]
  exact e _ _ n m ha
theorem GS.put {tp kd wl : Addr} {H : Hp} {hF : Str → Option Nat} {ws : List Str} (g : GS H tp kd wl hF ws) {p : Addr} {o o' : HO} (h : H p = some o) (n1 : p ≠ tp) (n2 : p ≠ wl) (n3 : p ≠ kd) (n4 : ∀ kvs, o ≠ .dK kvs) (n5 : ∀ x : Str, ∀ xs, o ≠ .lst (.str x :: xs)) : GS (upd H p o') tp kd wl hF ws := by
  obtain ⟨el, hd, fs, kvs, k1, k2, k3, k4, k5, k6, k7⟩ := g.k
  obtain ⟨z, hz⟩ := g.t
  refine ⟨⟨z, by rw [upd_ne n1.symm]; exact hz⟩, ⟨by rw [upd_ne n2.symm]; exact g.w.1, g.w.2⟩, g.wn, el, hd, fs, kvs, by rw [upd_ne n3.symm]; exact k1, k2, ⟨?_, k3.2⟩, k4, k5, ?_, k7⟩
  · have ne : el ≠ p := by
      rintro rfl
      rw [k3.1] at h
      cases fs with
      | nil => exact absurd k4 (Nat.lt_irrefl 0)
      | cons x r => exact n5 x _ (Option.some.inj h).symm
    rw [upd_ne ne]
    exact k3.1
  · have ne : hd ≠ p := by
      rintro rfl
      rw [k6] at h
      exact n4 _ (Option.some.inj h).symm
    rw [upd_ne ne]
    exact k6
theorem get_errands {H : Hp} {kd el hd wl : Addr} (h : H kd = some (.dK (knD el hd wl))) : DGet H kd (.str "errands") (some (.ref el)) := DGet.k (k := kwE) h
theorem get_heads {H : Hp} {kd el hd wl : Addr} (h : H kd = some (.dK (knD el hd wl))) : DGet H kd (.str "heads") (some (.ref hd)) := DGet.k (k := kwH) h
theorem get_words {H : Hp} {kd el hd wl : Addr} (h : H kd = some (.dK (knD el hd wl))) : DGet H kd (.str "words") (some (.ref wl)) := DGet.k (k := kwW) h
theorem get_of {H : Hp} {hd : Addr} {kvs : List (Key × V)} {f : Str} {v : V} (h : H hd = some (.dK kvs)) (e : valV kvs (Sum.inr f) = some v) : DGet H hd (.str f) (some v) := by
  have := DGet.k (k := Sum.inr f) h
  rw [e] at this
  exact this
theorem small64 {x : Int} (h0 : 0 ≤ x) (h1 : x < 1000000) : -(2 ^ 64) < x ∧ x < 2 ^ 64 := by
  have e : (2 : Int) ^ 64 = 18446744073709551616 := by decide
  rw [e]
  omega

theorem conv_v {Q : V → Hp → Prop} {x y : V} {H : Hp} (e : x = y) (h : Q y H) : Q x H := e ▸ h
theorem ite_share {c : Prop} [Decidable c] {A B P : Prop} (hB : P → B) (hP : ¬ c → P) (hA : c → (P → B) → A) : if c then A else B := by
  by_cases h : c
  · rw [if_pos h]
    exact hA h hB
  · rw [if_neg h]
    exact hB (hP h)

section
variable {P : Program} {w : World} {K : PySem.W.Frag} {mg : Str → Option Value} {base : Heap}
def spTerm (n : Nat) : Sp := fun vs H Q _ => ∃ (tp kd wl ar : Addr) (hF : Str → Option Nat) (ws xs : List Str) (room deep : Int), vs = [.ref tp, .ref kd, .ref ar, .int room, .int deep] ∧ GS H tp kd wl hF ws ∧ Wls H ar xs ∧ ar ≠ wl ∧ (xs.length : Int) + deep ≤ 500 ∧
  1 ≤ room ∧ room ≤ 900 ∧ 0 ≤ deep ∧ deep.toNat < n ∧ ∀ a t ls H' ws', But2 tp wl H H' → ws = ws' ++ List.reverse ls → GS H' tp kd wl hF ws' → Gd H' a room.toNat (deep.toNat + 2) hF xs ls t → Q (.ref a) H'
def spAsk (n : Nat) : Sp := fun vs H Q _ => ∃ (tp kd wl ar : Addr) (hF : Str → Option Nat) (ws xs : List Str) (room deep : Int), vs = [.ref tp, .ref kd, .ref ar, .int room, .int deep] ∧ GS H tp kd wl hF ws ∧ Wls H ar xs ∧ ar ≠ wl ∧ (xs.length : Int) + deep ≤ 500 ∧
  2 ≤ room ∧ room ≤ 900 ∧ 1 ≤ deep ∧ deep.toNat ≤ n ∧ ∀ a t ls H' ws', But2 tp wl H H' → ws = ws' ++ List.reverse ls → GS H' tp kd wl hF ws' → Gd H' a room.toNat (deep.toNat + 2) hF xs ls t → Q (.ref a) H'
abbrev s_law_ask : Stmt := top 33
theorem scLask : FnScope ["tape", "known", "around", "room", "deep", "f", "many", "some", "first", "shares", "k"] ["tape", "known", "around", "room", "deep"] (defScope s_law_ask) := ⟨rfl, rfl, rfl, by decide +kernel, rfl, by decide +kernel, by decide +kernel⟩
theorem le_sum {l : List Int} {x : Int} (h : ∀ y ∈ l, (1 : Int) ≤ y) (hx : x ∈ l) : x ≤ l.sum := by
  induction l with
  | nil => cases hx
  | cons a r ih =>
    have e : (0 : Int) ≤ r.sum := by
      clear ih hx
      induction r with
      | nil => decide
      | cons b s ih2 =>
        have e1 := h b (List.mem_cons_of_mem _ List.mem_cons_self)
        have e2 := ih2 fun y hy => by
          rcases List.mem_cons.mp hy with z | z
          · exact h y (List.mem_cons.mpr (.inl z))
          · exact h y (List.mem_cons_of_mem _ (List.mem_cons_of_mem _ z))
        rw [List.sum_cons]
        omega
    have ha := h a List.mem_cons_self
    rw [List.sum_cons]
    rcases List.mem_cons.mp hx with z | z
    · omega
    · have := ih (fun y hy => h y (List.mem_cons_of_mem _ hy)) z
      omega
/-- within the loop over an ask's terms, i of them made -/
def AskI (H : Hp) (tp kd wl ar sl sh : Addr) (hF : Str → Option Nat) (ws xs : List Str) (ss : List Int) (fn : Str) (room deep many fi : Int) (i : Nat) (σ : St) (H' : Hp) : Prop :=
  ∃ o10 vs ts wsi, σ = [some (.ref tp), some (.ref kd), some (.ref ar), some (.int room), some (.int deep), some (.str fn), some (.int many), some (.ref sl), some (.int fi), some (.ref sh), o10] ∧
  But2 tp wl H H' ∧ GS H' tp kd wl hF wsi ∧ ws = wsi ++ (letsL ts).reverse ∧ Wls H' ar xs ∧ H' sh = some (.lst (ss.map V.int)) ∧ H' sl = some (.lst vs) ∧ Stk H' vs ts ∧ ts.length = i ∧ (∀ t ∈ ts, okT t ∧ HtLe (deep.toNat + 1) t ∧ okS hF t xs) ∧ (cnts ts : Int) ≤ (ss.take i).sum + (if fi > 0 then 2 else 0)
theorem ok_ask (T : Txt K mg) {n : Nat} {f fg fh fs_ fl_ ft : Addr} {fd gd hd sd ld td : FuncData} (F : Fun K "_law_ask" "_law_ask" s_law_ask f fd) (G_law_digit : FnOk P w K mg base CX0 1 fg gd ["tape", "many"] spDig) (R_law_digit : Ref K mg "_law_digit" fg gd ["tape", "many"])
    (G_law_leaf : FnOk P w K mg base CX0 3 fh hd ["tape", "known", "around"] spLeaf) (R_law_leaf : Ref K mg "_law_leaf" fh hd ["tape", "known", "around"]) (G_law_shares : FnOk P w K mg base CX0 2 fs_ sd ["tape", "room", "many"] spShr) (R_law_shares : Ref K mg "_law_shares" fs_ sd ["tape", "room", "many"])
    (G_law_less_one : FnOk P w K mg base CX0 1 fl_ ld ["around"] spLess) (R_law_less_one : Ref K mg "_law_less_one" fl_ ld ["around"])
    (G_law_term : FnOk P w K mg base CX0 (2 * n + 4) ft td ["tape", "known", "around", "room", "deep"] (spTerm n)) (R_law_term : Ref K mg "_law_term" ft td ["tape", "known", "around", "room", "deep"]) : FnOk P w K mg base CX0 (2 * n + 5) f fd ["tape", "known", "around", "room", "deep"] (spAsk n) := by
  refine F.ok scLask (fun vs H Q E h => ?_) (fun cdv A outer s H vs Q E hr h => ?_)
  · obtain ⟨tp, kd, wl, ar, hF, ws, xs, room, deep, rfl, _⟩ := h
    rfl
  obtain ⟨tp, kd, wl, ar, hF, ws, xs, room, deep, rfl, hg, hw, naw, hx, hr1, hr2, hd1, hd2, q⟩ := h
  refine ⟨_, (pss_cons (ps_set (i := 5) scLask.nd rfl (Or.inl rfl) (pe_ix ix_list (pe_dget (hu_of hr) (pv 1) pe_str (fun _ _ => rfl)) (pe_call G_law_digit (hr.mono (by omega)) rfl R_law_digit.m R_law_digit.k R_law_digit.b .nil pass0 (pa_cons (pv 0) (pa_cons (pe_callB call_len_seq (by rfl) T.m_len PySem.boot_len (pa_cons (pe_dget (hu_of hr) (pv 1) pe_str (fun _ _ => rfl)) pa_nil)) pa_nil))) (fun _ _ => rfl)))
    (pss_cons (ps_set (i := 6) scLask.nd rfl (Or.inl rfl) (pe_dget (hu_of hr) (pe_dget (hu_of hr) (pv 1) pe_str (fun _ _ => rfl)) (pv 5) (fun _ _ => rfl)))
    (pss_cons (ps_if (PW.pt (pw_and (pt_cmpR op_gt (pe_op op_add (pv 6) pe_int) (pv 3) (nomark _)) (pw_and1 (pt_cmpR op_gt (pv 6) pe_int (nomark _))))) (pss_one (ps_ret (pe_call G_law_leaf (hr.mono (by omega)) rfl R_law_leaf.m R_law_leaf.k R_law_leaf.b .nil pass0 (pa_cons (pv 0) (pa_cons (pv 1) (pa_cons (pv 2) pa_nil)))))) pss_nil)
    (pss_cons (ps_set (i := 7) scLask.nd rfl (Or.inl rfl) (pe_lst pa_nil))
    (pss_cons (ps_set (i := 8) scLask.nd rfl (Or.inl rfl) (pe_op op_mul (pe_call G_law_digit (hr.mono (by omega)) rfl R_law_digit.m R_law_digit.k R_law_digit.b .nil pass0 (pa_cons (pv 0) (pa_cons pe_int pa_nil))) (pe_callTy call_int1 (by rfl) T.m_int (by decide +kernel) (pa_cons (pe_cmpR op_gt (pv 6) pe_int (nomark _)) pa_nil))))
    (pss_cons (ps_set (i := 9) scLask.nd rfl (Or.inl rfl) (pe_call G_law_shares (hr.mono (by omega)) rfl R_law_shares.m R_law_shares.k R_law_shares.b .nil pass0 (pa_cons (pv 0) (pa_cons (pe_callB (call_max2 rfl) (by rfl) T.m_max (by decide +kernel) (pa_cons (pv 6) (pa_cons (pe_op op_sub (pv 3) (pe_ix ix_list (pe_lst (pa_cons pe_int (pa_cons pe_int pa_nil))) (pe_callTy call_int1 (by rfl) T.m_int (by decide +kernel) (pa_cons (pe_cmpR op_gt (pv 8) pe_int (nomark _)) pa_nil)) (fun _ _ => rfl))) pa_nil))) (pa_cons (pv 6) pa_nil)))))
    (pss_cons (ps_for PassesOwn.never rfl (pi_range1 rfl T.m_range (pa_cons (pv 6) pa_nil)) (pg_name (i := 10) scLask.nd rfl (Or.inl rfl)) (pss_one (ps_if (PW.pt (pw_and (pt_cmpR op_eq (pv 10) pe_int (nomark _)) (pw_and1 (pt_cmpR op_gt (pv 8) pe_int (nomark _))))) (pss_one (ps_expr (pe_bm PySem.F.plainAttrs_list PySem.F.slot_list_append PySem.F.type_list_append mt_append (pv 7) (pa_cons (pe_call G_law_less_one (hr.mono (by omega)) rfl R_law_less_one.m R_law_less_one.k R_law_less_one.b .nil pass0 (pa_cons (pv 2) pa_nil)) pa_nil)))) (pss_one (ps_expr (pe_bm PySem.F.plainAttrs_list PySem.F.slot_list_append PySem.F.type_list_append mt_append (pv 7) (pa_cons (pe_call G_law_term hr rfl R_law_term.m R_law_term.k R_law_term.b .nil pass0 (pa_cons (pv 0) (pa_cons (pv 1) (pa_cons (pv 2) (pa_cons (pe_ix ix_list (pv 9) (pv 10) (fun _ _ => rfl)) (pa_cons (pe_op op_sub (pv 4) pe_int) pa_nil)))))) pa_nil)))))))
    (pss_one (ps_ret (pe_tup (pa_cons pe_str (pa_cons (pv 5) (pa_cons (pe_callTy call_tuple_of (by rfl) T.m_tuple (by decide +kernel) (pa_cons (pv 7) pa_nil)) pa_nil))))))))))))), ?_⟩
  obtain ⟨el, hd', fs, kvs, k1, k2, k3, k4, k5, k6, k7⟩ := hg.k
  refine ⟨_, rfl, kd, _, rfl, get_errands k1, _, rfl, _, rfl, kd, _, rfl, get_errands k1, el, _, rfl, .inl (SqL.of k3.1), tp, _, rfl, hg.t, ?_, ?_, fun r H1 r0 r1 b1 t1 => ?_⟩
  · rw [List.length_map]
    omega
  · rw [List.length_map]
    omega
  have g1 := hg.one b1 t1
  have k3' := k3.but b1 hg.t
  have k1' : H1 kd = some (.dK (knD el hd' wl)) := by
    obtain ⟨n1, _⟩ := hg.ntk k1 (fun _ z => nomatch z)
    exact b1 _ _ n1 k1
  have k6' : H1 hd' = some (.dK kvs) := by
    obtain ⟨n1, _⟩ := hg.ntk k6 (fun _ z => nomatch z)
    exact b1 _ _ n1 k6
  obtain ⟨v, hv, hm⟩ := at_some r0 r1
  obtain ⟨fn, hfn, rfl⟩ := List.mem_map.mp hm
  obtain ⟨many, hmany, m0, m4, mF⟩ := k7 fn hfn
  refine ⟨el, _, _, _, rfl, rfl, SqL.of k3'.1, hv, ?_⟩
  refine ⟨_, rfl, kd, _, rfl, get_heads k1', _, rfl, hd', _, rfl, get_of k6' hmany, ?_⟩
  have hw1 := hw.but b1 hg.t
  have leafW : ∀ H2, But2 tp wl H H2 → GS H2 tp kd wl hF ws → Wls H2 ar xs → ∀ s7 s8 s9 s10 : Option V, (tRet (tCall spLeaf [] E0 (tCons (tVar 0) (tCons (tVar 1) (tCons (tVar 2) tNil))))) { nx := fun x H' => Q V.non H', rt := Q }
      [some (.ref tp), some (.ref kd), some (.ref ar), some (.int room), some (.int deep), some (.str fn), some (.int many), s7, s8, s9, s10] H2 := by
    intro H2 b2 g2 w2 s7 s8 s9 s10
    refine ⟨_, rfl, _, rfl, _, rfl, tp, .ref kd, ar, xs, rfl, g2.t, w2, by omega, fun a t H3 b3 t3 gd => ?_⟩
    exact q a t [] H3 ws (b2.trans b3.two) (List.append_nil ws).symm (g2.one b3 t3) ((gd hF).le (by omega) (by omega))
  refine ⟨_, rfl, _, _, rfl, rfl, _, rfl, _, _, rfl, rfl, _, rfl, ?_⟩
  refine ite_share (P := many > 0 → many + 3 ≤ room) (fun hp => ?_) (fun c z => ?_) (fun c kB => ?_)
  rotate_left
  · have c' : ¬ room < many + 3 := fun y => c (decide_eq_true y)
    omega
  · refine ⟨_, rfl, _, _, rfl, rfl, _, rfl, ?_⟩
    refine ite2 (fun c2 => ?_) (fun c2 => ?_)
    · exact leafW H1 b1.two g1 hw1 _ _ _ _
    · exact kB fun z => absurd (decide_eq_true z) c2
  -- some = []
  refine ⟨sz (by show 0 ≤ 100000; decide), fun sl hsl => ?_⟩
  have s1 := same_new hsl (.lst [])
  have hsl0 : H sl = none := by
    cases e : H sl with
    | none => rfl
    | some o =>
      obtain ⟨n1, n2⟩ := g1.new hsl
      rw [b1 _ _ n1 e] at hsl
      cases hsl
  -- first
  refine ⟨_, rfl, tp, 4, rfl, g1.t.same s1, by decide, by decide, fun r2 H2 r3 r4 b2 t2 => ?_⟩
  have g1s := g1.same s1
  have g2 := g1s.one b2 t2
  obtain ⟨nst, nsw⟩ := g1.new hsl
  have h2 : H2 sl = some (.lst []) := b2 _ _ nst upd_same
  have B2 : But2 tp wl H H2 := b1.two.trans ((but2_same s1).trans b2.two)
  have w2 := (hw1.but (but_same s1) g1.t).but b2 g1s.t
  refine ⟨_, rfl, _, _, rfl, rfl, .inr ⟨_, rfl, _, _, rfl, rfl, .inl (small64 r3 (by omega)), ?_⟩⟩
  have hfirst : ∃ fi : Int, r2 * (if decide (many > 0) = true then 1 else 0) = fi ∧ 0 ≤ fi ∧ fi < 4 ∧ (fi > 0 → many > 0) := by
    by_cases c : many > 0
    · refine ⟨r2, ?_, r3, r4, fun _ => c⟩
      rw [if_pos (decide_eq_true c)]
      omega
    · refine ⟨0, ?_, by decide, by decide, fun z => by omega⟩
      rw [if_neg (by rw [decide_eq_false c]; exact Bool.false_ne_true)]
      omega
  obtain ⟨fi, efi, fi0, fi4, fim⟩ := hfirst
  simp only [efi]
  -- shares
  refine ⟨_, rfl, _, rfl, _, rfl, sz (by show 2 ≤ 100000; decide), fun p2 hp2 => ?_⟩
  have s3 := same_new hp2 (.lst [.int 1, .int 3])
  have hix : ∃ d : Int, atI [V.int 1, .int 3] (if decide (fi > 0) = true then 1 else 0) = some (.int d) ∧ ((fi > 0 ∧ d = 3) ∨ (¬ fi > 0 ∧ d = 1)) := by
    by_cases c : fi > 0
    · exact ⟨3, by rw [if_pos (decide_eq_true c)]; exact at1, .inl ⟨c, rfl⟩⟩
    · exact ⟨1, by rw [if_neg (by rw [decide_eq_false c]; exact Bool.false_ne_true)]; exact at0, .inr ⟨c, rfl⟩⟩
  obtain ⟨d, hd0, hd9⟩ := hix
  refine ⟨_, rfl, _, _, rfl, rfl, .inr ⟨_, rfl, p2, _, _, _, rfl, rfl, SqL.of upd_same, hd0, _, _, rfl, rfl, ?_⟩⟩
  have hmx : ∃ mx : Int, (if room - d > many then room - d else many) = mx ∧ many ≤ mx ∧ mx ≤ 900 ∧ (fi > 0 → mx = room - 3) ∧ (¬ fi > 0 → mx ≤ room - 1 ∨ (many = 0 ∧ mx ≤ room)) := by
    refine ⟨_, rfl, ?_⟩
    split <;> omega
  obtain ⟨mx, emx, mx0, mx1, mx2, mx3⟩ := hmx
  refine ⟨_, _, rfl, ?_⟩
  simp only [emx]
  refine ⟨_, rfl, tp, mx, many, rfl, g2.t.same s3, m0, mx0, by omega, fun sh ss H4 b4 t4 hsh h4 hsl4 hs1 hsum => ?_⟩
  have g3 := g2.same s3
  have g4 := g3.one b4 t4
  have B4 : But2 tp wl H H4 := B2.trans ((but2_same s3).trans b4.two)
  have w4 := (w2.but (but_same s3) g2.t).but b4 g3.t
  have h4s : H4 sl = some (.lst []) := b4 _ _ nst (s3 _ _ h2)
  have nsh : sh ≠ sl := (ne_of_none (s3 _ _ h2) hsh).symm
  obtain ⟨nht, nhw⟩ := g3.new hsh
  have nskd : sl ≠ kd := (ne_of_none k1 hsl0).symm
  have nsar : ar ≠ sl := ne_of_none hw.1 hsl0
  have hsh0 : sh ≠ sl := nsh
  refine ⟨_, rfl, many, rfl, by omega, by omega, ?_⟩
  refine for_range (lo := 0) (n := many.toNat) (AskI H tp kd wl ar sl sh hF ws xs ss fn room deep many fi) ?_ ?_ ?_
  · refine ⟨_, [], [], ws, rfl, B4, g4, (List.append_nil ws).symm, w4, h4, h4s, trivial, rfl, (fun _ z => nomatch z), ?_⟩
    show (0 : Int) ≤ 0 + _
    split <;> omega
  · rintro i σ H5 hi ⟨o10, vs, ts, wsi, rfl, B5, g5, hws5, w5, h5, h5s, k5s, hlen, hts, hcn⟩
    have hil : i < ss.length := by omega
    have hss : ss[i]? = some ss[i] := List.getElem?_eq_getElem hil
    have hs1i := hs1 _ (List.getElem_mem hil)
    have hsi := le_sum hs1 (List.getElem_mem hil)
    have htake := sum_take hss
    have hvl := k5s.len
    have e0 : (0 : Int) + (i : Nat) = ((i : Nat) : Int) := by omega
    have put : ∀ (a : Addr) (t : Tm) (H6 : Hp) (ws6 : List Str), But2 tp wl H5 H6 → GS H6 tp kd wl hF ws6 → wsi = ws6 ++ (letsOf t).reverse → okS hF t xs → At H6 t a → okT t → HtLe (deep.toNat + 1) t → (cnts (ts ++ [t]) : Int) ≤ (ss.take (i + 1)).sum + (if fi > 0 then 2 else 0) →
        ∃ l zs y, V.ref sl = .ref l ∧ [V.ref a] = [y] ∧ H6 l = some (.lst zs) ∧ zs.length < sizeLine ∧ AskI H tp kd wl ar sl sh hF ws xs ss fn room deep many fi (i + 1) [some (.ref tp), some (.ref kd), some (.ref ar), some (.int room), some (.int deep), some (.str fn), some (.int many), some (.ref sl), some (.int fi), some (.ref sh), some (.int (0 + (i : Nat)))] (upd H6 l (.lst (zs ++ [y]))) := by
      intro a t H6 ws6 b6 g6 hws6 sc6 at6 ok6 ht6 cn6
      have h6s : H6 sl = some (.lst vs) := b6 _ _ nst nsw h5s
      have tk6 := g5.tk b6
      refine ⟨sl, vs, .ref a, rfl, rfl, h6s, Nat.lt_of_le_of_lt (m := 1000) (by omega) (by decide), _, vs ++ [.ref a], ts ++ [t], ws6, rfl, ?_, ?_, ?_, ?_, ?_, upd_same, ?_, ?_, ?_, cn6⟩
      · exact (B5.trans b6).put hsl0
      · refine g6.put h6s nst nsw nskd (fun _ z => nomatch z) fun x zs z => ?_
        have e := HO.lst.inj z
        cases ts with
        | nil =>
          cases vs with
          | nil => cases e
          | cons _ _ => exact k5s.elim
        | cons t0 tr =>
          cases vs with
          | nil => cases e
          | cons v0 vr =>
            obtain ⟨⟨b0, e0', _⟩, _⟩ := k5s
            rw [e0'] at e
            cases (List.cons.inj e).1
      · rw [hws5, hws6, letsL_app, List.reverse_append, List.append_assoc]
        show _ = ws6 ++ ((letsOf t ++ []).reverse ++ _)
        rw [List.append_nil]
      · have w6 := w5.two b6 g5 naw
        exact ⟨by rw [upd_ne nsar]; exact w6.1, w6.2⟩
      · rw [upd_ne nsh]
        exact b6 _ _ nht nhw h5
      · exact ((k5s.tk tk6).app (us := [.ref a]) (ss := [t]) ⟨⟨a, rfl, at6⟩, trivial⟩).tk (tk_put h6s)
      · rw [List.length_append, hlen]
        rfl
      · intro u hu
        rcases List.mem_append.mp hu with z | z
        · exact hts u z
        · rw [List.mem_singleton.mp z]
          exact ⟨ok6, ht6, sc6⟩
    refine ⟨_, rfl, rfl, _, rfl, ?_⟩
    refine ite_share (P := ¬ (i = 0 ∧ fi > 0)) (fun hp2 => ?_) (fun c z => c (decide_eq_true (by rw [z.1]; rfl))) (fun c kB => ?_)
    · -- the term is drawn
      refine ⟨_, rfl, .inl ⟨rfl, _, SqL.of h5s⟩, _, rfl, _, rfl, _, rfl, _, rfl, _, rfl, sh, _, _, .int ss[i], rfl, rfl, SqL.of h5, ?_, _, rfl, _, _, rfl, rfl, ?_⟩
      · rw [e0]
        exact atI_nat (by rw [List.getElem?_map, hss]; rfl)
      refine ⟨tp, kd, wl, ar, hF, wsi, xs, ss[i], deep - 1, rfl, g5, w5, naw, by omega, hs1i, by omega, by omega, by omega, fun a t ls H6 ws6 b6 e6 g6 gd6 => ?_⟩
      refine put a t H6 ws6 b6 g6 (by rw [gd6.lt]; exact e6) gd6.sc gd6.at_ gd6.ok (gd6.dp.le (by omega)) ?_
      have c6 := gd6.cn
      rw [cnts_app, htake]
      show ((cnts ts + (cnt t + 0) : Nat) : Int) ≤ _
      omega
    · have c' : i = 0 := by
        have := V.int.inj (of_decide_eq_true c)
        omega
      refine ⟨_, rfl, _, _, rfl, rfl, _, rfl, ?_⟩
      refine ite2 (fun c2 => ?_) (fun c2 => ?_)
      · have c2' : fi > 0 := of_decide_eq_true c2
        refine ⟨_, rfl, .inl ⟨rfl, _, SqL.of h5s⟩, _, rfl, ar, xs, rfl, w5, fun a t H6 s6 gd6' => ?_⟩
        have gd6 := gd6' hF
        refine put a t H6 wsi (but2_same s6) (g5.same s6) (by rw [gd6.lt]; exact (List.append_nil wsi).symm) gd6.sc gd6.at_ gd6.ok (gd6.dp.le (by omega)) ?_
        have c6 := gd6.cn
        subst c'
        have hz : ts = [] := List.eq_nil_of_length_eq_zero hlen
        subst hz
        rw [htake, if_pos c2']
        show ((cnt t + 0 : Nat) : Int) ≤ 0 + _ + 2
        omega
      · exact kB fun z => c2 (decide_eq_true z.2)
  · rintro σ H5 ⟨o10, vs, ts, wsi, rfl, B5, g5, hws5, w5, h5, h5s, k5s, hlen, hts, hcn⟩
    refine ⟨_, rfl, _, rfl, sl, _, rfl, .inl ⟨SqL.of h5s, fun pp hpp => ⟨sz (by show 3 ≤ 100000; decide), fun pa hpa => ?_⟩⟩⟩
    have s6 := same_new hpp (.tup vs)
    have s7 := same_new hpa (.tup [.str "ask", .str fn, .ref pp])
    have s67 := s6.trans s7
    have hvl := k5s.len
    refine q pa (mkL (.ask fn) ts) (letsL ts) _ wsi (B5.trans (but2_same s67)) hws5 (g5.same s67) ⟨?_, ?_, ?_, ?_, ?_, lt_mkL⟩
    · exact at_mkL (vs := vs) ⟨by omega, pp, upd_same, s7 _ _ upd_same⟩ (k5s.mono s67)
    · exact ok_mkL (k3.2 fn hfn) fun t ht => (hts t ht).1
    · rw [cnt_mkL]
      have e1 : ss.take many.toNat = ss := List.take_of_length_le (by omega)
      rw [e1] at hcn
      by_cases c : fi > 0
      · rw [if_pos c] at hcn
        have := mx2 c
        omega
      · rw [if_neg c] at hcn
        rcases mx3 c with z | ⟨z1, z2⟩
        · omega
        · have hz : ts = [] := List.eq_nil_of_length_eq_zero (by omega)
          rw [hz]
          show 1 + 0 ≤ _
          omega
    · exact ht_mkL fun t ht => (hts t ht).2.1
    · refine sc_mkL ?_ fun i t hi => (hts t (mem_of_get hi)).2.2
      show hF fn = some ts.length
      rw [mF, hlen]
end
end KB

namespace KB
open PySem L2

theorem stk_ok_app {d : Nat} {hF : Str → Option Nat} {xs : List Str} {ts : List Tm} {t : Tm} (h : ∀ u ∈ ts, okT u ∧ HtLe d u ∧ okS hF u xs) (o : okT t) (k : HtLe d t) (c : okS hF t xs) : ∀ u ∈ ts ++ [t], okT u ∧ HtLe d u ∧ okS hF u xs := fun u hu => by
  rcases List.mem_append.mp hu with z | z
  · exact h u z
  · rw [List.mem_singleton.mp z]
    exact ⟨o, k, c⟩
theorem sum2 {xs : List Int} (h : xs.length = 2) : ∃ a b, xs = [a, b] := by
  match xs, h with
  | [a, b], _ => exact ⟨a, b, rfl⟩
theorem eqv_nilW (ws : List Str) : (!PyData.eqv (.list (ws.map PyData.str)) (.list [])) = !ws.isEmpty := by rw [eqv_nil]

section
variable {P : Program} {w : World} {K : PySem.W.Frag} {mg : Str → Option Value} {base : Heap}
abbrev s_law_term : Stmt := top 34
theorem scLterm : FnScope ["tape", "known", "around", "room", "deep", "words", "word", "x", "shares", "first", "some", "share"] ["tape", "known", "around", "room", "deep"] (defScope s_law_term) := ⟨rfl, rfl, rfl, by decide +kernel, rfl, by decide +kernel, by decide +kernel⟩
def wds10 : List V := [.str "plus", .str "less", .str "tell", .str "let", .str "if", .str "ask", .str "ask", .str "ask", .str "plus", .str "let"]
theorem ok_term (T : Txt K mg) {n : Nat} {f fg fh fs_ fa : Addr} {fd gd hd sd ad : FuncData} (F : Fun K "_law_term" "_law_term" s_law_term f fd) (G_law_digit : FnOk P w K mg base CX0 1 fg gd ["tape", "many"] spDig) (R_law_digit : Ref K mg "_law_digit" fg gd ["tape", "many"])
    (G_law_leaf : FnOk P w K mg base CX0 3 fh hd ["tape", "known", "around"] spLeaf) (R_law_leaf : Ref K mg "_law_leaf" fh hd ["tape", "known", "around"]) (G_law_shares : FnOk P w K mg base CX0 2 fs_ sd ["tape", "room", "many"] spShr) (R_law_shares : Ref K mg "_law_shares" fs_ sd ["tape", "room", "many"])
    (G_law_ask : FnOk P w K mg base CX0 (2 * n + 5) fa ad ["tape", "known", "around", "room", "deep"] (spAsk n)) (R_law_ask : Ref K mg "_law_ask" fa ad ["tape", "known", "around", "room", "deep"])
    (G_law_term : FnOk P w K mg base CX0 (2 * n + 4) f fd ["tape", "known", "around", "room", "deep"] (spTerm n)) (R_law_term : Ref K mg "_law_term" f fd ["tape", "known", "around", "room", "deep"]) : FnOk P w K mg base CX0 (2 * n + 6) f fd ["tape", "known", "around", "room", "deep"] (spTerm (n + 1)) := by
  refine F.ok scLterm (fun vs H Q E h => ?_) (fun cdv A outer s H vs Q E hr h => ?_)
  · obtain ⟨tp, kd, wl, ar, hF, ws, xs, room, deep, rfl, _⟩ := h
    rfl
  obtain ⟨tp, kd, wl, ar, hF, ws, xs, room, deep, rfl, hg, hw, naw, hx, hr1, hr2, hd1, hd2, q⟩ := h
  refine ⟨_, (pss_cons (ps_if (PW.pt (pw_or (pt_cmpR op_lt (pv 3) pe_int (nomark _)) (pw_or1 (pt_cmpR op_eq (pv 4) pe_int (nomark _))))) (pss_one (ps_ret (pe_call G_law_leaf (hr.mono (by omega)) rfl R_law_leaf.m R_law_leaf.k R_law_leaf.b .nil pass0 (pa_cons (pv 0) (pa_cons (pv 1) (pa_cons (pv 2) pa_nil)))))) pss_nil)
    (pss_cons (ps_set (i := 5) scLterm.nd rfl (Or.inl rfl) (pe_lst (pa_cons pe_str (pa_cons pe_str (pa_cons pe_str (pa_cons pe_str (pa_cons pe_str (pa_cons pe_str (pa_cons pe_str (pa_cons pe_str (pa_cons pe_str (pa_cons pe_str pa_nil))))))))))))
    (pss_cons (ps_set (i := 6) scLterm.nd rfl (Or.inl rfl) (pe_ix ix_list (pv 5) (pe_call G_law_digit (hr.mono (by omega)) rfl R_law_digit.m R_law_digit.k R_law_digit.b .nil pass0 (pa_cons (pv 0) (pa_cons pe_int pa_nil))) (fun _ _ => rfl)))
    (pss_cons (ps_if (pt_cmpR op_eq (pv 6) pe_str (nomark _)) (pss_one (ps_ret (pe_call G_law_ask hr rfl R_law_ask.m R_law_ask.k R_law_ask.b .nil pass0 (pa_cons (pv 0) (pa_cons (pv 1) (pa_cons (pv 2) (pa_cons (pv 3) (pa_cons (pv 4) pa_nil)))))))) pss_nil)
    (pss_cons (ps_if (PW.pt (pw_or (pt_cmpR op_eq (pv 6) pe_str (nomark _)) (pw_or1 (pt_cmpR op_lt (pv 3) pe_int (nomark _))))) (pss_one (ps_ret (pe_tup (pa_cons pe_str (pa_cons (pe_call G_law_term (hr.mono (by omega)) rfl R_law_term.m R_law_term.k R_law_term.b .nil pass0 (pa_cons (pv 0) (pa_cons (pv 1) (pa_cons (pv 2) (pa_cons (pe_op op_sub (pv 3) pe_int) (pa_cons (pe_op op_sub (pv 4) pe_int) pa_nil)))))) pa_nil))))) pss_nil)
    (Evl.pss_cut (ps_if (PW.pt (pw_and (pt_cmpR op_eq (pv 6) pe_str (nomark _)) (pw_and1 (pt_cmpR (op_neD hr.units) (pe_dget (hu_of hr) (pv 1) pe_str (fun _ _ => rfl)) (pe_lst pa_nil) (nomark _))))) (pss_cons (ps_set (i := 7) scLterm.nd rfl (Or.inl rfl) (pe_bm0 PySem.F.plainAttrs_list PySem.F.slot_list_pop PySem.F.type_list_pop mt_pop (pe_dget (hu_of hr) (pv 1) pe_str (fun _ _ => rfl))))
    (pss_cons (ps_set (i := 8) scLterm.nd rfl (Or.inl rfl) (pe_call G_law_shares (hr.mono (by omega)) rfl R_law_shares.m R_law_shares.k R_law_shares.b .nil pass0 (pa_cons (pv 0) (pa_cons (pe_op op_sub (pv 3) pe_int) (pa_cons pe_int pa_nil)))))
    (pss_cons (ps_set (i := 9) scLterm.nd rfl (Or.inl rfl) (pe_call G_law_term (hr.mono (by omega)) rfl R_law_term.m R_law_term.k R_law_term.b .nil pass0 (pa_cons (pv 0) (pa_cons (pv 1) (pa_cons (pv 2) (pa_cons (pe_ix ix_list (pv 8) pe_int (fun _ _ => rfl)) (pa_cons (pe_op op_sub (pv 4) pe_int) pa_nil)))))))
    (pss_one (ps_ret (pe_tup (pa_cons pe_str (pa_cons (pv 7) (pa_cons (pv 9) (pa_cons (pe_call G_law_term (hr.mono (by omega)) rfl R_law_term.m R_law_term.k R_law_term.b .nil pass0 (pa_cons (pv 0) (pa_cons (pv 1) (pa_cons (pe_op op_cat (pv 2) (pe_lst (pa_cons (pv 7) pa_nil))) (pa_cons (pe_ix ix_list (pv 8) pe_int (fun _ _ => rfl)) (pa_cons (pe_op op_sub (pv 4) pe_int) pa_nil)))))) pa_nil)))))))))) pss_nil)
    (pss_cons (ps_set (i := 8) scLterm.nd rfl (Or.inl rfl) (pe_call G_law_shares (hr.mono (by omega)) rfl R_law_shares.m R_law_shares.k R_law_shares.b .nil pass0 (pa_cons (pv 0) (pa_cons (pe_op op_sub (pv 3) pe_int) (pa_cons (pe_ix ix_list (pe_lst (pa_cons pe_int (pa_cons pe_int pa_nil))) (pe_callTy call_int1 (by rfl) T.m_int (by decide +kernel) (pa_cons (pe_cmpR op_eq (pv 6) pe_str (nomark _)) pa_nil)) (fun _ _ => rfl)) pa_nil)))))
    (pss_cons (ps_setLc (i := 10) (own := [("share", 11)]) (g := gName 11) (by rfl) scLterm.nd rfl rfl (sw_true rfl rfl rfl (by decide +kernel)) (pi_list (pv 8)) (blkOk_by (own := [("share", 11)]) (N := ["tape", "known", "around", "room", "deep", "words", "word", "x", "shares", "first", "some", "share"]) (sc := defScope s_law_term) (by decide +kernel)) (fun _ _ _ _ _ => (pg_name (i := 11) scLterm.nd rfl (Or.inl rfl))) (fun _ _ _ _ _ => pts_nil) (fun _ _ _ _ _ => (pe_call G_law_term (hr.mono (by omega)) rfl R_law_term.m R_law_term.k R_law_term.b .nil pass0 (pa_cons (pv 0) (pa_cons (pv 1) (pa_cons (pv 2) (pa_cons (pv 11) (pa_cons (pe_op op_sub (pv 4) pe_int) pa_nil))))))))
    (pss_one (ps_ret (pe_op op_catA (pe_tup (pa_cons (pe_ix ix_list (pe_lst (pa_cons (pv 6) (pa_cons pe_str pa_nil))) (pe_callTy call_int1 (by rfl) T.m_int (by decide +kernel) (pa_cons (pe_cmpR op_eq (pv 6) pe_str (nomark _)) pa_nil)) (fun _ _ => rfl)) pa_nil)) (pe_callTy call_tuple_of (by rfl) T.m_tuple (by decide +kernel) (pa_cons (pv 10) pa_nil))))))))))))), ?_⟩
  have leafW : ∀ s5 s6 s7 s8 s9 s10 s11 : Option V, (tRet (tCall spLeaf [] E0 (tCons (tVar 0) (tCons (tVar 1) (tCons (tVar 2) tNil))))) { nx := fun x H' => Q V.non H', rt := Q }
      [some (.ref tp), some (.ref kd), some (.ref ar), some (.int room), some (.int deep), s5, s6, s7, s8, s9, s10, s11] H := by
    intro s5 s6 s7 s8 s9 s10 s11
    refine ⟨_, rfl, _, rfl, _, rfl, tp, .ref kd, ar, xs, rfl, hg.t, hw, by omega, fun a t H3 b3 t3 gd => ?_⟩
    exact q a t [] H3 ws b3.two (List.append_nil ws).symm (hg.one b3 t3) ((gd hF).le (by omega) (by omega))
  refine ⟨_, rfl, _, _, rfl, rfl, _, rfl, ?_⟩
  refine ite2 (fun c1 => ?_) (fun c1 => ?_)
  · exact leafW _ _ _ _ _ _ _
  have hroom : 2 ≤ room := by
    have : ¬ room < 2 := fun z => c1 (decide_eq_true z)
    omega
  refine ⟨_, rfl, rfl, _, rfl, ?_⟩
  refine ite2 (fun c2 => ?_) (fun c2 => ?_)
  · exact leafW _ _ _ _ _ _ _
  have hdeep : 1 ≤ deep := by
    have : deep ≠ 0 := fun z => c2 (decide_eq_true (congrArg V.int z))
    omega
  clear leafW
  -- words, word
  refine ⟨sz (by show 10 ≤ 100000; decide), fun p0 hp0 => ?_⟩
  have s0 := same_new hp0 (.lst wds10)
  have g0 := hg.same s0
  have w0 := hw.but (but_same s0) hg.t
  obtain ⟨n0t, n0w⟩ := hg.new hp0
  refine ⟨_, rfl, _, rfl, tp, 10, rfl, g0.t, by decide, by decide, fun r H1 r0 r1 b1 t1 => ?_⟩
  have g1 := g0.one b1 t1
  have w1 := w0.but b1 g0.t
  have B1 : But2 tp wl H H1 := (but2_same s0).trans b1.two
  obtain ⟨v, hv, hm⟩ := at_some (xs := wds10) r0 (by show r < 10; exact r1)
  refine ⟨p0, _, _, v, rfl, rfl, SqL.of (b1 _ _ n0t upd_same), hv, ?_⟩
  -- the rest, for each word
  have hword : ∃ wd : Str, v = .str wd ∧ (wd = "ask" ∨ wd = "tell" ∨ wd = "let" ∨ wd = "if" ∨ wd = "plus" ∨ wd = "less") := by
    simp only [wds10, List.mem_cons, List.not_mem_nil, or_false] at hm
    rcases hm with z | z | z | z | z | z | z | z | z | z
    · exact ⟨_, z, .inr (.inr (.inr (.inr (.inl rfl))))⟩
    · exact ⟨_, z, .inr (.inr (.inr (.inr (.inr rfl))))⟩
    · exact ⟨_, z, .inr (.inl rfl)⟩
    · exact ⟨_, z, .inr (.inr (.inl rfl))⟩
    · exact ⟨_, z, .inr (.inr (.inr (.inl rfl)))⟩
    · exact ⟨_, z, .inl rfl⟩
    · exact ⟨_, z, .inl rfl⟩
    · exact ⟨_, z, .inl rfl⟩
    · exact ⟨_, z, .inr (.inr (.inr (.inr (.inl rfl))))⟩
    · exact ⟨_, z, .inr (.inr (.inl rfl))⟩
  obtain ⟨wd, rfl, hwd⟩ := hword
  refine ⟨_, rfl, rfl, _, rfl, ?_⟩
  refine ite2 (fun c3 => ?_) (fun c3 => ?_)
  · -- ask
    refine ⟨_, rfl, _, rfl, _, rfl, _, rfl, _, rfl, tp, kd, wl, ar, hF, ws, xs, room, deep, rfl, g1, w1, naw, hx, hroom, hr2, hdeep, by omega, fun a t ls H3 ws3 b3 e3 g3 gd => ?_⟩
    exact q a t ls H3 ws3 (B1.trans b3) e3 g3 gd
  have nask : wd ≠ "ask" := fun z => c3 (decide_eq_true (congrArg V.str z))
  have ndeep : (deep - 1).toNat < n := by omega
  refine ⟨_, rfl, rfl, _, rfl, ?_⟩
  have tellW : ∀ s5 s6 s7 s8 s9 s10 s11 : Option V, (tRet (tTup (tCons (tC (.str "tell")) (tCons (tCall (spTerm n) [] E0 (tCons (tVar 0) (tCons (tVar 1) (tCons (tVar 2) (tCons (tOp (rI0 fun i j => .int (i - j)) (tVar 3) (tC (.int 1))) (tCons (tOp (rI0 fun i j => .int (i - j)) (tVar 4) (tC (.int 1))) tNil)))))) tNil)))) { nx := fun x H' => Q V.non H', rt := Q }
      [some (.ref tp), some (.ref kd), some (.ref ar), some (.int room), some (.int deep), s5, s6, s7, s8, s9, s10, s11] H1 := by
    intro s5 s6 s7 s8 s9 s10 s11
    refine ⟨_, rfl, _, rfl, _, rfl, _, rfl, _, _, rfl, rfl, _, rfl, _, _, rfl, rfl, tp, kd, wl, ar, hF, ws, xs, room - 1, deep - 1, rfl, g1, w1, naw, by omega, by omega, by omega, by omega, ndeep, fun a t ls H3 ws3 b3 e3 g3 gd => ?_⟩
    refine ⟨sz (by show 2 ≤ 100000; decide), fun p hp => ?_⟩
    have s4 := same_new hp (.tup [.str "tell", .ref a])
    refine q p (mkL .tell [t]) ls _ ws3 (B1.trans (b3.trans (but2_same s4))) e3 (g3.same s4) ⟨?_, ?_, ?_, ?_, ?_, ?_⟩
    · exact at_mkL (vs := [.ref a]) ⟨rfl, upd_same⟩ ⟨⟨a, rfl, gd.at_.mono s4⟩, trivial⟩
    · exact ok_mkL trivial fun u hu => by
        rw [List.mem_singleton.mp hu]
        exact gd.ok
    · rw [cnt_mkL]
      have := gd.cn
      show 1 + (cnt t + 0) ≤ _
      omega
    · exact ht_mkL (n := deep.toNat + 1) fun u hu => by
        rw [List.mem_singleton.mp hu]
        exact gd.dp.le (by omega)
    · refine sc_mkL trivial fun i u hi => ?_
      rw [List.mem_singleton.mp (mem_of_get hi)]
      exact gd.sc
    · rw [lt_mkL, letsL_cons, gd.lt]
      exact List.append_nil ls
  refine ite2 (fun c4 => ?_) (fun c4 => ?_)
  · exact tellW _ _ _ _ _ _ _
  have ntell : wd ≠ "tell" := fun z => c4 (decide_eq_true (congrArg V.str z))
  refine ⟨_, rfl, _, _, rfl, rfl, _, rfl, ?_⟩
  refine ite2 (fun c5 => ?_) (fun c5 => ?_)
  · exact tellW _ _ _ _ _ _ _
  have hroom4 : 4 ≤ room := by
    have : ¬ room < 4 := fun z => c5 (decide_eq_true z)
    omega
  clear tellW
  obtain ⟨el, hd', fs, kvs, k1, k2, k3, k4, k5, k6, k7⟩ := g1.k
  have hws := g1.w
  have hwl := g1.wn
  refine ⟨fun σ' H' => Same H1 H' ∧ σ' = [some (.ref tp), some (.ref kd), some (.ref ar), some (.int room), some (.int deep), some (.ref p0), some (.str wd), none, none, none, none, none], ?_, ?_⟩
  · -- let
    refine ⟨_, rfl, rfl, _, rfl, ?_⟩
    refine ite2 (fun c6 => ?_) (fun c6 => ⟨Same.refl _, rfl⟩)
    refine ⟨_, rfl, kd, _, rfl, get_words k1, sz (by show 0 ≤ 100000; decide), fun p1 hp1 => ?_⟩
    have s2 := same_new hp1 (.lst [])
    refine ⟨.list (ws.map PyData.str), .list [], .lst (SqL.of (s2 _ _ hws.1)) (dp_strs ws), .lst (SqL.of upd_same) .nil, shaped_strs hws.2, rfl, _, rfl, ?_⟩
    rw [eqv_nil]
    cases hnil : ws with
    | nil => exact iteF ⟨s2, rfl⟩
    | cons y0 yr =>
      rw [← hnil]
      have hne : ws ≠ [] := by
        rw [hnil]
        exact List.cons_ne_nil _ _
      have hemp : ws.isEmpty = false := by
        rw [hnil]
        rfl
      rw [hemp]
      have g2 := g1.same s2
      have w2 := w1.but (but_same s2) g1.t
      have hws2 := s2 _ _ hws.1
      generalize upd H1 p1 (.lst []) = H2 at s2 g2 w2 hws2
      have hlast : (ws.map V.str)[(ws.map V.str).length - 1]? = some (.str (ws.getLast hne)) := by
        rw [List.length_map, List.getElem?_map, ← List.getLast?_eq_getElem?, List.getLast?_eq_some_getLast hne]
        rfl
      have hxl := hws.2 _ (List.getLast_mem hne)
      have hwsx : ws = ws.dropLast ++ [ws.getLast hne] := (List.dropLast_concat_getLast hne).symm
      generalize ws.getLast hne = xl at hlast hxl hwsx
      refine iteT ⟨_, rfl, kd, _, rfl, get_words (s2 _ _ k1), .inl ⟨rfl, _, SqL.of hws2⟩, wl, _, .str xl, rfl, rfl, hws2, hlast, ?_⟩
      have eD : (ws.map V.str).dropLast = ws.dropLast.map V.str := by rw [List.map_dropLast]
      rw [eD]
      have b3 : But2 tp wl H2 (upd H2 wl (.lst (ws.dropLast.map V.str))) := fun b o _ m h => by
        rw [upd_ne m]
        exact h
      have ntw : tp ≠ wl := (wls_tp hws2 g2.t).symm
      have g3 : GS (upd H2 wl (.lst (ws.dropLast.map V.str))) tp kd wl hF ws.dropLast := g2.step b3 (by
        obtain ⟨z, hz⟩ := g2.t
        exact ⟨z, by rw [upd_ne ntw]; exact hz⟩) ⟨upd_same, fun x hx => hws.2 x ((List.dropLast_sublist ws).subset hx)⟩ (by rw [List.length_dropLast]; omega)
      have w3 := w2.two b3 g2 naw
      have B3 : But2 tp wl H (upd H2 wl (.lst (ws.dropLast.map V.str))) := B1.trans ((but2_same s2).trans b3)
      generalize upd H2 wl (.lst (ws.dropLast.map V.str)) = H3 at b3 g3 w3 B3
      refine ⟨_, rfl, _, rfl, _, _, rfl, rfl, tp, room - 1, 2, rfl, g3.t, by decide, by omega, by omega, fun sh ss H4 b4 t4 hsh h4 hsl4 hs1 hsum => ?_⟩
      obtain ⟨x0, x1, rfl⟩ := sum2 (xs := ss) (by omega)
      have hx0 := hs1 x0 List.mem_cons_self
      have hx1 := hs1 x1 (List.mem_cons_of_mem _ List.mem_cons_self)
      have esum : x0 + x1 ≤ room - 1 := by
        have e : [x0, x1].sum = x0 + (x1 + 0) := rfl
        omega
      have g4 := g3.one b4 t4
      have w4 := w3.but b4 g3.t
      obtain ⟨nht, nhw⟩ := g3.new hsh
      -- first
      refine ⟨_, rfl, _, rfl, _, rfl, _, rfl, sh, _, _, _, rfl, rfl, SqL.of h4, at0, _, rfl, _, _, rfl, rfl, tp, kd, wl, ar, hF, _, xs, x0, deep - 1, rfl, g4, w4, naw, by omega, by omega, by omega, by omega, ndeep, fun a5 t5 ls5 H5 ws5 b5 e5 g5 gd5 => ?_⟩
      have w5 := w4.two b5 g4 naw
      have h5 := b5 _ _ nht nhw h4
      refine ⟨_, rfl, _, rfl, _, rfl, _, rfl, _, rfl, _, rfl, sz (by show 1 ≤ 100000; decide), fun p6 hp6 => ?_⟩
      have s6 := same_new hp6 (.lst [.str xl])
      refine ⟨ar, p6, _, _, rfl, rfl, s6 _ _ w5.1, upd_same, sz (by rw [List.length_map]; show xs.length + 1 ≤ 100000; omega), fun p7 hp7 => ?_⟩
      have s7 := same_new hp7 (.lst (xs.map V.str ++ [.str xl]))
      have s67 := s6.trans s7
      have g7 := g5.same s67
      obtain ⟨_, n7w⟩ := (g5.same s6).new hp7
      have w7 : Wls (upd (upd H5 p6 (.lst [.str xl])) p7 (.lst (xs.map V.str ++ [.str xl]))) p7 (xs ++ [xl]) := by
        refine ⟨?_, fun x hx => ?_⟩
        · rw [upd_same, List.map_append]
          rfl
        · rcases List.mem_append.mp hx with z | z
          · exact hw.2 x z
          · rw [List.mem_singleton.mp z]
            exact hxl
      refine ⟨_, rfl, sh, _, _, _, rfl, rfl, SqL.of (s67 _ _ h5), at1, _, rfl, _, _, rfl, rfl, tp, kd, wl, p7, hF, _, xs ++ [xl], x1, deep - 1, rfl, g7, w7, n7w, ?_, by omega, by omega, by omega, ndeep, fun a8 t8 ls8 H8 ws8 b8 e8 g8 gd8 => ?_⟩
      · rw [List.length_append, List.length_singleton]
        omega
      refine ⟨sz (by show 4 ≤ 100000; decide), fun p9 hp9 => ?_⟩
      have s9 := same_new hp9 (.tup [.str "let", .str xl, .ref a5, .ref a8])
      have tk59 := (tk_same s67).trans ((g7.tk b8).trans (tk_same s9))
      refine q p9 (mkL (.lett xl) [t5, t8]) ([xl] ++ (ls5 ++ ls8)) _ ws8 (B3.trans (b4.two.trans (b5.trans ((but2_same s67).trans (b8.trans (but2_same s9)))))) ?_ (g8.same s9) ⟨?_, ?_, ?_, ?_, ?_, ?_⟩
      · rw [hwsx, e5, e8]
        simp
      · exact at_mkL (vs := [.ref a5, .ref a8]) ⟨rfl, upd_same⟩ ⟨⟨a5, rfl, gd5.at_.tk tk59⟩, ⟨a8, rfl, gd8.at_.mono s9⟩, trivial⟩
      · refine ok_mkL hxl fun u hu => ?_
        rcases List.mem_cons.mp hu with z | z
        · rw [z]
          exact gd5.ok
        · rw [List.mem_singleton.mp z]
          exact gd8.ok
      · have c5 := gd5.cn
        have c8 := gd8.cn
        rw [cnt_mkL]
        show 1 + (cnt t5 + (cnt t8 + 0)) ≤ _
        omega
      · refine ht_mkL (n := deep.toNat + 1) fun u hu => ?_
        rcases List.mem_cons.mp hu with z | z
        · rw [z]
          exact gd5.dp.le (by omega)
        · rw [List.mem_singleton.mp z]
          exact gd8.dp.le (by omega)
      · refine sc_mkL trivial fun i u hi => ?_
        match i, hi with
        | 0, hi =>
          cases (Option.some.inj hi)
          exact gd5.sc
        | 1, hi =>
          cases (Option.some.inj hi)
          exact gd8.sc
        | i + 2, hi => simp at hi
      · rw [lt_mkL, letsL_cons, letsL_cons, gd5.lt, gd8.lt]
        show [xl] ++ (ls5 ++ (ls8 ++ [])) = _
        rw [List.append_nil]
  · rintro σ' H2 ⟨s2, rfl⟩
    have g2 := g1.same s2
    have w2 := w1.but (but_same s2) g1.t
    have B2 : But2 tp wl H H2 := B1.trans (but2_same s2)
    have hx9 : wd = "let" ∨ wd = "if" ∨ wd = "plus" ∨ wd = "less" := by
      rcases hwd with z | z | z
      · exact absurd z nask
      · exact absurd z ntell
      · exact z
    refine ⟨_, rfl, _, rfl, _, _, rfl, rfl, sz (by show 2 ≤ 100000; decide), fun p3 hp3 => ?_⟩
    have s3 := same_new hp3 (.lst [.int 2, .int 3])
    have hm3 : ∃ m : Int, atI [V.int 2, .int 3] (if decide (V.str wd = V.str "if") = true then 1 else 0) = some (.int m) ∧ 2 ≤ m ∧ m ≤ 3 ∧ (wd = "if" → m = 3) ∧ (wd ≠ "if" → m = 2) := by
      by_cases c : wd = "if"
      · exact ⟨3, by rw [if_pos (decide_eq_true (congrArg V.str c))]; exact at1, by decide, by decide, fun _ => rfl, fun z => absurd c z⟩
      · exact ⟨2, by rw [if_neg (by rw [decide_eq_false fun z => c (V.str.inj z)]; exact Bool.false_ne_true)]; exact at0, by decide, by decide, fun z => absurd z c, fun _ => rfl⟩
    obtain ⟨m, hm0, hm1, hm2, hm4, hm5⟩ := hm3
    refine ⟨_, rfl, rfl, .inr ⟨_, rfl, p3, _, _, _, rfl, rfl, SqL.of upd_same, hm0, ?_⟩⟩
    refine ⟨tp, room - 1, m, rfl, g2.t.same s3, by omega, by omega, by omega, fun sh ss H4 b4 t4 hsh h4 hsl4 hs1 hsum => ?_⟩
    have g3 := g2.same s3
    have g4 := g3.one b4 t4
    have B4 : But2 tp wl H H4 := B2.trans ((but2_same s3).trans b4.two)
    have w4 := (w2.but (but_same s3) g2.t).but b4 g3.t
    obtain ⟨nht, nhw⟩ := g3.new hsh
    refine ⟨_, rfl, sh, rfl, ⟨_, SqL.of h4⟩, fun D hD => lc_list (K := K) (a := sh) (xs := ss.map V.int) (fun j H' => ∃ wsi, But2 tp wl H H' ∧ GS H' tp kd wl hF wsi ∧ Wls H' ar xs ∧ H' sh = some (.lst (ss.map V.int)) ∧ ∃ vs ts, ws = wsi ++ (letsL ts).reverse ∧ H' D = some (.lst vs) ∧ Stk H' vs ts ∧ ts.length = j ∧ (∀ t ∈ ts, okT t ∧ HtLe (deep.toNat + 1) t ∧ okS hF t xs) ∧ (cnts ts : Int) ≤ (ss.take j).sum) ?_ ?_ ?_ ?_⟩
    · have s5 := same_new hD (.lst [])
      exact ⟨ws, B4.trans (but2_same s5), g4.same s5, w4.but (but_same s5) g4.t, s5 _ _ h4, [], [], (List.append_nil ws).symm, upd_same, trivial, rfl, (fun _ z => nomatch z), by show (0 : Int) ≤ 0; decide⟩
    · rintro j H' _ ⟨_, _, _, _, h, _⟩
      exact SqL.of h
    · rintro j x H5 hx ⟨wsi, B5, g5, w5, h5, vs, ts, hws5, hD5, k5s, hlen, hts, hcn⟩
      rw [List.getElem?_map] at hx
      obtain ⟨z, hz, rfl⟩ : ∃ z, ss[j]? = some z ∧ V.int z = x := by
        cases e : ss[j]? with
        | none =>
          rw [e] at hx
          cases hx
        | some z =>
          rw [e] at hx
          exact ⟨z, rfl, Option.some.inj hx⟩
      have hzm := mem_of_get hz
      have hz1 := hs1 z hzm
      have hz2 := le_sum hs1 hzm
      have htake := sum_take hz
      obtain ⟨nDt, nDw⟩ := g4.new hD
      have hDsh : D ≠ sh := (ne_of_none h4 hD).symm
      have hDkd : D ≠ kd := by
        obtain ⟨_, _, _, _, kk, _⟩ := g4.k
        exact (ne_of_none kk hD).symm
      have hDar : ar ≠ D := ne_of_none w4.1 hD
      have hjl : j < ss.length := (List.getElem?_eq_some_iff.mp hz).1
      have hvl := k5s.len
      have hD0 : H D = none := by
        cases e : H D with
        | none => rfl
        | some o =>
          rw [B4 _ _ nDt nDw e] at hD
          cases hD
      refine ⟨rfl, ?_⟩
      dsimp only [tYes]
      refine iteT ?_
      refine ⟨_, rfl, _, rfl, _, rfl, _, rfl, _, rfl, _, _, rfl, rfl, tp, kd, wl, ar, hF, wsi, xs, z, deep - 1, rfl, g5, w5, naw, by omega, hz1, by omega, by omega, ndeep, fun a t ls H6 ws6 b6 e6 g6 gd6 => ?_⟩
      have h6D := b6 _ _ nDt nDw hD5
      have tk6 := g5.tk b6
      refine ⟨vs, h6D, Nat.lt_of_le_of_lt (m := 1000) (by omega) (by decide), ws6, (B5.trans b6).put hD0, ?_, ?_, ?_, vs ++ [.ref a], ts ++ [t], ?_, upd_same, ?_, ?_, ?_, ?_⟩
      · refine g6.put h6D nDt nDw hDkd (fun _ z => nomatch z) fun x zs z => ?_
        have e := HO.lst.inj z
        cases ts with
        | nil =>
          cases vs with
          | nil => cases e
          | cons _ _ => exact k5s.elim
        | cons t0 tr =>
          cases vs with
          | nil => cases e
          | cons v0 vr =>
            obtain ⟨⟨b0, e0', _⟩, _⟩ := k5s
            rw [e0'] at e
            cases (List.cons.inj e).1
      · have w6 := w5.two b6 g5 naw
        exact ⟨by rw [upd_ne hDar]; exact w6.1, w6.2⟩
      · rw [upd_ne hDsh.symm]
        exact b6 _ _ nht nhw h5
      · rw [hws5, e6, letsL_app, letsL_cons, gd6.lt, List.reverse_append, List.append_assoc]
        show _ = ws6 ++ ((ls ++ []).reverse ++ _)
        rw [List.append_nil]
      · exact ((k5s.tk tk6).app (us := [.ref a]) (ss := [t]) ⟨⟨a, rfl, gd6.at_⟩, trivial⟩).tk (tk_put h6D)
      · rw [List.length_append, hlen]
        rfl
      · exact stk_ok_app hts gd6.ok (gd6.dp.le (by omega)) gd6.sc
      · have c6 := gd6.cn
        rw [cnts_app, htake]
        show ((cnts ts + (cnt t + 0) : Nat) : Int) ≤ _
        omega
    · rintro H5 ⟨wsi, B5, g5, w5, h5, vs, ts, hws5, hD5, k5s, hlen, hts, hcn⟩
      rw [List.length_map] at hlen hcn
      rw [List.take_length] at hcn
      have hvl := k5s.len
      refine ⟨_, rfl, sz (by show 2 ≤ 100000; decide), fun p6 hp6 => ?_⟩
      have s6 := same_new hp6 (.lst [.str wd, .str "plus"])
      have hw6 : ∃ hx : Hd, atI [V.str wd, .str "plus"] (if decide (V.str wd = V.str "let") = true then 1 else 0) = some (.str (hs hx)) ∧ okH hx ∧ hdLets hx = [] ∧ (∀ nn ys, okN hF hx nn ys) ∧ (∀ ii ys, inn hx ii ys = ys) ∧ (∀ (H' : Hp) (p : Addr), H' p = some (.tup (.str (hs hx) :: vs)) → Lay H' p hx vs) := by
        rcases hx9 with z | z | z | z
        · subst z
          exact ⟨.plus, at1, trivial, rfl, fun _ _ => trivial, fun _ _ => rfl, fun H' p h => ⟨by rw [hvl, hlen]; have := hm5 (by decide); omega, h⟩⟩
        · subst z
          exact ⟨.iff, at0, trivial, rfl, fun _ _ => trivial, fun _ _ => rfl, fun H' p h => ⟨by rw [hvl, hlen]; have := hm4 rfl; omega, h⟩⟩
        · subst z
          exact ⟨.plus, at0, trivial, rfl, fun _ _ => trivial, fun _ _ => rfl, fun H' p h => ⟨by rw [hvl, hlen]; have := hm5 (by decide); omega, h⟩⟩
        · subst z
          exact ⟨.less, at0, trivial, rfl, fun _ _ => trivial, fun _ _ => rfl, fun H' p h => ⟨by rw [hvl, hlen]; have := hm5 (by decide); omega, h⟩⟩
      obtain ⟨hx, hxa, hxo, hxn, hxN, hxi, hxl⟩ := hw6
      refine ⟨_, rfl, rfl, .inr ⟨_, rfl, p6, _, _, _, rfl, rfl, SqL.of upd_same, hxa, sz (by show 1 ≤ 100000; decide), fun p7 hp7 => ?_⟩⟩
      have s7 := same_new hp7 (.tup [.str (hs hx)])
      have s67 := s6.trans s7
      refine ⟨_, rfl, D, _, rfl, .inl ⟨SqL.of (s67 _ _ hD5), fun p8 hp8 => ?_⟩⟩
      have s8 := same_new hp8 (.tup vs)
      have s68 := s67.trans s8
      refine catA_of (s8 _ _ upd_same) upd_same (by show 1 + vs.length ≤ 100000; omega) fun p9 H9 s9 h9 => ?_
      have s69 := s68.trans s9
      refine q p9 (mkL hx ts) (letsL ts) H9 wsi (B5.trans (but2_same s69)) hws5 (g5.same s69) ⟨?_, ?_, ?_, ?_, ?_, ?_⟩
      · exact at_mkL (hxl H9 p9 h9) (k5s.mono s69)
      · exact ok_mkL hxo fun t ht => (hts t ht).1
      · rw [cnt_mkL]
        omega
      · exact ht_mkL (n := deep.toNat + 1) fun t ht => (hts t ht).2.1
      · refine sc_mkL (hxN _ _) fun i t hi => ?_
        rw [hxi]
        exact (hts t (mem_of_get hi)).2.2
      · rw [lt_mkL, hxn]
        rfl
theorem no_term {f : Addr} {fd : FuncData} {k : Nat} : FnOk P w K mg base CX0 k f fd ["tape", "known", "around", "room", "deep"] (spTerm 0) := by
  have no : ∀ vs H Q E, ¬ spTerm 0 vs H Q E := fun vs H Q E h => by
    obtain ⟨tp, kd, wl, ar, hF, ws, xs, room, deep, _, _, _, _, _, _, _, _, h0, _⟩ := h
    omega
  exact ⟨fun vs H Q E h => absurd h (no vs H Q E), fun A outer s H args us vs Q E _ _ _ _ h => absurd h (no vs H Q E)⟩
theorem all_term (T : Txt K mg) {f fg fh fs_ fl_ fa : Addr} {fd gd hd sd ld ad : FuncData} (F : Fun K "_law_term" "_law_term" s_law_term f fd) (FA : Fun K "_law_ask" "_law_ask" s_law_ask fa ad)
    (G_law_digit : FnOk P w K mg base CX0 1 fg gd ["tape", "many"] spDig) (R_law_digit : Ref K mg "_law_digit" fg gd ["tape", "many"])
    (G_law_leaf : FnOk P w K mg base CX0 3 fh hd ["tape", "known", "around"] spLeaf) (R_law_leaf : Ref K mg "_law_leaf" fh hd ["tape", "known", "around"]) (G_law_shares : FnOk P w K mg base CX0 2 fs_ sd ["tape", "room", "many"] spShr) (R_law_shares : Ref K mg "_law_shares" fs_ sd ["tape", "room", "many"])
    (G_law_less_one : FnOk P w K mg base CX0 1 fl_ ld ["around"] spLess) (R_law_less_one : Ref K mg "_law_less_one" fl_ ld ["around"])
    (R_law_term : Ref K mg "_law_term" f fd ["tape", "known", "around", "room", "deep"]) (R_law_ask : Ref K mg "_law_ask" fa ad ["tape", "known", "around", "room", "deep"]) : ∀ n : Nat, FnOk P w K mg base CX0 (2 * n + 4) f fd ["tape", "known", "around", "room", "deep"] (spTerm n)
  | 0 => no_term
  | n + 1 => by
    have ih := all_term T F FA G_law_digit R_law_digit G_law_leaf R_law_leaf G_law_shares R_law_shares G_law_less_one R_law_less_one R_law_term R_law_ask n
    exact ok_term T F G_law_digit R_law_digit G_law_leaf R_law_leaf G_law_shares R_law_shares (ok_ask T FA G_law_digit R_law_digit G_law_leaf R_law_leaf G_law_shares R_law_shares G_law_less_one R_law_less_one ih R_law_term) R_law_ask ih R_law_term
end
end KB

namespace KB
open PySem L2

/-! ### the words that are drawn -/
def lettersS : Str := "abcdefghijklmnopqrstuvwxyz"
def sgn (i : Nat) : Str := ⟨#[97 + i % 26]⟩
def endsL : List Str := ["", "a", "omelons"]
def someL : List Str := ["give", "ask", "post", "plus", "less", "name", "number", "to", "as", "f", "x", "aq", "bq", "lets", "ifs", "ina", "homes", "q"]
def w0 (turn : Nat) (e : Str) (k : Nat) : Str := sgn (turn + k) ++ e
def w1 (turn : Nat) (k : Nat) : Str := repS (sgn (turn + k / 8)) (1 + (k : Int) % 8)
def w2 (turn : Nat) (k : Nat) : Str := someL.getD ((turn + k) % 18) ""
def good16 (f : Nat → Str) : Bool := ((List.range 16).map f).all isW && decide ((List.range 16).map f).Nodup
theorem good_w0 : ∀ turn < 26, ∀ e ∈ endsL, good16 (w0 turn e) = true := by decide +kernel
theorem good_w1 : ∀ turn < 26, good16 (w1 turn) = true := by decide +kernel
theorem good_w2 : ∀ turn < 26, good16 (w2 turn) = true := by decide +kernel
theorem good_of {f : Nat → Str} (h : good16 f = true) {n : Nat} (hn : n ≤ 16) : (∀ x ∈ (List.range n).map f, isW x = true) ∧ ((List.range n).map f).Nodup := by
  unfold good16 at h
  rw [Bool.and_eq_true] at h
  have hs : ((List.range n).map f).Sublist ((List.range 16).map f) := (List.range_sublist.mpr hn).map f
  exact ⟨fun x hx => List.all_eq_true.mp h.1 x (hs.subset hx), (of_decide_eq_true h.2).sublist hs⟩
theorem letters_at {i : Int} (h0 : 0 ≤ i) (h1 : i < 26) : atI lettersS.cps.toList i = some (97 + i.toNat) := by
  have e : lettersS.cps.toList = (List.range 26).map (97 + ·) := by decide +kernel
  rw [e]
  obtain ⟨n, rfl⟩ : ∃ n : Nat, i = (n : Int) := ⟨i.toNat, by omega⟩
  rw [Int.toNat_natCast]
  refine atI_nat ?_
  rw [List.getElem?_map, List.getElem?_range (by omega)]
  rfl
theorem range_push {f : Nat → Str} (i : Nat) : ((List.range i).map f).map V.str ++ [V.str (f i)] = ((List.range (i + 1)).map f).map V.str := by
  rw [List.range_succ, List.map_append, List.map_append]
  rfl

section
variable {P : Program} {w : World} {K : PySem.W.Frag} {mg : Str → Option Value} {base : Heap}
def spWords : Sp := fun vs H Q _ => ∃ (tp : Addr) (many : Int), vs = [.ref tp, .int many] ∧ Tp H tp ∧ 0 ≤ many ∧ many ≤ 16 ∧
  ∀ (p : Addr) (xs : List Str) (H' : Hp), But1 tp H H' → Tp H' tp → H p = none → Wls H' p xs → (xs.length : Int) = many → xs.Nodup → Q (.ref p) H'
abbrev s_law_words : Stmt := top 28
theorem scLwords : FnScope ["tape", "many", "letters", "way", "turn", "ends", "k", "some"] ["tape", "many"] (defScope s_law_words) := ⟨rfl, rfl, rfl, by decide +kernel, rfl, by decide +kernel, by decide +kernel⟩
theorem ok_words (T : Txt K mg) {f g : Addr} {fd gd : FuncData} (F : Fun K "_law_words" "_law_words" s_law_words f fd) (G_law_digit : FnOk P w K mg base CX0 1 g gd ["tape", "many"] spDig) (R_law_digit : Ref K mg "_law_digit" g gd ["tape", "many"]) : FnOk P w K mg base CX0 2 f fd ["tape", "many"] spWords := by
  refine F.ok scLwords (fun vs H Q E h => ?_) (fun cdv A outer s H vs Q E hr h => ?_)
  · obtain ⟨tp, many, rfl, _⟩ := h
    rfl
  obtain ⟨tp, many, rfl, ht, hm0, hm1, q⟩ := h
  refine ⟨_, (pss_cons (ps_set (i := 2) scLwords.nd rfl (Or.inr rfl) pe_str)
    (pss_cons (ps_set (i := 3) scLwords.nd rfl (Or.inl rfl) (pe_call G_law_digit hr rfl R_law_digit.m R_law_digit.k R_law_digit.b .nil pass0 (pa_cons (pv 0) (pa_cons pe_int pa_nil))))
    (pss_cons (ps_set (i := 4) scLwords.nd rfl (Or.inr rfl) (pe_call G_law_digit hr rfl R_law_digit.m R_law_digit.k R_law_digit.b .nil pass0 (pa_cons (pv 0) (pa_cons pe_int pa_nil))))
    (pss_cons (ps_if (pt_cmpR op_eq (pv 3) pe_int (nomark _)) (pss_cons (ps_set (i := 5) scLwords.nd rfl (Or.inr rfl) (pe_ix ix_list (pe_lst (pa_cons pe_str (pa_cons pe_str (pa_cons pe_str pa_nil)))) (pe_call G_law_digit hr rfl R_law_digit.m R_law_digit.k R_law_digit.b .nil pass0 (pa_cons (pv 0) (pa_cons pe_int pa_nil))) (fun _ _ => rfl)))
    (pss_one (ps_ret (pe_lc (own := [("k", 6)]) (g := gName 6) (by rfl) scLwords.nd (pi_range1 rfl T.m_range (pa_cons (pv 1) pa_nil)) (blkOk_by (own := [("k", 6)]) (N := ["tape", "many", "letters", "way", "turn", "ends", "k", "some"]) (sc := defScope s_law_words) (by decide +kernel)) (fun _ _ _ _ _ => (pg_name (i := 6) scLwords.nd rfl (Or.inl rfl))) (fun _ _ _ _ _ => pts_nil) (fun _ _ _ _ _ => (pe_op op_add_str (pe_ix ix_str (pv 2) (pe_op op_mod (pe_op op_add (pv 4) (pv 6)) pe_int) (fun _ _ => rfl)) (pv 5))))))) pss_nil)
    (pss_cons (ps_if (pt_cmpR op_eq (pv 3) pe_int (nomark _)) (pss_one (ps_ret (pe_lc (own := [("k", 6)]) (g := gName 6) (by rfl) scLwords.nd (pi_range1 rfl T.m_range (pa_cons (pv 1) pa_nil)) (blkOk_by (own := [("k", 6)]) (N := ["tape", "many", "letters", "way", "turn", "ends", "k", "some"]) (sc := defScope s_law_words) (by decide +kernel)) (fun _ _ _ _ _ => (pg_name (i := 6) scLwords.nd rfl (Or.inl rfl))) (fun _ _ _ _ _ => pts_nil) (fun _ _ _ _ _ => (pe_op op_mul_str (pe_ix ix_str (pv 2) (pe_op op_mod (pe_op op_add (pv 4) (pe_op op_fdiv (pv 6) pe_int)) pe_int) (fun _ _ => rfl)) (pe_op op_add pe_int (pe_op op_mod (pv 6) pe_int))))))) pss_nil)
    (pss_cons (ps_set (i := 7) scLwords.nd rfl (Or.inr rfl) (pe_lst (pa_cons pe_str (pa_cons pe_str (pa_cons pe_str (pa_cons pe_str (pa_cons pe_str (pa_cons pe_str (pa_cons pe_str (pa_cons pe_str (pa_cons pe_str (pa_cons pe_str (pa_cons pe_str pa_nil)))))))))))))
    (pss_cons (ps_set (i := 7) scLwords.nd rfl (Or.inr rfl) (pe_op op_cat (pv 7) (pe_lst (pa_cons pe_str (pa_cons pe_str (pa_cons pe_str (pa_cons pe_str (pa_cons pe_str (pa_cons pe_str (pa_cons pe_str pa_nil))))))))))
    (pss_one (ps_ret (pe_lc (own := [("k", 6)]) (g := gName 6) (te := tOp (rIxL K) (tVar 7) (tOp (rI (fun _ j => 0 < j) fun i j => .int (i % j)) (tOp (rI0 fun i j => .int (i + j)) (tVar 4) (tVar 6)) (tC (.int 18)))) (by rfl) scLwords.nd (pi_range1 rfl T.m_range (pa_cons (pv 1) pa_nil)) (blkOk_by (own := [("k", 6)]) (N := ["tape", "many", "letters", "way", "turn", "ends", "k", "some"]) (sc := defScope s_law_words) (by decide +kernel)) (fun _ _ _ _ _ => (pg_name (i := 6) scLwords.nd rfl (Or.inl rfl))) (fun _ _ _ _ _ => pts_nil) (fun _ _ _ _ _ => (pe_ix ix_list (pv 7) (pe_op op_mod (pe_op op_add (pv 4) (pv 6)) pe_int) (fun _ _ => rfl))))))))))))), ?_⟩
  have fin : ∀ (f : Nat → Str), good16 f = true → ∀ (H1 : Hp) (D : Addr) (H' : Hp), But1 tp H H1 → Tp H1 tp → H1 D = none → Same H1 H' → H' D = some (.lst (((List.range many.toNat).map f).map V.str)) → Q (.ref D) H' := by
    intro f hf H1 D H' b1 t1 hD s1 h1
    obtain ⟨e1, e2⟩ := good_of hf (n := many.toNat) (by omega)
    refine q D _ H' (b1.trans (but_same s1)) (t1.same s1) ?_ ⟨h1, e1⟩ (by rw [List.length_map, List.length_range]; omega) e2
    cases e : H D with
    | none => rfl
    | some o =>
      obtain ⟨z, hz⟩ := t1
      rw [b1 _ _ (ne_of_none hz hD).symm e] at hD
      cases hD
  refine ⟨_, rfl, tp, 3, rfl, ht, by decide, by decide, fun way H1 _ _ b1 t1 => ?_⟩
  refine ⟨_, rfl, tp, 26, rfl, t1, by decide, by decide, fun turn H2 r0 r1 b2 t2 => ?_⟩
  have b12 := b1.trans b2
  refine ⟨_, rfl, rfl, _, rfl, ?_⟩
  refine ite2 (fun c1 => ?_) (fun c1 => ?_)
  · refine ⟨sz (by show 3 ≤ 100000; decide), fun p hp => ?_⟩
    have s3 := same_new hp (.lst [.str "", .str "a", .str "omelons"])
    have np : p ≠ tp := by
      obtain ⟨z, hz⟩ := t2
      exact (ne_of_none hz hp).symm
    refine ⟨_, rfl, tp, 3, rfl, t2.same s3, by decide, by decide, fun r H3 r2 r3 b3 t3 => ?_⟩
    obtain ⟨v, hv, hm⟩ := at_some (xs := endsL.map V.str) r2 r3
    obtain ⟨e, he, rfl⟩ := List.mem_map.mp hm
    have hel : e.length ≤ 100 := by
      have : ∀ x ∈ endsL, x.length ≤ 100 := by decide +kernel
      exact this e he
    refine ⟨p, _, _, _, rfl, rfl, SqL.of (b3 _ _ np upd_same), hv, ?_⟩
    have b4 := (b12.trans (but_same s3)).trans b3
    refine ⟨_, rfl, many, rfl, by omega, by omega, fun D hD => lc_range (lo := 0) (n := many.toNat) (fun i H' => Same H3 H' ∧ H' D = some (.lst (((List.range i).map (w0 turn.toNat e)).map V.str))) ⟨same_new hD _, upd_same⟩ ?_ ?_⟩
    · rintro i H' hi ⟨s5, h5⟩
      have ei : (turn + (0 + (i : Nat))) % 26 = (((turn.toNat + i) % 26 : Nat) : Int) := by omega
      refine ⟨rfl, ?_⟩
      dsimp only [tYes]
      refine iteT ?_
      refine ⟨_, rfl, _, rfl, _, rfl, _, _, rfl, rfl, _, _, rfl, rfl, (by show (0 : Int) < 26; decide), lettersS, _, _, rfl, rfl, (by decide +kernel), letters_at (Int.emod_nonneg _ (by decide)) (Int.emod_lt_of_pos _ (by decide)), ?_⟩
      refine ⟨_, rfl, _, _, rfl, rfl, sz (by show 1 + e.length ≤ 100000; omega), ?_⟩
      refine ⟨_, h5, Nat.lt_of_le_of_lt (m := 100) (by rw [List.length_map, List.length_map, List.length_range]; omega) (by decide), same_mut s5 hD, ?_⟩
      rw [upd_same, ← range_push]
      have e9 : w0 turn.toNat e i = (⟨#[97 + ((turn + (0 + (i : Nat))) % 26).toNat]⟩ : Str) ++ e := by
        rw [ei, Int.toNat_natCast]
        rfl
      rw [e9]
    · rintro H' ⟨s5, h5⟩
      exact fin _ (good_w0 turn.toNat (by omega) e he) H3 D H' b4 t3 hD s5 h5
  refine ⟨_, rfl, rfl, _, rfl, ?_⟩
  refine ite2 (fun c2 => ?_) (fun c2 => ?_)
  · refine ⟨_, rfl, many, rfl, by omega, by omega, fun D hD => lc_range (lo := 0) (n := many.toNat) (fun i H' => Same H2 H' ∧ H' D = some (.lst (((List.range i).map (w1 turn.toNat)).map V.str))) ⟨same_new hD _, upd_same⟩ ?_ ?_⟩
    · rintro i H' hi ⟨s5, h5⟩
      have ei : (turn + (0 + (i : Nat)) / 8) % 26 = (((turn.toNat + i / 8) % 26 : Nat) : Int) := by omega
      refine ⟨rfl, ?_⟩
      dsimp only [tYes]
      refine iteT ?_
      refine ⟨_, rfl, _, rfl, _, rfl, _, _, rfl, rfl, ⟨by decide, by decide⟩, _, _, rfl, rfl, _, _, rfl, rfl, (by show (0 : Int) < 26; decide), lettersS, _, _, rfl, rfl, (by decide +kernel), letters_at (Int.emod_nonneg _ (by decide)) (Int.emod_lt_of_pos _ (by decide)), ?_⟩
      refine ⟨_, rfl, _, _, rfl, rfl, (by show (0 : Int) < 8; decide), _, _, rfl, rfl, _, _, rfl, rfl, by omega, by omega, Nat.le_refl 1, by show 1 ≤ 1000; decide, ?_⟩
      refine ⟨_, h5, Nat.lt_of_le_of_lt (m := 100) (by rw [List.length_map, List.length_map, List.length_range]; omega) (by decide), same_mut s5 hD, ?_⟩
      rw [upd_same, ← range_push]
      have e9 : w1 turn.toNat i = repS (⟨#[97 + ((turn + (0 + (i : Nat)) / 8) % 26).toNat]⟩ : Str) (1 + (0 + (i : Nat)) % 8) := by
        rw [ei, Int.toNat_natCast, Int.zero_add]
        rfl
      rw [e9]
    · rintro H' ⟨s5, h5⟩
      exact fin _ (good_w1 turn.toNat (by omega)) H2 D H' b12 t2 hD s5 h5
  · refine ⟨sz (by show 11 ≤ 100000; decide), fun p1 hp1 => ?_⟩
    have s3 := same_new hp1 (.lst ((someL.take 11).map V.str))
    refine ⟨_, rfl, sz (by show 7 ≤ 100000; decide), fun p2 hp2 => ?_⟩
    have s4 := same_new hp2 (.lst ((someL.drop 11).map V.str))
    refine ⟨p1, p2, (someL.take 11).map V.str, (someL.drop 11).map V.str, rfl, rfl, s4 _ _ upd_same, upd_same, sz (by show 18 ≤ 100000; decide), fun p3 hp3 => ?_⟩
    have s5 := same_new hp3 (.lst ((someL.take 11).map V.str ++ (someL.drop 11).map V.str))
    have s35 := s3.trans (s4.trans s5)
    have h3 : upd (upd (upd H2 p1 (.lst ((someL.take 11).map V.str))) p2 (.lst ((someL.drop 11).map V.str))) p3 (.lst ((someL.take 11).map V.str ++ (someL.drop 11).map V.str)) p3 = some (.lst (someL.map V.str)) := upd_same
    have t3 := t2.same s35
    have b3 := b12.trans (but_same s35)
    refine ⟨_, rfl, many, rfl, by omega, by omega, fun D hD => lc_range (lo := 0) (n := many.toNat) (fun i H' => Same (upd (upd (upd H2 p1 (.lst ((someL.take 11).map V.str))) p2 (.lst ((someL.drop 11).map V.str))) p3 (.lst ((someL.take 11).map V.str ++ (someL.drop 11).map V.str))) H' ∧ H' D = some (.lst (((List.range i).map (w2 turn.toNat)).map V.str))) ⟨same_new hD _, upd_same⟩ ?_ ?_⟩
    · rintro i H' hi ⟨s6, h6⟩
      have ei : (turn + (0 + (i : Nat))) % 18 = (((turn.toNat + i) % 18 : Nat) : Int) := by omega
      have hat : atI (someL.map V.str) ((turn + (0 + (i : Nat))) % 18) = some (V.str (w2 turn.toNat i)) := by
        rw [ei]
        refine atI_nat ?_
        rw [List.getElem?_map]
        unfold w2
        have hl : (turn.toNat + i) % 18 < someL.length := Nat.mod_lt _ (by decide)
        rw [List.getElem?_eq_getElem hl, List.getD_eq_getElem?_getD, List.getElem?_eq_getElem hl]
        rfl
      refine ⟨rfl, ?_⟩
      dsimp only [tYes]
      refine iteT ?_
      refine ⟨_, rfl, _, rfl, _, rfl, _, _, rfl, rfl, _, _, rfl, rfl, (by show (0 : Int) < 18; decide), p3, _, _, _, rfl, rfl, SqL.of (s6 _ _ h3), hat, ?_⟩
      refine ⟨_, h6, Nat.lt_of_le_of_lt (m := 100) (by rw [List.length_map, List.length_map, List.length_range]; omega) (by decide), same_mut s6 hD, ?_⟩
      rw [upd_same, ← range_push]
    · rintro H' ⟨s6, h6⟩
      exact fin _ (good_w2 turn.toNat (by omega)) _ D H' b3 t3 hD s6 h6
end
end KB

namespace KB
open PySem L2

section
variable {P : Program} {w : World} {K : PySem.W.Frag} {mg : Str → Option Value} {base : Heap}
/-! ### _law_body -/
def spBody : Sp := fun vs H Q _ => ∃ (tp kd wl nl : Addr) (hF : Str → Option Nat) (ws xs : List Str) (room : Int), vs = [.ref tp, .ref kd, .ref nl, .int room] ∧ GS H tp kd wl hF ws ∧ Wls H nl xs ∧ nl ≠ wl ∧ xs.length ≤ 100 ∧ 8 ≤ room ∧ room ≤ 40 ∧
  ∀ a t ls H' ws', But2 tp wl H H' → ws = ws' ++ List.reverse ls → GS H' tp kd wl hF ws' → Gd H' a room.toNat 13 hF xs ls t → Q (.ref a) H'
abbrev s_law_body : Stmt := top 35
theorem scLbody : FnScope ["tape", "known", "names", "room", "shares", "one"] ["tape", "known", "names", "room"] (defScope s_law_body) := ⟨rfl, rfl, rfl, by decide +kernel, rfl, by decide +kernel, by decide +kernel⟩
theorem ok_body (T : Txt K mg) {f fg fs_ ft : Addr} {fd gd sd td : FuncData} (F : Fun K "_law_body" "_law_body" s_law_body f fd) (G_law_digit : FnOk P w K mg base CX0 1 fg gd ["tape", "many"] spDig) (R_law_digit : Ref K mg "_law_digit" fg gd ["tape", "many"])
    (G_law_shares : FnOk P w K mg base CX0 2 fs_ sd ["tape", "room", "many"] spShr) (R_law_shares : Ref K mg "_law_shares" fs_ sd ["tape", "room", "many"])
    (G_law_term : FnOk P w K mg base CX0 28 ft td ["tape", "known", "around", "room", "deep"] (spTerm 12)) (R_law_term : Ref K mg "_law_term" ft td ["tape", "known", "around", "room", "deep"]) : FnOk P w K mg base CX0 29 f fd ["tape", "known", "names", "room"] spBody := by
  refine F.ok scLbody (fun vs H Q E h => ?_) (fun cdv A outer s H vs Q E hr h => ?_)
  · obtain ⟨tp, kd, wl, nl, hF, ws, xs, room, rfl, _⟩ := h
    rfl
  obtain ⟨tp, kd, wl, nl, hF, ws, xs, room, rfl, hg, hw, nnw, hx, hr1, hr2, q⟩ := h
  refine ⟨_, (pss_cons (ps_if (PW.pt (pw_and (pt_cmpR (op_neD hr.units) (pv 2) (pe_lst pa_nil) (nomark _)) (pw_and1 (pt_cmpR op_gt (pe_call G_law_digit (hr.mono (by omega)) rfl R_law_digit.m R_law_digit.k R_law_digit.b .nil pass0 (pa_cons (pv 0) (pa_cons pe_int pa_nil))) pe_int (nomark _))))) (pss_cons (ps_set (i := 4) scLbody.nd rfl (Or.inl rfl) (pe_call G_law_shares (hr.mono (by omega)) rfl R_law_shares.m R_law_shares.k R_law_shares.b .nil pass0 (pa_cons (pv 0) (pa_cons (pe_op op_sub (pv 3) pe_int) (pa_cons pe_int pa_nil)))))
    (pss_cons (ps_set (i := 5) scLbody.nd rfl (Or.inl rfl) (pe_call G_law_term hr rfl R_law_term.m R_law_term.k R_law_term.b .nil pass0 (pa_cons (pv 0) (pa_cons (pv 1) (pa_cons (pv 2) (pa_cons (pe_ix ix_list (pv 4) pe_int (fun _ _ => rfl)) (pa_cons pe_int pa_nil)))))))
    (pss_one (ps_ret (pe_tup (pa_cons pe_str (pa_cons (pe_tup (pa_cons pe_str (pa_cons (pe_ix ix_list (pv 2) pe_int (fun _ _ => rfl)) pa_nil))) (pa_cons (pv 5) (pa_cons (pe_call G_law_term hr rfl R_law_term.m R_law_term.k R_law_term.b .nil pass0 (pa_cons (pv 0) (pa_cons (pv 1) (pa_cons (pv 2) (pa_cons (pe_ix ix_list (pv 4) pe_int (fun _ _ => rfl)) (pa_cons pe_int pa_nil)))))) pa_nil))))))))) pss_nil)
    (pss_one (ps_ret (pe_call G_law_term hr rfl R_law_term.m R_law_term.k R_law_term.b .nil pass0 (pa_cons (pv 0) (pa_cons (pv 1) (pa_cons (pv 2) (pa_cons (pv 3) (pa_cons pe_int pa_nil))))))))), ?_⟩
  have termW : ∀ H1, But2 tp wl H H1 → GS H1 tp kd wl hF ws → Wls H1 nl xs → (tRet (tCall (spTerm 12) [] E0 (tCons (tVar 0) (tCons (tVar 1) (tCons (tVar 2) (tCons (tVar 3) (tCons (tC (.int 11)) tNil))))))) { nx := fun x H' => Q V.non H', rt := Q } [some (.ref tp), some (.ref kd), some (.ref nl), some (.int room), none, none] H1 := by
    intro H1 b1 g1 w1
    refine ⟨_, rfl, _, rfl, _, rfl, _, rfl, tp, kd, wl, nl, hF, ws, xs, room, 11, rfl, g1, w1, nnw, by omega, by omega, by omega, by decide, by decide, fun a t ls H2 ws2 b2 e2 g2 gd => ?_⟩
    exact q a t ls H2 ws2 (b1.trans b2) e2 g2 (gd.le (Nat.le_refl _) (by decide))
  refine ⟨_, rfl, sz (by show 0 ≤ 100000; decide), fun p0 hp0 => ?_⟩
  have s0 := same_new hp0 (.lst [])
  have g0 := hg.same s0
  have w0 := hw.but (but_same s0) hg.t
  refine ⟨.list (xs.map PyData.str), .list [], .lst (SqL.of w0.1) (dp_strs xs), .lst (SqL.of upd_same) .nil, shaped_strs hw.2, rfl, _, rfl, ?_⟩
  rw [eqv_nil]
  cases xs with
  | nil => exact iteF (termW _ (but2_same s0) g0 w0)
  | cons x0 xr =>
    refine iteT ⟨_, rfl, tp, 4, rfl, g0.t, by decide, by decide, fun r H1 _ _ b1 t1 => ?_⟩
    have g1 := g0.one b1 t1
    have w1 := w0.but b1 g0.t
    have B1 : But2 tp wl H H1 := (but2_same s0).trans b1.two
    refine ⟨_, _, rfl, rfl, _, rfl, ?_⟩
    refine ite2 (fun c => ?_) (fun c => ?_)
    · refine ⟨_, rfl, _, rfl, _, _, rfl, rfl, tp, room - 2, 2, rfl, g1.t, by decide, by omega, by omega, fun sh ss H4 b4 t4 hsh h4 hsl4 hs1 hsum => ?_⟩
      obtain ⟨y0, y1, rfl⟩ := sum2 (xs := ss) (by omega)
      have hx0 := hs1 y0 List.mem_cons_self
      have hx1 := hs1 y1 (List.mem_cons_of_mem _ List.mem_cons_self)
      have esum : y0 + y1 ≤ room - 2 := by
        have e : [y0, y1].sum = y0 + (y1 + 0) := rfl
        omega
      have g4 := g1.one b4 t4
      have w4 := w1.but b4 g1.t
      obtain ⟨nht, nhw⟩ := g1.new hsh
      refine ⟨_, rfl, _, rfl, _, rfl, _, rfl, sh, _, _, _, rfl, rfl, SqL.of h4, at0, tp, kd, wl, nl, hF, ws, x0 :: xr, y0, 10, rfl, g4, w4, nnw, by omega, by omega, by omega, by decide, by decide, fun a5 t5 ls5 H5 ws5 b5 e5 g5 gd5 => ?_⟩
      have w5 := w4.two b5 g4 nnw
      have h5 := b5 _ _ nht nhw h4
      refine ⟨_, rfl, nl, _, _, _, rfl, rfl, SqL.of w5.1, at0, sz (by show 2 ≤ 100000; decide), fun p6 hp6 => ?_⟩
      have s6 := same_new hp6 (.tup [.str "name", .str x0])
      have g6 := g5.same s6
      have w6 := w5.but (but_same s6) g5.t
      refine ⟨_, rfl, _, rfl, _, rfl, _, rfl, _, rfl, sh, _, _, _, rfl, rfl, SqL.of (s6 _ _ h5), at1, tp, kd, wl, nl, hF, ws5, x0 :: xr, y1, 10, rfl, g6, w6, nnw, by omega, by omega, by omega, by decide, by decide, fun a8 t8 ls8 H8 ws8 b8 e8 g8 gd8 => ?_⟩
      refine ⟨sz (by show 4 ≤ 100000; decide), fun p9 hp9 => ?_⟩
      have s9 := same_new hp9 (.tup [.str "if", .ref p6, .ref a5, .ref a8])
      have tk68 := (g6.tk b8).trans (tk_same s9)
      have tk59 := (tk_same s6).trans tk68
      have l6 : Lay _ p6 (.nam x0) [] := ⟨rfl, tk68 _ _ upd_same⟩
      have gl := gd_nam (hd := hF) (xs := x0 :: xr) l6 (hw.2 x0 List.mem_cons_self) List.mem_cons_self
      refine q p9 (mkL .iff [mkL (.nam x0) [], t5, t8]) (ls5 ++ ls8) _ ws8 (B1.trans (b4.two.trans (b5.trans ((but2_same s6).trans (b8.trans (but2_same s9)))))) (by rw [e5, e8]; simp) (g8.same s9) ⟨?_, ?_, ?_, ?_, ?_, ?_⟩
      · exact at_mkL (vs := [.ref p6, .ref a5, .ref a8]) ⟨rfl, upd_same⟩ ⟨⟨p6, rfl, gl.at_⟩, ⟨a5, rfl, gd5.at_.tk tk59⟩, ⟨a8, rfl, gd8.at_.mono s9⟩, trivial⟩
      · refine ok_mkL trivial fun u hu => ?_
        rcases List.mem_cons.mp hu with z | z
        · rw [z]
          exact gl.ok
        · rcases List.mem_cons.mp z with z | z
          · rw [z]
            exact gd5.ok
          · rw [List.mem_singleton.mp z]
            exact gd8.ok
      · have c5 := gd5.cn
        have c8 := gd8.cn
        have c6 := gl.cn
        rw [cnt_mkL]
        show 1 + (cnt (mkL (.nam x0) []) + (cnt t5 + (cnt t8 + 0))) ≤ _
        omega
      · refine ht_mkL (n := 12) fun u hu => ?_
        rcases List.mem_cons.mp hu with z | z
        · rw [z]
          exact gl.dp.le (by decide)
        · rcases List.mem_cons.mp z with z | z
          · rw [z]
            exact gd5.dp.le (by decide)
          · rw [List.mem_singleton.mp z]
            exact gd8.dp.le (by decide)
      · refine sc_mkL trivial fun i u hi => ?_
        match i, hi with
        | 0, hi =>
          cases (Option.some.inj hi)
          exact gl.sc
        | 1, hi =>
          cases (Option.some.inj hi)
          exact gd5.sc
        | 2, hi =>
          cases (Option.some.inj hi)
          exact gd8.sc
        | i + 3, hi => simp at hi
      · rw [lt_mkL, letsL_cons, letsL_cons, letsL_cons, gl.lt, gd5.lt, gd8.lt]
        show [] ++ ([] ++ (ls5 ++ (ls8 ++ []))) = _
        rw [List.append_nil]
        rfl
    · exact termW _ B1 g1 w1

/-! ### _law_book -/
/-- a book that is good -/
structure GdE (hF : Str → Option Nat) (e : Er) : Prop where
  w : isW e.1 = true
  ws : ∀ x ∈ e.2.1, isW x = true
  n4 : e.2.1.length ≤ 4
  ok : okT e.2.2
  cn : cnt e.2.2 ≤ 40
  dp : HtLe 13 e.2.2
  hf : hF e.1 = some e.2.1.length
  sc : okS hF e.2.2 e.2.1
  un : (e.2.1 ++ letsOf e.2.2).Nodup
structure GdB (es : List Er) : Prop where
  len : 1 ≤ es.length ∧ es.length ≤ 6
  nd : (es.map (·.1)).Nodup
  er : ∃ hF : Str → Option Nat, (∀ e ∈ es, GdE hF e) ∧ ∀ f n, hF f = some n → f ∈ es.map (·.1)
def hFof (fs : List Str) (kvs : List (Key × V)) (f : Str) : Option Nat :=
  if f ∈ fs then (match valV kvs (Sum.inr f) with | some (.int n) => some n.toNat | _ => none) else none
theorem hFof_at {fs : List Str} {kvs : List (Key × V)} {f : Str} {n : Int} (h : f ∈ fs) (e : valV kvs (Sum.inr f) = some (.int n)) : hFof fs kvs f = some n.toNat := by
  unfold hFof
  rw [if_pos h, e]
theorem hFof_in {fs : List Str} {kvs : List (Key × V)} {f : Str} {n : Nat} (h : hFof fs kvs f = some n) : f ∈ fs := by
  unfold hFof at h
  by_cases c : f ∈ fs
  · exact c
  · rw [if_neg c] at h
    cases h
def spBook (K : PySem.W.Frag) : Sp := fun vs H Q _ => ∃ (sc : Addr) (ns : List Int) (start : Int), vs = [.ref sc, .int start] ∧ SqL K H sc (ns.map V.int) ∧ 0 ≤ start ∧ start ≤ 100 ∧ ∀ p es us H', Same H H' → BkAt H' es us p → GdB es → Q (.ref p) H'
abbrev s_law_book : Stmt := top 36
theorem scLbook : FnScope ["script", "start", "head", "errands", "heads", "f", "room", "found", "k", "tape", "words", "names", "known"] ["script", "start"] (defScope s_law_book) := ⟨rfl, rfl, rfl, by decide +kernel, rfl, by decide +kernel, by decide +kernel⟩
theorem merge_kn (el hd wl : Addr) : mergeK [] (knD el hd wl) = knD el hd wl := by
  have e1 : ¬ ((Sum.inr "errands" : Key) = (Sum.inr "heads" : Key)) := by decide +kernel
  have e2 : ¬ ((Sum.inr "errands" : Key) = (Sum.inr "words" : Key)) := by decide +kernel
  have e3 : ¬ ((Sum.inr "heads" : Key) = (Sum.inr "words" : Key)) := by decide +kernel
  unfold mergeK knD
  simp [putK, e1, e2, e3]
theorem cut_to {xs : List V} {i : Int} (h0 : 0 ≤ i) (h : i.toNat ≤ xs.length) : cutV xs none (some i) = xs.take i.toNat := by
  unfold cutV
  rw [sIx_no, sIx_at h0 h, List.drop_zero, Nat.sub_zero]
theorem ok_book (T : Txt K mg) {f fg ft fw fb : Addr} {fd gd td wd bd : FuncData} (F : Fun K "_law_book" "_law_book" s_law_book f fd) (G_law_digit : FnOk P w K mg base CX0 1 fg gd ["tape", "many"] spDig) (R_law_digit : Ref K mg "_law_digit" fg gd ["tape", "many"])
    (G_law_tape : FnOk P w K mg base CX0 2 ft td ["script", "k"] (spTape K)) (R_law_tape : Ref K mg "_law_tape" ft td ["script", "k"]) (G_law_words : FnOk P w K mg base CX0 2 fw wd ["tape", "many"] spWords) (R_law_words : Ref K mg "_law_words" fw wd ["tape", "many"])
    (G_law_body : FnOk P w K mg base CX0 29 fb bd ["tape", "known", "names", "room"] spBody) (R_law_body : Ref K mg "_law_body" fb bd ["tape", "known", "names", "room"]) : FnOk P w K mg base CX0 30 f fd ["script", "start"] (spBook K) := by
  refine F.ok scLbook (fun vs H Q E h => ?_) (fun cdv A outer s H vs Q E hr h => ?_)
  · obtain ⟨sc, ns, start, rfl, _⟩ := h
    rfl
  obtain ⟨sc, ns, start, rfl, hS, hst0, hst1, q⟩ := h
  refine ⟨_, (pss_cons (ps_set (i := 2) scLbook.nd rfl (Or.inl rfl) (pe_call G_law_tape (hr.mono (by omega)) rfl R_law_tape.m R_law_tape.k R_law_tape.b .nil pass0 (pa_cons (pv 0) (pa_cons (pv 1) pa_nil))))
    (pss_cons (ps_set (i := 3) scLbook.nd rfl (Or.inl rfl) (pe_call G_law_words (hr.mono (by omega)) rfl R_law_words.m R_law_words.k R_law_words.b .nil pass0 (pa_cons (pv 2) (pa_cons (pe_ix ix_list (pe_lst (pa_cons pe_int (pa_cons pe_int (pa_cons pe_int (pa_cons pe_int (pa_cons pe_int (pa_cons pe_int pa_nil))))))) (pe_call G_law_digit (hr.mono (by omega)) rfl R_law_digit.m R_law_digit.k R_law_digit.b .nil pass0 (pa_cons (pv 2) (pa_cons pe_int pa_nil))) (fun _ _ => rfl)) pa_nil))))
    (pss_cons (ps_set (i := 4) scLbook.nd rfl (Or.inl rfl) pe_dnewK)
    (pss_cons (ps_for PassesOwn.never rfl (pi_list (pv 3)) (pg_name (i := 5) scLbook.nd rfl (Or.inl rfl)) (pss_one (ps_dput (hu_of hr) (pv 4) (pv 5) (pe_ix ix_list (pe_lst (pa_cons pe_int (pa_cons pe_int (pa_cons pe_int (pa_cons pe_int (pa_cons pe_int (pa_cons pe_int pa_nil))))))) (pe_call G_law_digit (hr.mono (by omega)) rfl R_law_digit.m R_law_digit.k R_law_digit.b .nil pass0 (pa_cons (pv 2) (pa_cons pe_int pa_nil))) (fun _ _ => rfl)) rfl)))
    (pss_cons (ps_set (i := 6) scLbook.nd rfl (Or.inl rfl) (pe_ix ix_list (pe_lst (pa_cons pe_int (pa_cons pe_int (pa_cons pe_int (pa_cons pe_int pa_nil))))) (pe_call G_law_digit (hr.mono (by omega)) rfl R_law_digit.m R_law_digit.k R_law_digit.b .nil pass0 (pa_cons (pv 2) (pa_cons pe_int pa_nil))) (fun _ _ => rfl)))
    (pss_cons (ps_set (i := 7) scLbook.nd rfl (Or.inl rfl) (pe_lst pa_nil))
    (pss_cons (ps_for PassesOwn.never rfl (pi_range1 rfl T.m_range (pa_cons (pe_callB call_len_seq (by rfl) T.m_len PySem.boot_len (pa_cons (pv 3) pa_nil)) pa_nil)) (pg_name (i := 8) scLbook.nd rfl (Or.inl rfl)) (pss_cons (ps_set (i := 9) scLbook.nd rfl (Or.inl rfl) (pe_call G_law_tape (hr.mono (by omega)) rfl R_law_tape.m R_law_tape.k R_law_tape.b .nil pass0 (pa_cons (pv 0) (pa_cons (pe_op op_add (pe_op op_add (pv 1) pe_int) (pv 8)) pa_nil))))
    (pss_cons (ps_set (i := 10) scLbook.nd rfl (Or.inl rfl) (pe_call G_law_words (hr.mono (by omega)) rfl R_law_words.m R_law_words.k R_law_words.b .nil pass0 (pa_cons (pv 9) (pa_cons pe_int pa_nil))))
    (pss_cons (ps_set (i := 11) scLbook.nd rfl (Or.inl rfl) (pe_slice sl_list (pv 10) po_none (po_some (pe_dget (hu_of hr) (pv 4) (pe_ix ix_list (pv 3) (pv 8) (fun _ _ => rfl)) (fun _ _ => rfl)))))
    (pss_cons (ps_set (i := 12) scLbook.nd rfl (Or.inl rfl) (pe_disp (pps_cons pe_str (pv 3) (pps_cons pe_str (pv 4) (pps_cons pe_str (pe_slice sl_list (pv 10) (po_some (pe_callB call_len_seq (by rfl) T.m_len PySem.boot_len (pa_cons (pv 11) pa_nil))) po_none) pps_nil))) (by rfl) (by rfl) (fun z => by cases z) (by decide)))
    (pss_one (ps_expr (pe_bm PySem.F.plainAttrs_list PySem.F.slot_list_append PySem.F.type_list_append mt_append (pv 7) (pa_cons (pe_tup (pa_cons (pe_ix ix_list (pv 3) (pv 8) (fun _ _ => rfl)) (pa_cons (pe_callTy call_tuple_of (by rfl) T.m_tuple (by decide +kernel) (pa_cons (pv 11) pa_nil)) (pa_cons (pe_call G_law_body hr rfl R_law_body.m R_law_body.k R_law_body.b .nil pass0 (pa_cons (pv 9) (pa_cons (pv 12) (pa_cons (pv 11) (pa_cons (pv 6) pa_nil))))) pa_nil)))) pa_nil)))))))))
    (pss_one (ps_ret (pe_callTy call_tuple_of (by rfl) T.m_tuple (by decide +kernel) (pa_cons (pv 7) pa_nil))))))))))), ?_⟩
  refine ⟨_, rfl, _, rfl, sc, ns, start, rfl, hS, hst0, by omega, fun hp z0 hhp => ?_⟩
  have s1 := same_new hhp (.lst [.int z0])
  have t1 : Tp (upd H hp (.lst [.int z0])) hp := ⟨z0, upd_same⟩
  -- errands
  refine ⟨_, rfl, sz (by show 6 ≤ 100000; decide), fun p2 hp2 => ?_⟩
  have s2 := same_new hp2 (.lst [.int 1, .int 2, .int 2, .int 3, .int 4, .int 6])
  have t2 := t1.same s2
  have n2 : p2 ≠ hp := (ne_of_none upd_same hp2).symm
  refine ⟨_, rfl, hp, 6, rfl, t2, by decide, by decide, fun r H3 r0 r1 b3 t3 => ?_⟩
  have hme : ∃ m : Int, atI [V.int 1, .int 2, .int 2, .int 3, .int 4, .int 6] r = some (.int m) ∧ 1 ≤ m ∧ m ≤ 6 := by
    obtain ⟨v, hv, hm⟩ := at_some (xs := [V.int 1, .int 2, .int 2, .int 3, .int 4, .int 6]) r0 r1
    simp only [List.mem_cons, List.not_mem_nil, or_false] at hm
    rcases hm with z | z | z | z | z | z <;> subst z <;> exact ⟨_, hv, by decide, by decide⟩
  obtain ⟨m, hma, hm1, hm6⟩ := hme
  refine ⟨p2, _, _, _, rfl, rfl, SqL.of (b3 _ _ n2 upd_same), hma, ?_⟩
  refine ⟨hp, m, rfl, t3, by omega, by omega, fun el fs H4 b4 t4 hel w4 hfl hnd => ?_⟩
  have sH3 : Same H H3 := fun b o h => b3 _ _ (ne_of_none h hhp) (s2 _ _ (s1 _ _ h))
  have sH4 : Same H H4 := fun b o h => b4 _ _ (ne_of_none h hhp) (sH3 _ _ h)
  -- heads
  intro hd hhd
  have s5 := same_new hhd (.dK [])
  have t5 := t4.same s5
  have w5 := w4.but (but_same s5) t4
  have hhd0 : H hd = none := by
    cases e : H hd with
    | none => rfl
    | some o =>
      rw [sH4 _ _ e] at hhd
      cases hhd
  have nhd : hd ≠ hp := by
    obtain ⟨z, hz⟩ := t4
    exact (ne_of_none hz hhd).symm
  have neh : el ≠ hd := ne_of_none w4.1 hhd
  have hlen6 : fs.length ≤ 6 := by omega
  have sH5 : Same H (upd H4 hd (.dK [])) := sH4.trans s5
  have h5d : upd H4 hd (.dK []) hd = some (.dK []) := upd_same
  generalize upd H4 hd (.dK []) = H5 at s5 t5 w5 sH5 h5d
  refine ⟨_, rfl, el, rfl, ⟨_, SqL.of w5.1⟩, for_list (K := K) (a := el) (xs := fs.map V.str) (fun i σ H' => ∃ o kvs, σ = [some (.ref sc), some (.int start), some (.ref hp), some (.ref el), some (.ref hd), o, none, none, none, none, none, none, none] ∧
    But2 hp hd H5 H' ∧ Tp H' hp ∧ H' hd = some (.dK kvs) ∧ kvs.length ≤ i ∧ ∀ f ∈ fs.take i, ∃ n : Int, valV kvs (Sum.inr f) = some (.int n) ∧ 0 ≤ n ∧ n ≤ 4) ?_ ?_ ?_ ?_⟩
  · refine ⟨none, [], rfl, But2.refl _ _ _, t5, h5d, Nat.le_refl _, fun f hf => ?_⟩
    rw [List.take_zero] at hf
    cases hf
  · rintro i σ H' _ ⟨o, kvs, rfl, b6, _⟩
    exact SqL.of (b6 _ _ (wls_tp w5.1 t5) neh w5.1)
  · rintro i x σ H6 hx ⟨o, kvs, rfl, b6, t6, h6, hkl, hkv⟩
    rw [List.getElem?_map] at hx
    obtain ⟨fn, hfn, rfl⟩ : ∃ fn, fs[i]? = some fn ∧ V.str fn = x := by
      cases e : fs[i]? with
      | none =>
        rw [e] at hx
        cases hx
      | some fn =>
        rw [e] at hx
        exact ⟨fn, rfl, Option.some.inj hx⟩
    obtain ⟨hi, hi2⟩ := List.getElem?_eq_some_iff.mp hfn
    refine ⟨sz (by show 6 ≤ 100000; decide), fun p7 hp7 => ?_⟩
    have s7 := same_new hp7 (.lst [.int 1, .int 2, .int 1, .int 0, .int 3, .int 4])
    have n7 : p7 ≠ hp := by
      obtain ⟨z, hz⟩ := t6
      exact (ne_of_none hz hp7).symm
    refine ⟨_, rfl, hp, 6, rfl, t6.same s7, by decide, by decide, fun r2 H8 r3 r4 b8 t8 => ?_⟩
    have hne : ∃ m : Int, atI [V.int 1, .int 2, .int 1, .int 0, .int 3, .int 4] r2 = some (.int m) ∧ 0 ≤ m ∧ m ≤ 4 := by
      obtain ⟨v, hv, hm⟩ := at_some (xs := [V.int 1, .int 2, .int 1, .int 0, .int 3, .int 4]) r3 r4
      simp only [List.mem_cons, List.not_mem_nil, or_false] at hm
      rcases hm with z | z | z | z | z | z <;> subst z <;> exact ⟨_, hv, by decide, by decide⟩
    obtain ⟨m2, hma2, hm20, hm24⟩ := hne
    have h8 : H8 hd = some (.dK kvs) := b8 _ _ nhd (s7 _ _ h6)
    refine ⟨p7, _, _, _, rfl, rfl, SqL.of (b8 _ _ n7 upd_same), hma2, _, rfl, _, rfl, hd, _, rfl, DPut.k (k := Sum.inr fn) h8 (Nat.lt_of_le_of_lt (m := 1000) (by omega) (by decide)), ?_⟩
    refine ⟨_, _, rfl, fun b o n1 n2 hb => ?_, ?_, upd_same, ?_, ?_⟩
    · rw [upd_ne n2]
      exact b8 _ _ n1 (s7 _ _ (b6 _ _ n1 n2 hb))
    · obtain ⟨z, hz⟩ := t8
      exact ⟨z, by rw [upd_ne nhd.symm]; exact hz⟩
    · have := length_putK kvs (Sum.inr fn) (V.int m2)
      omega
    · intro f' hf'
      rw [List.take_succ_eq_append_getElem hi, hi2] at hf'
      by_cases e : f' = fn
      · subst e
        exact ⟨m2, by rw [valV_put, if_pos rfl], hm20, hm24⟩
      · rcases List.mem_append.mp hf' with z | z
        · obtain ⟨n3, q1, q2, q3⟩ := hkv f' z
          refine ⟨n3, ?_, q2, q3⟩
          rw [valV_put, if_neg (fun y => e (Sum.inr.inj y))]
          exact q1
        · exact absurd (List.mem_singleton.mp z) e
  rintro σ H6 ⟨o5, kvs, rfl, b6, t6, h6, _, hkv⟩
  rw [List.length_map, List.take_length] at hkv
  have w6 : Wls H6 el fs := ⟨b6 _ _ (wls_tp w5.1 t5) neh w5.1, w5.2⟩
  have sH6 : Same H H6 := fun b o hb => b6 _ _ (ne_of_none hb hhp) (ne_of_none hb hhd0) (sH5 _ _ hb)
  -- room
  refine ⟨sz (by show 4 ≤ 100000; decide), fun p7 hp7 => ?_⟩
  have s7 := same_new hp7 (.lst [.int 8, .int 14, .int 24, .int 40])
  have n7 : p7 ≠ hp := by
    obtain ⟨z, hz⟩ := t6
    exact (ne_of_none hz hp7).symm
  refine ⟨_, rfl, hp, 4, rfl, t6.same s7, by decide, by decide, fun r2 H8 r3 r4 b8 t8 => ?_⟩
  have hre : ∃ m : Int, atI [V.int 8, .int 14, .int 24, .int 40] r2 = some (.int m) ∧ 8 ≤ m ∧ m ≤ 40 := by
    obtain ⟨v, hv, hm⟩ := at_some (xs := [V.int 8, .int 14, .int 24, .int 40]) r3 r4
    simp only [List.mem_cons, List.not_mem_nil, or_false] at hm
    rcases hm with z | z | z | z <;> subst z <;> exact ⟨_, hv, by decide, by decide⟩
  obtain ⟨room, hra, hr8, hr40⟩ := hre
  refine ⟨p7, _, _, _, rfl, rfl, SqL.of (b8 _ _ n7 upd_same), hra, ?_⟩
  have sH8 : Same H H8 := fun b o hb => b8 _ _ (ne_of_none hb hhp) (s7 _ _ (sH6 _ _ hb))
  have w8 : Wls H8 el fs := ⟨b8 _ _ (wls_tp w6.1 t6) (s7 _ _ w6.1), w6.2⟩
  have h8 : H8 hd = some (.dK kvs) := b8 _ _ nhd (s7 _ _ h6)
  have hS8 : SqL K H8 sc (ns.map V.int) := sH8.seq hS
  clear h6 w6 sH6 s7 b8 t8 hp7 b6 t6
  -- found
  refine ⟨sz (by show 0 ≤ 100000; decide), fun fl hflN => ?_⟩
  have s9 := same_new hflN (.lst [])
  refine ⟨_, rfl, el, _, rfl, .inl (SqL.of (s9 _ _ w8.1)), _, rfl, by omega, by rw [List.length_map]; omega, ?_⟩
  have hnl : (((fs.map V.str).length : Nat) : Int).toNat = fs.length := by
    rw [Int.toNat_natCast, List.length_map]
  refine for_range (lo := 0) (n := (((fs.map V.str).length : Nat) : Int).toNat) (fun i σ H' => ∃ o8 o9 o10 o11 o12 vs es, σ = [some (.ref sc), some (.int start), some (.ref hp), some (.ref el), some (.ref hd), o5, some (.int room), some (.ref fl), o8, o9, o10, o11, o12] ∧
    Same H8 H' ∧ H' fl = some (.lst vs) ∧ All2 (ErV H') es vs ∧ es.length = i ∧ es.map (·.1) = fs.take i ∧ ∀ e ∈ es, GdE (hFof fs kvs) e) ?_ ?_ ?_
  · exact ⟨_, _, _, _, _, [], [], rfl, s9, upd_same, trivial, rfl, rfl, fun _ z => nomatch z⟩
  · rintro i σ H' hi ⟨o8, o9, o10, o11, o12, vs, es, rfl, sA, hfA, kA, hel2, hnm, hgd⟩
    rw [hnl] at hi
    have hfi : fs[i]? = some fs[i] := List.getElem?_eq_getElem hi
    have hfm := List.getElem_mem hi
    generalize fs[i] = fn at hfi hfm
    have ei : (0 : Int) + (i : Nat) = ((i : Nat) : Int) := by omega
    have hat : atI (fs.map V.str) ((0 : Int) + (i : Nat)) = some (V.str fn) := by
      rw [ei]
      exact atI_nat (by rw [List.getElem?_map, hfi]; rfl)
    obtain ⟨nn, hnn, hn0, hn4⟩ := hkv fn hfm
    -- tape
    refine ⟨_, rfl, _, rfl, _, _, rfl, rfl, _, rfl, _, _, rfl, rfl, sc, ns, _, rfl, sA.seq hS8, by omega, by omega, fun tp z htp => ?_⟩
    have sB := same_new htp (.lst [.int z])
    have tB : Tp (upd H' tp (.lst [.int z])) tp := ⟨z, upd_same⟩
    refine ⟨_, rfl, tp, 16, rfl, tB, by decide, by decide, fun wp ws HC bC tC hwp wC hwl hwnd => ?_⟩
    have hwl16 : ws.length = 16 := by omega
    have sC : Same H' HC := fun b o hb => bC _ _ (ne_of_none hb htp) (sB _ _ hb)
    have wCe : Wls HC el fs := ⟨sC _ _ (sA _ _ w8.1), w8.2⟩
    have hCd : HC hd = some (.dK kvs) := sC _ _ (sA _ _ h8)
    -- names
    refine ⟨_, rfl, _, rfl, _, rfl, _, rfl, el, _, _, _, rfl, rfl, SqL.of wCe.1, hat, hd, _, rfl, get_of hCd hnn, _, rfl, wp, _, rfl, SqL.of wC.1, fun np hnp => ?_⟩
    have eN : cutV (ws.map V.str) none (some nn) = (ws.take nn.toNat).map V.str := by
      rw [cut_to hn0 (by rw [List.length_map]; omega), List.map_take]
    rw [eN]
    have sD := same_new hnp (.lst ((ws.take nn.toNat).map V.str))
    have hD : upd HC np (.lst ((ws.take nn.toNat).map V.str)) np = some (.lst ((ws.take nn.toNat).map V.str)) := upd_same
    have tD := tC.same sD
    generalize upd HC np (.lst ((ws.take nn.toNat).map V.str)) = HD at sD hD tD
    -- known
    intro kd hkd
    have sE := same_new hkd (.dK [])
    refine ⟨_, rfl, _, rfl, _, rfl, _, rfl, np, _, rfl, .inl (SqL.of (sE _ _ hD)), _, rfl, wp, _, rfl, SqL.of (sE _ _ (sD _ _ wC.1)), fun wl hwlN => ?_⟩
    have eW : cutV (ws.map V.str) (some ((((ws.take nn.toNat).map V.str).length : Nat) : Int)) none = (ws.drop nn.toNat).map V.str := by
      have e1 : ((ws.take nn.toNat).map V.str).length = nn.toNat := by
        rw [List.length_map, List.length_take]
        omega
      rw [e1, cut_from (by omega) (by rw [List.length_map]; omega), List.map_drop, Int.toNat_natCast]
    rw [eW]
    have sF := same_new hwlN (.lst ((ws.drop nn.toNat).map V.str))
    have hkF : upd (upd HD kd (.dK [])) wl (.lst ((ws.drop nn.toNat).map V.str)) kd = some (.dK []) := sF _ _ upd_same
    have hwF : upd (upd HD kd (.dK [])) wl (.lst ((ws.drop nn.toNat).map V.str)) wl = some (.lst ((ws.drop nn.toNat).map V.str)) := upd_same
    have nwk : wl ≠ kd := (ne_of_none upd_same hwlN).symm
    have nwn : np ≠ wl := ne_of_none (sE _ _ hD) hwlN
    have sDF := sE.trans sF
    have nwe : el ≠ wl := ne_of_none (sE _ _ (sD _ _ wCe.1)) hwlN
    have hwl0 : H' wl = none := by
      cases e : H' wl with
      | none => rfl
      | some o =>
        rw [sE _ _ (sD _ _ (sC _ _ e))] at hwlN
        cases hwlN
    generalize upd (upd HD kd (.dK [])) wl (.lst ((ws.drop nn.toNat).map V.str)) = HF at sDF hkF hwF
    refine ⟨hkF, knD el hd wl, rfl, by show 3 ≤ 15; decide, ?_⟩
    rw [merge_kn]
    have sG : Same HD (upd HF kd (.dK (knD el hd wl))) := fun b o hb => by
      have nb : b ≠ kd := ne_of_none hb hkd
      rw [upd_ne nb]
      exact sDF _ _ hb
    have hkG : upd HF kd (.dK (knD el hd wl)) kd = some (.dK (knD el hd wl)) := upd_same
    have hwG : upd HF kd (.dK (knD el hd wl)) wl = some (.lst ((ws.drop nn.toNat).map V.str)) := by
      rw [upd_ne nwk]
      exact hwF
    generalize upd HF kd (.dK (knD el hd wl)) = HG at sG hkG hwG
    have sCG := sD.trans sG
    have gG : GS HG tp kd wl (hFof fs kvs) (ws.drop nn.toNat) := ⟨tC.same sCG, ⟨hwG, fun x hx => wC.2 x (List.mem_of_mem_drop hx)⟩, by rw [List.length_drop]; omega,
      el, hd, fs, kvs, hkG, nwe, ⟨sCG _ _ wCe.1, wCe.2⟩, by omega, by omega, sCG _ _ hCd, fun f hf => let ⟨n, e1, e2, e3⟩ := hkv f hf; ⟨n, e1, e2, e3, hFof_at hf e1⟩⟩
    have wG : Wls HG np (ws.take nn.toNat) := ⟨sG _ _ hD, fun x hx => wC.2 x (List.mem_of_mem_take hx)⟩
    -- the errand
    refine ⟨_, rfl, .inl ⟨rfl, _, SqL.of (sCG _ _ (sC _ _ hfA))⟩, _, rfl, _, rfl, el, _, _, _, rfl, rfl, SqL.of (sCG _ _ wCe.1), hat, _, rfl, np, _, rfl, .inl ⟨SqL.of wG.1, fun tl htl => ?_⟩⟩
    have sH := same_new htl (.tup ((ws.take nn.toNat).map V.str))
    refine ⟨_, rfl, _, rfl, _, rfl, _, rfl, tp, kd, wl, np, hFof fs kvs, ws.drop nn.toNat, ws.take nn.toNat, room, rfl, gG.same sH, wG.but (but_same sH) gG.t, nwn, by rw [List.length_take]; omega, hr8, hr40, fun a t ls HI wsI bI eI gI gdI => ?_⟩
    refine ⟨sz (by show 3 ≤ 100000; decide), fun ep hep => ?_⟩
    have sJ := same_new hep (.tup [.str fn, .ref tl, .ref a])
    have tkI : TK (upd HG tl (.tup ((ws.take nn.toNat).map V.str))) HI := (gG.same sH).tk bI
    have sX : Same H' HI := fun b o hb => bI _ _ (ne_of_none hb htp) (ne_of_none hb hwl0) (sH _ _ (sCG _ _ (sC _ _ hb)))
    have sXJ := sX.trans sJ
    have hfJ := sXJ _ _ hfA
    have hvl := kA.len
    refine ⟨fl, _, _, rfl, rfl, hfJ, Nat.lt_of_le_of_lt (m := 1000) (by omega) (by decide), ?_⟩
    have tkJ := (tk_same sXJ).trans (tk_put (o := .lst (vs ++ [.ref ep])) hfJ)
    have tkP := tk_put (o := .lst (vs ++ [.ref ep])) hfJ
    refine ⟨_, _, _, _, _, vs ++ [.ref ep], es ++ [(fn, ws.take nn.toNat, t)], rfl, same_mut (sA.trans sXJ) hflN, upd_same, ?_, ?_, ?_, ?_⟩
    · refine (kA.imp fun _ _ z => z.tk tkJ).app ⟨⟨ep, tl, a, rfl, tkP _ _ upd_same, tkP _ _ (sJ _ _ (tkI _ _ upd_same)), (gdI.at_.mono sJ).tk tkP⟩, trivial⟩
    · rw [List.length_append, hel2]
      rfl
    · rw [List.map_append, hnm, List.take_succ_eq_append_getElem hi]
      have e : fs[i] = fn := by
        rw [List.getElem?_eq_getElem hi] at hfi
        exact Option.some.inj hfi
      rw [e]
      rfl
    · intro e he
      rcases List.mem_append.mp he with z | z
      · exact hgd e z
      · rw [List.mem_singleton.mp z]
        have etk : (ws.take nn.toNat).length = nn.toNat := by
          rw [List.length_take]
          omega
        refine ⟨w8.2 fn hfm, fun x hx => wC.2 x (List.mem_of_mem_take hx), by show (ws.take nn.toNat).length ≤ 4; omega, gdI.ok, ?_, gdI.dp, ?_, gdI.sc, ?_⟩
        · have := gdI.cn
          show cnt t ≤ 40
          omega
        · show hFof fs kvs fn = some (ws.take nn.toNat).length
          rw [etk]
          exact hFof_at hfm hnn
        · show (ws.take nn.toNat ++ letsOf t).Nodup
          rw [gdI.lt]
          have e9 : ws = ws.take nn.toNat ++ (wsI ++ ls.reverse) := by rw [← eI, List.take_append_drop]
          rw [e9] at hwnd
          rw [List.nodup_append] at hwnd ⊢
          obtain ⟨n1, n2, n3⟩ := hwnd
          refine ⟨n1, ?_, fun a ha b hb => n3 a ha b (List.mem_append_right _ (List.mem_reverse.mpr hb))⟩
          have n4 := (List.nodup_append.mp n2).2.1
          exact (List.reverse_perm ls).nodup_iff.mp n4
  · rintro σ H' ⟨o8, o9, o10, o11, o12, vs, es, rfl, sA, hfA, kA, hel2, hnm, hgd⟩
    rw [hnl] at hel2 hnm
    rw [List.take_length] at hnm
    refine ⟨_, rfl, fl, _, rfl, .inl ⟨SqL.of hfA, fun p hp9 => ?_⟩⟩
    have sK := same_new hp9 (.tup vs)
    refine q p es vs _ ((sH8.trans sA).trans sK) ⟨upd_same, kA.imp fun _ _ z => z.tk (tk_same sK)⟩ ⟨by omega, by rw [hnm]; exact hnd, _, hgd, fun f n hf => by rw [hnm]; exact hFof_in hf⟩
end
end KB

namespace KB
open PySem L2 HT

/-! ### del xs[a:] -/
theorem filt_take {α : Type} (sel : Nat → Bool) (a : Nat) : ∀ (xs : List α) (j : Nat), (∀ k, j ≤ k → k < j + xs.length → sel k = decide (a ≤ k)) →
    (xs.zipIdx j).filterMap (fun p => if sel p.2 = true then none else some p.1) = xs.take (a - j)
  | [], _, _ => by simp
  | x :: r, j, h => by
    have h0 := h j (Nat.le_refl _) (by rw [List.length_cons]; omega)
    have ih := filt_take sel a r (j + 1) fun k h1 h2 => h k (by omega) (by rw [List.length_cons]; omega)
    rw [List.zipIdx_cons, List.filterMap_cons]
    by_cases c : a ≤ j
    · rw [decide_eq_true c] at h0
      simp only [h0, if_true]
      rw [ih]
      have e1 : a - j = 0 := by omega
      have e2 : a - (j + 1) = 0 := by omega
      rw [e1, e2]
      rfl
    · rw [decide_eq_false c] at h0
      simp only [h0]
      rw [ih]
      have e1 : a - j = (a - (j + 1)) + 1 := by omega
      rw [e1]
      rfl
theorem bounds_from {a n : Nat} (h : a ≤ n) : sliceBounds (some (a : Int)) none none n = ((a : Int), (n : Int), 1) := by
  simp only [sliceBounds, Option.getD_none]
  have h1 : ¬ ((a : Int) < 0) := by omega
  simp only [h1, if_false, show (1 : Int) > 0 by decide, if_true]
  congr 1
  omega
section
variable {prog : Program} {w : World} {A : Around} {E : Value → Shared → Prop} {s : Shared}
theorem delItem_from {l sl : Addr} {items : Array Value} {n : Nat} {vl : Value} {a : Nat} {Q : Unit → Shared → Prop}
    (e : s.heap.get? l = some { cls := .type "list", data := .seq items n }) (hs : s.heap.IsSliceOf sl vl .none .none) (pl : IsPart vl (some (a : Int))) (ha : a ≤ items.size)
    (hsz : items.size ≤ sizeLine) (h : ∀ g : Array Value → Array Value, g items = (items.toList.take a).toArray → Q () { s with heap := s.heap.update l (Obj.mapSeq g) }) :
    wpAny (model prog w) A (delItem (.ref l) (.ref sl)) Q E s := by
  have hl : s.heap.IsList l items := PySem.IsL.isList e
  obtain ⟨os, hos, hcs, hds⟩ := id hs
  have hTs : s.TypeIs (.ref sl) "slice" := ⟨os, hos, hcs⟩
  have hstep : ¬ ((rawPart none == rawInt 0) = true) := Bool.false_ne_true
  refine wpAny_delItem_slot hl.typeIs (by decide) F.slot_list_delitem (wpAny_call_entry F.slot_list_delitem hl.typeIs F.entry_list_delitem ?_ (F.args_list_delitem_2 _ _))
  show wpAny _ _ (Builtin.List.listSubscript? (.ref sl) >>= _) _ _ s
  refine wpAny_bind ?_
  unfold Builtin.List.listSubscript?
  refine wpAny_bind (wpAny_specialOf hTs slice_no_index ?_)
  simp only [Option.isNone_none, if_true]
  refine wpAny_pure ?_
  show wpAny _ _ (typeOf (.ref sl) >>= _) _ _ s
  refine wpAny_bind (wpAny_typeOf hTs ?_)
  first
    | rw [if_neg (by decide)]
    | refine PySem.W.KFB.if_not (by decide) ?_
  rw [listSliceParts_eq]
  refine wpAny_bind (wpAny_bind (wpAny_field hos hds (x := .none) rfl (wpAny_bind (wpAny_listPart .none ?_))))
  rw [if_neg hstep]
  refine wpAny_bind (wpAny_field hos hds (x := vl) rfl (wpAny_bind (wpAny_listPart pl ?_)))
  refine wpAny_bind (wpAny_field hos hds (x := .none) rfl (wpAny_bind (wpAny_listPart .none (wpAny_pure ?_))))
  unfold Builtin.List.listItems
  refine wpAny_bind (wpAny_bind (wpAny_seqItems e rfl (wpAny_pure ?_)))
  refine wpAny_bind (wpAny_of_eq ((sliceIndices_raw (some (a : Int)) none none items.size (by simp)).trans (congrArg (pure : Int × Int × Int → Sem (Int × Int × Int)) (bounds_from ha))) ?_)
  refine wpAny_bind (wpAny_rule ?_)
  show wpAny _ _ (updateSeq l _ >>= _) _ _ s
  have hsel : ∀ (sel : Nat → Bool), (∀ k : Nat, sel k = (((a : Int) ≤ (k : Int)) && ((k : Int) < (items.size : Int)) && (((k : Int) - (a : Int)) % 1 == 0))) →
      (List.filterMap (fun p => if sel p.2 = true then none else some p.1) items.toList.zipIdx).toArray = (items.toList.take a).toArray := by
    intro sel hk
    congr 1
    refine filt_take sel a items.toList 0 fun k _ h2 => ?_
    rw [hk k]
    have h3 : (k : Int) < (items.size : Int) := by
      rw [Array.length_toList] at h2
      omega
    have h4 : (((k : Int) - (a : Int)) % 1 == 0) = true := by
      rw [Int.emod_one]
      rfl
    rw [h4, decide_eq_true h3, Bool.and_true, Bool.and_true]
    by_cases c : a ≤ k
    · rw [decide_eq_true c, decide_eq_true (by omega)]
    · rw [decide_eq_false c, decide_eq_false (by omega)]
  refine wpAny_bind (wpAny_updateSeq (hz := hsz) (_hz' := ?sz) e rfl ?_)
  case sz =>
    refine Nat.le_trans (Nat.le_of_eq (congrArg Array.size (hsel _ fun k => rfl))) ?_
    rw [List.size_toArray, List.length_take]
    omega
  refine wpAny_bind (wpAny_letGo ?_)
  exact wpAny_pure ⟨.none, rfl, h _ (hsel _ fun k => rfl)⟩
end
section
variable {X : Cx} {pos : Pos}
/-- del xs[a:] -/
def tDelFrom (to ti : TE) : TS := fun D σ H => to σ H fun x H1 => tPart ti σ H1 fun o H2 => ∃ (l : Addr) (xs : List V) (a : Nat), x = .ref l ∧ o = some (a : Int) ∧ H2 l = some (.lst xs) ∧ a ≤ xs.length ∧ D.nx σ (upd H2 l (.lst (xs.take a)))
theorem ps_delFrom {o lo : Expr} {to ti : TE} {spos tpos : Pos} (ho : PE X o to) (hi : PE X lo ti) : PS X (.Delete [.Subscript o (.Slice (some lo) none none spos) tpos] pos) (tDelFrom to ti) := by
  refine ⟨fun pins s σ H D I h => ?_⟩
  refine wpAny_Delete (wpAny_deleteEach_cons (wpAny_delete_Subscript (thn (ho.run pins s σ H _ I h) fun u s1 ⟨x, H1, I1, rx, q1⟩ => ?_)))
  refine wpAny_Slice (thn ((po_some hi).run pins s1 σ H1 _ I1 q1) fun vl s2 ⟨l', H2, I2, pl, q2⟩ => thn (po_none.run pins s2 σ H2 (fun o H3 => o = none ∧ H3 = H2) I2 ⟨rfl, rfl⟩) fun vu s3 ⟨u', H3, I3, pu, eu, eH⟩ => ?_)
  subst eu eH
  rw [evalPart_none]
  refine wpAny_pure ?_
  obtain ⟨l, xs, a, ex, eo, hH, ha, q⟩ := q2
  subst ex eo
  cases (show u = Value.ref l from rx)
  have hvu : vu = Value.none := by
    cases pu
    rfl
  subst hvu
  have I4 : Inv X pins σ H3 { s3 with heap := s3.heap.push { cls := .type "slice", data := .fields #[vl, .none, .none] } } := I3.kept (t' := s3.toks) fun b ob q => Heap.get?_push_of_some _ q
  obtain ⟨z, its, n, r, hl, e⟩ := I4.lstM hH
  refine delItem_from (a := a) e (Heap.IsSliceOf.new ..) pl (by rw [List.size_toArray, ← hl]; exact ha) (by rw [List.size_toArray, ← hl]; exact z) fun g hg => ?_
  refine wpAny_deleteEach_nil ⟨σ, _, I4.lset (its' := its.take a) (t' := s3.toks) hH e hg (r.take a) ?_, q⟩
  rw [List.length_take]
  omega
end
end KB

namespace KB
open PySem L2 HT

def kidsT : Tm → List Tm | .mk _ _ k => List.ofFn k
def hdT : Tm → Hd | .mk h _ _ => h
def lazyH : Hd → Bool | .lett _ | .iff => true | _ => false
def firstT (t : Tm) : List Tm := if lazyH (hdT t) = true then (kidsT t).take 1 else kidsT t
def restT (t : Tm) : List Tm := if lazyH (hdT t) = true then (kidsT t).drop 1 else []
def noT : Tm := mkL .plus []
def kid (t : Tm) (i : Nat) : Tm := ((kidsT t)[i]?).getD noT
theorem kids_len {h : Hd} {n : Nat} {k : _root_.Fin n → Tm} : (kidsT (.mk h n k)).length = n := List.length_ofFn
theorem kid_eq {t : Tm} {i : Nat} (h : i < (kidsT t).length) : (kidsT t)[i]? = some (kid t i) := by
  unfold kid
  rw [List.getElem?_eq_getElem h]
  rfl
end KB

namespace HT
open PySem PySem.Spec PyProof.Rows
section
variable {prog : Program} {w : World} {A : Around} {E : Value → Shared → Prop} {s : Shared}
theorem sliceApplied_rev {sl : Addr} {vk : Value} {n : Nat} {Q : Int × Int × Nat → Shared → Prop} (hs : s.heap.IsSliceOf sl .none .none vk) (pk : IsPart vk (some (-1)))
    (h : Q ((n : Int) - 1, -1, n) s) : wpAny (model prog w) A (Builtin.Slice.sliceApplied (.ref sl) (pure (n : Int))) Q E s := by
  obtain ⟨os, hos, hcs, hds⟩ := id hs
  unfold Builtin.Slice.sliceApplied Builtin.Slice.sliceFields
  refine wpAny_bind (wpAny_bind (wpAny_field hos hds (x := .none) rfl (wpAny_bind (wpAny_field hos hds (x := .none) rfl (wpAny_bind (wpAny_field hos hds (x := vk) rfl (wpAny_pure ?_)))))))
  refine wpAny_bind (slicePart_ pk ?_)
  show wpAny _ _ (if ((-1 : Int) == 0) = true then _ else _) _ _ s
  rw [if_neg (by decide)]
  refine wpAny_bind (slicePart_none (wpAny_bind (slicePart_none (wpAny_bind (wpAny_pure ?_)))))
  show wpAny _ _ (pure ((n : Int) - 1, (-1 : Int), Builtin.Slice.slicePlaces ((n : Int) - 1) (-1) (-1))) _ _ s
  have e : Builtin.Slice.slicePlaces ((n : Int) - 1) (-1) (-1) = n := by
    unfold Builtin.Slice.slicePlaces
    have h1 : ¬ ((-1 : Int) > 0) := by omega
    have h2 : (-(-1) : Int) = 1 := by decide
    simp only [h1, if_false, h2, Int.ediv_one]
    split <;> omega
  rw [e]
  exact wpAny_pure h
theorem pick_rev (xs : Array Value) : ((List.range xs.size).filterMap fun (m : Nat) => xs[(((xs.size : Nat) : Int) - 1 + (m : Int) * (-1)).toNat]?).toArray = xs.toList.reverse.toArray := by
  have e : (fun (m : Nat) => xs[(((xs.size : Nat) : Int) - 1 + (m : Int) * (-1)).toNat]?) = fun m => xs[xs.size - 1 - m]? := by
    funext m
    have : (((xs.size : Nat) : Int) - 1 + (m : Int) * (-1)).toNat = xs.size - 1 - m := by omega
    rw [this]
  rw [e]
  have h := PySem.W.krv_range xs.size
  have e2 : (List.range xs.size).filterMap (fun m => xs[xs.size - 1 - m]?) = ((List.range xs.size).map fun k => xs.size - 1 - k).filterMap (xs[·]?) := by
    rw [List.filterMap_map]
    rfl
  rw [e2, h, List.filterMap_reverse, PySem.W.krv_all]
theorem getItem_tuple_rev {t sl : Addr} {items : Array Value} {vk : Value} {Q : Value → Shared → Prop} (ht : IsTup s.heap t items) (hs : s.heap.IsSliceOf sl .none .none vk) (pk : IsPart vk (some (-1)))
    (h : Q (.ref s.heap.objs.size) { s with heap := s.heap.push { cls := .type "tuple", data := .seq (items.toList.reverse).toArray } })
    (hsz : items.size ≤ sizeLine) : wpAny (model prog w) A (getItem (.ref t) (.ref sl)) Q E s := by
  have htake : sizeOk (.seq (items.toList.reverse).toArray) := by
    show (items.toList.reverse).toArray.size ≤ sizeLine
    rw [List.size_toArray, List.length_reverse, Array.length_toList]
    omega
  obtain ⟨os, hos, hcs, hds⟩ := id hs
  have hTs : s.TypeIs (.ref sl) "slice" := ⟨os, hos, hcs⟩
  unfold getItem
  try with_reducible refine wpAny_holding ?_
  first | refine wpAny_bind (wpAny_pure ?_) | skip
  refine wpAny_bind (wpAny_sequenceKey ht.typeIs (by decide) ?_)
  refine wpAny_bind (wpAny_callSpecial?_slot (name := Str.ofString "__getitem__") ht.typeIs PyProof.Rows.slot_tuple_getitem
    (wpAny_call_entry PyProof.Rows.slot_tuple_getitem ht.typeIs entry_tuple_getitem ?_ (args_tuple_getitem _ _)))
  show wpAny _ _ (Builtin.Tuple.tupleItemsOf (.ref t) >>= _) _ _ s
  refine wpAny_bind (tupleItemsOf_ ht ?_)
  refine wpAny_bind (wpAny_typeOf hTs ?_)
  rw [if_pos (by decide)]
  refine wpAny_bind (sliceApplied_rev hs pk ?_)
  have hno : ¬ ((((((items.size : Nat) : Int) - 1) == 0 && (-1 : Int) == 1 && items.size == items.size)) = true) := by
    intro q
    rw [Bool.and_eq_true, Bool.and_eq_true] at q
    exact absurd (eq_of_beq q.1.2) (by decide)
  show wpAny _ _ (if ((((items.size : Nat) : Int) - 1) == 0 && (-1 : Int) == 1 && items.size == items.size) = true then _ else _) _ _ s
  rw [if_neg hno, pick_rev]
  first
    | exact wpAny_bind (m := Builtin.Tuple.tupleExact _) (wpAny_newObj_type (wpAny_pure ⟨_, rfl, wpAny_pure h⟩) htake)
    | exact wpAny_bind (m := Builtin.Tuple.tupleExact _) (wpAny_newObj_type (wpAny_bind (wpAny_pure (wpAny_pure ⟨_, rfl, wpAny_pure h⟩))) htake)
    | exact wpAny_bind (wpAny_bind (m := Builtin.Tuple.tupleExact _) (wpAny_newObj_type (wpAny_pure (wpAny_pure ⟨_, rfl, wpAny_pure h⟩)) htake))
    | exact wpAny_bind (wpAny_bind (m := Builtin.Tuple.tupleExact _) (wpAny_newObj_type (wpAny_pure ⟨_, rfl, wpAny_pure h⟩) htake))
end
end HT

namespace KB
open PySem PySem.Spec PyProof.Rows L2
/-- t[::-1] of a tuple -/
def tRevT (K : PySem.W.Frag) (te : TE) (tk : TO) : TE := fun σ H Q => te σ H fun x H1 => tk σ H1 fun k H2 => k = some (-1) ∧ ∃ a xs, x = .ref a ∧ SqT K H2 a xs ∧ ∀ p, H2 p = none → Q (.ref p) (upd H2 p (.tup xs.reverse))
theorem pe_revT {X : Cx} {e : Expr} {te : TE} {st : Option Expr} {tk : TO} {pos p2 : Pos} (he : PE X e te) (hk : PO X st tk) (hs : ∀ a c : Addr, subscripted (.Slice none none st p2) false (.ref a) (.ref c) = operate [.ref a, .ref c] (getItem (.ref a) (.ref c)) := by intro _ _; rfl) : PE X (.Subscript e (.Slice none none st p2) pos) (tRevT X.K te tk) := by
  refine ⟨fun pins s σ H Q I h => ?_⟩
  refine Subscript_ (thn (he.run pins s σ H _ I h) fun v s1 ⟨x, H1, I1, r1, q1⟩ => ?_)
  refine wpAny_Slice (thn ((po_none (X := X)).run pins s1 σ H1 (fun l H' => l = none ∧ H' = H1) I1 ⟨rfl, rfl⟩) fun vl s2 ⟨l, H2, I2, pl, q2⟩ => thn ((po_none (X := X)).run pins s2 σ H2 (fun l H' => l = none ∧ H' = H1) I2 ⟨rfl, q2.2⟩) fun vu s3 ⟨u, H3, I3, pu, q3⟩ => ?_)
  obtain ⟨rfl, e2⟩ := q2
  obtain ⟨rfl, e3⟩ := q3
  subst e3
  cases pl
  cases pu
  refine thn (hk.run pins s3 σ H3 _ I3 q1) fun vk s4 ⟨k, H4, I4, pk, q4⟩ => ?_
  obtain ⟨rfl, a, xs, rfl, hx, q⟩ := q4
  have I5 : Inv X pins σ H4 { s4 with heap := s4.heap.push { cls := .type "slice", data := .fields #[.none, .none, vk] } } := I4.kept (t' := s4.toks) fun b ob q => Heap.get?_push_of_some _ q
  cases r1
  obtain ⟨its, r, ht, hz⟩ := I5.tuple hx
  have hlen : its.toArray.size = xs.length := by rw [List.size_toArray]; exact r.length.symm
  refine tail_any (T := "tuple") (ops := [.ref a, .ref s4.heap.objs.size]) ht.typeIs PyProof.Rows.slot_tuple_getitem.lookup ?_ (hs _ _)
  refine HT.getItem_tuple_rev ht (Heap.IsSliceOf.new ..) pk ?_ (by rw [hlen]; exact hz)
  refine ⟨.ref _, _, I5.laid (t' := s4.toks) (o := .tup xs.reverse) (fun b ob q => Heap.get?_push_of_some _ q) (Nat.le_refl _) ?_, rfl, q _ (I5.hok.fresh (Nat.le_refl _))⟩
  refine ⟨by rw [List.length_reverse]; exact hz, _, ?_, IsTup.new _ _⟩
  show Vals xs.reverse its.toArray.toList.reverse
  exact r.reverse
end KB

namespace KB
open PySem L2

/-! ### parts of turned books as data -/
inductive Pt
  | give (j : Str) (t : Tm)
  | ask (f : Str) (ts : List Tm) (j : Str)
  | tell (x : Str) (t : Tm) (p : Pt)
  | lett (x : Str) (t : Tm) (p : Pt)
  | iff (t : Tm) (p q : Pt)
  | post (j x : Str) (p q : Pt)
def RefV (H : Hp) (t : Tm) (v : V) : Prop := ∃ b, v = .ref b ∧ At H t b
def PAt (H : Hp) : Pt → Addr → Prop
  | .give j t, a => ∃ b, H a = some (.tup [.str "give", .str j, .ref b]) ∧ At H t b
  | .ask f ts j, a => ∃ q vs, H a = some (.tup [.str "ask", .str f, .ref q, .str j]) ∧ H q = some (.tup vs) ∧ All2 (RefV H) ts vs
  | .tell x t p, a => ∃ b c, H a = some (.tup [.str "tell", .str x, .ref b, .ref c]) ∧ At H t b ∧ PAt H p c
  | .lett x t p, a => ∃ b c, H a = some (.tup [.str "let", .str x, .ref b, .ref c]) ∧ At H t b ∧ PAt H p c
  | .iff t p q, a => ∃ b c d, H a = some (.tup [.str "if", .ref b, .ref c, .ref d]) ∧ At H t b ∧ PAt H p c ∧ PAt H q d
  | .post j x p q, a => ∃ c d, H a = some (.tup [.str "post", .str j, .str x, .ref c, .ref d]) ∧ PAt H p c ∧ PAt H q d
theorem RefV.tk {H H' : Hp} (k : TK H H') {t : Tm} {v : V} (h : RefV H t v) : RefV H' t v := let ⟨b, e, g⟩ := h; ⟨b, e, g.tk k⟩
theorem PAt.tk {H H' : Hp} (k : TK H H') : ∀ {p : Pt} {a : Addr}, PAt H p a → PAt H' p a
  | .give j t, a, ⟨b, h1, h2⟩ => ⟨b, k _ _ h1, h2.tk k⟩
  | .ask f ts j, a, ⟨q, vs, h1, h2, h3⟩ => ⟨q, vs, k _ _ h1, k _ _ h2, h3.imp fun _ _ z => z.tk k⟩
  | .tell x t p, a, ⟨b, c, h1, h2, h3⟩ => ⟨b, c, k _ _ h1, h2.tk k, PAt.tk k h3⟩
  | .lett x t p, a, ⟨b, c, h1, h2, h3⟩ => ⟨b, c, k _ _ h1, h2.tk k, PAt.tk k h3⟩
  | .iff t p q, a, ⟨b, c, d, h1, h2, h3, h4⟩ => ⟨b, c, d, k _ _ h1, h2.tk k, PAt.tk k h3, PAt.tk k h4⟩
  | .post j x p q, a, ⟨c, d, h1, h2, h3⟩ => ⟨c, d, k _ _ h1, PAt.tk k h2, PAt.tk k h3⟩
def pcnt : Pt → Nat
  | .give _ _ => 1
  | .ask _ _ _ => 1
  | .tell _ _ p => 1 + pcnt p
  | .lett _ _ p => 1 + pcnt p
  | .iff _ p q => 1 + pcnt p + pcnt q
  | .post _ _ p q => 1 + pcnt p + pcnt q
/-! ### trees, whatever they are made of -/
def plL {N : Type} (pl : N → List (List Int × N)) : Nat → List N → List (List Int × N)
  | _, [] => []
  | j, t :: ts => (pl t).map (fun e => ((j : Int) :: e.1, e.2)) ++ plL pl (j + 1) ts
structure Tre (N : Type) where
  kids : N → List N
  sz : N → Nat
  pl : N → List (List Int × N)
  A : Hp → N → Addr → Prop
  tk : ∀ {H H' : Hp} {n : N} {a : Addr}, TK H H' → A H n a → A H' n a
  szk : ∀ n, sz n = 1 + ((kids n).map sz).sum
  plk : ∀ n, pl n = ([], n) :: plL pl 0 (kids n)
namespace Tre
variable {N : Type} (R : Tre N)
def V (H : Hp) (n : N) (v : L2.V) : Prop := ∃ b, v = .ref b ∧ R.A H n b
def szs (ns : List N) : Nat := (ns.map R.sz).sum
def pre (n : N) : List N := (R.pl n).map (·.2)
def pres (ns : List N) : List N := (ns.map R.pre).flatten
theorem V.tk {R : Tre N} {H H' : Hp} (e : TK H H') {n : N} {v : L2.V} (h : R.V H n v) : R.V H' n v := let ⟨b, e1, h1⟩ := h; ⟨b, e1, R.tk e h1⟩
theorem szs_cons (n : N) (r : List N) : R.szs (n :: r) = R.sz n + R.szs r := rfl
theorem szs_app (a b : List N) : R.szs (a ++ b) = R.szs a + R.szs b := by
  unfold szs
  rw [List.map_append, List.sum_append]
theorem pos (n : N) : 1 ≤ R.sz n := by
  rw [R.szk]
  omega
theorem len_szs : ∀ ns : List N, ns.length ≤ R.szs ns
  | [] => Nat.le_refl _
  | n :: r => by
    have h1 := R.pos n
    have h2 := len_szs r
    rw [R.szs_cons, List.length_cons]
    omega
theorem pres_cons (n : N) (r : List N) : R.pres (n :: r) = R.pre n ++ R.pres r := rfl
theorem pres_app (a b : List N) : R.pres (a ++ b) = R.pres a ++ R.pres b := by
  unfold pres
  rw [List.map_append, List.flatten_append]
theorem plL_snd : ∀ (ns : List N) (j : Nat), (plL R.pl j ns).map (·.2) = R.pres ns
  | [], _ => rfl
  | n :: r, j => by
    show ((R.pl n).map (fun e => ((j : Int) :: e.1, e.2)) ++ plL R.pl (j + 1) r).map (·.2) = R.pre n ++ R.pres r
    rw [List.map_append, plL_snd r, List.map_map]
    rfl
theorem pre_mk (n : N) : R.pre n = n :: R.pres (R.kids n) := by
  unfold pre
  rw [R.plk, List.map_cons, R.plL_snd]
theorem plL_len (h : ∀ n, (R.pl n).length = R.sz n) : ∀ (ns : List N) (j : Nat), (plL R.pl j ns).length = R.szs ns
  | [], _ => rfl
  | n :: r, j => by
    show ((R.pl n).map (fun e => ((j : Int) :: e.1, e.2)) ++ plL R.pl (j + 1) r).length = R.sz n + R.szs r
    rw [List.length_append, List.length_map, plL_len h r, h n]
theorem mem_szs {n : N} {ns : List N} (h : n ∈ ns) : R.sz n ≤ R.szs ns := by
  induction ns with
  | nil => cases h
  | cons a r ih =>
    rw [R.szs_cons]
    rcases List.mem_cons.mp h with z | z
    · subst z
      omega
    · have := ih z
      omega
theorem pl_len (m : Nat) : ∀ n, R.sz n ≤ m → (R.pl n).length = R.sz n := by
  induction m with
  | zero => intro n h; have := R.pos n; omega
  | succ m ih =>
    intro n h
    have e := R.szk n
    have go : ∀ (ns : List N) (j : Nat), R.szs ns ≤ m → (plL R.pl j ns).length = R.szs ns := by
      intro ns
      induction ns with
      | nil => intro j _; rfl
      | cons a r ihr =>
        intro j hj
        rw [R.szs_cons] at hj ⊢
        show ((R.pl a).map (fun e => ((j : Int) :: e.1, e.2)) ++ plL R.pl (j + 1) r).length = _
        rw [List.length_append, List.length_map, ihr (j + 1) (by omega), ih a (by omega)]
    rw [R.plk, List.length_cons, go (R.kids n) 0 (by show ((R.kids n).map R.sz).sum ≤ m; omega), e]
    show R.szs (R.kids n) + 1 = 1 + R.szs (R.kids n)
    omega
theorem pl_short (m : Nat) : ∀ n, R.sz n ≤ m → ∀ e ∈ R.pl n, e.1.length < R.sz n := by
  induction m with
  | zero => intro n h; have := R.pos n; omega
  | succ m ih =>
    intro n h
    have e := R.szk n
    have go : ∀ (ns : List N) (j : Nat), R.szs ns ≤ m → ∀ e ∈ plL R.pl j ns, e.1.length ≤ R.szs ns := by
      intro ns
      induction ns with
      | nil => intro j _ e he; cases he
      | cons a r ihr =>
        intro j hj e he
        rw [R.szs_cons] at hj ⊢
        have he' : e ∈ (R.pl a).map (fun e => ((j : Int) :: e.1, e.2)) ++ plL R.pl (j + 1) r := he
        rcases List.mem_append.mp he' with z | z
        · obtain ⟨e', h1, rfl⟩ := List.mem_map.mp z
          have := ih a (by omega) e' h1
          show e'.1.length + 1 ≤ _
          omega
        · have := ihr (j + 1) (by omega) e z
          omega
    intro x hx
    rw [R.plk] at hx
    have e2 : R.sz n = 1 + R.szs (R.kids n) := e
    rcases List.mem_cons.mp hx with z | z
    · subst z
      show 0 < R.sz n
      omega
    · have := go (R.kids n) 0 (by omega) x z
      omega
theorem sz_pl (m : Nat) : ∀ n, R.sz n ≤ m → ∀ e ∈ R.pl n, R.sz e.2 ≤ R.sz n := by
  induction m with
  | zero => intro n h; have := R.pos n; omega
  | succ m ih =>
    intro n h
    have e := R.szk n
    have go : ∀ (ns : List N) (j : Nat), R.szs ns ≤ m → ∀ e ∈ plL R.pl j ns, R.sz e.2 ≤ R.szs ns := by
      intro ns
      induction ns with
      | nil => intro j _ e he; cases he
      | cons a r ihr =>
        intro j hj e he
        rw [R.szs_cons] at hj ⊢
        have he' : e ∈ (R.pl a).map (fun e => ((j : Int) :: e.1, e.2)) ++ plL R.pl (j + 1) r := he
        rcases List.mem_append.mp he' with z | z
        · obtain ⟨e', h1, rfl⟩ := List.mem_map.mp z
          have := ih a (by omega) e' h1
          show R.sz e'.2 ≤ _
          omega
        · have := ihr (j + 1) (by omega) e z
          omega
    intro x hx
    rw [R.plk] at hx
    have e2 : R.sz n = 1 + R.szs (R.kids n) := e
    rcases List.mem_cons.mp hx with z | z
    · subst z
      exact Nat.le_refl _
    · have := go (R.kids n) 0 (by omega) x z
      omega
end Tre
theorem All2.rev {α : Type} {S : α → V → Prop} : ∀ {as : List α} {vs : List V}, All2 S as vs → All2 S as.reverse vs.reverse
  | [], [], _ => trivial
  | a :: as, v :: vs, h => by
    rw [List.reverse_cons, List.reverse_cons]
    exact (All2.rev h.2).app ⟨h.1, trivial⟩
  | [], _ :: _, h => h.elim
  | _ :: _, [], h => h.elim

section
variable {P : Program} {w : World} {K : PySem.W.Frag} {mg : Str → Option Value} {base : Heap}
/-- what a function promises that tells the parts right in a part -/
def spKids {N : Type} (R : Tre N) : Sp := fun vs H Q _ => ∃ (n : N) (a : Addr), vs = [.ref a] ∧ R.A H n a ∧ ∀ p H' us, Same H H' → H' p = some (.tup us) → All2 (R.V H') (R.kids n) us → Q (.ref p) H'
/-! ### met -/
def spMet {N : Type} (R : Tre N) (g : Addr) : Sp := fun vs H Q _ => ∃ (n : N) (a : Addr), vs = [.ref a, .ref g] ∧ R.A H n a ∧ R.sz n ≤ 1000 ∧ ∀ p H' its, H p = none → Same H H' → H' p = some (.lst its) → All2 (R.V H') (R.pre n) its → Q (.ref p) H'
abbrev smet : Stmt := top 1
theorem scmet : FnScope ["body", "parts", "found", "waiting", "part"] ["body", "parts"] (defScope smet) := ⟨rfl, rfl, rfl, by decide +kernel, rfl, by decide +kernel, by decide +kernel⟩
def MetW {N : Type} (R : Tre N) (H : Hp) (a g fl wl : Addr) (n : N) (m : Nat) (σ : St) (H' : Hp) : Prop := ∃ o fv fs rs ts, σ = [some (.ref a), some (.ref g), some (.ref fl), some (.ref wl), o] ∧ Same H H' ∧ H' fl = some (.lst fv) ∧ All2 (R.V H') fs fv ∧ H' wl = some (.lst (List.reverse rs)) ∧ All2 (R.V H') ts rs ∧ m = R.szs ts ∧ fs.length + R.szs ts ≤ 1000 ∧ fs ++ R.pres ts = R.pre n
theorem ok_met {N : Type} (R : Tre N) {k : Nat} {f g : Addr} {fd gd : FuncData} {x : Str} (F : Fun K "met" "met" smet f fd) (Gparts : FnOk P w K mg base CX0 k g gd [x] (spKids R)) (kk : PySem.W.keepIn K (.ref g) = true) (bb : Binds K gd [x] []) : FnOk P w K mg base CX0 (k + 1) f fd ["body", "parts"] (spMet R g) := by
  refine F.ok scmet (fun vs H Q E h => ?_) (fun cdv A outer s H vs Q E hr h => ?_)
  · obtain ⟨n, a, rfl, _⟩ := h
    rfl
  obtain ⟨n, a, rfl, hA, hc, q⟩ := h
  refine ⟨_, (pss_cons (ps_set (i := 2) scmet.nd rfl (Or.inl rfl) (pe_lst pa_nil))
    (pss_cons (ps_set (i := 3) scmet.nd rfl (Or.inl rfl) (pe_lst (pa_cons (pv 0) pa_nil)))
    (pss_cons (ps_while PassesOwn.never (pt_truth (pv 3) (by intro _; rfl)) (pss_cons (ps_set (i := 4) scmet.nd rfl (Or.inl rfl) (pe_bm0 PySem.F.plainAttrs_list PySem.F.slot_list_pop PySem.F.type_list_pop mt_pop (pv 3)))
    (pss_cons (ps_expr (pe_bm PySem.F.plainAttrs_list PySem.F.slot_list_append PySem.F.type_list_append mt_append (pv 2) (pa_cons (pv 4) pa_nil)))
    (pss_one (ps_expr (pe_bm PySem.F.plainAttrs_list PySem.F.slot_list_extend PySem.F.type_list_extend mt_extT (pv 3) (pa_cons (pe_revT (pe_callL (i := 1) Gparts (hr.mono (by omega)) rfl (.inl rfl) kk bb .nil pass0 (pa_cons (pv 4) pa_nil)) (po_some (pe_un un_neg pe_int))) pa_nil)))))))
    (pss_one (ps_ret (pv 2)))))), ?_⟩
  refine ⟨sz (by show 0 ≤ 100000; decide), fun fl hfl => ?_⟩
  have s0 := same_new hfl (.lst [])
  have f0 : upd H fl (.lst []) fl = some (.lst []) := upd_same
  refine ⟨_, rfl, sz (by show 1 ≤ 100000; decide), fun wl hwl => ?_⟩
  have s1 := same_new hwl (.lst [.ref a])
  have hwf : fl ≠ wl := ne_of_none f0 hwl
  have sA := s0.trans s1
  refine ⟨MetW R H a g fl wl n, ⟨_, none, [], [], [.ref a], [n], rfl, sA, s1 _ _ f0, trivial, upd_same, ⟨⟨a, rfl, R.tk (tk_same sA) hA⟩, trivial⟩, rfl, ?_, ?_⟩, ?_⟩
  · show 0 + (R.sz n + 0) ≤ 1000
    omega
  · rw [R.pres_cons]
    exact List.append_nil _
  have hw0 : H wl = none := s0.free hwl
  clear s0 f0 hwl s1 sA
  rintro m σ H1 ⟨o, fv, fs, rs, ts, rfl, s1, h1, k1, h2, k2, rfl, hm, hP⟩
  refine ⟨_, rfl, _, .inl ⟨_, SqL.of h2, rfl⟩, ?_⟩
  cases rs with
  | nil =>
    cases ts with
    | cons _ _ => exact k2.elim
    | nil =>
      refine itF rfl ⟨_, rfl, ?_⟩
      have e : fs = R.pre n := by
        rw [← hP]
        exact (List.append_nil fs).symm
      subst e
      exact q _ _ _ hfl s1 h1 k1
  | cons r rs =>
    cases ts with
    | nil => exact k2.elim
    | cons t1 ts =>
      obtain ⟨⟨b, rfl, hb⟩, k3⟩ := k2
      refine itT (by simp) ⟨fun σ' H' => ∃ m', m' < R.szs (t1 :: ts) ∧ MetW R H a g fl wl n m' σ' H', fun _ _ z => z, ?_⟩
      -- part = waiting.pop()
      refine ⟨_, rfl, .inl ⟨rfl, _, SqL.of h2⟩, wl, _, .ref b, rfl, rfl, h2, by simp, ?_⟩
      have eD : ((V.ref b :: rs).reverse).dropLast = rs.reverse := by rw [List.reverse_cons, List.dropLast_concat]
      rw [eD]
      have tk2 : TK H1 (upd H1 wl (.lst rs.reverse)) := tk_put h2
      have s2 : Same H (upd H1 wl (.lst rs.reverse)) := same_mut s1 hw0
      have w2 : upd H1 wl (.lst rs.reverse) wl = some (.lst rs.reverse) := upd_same
      have f2 : upd H1 wl (.lst rs.reverse) fl = some (.lst fv) := by
        rw [upd_ne hwf]
        exact h1
      have k4 := k1.imp fun _ _ z => Tre.V.tk tk2 z
      have k5 := k3.imp fun _ _ z => Tre.V.tk tk2 z
      have b2 := R.tk tk2 hb
      clear tk2
      generalize upd H1 wl (.lst rs.reverse) = H2 at s2 w2 f2 k4 k5 b2
      -- found.append(part)
      have hfs := k4.len
      refine ⟨_, rfl, .inl ⟨rfl, _, SqL.of f2⟩, _, rfl, fl, _, _, rfl, rfl, f2, Nat.lt_of_le_of_lt (m := 1000) (by omega) (by decide), ?_⟩
      have tk3 : TK H2 (upd H2 fl (.lst (fv ++ [.ref b]))) := tk_put f2
      have s3 : Same H (upd H2 fl (.lst (fv ++ [.ref b]))) := same_mut s2 hfl
      have f3 : upd H2 fl (.lst (fv ++ [.ref b])) fl = some (.lst (fv ++ [.ref b])) := upd_same
      have w3 : upd H2 fl (.lst (fv ++ [.ref b])) wl = some (.lst rs.reverse) := by
        rw [upd_ne (Ne.symm hwf)]
        exact w2
      have b3 := R.tk tk3 b2
      have k6 : All2 (R.V _) (fs ++ [t1]) (fv ++ [.ref b]) := (k4.imp fun _ _ z => Tre.V.tk tk3 z).app ⟨⟨b, rfl, b3⟩, trivial⟩
      have k7 := k5.imp fun _ _ z => Tre.V.tk tk3 z
      clear tk3
      generalize upd H2 fl (.lst (fv ++ [.ref b])) = H3 at s3 f3 w3 b3 k6 k7
      -- waiting.extend(parts(part)[::-1])
      have hcm : R.szs (t1 :: ts) = 1 + R.szs (R.kids t1) + R.szs ts := by
        rw [R.szs_cons, R.szk]
        rfl
      refine ⟨_, rfl, .inl ⟨rfl, _, SqL.of w3⟩, rfl, _, rfl, t1, b, rfl, b3, fun p' H4 us s5 h4 kk4 => ?_⟩
      have hlen := kk4.len
      have k8 := k7.imp fun _ _ z => Tre.V.tk (tk_same s5) z
      have hlen2 := k8.len
      have z1 := R.len_szs (R.kids t1)
      have z2 := R.len_szs ts
      refine ⟨1, rfl, -1, rfl, rfl, p', _, rfl, SqT.of h4, fun p5 hp5 => ?_⟩
      have s6 := same_new hp5 (.tup us.reverse)
      have w6 := s6 _ _ (s5 _ _ w3)
      refine ⟨wl, p5, _, _, rfl, rfl, w6, SqT.of upd_same, sz (by rw [List.length_reverse, List.length_reverse]; omega), ?_⟩
      have s7 := s5.trans s6
      have tk8 := (tk_same s6).trans (tk_put (o := .lst (rs.reverse ++ us.reverse)) w6)
      refine ⟨R.szs (R.kids t1 ++ ts), ?_, some (.ref b), fv ++ [.ref b], fs ++ [t1], us ++ rs, R.kids t1 ++ ts, rfl, same_mut (s3.trans s7) hw0, ?_, ?_, ?_, ?_, rfl, ?_, ?_⟩
      · rw [R.szs_app, hcm]
        omega
      · rw [upd_ne hwf]
        exact s7 _ _ f3
      · exact (k6.imp fun _ _ z => Tre.V.tk (tk_same s5) z).imp fun _ _ z => Tre.V.tk tk8 z
      · rw [upd_same, List.reverse_append]
      · exact (kk4.imp fun _ _ z => Tre.V.tk tk8 z).app (k8.imp fun _ _ z => Tre.V.tk tk8 z)
      · rw [List.length_append, List.length_singleton, R.szs_app]
        omega
      · rw [← hP, R.pres_app, R.pres_cons, R.pre_mk]
        simp
end
end KB

namespace KB
open PySem L2 HT

/-! ### new words -/
def digs (k : Nat) : List Nat := (if h : k / 26 = 0 then [] else digs (k / 26)) ++ [97 + k % 26]
termination_by k
decreasing_by omega
theorem digs_eq (k : Nat) : digs k = (if k / 26 = 0 then [] else digs (k / 26)) ++ [97 + k % 26] := by
  rw [digs]
  by_cases h : k / 26 = 0
  · rw [dif_pos h, if_pos h]
  · rw [dif_neg h, if_neg h]
def digs0 (k : Nat) : List Nat := if k = 0 then [] else digs k
theorem digs0_eq {k : Nat} (h : k ≠ 0) : digs0 k = digs0 (k / 26) ++ [97 + k % 26] := by
  unfold digs0
  rw [if_neg h, digs_eq]
theorem digs_digs0 (k : Nat) : digs k = digs0 (k / 26) ++ [97 + k % 26] := digs_eq k
theorem digs_inj : ∀ {a b : Nat}, digs a = digs b → a = b := by
  have go : ∀ n a b : Nat, a ≤ n → digs a = digs b → a = b := by
    intro n
    induction n with
    | zero =>
      intro a b ha h
      have h0 : a = 0 := by omega
      subst h0
      rw [digs_eq 0, digs_eq b] at h
      have h1 : ([] : List Nat) = (if b / 26 = 0 then [] else digs (b / 26)) ∧ [97] = [97 + b % 26] := List.append_inj' h rfl
      have h2 : b % 26 = 0 := by
        have := (List.cons.inj h1.2).1
        omega
      by_cases c : b / 26 = 0
      · omega
      · rw [if_neg c, digs_eq] at h1
        have := congrArg List.length h1.1
        simp at this
    | succ n ih =>
      intro a b ha h
      rw [digs_eq a, digs_eq b] at h
      have h1 := List.append_inj' h rfl
      have h2 : a % 26 = b % 26 := by
        have := (List.cons.inj h1.2).1
        omega
      have ne : ∀ k, digs k ≠ [] := fun k z => by
        rw [digs_eq] at z
        simp at z
      by_cases c : a / 26 = 0
      · by_cases d : b / 26 = 0
        · omega
        · rw [if_pos c, if_neg d] at h1
          exact absurd h1.1.symm (ne _)
      · by_cases d : b / 26 = 0
        · rw [if_neg c, if_pos d] at h1
          exact absurd h1.1 (ne _)
        · rw [if_neg c, if_neg d] at h1
          have := ih (a / 26) (b / 26) (by omega) h1.1
          omega
  intro a b h
  exact go a a b (Nat.le_refl _) h
theorem digs_len : ∀ n k : Nat, k < 26 ^ (n + 1) → (digs k).length ≤ n + 1 := by
  intro n
  induction n with
  | zero =>
    intro k h
    rw [digs_eq, if_pos (by omega)]
    exact Nat.le_refl 1
  | succ n ih =>
    intro k h
    rw [digs_eq, List.length_append, List.length_singleton]
    by_cases c : k / 26 = 0
    · rw [if_pos c]
      simp
    · rw [if_neg c]
      have := ih (k / 26) (by
        rw [Nat.pow_succ] at h
        exact Nat.div_lt_of_lt_mul (by rw [Nat.mul_comm]; exact h))
      omega
def wordOf (k : Nat) : Str := ⟨(digs k ++ [113]).toArray⟩
theorem wordOf_inj {a b : Nat} (h : wordOf a = wordOf b) : a = b := by
  have h1 : (digs a ++ [113]).toArray = (digs b ++ [113]).toArray := congrArg Str.cps h
  have h2 := congrArg Array.toList h1
  exact digs_inj (List.append_inj' h2 rfl).1
theorem wordOf_home (k : Nat) : wordOf k ≠ "home" := by
  intro h
  have h1 : (digs k ++ [113]).toArray = (Str.ofString "home").cps := congrArg Str.cps h
  have h2 := congrArg Array.toList h1
  have h3 : (digs k ++ [113]).getLast? = some 113 := by rw [List.getLast?_append]; rfl
  have h4 : (digs k ++ [113]) = (Str.ofString "home").cps.toList := h2
  rw [h4] at h3
  revert h3
  decide +kernel
theorem pig {α : Type} [DecidableEq α] : ∀ {l l' : List α}, l.Nodup → (∀ x ∈ l, x ∈ l') → l.length ≤ l'.length
  | [], _, _, _ => Nat.zero_le _
  | x :: r, l', hn, h => by
    have hx := h x List.mem_cons_self
    obtain ⟨hn1, hn2⟩ := List.nodup_cons.mp hn
    have := pig (l := r) (l' := l'.erase x) hn2 fun y hy => (List.mem_erase_of_ne (by intro z; subst z; exact hn1 hy)).mpr (h y (List.mem_cons_of_mem _ hy))
    rw [List.length_erase_of_mem hx] at this
    have hp : 0 < l'.length := List.length_pos_of_mem hx
    rw [List.length_cons]
    omega
theorem free_word (tk : List Str) (m : Nat) : ∃ k, m ≤ k ∧ k ≤ m + tk.length ∧ wordOf k ∉ tk := by
  by_cases h : ∃ i, i < tk.length + 1 ∧ wordOf (m + i) ∉ tk
  · obtain ⟨i, h1, h2⟩ := h
    exact ⟨m + i, by omega, by omega, h2⟩
  · have hall : ∀ x ∈ (List.range (tk.length + 1)).map fun i => wordOf (m + i), x ∈ tk := fun x hx => by
      obtain ⟨i, hi, rfl⟩ := List.mem_map.mp hx
      by_cases c : wordOf (m + i) ∈ tk
      · exact c
      · exact absurd ⟨i, List.mem_range.mp hi, c⟩ h
    have hnd : ((List.range (tk.length + 1)).map fun i => wordOf (m + i)).Nodup := by
      rw [List.nodup_iff_pairwise_ne, List.pairwise_map]
      refine List.Pairwise.imp ?_ List.nodup_range
      intro a b hab z
      exact hab (by have := wordOf_inj z; omega)
    have := pig hnd hall
    rw [List.length_map, List.length_range] at this
    omega
/-- a new word, and the count behind it -/
def NwR (tk : List Str) (m : Nat) (w : Str) (m' : Nat) : Prop := ∃ k, m ≤ k ∧ k ≤ m + tk.length ∧ w = wordOf k ∧ w ∉ tk ∧ m' = k + 1

section
variable {P : Program} {w : World} {K : PySem.W.Frag} {mg : Str → Option Value} {base : Heap}
/-! ### word_of -/
structure TxS (K : PySem.W.Frag) (mg : Str → Option Value) : Prop where
  signs : ∃ t, mg "SIGNS" = some (.str lettersS t)
  behind : ∃ t, mg "BEHIND" = some (.str "q" t)
  home : ∃ t, mg "HOME" = some (.str "home" t)
def spWordOf : Sp := fun vs H Q _ => ∃ k : Nat, vs = [.int (k : Int)] ∧ k < 26 ^ 9 ∧ Q (.str (wordOf k)) H
abbrev sword_of : Stmt := top 10
theorem scword_of : FnScope ["k", "word", "rest"] ["k"] (defScope sword_of) := ⟨rfl, rfl, rfl, by decide +kernel, rfl, by decide +kernel, by decide +kernel⟩
theorem str_cons (c : Nat) (l : List Nat) : (⟨#[c]⟩ : Str) ++ ⟨l.toArray⟩ = ⟨(c :: l).toArray⟩ := by
  show (⟨#[c] ++ l.toArray⟩ : Str) = _
  congr 1
  simp
theorem ok_wordOf (T : Txt K mg) (S : TxS K mg) {f : Addr} {fd : FuncData} (F : Fun K "word_of" "word_of" sword_of f fd) : FnOk P w K mg base CX0 1 f fd ["k"] spWordOf := by
  refine F.ok scword_of (fun vs H Q E h => ?_) (fun cdv A outer s H vs Q E hr h => ?_)
  · obtain ⟨k, rfl, _⟩ := h
    rfl
  obtain ⟨k, rfl, hk, q⟩ := h
  obtain ⟨t1, hs⟩ := S.signs
  obtain ⟨t2, hb⟩ := S.behind
  refine ⟨_, (pss_cons (ps_set (i := 1) scword_of.nd rfl (Or.inl rfl) (pe_op op_add_str (pe_ix ix_str (pe_glob (v := .str lettersS) rfl hs ⟨_, rfl⟩) (pe_op op_mod (pv 0) (pe_callB call_len (by rfl) T.m_len PySem.boot_len (pa_cons (pe_glob (v := .str lettersS) rfl hs ⟨_, rfl⟩) pa_nil))) (fun _ _ => rfl)) (pe_glob (v := .str "q") rfl hb ⟨_, rfl⟩)))
    (pss_cons (ps_set (i := 2) scword_of.nd rfl (Or.inl rfl) (pe_op op_fdivW (pv 0) (pe_callB call_len (by rfl) T.m_len PySem.boot_len (pa_cons (pe_glob (v := .str lettersS) rfl hs ⟨_, rfl⟩) pa_nil))))
    (pss_cons (ps_while PassesOwn.never (pt_cmpR op_gt (pv 2) pe_int (nomark _)) (pss_cons (ps_set (i := 1) scword_of.nd rfl (Or.inl rfl) (pe_op op_add_str (pe_ix ix_str (pe_glob (v := .str lettersS) rfl hs ⟨_, rfl⟩) (pe_op op_mod (pv 2) (pe_callB call_len (by rfl) T.m_len PySem.boot_len (pa_cons (pe_glob (v := .str lettersS) rfl hs ⟨_, rfl⟩) pa_nil))) (fun _ _ => rfl)) (pv 1)))
    (pss_one (ps_set (i := 2) scword_of.nd rfl (Or.inl rfl) (pe_op op_fdivW (pv 2) (pe_callB call_len (by rfl) T.m_len PySem.boot_len (pa_cons (pe_glob (v := .str lettersS) rfl hs ⟨_, rfl⟩) pa_nil)))))))
    (pss_one (ps_ret (pv 1)))))), ?_⟩
  have hl26 : lettersS.length = 26 := by decide +kernel
  have hd10 : (digs k ++ [113]).length ≤ 10 := by
    rw [List.length_append]
    have := digs_len 8 k hk
    show (digs k).length + 1 ≤ 10
    omega
  have lenW : LenV K (.str lettersS) H 26 := ⟨by decide +kernel, hl26.symm⟩
  refine ⟨_, rfl, _, _, rfl, lenW, _, _, rfl, rfl, (by show (0 : Int) < 26; decide), lettersS, _, _, rfl, rfl, (by decide +kernel), letters_at (Int.emod_nonneg _ (by decide)) (Int.emod_lt_of_pos _ (by decide)), _, _, rfl, rfl, sz (by show 1 + 1 ≤ 100000; decide), ?_⟩
  refine ⟨_, rfl, _, _, rfl, lenW, _, _, rfl, rfl, ⟨by decide, log_many (by decide) (by decide)⟩, ?_⟩
  refine ⟨fun m σ H' => ∃ (r : Nat) (l : List Nat), σ = [some (.int (k : Int)), some (.str ⟨l.toArray⟩), some (.int (r : Int))] ∧ H = H' ∧ r = m ∧ digs0 r ++ l = digs k ++ [113], ⟨_, k / 26, [97 + k % 26, 113], ?_, rfl, rfl, ?_⟩, ?_⟩
  · congr 3
  · rw [digs_digs0 k]
    simp
  rintro m σ H' ⟨r, l, rfl, rfl, rfl, e⟩
  refine ⟨_, rfl, _, _, rfl, rfl, _, rfl, ?_⟩
  by_cases c : r = 0
  · subst c
    refine itF (decide_eq_false (by omega)) ⟨_, rfl, ?_⟩
    have e2 : l = digs k ++ [113] := e
    rw [e2]
    exact q
  · refine itT (decide_eq_true (by omega)) ⟨fun σ' H' => ∃ m', m' < r ∧ ∃ (r' : Nat) (l : List Nat), σ' = [some (.int (k : Int)), some (.str ⟨l.toArray⟩), some (.int (r' : Int))] ∧ H = H' ∧ r' = m' ∧ digs0 r' ++ l = digs k ++ [113], fun _ _ z => z, ?_⟩
    have hll : l.length ≤ 10 := by
      have := congrArg List.length e
      rw [List.length_append] at this
      omega
    refine ⟨_, rfl, _, _, rfl, lenW, _, _, rfl, rfl, (by show (0 : Int) < 26; decide), lettersS, _, _, rfl, rfl, (by decide +kernel), letters_at (Int.emod_nonneg _ (by decide)) (Int.emod_lt_of_pos _ (by decide)), _, rfl, _, _, rfl, rfl, sz (by show 1 + l.toArray.size ≤ 100000; rw [List.size_toArray]; omega), ?_⟩
    refine ⟨_, rfl, _, _, rfl, lenW, _, _, rfl, rfl, ⟨by decide, log_many (by decide) (by decide)⟩, ?_⟩
    refine ⟨r / 26, by omega, r / 26, (97 + r % 26) :: l, ?_, rfl, rfl, ?_⟩
    · rw [str_cons]
      congr 4
    · rw [← e, digs0_eq c]
      simp
end
end KB

namespace KB
open PySem L2 HT

/-! ### the turning of a body as a machine of data -/
inductive Ld | lett (x : Str) (s : Tm) | tell (x : Str) (s : Tm) | post (j x : Str) (u : Pt)
def putAh : List Ld → Pt → Pt
  | [], p => p
  | .lett x s :: r, p => .lett x s (putAh r p)
  | .tell x s :: r, p => .tell x s (putAh r p)
  | .post j x u :: r, p => .post j x (putAh r p) u
inductive Gt | t (s : Tm) | p (q : Pt)
inductive Jb | row | done (t : Tm) (j : Str) | put (t : Tm) (x : Str) | simple (t : Tm) | known (t : Tm) | close | lett (x : Str) | tell (x : Str) | post (j x : Str)
  | ask (f : Str) (n : Nat) (j : Str) | give (j : Str) | iff | op (l : Bool)
structure Cg where
  jobs : List Jb
  rows : List (List Ld)
  got : List Gt
  m : Nat
def endJ (t : Tm) (j : Str) : List Jb :=
  match hdT t, kidsT t with
  | .ask f, ts => ts.map Jb.simple ++ [.ask f ts.length j]
  | .iff, [a, b, c] => [.simple a, .row, .done b j, .row, .done c j, .iff]
  | _, _ => [.simple t, .give j]
def doneJ (t : Tm) (j : Str) : List Jb :=
  match hdT t, kidsT t with
  | .lett x, [a, b] => [.put a x, .done b j]
  | _, _ => endJ t j ++ [.close]
def plainH : Hd → Bool
  | .ask _ | .iff | .tell | .lett _ => false
  | _ => true
def wordH : Hd → Bool
  | .ask _ | .iff => true
  | _ => false
/-- a term put under x, w a new word where one is asked for -/
def putJ (t : Tm) (x w : Str) : List Jb :=
  match hdT t, kidsT t with
  | .lett y, [a, b] => [.put a y, .put b x]
  | .ask _, _ => endJ t w ++ [.post w x]
  | .iff, _ => endJ t w ++ [.post w x]
  | .tell, [a] => [.simple a, .tell x]
  | _, _ => [.simple t, .lett x]
def simpJ (t : Tm) (w : Str) : List Jb :=
  match hdT t, kidsT t with
  | .num _, _ => [.known t]
  | .nam _, _ => [.known t]
  | .plus, [a, b] => [.simple a, .simple b, .op false]
  | .less, [a, b] => [.simple a, .simple b, .op true]
  | .lett y, [a, b] => [.put a y, .simple b]
  | _, _ => [.put t w, .known (mkL (.nam w) [])]
/-- whether simpJ asks for a new word -/
def wordS : Hd → Bool
  | .ask _ | .iff | .tell => true
  | _ => false
def mkOp (l : Bool) (a b : Tm) : Tm := mkL (if l then .less else .plus) [a, b]
def tmsG : List Gt → List Tm
  | [] => []
  | .t s :: r => s :: tmsG r
  | .p _ :: r => tmsG r
/-- one job that is finished -/
inductive Fin : Jb → List (List Ld) → List Gt → List (List Ld) → List Gt → Prop
  | row {R G} : Fin .row R G ([] :: R) G
  | close {r R q G} : Fin .close (r :: R) (.p q :: G) R (.p (putAh r q) :: G)
  | lett {x r R s G} : Fin (.lett x) (r :: R) (.t s :: G) ((r ++ [.lett x s]) :: R) G
  | tell {x r R s G} : Fin (.tell x) (r :: R) (.t s :: G) ((r ++ [.tell x s]) :: R) G
  | post {j x r R q G} : Fin (.post j x) (r :: R) (.p q :: G) ((r ++ [.post j x q]) :: R) G
  | known {t R G} : Fin (.known t) R G R (.t t :: G)
  | ask {f j ts R G} : Fin (.ask f ts.length j) R ((ts.map Gt.t).reverse ++ G) R (.p (.ask f ts j) :: G)
  | give {j s R G} : Fin (.give j) R (.t s :: G) R (.p (.give j s) :: G)
  | iff {a b c R G} : Fin .iff R (.p c :: .p b :: .t a :: G) R (.p (.iff a b c) :: G)
  | op {l a b R G} : Fin (.op l) R (.t b :: .t a :: G) R (.t (mkOp l a b) :: G)
/-- what comes of a row of jobs -/
inductive Run (tk : List Str) : List Jb → List (List Ld) → List Gt → Nat → List (List Ld) → List Gt → Nat → Prop
  | nil {R G m} : Run tk [] R G m R G m
  | fin {j J R G m R1 G1 R2 G2 m2} : Fin j R G R1 G1 → Run tk J R1 G1 m R2 G2 m2 → Run tk (j :: J) R G m R2 G2 m2
  | done {t j J R G m R2 G2 m2} : Run tk (doneJ t j ++ J) R G m R2 G2 m2 → Run tk (.done t j :: J) R G m R2 G2 m2
  | put {t x w J R G m m1 R2 G2 m2} : (wordH (hdT t) = true → NwR tk m w m1) → (wordH (hdT t) = false → m1 = m) → Run tk (putJ t x w ++ J) R G m1 R2 G2 m2 → Run tk (.put t x :: J) R G m R2 G2 m2
  | simple {t w J R G m m1 R2 G2 m2} : (wordS (hdT t) = true → NwR tk m w m1) → (wordS (hdT t) = false → m1 = m) → Run tk (simpJ t w ++ J) R G m1 R2 G2 m2 → Run tk (.simple t :: J) R G m R2 G2 m2
theorem Run.split {tk : List Str} {J : List Jb} {R G m R2 G2 m2} (h : Run tk J R G m R2 G2 m2) : ∀ {J1 J2 : List Jb}, J = J1 ++ J2 → ∃ R1 G1 m1, Run tk J1 R G m R1 G1 m1 ∧ Run tk J2 R1 G1 m1 R2 G2 m2 := by
  induction h with
  | nil =>
    intro J1 J2 e
    obtain ⟨rfl, rfl⟩ := List.append_eq_nil_iff.mp e.symm
    exact ⟨_, _, _, .nil, .nil⟩
  | fin f h ih =>
    intro J1 J2 e
    cases J1 with
    | nil => subst e; exact ⟨_, _, _, .nil, .fin f h⟩
    | cons a r =>
      obtain ⟨e1, e2⟩ := List.cons.inj e
      subst e1
      obtain ⟨R1, G1, m1, a1, a2⟩ := ih e2
      exact ⟨_, _, _, .fin f a1, a2⟩
  | @done t j J R G m R2 G2 m2 h ih =>
    intro J1 J2 e
    cases J1 with
    | nil => subst e; exact ⟨_, _, _, .nil, .done h⟩
    | cons a r =>
      obtain ⟨e1, e2⟩ := List.cons.inj e
      subst e1
      obtain ⟨R1, G1, m1, a1, a2⟩ := ih (J1 := doneJ t j ++ r) (J2 := J2) (by rw [e2]; exact (List.append_assoc _ r J2).symm)
      exact ⟨_, _, _, .done a1, a2⟩
  | @put t x w J R G m m1 R2 G2 m2 h1 h2 h ih =>
    intro J1 J2 e
    cases J1 with
    | nil => subst e; exact ⟨_, _, _, .nil, .put h1 h2 h⟩
    | cons a r =>
      obtain ⟨e1, e2⟩ := List.cons.inj e
      subst e1
      obtain ⟨R1, G1, m1, a1, a2⟩ := ih (J1 := putJ t x w ++ r) (J2 := J2) (by rw [e2]; exact (List.append_assoc _ r J2).symm)
      exact ⟨_, _, _, .put h1 h2 a1, a2⟩
  | @simple t w J R G m m1 R2 G2 m2 h1 h2 h ih =>
    intro J1 J2 e
    cases J1 with
    | nil => subst e; exact ⟨_, _, _, .nil, .simple h1 h2 h⟩
    | cons a r =>
      obtain ⟨e1, e2⟩ := List.cons.inj e
      subst e1
      obtain ⟨R1, G1, m1, a1, a2⟩ := ih (J1 := simpJ t w ++ r) (J2 := J2) (by rw [e2]; exact (List.append_assoc _ r J2).symm)
      exact ⟨_, _, _, .simple h1 h2 a1, a2⟩
/-! ### how much is left to be done -/
def wS (t : Tm) : Nat := 20 * cnt t + (if wordS (hdT t) = true then 2 else 0)
def wP (t : Tm) : Nat := 20 * cnt t + (if wordS (hdT t) = true then 0 else 2)
def wD (t : Tm) : Nat := 20 * cnt t + 5
def wJ : Jb → Nat
  | .done t _ => wD t
  | .put t _ => wP t
  | .simple t => wS t
  | _ => 1
def wJs (J : List Jb) : Nat := (J.map wJ).sum
theorem wJs_cons (j : Jb) (J : List Jb) : wJs (j :: J) = wJ j + wJs J := rfl
theorem wJs_app (a b : List Jb) : wJs (a ++ b) = wJs a + wJs b := by
  unfold wJs
  rw [List.map_append, List.sum_append]
theorem wJ_pos (j : Jb) : 1 ≤ wJ j := by
  cases j with
  | done t j => show 1 ≤ 20 * cnt t + 5; omega
  | put t x => have := cnt_pos t; show 1 ≤ 20 * cnt t + _; omega
  | simple t => have := cnt_pos t; show 1 ≤ 20 * cnt t + _; omega
  | _ => exact Nat.le_refl 1
theorem len_wJs : ∀ J : List Jb, J.length ≤ wJs J
  | [] => Nat.le_refl _
  | j :: r => by
    have := len_wJs r
    have := wJ_pos j
    rw [wJs_cons, List.length_cons]
    omega
theorem cnt_kids (t : Tm) : cnt t = 1 + cnts (kidsT t) := by
  cases t with
  | mk h n k => exact cnt_mk
theorem wS_le (t : Tm) : wS t ≤ 20 * cnt t + 2 := by
  unfold wS
  split <;> omega
theorem wP_le (t : Tm) : wP t ≤ 20 * cnt t + 2 := by
  unfold wP
  split <;> omega
theorem w_simples : ∀ ts : List Tm, wJs (ts.map Jb.simple) ≤ 20 * cnts ts + 2 * ts.length
  | [] => Nat.le_refl _
  | t :: r => by
    have := w_simples r
    have := wS_le t
    rw [List.map_cons, wJs_cons, cnts_cons, List.length_cons]
    show wS t + _ ≤ _
    omega
/-- the number of parts that a term of this kind has -/
def arH : Hd → Nat → Prop
  | .num _, n => n = 0
  | .nam _, n => n = 0
  | .plus, n => n = 2
  | .less, n => n = 2
  | .tell, n => n = 1
  | .lett _, n => n = 2
  | .iff, n => n = 3
  | .ask _, n => n ≤ 4
def arN (t : Tm) : Prop := arH (hdT t) (kidsT t).length
theorem Lay.ar {H : Hp} {a : Addr} {h : Hd} {xs : List V} (l : Lay H a h xs) : arH h xs.length := by
  cases h with
  | num z => rw [l.1]; rfl
  | nam z => rw [l.1]; rfl
  | ask f => exact l.1
  | _ => exact l.1
theorem two_of {α : Type} {l : List α} (h : l.length = 2) : ∃ a b, l = [a, b] := by
  match l, h with
  | [a, b], _ => exact ⟨a, b, rfl⟩
theorem three_of {α : Type} {l : List α} (h : l.length = 3) : ∃ a b c, l = [a, b, c] := by
  match l, h with
  | [a, b, c], _ => exact ⟨a, b, c, rfl⟩
theorem one_of {α : Type} {l : List α} (h : l.length = 1) : ∃ a, l = [a] := by
  match l, h with
  | [a], _ => exact ⟨a, rfl⟩
theorem w_end (t : Tm) (j : Str) (h : arN t) : wJs (endJ t j) ≤ 20 * cnt t + 3 ∧ (wordH (hdT t) = true → wJs (endJ t j) + 3 ≤ 20 * cnt t) := by
  have hc := cnt_kids t
  unfold arN at h
  unfold endJ
  cases hh : hdT t with
  | ask f =>
    rw [hh] at h
    have h4 : (kidsT t).length ≤ 4 := h
    have := w_simples (kidsT t)
    show wJs ((kidsT t).map Jb.simple ++ [.ask f (kidsT t).length j]) ≤ _ ∧ (_ → wJs ((kidsT t).map Jb.simple ++ [.ask f (kidsT t).length j]) + 3 ≤ _)
    rw [wJs_app]
    have e : wJs [Jb.ask f (kidsT t).length j] = 1 := rfl
    omega
  | iff =>
    rw [hh] at h
    obtain ⟨a, b, c, e⟩ := three_of (show (kidsT t).length = 3 from h)
    rw [e] at hc ⊢
    have e2 : cnts [a, b, c] = cnt a + (cnt b + (cnt c + 0)) := rfl
    have := wS_le a
    show (wS a + (1 + (wD b + (1 + (wD c + (1 + 0)))))) ≤ _ ∧ (_ → (wS a + (1 + (wD b + (1 + (wD c + (1 + 0)))))) + 3 ≤ _)
    unfold wD
    omega
  | _ =>
    have := wS_le t
    refine ⟨?_, fun z => nomatch z⟩
    show wS t + (1 + 0) ≤ _
    omega
theorem w_done (t : Tm) (j : Str) (h : arN t) : wJs (doneJ t j) < wD t := by
  have he := w_end t j h
  have hc := cnt_kids t
  unfold doneJ wD
  unfold arN at h
  cases hh : hdT t with
  | lett x =>
    rw [hh] at h
    obtain ⟨a, b, e⟩ := two_of (show (kidsT t).length = 2 from h)
    rw [e] at hc ⊢
    have e2 : cnts [a, b] = cnt a + (cnt b + 0) := rfl
    have := wP_le a
    show wP a + (wD b + 0) < _
    unfold wD
    omega
  | _ =>
    show wJs (endJ t j ++ [.close]) < _
    rw [wJs_app]
    have e : wJs [Jb.close] = 1 := rfl
    omega
theorem w_put (t : Tm) (x w : Str) (h : arN t) : wJs (putJ t x w) < wP t := by
  have he := w_end t w h
  have hc := cnt_kids t
  unfold arN at h
  unfold putJ
  cases hh : hdT t with
  | lett y =>
    rw [hh] at h
    obtain ⟨a, b, e⟩ := two_of (show (kidsT t).length = 2 from h)
    rw [e] at hc ⊢
    have e2 : cnts [a, b] = cnt a + (cnt b + 0) := rfl
    have := wP_le a
    have := wP_le b
    have e3 : wP t = 20 * cnt t + 2 := by unfold wP; rw [hh]; rfl
    show wP a + (wP b + 0) < _
    omega
  | ask f =>
    have e3 : wP t = 20 * cnt t := by unfold wP; rw [hh]; rfl
    have := he.2 (by rw [hh]; rfl)
    show wJs (endJ t w ++ [.post w x]) < _
    rw [wJs_app]
    have e : wJs [Jb.post w x] = 1 := rfl
    omega
  | iff =>
    have e3 : wP t = 20 * cnt t := by unfold wP; rw [hh]; rfl
    have := he.2 (by rw [hh]; rfl)
    show wJs (endJ t w ++ [.post w x]) < _
    rw [wJs_app]
    have e : wJs [Jb.post w x] = 1 := rfl
    omega
  | tell =>
    rw [hh] at h
    obtain ⟨a, e⟩ := one_of (show (kidsT t).length = 1 from h)
    rw [e] at hc ⊢
    have e2 : cnts [a] = cnt a + 0 := rfl
    have := wS_le a
    have e3 : wP t = 20 * cnt t := by unfold wP; rw [hh]; rfl
    show wS a + (1 + 0) < _
    omega
  | _ =>
    have e3 : wP t = 20 * cnt t + 2 := by unfold wP; rw [hh]; rfl
    have e4 : wS t = 20 * cnt t := by unfold wS; rw [hh]; rfl
    show wS t + (1 + 0) < _
    omega
theorem w_simple (t : Tm) (w : Str) (h : arN t) : wJs (simpJ t w) < wS t := by
  have hc := cnt_kids t
  unfold arN at h
  unfold simpJ
  have plain : ∀ l : Bool, (kidsT t).length = 2 → wS t = 20 * cnt t → ∃ a b, kidsT t = [a, b] ∧ wJs [.simple a, .simple b, .op l] < wS t := fun l h2 e3 => by
    obtain ⟨a, b, e⟩ := two_of h2
    rw [e] at hc
    have e2 : cnts [a, b] = cnt a + (cnt b + 0) := rfl
    have := wS_le a
    have := wS_le b
    refine ⟨a, b, e, ?_⟩
    show wS a + (wS b + (1 + 0)) < _
    omega
  cases hh : hdT t with
  | num z => have e3 : wS t = 20 * cnt t := by unfold wS; rw [hh]; rfl
             show 1 + 0 < _; omega
  | nam z => have e3 : wS t = 20 * cnt t := by unfold wS; rw [hh]; rfl
             show 1 + 0 < _; omega
  | plus =>
    rw [hh] at h
    obtain ⟨a, b, e, h9⟩ := plain false h (by unfold wS; rw [hh]; rfl)
    rw [e]
    exact h9
  | less =>
    rw [hh] at h
    obtain ⟨a, b, e, h9⟩ := plain true h (by unfold wS; rw [hh]; rfl)
    rw [e]
    exact h9
  | lett y =>
    rw [hh] at h
    obtain ⟨a, b, e⟩ := two_of (show (kidsT t).length = 2 from h)
    rw [e] at hc ⊢
    have e2 : cnts [a, b] = cnt a + (cnt b + 0) := rfl
    have := wP_le a
    have := wS_le b
    have e3 : wS t = 20 * cnt t := by unfold wS; rw [hh]; rfl
    show wP a + (wS b + 0) < _
    omega
  | _ =>
    have e3 : wS t = 20 * cnt t + 2 := by unfold wS; rw [hh]; rfl
    have e4 : wP t = 20 * cnt t := by unfold wP; rw [hh]; rfl
    show wP t + (1 + 0) < _
    omega
/-! ### nothing is left over, nothing is lacking -/
def okJ : List Jb → Nat → List Bool → Prop
  | [], r, g => r = 0 ∧ g = [true]
  | .row :: J, r, g => okJ J (r + 1) g
  | .done _ _ :: J, r, g => ∃ r', r = r' + 1 ∧ okJ J r' (true :: g)
  | .put _ _ :: J, r, g => 0 < r ∧ okJ J r g
  | .simple _ :: J, r, g => 0 < r ∧ okJ J r (false :: g)
  | .known _ :: J, r, g => okJ J r (false :: g)
  | .close :: J, r, g => ∃ r' g', r = r' + 1 ∧ g = true :: g' ∧ okJ J r' (true :: g')
  | .lett _ :: J, r, g => ∃ g', 0 < r ∧ g = false :: g' ∧ okJ J r g'
  | .tell _ :: J, r, g => ∃ g', 0 < r ∧ g = false :: g' ∧ okJ J r g'
  | .post _ _ :: J, r, g => ∃ g', 0 < r ∧ g = true :: g' ∧ okJ J r g'
  | .ask _ n _ :: J, r, g => ∃ g', g = List.replicate n false ++ g' ∧ okJ J r (true :: g')
  | .give _ :: J, r, g => ∃ g', g = false :: g' ∧ okJ J r (true :: g')
  | .iff :: J, r, g => ∃ g', g = true :: true :: false :: g' ∧ okJ J r (true :: g')
  | .op _ :: J, r, g => ∃ g', g = false :: false :: g' ∧ okJ J r (false :: g')
def kG : Gt → Bool
  | .t _ => false
  | .p _ => true
theorem ok_simples {J : List Jb} {r : Nat} (hr : 0 < r) : ∀ (ts : List Tm) (g : List Bool), okJ J r (List.replicate ts.length false ++ g) → okJ (ts.map Jb.simple ++ J) r g
  | [], g, h => h
  | t :: ts, g, h => by
    refine ⟨hr, ok_simples hr ts (false :: g) ?_⟩
    have e : List.replicate ts.length false ++ false :: g = List.replicate (t :: ts).length false ++ g := by
      rw [List.length_cons, List.replicate_succ']
      simp
    rw [e]
    exact h
theorem ok_end {t : Tm} {j : Str} {J : List Jb} {r : Nat} {g : List Bool} (h : arN t) (hr : 0 < r) (o : okJ J r (true :: g)) : okJ (endJ t j ++ J) r g := by
  unfold arN at h
  unfold endJ
  cases hh : hdT t with
  | ask f =>
    show okJ (((kidsT t).map Jb.simple ++ [.ask f (kidsT t).length j]) ++ J) r g
    rw [List.append_assoc]
    exact ok_simples hr _ g ⟨g, rfl, o⟩
  | iff =>
    rw [hh] at h
    obtain ⟨a, b, c, e⟩ := three_of (show (kidsT t).length = 3 from h)
    rw [e]
    exact ⟨hr, r, rfl, r, rfl, g, rfl, o⟩
  | _ => exact ⟨hr, g, rfl, o⟩
theorem ok_done {t : Tm} {j : Str} {J : List Jb} {r : Nat} {g : List Bool} (h : arN t) (o : okJ (.done t j :: J) r g) : okJ (doneJ t j ++ J) r g := by
  obtain ⟨r', rfl, o⟩ := o
  have he : okJ ((endJ t j ++ [.close]) ++ J) (r' + 1) g := by
    rw [List.append_assoc]
    exact ok_end h (Nat.succ_pos _) ⟨r', g, rfl, rfl, o⟩
  unfold arN at h
  unfold doneJ
  cases hh : hdT t with
  | lett x =>
    rw [hh] at h
    obtain ⟨a, b, e⟩ := two_of (show (kidsT t).length = 2 from h)
    rw [e]
    exact ⟨Nat.succ_pos _, r', rfl, o⟩
  | _ => exact he
theorem ok_put {t : Tm} {x w : Str} {J : List Jb} {r : Nat} {g : List Bool} (h : arN t) (o : okJ (.put t x :: J) r g) : okJ (putJ t x w ++ J) r g := by
  obtain ⟨hr, o⟩ := o
  have he : okJ ((endJ t w ++ [.post w x]) ++ J) r g := by
    rw [List.append_assoc]
    exact ok_end h hr ⟨g, hr, rfl, o⟩
  unfold arN at h
  unfold putJ
  cases hh : hdT t with
  | lett y =>
    rw [hh] at h
    obtain ⟨a, b, e⟩ := two_of (show (kidsT t).length = 2 from h)
    rw [e]
    exact ⟨hr, hr, o⟩
  | ask f => exact he
  | iff => exact he
  | tell =>
    rw [hh] at h
    obtain ⟨a, e⟩ := one_of (show (kidsT t).length = 1 from h)
    rw [e]
    exact ⟨hr, g, hr, rfl, o⟩
  | _ => exact ⟨hr, g, hr, rfl, o⟩
theorem ok_simp {t : Tm} {w : Str} {J : List Jb} {r : Nat} {g : List Bool} (h : arN t) (o : okJ (.simple t :: J) r g) : okJ (simpJ t w ++ J) r g := by
  obtain ⟨hr, o⟩ := o
  unfold arN at h
  unfold simpJ
  cases hh : hdT t with
  | num z => exact o
  | nam z => exact o
  | plus =>
    rw [hh] at h
    obtain ⟨a, b, e⟩ := two_of (show (kidsT t).length = 2 from h)
    rw [e]
    exact ⟨hr, hr, g, rfl, o⟩
  | less =>
    rw [hh] at h
    obtain ⟨a, b, e⟩ := two_of (show (kidsT t).length = 2 from h)
    rw [e]
    exact ⟨hr, hr, g, rfl, o⟩
  | lett y =>
    rw [hh] at h
    obtain ⟨a, b, e⟩ := two_of (show (kidsT t).length = 2 from h)
    rw [e]
    exact ⟨hr, hr, o⟩
  | _ => exact ⟨hr, o⟩
end KB

namespace KB
open PySem L2 HT

theorem tk_upd {H : Hp} {p : Addr} {o o' : HO} (h : H p = some o) (n : ∀ xs, o ≠ .tup xs) : TK H (upd H p o') := fun a xs e => by
  rw [upd_ne (ne_of e h (fun z => n xs z.symm))]
  exact e
structure TxN (K : PySem.W.Frag) (mg : Str → Option Value) (CN CT : Addr) : Prop where
  clN : Cls K CN
  nTaken : NoAttr K CN "taken"
  nMany : NoAttr K CN "many"
  clT : Cls K CT
  tNew : NoAttr K CT "new_words"
  tJobs : NoAttr K CT "jobs"
  tRows : NoAttr K CT "rows"
  tGot : NoAttr K CT "got"
  mgN : mg "NewWords" = some (.ref CN)
  mgT : mg "Turning" = some (.ref CT)
def fsN (t m : V) : List (Str × V) := [("taken", t), ("many", m)]
def fsT (w j r g : V) : List (Str × V) := [("new_words", w), ("jobs", j), ("rows", r), ("got", g)]
theorem n_many (t m v : V) : putF "many" v (fsN t m) = fsN t v := by rfl
def Tkn (H : Hp) (td : Addr) (tk : List Str) : Prop := ∃ kvs, H td = some (.dK kvs) ∧ ∀ x : Str, (valV kvs (Sum.inr x)).isSome = decide (x ∈ tk)
structure NWAt (CN : Addr) (H : Hp) (p dx td : Addr) (tk : List Str) (m : Nat) : Prop where
  ob : H p = some (.ins CN dx (fsN (.ref td) (.int (m : Int))))
  tk : Tkn H td tk
theorem NWAt.ne {CN : Addr} {H : Hp} {p dx td : Addr} {tk : List Str} {m : Nat} (h : NWAt CN H p dx td tk m) : td ≠ p := by
  obtain ⟨kvs, h1, _⟩ := h.tk
  exact ne_of h1 h.ob (by intro z; cases z)
theorem NWAt.put {CN : Addr} {H : Hp} {p dx td : Addr} {tk : List Str} {m : Nat} (h : NWAt CN H p dx td tk m) (m' : Nat) : NWAt CN (upd H p (.ins CN dx (fsN (.ref td) (.int (m' : Int))))) p dx td tk m' := by
  refine ⟨upd_same, ?_⟩
  obtain ⟨kvs, h1, h2⟩ := h.tk
  exact ⟨kvs, by rw [upd_ne h.ne]; exact h1, h2⟩

section
variable {P : Program} {w : World} {K : PySem.W.Frag} {mg : Str → Option Value} {base : Heap} {CN CT : Addr}
/-! ### NewWords -/
def spNew0 (CN : Addr) : Sp := fun vs H Q _ => ∃ (p dx tl : Addr) (tk : List Str), vs = [.ref p, .ref tl] ∧ H p = some (.ins CN dx []) ∧ H tl = some (.lst (tk.map V.str)) ∧ tk.length ≤ 1000 ∧
  ∀ H' td, (∀ b o, b ≠ p → H b = some o → H' b = some o) → H td = none → NWAt CN H' p dx td tk 0 → Q .non H'
abbrev sNew0 : Stmt := inClass (top 12) 0
theorem scNew0 : FnScope ["self", "taken", "word"] ["self", "taken"] (defScope sNew0) := ⟨rfl, rfl, rfl, by decide +kernel, rfl, by decide +kernel, by decide +kernel⟩
theorem ok_new0 (X : TxN K mg CN CT) {f : Addr} {fd : FuncData} (F : Fun K "__init__" "NewWords.__init__" sNew0 f fd) : FnOk P w K mg base CX0 1 f fd ["self", "taken"] (spNew0 CN) := by
  refine F.ok scNew0 (fun vs H Q E h => ?_) (fun cdv A outer s H vs Q E hr h => ?_)
  · obtain ⟨p, dx, tl, tk, rfl, _⟩ := h
    rfl
  obtain ⟨p, dx, tl, tk, rfl, hp, ht, hl, q⟩ := h
  refine ⟨_, pss_cons (ps_fld (pv 0) (pe_dc (own := [("word", 2)]) (g := gName 2) (tt := tYes) (tk := tVar 2) (tv := tC (.bl true)) (by rfl) scNew0.nd (pi_list (pv 1)) (blkOk_by (own := [("word", 2)]) (N := ["self", "taken", "word"]) (sc := defScope sNew0) (by decide +kernel)) (fun _ _ _ _ _ => pg_name (i := 2) scNew0.nd rfl (Or.inl rfl)) (fun _ _ _ _ _ => pts_nil) (fun _ _ _ _ _ => pv 2) (fun _ _ _ _ _ => pe_bl)) rfl)
    (pss_one (ps_fld (pv 0) pe_int rfl)), ?_⟩
  refine ⟨_, rfl, tl, rfl, ⟨_, SqL.of ht⟩, fun D hD => ?_⟩
  refine ⟨fun i m' H' => m' = tk.length - i ∧ i ≤ tk.length ∧ Same H H' ∧ ∃ kvs, H' D = some (.dK kvs) ∧ kvs.length ≤ i ∧ ∀ x : Str, (valV kvs (Sum.inr x)).isSome = decide (x ∈ tk.take i),
    ⟨_, rfl, Nat.zero_le _, same_new hD _, [], upd_same, Nat.le_refl _, fun x => by rw [List.take_zero]; rfl⟩, ?_⟩
  rintro i m' H1 ⟨rfl, hi, s1, kvs, hk, hkl, hall⟩
  by_cases c : i < tk.length
  · have hx1 : (tk.map V.str)[i]? = some (.str tk[i]) := by rw [List.getElem?_map, List.getElem?_eq_getElem c]; rfl
    refine .inr ⟨⟨_, _, SqL.of (s1 _ _ ht), hx1⟩, fun H' => i + 1 ≤ tk.length ∧ Same H H' ∧ ∃ kvs, H' D = some (.dK kvs) ∧ kvs.length ≤ i + 1 ∧ ∀ x : Str, (valV kvs (Sum.inr x)).isSome = decide (x ∈ tk.take (i + 1)),
      fun H' h => ⟨tk.length - (i + 1), by omega, rfl, h⟩, fun x H' hy => ?_⟩
    obtain ⟨e', hx⟩ := hy
    subst e'
    have hx := hx _ (SqL.of (s1 _ _ ht))
    rw [hx1] at hx
    cases hx
    refine ⟨rfl, ?_⟩
    dsimp only [tYes]
    rw [if_pos rfl]
    refine ⟨_, rfl, kvs, Sum.inr tk[i], rfl, hk, Nat.lt_of_le_of_lt (m := 1000) (by omega) (by decide), c, same_mut s1 hD, putK kvs (Sum.inr tk[i]) (.bl true), upd_same, Nat.le_trans (length_putK _ _ _) (Nat.succ_le_succ hkl), fun x => ?_⟩
    rw [valV_put, List.take_succ_eq_append_getElem c]
    by_cases e : x = tk[i]
    · rw [if_pos (by rw [e])]
      rw [decide_eq_true (by rw [e]; exact List.mem_append_right _ List.mem_cons_self)]
      rfl
    · rw [if_neg (fun z => e (Sum.inr.inj z)), hall]
      by_cases e2 : x ∈ tk.take i
      · rw [decide_eq_true e2, decide_eq_true (List.mem_append_left _ e2)]
      · rw [decide_eq_false e2, decide_eq_false fun z => ?_]
        rcases List.mem_append.mp z with z | z
        · exact e2 z
        · exact e (List.mem_singleton.mp z)
  · have ei : i = tk.length := by omega
    subst ei
    rw [List.take_length] at hall
    refine .inl ⟨⟨_, SqL.of (s1 _ _ ht), by rw [List.length_map]; exact Nat.le_refl _⟩, ?_⟩
    have hp1 := s1 _ _ hp
    have nD : D ≠ p := (ne_of_none hp hD).symm
    refine ⟨_, rfl, p, CN, dx, _, rfl, hp1, X.clN, X.nTaken, (by show 0 < 1000; decide), ?_⟩
    refine ⟨_, rfl, p, CN, dx, _, rfl, upd_same, X.clN, X.nMany, (by show 1 < 1000; decide), ?_⟩
    rw [upd_upd]
    refine q _ D (fun b o n hb => ?_) hD ⟨upd_same, kvs, ?_, hall⟩
    · rw [upd_ne n]
      exact s1 _ _ hb
    · rw [upd_ne nD]
      exact hk
/-! ### one_more -/
def spMore (CN : Addr) : Sp := fun vs H Q _ => ∃ (p dx td : Addr) (tk : List Str) (m : Nat), vs = [.ref p] ∧ NWAt CN H p dx td tk m ∧ m + tk.length + 2 < 26 ^ 9 ∧
  ∀ w m', NwR tk m w m' → Q (.str w) (upd H p (.ins CN dx (fsN (.ref td) (.int (m' : Int)))))
abbrev sMore : Stmt := inClass (top 12) 1
theorem scMore : FnScope ["self", "word"] ["self"] (defScope sMore) := ⟨rfl, rfl, rfl, by decide +kernel, rfl, by decide +kernel, by decide +kernel⟩
theorem ok_more (X : TxN K mg CN CT) {f f1 : Addr} {fd d1 : FuncData} (F : Fun K "one_more" "NewWords.one_more" sMore f fd) (Gword_of : FnOk P w K mg base CX0 1 f1 d1 ["k"] spWordOf) (Rword_of : Ref K mg "word_of" f1 d1 ["k"]) : FnOk P w K mg base CX0 2 f fd ["self"] (spMore CN) := by
  refine F.ok scMore (fun vs H Q E h => ?_) (fun cdv A outer s H vs Q E hr h => ?_)
  · obtain ⟨p, dx, td, tk, m, rfl, _⟩ := h
    rfl
  obtain ⟨p, dx, td, tk, m, rfl, hN, hb, q⟩ := h
  refine ⟨_, (pss_cons (ps_set (i := 1) scMore.nd rfl (Or.inl rfl) (pe_call Gword_of (hr.mono (by omega)) rfl Rword_of.m Rword_of.k Rword_of.b .nil pass0 (pa_cons (pe_fld (pv 0) rfl) pa_nil)))
    (pss_cons (ps_fldaug (pv 0) pe_int in_add)
    (pss_cons (ps_while PassesOwn.never (pt_cmp (pc_din (hu_of hr) (pv 1) (pe_fld (pv 0) rfl))) (pss_cons (ps_set (i := 1) scMore.nd rfl (Or.inl rfl) (pe_call Gword_of (hr.mono (by omega)) rfl Rword_of.m Rword_of.k Rword_of.b .nil pass0 (pa_cons (pe_fld (pv 0) rfl) pa_nil)))
    (pss_one (ps_fldaug (pv 0) pe_int in_add))))
    (pss_one (ps_ret (pv 1)))))), ?_⟩
  obtain ⟨k0, hk1, hk2, hk3⟩ := free_word tk m
  have step : ∀ (i : Nat), putF "many" (.int ((i : Int) + 1)) (fsN (.ref td) (.int (i : Int))) = fsN (.ref td) (.int ((i + 1 : Nat) : Int)) := fun i => by
    rw [n_many]
    rfl
  refine ⟨_, rfl, p, CN, dx, _, _, rfl, hN.ob, X.clN, X.nMany, rfl, m, rfl, by omega, ?_⟩
  refine ⟨_, rfl, p, CN, dx, _, _, rfl, hN.ob, X.clN, X.nMany, rfl, _, _, rfl, rfl, _, _, hN.ob, (by show 2 < 1000; decide), ?_⟩
  rw [step]
  refine ⟨fun μ σ H' => ∃ i : Nat, m ≤ i ∧ i ≤ k0 ∧ σ = [some (.ref p), some (.str (wordOf i))] ∧ upd H p (.ins CN dx (fsN (.ref td) (.int ((i + 1 : Nat) : Int)))) = H' ∧ k0 - i = μ, ⟨_, m, Nat.le_refl _, hk1, rfl, rfl, rfl⟩, ?_⟩
  rintro μ σ H' ⟨i, h1, h2, rfl, rfl, rfl⟩
  have hNi := hN.put (i + 1)
  obtain ⟨kvs, ht1, ht2⟩ := hNi.tk
  refine ⟨_, rfl, _, rfl, p, CN, dx, _, _, rfl, hNi.ob, X.clN, X.nTaken, rfl, td, _, rfl, DGet.k (k := Sum.inr (wordOf i)) ht1, _, rfl, ?_⟩
  rw [ht2]
  by_cases c : wordOf i ∈ tk
  · have hlt : i < k0 := by
      rcases Nat.lt_or_ge i k0 with z | z
      · exact z
      · have : i = k0 := by omega
        subst this
        exact absurd c hk3
    refine itT (decide_eq_true c) ⟨fun σ' H' => ∃ m', m' < k0 - i ∧ ∃ i : Nat, m ≤ i ∧ i ≤ k0 ∧ σ' = [some (.ref p), some (.str (wordOf i))] ∧ upd H p (.ins CN dx (fsN (.ref td) (.int ((i + 1 : Nat) : Int)))) = H' ∧ k0 - i = m', fun _ _ z => z, ?_⟩
    refine ⟨_, rfl, p, CN, dx, _, _, rfl, hNi.ob, X.clN, X.nMany, rfl, i + 1, rfl, by omega, ?_⟩
    refine ⟨_, rfl, p, CN, dx, _, _, rfl, hNi.ob, X.clN, X.nMany, rfl, _, _, rfl, rfl, _, _, hNi.ob, (by show 2 < 1000; decide), ?_⟩
    rw [step, upd_upd]
    exact ⟨k0 - (i + 1), by omega, i + 1, by omega, by omega, rfl, rfl, rfl⟩
  · refine itF (decide_eq_false c) ⟨_, rfl, q _ (i + 1) ⟨i, h1, by omega, rfl, c, rfl⟩⟩
end
end KB

namespace KB
open PySem L2 HT

/-! ### jobs, leads and what is made, as they stand -/
def JbA (H : Hp) (q : Addr) : Jb → Prop
  | .row => H q = some (.tup [.str "row"])
  | .done t j => ∃ b, H q = some (.tup [.str "done", .ref b, .str j]) ∧ At H t b
  | .put t x => ∃ b, H q = some (.tup [.str "put", .ref b, .str x]) ∧ At H t b
  | .simple t => ∃ b, H q = some (.tup [.str "simple", .ref b]) ∧ At H t b
  | .known t => ∃ b, H q = some (.tup [.str "known", .ref b]) ∧ At H t b
  | .close => H q = some (.tup [.str "close"])
  | .lett x => H q = some (.tup [.str "let", .str x])
  | .tell x => H q = some (.tup [.str "tell", .str x])
  | .post j x => H q = some (.tup [.str "post", .str j, .str x])
  | .ask f n j => H q = some (.tup [.str "ask", .str f, .int (n : Int), .str j])
  | .give j => H q = some (.tup [.str "give", .str j])
  | .iff => H q = some (.tup [.str "if"])
  | .op l => H q = some (.tup [.str (if l then "less" else "plus")])
def JbV (H : Hp) (j : Jb) (v : V) : Prop := ∃ q, v = .ref q ∧ JbA H q j
theorem JbA.tk {H H' : Hp} (e : TK H H') {q : Addr} {j : Jb} (h : JbA H q j) : JbA H' q j := by
  cases j with
  | done t j => obtain ⟨b, h1, h2⟩ := h; exact ⟨b, e _ _ h1, h2.tk e⟩
  | put t x => obtain ⟨b, h1, h2⟩ := h; exact ⟨b, e _ _ h1, h2.tk e⟩
  | simple t => obtain ⟨b, h1, h2⟩ := h; exact ⟨b, e _ _ h1, h2.tk e⟩
  | known t => obtain ⟨b, h1, h2⟩ := h; exact ⟨b, e _ _ h1, h2.tk e⟩
  | _ => exact e _ _ h
theorem JbV.tk {H H' : Hp} (e : TK H H') {j : Jb} {v : V} (h : JbV H j v) : JbV H' j v := let ⟨q, e1, h1⟩ := h; ⟨q, e1, h1.tk e⟩
def LdV (H : Hp) (l : Ld) (v : V) : Prop := ∃ q b, v = .ref q ∧ (match l with
  | .lett x s => H q = some (.tup [.str "let", .str x, .ref b]) ∧ At H s b
  | .tell x s => H q = some (.tup [.str "tell", .str x, .ref b]) ∧ At H s b
  | .post j x u => H q = some (.tup [.str "post", .str j, .str x, .ref b]) ∧ PAt H u b)
theorem LdV.tk {H H' : Hp} (e : TK H H') {l : Ld} {v : V} (h : LdV H l v) : LdV H' l v := by
  obtain ⟨q, b, e1, h1⟩ := h
  refine ⟨q, b, e1, ?_⟩
  cases l with
  | lett x s => exact ⟨e _ _ h1.1, h1.2.tk e⟩
  | tell x s => exact ⟨e _ _ h1.1, h1.2.tk e⟩
  | post j x u => exact ⟨e _ _ h1.1, PAt.tk e h1.2⟩
def GtV (H : Hp) (g : Gt) (v : V) : Prop := ∃ b, v = .ref b ∧ (match g with | .t s => At H s b | .p q => PAt H q b)
theorem GtV.tk {H H' : Hp} (e : TK H H') {g : Gt} {v : V} (h : GtV H g v) : GtV H' g v := by
  obtain ⟨b, e1, h1⟩ := h
  refine ⟨b, e1, ?_⟩
  cases g with
  | t s => exact At.tk e h1
  | p q => exact PAt.tk e h1
theorem all2_fnR {H : Hp} : ∀ {n : Nat} {k : _root_.Fin n → Tm} {ys : _root_.Fin n → Addr}, (∀ i, At H (k i) (ys i)) → All2 (RefV H) (List.ofFn k) (Rfs ys)
  | 0, _, _, _ => trivial
  | n + 1, k, ys, h => by
    unfold Rfs
    rw [List.ofFn_succ, List.ofFn_succ]
    exact ⟨⟨ys 0, rfl, h 0⟩, all2_fnR (k := fun i => k i.succ) (ys := fun i => ys i.succ) fun i => h i.succ⟩
theorem At.kids {H : Hp} {t : Tm} {a : Addr} (h : At H t a) : ∃ xs, Lay H a (hdT t) xs ∧ All2 (RefV H) (kidsT t) xs := by
  cases t with
  | mk hd n k =>
    obtain ⟨ys, l, r⟩ := h
    exact ⟨Rfs ys, l, all2_fnR r⟩
theorem At.ar {H : Hp} {t : Tm} {a : Addr} (h : At H t a) : arN t := by
  obtain ⟨xs, l, k⟩ := h.kids
  unfold arN
  rw [← k.len]
  exact l.ar
theorem all2_one {α : Type} {R : α → V → Prop} {a : α} {vs : List V} (h : All2 R [a] vs) : ∃ v, vs = [v] ∧ R a v := by
  match vs, h with
  | [v], ⟨h1, _⟩ => exact ⟨v, rfl, h1⟩
theorem all2_two {α : Type} {R : α → V → Prop} {a b : α} {vs : List V} (h : All2 R [a, b] vs) : ∃ v w, vs = [v, w] ∧ R a v ∧ R b w := by
  match vs, h with
  | [v, w], ⟨h1, h2, _⟩ => exact ⟨v, w, rfl, h1, h2⟩
theorem all2_three {α : Type} {R : α → V → Prop} {a b c : α} {vs : List V} (h : All2 R [a, b, c] vs) : ∃ v w x, vs = [v, w, x] ∧ R a v ∧ R b w ∧ R c x := by
  match vs, h with
  | [v, w, x], ⟨h1, h2, h3, _⟩ => exact ⟨v, w, x, rfl, h1, h2, h3⟩
theorem at3 {x y z u : V} {r : List V} : atI (x :: y :: z :: u :: r) 3 = some u := at_of (j := 3) rfl rfl
section
variable {P : Program} {w : World} {K : PySem.W.Frag} {mg : Str → Option Value} {base : Heap} {CN CT : Addr}
/-! ### jobs_to_end -/
def spJend : Sp := fun vs H Q _ => ∃ (a : Addr) (t : Tm) (j : Str), vs = [.ref a, .str j] ∧ At H t a ∧ ∀ r H' us, H r = none → Same H H' → H' r = some (.lst us) → All2 (JbV H') (endJ t j) us → Q (.ref r) H'
abbrev sjobs_to_end : Stmt := top 16
theorem scjobs_to_end : FnScope ["term", "j", "part", "sides"] ["term", "j"] (defScope sjobs_to_end) := ⟨rfl, rfl, rfl, by decide +kernel, rfl, by decide +kernel, by decide +kernel⟩
theorem hs_ask {h : Hd} (e : hs h = "ask") : ∃ f, h = .ask f := by
  cases h <;> dsimp only [hs] at e <;> first | exact ⟨_, rfl⟩ | exact absurd e (by decide)
theorem hs_iff {h : Hd} (e : hs h = "if") : h = .iff := by
  cases h <;> dsimp only [hs] at e <;> first | rfl | exact absurd e (by decide)
theorem hs_let {h : Hd} (e : hs h = "let") : ∃ x, h = .lett x := by
  cases h <;> dsimp only [hs] at e <;> first | exact ⟨_, rfl⟩ | exact absurd e (by decide)
theorem hs_tell {h : Hd} (e : hs h = "tell") : h = .tell := by
  cases h <;> dsimp only [hs] at e <;> first | rfl | exact absurd e (by decide)
theorem endJ_plain {t : Tm} {j : Str} (h1 : hs (hdT t) ≠ "ask") (h2 : hs (hdT t) ≠ "if") : endJ t j = [.simple t, .give j] := by
  unfold endJ
  cases hh : hdT t with
  | ask f => rw [hh] at h1; exact absurd rfl h1
  | iff => rw [hh] at h2; exact absurd rfl h2
  | _ => rfl
theorem ok_jend (T : Txt K mg) {f : Addr} {fd : FuncData} (F : Fun K "jobs_to_end" "jobs_to_end" sjobs_to_end f fd) : FnOk P w K mg base CX0 1 f fd ["term", "j"] spJend := by
  refine F.ok scjobs_to_end (fun vs H Q E h => ?_) (fun cdv A outer s H vs Q E hr h => ?_)
  · obtain ⟨a, t, j, rfl, _⟩ := h
    rfl
  obtain ⟨a, t, j, rfl, hA, q⟩ := h
  refine ⟨_, (pss_cons (ps_if (pt_cmpR op_eq (pe_ix ix_tup (pv 0) pe_int (fun _ _ => rfl)) pe_str (nomark _)) (pss_one (ps_ret (pe_lst (StX.pa_star (pe_lc (own := [("part", 2)]) (g := gName 2) (by rfl) scjobs_to_end.nd (pi_tup (pe_ix ix_tup (pv 0) pe_int (fun _ _ => rfl))) (blkOk_by (own := [("part", 2)]) (N := ["term", "j", "part", "sides"]) (sc := defScope sjobs_to_end) (by decide +kernel)) (fun _ _ _ _ _ => (pg_name (i := 2) scjobs_to_end.nd rfl (Or.inl rfl))) (fun _ _ _ _ _ => pts_nil) (fun _ _ _ _ _ => (pe_tup (pa_cons pe_str (pa_cons (pv 2) pa_nil))))) (pa_cons (pe_tup (pa_cons pe_str (pa_cons (pe_ix ix_tup (pv 0) pe_int (fun _ _ => rfl)) (pa_cons (pe_callB call_len_seq (by rfl) T.m_len PySem.boot_len (pa_cons (pe_ix ix_tup (pv 0) pe_int (fun _ _ => rfl)) pa_nil)) (pa_cons (pv 1) pa_nil))))) pa_nil))))) pss_nil)
    (pss_cons (ps_if (pt_cmpR op_eq (pe_ix ix_tup (pv 0) pe_int (fun _ _ => rfl)) pe_str (nomark _)) (pss_cons (ps_set (i := 3) scjobs_to_end.nd rfl (Or.inl rfl) (pe_lst (pa_cons (pe_tup (pa_cons pe_str pa_nil)) (pa_cons (pe_tup (pa_cons pe_str (pa_cons (pe_ix ix_tup (pv 0) pe_int (fun _ _ => rfl)) (pa_cons (pv 1) pa_nil)))) (pa_cons (pe_tup (pa_cons pe_str pa_nil)) (pa_cons (pe_tup (pa_cons pe_str (pa_cons (pe_ix ix_tup (pv 0) pe_int (fun _ _ => rfl)) (pa_cons (pv 1) pa_nil)))) pa_nil))))))
    (pss_one (ps_ret (pe_lst (pa_cons (pe_tup (pa_cons pe_str (pa_cons (pe_ix ix_tup (pv 0) pe_int (fun _ _ => rfl)) pa_nil))) (StX.pa_star (pv 3) (pa_cons (pe_tup (pa_cons pe_str pa_nil)) pa_nil))))))) pss_nil)
    (pss_one (ps_ret (pe_lst (pa_cons (pe_tup (pa_cons pe_str (pa_cons (pv 0) pa_nil))) (pa_cons (pe_tup (pa_cons pe_str (pa_cons (pv 1) pa_nil))) pa_nil))))))), ?_⟩
  obtain ⟨xs, l, kx⟩ := hA.kids
  obtain ⟨r0, hd⟩ := l.head
  have hlk := kx.len
  refine ⟨_, rfl, a, _, _, _, rfl, rfl, SqT.of hd, at0, rfl, _, rfl, ?_⟩
  refine ite2 (fun c => ?_) (fun c => ?_)
  · obtain ⟨g, hh⟩ := hs_ask (V.str.inj (of_decide_eq_true c))
    have eE : endJ t j = (kidsT t).map Jb.simple ++ [.ask g (kidsT t).length j] := by
      unfold endJ
      rw [hh]
    rw [eE] at q
    rw [hh] at l
    obtain ⟨l4, ap, la, lp⟩ := l
    refine ⟨_, rfl, a, _, _, _, rfl, rfl, SqT.of la, at2, ap, rfl, ⟨_, SqT.of lp⟩, fun D hD => lc_tup (K := K) (a := ap) (xs := xs) (fun i H' => Same H H' ∧ ∃ acc, H' D = some (.lst acc) ∧ All2 (JbV H') (((kidsT t).take i).map Jb.simple) acc) ⟨same_new hD _, [], upd_same, trivial⟩ ?_ ?_ ?_⟩
    · rintro i H' _ ⟨s1, _⟩
      exact SqT.of (s1 _ _ lp)
    · rintro i x H1 hx ⟨s1, acc, h1, k1⟩
      obtain ⟨u, hu, b, rfl, hb⟩ := kx.get hx
      have hil := (List.getElem?_eq_some_iff.mp hx).1
      refine ⟨rfl, ?_⟩
      dsimp only [tYes]
      refine iteT ⟨_, rfl, sz (by show 2 ≤ 100000; decide), fun t1 ht1 => ?_⟩
      have s2 := same_new ht1 (.tup [.str "simple", .ref b])
      have h2 := s2 _ _ h1
      have hal := k1.len
      rw [List.length_map, List.length_take] at hal
      refine ⟨acc, h2, Nat.lt_of_le_of_lt (m := 1000) (by omega) (by decide), same_mut (s1.trans s2) hD, _, upd_same, ?_⟩
      have tk := tk_put (o := .lst (acc ++ [.ref t1])) h2
      obtain ⟨hj, hj2⟩ := List.getElem?_eq_some_iff.mp hu
      rw [List.take_succ_eq_append_getElem hj, hj2, List.map_append]
      exact (k1.imp fun _ _ z => JbV.tk ((tk_same s2).trans tk) z).app ⟨⟨t1, rfl, b, tk _ _ upd_same, hb.tk ((tk_same (s1.trans s2)).trans tk)⟩, trivial⟩
    · rintro H1 ⟨s1, acc, h1, k1⟩
      rw [hlk, List.take_length] at k1
      have hal := k1.len
      rw [List.length_map] at hal
      refine ⟨D, acc, rfl, .inr (SqL.of h1), _, rfl, a, _, _, _, rfl, rfl, SqT.of (s1 _ _ la), at1, _, rfl, a, _, _, _, rfl, rfl, SqT.of (s1 _ _ la), at2, ap, _, rfl, .inr (SqT.of (s1 _ _ lp)), _, rfl, sz (by show 4 ≤ 100000; decide), fun t2 ht2 => ?_⟩
      rw [hlk]
      have s2 := same_new ht2 (.tup [.str "ask", .str g, .int ((kidsT t).length : Int), .str j])
      refine ⟨sz (by rw [List.length_append, List.length_singleton]; omega), fun r hr2 => ?_⟩
      have s3 := same_new hr2 (.lst (acc ++ [.ref t2]))
      have s12 := s1.trans s2
      refine q r _ _ (s12.free hr2) (s12.trans s3) upd_same ?_
      exact (k1.imp fun _ _ z => JbV.tk (tk_same (s2.trans s3)) z).app ⟨⟨t2, rfl, s3 _ _ upd_same⟩, trivial⟩
  refine ⟨_, rfl, a, _, _, _, rfl, rfl, SqT.of hd, at0, rfl, _, rfl, ?_⟩
  refine ite2 (fun c2 => ?_) (fun c2 => ?_)
  · have hh := hs_iff (V.str.inj (of_decide_eq_true c2))
    rw [hh] at l
    obtain ⟨u1, u2, u3, e3⟩ := three_of (show (kidsT t).length = 3 by rw [← hlk]; exact l.1)
    have eE : endJ t j = [.simple u1, .row, .done u2 j, .row, .done u3 j, .iff] := by
      unfold endJ
      rw [hh, e3]
    rw [eE] at q
    rw [e3] at kx
    obtain ⟨v1, v2, v3, rfl, ⟨b1, rfl, g1⟩, ⟨b2, rfl, g2⟩, ⟨b3, rfl, g3⟩⟩ := all2_three kx
    have la : H a = some (.tup [.str "if", .ref b1, .ref b2, .ref b3]) := l.2
    refine ⟨sz (by show 1 ≤ 100000; decide), fun t1 ht1 => ?_⟩
    have s1 := same_new ht1 (.tup [.str "row"])
    refine ⟨_, rfl, a, _, _, _, rfl, rfl, SqT.of (s1 _ _ la), at2, _, rfl, sz (by show 3 ≤ 100000; decide), fun t2 ht2 => ?_⟩
    have s2 := same_new ht2 (.tup [.str "done", .ref b2, .str j])
    refine ⟨sz (by show 1 ≤ 100000; decide), fun t3 ht3 => ?_⟩
    have s3 := same_new ht3 (.tup [.str "row"])
    refine ⟨_, rfl, a, _, _, _, rfl, rfl, SqT.of ((s1.trans (s2.trans s3)) _ _ la), at3, _, rfl, sz (by show 3 ≤ 100000; decide), fun t4 ht4 => ?_⟩
    have s4 := same_new ht4 (.tup [.str "done", .ref b3, .str j])
    refine ⟨sz (by show 4 ≤ 100000; decide), fun sl hsl => ?_⟩
    have s5 := same_new hsl (.lst [.ref t1, .ref t2, .ref t3, .ref t4])
    have s15 := s1.trans (s2.trans (s3.trans (s4.trans s5)))
    refine ⟨_, rfl, a, _, _, _, rfl, rfl, SqT.of (s15 _ _ la), at1, sz (by show 2 ≤ 100000; decide), fun t5 ht5 => ?_⟩
    have s6 := same_new ht5 (.tup [.str "simple", .ref b1])
    refine ⟨_, rfl, sl, _, rfl, .inr (SqL.of (s6 _ _ upd_same)), sz (by show 1 ≤ 100000; decide), fun t6 ht6 => ?_⟩
    have s7 := same_new ht6 (.tup [.str "if"])
    refine ⟨sz (by show 6 ≤ 100000; decide), fun r hr2 => ?_⟩
    have s8 := same_new hr2 (.lst [.ref t5, .ref t1, .ref t2, .ref t3, .ref t4, .ref t6])
    have s17 := s15.trans (s6.trans s7)
    have s18 := s17.trans s8
    have tkA := tk_same s18
    refine q r _ _ (s17.free hr2) s18 upd_same ⟨⟨t5, rfl, b1, (s7.trans s8) _ _ upd_same, g1.tk tkA⟩, ⟨t1, rfl, (s2.trans (s3.trans (s4.trans (s5.trans (s6.trans (s7.trans s8)))))) _ _ upd_same⟩,
      ⟨t2, rfl, b2, (s3.trans (s4.trans (s5.trans (s6.trans (s7.trans s8))))) _ _ upd_same, g2.tk tkA⟩, ⟨t3, rfl, (s4.trans (s5.trans (s6.trans (s7.trans s8)))) _ _ upd_same⟩, ⟨t4, rfl, b3, (s5.trans (s6.trans (s7.trans s8))) _ _ upd_same, g3.tk tkA⟩, ⟨t6, rfl, s8 _ _ upd_same⟩, trivial⟩
  · have eE : endJ t j = [.simple t, .give j] := endJ_plain (fun z => c (decide_eq_true (congrArg V.str z))) (fun z => c2 (decide_eq_true (congrArg V.str z)))
    rw [eE] at q
    refine ⟨_, rfl, sz (by show 2 ≤ 100000; decide), fun t1 ht1 => ?_⟩
    have s1 := same_new ht1 (.tup [.str "simple", .ref a])
    refine ⟨_, rfl, sz (by show 2 ≤ 100000; decide), fun t2 ht2 => ?_⟩
    have s2 := same_new ht2 (.tup [.str "give", .str j])
    refine ⟨sz (by show 2 ≤ 100000; decide), fun r hr2 => ?_⟩
    have s3 := same_new hr2 (.lst [.ref t1, .ref t2])
    have s13 := s1.trans (s2.trans s3)
    exact q r _ _ ((s1.trans s2).free hr2) s13 upd_same ⟨⟨t1, rfl, a, (s2.trans s3) _ _ upd_same, hA.tk (tk_same s13)⟩, ⟨t2, rfl, s3 _ _ upd_same⟩, trivial⟩
/-! ### put_ahead -/
def spAhead : Sp := fun vs H Q _ => ∃ (la b : Addr) (ls : List V) (r : List Ld) (p : Pt), vs = [.ref la, .ref b] ∧ H la = some (.lst ls) ∧ All2 (LdV H) r ls ∧ PAt H p b ∧ ∀ H' b', Same H H' → PAt H' (putAh r p) b' → Q (.ref b') H'
abbrev sput_ahead : Stmt := top 17
theorem scput_ahead : FnScope ["leads", "part", "lead", "head", "j", "x", "inner"] ["leads", "part"] (defScope sput_ahead) := ⟨rfl, rfl, rfl, by decide +kernel, rfl, by decide +kernel, by decide +kernel⟩
theorem putAh_app (a b : List Ld) (p : Pt) : putAh (a ++ b) p = putAh a (putAh b p) := by
  induction a with
  | nil => rfl
  | cons l r ih => cases l <;> (show _ = _; simp only [List.cons_append, putAh, ih])
theorem ok_ahead (T : Txt K mg) {f : Addr} {fd : FuncData} (F : Fun K "put_ahead" "put_ahead" sput_ahead f fd) : FnOk P w K mg base CX0 1 f fd ["leads", "part"] spAhead := by
  refine F.ok scput_ahead (fun vs H Q E h => ?_) (fun cdv A outer s H vs Q E hr h => ?_)
  · obtain ⟨la, b, ls, r, p, rfl, _⟩ := h
    rfl
  obtain ⟨la, b, ls, r, p, rfl, hl, kl, hb, q⟩ := h
  refine ⟨_, (pss_cons (ps_for PassesOwn.never rfl (RT.pi_revA rfl T.m_reversed (pv 0)) (pg_name (i := 2) scput_ahead.nd rfl (Or.inl rfl)) (pss_one (ps_if (pt_cmpR op_eq (pe_ix ix_tup (pv 2) pe_int (fun _ _ => rfl)) pe_str (nomark _)) (pss_cons (ps_asg (pv 2) (pg_tup rfl (pgs_cons (pg_name (i := 3) scput_ahead.nd rfl (Or.inl rfl)) (pgs_cons (pg_name (i := 4) scput_ahead.nd rfl (Or.inl rfl)) (pgs_cons (pg_name (i := 5) scput_ahead.nd rfl (Or.inl rfl)) (pgs_cons (pg_name (i := 6) scput_ahead.nd rfl (Or.inl rfl)) pgs_nil))))))
    (pss_one (ps_set (i := 1) scput_ahead.nd rfl (Or.inl rfl) (pe_tup (pa_cons (pv 3) (pa_cons (pv 4) (pa_cons (pv 5) (pa_cons (pv 1) (pa_cons (pv 6) pa_nil))))))))) (pss_one (ps_set (i := 1) scput_ahead.nd rfl (Or.inl rfl) (pe_tup (StX.pa_star (pv 2) (pa_cons (pv 1) pa_nil))))))))
    (pss_one (ps_ret (pv 1)))), ?_⟩
  have hlen := kl.len
  refine ⟨_, rfl, la, ls, rfl, .inl ⟨SqL.of hl, ?_⟩⟩
  refine RT.for_Itv (K := K) (a := la) (xs := ls) (fun i σ H' => ∃ b' o2 o3 o4 o5 o6, σ = [some (.ref la), some (.ref b'), o2, o3, o4, o5, o6] ∧ Same H H' ∧ PAt H' (putAh (r.drop (r.length - i)) p) b') ?_ ?_ ?_ ?_
  · refine ⟨b, _, _, _, _, _, rfl, Same.refl _, ?_⟩
    rw [Nat.sub_zero, List.drop_length]
    exact hb
  · rintro i σ H' ⟨b', o2, o3, o4, o5, o6, rfl, s1, _⟩
    exact SqL.of (s1 _ _ hl)
  · rintro i x σ H1 hi hx ⟨b', o2, o3, o4, o5, o6, rfl, s1, h1⟩
    obtain ⟨ld, hld, q1, b1, rfl, g⟩ := kl.get hx
    rw [hlen] at hld hi
    have hj : r.length - 1 - i < r.length := by omega
    have eD : r.drop (r.length - (i + 1)) = ld :: r.drop (r.length - i) := by
      have e1 : r.length - (i + 1) = r.length - 1 - i := by omega
      have e2 : r.length - i = r.length - 1 - i + 1 := by omega
      rw [e1, e2, List.drop_eq_getElem_cons hj]
      congr 1
      rw [List.getElem?_eq_getElem hj] at hld
      exact Option.some.inj hld
    rw [eD]
    cases ld with
    | lett y s =>
      obtain ⟨g1, g2⟩ := g
      refine ⟨_, rfl, q1, _, _, _, rfl, rfl, SqT.of (s1 _ _ g1), at0, rfl, _, rfl, itF rfl ?_⟩
      refine ⟨_, rfl, q1, _, rfl, .inl (SqT.of (s1 _ _ g1)), _, rfl, sz (by show 4 ≤ 100000; decide), fun t1 ht1 => ?_⟩
      have s2 := same_new ht1 (.tup [.str "let", .str y, .ref b1, .ref b'])
      exact ⟨t1, _, _, _, _, _, rfl, s1.trans s2, b1, b', upd_same, g2.tk (tk_same (s1.trans s2)), PAt.tk (tk_same s2) h1⟩
    | tell y s =>
      obtain ⟨g1, g2⟩ := g
      refine ⟨_, rfl, q1, _, _, _, rfl, rfl, SqT.of (s1 _ _ g1), at0, rfl, _, rfl, itF rfl ?_⟩
      refine ⟨_, rfl, q1, _, rfl, .inl (SqT.of (s1 _ _ g1)), _, rfl, sz (by show 4 ≤ 100000; decide), fun t1 ht1 => ?_⟩
      have s2 := same_new ht1 (.tup [.str "tell", .str y, .ref b1, .ref b'])
      exact ⟨t1, _, _, _, _, _, rfl, s1.trans s2, b1, b', upd_same, g2.tk (tk_same (s1.trans s2)), PAt.tk (tk_same s2) h1⟩
    | post j y u =>
      obtain ⟨g1, g2⟩ := g
      refine ⟨_, rfl, q1, _, _, _, rfl, rfl, SqT.of (s1 _ _ g1), at0, rfl, _, rfl, itT rfl ?_⟩
      refine ⟨_, rfl, q1, _, rfl, SqT.of (s1 _ _ g1), rfl, _, _, rfl, _, _, rfl, _, _, rfl, _, _, rfl, rfl, ?_⟩
      refine ⟨_, rfl, _, rfl, _, rfl, _, rfl, _, rfl, sz (by show 5 ≤ 100000; decide), fun t1 ht1 => ?_⟩
      have s2 := same_new ht1 (.tup [.str "post", .str j, .str y, .ref b', .ref b1])
      exact ⟨t1, _, _, _, _, _, rfl, s1.trans s2, b', b1, upd_same, PAt.tk (tk_same s2) h1, PAt.tk (tk_same (s1.trans s2)) g2⟩
  · rintro σ H1 ⟨b', o2, o3, o4, o5, o6, rfl, s1, h1⟩
    rw [hlen, Nat.sub_self, List.drop_zero] at h1
    exact ⟨_, rfl, q H1 b' s1 h1⟩
end
end KB

namespace KB
open PySem L2 HT

/-! ### a turning as it stands -/
structure TuA where
  (p dT nw dN td jl rl gl : Addr)
def RowV (H : Hp) (r : List Ld) (v : V) : Prop := ∃ ra vs, v = .ref ra ∧ H ra = some (.lst vs) ∧ All2 (LdV H) r vs
structure TuAt (CN CT : Addr) (H0 H : Hp) (A : TuA) (tk : List Str) (c : Cg) (ras : List Addr) : Prop where
  ob : H A.p = some (.ins CT A.dT (fsT (.ref A.nw) (.ref A.jl) (.ref A.rl) (.ref A.gl)))
  nw : NWAt CN H A.nw A.dN A.td tk c.m
  js : ∃ js, H A.jl = some (.lst js.reverse) ∧ All2 (JbV H) c.jobs js
  rl : H A.rl = some (.lst (ras.map V.ref).reverse)
  rs : All2 (RowV H) c.rows (ras.map V.ref)
  gs : ∃ gs, H A.gl = some (.lst gs.reverse) ∧ All2 (GtV H) c.got gs
  nd : ras.Nodup
  n1 : A.jl ≠ A.rl
  n2 : A.jl ≠ A.gl
  n3 : A.rl ≠ A.gl
  n4 : A.p ≠ A.nw
  n5 : ∀ x ∈ ras, x ≠ A.jl ∧ x ≠ A.rl ∧ x ≠ A.gl
  sm : Same H0 H
  o1 : H0 A.jl = none
  o2 : H0 A.rl = none
  o3 : H0 A.gl = none
  o4 : H0 A.nw = none
  o5 : ∀ x ∈ ras, H0 x = none
section
variable {CN CT : Addr} {H0 H H' : Hp} {A : TuA} {tk : List Str} {c : Cg} {ras : List Addr}
theorem RowV.mono (e : Same H H') {r : List Ld} {v : V} (h : RowV H r v) : RowV H' r v := by
  obtain ⟨ra, vs, e1, h1, h2⟩ := h
  exact ⟨ra, vs, e1, e _ _ h1, h2.imp fun _ _ z => z.tk (tk_same e)⟩
theorem TuAt.mono (e : Same H H') (h : TuAt CN CT H0 H A tk c ras) : TuAt CN CT H0 H' A tk c ras := by
  obtain ⟨js, j1, j2⟩ := h.js
  obtain ⟨gs, g1, g2⟩ := h.gs
  obtain ⟨kvs, k1, k2⟩ := h.nw.tk
  exact ⟨e _ _ h.ob, ⟨e _ _ h.nw.ob, kvs, e _ _ k1, k2⟩, ⟨js, e _ _ j1, j2.imp fun _ _ z => z.tk (tk_same e)⟩, e _ _ h.rl, h.rs.imp fun _ _ z => z.mono e, ⟨gs, e _ _ g1, g2.imp fun _ _ z => z.tk (tk_same e)⟩, h.nd, h.n1, h.n2, h.n3, h.n4, h.n5, h.sm.trans e, h.o1, h.o2, h.o3, h.o4, h.o5⟩
/-- another address than that of a list -/
theorem TuAt.lst_ne (h : TuAt CN CT H0 H A tk c ras) {x : Addr} {xs : List V} (hx : H x = some (.lst xs)) : A.p ≠ x ∧ A.nw ≠ x ∧ A.td ≠ x := by
  obtain ⟨kvs, k1, k2⟩ := h.nw.tk
  exact ⟨ne_of h.ob hx (by intro z; cases z), ne_of h.nw.ob hx (by intro z; cases z), ne_of k1 hx (by intro z; cases z)⟩
theorem rows_put {x : Addr} {o : HO} {R : List (List Ld)} {ras : List Addr} (tk : TK H (upd H x o)) (n : ∀ y ∈ ras, y ≠ x) (h : All2 (RowV H) R (ras.map V.ref)) : All2 (RowV (upd H x o)) R (ras.map V.ref) := by
  induction ras generalizing R with
  | nil => cases R with
    | nil => trivial
    | cons _ _ => exact h.elim
  | cons a r ih => cases R with
    | nil => exact h.elim
    | cons b R =>
      obtain ⟨⟨ra, vs, e1, h1, h2⟩, h3⟩ := h
      refine ⟨⟨ra, vs, e1, ?_, h2.imp fun _ _ z => z.tk tk⟩, ih (fun y hy => n y (List.mem_cons_of_mem _ hy)) h3⟩
      cases e1
      rw [upd_ne (n a List.mem_cons_self)]
      exact h1
theorem TuAt.setJobs (h : TuAt CN CT H0 H A tk c ras) {J : List Jb} {js' : List V} (k : All2 (JbV H) J js') : TuAt CN CT H0 (upd H A.jl (.lst js'.reverse)) A tk { c with jobs := J } ras := by
  obtain ⟨js, j1, j2⟩ := h.js
  obtain ⟨gs, g1, g2⟩ := h.gs
  obtain ⟨kvs, k1, k2⟩ := h.nw.tk
  obtain ⟨e1, e2, e3⟩ := h.lst_ne j1
  have tkk : TK H (upd H A.jl (.lst js'.reverse)) := tk_put j1
  refine ⟨by rw [upd_ne e1]; exact h.ob, ⟨by rw [upd_ne e2]; exact h.nw.ob, kvs, by rw [upd_ne e3]; exact k1, k2⟩, ⟨js', upd_same, k.imp fun _ _ z => z.tk tkk⟩, by rw [upd_ne h.n1.symm]; exact h.rl, rows_put tkk (fun y hy => (h.n5 y hy).1) h.rs,
    ⟨gs, by rw [upd_ne h.n2.symm]; exact g1, g2.imp fun _ _ z => z.tk tkk⟩, h.nd, h.n1, h.n2, h.n3, h.n4, h.n5, same_mut h.sm h.o1, h.o1, h.o2, h.o3, h.o4, h.o5⟩
theorem TuAt.setGot (h : TuAt CN CT H0 H A tk c ras) {G : List Gt} {gs' : List V} (k : All2 (GtV H) G gs') : TuAt CN CT H0 (upd H A.gl (.lst gs'.reverse)) A tk { c with got := G } ras := by
  obtain ⟨js, j1, j2⟩ := h.js
  obtain ⟨gs, g1, g2⟩ := h.gs
  obtain ⟨kvs, k1, k2⟩ := h.nw.tk
  obtain ⟨e1, e2, e3⟩ := h.lst_ne g1
  have tkk : TK H (upd H A.gl (.lst gs'.reverse)) := tk_put g1
  refine ⟨by rw [upd_ne e1]; exact h.ob, ⟨by rw [upd_ne e2]; exact h.nw.ob, kvs, by rw [upd_ne e3]; exact k1, k2⟩, ⟨js, by rw [upd_ne h.n2]; exact j1, j2.imp fun _ _ z => z.tk tkk⟩, by rw [upd_ne h.n3]; exact h.rl, rows_put tkk (fun y hy => (h.n5 y hy).2.2) h.rs,
    ⟨gs', upd_same, k.imp fun _ _ z => z.tk tkk⟩, h.nd, h.n1, h.n2, h.n3, h.n4, h.n5, same_mut h.sm h.o3, h.o1, h.o2, h.o3, h.o4, h.o5⟩
theorem TuAt.setM (h : TuAt CN CT H0 H A tk c ras) (m' : Nat) : TuAt CN CT H0 (upd H A.nw (.ins CN A.dN (fsN (.ref A.td) (.int (m' : Int))))) A tk { c with m := m' } ras := by
  obtain ⟨js, j1, j2⟩ := h.js
  obtain ⟨gs, g1, g2⟩ := h.gs
  have tkk : TK H (upd H A.nw (.ins CN A.dN (fsN (.ref A.td) (.int (m' : Int))))) := tk_upd h.nw.ob (by intro xs z; cases z)
  have nr : ∀ y ∈ ras, y ≠ A.nw := fun y hy => by
    have : ∀ {R : List (List Ld)} {l : List Addr}, y ∈ l → All2 (RowV H) R (l.map V.ref) → ∃ vs, H y = some (.lst vs) := by
      intro R l
      induction l generalizing R with
      | nil => intro z; cases z
      | cons a r ih =>
        intro z k
        cases R with
        | nil => exact k.elim
        | cons b R =>
          obtain ⟨⟨ra, vs, e1, h1, h2⟩, h3⟩ := k
          cases e1
          rcases List.mem_cons.mp z with z | z
          · subst z; exact ⟨vs, h1⟩
          · exact ih z h3
    obtain ⟨vs, hv⟩ := this hy h.rs
    exact ne_of hv h.nw.ob (by intro z; cases z)
  refine ⟨by rw [upd_ne h.n4]; exact h.ob, h.nw.put m', ⟨js, by rw [upd_ne (h.lst_ne j1).2.1.symm]; exact j1, j2.imp fun _ _ z => z.tk tkk⟩, by rw [upd_ne (h.lst_ne h.rl).2.1.symm]; exact h.rl, rows_put tkk nr h.rs,
    ⟨gs, by rw [upd_ne (h.lst_ne g1).2.1.symm]; exact g1, g2.imp fun _ _ z => z.tk tkk⟩, h.nd, h.n1, h.n2, h.n3, h.n4, h.n5, same_mut h.sm h.o4, h.o1, h.o2, h.o3, h.o4, h.o5⟩
/-- a new row -/
theorem TuAt.pushRow (h : TuAt CN CT H0 H A tk c ras) {ra : Addr} (n : H ra = none) : TuAt CN CT H0 (upd (upd H ra (.lst [])) A.rl (.lst ((ra :: ras).map V.ref).reverse)) A tk { c with rows := [] :: c.rows } (ra :: ras) := by
  have e := same_new n (.lst [])
  have h1 := h.mono e
  obtain ⟨js, j1, j2⟩ := h1.js
  obtain ⟨gs, g1, g2⟩ := h1.gs
  obtain ⟨kvs, k1, k2⟩ := h1.nw.tk
  obtain ⟨e1, e2, e3⟩ := h1.lst_ne h1.rl
  have old : ∀ {x : Addr} {o : HO}, H x = some o → x ≠ ra := fun q => ne_of_none q n
  obtain ⟨js0, j10, _⟩ := h.js
  obtain ⟨gs0, g10, _⟩ := h.gs
  have nr := old h.rl
  have tkk : TK (upd H ra (.lst [])) (upd (upd H ra (.lst [])) A.rl (.lst ((ra :: ras).map V.ref).reverse)) := tk_put h1.rl
  refine ⟨by rw [upd_ne e1]; exact h1.ob, ⟨by rw [upd_ne e2]; exact h1.nw.ob, kvs, by rw [upd_ne e3]; exact k1, k2⟩, ⟨js, by rw [upd_ne h.n1]; exact j1, j2.imp fun _ _ z => z.tk tkk⟩, upd_same,
    ⟨⟨ra, [], rfl, by rw [upd_ne nr.symm]; exact upd_same, trivial⟩, rows_put tkk (fun y hy => (h.n5 y hy).2.1) h1.rs⟩, ⟨gs, by rw [upd_ne h.n3.symm]; exact g1, g2.imp fun _ _ z => z.tk tkk⟩, ?_, h.n1, h.n2, h.n3, h.n4, ?_, same_mut h1.sm h.o2, h.o1, h.o2, h.o3, h.o4, ?_⟩
  · refine List.nodup_cons.mpr ⟨fun z => ?_, h.nd⟩
    have : ∀ {R : List (List Ld)} {l : List Addr}, ra ∈ l → All2 (RowV H) R (l.map V.ref) → False := by
      intro R l
      induction l generalizing R with
      | nil => intro z; cases z
      | cons a r ih =>
        intro z k
        cases R with
        | nil => exact k.elim
        | cons b R =>
          obtain ⟨⟨r2, vs, e1, h1, h2⟩, h3⟩ := k
          cases e1
          rcases List.mem_cons.mp z with z | z
          · subst z
            rw [h1] at n
            cases n
          · exact ih z h3
    exact this z h.rs
  · intro y hy
    rcases List.mem_cons.mp hy with z | z
    · subst z
      exact ⟨(old j10).symm, nr.symm, (old g10).symm⟩
    · exact h.n5 y z
  · intro y hy
    rcases List.mem_cons.mp hy with z | z
    · subst z
      exact h.sm.free n
    · exact h.o5 y z
/-- the last row taken away -/
theorem TuAt.popRow {r : List Ld} {R : List (List Ld)} {ra : Addr} (h : TuAt CN CT H0 H A tk { c with rows := r :: R } (ra :: ras)) : TuAt CN CT H0 (upd H A.rl (.lst (ras.map V.ref).reverse)) A tk { c with rows := R } ras := by
  obtain ⟨js, j1, j2⟩ := h.js
  obtain ⟨gs, g1, g2⟩ := h.gs
  obtain ⟨kvs, k1, k2⟩ := h.nw.tk
  obtain ⟨e1, e2, e3⟩ := h.lst_ne h.rl
  have tkk : TK H (upd H A.rl (.lst (ras.map V.ref).reverse)) := tk_put h.rl
  exact ⟨by rw [upd_ne e1]; exact h.ob, ⟨by rw [upd_ne e2]; exact h.nw.ob, kvs, by rw [upd_ne e3]; exact k1, k2⟩, ⟨js, by rw [upd_ne h.n1]; exact j1, j2.imp fun _ _ z => z.tk tkk⟩, upd_same,
    rows_put tkk (fun y hy => (h.n5 y (List.mem_cons_of_mem _ hy)).2.1) h.rs.2, ⟨gs, by rw [upd_ne h.n3.symm]; exact g1, g2.imp fun _ _ z => z.tk tkk⟩, (List.nodup_cons.mp h.nd).2, h.n1, h.n2, h.n3, h.n4, fun y hy => h.n5 y (List.mem_cons_of_mem _ hy), same_mut h.sm h.o2, h.o1, h.o2, h.o3, h.o4, fun y hy => h.o5 y (List.mem_cons_of_mem _ hy)⟩
/-- a lead put behind the last row's -/
theorem TuAt.addLead {r : List Ld} {R : List (List Ld)} {ra : Addr} {vs : List V} {l : Ld} {v : V} (h : TuAt CN CT H0 H A tk { c with rows := r :: R } (ra :: ras)) (hv : H ra = some (.lst vs)) (kv : All2 (LdV H) r vs) (kl : LdV H l v) :
    TuAt CN CT H0 (upd H ra (.lst (vs ++ [v]))) A tk { c with rows := (r ++ [l]) :: R } (ra :: ras) := by
  obtain ⟨js, j1, j2⟩ := h.js
  obtain ⟨gs, g1, g2⟩ := h.gs
  obtain ⟨kvs, k1, k2⟩ := h.nw.tk
  obtain ⟨e1, e2, e3⟩ := h.lst_ne hv
  obtain ⟨a1, a2, a3⟩ := h.n5 ra List.mem_cons_self
  have tkk : TK H (upd H ra (.lst (vs ++ [v]))) := tk_put hv
  have nd := List.nodup_cons.mp h.nd
  refine ⟨by rw [upd_ne e1]; exact h.ob, ⟨by rw [upd_ne e2]; exact h.nw.ob, kvs, by rw [upd_ne e3]; exact k1, k2⟩, ⟨js, by rw [upd_ne a1.symm]; exact j1, j2.imp fun _ _ z => z.tk tkk⟩, by rw [upd_ne a2.symm]; exact h.rl,
    ⟨⟨ra, vs ++ [v], rfl, upd_same, (kv.imp fun _ _ z => z.tk tkk).app ⟨kl.tk tkk, trivial⟩⟩, rows_put tkk (fun y hy z => nd.1 (z ▸ hy)) h.rs.2⟩, ⟨gs, by rw [upd_ne a3.symm]; exact g1, g2.imp fun _ _ z => z.tk tkk⟩, h.nd, h.n1, h.n2, h.n3, h.n4, h.n5, same_mut h.sm (h.o5 ra List.mem_cons_self), h.o1, h.o2, h.o3, h.o4, h.o5⟩
end
theorem l_new (a b c d : V) : (fsT a b c d).lookup ("new_words" : Str) = some a := by rfl
theorem l_jobs (a b c d : V) : (fsT a b c d).lookup ("jobs" : Str) = some b := by rfl
theorem l_rows (a b c d : V) : (fsT a b c d).lookup ("rows" : Str) = some c := by rfl
theorem l_got (a b c d : V) : (fsT a b c d).lookup ("got" : Str) = some d := by rfl
section
variable {P : Program} {w : World} {K : PySem.W.Frag} {mg : Str → Option Value} {base : Heap} {CN CT : Addr}
/-! ### jobs_done -/
def spJdone : Sp := fun vs H Q _ => ∃ (p a : Addr) (t : Tm) (j : Str), vs = [.ref p, .ref a, .str j] ∧ At H t a ∧ ∀ r H' us, H r = none → Same H H' → H' r = some (.lst us) → All2 (JbV H') (doneJ t j) us → Q (.ref r) H'
abbrev sJdone : Stmt := inClass (top 18) 3
theorem scJdone : FnScope ["self", "term", "j"] ["self", "term", "j"] (defScope sJdone) := ⟨rfl, rfl, rfl, by decide +kernel, rfl, by decide +kernel, by decide +kernel⟩
theorem ok_jdone {f f1 : Addr} {fd d1 : FuncData} (F : Fun K "jobs_done" "Turning.jobs_done" sJdone f fd) (Gjobs_to_end : FnOk P w K mg base CX0 1 f1 d1 ["term", "j"] spJend) (Rjobs_to_end : Ref K mg "jobs_to_end" f1 d1 ["term", "j"]) : FnOk P w K mg base CX0 2 f fd ["self", "term", "j"] spJdone := by
  refine F.ok scJdone (fun vs H Q E h => ?_) (fun cdv A outer s H vs Q E hr h => ?_)
  · obtain ⟨p, a, t, j, rfl, _⟩ := h
    rfl
  obtain ⟨p, a, t, j, rfl, hA, q⟩ := h
  refine ⟨_, (pss_cons (ps_if (pt_cmpR op_eq (pe_ix ix_tup (pv 1) pe_int (fun _ _ => rfl)) pe_str (nomark _)) (pss_one (ps_ret (pe_lst (pa_cons (pe_tup (pa_cons pe_str (pa_cons (pe_ix ix_tup (pv 1) pe_int (fun _ _ => rfl)) (pa_cons (pe_ix ix_tup (pv 1) pe_int (fun _ _ => rfl)) pa_nil)))) (pa_cons (pe_tup (pa_cons pe_str (pa_cons (pe_ix ix_tup (pv 1) pe_int (fun _ _ => rfl)) (pa_cons (pv 2) pa_nil)))) pa_nil))))) pss_nil)
    (pss_one (ps_ret (pe_lst (StX.pa_star (pe_call Gjobs_to_end (hr.mono (by omega)) rfl Rjobs_to_end.m Rjobs_to_end.k Rjobs_to_end.b .nil pass0 (pa_cons (pv 1) (pa_cons (pv 2) pa_nil))) (pa_cons (pe_tup (pa_cons pe_str pa_nil)) pa_nil)))))), ?_⟩
  obtain ⟨xs, l, kx⟩ := hA.kids
  obtain ⟨r0, hd⟩ := l.head
  have hlk := kx.len
  refine ⟨_, rfl, a, _, _, _, rfl, rfl, SqT.of hd, at0, rfl, _, rfl, ?_⟩
  refine ite2 (fun c => ?_) (fun c => ?_)
  · obtain ⟨x, hh⟩ := hs_let (V.str.inj (of_decide_eq_true c))
    rw [hh] at l
    obtain ⟨u1, u2, e2⟩ := two_of (show (kidsT t).length = 2 by rw [← hlk]; exact l.1)
    have eE : doneJ t j = [.put u1 x, .done u2 j] := by
      unfold doneJ
      rw [hh, e2]
    rw [eE] at q
    rw [e2] at kx
    obtain ⟨v1, v2, rfl, ⟨b1, rfl, g1⟩, ⟨b2, rfl, g2⟩⟩ := all2_two kx
    have la : H a = some (.tup [.str "let", .str x, .ref b1, .ref b2]) := l.2
    refine ⟨_, rfl, a, _, _, _, rfl, rfl, SqT.of la, at2, _, rfl, a, _, _, _, rfl, rfl, SqT.of la, at1, sz (by show 3 ≤ 100000; decide), fun t1 ht1 => ?_⟩
    have s1 := same_new ht1 (.tup [.str "put", .ref b1, .str x])
    refine ⟨_, rfl, a, _, _, _, rfl, rfl, SqT.of (s1 _ _ la), at3, _, rfl, sz (by show 3 ≤ 100000; decide), fun t2 ht2 => ?_⟩
    have s2 := same_new ht2 (.tup [.str "done", .ref b2, .str j])
    refine ⟨sz (by show 2 ≤ 100000; decide), fun r hr2 => ?_⟩
    have s3 := same_new hr2 (.lst [.ref t1, .ref t2])
    have s13 := s1.trans (s2.trans s3)
    exact q r _ _ ((s1.trans s2).free hr2) s13 upd_same ⟨⟨t1, rfl, b1, (s2.trans s3) _ _ upd_same, g1.tk (tk_same s13)⟩, ⟨t2, rfl, b2, s3 _ _ upd_same, g2.tk (tk_same s13)⟩, trivial⟩
  · have eE : doneJ t j = endJ t j ++ [.close] := by
      unfold doneJ
      cases hh : hdT t with
      | lett x => rw [hh] at c; exact absurd (decide_eq_true rfl) c
      | _ => rfl
    rw [eE] at q
    refine ⟨_, rfl, _, rfl, a, t, j, rfl, hA, fun r1 H1 us1 hr1 s1 h1 k1 => ?_⟩
    have hl1 := len_wJs (endJ t j)
    have hul := k1.len
    refine ⟨r1, us1, rfl, .inr (SqL.of h1), sz (by show 1 ≤ 100000; decide), fun t1 ht1 => ?_⟩
    have s2 := same_new ht1 (.tup [.str "close"])
    have hcn : (endJ t j).length ≤ 10 := by
      have ha := hA.ar
      unfold arN at ha
      unfold endJ
      cases hh : hdT t with
      | ask g =>
        rw [hh] at ha
        have h4 : (kidsT t).length ≤ 4 := ha
        show ((kidsT t).map Jb.simple ++ [Jb.ask g (kidsT t).length j]).length ≤ 10
        rw [List.length_append, List.length_map, List.length_singleton]
        omega
      | iff =>
        rw [hh] at ha
        obtain ⟨u1, u2, u3, e3⟩ := three_of (show (kidsT t).length = 3 from ha)
        rw [e3]
        show 6 ≤ 10
        decide
      | _ => show 2 ≤ 10; decide
    refine ⟨sz (by rw [List.length_append, List.length_singleton]; omega), fun r hr2 => ?_⟩
    have s3 := same_new hr2 (.lst (us1 ++ [.ref t1]))
    have s12 := s1.trans s2
    exact q r _ _ (s12.free hr2) (s12.trans s3) upd_same ((k1.imp fun _ _ z => JbV.tk (tk_same (s2.trans s3)) z).app ⟨⟨t1, rfl, s3 _ _ upd_same⟩, trivial⟩)
theorem endJ_len {t : Tm} {j : Str} (ha : arN t) : (endJ t j).length ≤ 10 := by
  unfold arN at ha
  unfold endJ
  cases hh : hdT t with
  | ask g =>
    rw [hh] at ha
    have h4 : (kidsT t).length ≤ 4 := ha
    show ((kidsT t).map Jb.simple ++ [Jb.ask g (kidsT t).length j]).length ≤ 10
    rw [List.length_append, List.length_map, List.length_singleton]
    omega
  | iff =>
    rw [hh] at ha
    obtain ⟨u1, u2, u3, e3⟩ := three_of (show (kidsT t).length = 3 from ha)
    rw [e3]
    show 6 ≤ 10
    decide
  | _ => show 2 ≤ 10; decide
/-! ### jobs_put, jobs_simple -/
def spJput (CN CT : Addr) : Sp := fun vs H Q _ => ∃ (H0 : Hp) (A : TuA) (tk : List Str) (c : Cg) (ras : List Addr) (a : Addr) (t : Tm) (x : Str), vs = [.ref A.p, .ref a, .str x] ∧ TuAt CN CT H0 H A tk c ras ∧ At H t a ∧ c.m + tk.length + 2 < 26 ^ 9 ∧
  ∀ r H' us w m', (wordH (hdT t) = true → NwR tk c.m w m') → (wordH (hdT t) = false → m' = c.m) → TK H H' → TuAt CN CT H0 H' A tk { c with m := m' } ras → H' r = some (.lst us) → All2 (JbV H') (putJ t x w) us → Q (.ref r) H'
abbrev sJput : Stmt := inClass (top 18) 4
theorem scJput : FnScope ["self", "term", "x", "j"] ["self", "term", "x"] (defScope sJput) := ⟨rfl, rfl, rfl, by decide +kernel, rfl, by decide +kernel, by decide +kernel⟩
theorem eta_m (c : Cg) : ({ c with m := c.m } : Cg) = c := rfl
theorem ok_jput (X : TxN K mg CN CT) {f f1 fm : Addr} {fd d1 dm : FuncData} (F : Fun K "jobs_put" "Turning.jobs_put" sJput f fd) (Gjobs_to_end : FnOk P w K mg base CX0 1 f1 d1 ["term", "j"] spJend) (Rjobs_to_end : Ref K mg "jobs_to_end" f1 d1 ["term", "j"])
    (GM : FnOk P w K mg base CX0 2 fm dm ["self"] (spMore CN)) (bM : Binds K dm ["self"] []) (mM : Meth K CN "one_more" fm) : FnOk P w K mg base CX0 3 f fd ["self", "term", "x"] (spJput CN CT) := by
  refine F.ok scJput (fun vs H Q E h => ?_) (fun cdv A outer s H vs Q E hr h => ?_)
  · obtain ⟨H0, A, tk, c, ras, a, t, x, rfl, _⟩ := h
    rfl
  obtain ⟨H0, A, tk, c, ras, a, t, x, rfl, hT, hA, hm, q⟩ := h
  refine ⟨_, (pss_cons (ps_if (pt_cmpR op_eq (pe_ix ix_tup (pv 1) pe_int (fun _ _ => rfl)) pe_str (nomark _)) (pss_one (ps_ret (pe_lst (pa_cons (pe_tup (pa_cons pe_str (pa_cons (pe_ix ix_tup (pv 1) pe_int (fun _ _ => rfl)) (pa_cons (pe_ix ix_tup (pv 1) pe_int (fun _ _ => rfl)) pa_nil)))) (pa_cons (pe_tup (pa_cons pe_str (pa_cons (pe_ix ix_tup (pv 1) pe_int (fun _ _ => rfl)) (pa_cons (pv 2) pa_nil)))) pa_nil))))) pss_nil)
    (pss_cons (ps_if (pt_cmpR op_in_seq (pe_ix ix_tup (pv 1) pe_int (fun _ _ => rfl)) (pe_tup (pa_cons pe_str (pa_cons pe_str pa_nil))) rfl) (pss_cons (ps_set (i := 3) scJput.nd rfl (Or.inl rfl) (pe_meth0 (pe_fld (pv 0) rfl) X.clN mM GM (hr.mono (by omega)) bM .nil pass0))
    (pss_one (ps_ret (pe_lst (StX.pa_star (pe_call Gjobs_to_end (hr.mono (by omega)) rfl Rjobs_to_end.m Rjobs_to_end.k Rjobs_to_end.b .nil pass0 (pa_cons (pv 1) (pa_cons (pv 3) pa_nil))) (pa_cons (pe_tup (pa_cons pe_str (pa_cons (pv 3) (pa_cons (pv 2) pa_nil)))) pa_nil)))))) pss_nil)
    (pss_cons (ps_if (pt_cmpR op_eq (pe_ix ix_tup (pv 1) pe_int (fun _ _ => rfl)) pe_str (nomark _)) (pss_one (ps_ret (pe_lst (pa_cons (pe_tup (pa_cons pe_str (pa_cons (pe_ix ix_tup (pv 1) pe_int (fun _ _ => rfl)) pa_nil))) (pa_cons (pe_tup (pa_cons pe_str (pa_cons (pv 2) pa_nil))) pa_nil))))) pss_nil)
    (pss_one (ps_ret (pe_lst (pa_cons (pe_tup (pa_cons pe_str (pa_cons (pv 1) pa_nil))) (pa_cons (pe_tup (pa_cons pe_str (pa_cons (pv 2) pa_nil))) pa_nil)))))))), ?_⟩
  obtain ⟨xs, l, kx⟩ := hA.kids
  obtain ⟨r0, hd⟩ := l.head
  have hlk := kx.len
  refine ⟨_, rfl, a, _, _, _, rfl, rfl, SqT.of hd, at0, rfl, _, rfl, ?_⟩
  refine ite2 (fun c0 => ?_) (fun c0 => ?_)
  · obtain ⟨y, hh⟩ := hs_let (V.str.inj (of_decide_eq_true c0))
    rw [hh] at l
    obtain ⟨u1, u2, e2⟩ := two_of (show (kidsT t).length = 2 by rw [← hlk]; exact l.1)
    have eE : ∀ w, putJ t x w = [.put u1 y, .put u2 x] := fun w => by
      unfold putJ
      rw [hh, e2]
    rw [e2] at kx
    obtain ⟨v1, v2, rfl, ⟨b1, rfl, g1⟩, ⟨b2, rfl, g2⟩⟩ := all2_two kx
    have la : H a = some (.tup [.str "let", .str y, .ref b1, .ref b2]) := l.2
    refine ⟨_, rfl, a, _, _, _, rfl, rfl, SqT.of la, at2, _, rfl, a, _, _, _, rfl, rfl, SqT.of la, at1, sz (by show 3 ≤ 100000; decide), fun t1 ht1 => ?_⟩
    have s1 := same_new ht1 (.tup [.str "put", .ref b1, .str y])
    refine ⟨_, rfl, a, _, _, _, rfl, rfl, SqT.of (s1 _ _ la), at3, _, rfl, sz (by show 3 ≤ 100000; decide), fun t2 ht2 => ?_⟩
    have s2 := same_new ht2 (.tup [.str "put", .ref b2, .str x])
    refine ⟨sz (by show 2 ≤ 100000; decide), fun r hr2 => ?_⟩
    have s3 := same_new hr2 (.lst [.ref t1, .ref t2])
    have s13 := s1.trans (s2.trans s3)
    refine q r _ _ "" c.m (fun z => by rw [hh] at z; cases z) (fun _ => rfl) (tk_same s13) (hT.mono s13) upd_same ?_
    rw [eE]
    exact ⟨⟨t1, rfl, b1, (s2.trans s3) _ _ upd_same, g1.tk (tk_same s13)⟩, ⟨t2, rfl, b2, s3 _ _ upd_same, g2.tk (tk_same s13)⟩, trivial⟩
  refine ⟨_, rfl, a, _, _, _, rfl, rfl, SqT.of hd, at0, sz (by show 2 ≤ 100000; decide), fun t0 ht0 => ?_⟩
  have s0 := same_new ht0 (.tup [.str "ask", .str "if"])
  refine ⟨t0, _, rfl, .inr (SqT.of upd_same), rfl, rfl, _, rfl, ?_⟩
  have hin : inV (.str (hs (hdT t))) [.str "ask", .str "if"] = wordH (hdT t) := by
    cases hdT t <;> rfl
  have hT0 := hT.mono s0
  have hA0 := hA.tk (tk_same s0)
  have hd0 := s0 _ _ hd
  generalize upd H t0 (.tup [.str "ask", .str "if"]) = Ha at s0 hT0 hA0 hd0
  show if inV (.str (hs (hdT t))) [.str "ask", .str "if"] = true then _ else _
  rw [hin]
  cases hw : wordH (hdT t) with
  | true =>
    refine itT rfl ⟨_, rfl, A.p, CT, _, _, _, rfl, hT0.ob, X.clT, X.tNew, l_new _ _ _ _, A.nw, _, _, rfl, hT0.nw.ob, by rfl, A.nw, A.dN, A.td, tk, c.m, rfl, hT0.nw, hm, fun w m' hwm => ?_⟩
    have hT1 := hT0.setM m'
    have tk1 : TK Ha (upd Ha A.nw (.ins CN A.dN (fsN (.ref A.td) (.int (m' : Int))))) := tk_upd hT0.nw.ob (by intro xs z; cases z)
    have hA1 := hA0.tk tk1
    generalize upd Ha A.nw (.ins CN A.dN (fsN (.ref A.td) (.int (m' : Int)))) = H1 at hT1 tk1 hA1
    have eE : putJ t x w = endJ t w ++ [.post w x] := by
      unfold putJ
      cases hh : hdT t with
      | ask g => rfl
      | iff => rfl
      | _ => rw [hh] at hw; cases hw
    refine ⟨_, rfl, _, rfl, a, t, w, rfl, hA1, fun r1 H2 us1 hr1 s2 h2 k2 => ?_⟩
    have hul := k2.len
    have hel := endJ_len (j := w) hA.ar
    refine ⟨r1, us1, rfl, .inr (SqL.of h2), _, rfl, _, rfl, sz (by show 3 ≤ 100000; decide), fun t1 ht1 => ?_⟩
    have s3 := same_new ht1 (.tup [.str "post", .str w, .str x])
    refine ⟨sz (by rw [List.length_append, List.length_singleton]; omega), fun r hr2 => ?_⟩
    have s4 := same_new hr2 (.lst (us1 ++ [.ref t1]))
    refine q r _ _ w m' (fun _ => hwm) (fun z => by rw [hw] at z; cases z) ((tk_same s0).trans (tk1.trans (tk_same (s2.trans (s3.trans s4))))) (hT1.mono (s2.trans (s3.trans s4))) upd_same ?_
    rw [eE]
    exact (k2.imp fun _ _ z => JbV.tk (tk_same (s3.trans s4)) z).app ⟨⟨t1, rfl, s4 _ _ upd_same⟩, trivial⟩
  | false =>
    refine itF rfl ⟨_, rfl, a, _, _, _, rfl, rfl, SqT.of hd0, at0, rfl, _, rfl, ?_⟩
    refine ite2 (fun c2 => ?_) (fun c2 => ?_)
    · have hh := hs_tell (V.str.inj (of_decide_eq_true c2))
      rw [hh] at l
      obtain ⟨u1, e1⟩ := one_of (show (kidsT t).length = 1 by rw [← hlk]; exact l.1)
      have eE : ∀ w, putJ t x w = [.simple u1, .tell x] := fun w => by
        unfold putJ
        rw [hh, e1]
      rw [e1] at kx
      obtain ⟨v1, rfl, b1, rfl, g1⟩ := all2_one kx
      have la : Ha a = some (.tup [.str "tell", .ref b1]) := s0 _ _ l.2
      refine ⟨_, rfl, a, _, _, _, rfl, rfl, SqT.of la, at1, sz (by show 2 ≤ 100000; decide), fun t1 ht1 => ?_⟩
      have s1 := same_new ht1 (.tup [.str "simple", .ref b1])
      refine ⟨_, rfl, sz (by show 2 ≤ 100000; decide), fun t2 ht2 => ?_⟩
      have s2 := same_new ht2 (.tup [.str "tell", .str x])
      refine ⟨sz (by show 2 ≤ 100000; decide), fun r hr2 => ?_⟩
      have s3 := same_new hr2 (.lst [.ref t1, .ref t2])
      have s13 := s1.trans (s2.trans s3)
      refine q r _ _ "" c.m (fun z => by rw [hw] at z; cases z) (fun _ => rfl) (tk_same (s0.trans s13)) (hT0.mono s13) upd_same ?_
      rw [eE]
      exact ⟨⟨t1, rfl, b1, (s2.trans s3) _ _ upd_same, g1.tk (tk_same (s0.trans s13))⟩, ⟨t2, rfl, s3 _ _ upd_same⟩, trivial⟩
    · have eE : ∀ w, putJ t x w = [.simple t, .lett x] := fun w => by
        unfold putJ
        cases hh : hdT t with
        | lett y => rw [hh] at c0; exact absurd (decide_eq_true rfl) c0
        | tell => rw [hh] at c2; exact absurd (decide_eq_true rfl) c2
        | ask g => rw [hh] at hw; cases hw
        | iff => rw [hh] at hw; cases hw
        | _ => rfl
      refine ⟨_, rfl, sz (by show 2 ≤ 100000; decide), fun t1 ht1 => ?_⟩
      have s1 := same_new ht1 (.tup [.str "simple", .ref a])
      refine ⟨_, rfl, sz (by show 2 ≤ 100000; decide), fun t2 ht2 => ?_⟩
      have s2 := same_new ht2 (.tup [.str "let", .str x])
      refine ⟨sz (by show 2 ≤ 100000; decide), fun r hr2 => ?_⟩
      have s3 := same_new hr2 (.lst [.ref t1, .ref t2])
      have s13 := s1.trans (s2.trans s3)
      refine q r _ _ "" c.m (fun z => by rw [hw] at z; cases z) (fun _ => rfl) (tk_same (s0.trans s13)) (hT0.mono s13) upd_same ?_
      rw [eE]
      exact ⟨⟨t1, rfl, a, (s2.trans s3) _ _ upd_same, hA0.tk (tk_same s13)⟩, ⟨t2, rfl, s3 _ _ upd_same⟩, trivial⟩
end
end KB

namespace KB
open PySem L2 HT
section
variable {P : Program} {w : World} {K : PySem.W.Frag} {mg : Str → Option Value} {base : Heap} {CN CT : Addr}
def spJsimp (CN CT : Addr) : Sp := fun vs H Q _ => ∃ (H0 : Hp) (A : TuA) (tk : List Str) (c : Cg) (ras : List Addr) (a : Addr) (t : Tm), vs = [.ref A.p, .ref a] ∧ TuAt CN CT H0 H A tk c ras ∧ At H t a ∧ c.m + tk.length + 2 < 26 ^ 9 ∧
  ∀ r H' us w m', (wordS (hdT t) = true → NwR tk c.m w m') → (wordS (hdT t) = false → m' = c.m) → TK H H' → TuAt CN CT H0 H' A tk { c with m := m' } ras → H' r = some (.lst us) → All2 (JbV H') (simpJ t w) us → Q (.ref r) H'
abbrev sJsimp : Stmt := inClass (top 18) 5
theorem scJsimp : FnScope ["self", "term", "x"] ["self", "term"] (defScope sJsimp) := ⟨rfl, rfl, rfl, by decide +kernel, rfl, by decide +kernel, by decide +kernel⟩
theorem ok_jsimp (X : TxN K mg CN CT) {f fm : Addr} {fd dm : FuncData} (F : Fun K "jobs_simple" "Turning.jobs_simple" sJsimp f fd)
    (GM : FnOk P w K mg base CX0 2 fm dm ["self"] (spMore CN)) (bM : Binds K dm ["self"] []) (mM : Meth K CN "one_more" fm) : FnOk P w K mg base CX0 3 f fd ["self", "term"] (spJsimp CN CT) := by
  refine F.ok scJsimp (fun vs H Q E h => ?_) (fun cdv A outer s H vs Q E hr h => ?_)
  · obtain ⟨H0, A, tk, c, ras, a, t, rfl, _⟩ := h
    rfl
  obtain ⟨H0, A, tk, c, ras, a, t, rfl, hT, hA, hm, q⟩ := h
  refine ⟨_, (pss_cons (ps_if (pt_cmpR op_in_seq (pe_ix ix_tup (pv 1) pe_int (fun _ _ => rfl)) (pe_tup (pa_cons pe_str (pa_cons pe_str pa_nil))) rfl) (pss_one (ps_ret (pe_lst (pa_cons (pe_tup (pa_cons pe_str (pa_cons (pv 1) pa_nil))) pa_nil)))) pss_nil)
    (pss_cons (ps_if (pt_cmpR op_in_seq (pe_ix ix_tup (pv 1) pe_int (fun _ _ => rfl)) (pe_tup (pa_cons pe_str (pa_cons pe_str pa_nil))) rfl) (pss_one (ps_ret (pe_lst (pa_cons (pe_tup (pa_cons pe_str (pa_cons (pe_ix ix_tup (pv 1) pe_int (fun _ _ => rfl)) pa_nil))) (pa_cons (pe_tup (pa_cons pe_str (pa_cons (pe_ix ix_tup (pv 1) pe_int (fun _ _ => rfl)) pa_nil))) (pa_cons (pe_tup (pa_cons (pe_ix ix_tup (pv 1) pe_int (fun _ _ => rfl)) pa_nil)) pa_nil)))))) pss_nil)
    (pss_cons (ps_if (pt_cmpR op_eq (pe_ix ix_tup (pv 1) pe_int (fun _ _ => rfl)) pe_str (nomark _)) (pss_one (ps_ret (pe_lst (pa_cons (pe_tup (pa_cons pe_str (pa_cons (pe_ix ix_tup (pv 1) pe_int (fun _ _ => rfl)) (pa_cons (pe_ix ix_tup (pv 1) pe_int (fun _ _ => rfl)) pa_nil)))) (pa_cons (pe_tup (pa_cons pe_str (pa_cons (pe_ix ix_tup (pv 1) pe_int (fun _ _ => rfl)) pa_nil))) pa_nil))))) pss_nil)
    (pss_cons (ps_set (i := 2) scJsimp.nd rfl (Or.inl rfl) (pe_meth0 (pe_fld (pv 0) rfl) X.clN mM GM (hr.mono (by omega)) bM .nil pass0))
    (pss_one (ps_ret (pe_lst (pa_cons (pe_tup (pa_cons pe_str (pa_cons (pv 1) (pa_cons (pv 2) pa_nil)))) (pa_cons (pe_tup (pa_cons pe_str (pa_cons (pe_tup (pa_cons pe_str (pa_cons (pv 2) pa_nil))) pa_nil))) pa_nil))))))))), ?_⟩
  obtain ⟨xs, l, kx⟩ := hA.kids
  obtain ⟨r0, hd⟩ := l.head
  have hlk := kx.len
  -- ("number", "name")
  refine ⟨_, rfl, a, _, _, _, rfl, rfl, SqT.of hd, at0, sz (by show 2 ≤ 100000; decide), fun t0 ht0 => ?_⟩
  have s0 := same_new ht0 (.tup [.str "number", .str "name"])
  refine ⟨t0, _, rfl, .inr (SqT.of upd_same), rfl, rfl, _, rfl, ?_⟩
  have hT0 := hT.mono s0
  have hA0 := hA.tk (tk_same s0)
  have l0 := l.mono s0
  have kx0 := kx.imp fun _ _ z => RefV.tk (tk_same s0) z
  have hd0 := s0 _ _ hd
  generalize upd H t0 (.tup [.str "number", .str "name"]) = Ha at s0 hT0 hA0 l0 kx0 hd0
  clear hd l kx
  have leaf : (hs (hdT t) = "number" ∨ hs (hdT t) = "name") → ∀ w, simpJ t w = [.known t] := fun z w => by
    unfold simpJ
    cases hh : hdT t <;> rw [hh] at z <;> dsimp only [hs] at z <;> first | rfl | (exfalso; revert z; decide)
  show if inV (.str (hs (hdT t))) [.str "number", .str "name"] = true then _ else _
  by_cases c1 : inV (.str (hs (hdT t))) [.str "number", .str "name"] = true
  · refine itT c1 ⟨_, rfl, sz (by show 2 ≤ 100000; decide), fun t1 ht1 => ?_⟩
    have hz : hs (hdT t) = "number" ∨ hs (hdT t) = "name" := by
      cases hh : hdT t <;> rw [hh] at c1 <;> dsimp only [hs] at c1 <;> first | exact .inl rfl | exact .inr rfl | (exfalso; revert c1; decide)
    have s1 := same_new ht1 (.tup [.str "known", .ref a])
    refine ⟨sz (by show 1 ≤ 100000; decide), fun r hr2 => ?_⟩
    have s2 := same_new hr2 (.lst [.ref t1])
    have s12 := s1.trans s2
    have nw : wordS (hdT t) = false := by
      cases hh : hdT t <;> rw [hh] at hz <;> dsimp only [hs] at hz <;> first | rfl | (exfalso; revert hz; decide)
    refine q r _ _ "" c.m (fun z => by rw [nw] at z; cases z) (fun _ => rfl) (tk_same (s0.trans s12)) (hT0.mono s12) upd_same ?_
    rw [leaf hz]
    exact ⟨⟨t1, rfl, a, s2 _ _ upd_same, hA0.tk (tk_same s12)⟩, trivial⟩
  refine itF (Bool.eq_false_iff.mpr c1) ?_
  -- ("plus", "less")
  refine ⟨_, rfl, a, _, _, _, rfl, rfl, SqT.of hd0, at0, sz (by show 2 ≤ 100000; decide), fun t2 ht2 => ?_⟩
  have s2 := same_new ht2 (.tup [.str "plus", .str "less"])
  refine ⟨t2, _, rfl, .inr (SqT.of upd_same), rfl, rfl, _, rfl, ?_⟩
  have hT2 := hT0.mono s2
  have hA2 := hA0.tk (tk_same s2)
  have l2 := l0.mono s2
  have kx2 := kx0.imp fun _ _ z => RefV.tk (tk_same s2) z
  have hd2 := s2 _ _ hd0
  have s02 := s0.trans s2
  generalize upd Ha t2 (.tup [.str "plus", .str "less"]) = Hb at s2 s02 hT2 hA2 l2 kx2 hd2
  have opW : ∀ (b : Bool), hdT t = (if b then Hd.less else Hd.plus) → ∃ u1 u2 b1 b2, (∀ w, simpJ t w = [.simple u1, .simple u2, .op b]) ∧ Hb a = some (.tup [.str (if b then "less" else "plus"), .ref b1, .ref b2]) ∧ At Hb u1 b1 ∧ At Hb u2 b2 := fun b hh => by
    rw [hh] at l2
    have h2 : (kidsT t).length = 2 := by
      rw [← hlk]
      cases b <;> exact l2.1
    obtain ⟨u1, u2, e2⟩ := two_of h2
    rw [e2] at kx2
    obtain ⟨v1, v2, e3, ⟨b1, e4, g1⟩, ⟨b2, e5, g2⟩⟩ := all2_two kx2
    subst e3 e4 e5
    refine ⟨u1, u2, b1, b2, fun w => ?_, ?_, g1, g2⟩
    · unfold simpJ
      rw [hh, e2]
      cases b <;> rfl
    · cases b <;> exact l2.2
  show if inV (.str (hs (hdT t))) [.str "plus", .str "less"] = true then _ else _
  by_cases c2 : inV (.str (hs (hdT t))) [.str "plus", .str "less"] = true
  · have hz : ∃ b : Bool, hdT t = (if b then Hd.less else Hd.plus) := by
      cases hh : hdT t <;> rw [hh] at c2 <;> dsimp only [hs] at c2 <;> first | exact ⟨false, rfl⟩ | exact ⟨true, rfl⟩ | (exfalso; revert c2; decide)
    obtain ⟨b, hh⟩ := hz
    obtain ⟨u1, u2, b1, b2, eE, la, g1, g2⟩ := opW b hh
    refine itT c2 ⟨_, rfl, a, _, _, _, rfl, rfl, SqT.of la, at1, sz (by show 2 ≤ 100000; decide), fun t3 ht3 => ?_⟩
    have s3 := same_new ht3 (.tup [.str "simple", .ref b1])
    refine ⟨_, rfl, a, _, _, _, rfl, rfl, SqT.of (s3 _ _ la), at2, sz (by show 2 ≤ 100000; decide), fun t4 ht4 => ?_⟩
    have s4 := same_new ht4 (.tup [.str "simple", .ref b2])
    refine ⟨_, rfl, a, _, _, _, rfl, rfl, SqT.of ((s3.trans s4) _ _ la), at0, sz (by show 1 ≤ 100000; decide), fun t5 ht5 => ?_⟩
    have s5 := same_new ht5 (.tup [.str (if b then "less" else "plus")])
    refine ⟨sz (by show 3 ≤ 100000; decide), fun r hr2 => ?_⟩
    have s6 := same_new hr2 (.lst [.ref t3, .ref t4, .ref t5])
    have s36 := s3.trans (s4.trans (s5.trans s6))
    have nw : wordS (hdT t) = false := by
      rw [hh]
      cases b <;> rfl
    refine q r _ _ "" c.m (fun z => by rw [nw] at z; cases z) (fun _ => rfl) (tk_same (s02.trans s36)) (hT2.mono s36) upd_same ?_
    rw [eE]
    exact ⟨⟨t3, rfl, b1, (s4.trans (s5.trans s6)) _ _ upd_same, g1.tk (tk_same s36)⟩, ⟨t4, rfl, b2, (s5.trans s6) _ _ upd_same, g2.tk (tk_same s36)⟩, ⟨t5, rfl, s6 _ _ upd_same⟩, trivial⟩
  refine itF (Bool.eq_false_iff.mpr c2) ?_
  refine ⟨_, rfl, a, _, _, _, rfl, rfl, SqT.of hd2, at0, rfl, _, rfl, ?_⟩
  refine ite2 (fun c3 => ?_) (fun c3 => ?_)
  · obtain ⟨y, hh⟩ := hs_let (V.str.inj (of_decide_eq_true c3))
    rw [hh] at l2
    obtain ⟨u1, u2, e2⟩ := two_of (show (kidsT t).length = 2 by rw [← hlk]; exact l2.1)
    have eE : ∀ w, simpJ t w = [.put u1 y, .simple u2] := fun w => by
      unfold simpJ
      rw [hh, e2]
    rw [e2] at kx2
    obtain ⟨v1, v2, rfl, ⟨b1, rfl, g1⟩, ⟨b2, rfl, g2⟩⟩ := all2_two kx2
    have la : Hb a = some (.tup [.str "let", .str y, .ref b1, .ref b2]) := l2.2
    refine ⟨_, rfl, a, _, _, _, rfl, rfl, SqT.of la, at2, _, rfl, a, _, _, _, rfl, rfl, SqT.of la, at1, sz (by show 3 ≤ 100000; decide), fun t3 ht3 => ?_⟩
    have s3 := same_new ht3 (.tup [.str "put", .ref b1, .str y])
    refine ⟨_, rfl, a, _, _, _, rfl, rfl, SqT.of (s3 _ _ la), at3, sz (by show 2 ≤ 100000; decide), fun t4 ht4 => ?_⟩
    have s4 := same_new ht4 (.tup [.str "simple", .ref b2])
    refine ⟨sz (by show 2 ≤ 100000; decide), fun r hr2 => ?_⟩
    have s5 := same_new hr2 (.lst [.ref t3, .ref t4])
    have s35 := s3.trans (s4.trans s5)
    have nw : wordS (hdT t) = false := by rw [hh]; rfl
    refine q r _ _ "" c.m (fun z => by rw [nw] at z; cases z) (fun _ => rfl) (tk_same (s02.trans s35)) (hT2.mono s35) upd_same ?_
    rw [eE]
    exact ⟨⟨t3, rfl, b1, (s4.trans s5) _ _ upd_same, g1.tk (tk_same s35)⟩, ⟨t4, rfl, b2, s5 _ _ upd_same, g2.tk (tk_same s35)⟩, trivial⟩
  · have nw : wordS (hdT t) = true := by
      cases hh : hdT t with
      | num z => rw [hh] at c1; exact absurd rfl c1
      | nam z => rw [hh] at c1; exact absurd rfl c1
      | plus => rw [hh] at c2; exact absurd rfl c2
      | less => rw [hh] at c2; exact absurd rfl c2
      | lett y => rw [hh] at c3; exact absurd (decide_eq_true rfl) c3
      | _ => rfl
    have eE : ∀ w, simpJ t w = [.put t w, .known (mkL (.nam w) [])] := fun w => by
      unfold simpJ
      cases hh : hdT t <;> rw [hh] at nw <;> first | rfl | cases nw
    refine ⟨_, rfl, A.p, CT, _, _, _, rfl, hT2.ob, X.clT, X.tNew, l_new _ _ _ _, A.nw, _, _, rfl, hT2.nw.ob, by rfl, A.nw, A.dN, A.td, tk, c.m, rfl, hT2.nw, hm, fun w m' hwm => ?_⟩
    have hT3 := hT2.setM m'
    have tk3 : TK Hb (upd Hb A.nw (.ins CN A.dN (fsN (.ref A.td) (.int (m' : Int))))) := tk_upd hT2.nw.ob (by intro xs z; cases z)
    have hA3 := hA2.tk tk3
    generalize upd Hb A.nw (.ins CN A.dN (fsN (.ref A.td) (.int (m' : Int)))) = H1 at hT3 tk3 hA3
    refine ⟨_, rfl, _, rfl, sz (by show 3 ≤ 100000; decide), fun t4 ht4 => ?_⟩
    have s4 := same_new ht4 (.tup [.str "put", .ref a, .str w])
    refine ⟨_, rfl, sz (by show 2 ≤ 100000; decide), fun t5 ht5 => ?_⟩
    have s5 := same_new ht5 (.tup [.str "name", .str w])
    refine ⟨sz (by show 2 ≤ 100000; decide), fun t6 ht6 => ?_⟩
    have s6 := same_new ht6 (.tup [.str "known", .ref t5])
    refine ⟨sz (by show 2 ≤ 100000; decide), fun r hr2 => ?_⟩
    have s7 := same_new hr2 (.lst [.ref t4, .ref t6])
    have s47 := s4.trans (s5.trans (s6.trans s7))
    refine q r _ _ w m' (fun _ => hwm) (fun z => by rw [nw] at z; cases z) ((tk_same s02).trans (tk3.trans (tk_same s47))) (hT3.mono s47) upd_same ?_
    rw [eE]
    exact ⟨⟨t4, rfl, a, (s5.trans (s6.trans s7)) _ _ upd_same, hA3.tk (tk_same s47)⟩, ⟨t6, rfl, t5, s7 _ _ upd_same, at_mkL (vs := []) ⟨rfl, (s6.trans s7) _ _ upd_same⟩ trivial⟩, trivial⟩
/-! ### jobs_of -/
def mkJ (j : Jb) (w : Str) : List Jb := match j with | .done t j => doneJ t j | .put t x => putJ t x w | .simple t => simpJ t w | _ => []
def wordJ : Jb → Bool | .put t _ => wordH (hdT t) | .simple t => wordS (hdT t) | _ => false
def isMk : Jb → Bool | .done _ _ | .put _ _ | .simple _ => true | _ => false
def spJof (CN CT : Addr) : Sp := fun vs H Q _ => ∃ (H0 : Hp) (A : TuA) (tk : List Str) (c : Cg) (ras : List Addr) (b : Addr) (j : Jb), vs = [.ref A.p, .ref b] ∧ TuAt CN CT H0 H A tk c ras ∧ JbA H b j ∧ isMk j = true ∧ c.m + tk.length + 2 < 26 ^ 9 ∧
  ∀ r H' us w m', (wordJ j = true → NwR tk c.m w m') → (wordJ j = false → m' = c.m) → TuAt CN CT H0 H' A tk { c with m := m' } ras → H' r = some (.lst us) → All2 (JbV H') (mkJ j w) us → Q (.ref r) H'
abbrev sJof : Stmt := inClass (top 18) 2
theorem scJof : FnScope ["self", "job"] ["self", "job"] (defScope sJof) := ⟨rfl, rfl, rfl, by decide +kernel, rfl, by decide +kernel, by decide +kernel⟩
theorem l_no (a b c d : V) (x : Str) (h : x ≠ "new_words" ∧ x ≠ "jobs" ∧ x ≠ "rows" ∧ x ≠ "got") : (fsT a b c d).lookup x = none := by
  obtain ⟨h1, h2, h3, h4⟩ := h
  unfold fsT
  simp [List.lookup, beq_eq_false_iff_ne.mpr h1, beq_eq_false_iff_ne.mpr h2, beq_eq_false_iff_ne.mpr h3, beq_eq_false_iff_ne.mpr h4]
theorem ok_jof (X : TxN K mg CN CT) {f g1 g2 g3 : Addr} {fd d1 d2 d3 : FuncData} (F : Fun K "jobs_of" "Turning.jobs_of" sJof f fd) (G1 : FnOk P w K mg base CX0 2 g1 d1 ["self", "term", "j"] spJdone) (b1 : Binds K d1 ["self", "term", "j"] []) (m1 : Meth K CT "jobs_done" g1)
    (G2 : FnOk P w K mg base CX0 3 g2 d2 ["self", "term", "x"] (spJput CN CT)) (b2 : Binds K d2 ["self", "term", "x"] []) (m2 : Meth K CT "jobs_put" g2) (G3 : FnOk P w K mg base CX0 3 g3 d3 ["self", "term"] (spJsimp CN CT)) (b3 : Binds K d3 ["self", "term"] []) (m3 : Meth K CT "jobs_simple" g3) :
    FnOk P w K mg base CX0 4 f fd ["self", "job"] (spJof CN CT) := by
  refine F.ok scJof (fun vs H Q E h => ?_) (fun cdv A outer s H vs Q E hr h => ?_)
  · obtain ⟨H0, A, tk, c, ras, b, j, rfl, _⟩ := h
    rfl
  obtain ⟨H0, A, tk, c, ras, b, j, rfl, hT, hJ, hj, hm, q⟩ := h
  refine ⟨_, (pss_cons (ps_if (pt_cmpR op_eq (pe_ix ix_tup (pv 1) pe_int (fun _ _ => rfl)) pe_str (nomark _)) (pss_one (ps_ret (pe_meth (pv 0) X.clT m1 G1 (hr.mono (by omega)) b1 .nil pass0 (pa_cons (pe_ix ix_tup (pv 1) pe_int (fun _ _ => rfl)) (pa_cons (pe_ix ix_tup (pv 1) pe_int (fun _ _ => rfl)) pa_nil))))) pss_nil)
    (pss_cons (ps_if (pt_cmpR op_eq (pe_ix ix_tup (pv 1) pe_int (fun _ _ => rfl)) pe_str (nomark _)) (pss_one (ps_ret (pe_meth (pv 0) X.clT m2 G2 (hr.mono (by omega)) b2 .nil pass0 (pa_cons (pe_ix ix_tup (pv 1) pe_int (fun _ _ => rfl)) (pa_cons (pe_ix ix_tup (pv 1) pe_int (fun _ _ => rfl)) pa_nil))))) pss_nil)
    (pss_one (ps_ret (pe_meth (pv 0) X.clT m3 G3 (hr.mono (by omega)) b3 .nil pass0 (pa_cons (pe_ix ix_tup (pv 1) pe_int (fun _ _ => rfl)) pa_nil)))))), ?_⟩
  cases j with
  | done t j =>
    obtain ⟨a, h1, h2⟩ := hJ
    refine ⟨_, rfl, b, _, _, _, rfl, rfl, SqT.of h1, at0, rfl, _, rfl, itT rfl ⟨_, rfl, A.p, _, _, rfl, hT.ob, by rfl, _, rfl, b, _, _, _, rfl, rfl, SqT.of h1, at1, _, rfl, b, _, _, _, rfl, rfl, SqT.of h1, at2, A.p, a, t, j, rfl, h2, fun r H' us hr' s1 g1 k1 => ?_⟩⟩
    exact q r H' us "" c.m (fun z => by cases z) (fun _ => rfl) (hT.mono s1) g1 k1
  | put t x =>
    obtain ⟨a, h1, h2⟩ := hJ
    refine ⟨_, rfl, b, _, _, _, rfl, rfl, SqT.of h1, at0, rfl, _, rfl, itF rfl ⟨_, rfl, b, _, _, _, rfl, rfl, SqT.of h1, at0, rfl, _, rfl, itT rfl ⟨_, rfl, A.p, _, _, rfl, hT.ob, by rfl, _, rfl, b, _, _, _, rfl, rfl, SqT.of h1, at1, _, rfl, b, _, _, _, rfl, rfl, SqT.of h1, at2,
      H0, A, tk, c, ras, a, t, x, rfl, hT, h2, hm, fun r H' us w m' g1 g2 tk1 g3 g4 g5 => ?_⟩⟩⟩
    exact q r H' us w m' g1 g2 g3 g4 g5
  | simple t =>
    obtain ⟨a, h1, h2⟩ := hJ
    refine ⟨_, rfl, b, _, _, _, rfl, rfl, SqT.of h1, at0, rfl, _, rfl, itF rfl ⟨_, rfl, b, _, _, _, rfl, rfl, SqT.of h1, at0, rfl, _, rfl, itF rfl ⟨_, rfl, A.p, _, _, rfl, hT.ob, by rfl, _, rfl, b, _, _, _, rfl, rfl, SqT.of h1, at1,
      H0, A, tk, c, ras, a, t, rfl, hT, h2, hm, fun r H' us w m' g1 g2 tk1 g3 g4 g5 => ?_⟩⟩⟩
    exact q r H' us w m' g1 g2 g3 g4 g5
  | _ => cases hj
end
end KB

namespace KB
open PySem L2 HT
theorem popE {v : V} {r : List V} : ((v :: r).reverse).dropLast = r.reverse := by rw [List.reverse_cons, List.dropLast_concat]
theorem taken_split {H : Hp} : ∀ {n : Nat} {got : List Gt} {gs : List V} {g' : List Bool}, All2 (GtV H) got gs → got.map kG = List.replicate n false ++ g' →
    ∃ (ts : List Tm) (G : List Gt) (gs1 gs2 : List V), got = (ts.map Gt.t).reverse ++ G ∧ ts.length = n ∧ gs = gs1.reverse ++ gs2 ∧ All2 (RefV H) ts gs1 ∧ All2 (GtV H) G gs2 ∧ gs1.length = n ∧ G.map kG = g'
  | 0, got, gs, g', h, e => ⟨[], got, [], gs, rfl, rfl, rfl, trivial, h, rfl, e⟩
  | n + 1, [], gs, g', h, e => by
    rw [List.replicate_succ] at e
    cases e
  | n + 1, g :: got, [], g', h, e => h.elim
  | n + 1, g :: got, v :: gs, g', h, e => by
    rw [List.replicate_succ, List.map_cons, List.cons_append] at e
    obtain ⟨e1, e2⟩ := List.cons.inj e
    obtain ⟨ts, G, gs1, gs2, a1, a2, a3, a4, a5, a6, a7⟩ := taken_split h.2 e2
    cases g with
    | p q => cases e1
    | t s =>
      obtain ⟨b, eb, hb⟩ := h.1
      refine ⟨ts ++ [s], G, gs1 ++ [v], gs2, ?_, ?_, ?_, a4.app ⟨⟨b, eb, hb⟩, trivial⟩, a5, ?_, a7⟩
      · rw [a1]
        simp
      · rw [List.length_append, a2]
        rfl
      · rw [a3]
        simp
      · rw [List.length_append, a6]
        rfl
theorem drop_rev {gs1 gs2 : List V} : ((gs1.reverse ++ gs2).reverse).drop (((gs1.reverse ++ gs2).reverse).length - gs1.length) = gs1 ∧ ((gs1.reverse ++ gs2).reverse).take (((gs1.reverse ++ gs2).reverse).length - gs1.length) = gs2.reverse := by
  have e : (gs1.reverse ++ gs2).reverse = gs2.reverse ++ gs1 := by simp
  rw [e]
  have e2 : (gs2.reverse ++ gs1).length - gs1.length = gs2.reverse.length := by
    rw [List.length_append]
    omega
  rw [e2]
  exact ⟨List.drop_left, List.take_left⟩
theorem last_at {l : List V} {x : V} : atI (l ++ [x]) (-1) = some x := by
  unfold atI ixN
  have e : (l ++ [x]).length = l.length + 1 := by rw [List.length_append]; rfl
  rw [if_neg (by decide), if_pos (by rw [e]; omega), e]
  have e2 : ((-1 : Int) + ((l.length + 1 : Nat) : Int)).toNat = l.length := by omega
  rw [e2]
  show (l ++ [x])[l.length]? = some x
  rw [List.getElem?_append_right (Nat.le_refl _), Nat.sub_self]
  rfl
theorem two_at {H : Hp} {l : Bool} {a b c : Addr} {s t : Tm} (h : H a = some (.tup [.str (if l then "less" else "plus"), .ref b, .ref c])) (h1 : At H s b) (h2 : At H t c) : At H (mkOp l s t) a := by
  unfold mkOp
  cases l
  · exact at_mkL (h := .plus) (vs := [.ref b, .ref c]) ⟨rfl, h⟩ ⟨⟨b, rfl, h1⟩, ⟨c, rfl, h2⟩, trivial⟩
  · exact at_mkL (h := .less) (vs := [.ref b, .ref c]) ⟨rfl, h⟩ ⟨⟨b, rfl, h1⟩, ⟨c, rfl, h2⟩, trivial⟩
section
variable {P : Program} {w : World} {K : PySem.W.Frag} {mg : Str → Option Value} {base : Heap} {CN CT : Addr}
/-! ### last_taken -/
def spLast : Sp := fun vs H Q _ => ∃ (gl : Addr) (xs : List V) (n : Nat), vs = [.ref gl, .int (n : Int)] ∧ H gl = some (.lst xs) ∧ n ≤ xs.length ∧
  ∀ H2 v, Same H H2 → H2 v = some (.tup (xs.drop (xs.length - n))) → Q (.ref v) (upd H2 gl (.lst (xs.take (xs.length - n))))
abbrev slast_taken : Stmt := top 2
theorem sclast_taken : FnScope ["got", "many", "first", "taken"] ["got", "many"] (defScope slast_taken) := ⟨rfl, rfl, rfl, by decide +kernel, rfl, by decide +kernel, by decide +kernel⟩
theorem ok_last (T : Txt K mg) {f : Addr} {fd : FuncData} (F : Fun K "last_taken" "last_taken" slast_taken f fd) : FnOk P w K mg base CX0 1 f fd ["got", "many"] spLast := by
  refine F.ok sclast_taken (fun vs H Q E h => ?_) (fun cdv A outer s H vs Q E hr h => ?_)
  · obtain ⟨gl, xs, n, rfl, _⟩ := h
    rfl
  obtain ⟨gl, xs, n, rfl, hg, hn, q⟩ := h
  refine ⟨_, pss_cons (ps_set (i := 2) sclast_taken.nd rfl (Or.inl rfl) (pe_op op_sub (pe_callB call_len_seq (by rfl) T.m_len PySem.boot_len (pa_cons (pv 0) pa_nil)) (pv 1)))
    (pss_cons (ps_set (i := 3) sclast_taken.nd rfl (Or.inl rfl) (pe_callTy call_tuple_of (by rfl) T.m_tuple (by decide +kernel) (pa_cons (pe_slice sl_list (pv 0) (po_some (pv 2)) po_none) pa_nil)))
    (pss_cons (ps_delFrom (pv 0) (pv 2)) (pss_one (ps_ret (pv 3))))), ?_⟩
  refine ⟨_, rfl, gl, _, rfl, .inl (SqL.of hg), _, rfl, _, _, rfl, rfl, ?_⟩
  have efirst : (xs.length : Int) - (n : Int) = ((xs.length - n : Nat) : Int) := by omega
  refine ⟨_, rfl, _, rfl, _, rfl, gl, _, rfl, SqL.of hg, fun u hu => ⟨u, _, rfl, .inl ⟨SqL.of upd_same, fun v hv => ?_⟩⟩⟩
  have ecut : cutV xs (some ((xs.length : Int) - (n : Int))) none = xs.drop (xs.length - n) := by
    rw [efirst, cut_from (by omega) (by omega), Int.toNat_natCast]
  have sA := (same_new hu (.lst (cutV xs (some ((xs.length : Int) - (n : Int))) none))).trans (same_new hv (.tup (cutV xs (some ((xs.length : Int) - (n : Int))) none)))
  have hv2 : upd (upd H u (.lst (cutV xs (some ((xs.length : Int) - (n : Int))) none))) v (.tup (cutV xs (some ((xs.length : Int) - (n : Int))) none)) v = some (.tup (xs.drop (xs.length - n))) := by
    rw [upd_same, ecut]
  exact ⟨_, rfl, _, rfl, _, rfl, gl, xs, xs.length - n, rfl, congrArg some efirst, sA _ _ hg, Nat.sub_le _ _, _, rfl, q _ _ sA hv2⟩
/-! ### finish -/
structure SzC (c : Cg) : Prop where
  r : c.rows.length ≤ 5000
  g : c.got.length ≤ 5000
  l : ∀ r ∈ c.rows, r.length ≤ 5000
def spFin (CN CT : Addr) : Sp := fun vs H Q _ => ∃ (H0 : Hp) (A : TuA) (tk : List Str) (c : Cg) (ras : List Addr) (b : Addr) (j : Jb), vs = [.ref A.p, .ref b] ∧ TuAt CN CT H0 H A tk c ras ∧ JbA H b j ∧ isMk j = false ∧ okJ (j :: c.jobs) c.rows.length (c.got.map kG) ∧ SzC c ∧
  ∀ H' R1 G1 ras', Fin j c.rows c.got R1 G1 → TuAt CN CT H0 H' A tk { c with rows := R1, got := G1 } ras' → Q .non H'
abbrev sFin : Stmt := inClass (top 18) 6
theorem scFin : FnScope ["self", "job", "head"] ["self", "job"] (defScope sFin) := ⟨rfl, rfl, rfl, by decide +kernel, rfl, by decide +kernel, by decide +kernel⟩
theorem TuAt.top {H0 H : Hp} {A : TuA} {tk : List Str} {J : List Jb} {r : List Ld} {R : List (List Ld)} {G : List Gt} {m : Nat} {ras : List Addr} (h : TuAt CN CT H0 H A tk ⟨J, r :: R, G, m⟩ ras) : ∃ ra ras' vs, ras = ra :: ras' ∧ H ra = some (.lst vs) ∧ All2 (LdV H) r vs := by
  have hr := h.rs
  match ras, hr with
  | ra :: ras', ⟨⟨x, vs, e1, h1, h2⟩, _⟩ => cases e1; exact ⟨ra, ras', vs, rfl, h1, h2⟩
theorem ok_fin (T : Txt K mg) (X : TxN K mg CN CT) {f f1 f2 : Addr} {fd d1 d2 : FuncData} (F : Fun K "finish" "Turning.finish" sFin f fd) (Gput_ahead : FnOk P w K mg base CX0 1 f1 d1 ["leads", "part"] spAhead) (Rput_ahead : Ref K mg "put_ahead" f1 d1 ["leads", "part"])
    (Glast_taken : FnOk P w K mg base CX0 1 f2 d2 ["got", "many"] spLast) (Rlast_taken : Ref K mg "last_taken" f2 d2 ["got", "many"]) : FnOk P w K mg base CX0 2 f fd ["self", "job"] (spFin CN CT) := by
  refine F.ok scFin (fun vs H Q E h => ?_) (fun cdv A outer s H vs Q E hr h => ?_)
  · obtain ⟨H0, A, tk, c, ras, b, j, rfl, _⟩ := h
    rfl
  obtain ⟨H0, A, tk, ⟨J, R, G, m⟩, ras, b, j, rfl, hT, hJ, hj, ho, hz, q⟩ := h
  refine ⟨_, (pss_cons (ps_set (i := 2) scFin.nd rfl (Or.inl rfl) (pe_ix ix_tup (pv 1) pe_int (fun _ _ => rfl)))
    (pss_one (ps_if (pt_cmpR op_eq (pv 2) pe_str (nomark _)) (pss_one (ps_expr (pe_bm PySem.F.plainAttrs_list PySem.F.slot_list_append PySem.F.type_list_append mt_append (pe_fld (pv 0) rfl) (pa_cons (pe_lst pa_nil) pa_nil)))) (pss_one (ps_if (pt_cmpR op_eq (pv 2) pe_str (nomark _)) (pss_one (ps_expr (pe_bm PySem.F.plainAttrs_list PySem.F.slot_list_append PySem.F.type_list_append mt_append (pe_fld (pv 0) rfl) (pa_cons (pe_call Gput_ahead (hr.mono (by omega)) rfl Rput_ahead.m Rput_ahead.k Rput_ahead.b .nil pass0 (pa_cons (pe_bm0 PySem.F.plainAttrs_list PySem.F.slot_list_pop PySem.F.type_list_pop mt_pop (pe_fld (pv 0) rfl)) (pa_cons (pe_bm0 PySem.F.plainAttrs_list PySem.F.slot_list_pop PySem.F.type_list_pop mt_pop (pe_fld (pv 0) rfl)) pa_nil))) pa_nil)))) (pss_one (ps_if (pt_cmpR op_in_seq (pv 2) (pe_tup (pa_cons pe_str (pa_cons pe_str (pa_cons pe_str pa_nil)))) rfl) (pss_one (ps_expr (pe_bm PySem.F.plainAttrs_list PySem.F.slot_list_append PySem.F.type_list_append mt_append (pe_ix ix_list (pe_fld (pv 0) rfl) (pe_un un_neg pe_int) (fun _ _ => rfl)) (pa_cons (pe_tup (StX.pa_star (pv 1) (pa_cons (pe_bm0 PySem.F.plainAttrs_list PySem.F.slot_list_pop PySem.F.type_list_pop mt_pop (pe_fld (pv 0) rfl)) pa_nil))) pa_nil)))) (pss_one (ps_if (pt_cmpR op_eq (pv 2) pe_str (nomark _)) (pss_one (ps_expr (pe_bm PySem.F.plainAttrs_list PySem.F.slot_list_append PySem.F.type_list_append mt_append (pe_fld (pv 0) rfl) (pa_cons (pe_ix ix_tup (pv 1) pe_int (fun _ _ => rfl)) pa_nil)))) (pss_one (ps_if (pt_cmpR op_eq (pv 2) pe_str (nomark _)) (pss_one (ps_expr (pe_bm PySem.F.plainAttrs_list PySem.F.slot_list_append PySem.F.type_list_append mt_append (pe_fld (pv 0) rfl) (pa_cons (pe_tup (pa_cons (pv 2) (pa_cons (pe_ix ix_tup (pv 1) pe_int (fun _ _ => rfl)) (pa_cons (pe_call Glast_taken (hr.mono (by omega)) rfl Rlast_taken.m Rlast_taken.k Rlast_taken.b .nil pass0 (pa_cons (pe_fld (pv 0) rfl) (pa_cons (pe_ix ix_tup (pv 1) pe_int (fun _ _ => rfl)) pa_nil))) (pa_cons (pe_ix ix_tup (pv 1) pe_int (fun _ _ => rfl)) pa_nil))))) pa_nil)))) (pss_one (ps_if (pt_cmpR op_eq (pv 2) pe_str (nomark _)) (pss_one (ps_expr (pe_bm PySem.F.plainAttrs_list PySem.F.slot_list_append PySem.F.type_list_append mt_append (pe_fld (pv 0) rfl) (pa_cons (pe_tup (StX.pa_star (pv 1) (pa_cons (pe_bm0 PySem.F.plainAttrs_list PySem.F.slot_list_pop PySem.F.type_list_pop mt_pop (pe_fld (pv 0) rfl)) pa_nil))) pa_nil)))) (pss_one (ps_if (pt_cmpR op_eq (pv 2) pe_str (nomark _)) (pss_one (ps_expr (pe_bm PySem.F.plainAttrs_list PySem.F.slot_list_append PySem.F.type_list_append mt_append (pe_fld (pv 0) rfl) (pa_cons (pe_tup (pa_cons (pv 2) (StX.pa_star (pe_call Glast_taken (hr.mono (by omega)) rfl Rlast_taken.m Rlast_taken.k Rlast_taken.b .nil pass0 (pa_cons (pe_fld (pv 0) rfl) (pa_cons pe_int pa_nil))) pa_nil))) pa_nil)))) (pss_one (ps_expr (pe_bm PySem.F.plainAttrs_list PySem.F.slot_list_append PySem.F.type_list_append mt_append (pe_fld (pv 0) rfl) (pa_cons (pe_tup (pa_cons (pv 2) (StX.pa_star (pe_call Glast_taken (hr.mono (by omega)) rfl Rlast_taken.m Rlast_taken.k Rlast_taken.b .nil pass0 (pa_cons (pe_fld (pv 0) rfl) (pa_cons pe_int pa_nil))) pa_nil))) pa_nil))))))))))))))))))), ?_⟩

  obtain ⟨gs, hg1, hg2⟩ := hT.gs
  have hgl : gs.length = G.length := hg2.len
  have hzg : G.length ≤ 5000 := hz.g
  have hzr : R.length ≤ 5000 := hz.r
  have hrl : ras.length = R.length := by
    have := hT.rs.len
    rw [List.length_map] at this
    exact this
  cases j with
  | done t j => cases hj
  | put t x => cases hj
  | simple t => cases hj
  | row =>
    have h1 : H b = some (.tup [.str "row"]) := hJ
    refine ⟨_, rfl, b, _, _, _, rfl, rfl, SqT.of h1, at0, ?_⟩
    refine ⟨_, rfl, rfl, _, rfl, itT rfl ?_⟩
    refine ⟨_, rfl, A.p, CT, _, _, _, rfl, hT.ob, X.clT, X.tRows, l_rows _ _ _ _, .inl ⟨rfl, _, SqL.of hT.rl⟩, sz (by show 0 ≤ 100000; decide), fun ra hra => ?_⟩
    refine ⟨A.rl, _, _, rfl, rfl, same_new hra _ _ _ hT.rl, Nat.lt_of_le_of_lt (m := 5000) (by rw [List.length_reverse, List.length_map]; omega) (by decide), ?_⟩
    have hP := hT.pushRow hra
    rw [List.map_cons, List.reverse_cons] at hP
    exact q _ _ _ _ .row hP
  | close =>
    have h1 : H b = some (.tup [.str "close"]) := hJ
    obtain ⟨r', g', e1, e2, _⟩ := ho
    match R, G, gs with
    | r :: R, .p p0 :: G, v :: gs =>
      obtain ⟨⟨b1, rfl, hb1⟩, hg3⟩ := hg2
      obtain ⟨ra, ras', vs, rfl, hv, kv⟩ := hT.top
      refine ⟨_, rfl, b, _, _, _, rfl, rfl, SqT.of h1, at0, ?_⟩
      refine ⟨_, rfl, rfl, _, rfl, itF rfl ⟨_, rfl, rfl, _, rfl, itT rfl ?_⟩⟩
      refine ⟨_, rfl, A.p, CT, _, _, _, rfl, hT.ob, X.clT, X.tGot, l_got _ _ _ _, .inl ⟨rfl, _, SqL.of hg1⟩, ?_⟩
      refine ⟨_, rfl, A.p, CT, _, _, _, rfl, hT.ob, X.clT, X.tRows, l_rows _ _ _ _, .inl ⟨rfl, _, SqL.of hT.rl⟩, A.rl, _, .ref ra, rfl, rfl, hT.rl, by simp, ?_⟩
      rw [List.map_cons, popE]
      have hT1 : TuAt CN CT H0 (upd H A.rl (.lst (ras'.map V.ref).reverse)) A tk ⟨J, R, .p p0 :: G, m⟩ ras' := TuAt.popRow (c := ⟨J, [], .p p0 :: G, m⟩) hT
      have hv1 : upd H A.rl (.lst (ras'.map V.ref).reverse) ra = some (.lst vs) := by
        rw [upd_ne (hT.n5 ra List.mem_cons_self).2.1]
        exact hv
      have tk1 : TK H (upd H A.rl (.lst (ras'.map V.ref).reverse)) := tk_put hT.rl
      have hg4 : upd H A.rl (.lst (ras'.map V.ref).reverse) A.gl = some (.lst ((V.ref b1 :: gs).reverse)) := by
        rw [upd_ne hT.n3.symm]
        exact hg1
      have kv1 := kv.imp fun _ _ z => z.tk tk1
      have hb2 := PAt.tk tk1 hb1
      have hg5 := hg3.imp fun _ _ z => z.tk tk1
      have nrg : ra ≠ A.gl := (hT.n5 ra List.mem_cons_self).2.2
      generalize upd H A.rl (.lst (ras'.map V.ref).reverse) = H1 at hT1 hv1 tk1 hg4 kv1 hb2 hg5
      refine ⟨_, rfl, A.p, CT, _, _, _, rfl, hT1.ob, X.clT, X.tGot, l_got _ _ _ _, .inl ⟨rfl, _, SqL.of hg4⟩, A.gl, _, .ref b1, rfl, rfl, hg4, by simp, ?_⟩
      rw [popE]
      have hT2 : TuAt CN CT H0 (upd H1 A.gl (.lst gs.reverse)) A tk ⟨J, R, G, m⟩ ras' := hT1.setGot hg5
      have tk2 : TK H1 (upd H1 A.gl (.lst gs.reverse)) := tk_put hg4
      refine ⟨ra, b1, vs, r, p0, rfl, by rw [upd_ne nrg]; exact hv1, kv1.imp fun _ _ z => z.tk tk2, PAt.tk tk2 hb2, fun H3 b3 s3 h3 => ?_⟩
      have hT3 := hT2.mono s3
      have hgl3 : H3 A.gl = some (.lst gs.reverse) := s3 _ _ upd_same
      have kg3 : All2 (GtV H3) G gs := (hg5.imp fun _ _ z => z.tk tk2).imp fun _ _ z => z.tk (tk_same s3)
      have hl3 := kg3.len
      rw [List.length_cons] at hzg
      refine ⟨A.gl, _, _, rfl, rfl, hgl3, Nat.lt_of_le_of_lt (m := 5000) (by rw [List.length_reverse]; omega) (by decide), ?_⟩
      have hT4 := hT3.setGot (G := .p (putAh r p0) :: G) (gs' := .ref b3 :: gs) ⟨⟨b3, rfl, h3⟩, kg3⟩
      rw [List.reverse_cons] at hT4
      exact q _ _ _ _ .close hT4
    | [], _, _ => cases e1
    | _ :: _, [], _ => cases e2
    | _ :: _, .t _ :: _, _ => cases e2
    | _ :: _, .p _ :: _, [] => exact hg2.elim
  | known t =>
    obtain ⟨b1, h1, h2⟩ := hJ
    refine ⟨_, rfl, b, _, _, _, rfl, rfl, SqT.of h1, at0, ?_⟩
    refine ⟨_, rfl, rfl, _, rfl, itF rfl ⟨_, rfl, rfl, _, rfl, itF rfl ⟨_, rfl, sz (by show 3 ≤ 100000; decide), fun t0 ht0 => ⟨t0, _, rfl, .inr (SqT.of upd_same), rfl, rfl, _, rfl, itF rfl ⟨_, rfl, rfl, _, rfl, itT rfl ?_⟩⟩⟩⟩⟩
    have s0 := same_new ht0 (.tup [.str "let", .str "tell", .str "post"])
    have hT0 := hT.mono s0
    have hg0 := s0 _ _ hg1
    have h10 := s0 _ _ h1
    have kg0 := hg2.imp fun _ _ z => z.tk (tk_same s0)
    refine ⟨_, rfl, A.p, CT, _, _, _, rfl, hT0.ob, X.clT, X.tGot, l_got _ _ _ _, .inl ⟨rfl, _, SqL.of hg0⟩, _, rfl, b, _, _, _, rfl, rfl, SqT.of h10, at1, A.gl, _, _, rfl, rfl, hg0, Nat.lt_of_le_of_lt (m := 5000) (by rw [List.length_reverse]; omega) (by decide), ?_⟩
    have hT4 := hT0.setGot (G := .t t :: G) (gs' := .ref b1 :: gs) ⟨⟨b1, rfl, h2.tk (tk_same s0)⟩, kg0⟩
    rw [List.reverse_cons] at hT4
    exact q _ _ _ _ .known hT4
  | lett x =>
    have h1 : H b = some (.tup [.str "let", .str x]) := hJ
    obtain ⟨g', e1, e2, _⟩ := ho
    match R, G, gs with
    | r :: R, .t s :: G, v :: gs =>
      obtain ⟨⟨b1, rfl, hb1⟩, hg3⟩ := hg2
      obtain ⟨ra, ras', vs, rfl, hv, kv⟩ := hT.top
      refine ⟨_, rfl, b, _, _, _, rfl, rfl, SqT.of h1, at0, ?_⟩
      refine ⟨_, rfl, rfl, _, rfl, itF rfl ⟨_, rfl, rfl, _, rfl, itF rfl ⟨_, rfl, sz (by show 3 ≤ 100000; decide), fun t0 ht0 => ⟨t0, _, rfl, .inr (SqT.of upd_same), rfl, rfl, _, rfl, itT rfl ?_⟩⟩⟩⟩
      have s0 := same_new ht0 (.tup [.str "let", .str "tell", .str "post"])
      have hT0 := hT.mono s0
      have hg0 := s0 _ _ hg1
      have h10 := s0 _ _ h1
      have hv0 := s0 _ _ hv
      have kv0 := kv.imp fun _ _ z => LdV.tk (tk_same s0) z
      have kg0 := hg3.imp fun _ _ z => GtV.tk (tk_same s0) z
      have hb0 := hb1.tk (tk_same s0)
      have hrl0 := hT0.rl
      rw [List.map_cons, List.reverse_cons] at hrl0
      generalize upd H t0 (.tup [.str "let", .str "tell", .str "post"]) = Ha at s0 hT0 hg0 h10 hv0 kv0 kg0 hb0 hrl0
      refine ⟨_, rfl, A.p, CT, _, _, _, rfl, hT0.ob, X.clT, X.tRows, l_rows _ _ _ _, 1, rfl, A.rl, _, _, _, rfl, rfl, SqL.of hrl0, last_at, .inl ⟨rfl, _, SqL.of hv0⟩, ?_⟩
      refine ⟨_, rfl, b, _, rfl, .inl (SqT.of h10), ?_⟩
      refine ⟨_, rfl, A.p, CT, _, _, _, rfl, hT0.ob, X.clT, X.tGot, l_got _ _ _ _, .inl ⟨rfl, _, SqL.of hg0⟩, A.gl, _, .ref b1, rfl, rfl, hg0, by simp, ?_⟩
      rw [popE]
      have hT1 : TuAt CN CT H0 (upd Ha A.gl (.lst gs.reverse)) A tk ⟨J, r :: R, G, m⟩ (ra :: ras') := hT0.setGot kg0
      have tk1 : TK Ha (upd Ha A.gl (.lst gs.reverse)) := tk_put hg0
      have hv1 : upd Ha A.gl (.lst gs.reverse) ra = some (.lst vs) := by
        rw [upd_ne (hT.n5 ra List.mem_cons_self).2.2]
        exact hv0
      have kv1 := kv0.imp fun _ _ z => z.tk tk1
      have hb2 := hb0.tk tk1
      generalize upd Ha A.gl (.lst gs.reverse) = Hb at hT1 tk1 hv1 kv1 hb2
      refine ⟨sz (by show 3 ≤ 100000; decide), fun t2 ht2 => ?_⟩
      have s2 := same_new ht2 (.tup [.str "let", .str x, .ref b1])
      have hT2 := hT1.mono s2
      have hv2 := s2 _ _ hv1
      have kv2 := kv1.imp fun _ _ z => LdV.tk (tk_same s2) z
      have hlv := kv2.len
      have hz1 := hz.l r List.mem_cons_self
      refine ⟨ra, _, _, rfl, rfl, hv2, Nat.lt_of_le_of_lt (m := 5000) (by omega) (by decide), ?_⟩
      have hT3 := TuAt.addLead (c := ⟨J, [], G, m⟩) (l := .lett x s) (v := .ref t2) hT2 hv2 kv2 ⟨t2, b1, rfl, upd_same, hb2.tk (tk_same s2)⟩
      exact q _ _ _ _ .lett hT3
    | [], _, _ => cases e1
    | _ :: _, [], _ => cases e2
    | _ :: _, .p _ :: _, _ => cases e2
    | _ :: _, .t _ :: _, [] => exact hg2.elim
  | tell x =>
    have h1 : H b = some (.tup [.str "tell", .str x]) := hJ
    obtain ⟨g', e1, e2, _⟩ := ho
    match R, G, gs with
    | r :: R, .t s :: G, v :: gs =>
      obtain ⟨⟨b1, rfl, hb1⟩, hg3⟩ := hg2
      obtain ⟨ra, ras', vs, rfl, hv, kv⟩ := hT.top
      refine ⟨_, rfl, b, _, _, _, rfl, rfl, SqT.of h1, at0, ?_⟩
      refine ⟨_, rfl, rfl, _, rfl, itF rfl ⟨_, rfl, rfl, _, rfl, itF rfl ⟨_, rfl, sz (by show 3 ≤ 100000; decide), fun t0 ht0 => ⟨t0, _, rfl, .inr (SqT.of upd_same), rfl, rfl, _, rfl, itT rfl ?_⟩⟩⟩⟩
      have s0 := same_new ht0 (.tup [.str "let", .str "tell", .str "post"])
      have hT0 := hT.mono s0
      have hg0 := s0 _ _ hg1
      have h10 := s0 _ _ h1
      have hv0 := s0 _ _ hv
      have kv0 := kv.imp fun _ _ z => LdV.tk (tk_same s0) z
      have kg0 := hg3.imp fun _ _ z => GtV.tk (tk_same s0) z
      have hb0 := hb1.tk (tk_same s0)
      have hrl0 := hT0.rl
      rw [List.map_cons, List.reverse_cons] at hrl0
      generalize upd H t0 (.tup [.str "let", .str "tell", .str "post"]) = Ha at s0 hT0 hg0 h10 hv0 kv0 kg0 hb0 hrl0
      refine ⟨_, rfl, A.p, CT, _, _, _, rfl, hT0.ob, X.clT, X.tRows, l_rows _ _ _ _, 1, rfl, A.rl, _, _, _, rfl, rfl, SqL.of hrl0, last_at, .inl ⟨rfl, _, SqL.of hv0⟩, ?_⟩
      refine ⟨_, rfl, b, _, rfl, .inl (SqT.of h10), ?_⟩
      refine ⟨_, rfl, A.p, CT, _, _, _, rfl, hT0.ob, X.clT, X.tGot, l_got _ _ _ _, .inl ⟨rfl, _, SqL.of hg0⟩, A.gl, _, .ref b1, rfl, rfl, hg0, by simp, ?_⟩
      rw [popE]
      have hT1 : TuAt CN CT H0 (upd Ha A.gl (.lst gs.reverse)) A tk ⟨J, r :: R, G, m⟩ (ra :: ras') := hT0.setGot kg0
      have tk1 : TK Ha (upd Ha A.gl (.lst gs.reverse)) := tk_put hg0
      have hv1 : upd Ha A.gl (.lst gs.reverse) ra = some (.lst vs) := by
        rw [upd_ne (hT.n5 ra List.mem_cons_self).2.2]
        exact hv0
      have kv1 := kv0.imp fun _ _ z => z.tk tk1
      have hb2 := hb0.tk tk1
      generalize upd Ha A.gl (.lst gs.reverse) = Hb at hT1 tk1 hv1 kv1 hb2
      refine ⟨sz (by show 3 ≤ 100000; decide), fun t2 ht2 => ?_⟩
      have s2 := same_new ht2 (.tup [.str "tell", .str x, .ref b1])
      have hT2 := hT1.mono s2
      have hv2 := s2 _ _ hv1
      have kv2 := kv1.imp fun _ _ z => LdV.tk (tk_same s2) z
      have hlv := kv2.len
      have hz1 := hz.l r List.mem_cons_self
      refine ⟨ra, _, _, rfl, rfl, hv2, Nat.lt_of_le_of_lt (m := 5000) (by omega) (by decide), ?_⟩
      have hT3 := TuAt.addLead (c := ⟨J, [], G, m⟩) (l := .tell x s) (v := .ref t2) hT2 hv2 kv2 ⟨t2, b1, rfl, upd_same, hb2.tk (tk_same s2)⟩
      exact q _ _ _ _ .tell hT3
    | [], _, _ => cases e1
    | _ :: _, [], _ => cases e2
    | _ :: _, .p _ :: _, _ => cases e2
    | _ :: _, .t _ :: _, [] => exact hg2.elim
  | post j x =>
    have h1 : H b = some (.tup [.str "post", .str j, .str x]) := hJ
    obtain ⟨g', e1, e2, _⟩ := ho
    match R, G, gs with
    | r :: R, .p s :: G, v :: gs =>
      obtain ⟨⟨b1, rfl, hb1⟩, hg3⟩ := hg2
      obtain ⟨ra, ras', vs, rfl, hv, kv⟩ := hT.top
      refine ⟨_, rfl, b, _, _, _, rfl, rfl, SqT.of h1, at0, ?_⟩
      refine ⟨_, rfl, rfl, _, rfl, itF rfl ⟨_, rfl, rfl, _, rfl, itF rfl ⟨_, rfl, sz (by show 3 ≤ 100000; decide), fun t0 ht0 => ⟨t0, _, rfl, .inr (SqT.of upd_same), rfl, rfl, _, rfl, itT rfl ?_⟩⟩⟩⟩
      have s0 := same_new ht0 (.tup [.str "let", .str "tell", .str "post"])
      have hT0 := hT.mono s0
      have hg0 := s0 _ _ hg1
      have h10 := s0 _ _ h1
      have hv0 := s0 _ _ hv
      have kv0 := kv.imp fun _ _ z => LdV.tk (tk_same s0) z
      have kg0 := hg3.imp fun _ _ z => GtV.tk (tk_same s0) z
      have hb0 := PAt.tk (tk_same s0) hb1
      have hrl0 := hT0.rl
      rw [List.map_cons, List.reverse_cons] at hrl0
      generalize upd H t0 (.tup [.str "let", .str "tell", .str "post"]) = Ha at s0 hT0 hg0 h10 hv0 kv0 kg0 hb0 hrl0
      refine ⟨_, rfl, A.p, CT, _, _, _, rfl, hT0.ob, X.clT, X.tRows, l_rows _ _ _ _, 1, rfl, A.rl, _, _, _, rfl, rfl, SqL.of hrl0, last_at, .inl ⟨rfl, _, SqL.of hv0⟩, ?_⟩
      refine ⟨_, rfl, b, _, rfl, .inl (SqT.of h10), ?_⟩
      refine ⟨_, rfl, A.p, CT, _, _, _, rfl, hT0.ob, X.clT, X.tGot, l_got _ _ _ _, .inl ⟨rfl, _, SqL.of hg0⟩, A.gl, _, .ref b1, rfl, rfl, hg0, by simp, ?_⟩
      rw [popE]
      have hT1 : TuAt CN CT H0 (upd Ha A.gl (.lst gs.reverse)) A tk ⟨J, r :: R, G, m⟩ (ra :: ras') := hT0.setGot kg0
      have tk1 : TK Ha (upd Ha A.gl (.lst gs.reverse)) := tk_put hg0
      have hv1 : upd Ha A.gl (.lst gs.reverse) ra = some (.lst vs) := by
        rw [upd_ne (hT.n5 ra List.mem_cons_self).2.2]
        exact hv0
      have kv1 := kv0.imp fun _ _ z => z.tk tk1
      have hb2 := PAt.tk tk1 hb0
      generalize upd Ha A.gl (.lst gs.reverse) = Hb at hT1 tk1 hv1 kv1 hb2
      refine ⟨sz (by show 4 ≤ 100000; decide), fun t2 ht2 => ?_⟩
      have s2 := same_new ht2 (.tup [.str "post", .str j, .str x, .ref b1])
      have hT2 := hT1.mono s2
      have hv2 := s2 _ _ hv1
      have kv2 := kv1.imp fun _ _ z => LdV.tk (tk_same s2) z
      have hlv := kv2.len
      have hz1 := hz.l r List.mem_cons_self
      refine ⟨ra, _, _, rfl, rfl, hv2, Nat.lt_of_le_of_lt (m := 5000) (by omega) (by decide), ?_⟩
      have hT3 := TuAt.addLead (c := ⟨J, [], G, m⟩) (l := .post j x s) (v := .ref t2) hT2 hv2 kv2 ⟨t2, b1, rfl, upd_same, PAt.tk (tk_same s2) hb2⟩
      exact q _ _ _ _ .post hT3
    | [], _, _ => cases e1
    | _ :: _, [], _ => cases e2
    | _ :: _, .t _ :: _, _ => cases e2
    | _ :: _, .p _ :: _, [] => exact hg2.elim
  | ask f n j =>
    have h1 : H b = some (.tup [.str "ask", .str f, .int (n : Int), .str j]) := hJ
    obtain ⟨g', e1, _⟩ := ho
    refine ⟨_, rfl, b, _, _, _, rfl, rfl, SqT.of h1, at0, ?_⟩
    refine ⟨_, rfl, rfl, _, rfl, itF rfl ⟨_, rfl, rfl, _, rfl, itF rfl ⟨_, rfl, sz (by show 3 ≤ 100000; decide), fun t0 ht0 => ⟨t0, _, rfl, .inr (SqT.of upd_same), rfl, rfl, _, rfl, itF rfl ⟨_, rfl, rfl, _, rfl, itF rfl ⟨_, rfl, rfl, _, rfl, itT rfl ?_⟩⟩⟩⟩⟩⟩
    have s0 := same_new ht0 (.tup [.str "let", .str "tell", .str "post"])
    have hT0 := hT.mono s0
    have hg0 := s0 _ _ hg1
    have h10 := s0 _ _ h1
    generalize hHa : upd H t0 (.tup [.str "let", .str "tell", .str "post"]) = Ha at s0 hT0 hg0 h10
    obtain ⟨ts, G2, gs1, gs2, a1, a2, a3, a4, a5, a6, _⟩ := taken_split (hg2.imp fun _ _ z => GtV.tk (tk_same s0) z) e1
    subst a1 a2 a3
    have hd := drop_rev (gs1 := gs1) (gs2 := gs2)
    rw [a6] at hd
    refine ⟨_, rfl, A.p, CT, _, _, _, rfl, hT0.ob, X.clT, X.tGot, l_got _ _ _ _, .inl ⟨rfl, _, SqL.of hg0⟩, ?_⟩
    refine ⟨_, rfl, _, rfl, b, _, _, _, rfl, rfl, SqT.of h10, at1, ?_⟩
    refine ⟨_, rfl, A.p, CT, _, _, _, rfl, hT0.ob, X.clT, X.tGot, l_got _ _ _ _, _, rfl, b, _, _, _, rfl, rfl, SqT.of h10, at2, A.gl, _, ts.length, rfl, hg0, by simp; omega, fun H2 v s2 hv => ?_⟩
    rw [hd.1] at hv
    rw [hd.2]
    have hT2 := hT0.mono s2
    have a5' : All2 (GtV H2) G2 gs2 := a5.imp fun _ _ z => GtV.tk (tk_same s2) z
    have hT3 : TuAt CN CT H0 (upd H2 A.gl (.lst gs2.reverse)) A tk ⟨J, R, G2, m⟩ ras := hT2.setGot a5'
    have hgl2 := s2 _ _ hg0
    have tk3 : TK H2 (upd H2 A.gl (.lst gs2.reverse)) := tk_put hgl2
    have h13 := tk3 _ _ (s2 _ _ h10)
    have hv3 := tk3 _ _ hv
    have a43 : All2 (RefV (upd H2 A.gl (.lst gs2.reverse))) ts gs1 := a4.imp fun _ _ z => (RefV.tk (tk_same s2) z).tk tk3
    have hgl3 : upd H2 A.gl (.lst gs2.reverse) A.gl = some (.lst gs2.reverse) := upd_same
    have a53 : All2 (GtV (upd H2 A.gl (.lst gs2.reverse))) G2 gs2 := a5'.imp fun _ _ z => GtV.tk tk3 z
    generalize upd H2 A.gl (.lst gs2.reverse) = H3 at hT3 h13 hv3 a43 hgl3 a53 tk3
    refine ⟨_, rfl, b, _, _, _, rfl, rfl, SqT.of h13, at3, sz (by show 4 ≤ 100000; decide), fun t3 ht3 => ?_⟩
    have s4 := same_new ht3 (.tup [.str "ask", .str f, .ref v, .str j])
    have hT4 := hT3.mono s4
    have hl2 := a5.len
    rw [List.length_append] at hzg
    refine ⟨A.gl, _, _, rfl, rfl, s4 _ _ hgl3, Nat.lt_of_le_of_lt (m := 5000) (by rw [List.length_reverse]; omega) (by decide), ?_⟩
    have hT5 := hT4.setGot (G := .p (.ask f ts j) :: G2) (gs' := .ref t3 :: gs2) ⟨⟨t3, rfl, v, gs1, upd_same, s4 _ _ hv3, a43.imp fun _ _ z => RefV.tk (tk_same s4) z⟩, a53.imp fun _ _ z => GtV.tk (tk_same s4) z⟩
    rw [List.reverse_cons] at hT5
    exact q _ _ _ _ .ask hT5
  | give j =>
    have h1 : H b = some (.tup [.str "give", .str j]) := hJ
    obtain ⟨g', e2, _⟩ := ho
    match G, gs with
    | .t s :: G, v :: gs =>
      obtain ⟨⟨b1, rfl, hb1⟩, hg3⟩ := hg2
      refine ⟨_, rfl, b, _, _, _, rfl, rfl, SqT.of h1, at0, ?_⟩
      refine ⟨_, rfl, rfl, _, rfl, itF rfl ⟨_, rfl, rfl, _, rfl, itF rfl ⟨_, rfl, sz (by show 3 ≤ 100000; decide), fun t0 ht0 => ⟨t0, _, rfl, .inr (SqT.of upd_same), rfl, rfl, _, rfl, itF rfl ⟨_, rfl, rfl, _, rfl, itF rfl ⟨_, rfl, rfl, _, rfl, itF rfl ⟨_, rfl, rfl, _, rfl, itT rfl ?_⟩⟩⟩⟩⟩⟩⟩
      have s0 := same_new ht0 (.tup [.str "let", .str "tell", .str "post"])
      have hT0 := hT.mono s0
      have hg0 := s0 _ _ hg1
      have h10 := s0 _ _ h1
      generalize hHa : upd H t0 (.tup [.str "let", .str "tell", .str "post"]) = Ha at s0 hT0 hg0 h10
      have kg0 := hg3.imp fun _ _ z => GtV.tk (tk_same s0) z
      have hb0 := hb1.tk (tk_same s0)
      refine ⟨_, rfl, A.p, CT, _, _, _, rfl, hT0.ob, X.clT, X.tGot, l_got _ _ _ _, .inl ⟨rfl, _, SqL.of hg0⟩, ?_⟩
      refine ⟨_, rfl, b, _, rfl, .inl (SqT.of h10), ?_⟩
      refine ⟨_, rfl, A.p, CT, _, _, _, rfl, hT0.ob, X.clT, X.tGot, l_got _ _ _ _, .inl ⟨rfl, _, SqL.of hg0⟩, A.gl, _, .ref b1, rfl, rfl, hg0, by simp, ?_⟩
      rw [popE]
      have hT1 : TuAt CN CT H0 (upd Ha A.gl (.lst gs.reverse)) A tk ⟨J, R, G, m⟩ ras := hT0.setGot kg0
      have tk1 : TK Ha (upd Ha A.gl (.lst gs.reverse)) := tk_put hg0
      have kg1 := kg0.imp fun _ _ z => z.tk tk1
      have hb2 := hb0.tk tk1
      have hgl1 : upd Ha A.gl (.lst gs.reverse) A.gl = some (.lst gs.reverse) := upd_same
      generalize upd Ha A.gl (.lst gs.reverse) = Hb at hT1 tk1 kg1 hb2 hgl1
      refine ⟨sz (by show 3 ≤ 100000; decide), fun t2 ht2 => ?_⟩
      have s2 := same_new ht2 (.tup [.str "give", .str j, .ref b1])
      have hT2 := hT1.mono s2
      have hlg := kg1.len
      rw [List.length_cons] at hzg
      refine ⟨A.gl, _, _, rfl, rfl, s2 _ _ hgl1, Nat.lt_of_le_of_lt (m := 5000) (by rw [List.length_reverse]; omega) (by decide), ?_⟩
      have hT3 := hT2.setGot (G := .p (.give j s) :: G) (gs' := .ref t2 :: gs) ⟨⟨t2, rfl, b1, upd_same, hb2.tk (tk_same s2)⟩, kg1.imp fun _ _ z => GtV.tk (tk_same s2) z⟩
      rw [List.reverse_cons] at hT3
      exact q _ _ _ _ .give hT3
    | [], _ => cases e2
    | .p _ :: _, _ => cases e2
    | .t _ :: _, [] => exact hg2.elim
  | iff =>
    have h1 : H b = some (.tup [.str "if"]) := hJ
    obtain ⟨g', e2, _⟩ := ho
    match G, gs with
    | .p c0 :: .p c1 :: .t c2 :: G, v0 :: v1 :: v2 :: gs =>
      obtain ⟨⟨b0, rfl, hb0⟩, ⟨b1, rfl, hb1⟩, ⟨b2, rfl, hb2⟩, hg3⟩ := hg2
      refine ⟨_, rfl, b, _, _, _, rfl, rfl, SqT.of h1, at0, ?_⟩
      refine ⟨_, rfl, rfl, _, rfl, itF rfl ⟨_, rfl, rfl, _, rfl, itF rfl ⟨_, rfl, sz (by show 3 ≤ 100000; decide), fun t0 ht0 => ⟨t0, _, rfl, .inr (SqT.of upd_same), rfl, rfl, _, rfl, itF rfl ⟨_, rfl, rfl, _, rfl, itF rfl ⟨_, rfl, rfl, _, rfl, itF rfl ⟨_, rfl, rfl, _, rfl, itF rfl ⟨_, rfl, rfl, _, rfl, itT rfl ?_⟩⟩⟩⟩⟩⟩⟩⟩
      have s0 := same_new ht0 (.tup [.str "let", .str "tell", .str "post"])
      have hT0 := hT.mono s0
      have hg0 := s0 _ _ hg1
      have h10 := s0 _ _ h1
      generalize hHa : upd H t0 (.tup [.str "let", .str "tell", .str "post"]) = Ha at s0 hT0 hg0 h10
      have kg0 := hg3.imp fun _ _ z => GtV.tk (tk_same s0) z
      have hc0 := PAt.tk (tk_same s0) hb0
      have hc1 := PAt.tk (tk_same s0) hb1
      have hc2 := At.tk (tk_same s0) hb2
      refine ⟨_, rfl, A.p, CT, _, _, _, rfl, hT0.ob, X.clT, X.tGot, l_got _ _ _ _, .inl ⟨rfl, _, SqL.of hg0⟩, ?_⟩
      have hd := drop_rev (gs1 := [V.ref b2, V.ref b1, V.ref b0]) (gs2 := gs)
      have e9 : (V.ref b0 :: V.ref b1 :: V.ref b2 :: gs : List V) = [V.ref b2, V.ref b1, V.ref b0].reverse ++ gs := rfl
      rw [e9] at hg0
      refine ⟨_, rfl, _, rfl, A.p, CT, _, _, _, rfl, hT0.ob, X.clT, X.tGot, l_got _ _ _ _, A.gl, _, 3, rfl, hg0, by simp, fun H2 v s2 hv => ?_⟩
      have hv' : H2 v = some (.tup [V.ref b2, V.ref b1, V.ref b0]) := hv.trans (congrArg (fun z => some (HO.tup z)) hd.1)
      have hd2 : ([V.ref b2, V.ref b1, V.ref b0].reverse ++ gs).reverse.take (([V.ref b2, V.ref b1, V.ref b0].reverse ++ gs).reverse.length - 3) = gs.reverse := hd.2
      rw [hd2]
      have hT2 := hT0.mono s2
      have kg2 : All2 (GtV H2) G gs := kg0.imp fun _ _ z => GtV.tk (tk_same s2) z
      have hT3 : TuAt CN CT H0 (upd H2 A.gl (.lst gs.reverse)) A tk ⟨J, R, G, m⟩ ras := hT2.setGot kg2
      have tk3 : TK H2 (upd H2 A.gl (.lst gs.reverse)) := tk_put (s2 _ _ hg0)
      have hv3 := tk3 _ _ hv'
      have kg3 := kg2.imp fun _ _ z => GtV.tk tk3 z
      have tk03 := (tk_same s2).trans tk3
      have hd0 := PAt.tk tk03 hc0
      have hd1 := PAt.tk tk03 hc1
      have hd2x := At.tk tk03 hc2
      have hgl3 : upd H2 A.gl (.lst gs.reverse) A.gl = some (.lst gs.reverse) := upd_same
      generalize upd H2 A.gl (.lst gs.reverse) = H3 at hT3 hv3 kg3 tk3 tk03 hgl3 hd0 hd1 hd2x
      refine ⟨v, _, rfl, .inl (SqT.of hv3), sz (by show 4 ≤ 100000; decide), fun t3 ht3 => ?_⟩
      have s4 := same_new ht3 (.tup (.str "if" :: [V.ref b2, V.ref b1, V.ref b0]))
      have hT4 := hT3.mono s4
      have hlg := kg3.len
      simp only [List.length_cons] at hzg
      refine ⟨A.gl, _, _, rfl, rfl, s4 _ _ hgl3, Nat.lt_of_le_of_lt (m := 5000) (by rw [List.length_reverse]; omega) (by decide), ?_⟩
      have hT5 := hT4.setGot (G := .p (.iff c2 c1 c0) :: G) (gs' := .ref t3 :: gs) ⟨⟨t3, rfl, b2, b1, b0, upd_same, hd2x.tk (tk_same s4), PAt.tk (tk_same s4) hd1, PAt.tk (tk_same s4) hd0⟩, kg3.imp fun _ _ z => GtV.tk (tk_same s4) z⟩
      rw [List.reverse_cons] at hT5
      exact q _ _ _ _ .iff hT5
    | [], _ => cases e2
    | .t _ :: _, _ => cases e2
    | .p _ :: [], _ => cases e2
    | .p _ :: .t _ :: _, _ => cases e2
    | .p _ :: .p _ :: [], _ => cases e2
    | .p _ :: .p _ :: .p _ :: _, _ => cases e2
    | .p _ :: .p _ :: .t _ :: _, [] => exact hg2.elim
    | .p _ :: .p _ :: .t _ :: _, [_] => exact hg2.2.elim
    | .p _ :: .p _ :: .t _ :: _, [_, _] => exact hg2.2.2.elim
  | op l =>
    cases l with
    | false =>
      have h1 : H b = some (.tup [.str "plus"]) := hJ
      obtain ⟨g', e2, _⟩ := ho
      match G, gs with
      | .t c0 :: .t c1 :: G, v0 :: v1 :: gs =>
        obtain ⟨⟨b0, rfl, hb0⟩, ⟨b1, rfl, hb1⟩, hg3⟩ := hg2
        refine ⟨_, rfl, b, _, _, _, rfl, rfl, SqT.of h1, at0, ?_⟩
        refine ⟨_, rfl, rfl, _, rfl, itF rfl ⟨_, rfl, rfl, _, rfl, itF rfl ⟨_, rfl, sz (by show 3 ≤ 100000; decide), fun t0 ht0 => ⟨t0, _, rfl, .inr (SqT.of upd_same), rfl, rfl, _, rfl, itF rfl ⟨_, rfl, rfl, _, rfl, itF rfl ⟨_, rfl, rfl, _, rfl, itF rfl ⟨_, rfl, rfl, _, rfl, itF rfl ⟨_, rfl, rfl, _, rfl, itF rfl ?_⟩⟩⟩⟩⟩⟩⟩⟩
        have s0 := same_new ht0 (.tup [.str "let", .str "tell", .str "post"])
        have hT0 := hT.mono s0
        have hg0 := s0 _ _ hg1
        have h10 := s0 _ _ h1
        generalize hHa : upd H t0 (.tup [.str "let", .str "tell", .str "post"]) = Ha at s0 hT0 hg0 h10
        have kg0 := hg3.imp fun _ _ z => GtV.tk (tk_same s0) z
        have hc0 := At.tk (tk_same s0) hb0
        have hc1 := At.tk (tk_same s0) hb1
        refine ⟨_, rfl, A.p, CT, _, _, _, rfl, hT0.ob, X.clT, X.tGot, l_got _ _ _ _, .inl ⟨rfl, _, SqL.of hg0⟩, ?_⟩
        have hd := drop_rev (gs1 := [V.ref b1, V.ref b0]) (gs2 := gs)
        have e9 : (V.ref b0 :: V.ref b1 :: gs : List V) = [V.ref b1, V.ref b0].reverse ++ gs := rfl
        rw [e9] at hg0
        refine ⟨_, rfl, _, rfl, A.p, CT, _, _, _, rfl, hT0.ob, X.clT, X.tGot, l_got _ _ _ _, A.gl, _, 2, rfl, hg0, by simp, fun H2 v s2 hv => ?_⟩
        have hv' : H2 v = some (.tup [V.ref b1, V.ref b0]) := hv.trans (congrArg (fun z => some (HO.tup z)) hd.1)
        have hd2 : ([V.ref b1, V.ref b0].reverse ++ gs).reverse.take (([V.ref b1, V.ref b0].reverse ++ gs).reverse.length - 2) = gs.reverse := hd.2
        rw [hd2]
        have hT2 := hT0.mono s2
        have kg2 : All2 (GtV H2) G gs := kg0.imp fun _ _ z => GtV.tk (tk_same s2) z
        have hT3 : TuAt CN CT H0 (upd H2 A.gl (.lst gs.reverse)) A tk ⟨J, R, G, m⟩ ras := hT2.setGot kg2
        have tk3 : TK H2 (upd H2 A.gl (.lst gs.reverse)) := tk_put (s2 _ _ hg0)
        have hv3 := tk3 _ _ hv'
        have kg3 := kg2.imp fun _ _ z => GtV.tk tk3 z
        have tk03 := (tk_same s2).trans tk3
        have hd0 := At.tk tk03 hc0
        have hd1 := At.tk tk03 hc1
        have hgl3 : upd H2 A.gl (.lst gs.reverse) A.gl = some (.lst gs.reverse) := upd_same
        generalize upd H2 A.gl (.lst gs.reverse) = H3 at hT3 hv3 kg3 tk3 tk03 hgl3 hd0 hd1
        refine ⟨v, _, rfl, .inl (SqT.of hv3), sz (by show 3 ≤ 100000; decide), fun t3 ht3 => ?_⟩
        have s4 := same_new ht3 (.tup (.str "plus" :: [V.ref b1, V.ref b0]))
        have hT4 := hT3.mono s4
        have hlg := kg3.len
        simp only [List.length_cons] at hzg
        refine ⟨A.gl, _, _, rfl, rfl, s4 _ _ hgl3, Nat.lt_of_le_of_lt (m := 5000) (by rw [List.length_reverse]; omega) (by decide), ?_⟩
        have hT5 := hT4.setGot (G := .t (mkOp false c1 c0) :: G) (gs' := .ref t3 :: gs) ⟨⟨t3, rfl, two_at (l := false) upd_same (hd1.tk (tk_same s4)) (hd0.tk (tk_same s4))⟩, kg3.imp fun _ _ z => GtV.tk (tk_same s4) z⟩
        rw [List.reverse_cons] at hT5
        exact q _ _ _ _ .op hT5
      | [], _ => cases e2
      | .p _ :: _, _ => cases e2
      | .t _ :: [], _ => cases e2
      | .t _ :: .p _ :: _, _ => cases e2
      | .t _ :: .t _ :: _, [] => exact hg2.elim
      | .t _ :: .t _ :: _, [_] => exact hg2.2.elim
    | true =>
      have h1 : H b = some (.tup [.str "less"]) := hJ
      obtain ⟨g', e2, _⟩ := ho
      match G, gs with
      | .t c0 :: .t c1 :: G, v0 :: v1 :: gs =>
        obtain ⟨⟨b0, rfl, hb0⟩, ⟨b1, rfl, hb1⟩, hg3⟩ := hg2
        refine ⟨_, rfl, b, _, _, _, rfl, rfl, SqT.of h1, at0, ?_⟩
        refine ⟨_, rfl, rfl, _, rfl, itF rfl ⟨_, rfl, rfl, _, rfl, itF rfl ⟨_, rfl, sz (by show 3 ≤ 100000; decide), fun t0 ht0 => ⟨t0, _, rfl, .inr (SqT.of upd_same), rfl, rfl, _, rfl, itF rfl ⟨_, rfl, rfl, _, rfl, itF rfl ⟨_, rfl, rfl, _, rfl, itF rfl ⟨_, rfl, rfl, _, rfl, itF rfl ⟨_, rfl, rfl, _, rfl, itF rfl ?_⟩⟩⟩⟩⟩⟩⟩⟩
        have s0 := same_new ht0 (.tup [.str "let", .str "tell", .str "post"])
        have hT0 := hT.mono s0
        have hg0 := s0 _ _ hg1
        have h10 := s0 _ _ h1
        generalize hHa : upd H t0 (.tup [.str "let", .str "tell", .str "post"]) = Ha at s0 hT0 hg0 h10
        have kg0 := hg3.imp fun _ _ z => GtV.tk (tk_same s0) z
        have hc0 := At.tk (tk_same s0) hb0
        have hc1 := At.tk (tk_same s0) hb1
        refine ⟨_, rfl, A.p, CT, _, _, _, rfl, hT0.ob, X.clT, X.tGot, l_got _ _ _ _, .inl ⟨rfl, _, SqL.of hg0⟩, ?_⟩
        have hd := drop_rev (gs1 := [V.ref b1, V.ref b0]) (gs2 := gs)
        have e9 : (V.ref b0 :: V.ref b1 :: gs : List V) = [V.ref b1, V.ref b0].reverse ++ gs := rfl
        rw [e9] at hg0
        refine ⟨_, rfl, _, rfl, A.p, CT, _, _, _, rfl, hT0.ob, X.clT, X.tGot, l_got _ _ _ _, A.gl, _, 2, rfl, hg0, by simp, fun H2 v s2 hv => ?_⟩
        have hv' : H2 v = some (.tup [V.ref b1, V.ref b0]) := hv.trans (congrArg (fun z => some (HO.tup z)) hd.1)
        have hd2 : ([V.ref b1, V.ref b0].reverse ++ gs).reverse.take (([V.ref b1, V.ref b0].reverse ++ gs).reverse.length - 2) = gs.reverse := hd.2
        rw [hd2]
        have hT2 := hT0.mono s2
        have kg2 : All2 (GtV H2) G gs := kg0.imp fun _ _ z => GtV.tk (tk_same s2) z
        have hT3 : TuAt CN CT H0 (upd H2 A.gl (.lst gs.reverse)) A tk ⟨J, R, G, m⟩ ras := hT2.setGot kg2
        have tk3 : TK H2 (upd H2 A.gl (.lst gs.reverse)) := tk_put (s2 _ _ hg0)
        have hv3 := tk3 _ _ hv'
        have kg3 := kg2.imp fun _ _ z => GtV.tk tk3 z
        have tk03 := (tk_same s2).trans tk3
        have hd0 := At.tk tk03 hc0
        have hd1 := At.tk tk03 hc1
        have hgl3 : upd H2 A.gl (.lst gs.reverse) A.gl = some (.lst gs.reverse) := upd_same
        generalize upd H2 A.gl (.lst gs.reverse) = H3 at hT3 hv3 kg3 tk3 tk03 hgl3 hd0 hd1
        refine ⟨v, _, rfl, .inl (SqT.of hv3), sz (by show 3 ≤ 100000; decide), fun t3 ht3 => ?_⟩
        have s4 := same_new ht3 (.tup (.str "less" :: [V.ref b1, V.ref b0]))
        have hT4 := hT3.mono s4
        have hlg := kg3.len
        simp only [List.length_cons] at hzg
        refine ⟨A.gl, _, _, rfl, rfl, s4 _ _ hgl3, Nat.lt_of_le_of_lt (m := 5000) (by rw [List.length_reverse]; omega) (by decide), ?_⟩
        have hT5 := hT4.setGot (G := .t (mkOp true c1 c0) :: G) (gs' := .ref t3 :: gs) ⟨⟨t3, rfl, two_at (l := true) upd_same (hd1.tk (tk_same s4)) (hd0.tk (tk_same s4))⟩, kg3.imp fun _ _ z => GtV.tk (tk_same s4) z⟩
        rw [List.reverse_cons] at hT5
        exact q _ _ _ _ .op hT5
      | [], _ => cases e2
      | .p _ :: _, _ => cases e2
      | .t _ :: [], _ => cases e2
      | .t _ :: .p _ :: _, _ => cases e2
      | .t _ :: .t _ :: _, [] => exact hg2.elim
      | .t _ :: .t _ :: _, [_] => exact hg2.2.elim
end
end KB

namespace KB
open PySem L2 HT

/-! ### go -/
def SzB (n : Nat) (R : List (List Ld)) (G : List Gt) : Prop := R.length ≤ n ∧ G.length ≤ n ∧ ∀ r ∈ R, r.length ≤ n
theorem Fin.sz {j : Jb} {R R1 : List (List Ld)} {G G1 : List Gt} {n : Nat} (f : Fin j R G R1 G1) (h : SzB n R G) : SzB (n + 1) R1 G1 := by
  obtain ⟨h1, h2, h3⟩ := h
  cases f with
  | row => exact ⟨by rw [List.length_cons]; omega, by omega, fun r hr => by
      rcases List.mem_cons.mp hr with z | z
      · subst z; exact Nat.zero_le _
      · exact Nat.le_succ_of_le (h3 r z)⟩
  | close =>
    rw [List.length_cons] at h1 h2
    exact ⟨by omega, by rw [List.length_cons]; omega, fun r hr => Nat.le_succ_of_le (h3 r (List.mem_cons_of_mem _ hr))⟩
  | lett =>
    rw [List.length_cons] at h1 h2
    refine ⟨by rw [List.length_cons]; omega, by omega, fun r hr => ?_⟩
    rcases List.mem_cons.mp hr with z | z
    · subst z
      have := h3 _ List.mem_cons_self
      rw [List.length_append, List.length_singleton]
      omega
    · exact Nat.le_succ_of_le (h3 r (List.mem_cons_of_mem _ z))
  | tell =>
    rw [List.length_cons] at h1 h2
    refine ⟨by rw [List.length_cons]; omega, by omega, fun r hr => ?_⟩
    rcases List.mem_cons.mp hr with z | z
    · subst z
      have := h3 _ List.mem_cons_self
      rw [List.length_append, List.length_singleton]
      omega
    · exact Nat.le_succ_of_le (h3 r (List.mem_cons_of_mem _ z))
  | post =>
    rw [List.length_cons] at h1 h2
    refine ⟨by rw [List.length_cons]; omega, by omega, fun r hr => ?_⟩
    rcases List.mem_cons.mp hr with z | z
    · subst z
      have := h3 _ List.mem_cons_self
      rw [List.length_append, List.length_singleton]
      omega
    · exact Nat.le_succ_of_le (h3 r (List.mem_cons_of_mem _ z))
  | known => exact ⟨by omega, by rw [List.length_cons]; omega, fun r hr => Nat.le_succ_of_le (h3 r hr)⟩
  | ask =>
    rw [List.length_append] at h2
    exact ⟨by omega, by rw [List.length_cons]; omega, fun r hr => Nat.le_succ_of_le (h3 r hr)⟩
  | give => exact ⟨by omega, by simp only [List.length_cons] at h2 ⊢; omega, fun r hr => Nat.le_succ_of_le (h3 r hr)⟩
  | iff => exact ⟨by omega, by simp only [List.length_cons] at h2 ⊢; omega, fun r hr => Nat.le_succ_of_le (h3 r hr)⟩
  | op => exact ⟨by omega, by simp only [List.length_cons] at h2 ⊢; omega, fun r hr => Nat.le_succ_of_le (h3 r hr)⟩
theorem kG_ts (ts : List Tm) : (ts.map Gt.t).reverse.map kG = List.replicate ts.length false := by
  rw [List.map_reverse, List.map_map]
  have : (kG ∘ Gt.t) = fun _ => false := rfl
  rw [this, List.map_const', List.reverse_replicate]
theorem Fin.ok {j : Jb} {J : List Jb} {R R1 : List (List Ld)} {G G1 : List Gt} (f : Fin j R G R1 G1) (o : okJ (j :: J) R.length (G.map kG)) : okJ J R1.length (G1.map kG) := by
  cases f with
  | row => exact o
  | close =>
    obtain ⟨r', g', e1, e2, o⟩ := o
    rw [List.length_cons] at e1
    cases Nat.succ.inj e1
    cases (List.cons.inj e2).2
    exact o
  | lett =>
    obtain ⟨g', _, e2, o⟩ := o
    cases (List.cons.inj e2).2
    exact o
  | tell =>
    obtain ⟨g', _, e2, o⟩ := o
    cases (List.cons.inj e2).2
    exact o
  | post =>
    obtain ⟨g', _, e2, o⟩ := o
    cases (List.cons.inj e2).2
    exact o
  | known => exact o
  | ask =>
    obtain ⟨g', e2, o⟩ := o
    rw [List.map_append, kG_ts] at e2
    cases List.append_cancel_left e2
    exact o
  | give =>
    obtain ⟨g', e2, o⟩ := o
    cases (List.cons.inj e2).2
    exact o
  | iff =>
    obtain ⟨g', e2, o⟩ := o
    cases (List.cons.inj (List.cons.inj (List.cons.inj e2).2).2).2
    exact o
  | op =>
    obtain ⟨g', e2, o⟩ := o
    cases (List.cons.inj (List.cons.inj e2).2).2
    exact o
def jn : Jb → Str
  | .row => "row"
  | .done _ _ => "done"
  | .put _ _ => "put"
  | .simple _ => "simple"
  | .known _ => "known"
  | .close => "close"
  | .lett _ => "let"
  | .tell _ => "tell"
  | .post _ _ => "post"
  | .ask _ _ _ => "ask"
  | .give _ => "give"
  | .iff => "if"
  | .op l => if l then "less" else "plus"
theorem JbA.head {H : Hp} {q : Addr} {j : Jb} (h : JbA H q j) : ∃ r, H q = some (.tup (.str (jn j) :: r)) := by
  cases j with
  | done t j => obtain ⟨b, h1, h2⟩ := h; exact ⟨_, h1⟩
  | put t x => obtain ⟨b, h1, h2⟩ := h; exact ⟨_, h1⟩
  | simple t => obtain ⟨b, h1, h2⟩ := h; exact ⟨_, h1⟩
  | known t => obtain ⟨b, h1, h2⟩ := h; exact ⟨_, h1⟩
  | _ => exact ⟨_, h⟩
theorem jn_mk (j : Jb) : inV (.str (jn j)) [.str "done", .str "put", .str "simple"] = isMk j := by
  cases j with
  | op l => cases l <;> rfl
  | _ => rfl
theorem JbA.okm {H : Hp} {q : Addr} {j : Jb} (h : JbA H q j) (hm : isMk j = true) (w : Str) : wJs (mkJ j w) < wJ j ∧ ∀ {J : List Jb} {r : Nat} {g : List Bool}, okJ (j :: J) r g → okJ (mkJ j w ++ J) r g := by
  cases j with
  | done t j => obtain ⟨b, h1, h2⟩ := h; exact ⟨w_done t j h2.ar, fun o => ok_done h2.ar o⟩
  | put t x => obtain ⟨b, h1, h2⟩ := h; exact ⟨w_put t x w h2.ar, fun o => ok_put h2.ar o⟩
  | simple t => obtain ⟨b, h1, h2⟩ := h; exact ⟨w_simple t w h2.ar, fun o => ok_simp h2.ar o⟩
  | _ => cases hm
theorem run_mk {tk : List Str} {j : Jb} {w : Str} {J : List Jb} {R G m m' R2 G2 m2} (hm : isMk j = true) (h1 : wordJ j = true → NwR tk m w m') (h2 : wordJ j = false → m' = m) (h : Run tk (mkJ j w ++ J) R G m' R2 G2 m2) : Run tk (j :: J) R G m R2 G2 m2 := by
  cases j with
  | done t j => cases h2 rfl; exact .done h
  | put t x => exact .put h1 h2 h
  | simple t => exact .simple h1 h2 h
  | _ => cases hm
theorem nw_le {tk : List Str} {m : Nat} {w : Str} {m' : Nat} {b : Bool} (h1 : b = true → NwR tk m w m') (h2 : b = false → m' = m) (ht : tk.length ≤ 200) : m' ≤ m + 201 := by
  cases b with
  | true =>
    obtain ⟨k, k1, k2, _, _, k3⟩ := h1 rfl
    omega
  | false =>
    have := h2 rfl
    omega
section
variable {P : Program} {w : World} {K : PySem.W.Frag} {mg : Str → Option Value} {base : Heap} {CN CT : Addr}
def spGo (CN CT : Addr) : Sp := fun vs H Q _ => ∃ (H0 : Hp) (A : TuA) (tk : List Str) (m0 : Nat) (l : Addr) (J : List Jb) (us : List V), vs = [.ref A.p, .ref l] ∧ TuAt CN CT H0 H A tk ⟨[], [], [], m0⟩ [] ∧ H l = some (.lst us) ∧ All2 (JbV H) J us ∧ okJ J 0 [] ∧
  wJs J ≤ 2000 ∧ tk.length ≤ 200 ∧ m0 ≤ 1000 ∧ ∀ H' q m', Run tk J [] [] m0 [] [.p q] m' → TuAt CN CT H0 H' A tk ⟨[], [], [.p q], m'⟩ [] → Q .non H'
abbrev sGo : Stmt := inClass (top 18) 1
theorem scGo : FnScope ["self", "jobs", "job"] ["self", "jobs"] (defScope sGo) := ⟨rfl, rfl, rfl, by decide +kernel, rfl, by decide +kernel, by decide +kernel⟩
def GoW (CN CT : Addr) (H0 : Hp) (A : TuA) (tk : List Str) (J : List Jb) (m0 : Nat) (l : Addr) (μ : Nat) (σ : St) (H' : Hp) : Prop := ∃ (c : Cg) (ras : List Addr) (o : Option V) (n : Nat), σ = [some (.ref A.p), some (.ref l), o] ∧ TuAt CN CT H0 H' A tk c ras ∧ μ = wJs c.jobs ∧ okJ c.jobs c.rows.length (c.got.map kG) ∧
  SzB n c.rows c.got ∧ n + wJs c.jobs ≤ 2000 ∧ c.m + 300 * wJs c.jobs ≤ 700000 ∧ ∀ R2 G2 m2, Run tk c.jobs c.rows c.got c.m R2 G2 m2 → Run tk J [] [] m0 R2 G2 m2
theorem ok_go (X : TxN K mg CN CT) {f g1 g2 : Addr} {fd d1 d2 : FuncData} (F : Fun K "go" "Turning.go" sGo f fd) (G1 : FnOk P w K mg base CX0 4 g1 d1 ["self", "job"] (spJof CN CT)) (b1 : Binds K d1 ["self", "job"] []) (m1 : Meth K CT "jobs_of" g1)
    (G2 : FnOk P w K mg base CX0 2 g2 d2 ["self", "job"] (spFin CN CT)) (b2 : Binds K d2 ["self", "job"] []) (m2 : Meth K CT "finish" g2) : FnOk P w K mg base CX0 5 f fd ["self", "jobs"] (spGo CN CT) := by
  refine F.ok scGo (fun vs H Q E h => ?_) (fun cdv A outer s H vs Q E hr h => ?_)
  · obtain ⟨H0, A, tk, m0, l, J, us, rfl, _⟩ := h
    rfl
  obtain ⟨H0, A, tk, m0, l, J, us, rfl, hT, hl, kJ, hok, hw, htk, hm0, q⟩ := h
  refine ⟨_, (pss_cons (ps_expr (pe_bm PySem.F.plainAttrs_list PySem.F.slot_list_extend PySem.F.type_list_extend mt_extend (pe_fld (pv 0) rfl) (pa_cons (pe_revL (pv 1)) pa_nil)))
    (pss_one (ps_while PassesOwn.never (pt_truth (pe_fld (pv 0) rfl) (by intro _; rfl)) (pss_cons (ps_set (i := 2) scGo.nd rfl (Or.inl rfl) (pe_bm0 PySem.F.plainAttrs_list PySem.F.slot_list_pop PySem.F.type_list_pop mt_pop (pe_fld (pv 0) rfl)))
    (pss_one (ps_if (pt_cmpR op_in_seq (pe_ix ix_tup (pv 2) pe_int (fun _ _ => rfl)) (pe_tup (pa_cons pe_str (pa_cons pe_str (pa_cons pe_str pa_nil)))) rfl) (pss_one (ps_expr (pe_bm PySem.F.plainAttrs_list PySem.F.slot_list_extend PySem.F.type_list_extend mt_extend (pe_fld (pv 0) rfl) (pa_cons (pe_revL (pe_meth (pv 0) X.clT m1 G1 (hr.mono (by omega)) b1 .nil pass0 (pa_cons (pv 2) pa_nil))) pa_nil)))) (pss_one (ps_expr (pe_meth (pv 0) X.clT m2 G2 (hr.mono (by omega)) b2 .nil pass0 (pa_cons (pv 2) pa_nil)))))))))), ?_⟩
  obtain ⟨js, j1, j2⟩ := hT.js
  have ej : js = [] := by
    cases js with
    | nil => rfl
    | cons _ _ => exact j2.elim
  subst ej
  have hlu := kJ.len
  have hlw := len_wJs J
  refine ⟨_, rfl, A.p, CT, _, _, _, rfl, hT.ob, X.clT, X.tJobs, l_jobs _ _ _ _, .inl ⟨rfl, _, SqL.of j1⟩, ?_⟩
  refine ⟨_, rfl, l, us, rfl, SqL.of hl, fun p hp => ?_⟩
  have s1 := same_new hp (.lst us.reverse)
  refine ⟨A.jl, p, _, us.reverse, rfl, rfl, s1 _ _ j1, upd_same, sz (by rw [List.length_reverse, List.length_reverse]; show 0 + us.length ≤ 100000; omega), ?_⟩
  have hT1 := (hT.mono s1).setJobs (J := J) (js' := us) (kJ.imp fun _ _ z => JbV.tk (tk_same s1) z)
  refine ⟨GoW CN CT H0 A tk J m0 l, ⟨_, _, [], none, 0, rfl, hT1, rfl, hok, ⟨Nat.le_refl _, Nat.le_refl _, fun r hr => by cases hr⟩, by show 0 + wJs J ≤ 2000; omega, by show m0 + 300 * wJs J ≤ 700000; omega, fun _ _ _ z => z⟩, ?_⟩
  clear s1 hT1 hp j1 j2 hT hl kJ hok hlu hlw
  rintro μ σ H1 ⟨⟨J1, R, G, m⟩, ras, o, n, rfl, hT, rfl, hok, hz, hn, hm, hrun⟩
  dsimp only at hok hz hn hm hrun
  obtain ⟨js, j1, j2⟩ := hT.js
  refine ⟨_, rfl, A.p, CT, _, _, _, rfl, hT.ob, X.clT, X.tJobs, l_jobs _ _ _ _, _, .inl ⟨_, SqL.of j1, rfl⟩, ?_⟩
  cases js with
  | nil =>
    cases J1 with
    | cons _ _ => exact j2.elim
    | nil =>
      refine itF rfl ?_
      obtain ⟨e1, e2⟩ := hok
      cases R with
      | cons _ _ => cases e1
      | nil =>
        match G, e2 with
        | [.p q1], _ =>
          have er := hT.rs
          cases ras with
          | cons _ _ => exact er.elim
          | nil => exact q H1 q1 m (hrun _ _ _ .nil) hT
  | cons v js =>
    cases J1 with
    | nil => exact j2.elim
    | cons j J1 =>
      obtain ⟨⟨b, rfl, hb⟩, k2⟩ := j2
      refine itT (by simp) ⟨fun σ' H' => ∃ m', m' < wJs (j :: J1) ∧ GoW CN CT H0 A tk J m0 l m' σ' H', fun _ _ z => z, ?_⟩
      refine ⟨_, rfl, A.p, CT, _, _, _, rfl, hT.ob, X.clT, X.tJobs, l_jobs _ _ _ _, .inl ⟨rfl, _, SqL.of j1⟩, A.jl, _, .ref b, rfl, rfl, j1, by simp, ?_⟩
      rw [popE]
      have hT2 := hT.setJobs (J := J1) (js' := js) k2
      have tk2 : TK H1 (upd H1 A.jl (.lst js.reverse)) := tk_put j1
      have hb2 := hb.tk tk2
      dsimp only at hT2
      generalize upd H1 A.jl (.lst js.reverse) = H2 at hT2 tk2 hb2
      obtain ⟨r0, hd⟩ := hb2.head
      refine ⟨_, rfl, b, _, _, _, rfl, rfl, SqT.of hd, at0, sz (by show 3 ≤ 100000; decide), fun t0 ht0 => ?_⟩
      refine ⟨t0, _, rfl, .inr (SqT.of upd_same), rfl, rfl, _, rfl, ?_⟩
      have s0 := same_new ht0 (.tup [.str "done", .str "put", .str "simple"])
      have hT3 := hT2.mono s0
      have hb3 := hb2.tk (tk_same s0)
      generalize upd H2 t0 (.tup [.str "done", .str "put", .str "simple"]) = H3 at s0 hT3 hb3
      rw [wJs_cons] at hn hm
      have hwp := wJ_pos j
      show if inV (.str (jn j)) [.str "done", .str "put", .str "simple"] = true then _ else _
      rw [jn_mk]
      by_cases cm : isMk j = true
      · refine itT cm ?_
        obtain ⟨js3, j3, k3⟩ := hT3.js
        refine ⟨_, rfl, A.p, CT, _, _, _, rfl, hT3.ob, X.clT, X.tJobs, l_jobs _ _ _ _, .inl ⟨rfl, _, SqL.of j3⟩, ?_⟩
        refine ⟨_, rfl, A.p, _, _, rfl, hT3.ob, by rfl, _, rfl, H0, A, tk, ⟨J1, R, G, m⟩, ras, b, j, rfl, hT3, hb3, cm, ?_, fun r H4 us w m' g1 g2 hT4 g4 g5 => ?_⟩
        · refine Nat.lt_of_le_of_lt (m := 1000000) ?_ (by decide)
          show m + tk.length + 2 ≤ 1000000
          omega
        refine ⟨r, us, rfl, SqL.of g4, fun p hp => ?_⟩
        have s5 := same_new hp (.lst us.reverse)
        obtain ⟨js4, j4, k4⟩ := hT4.js
        obtain ⟨h7, h8⟩ := hb3.okm cm w
        have lu := g5.len
        have lw := len_wJs (mkJ j w)
        have l4 := k4.len
        have lw4 := len_wJs J1
        dsimp only at l4
        refine ⟨A.jl, p, _, us.reverse, rfl, rfl, s5 _ _ j4, upd_same, sz (by rw [List.length_reverse, List.length_reverse]; omega), ?_⟩
        rw [← List.reverse_append]
        have k5 : All2 (JbV (upd H4 p (.lst us.reverse))) (mkJ j w ++ J1) (us ++ js4) := (g5.imp fun _ _ z => JbV.tk (tk_same s5) z).app (k4.imp fun _ _ z => JbV.tk (tk_same s5) z)
        have hT5 := (hT4.mono s5).setJobs k5
        have hmm := nw_le g1 g2 htk
        dsimp only at hmm
        refine ⟨wJs (mkJ j w ++ J1), by rw [wJs_app, wJs_cons]; omega, _, ras, _, n, rfl, hT5, rfl, h8 hok, hz, by rw [wJs_app]; omega, ?_, fun R2 G2 m2 z => hrun _ _ _ (run_mk cm g1 g2 z)⟩
        show m' + 300 * wJs (mkJ j w ++ J1) ≤ 700000
        rw [wJs_app]
        omega
      · refine itF (Bool.eq_false_iff.mpr cm) ?_
        refine ⟨_, rfl, A.p, _, _, rfl, hT3.ob, by rfl, _, rfl, H0, A, tk, ⟨J1, R, G, m⟩, ras, b, j, rfl, hT3, hb3, Bool.eq_false_iff.mpr cm, hok, ⟨Nat.le_trans hz.1 (by omega), Nat.le_trans hz.2.1 (by omega), fun r hr => Nat.le_trans (hz.2.2 r hr) (by omega)⟩, fun H4 R1 G1 ras' f hT4 => ?_⟩
        dsimp only at f hT4
        exact ⟨wJs J1, by rw [wJs_cons]; omega, _, ras', _, n + 1, rfl, hT4, rfl, f.ok hok, f.sz hz, by show n + 1 + wJs J1 ≤ 2000; omega, by show m + 300 * wJs J1 ≤ 700000; omega, fun R2 G2 m2 z => hrun _ _ _ (.fin f z)⟩
end
end KB

namespace KB
open PySem L2 HT

/-! ### terms as trees -/
def plT : Tm → List (List Int × Tm)
  | .mk h n k => ([], .mk h n k) :: (List.ofFn fun i : _root_.Fin n => (plT (k i)).map (fun e => ((i.val : Int) :: e.1, e.2))).flatten
theorem plT_fn : ∀ {n : Nat} {k : _root_.Fin n → Tm} {j : Nat}, (List.ofFn fun i : _root_.Fin n => (plT (k i)).map (fun e => (((j + i.val : Nat) : Int) :: e.1, e.2))).flatten = plL plT j (List.ofFn k)
  | 0, _, _ => rfl
  | n + 1, k, j => by
    rw [List.ofFn_succ, List.ofFn_succ, List.flatten_cons]
    show _ = (plT (k 0)).map (fun e => ((j : Int) :: e.1, e.2)) ++ plL plT (j + 1) _
    rw [← plT_fn (k := fun i => k i.succ) (j := j + 1)]
    congr 3
    · funext i
      have e : j + (i.succ).val = j + 1 + i.val := by
        rw [_root_.Fin.val_succ]
        omega
      rw [e]
theorem plT_eq (t : Tm) : plT t = ([], t) :: plL plT 0 (kidsT t) := by
  cases t with
  | mk h n k =>
    show _ = ([], Tm.mk h n k) :: plL plT 0 (List.ofFn k)
    rw [← plT_fn]
    show _ :: _ = _
    congr 4
    funext i
    rw [Nat.zero_add]
def TrT : Tre Tm where
  kids := kidsT
  sz := cnt
  pl := plT
  A H t a := At H t a
  tk e h := h.tk e
  szk n := cnt_kids n
  plk n := plT_eq n
def letW (t : Tm) : Option Str := match hdT t with | .lett x => some x | _ => none
def wordsIn (xs : List Str) (t : Tm) : List Str := xs ++ (TrT.pre t).filterMap letW
theorem wordsIn_len (xs : List Str) (t : Tm) : (wordsIn xs t).length ≤ xs.length + cnt t := by
  unfold wordsIn
  rw [List.length_append]
  have h1 := List.length_filterMap_le letW (TrT.pre t)
  have h2 : (TrT.pre t).length = cnt t := by
    show (List.map _ (TrT.pl t)).length = _
    rw [List.length_map]
    exact TrT.pl_len _ t (Nat.le_refl _)
  omega
section
variable {P : Program} {w : World} {K : PySem.W.Frag} {mg : Str → Option Value} {base : Heap} {CN CT : Addr}
theorem parts_kids {f : Addr} {fd : FuncData} (F : FnOk P w K mg base CX0 1 f fd ["term"] spParts) : FnOk P w K mg base CX0 1 f fd ["term"] (spKids TrT) := by
  refine F.imp fun vs H Q E h => ?_
  obtain ⟨n, a, rfl, hA, q⟩ := h
  obtain ⟨xs, l, k⟩ := At.kids hA
  exact ⟨a, hdT n, xs, rfl, l, fun p H' s hp => q p H' xs s hp (k.imp fun _ _ z => RefV.tk (tk_same s) z)⟩
def spWordsIn : Sp := fun vs H Q _ => ∃ (np a : Addr) (xs : List Str) (t : Tm), vs = [.ref np, .ref a] ∧ H np = some (.tup (xs.map V.str)) ∧ At H t a ∧ cnt t ≤ 1000 ∧ xs.length ≤ 100 ∧ ∀ H' p, H p = none → Same H H' → H' p = some (.lst ((wordsIn xs t).map V.str)) → Q (.ref p) H'
abbrev swords_in : Stmt := top 5
theorem scwords_in : FnScope ["names", "body", "term"] ["names", "body"] (defScope swords_in) := ⟨rfl, rfl, rfl, by decide +kernel, rfl, by decide +kernel, by decide +kernel⟩
theorem ok_wordsIn {f f1 f2 : Addr} {fd d1 d2 : FuncData} (F : Fun K "words_in" "words_in" swords_in f fd) (Gmet : FnOk P w K mg base CX0 2 f1 d1 ["body", "parts"] (spMet TrT f2)) (Rmet : Ref K mg "met" f1 d1 ["body", "parts"]) (Rparts_of : Ref K mg "parts_of" f2 d2 ["term"]) : FnOk P w K mg base CX0 3 f fd ["names", "body"] spWordsIn := by
  refine F.ok scwords_in (fun vs H Q E h => ?_) (fun cdv A outer s H vs Q E hr h => ?_)
  · obtain ⟨np, a, xs, t, rfl, _⟩ := h
    rfl
  obtain ⟨np, a, xs, t, rfl, hn, hA, hc, hx, q⟩ := h
  refine ⟨_, (pss_one (ps_ret (pe_lst (StX.pa_star (pv 0) (StX.pa_star (pe_lc (own := [("term", 2)]) (g := gName 2) (tt := tTest (tOp rEq (tOp (rIxT K) (tVar 2) (tC (.int 0))) (tC (.str "let")))) (te := tOp (rIxT K) (tVar 2) (tC (.int 1))) (by rfl) scwords_in.nd (pi_list (pe_call Gmet (hr.mono (by omega)) rfl Rmet.m Rmet.k Rmet.b .nil pass0 (pa_cons (pv 1) (pa_cons (pe_glob (v := .ref f2) rfl Rparts_of.m rfl) pa_nil)))) (blkOk_by (own := [("term", 2)]) (N := ["names", "body", "term"]) (sc := defScope swords_in) (by decide +kernel)) (fun _ _ _ _ _ => (pg_name (i := 2) scwords_in.nd rfl (Or.inl rfl))) (fun _ _ _ _ _ => (pts_one (pt_cmpR op_eq (pe_ix ix_tup (pv 2) pe_int (fun _ _ => rfl)) pe_str (nomark _)))) (fun _ _ _ _ _ => (pe_ix ix_tup (pv 2) pe_int (fun _ _ => rfl)))) pa_nil))))), ?_⟩
  refine ⟨_, rfl, np, _, rfl, .inl (SqT.of hn), _, rfl, t, a, rfl, hA, hc, fun pm H1 its hpm s1 h1 k1 => ?_⟩
  have hlp : its.length = cnt t := by
    rw [k1.len]
    show (List.map _ (TrT.pl t)).length = _
    rw [List.length_map]
    exact TrT.pl_len _ t (Nat.le_refl _)
  refine ⟨pm, rfl, ⟨_, SqL.of h1⟩, fun D hD => lc_list (K := K) (a := pm) (xs := its) (fun i H' => Same H1 H' ∧ H' D = some (.lst ((((TrT.pre t).take i).filterMap letW).map V.str))) ⟨same_new hD _, upd_same⟩ ?_ ?_ ?_⟩
  · rintro i H' _ ⟨s2, _⟩
    exact SqL.of (s2 _ _ h1)
  · rintro i x H2 hx2 ⟨s2, h2⟩
    obtain ⟨u, hu, b, rfl, hb⟩ := k1.get hx2
    obtain ⟨hj, hj2⟩ := List.getElem?_eq_some_iff.mp hu
    have hb2 := At.tk (tk_same s2) hb
    obtain ⟨ys, l, _⟩ := hb2.kids
    obtain ⟨r0, hd⟩ := l.head
    have hle := List.length_filterMap_le letW ((TrT.pre t).take i)
    rw [List.length_take] at hle
    have hpl : (TrT.pre t).length = cnt t := by rw [← k1.len]; exact hlp
    refine ⟨rfl, ?_⟩
    refine ⟨_, rfl, b, _, _, _, rfl, rfl, SqT.of hd, at0, rfl, _, rfl, ?_⟩
    rw [List.take_succ_eq_append_getElem hj, hj2, List.filterMap_append, List.map_append]
    refine ite2 (fun c => ?_) (fun c => ?_)
    · obtain ⟨y, hh⟩ := hs_let (V.str.inj (of_decide_eq_true c))
      rw [hh] at l
      refine ⟨_, rfl, b, _, _, _, rfl, rfl, SqT.of l.2, at1, ?_⟩
      refine ⟨_, h2, Nat.lt_of_le_of_lt (m := 1000) (by rw [List.length_map]; omega) (by decide), same_mut s2 hD, ?_⟩
      have e : [u].filterMap letW = [y] := by
        simp [letW, hh]
      rw [e]
      exact upd_same
    · have e : [u].filterMap letW = [] := by
        have : letW u = none := by
          unfold letW
          cases hh : hdT u with
          | lett x => rw [hh] at c; exact absurd (decide_eq_true rfl) c
          | _ => rfl
        simp [this]
      rw [e, List.map_nil, List.append_nil]
      exact ⟨s2, h2⟩
  · rintro H2 ⟨s2, h2⟩
    rw [show its.length = (TrT.pre t).length from k1.len, List.take_length] at h2
    have hwl := wordsIn_len xs t
    have e : (wordsIn xs t).map V.str = xs.map V.str ++ ((TrT.pre t).filterMap letW).map V.str := by
      unfold wordsIn
      rw [List.map_append]
    refine ⟨D, _, rfl, .inr (SqL.of h2), ?_⟩
    show (xs.map V.str ++ (((TrT.pre t).filterMap letW).map V.str ++ [])).length ≤ sizeLine ∧ _
    rw [List.append_nil, ← e]
    refine ⟨sz (by rw [List.length_map]; omega), fun p hp => ?_⟩
    have s3 := same_new hp (.lst ((wordsIn xs t).map V.str))
    exact q _ p ((s1.trans s2).free hp) ((s1.trans s2).trans s3) upd_same
end
end KB

namespace KB
open PySem L2 HT

section
variable {P : Program} {w : World} {K : PySem.W.Frag} {mg : Str → Option Value} {base : Heap} {CN CT : Addr}
/-! ### a new turning -/
def spT0 (CT : Addr) : Sp := fun vs H Q _ => ∃ (p dx nw : Addr), vs = [.ref p, .ref nw] ∧ H p = some (.ins CT dx []) ∧
  ∀ H' jl rl gl, (∀ b o, b ≠ p → H b = some o → H' b = some o) → H jl = none → H rl = none → H gl = none → jl ≠ rl → jl ≠ gl → rl ≠ gl → H' p = some (.ins CT dx (fsT (.ref nw) (.ref jl) (.ref rl) (.ref gl))) → H' jl = some (.lst []) → H' rl = some (.lst []) → H' gl = some (.lst []) → Q .non H'
abbrev sT0 : Stmt := inClass (top 18) 0
theorem scT0 : FnScope ["self", "new_words"] ["self", "new_words"] (defScope sT0) := ⟨rfl, rfl, rfl, by decide +kernel, rfl, by decide +kernel, by decide +kernel⟩
theorem ok_t0 (X : TxN K mg CN CT) {f : Addr} {fd : FuncData} (F : Fun K "__init__" "Turning.__init__" sT0 f fd) : FnOk P w K mg base CX0 1 f fd ["self", "new_words"] (spT0 CT) := by
  refine F.ok scT0 (fun vs H Q E h => ?_) (fun cdv A outer s H vs Q E hr h => ?_)
  · obtain ⟨p, dx, nw, rfl, _⟩ := h
    rfl
  obtain ⟨p, dx, nw, rfl, hp, q⟩ := h
  refine ⟨_, (pss_cons (ps_fld (pv 0) (pv 1) rfl)
    (pss_cons (ps_fld (pv 0) (pe_lst pa_nil) rfl)
    (pss_cons (ps_fld (pv 0) (pe_lst pa_nil) rfl)
    (pss_one (ps_fld (pv 0) (pe_lst pa_nil) rfl))))), ?_⟩
  refine ⟨_, rfl, _, rfl, p, CT, dx, _, rfl, hp, X.clT, X.tNew, (by show 0 < 1000; decide), ?_⟩
  have a1 : upd H p (.ins CT dx [("new_words", .ref nw)]) p = some (.ins CT dx [("new_words", .ref nw)]) := upd_same
  have b1 : ∀ b o, b ≠ p → H b = some o → upd H p (.ins CT dx [("new_words", .ref nw)]) b = some o := fun b o n hb => by rw [upd_ne n]; exact hb
  have f1 : ∀ {b}, upd H p (.ins CT dx [("new_words", .ref nw)]) b = none → H b = none ∧ b ≠ p := fun {b} hb => by
    by_cases e : b = p
    · subst e; rw [a1] at hb; cases hb
    · rw [upd_ne e] at hb; exact ⟨hb, e⟩
  rw [show putF "new_words" (.ref nw) [] = ([("new_words", .ref nw)] : List (Str × V)) from rfl]
  generalize upd H p (.ins CT dx [("new_words", .ref nw)]) = H1 at a1 b1 f1
  refine ⟨sz (by decide), fun jl hjl => ?_⟩
  have s2 := same_new hjl (.lst [])
  have njp := (f1 hjl).2
  refine ⟨_, rfl, p, CT, dx, _, rfl, s2 _ _ a1, X.clT, X.tJobs, (by show 1 < 1000; decide), ?_⟩
  have a2 : upd (upd H1 jl (.lst [])) p (.ins CT dx [("new_words", .ref nw), ("jobs", .ref jl)]) p = some (.ins CT dx [("new_words", .ref nw), ("jobs", .ref jl)]) := upd_same
  have j2 : upd (upd H1 jl (.lst [])) p (.ins CT dx [("new_words", .ref nw), ("jobs", .ref jl)]) jl = some (.lst []) := by rw [upd_ne njp]; exact upd_same
  have b2 : ∀ b o, b ≠ p → H1 b = some o → upd (upd H1 jl (.lst [])) p (.ins CT dx [("new_words", .ref nw), ("jobs", .ref jl)]) b = some o := fun b o n hb => by rw [upd_ne n]; exact s2 _ _ hb
  have f2 : ∀ {b}, upd (upd H1 jl (.lst [])) p (.ins CT dx [("new_words", .ref nw), ("jobs", .ref jl)]) b = none → H1 b = none ∧ b ≠ p ∧ b ≠ jl := fun {b} hb => by
    by_cases e : b = p
    · subst e; rw [a2] at hb; cases hb
    · by_cases e2 : b = jl
      · subst e2; rw [j2] at hb; cases hb
      · rw [upd_ne e, upd_ne e2] at hb; exact ⟨hb, e, e2⟩
  rw [show putF "jobs" (.ref jl) [("new_words", .ref nw)] = ([("new_words", .ref nw), ("jobs", .ref jl)] : List (Str × V)) from rfl]
  generalize upd (upd H1 jl (.lst [])) p (.ins CT dx [("new_words", .ref nw), ("jobs", .ref jl)]) = H2 at a2 j2 b2 f2
  refine ⟨sz (by decide), fun rl hrl => ?_⟩
  have s3 := same_new hrl (.lst [])
  obtain ⟨hr1, nrp, nrj⟩ := f2 hrl
  refine ⟨_, rfl, p, CT, dx, _, rfl, s3 _ _ a2, X.clT, X.tRows, (by show 2 < 1000; decide), ?_⟩
  have a3 : upd (upd H2 rl (.lst [])) p (.ins CT dx [("new_words", .ref nw), ("jobs", .ref jl), ("rows", .ref rl)]) p = some (.ins CT dx [("new_words", .ref nw), ("jobs", .ref jl), ("rows", .ref rl)]) := upd_same
  have r3 : upd (upd H2 rl (.lst [])) p (.ins CT dx [("new_words", .ref nw), ("jobs", .ref jl), ("rows", .ref rl)]) rl = some (.lst []) := by rw [upd_ne nrp]; exact upd_same
  have b3 : ∀ b o, b ≠ p → H2 b = some o → upd (upd H2 rl (.lst [])) p (.ins CT dx [("new_words", .ref nw), ("jobs", .ref jl), ("rows", .ref rl)]) b = some o := fun b o n hb => by rw [upd_ne n]; exact s3 _ _ hb
  have f3 : ∀ {b}, upd (upd H2 rl (.lst [])) p (.ins CT dx [("new_words", .ref nw), ("jobs", .ref jl), ("rows", .ref rl)]) b = none → H2 b = none ∧ b ≠ p ∧ b ≠ rl := fun {b} hb => by
    by_cases e : b = p
    · subst e; rw [a3] at hb; cases hb
    · by_cases e2 : b = rl
      · subst e2; rw [r3] at hb; cases hb
      · rw [upd_ne e, upd_ne e2] at hb; exact ⟨hb, e, e2⟩
  rw [show putF "rows" (.ref rl) [("new_words", .ref nw), ("jobs", .ref jl)] = ([("new_words", .ref nw), ("jobs", .ref jl), ("rows", .ref rl)] : List (Str × V)) from rfl]
  generalize upd (upd H2 rl (.lst [])) p (.ins CT dx [("new_words", .ref nw), ("jobs", .ref jl), ("rows", .ref rl)]) = H3 at a3 r3 b3 f3
  refine ⟨sz (by decide), fun gl hgl => ?_⟩
  have s4 := same_new hgl (.lst [])
  obtain ⟨hg2, ngp, ngr⟩ := f3 hgl
  obtain ⟨hg1, _, ngj⟩ := f2 hg2
  refine ⟨_, rfl, p, CT, dx, _, rfl, s4 _ _ a3, X.clT, X.tGot, (by show 3 < 1000; decide), ?_⟩
  refine q _ jl rl gl (fun b o n hb => ?_) (f1 hjl).1 (f1 hr1).1 (f1 hg1).1 nrj.symm ngj.symm ngr.symm upd_same ?_ ?_ ?_
  · rw [upd_ne n]
    exact s4 _ _ (b3 _ _ n (b2 _ _ n (b1 _ _ n hb)))
  · rw [upd_ne njp]
    exact s4 _ _ (b3 _ _ njp j2)
  · rw [upd_ne nrp]
    exact s4 _ _ r3
  · rw [upd_ne ngp]
    exact upd_same
/-! ### turned_body -/
def RunB (xs : List Str) (t : Tm) (p : Pt) : Prop := ∃ m', Run (wordsIn xs t) [.row, .done t "home"] [] [] 0 [] [.p p] m'
def spTBody : Sp := fun vs H Q _ => ∃ (np a : Addr) (xs : List Str) (t : Tm), vs = [.ref np, .ref a] ∧ H np = some (.tup (xs.map V.str)) ∧ At H t a ∧ cnt t ≤ 90 ∧ xs.length ≤ 10 ∧ ∀ H' b p, Same H H' → RunB xs t p → PAt H' p b → Q (.ref b) H'
abbrev sturned_body : Stmt := top 15
theorem scturned_body : FnScope ["names", "body", "turning"] ["names", "body"] (defScope sturned_body) := ⟨rfl, rfl, rfl, by decide +kernel, rfl, by decide +kernel, by decide +kernel⟩
theorem ok_tbody (X : TxN K mg CN CT) (S : TxS K mg) {f f1 fN fT fg : Addr} {fd d1 dN dT dg : FuncData} (F : Fun K "turned_body" "turned_body" sturned_body f fd) (Gwords_in : FnOk P w K mg base CX0 3 f1 d1 ["names", "body"] spWordsIn) (Rwords_in : Ref K mg "words_in" f1 d1 ["names", "body"])
    (GN : FnOk P w K mg base CX0 1 fN dN ["self", "taken"] (spNew0 CN)) (BN : Binds K dN ["self", "taken"] []) (MN : Mk K CN fN) (GT : FnOk P w K mg base CX0 1 fT dT ["self", "new_words"] (spT0 CT)) (BT : Binds K dT ["self", "new_words"] []) (MT : Mk K CT fT)
    (Ggo : FnOk P w K mg base CX0 5 fg dg ["self", "jobs"] (spGo CN CT)) (bgo : Binds K dg ["self", "jobs"] []) (mgo : Meth K CT "go" fg) : FnOk P w K mg base CX0 6 f fd ["names", "body"] spTBody := by
  refine F.ok scturned_body (fun vs H Q E h => ?_) (fun cdv A outer s H vs Q E hr h => ?_)
  · obtain ⟨np, a, xs, t, rfl, _⟩ := h
    rfl
  obtain ⟨np, a, xs, t, rfl, hn, hA, hc, hx, q⟩ := h
  obtain ⟨th, eh⟩ := S.home
  refine ⟨_, (pss_cons (ps_set (i := 2) scturned_body.nd rfl (Or.inl rfl) (pe_make MT GT (hr.mono (by omega)) rfl X.mgT BT .nil pass0 (pa_cons (pe_make MN GN (hr.mono (by omega)) rfl X.mgN BN .nil pass0 (pa_cons (pe_call Gwords_in (hr.mono (by omega)) rfl Rwords_in.m Rwords_in.k Rwords_in.b .nil pass0 (pa_cons (pv 0) (pa_cons (pv 1) pa_nil))) pa_nil)) pa_nil)))
    (pss_cons (ps_expr (pe_meth (pv 2) X.clT mgo Ggo hr bgo .nil pass0 (pa_cons (pe_lst (pa_cons (pe_tup (pa_cons pe_str pa_nil)) (pa_cons (pe_tup (pa_cons pe_str (pa_cons (pv 1) (pa_cons (pe_glob (v := .str "home") rfl eh ⟨_, rfl⟩) pa_nil)))) pa_nil))) pa_nil)))
    (pss_one (ps_ret (pe_bm0 PySem.F.plainAttrs_list PySem.F.slot_list_pop PySem.F.type_list_pop mt_pop (pe_fld (pv 2) rfl)))))), ?_⟩
  refine ⟨_, rfl, _, rfl, np, a, xs, t, rfl, hn, hA, by omega, by omega, fun H1 tl htl s1 h1 => ?_⟩
  have hwl := wordsIn_len xs t
  intro x1 dx1 hx1 hdx1 nx1
  have sA : Same H1 (upd (upd H1 dx1 (.own x1)) x1 (.ins CN dx1 [])) := fun b u z => by
    rw [upd_ne (ne_of_none z hx1), upd_ne (ne_of_none z hdx1)]
    exact z
  refine ⟨x1, dx1, tl, wordsIn xs t, rfl, upd_same, sA _ _ h1, by omega, fun H2 td k2 htd n2 => ⟨rfl, ?_⟩⟩
  have s2 : Same H1 H2 := fun b u z => k2 b u (ne_of_none z hx1) (sA b u z)
  intro x2 dx2 hx2 hdx2 nx2
  have sB : Same H2 (upd (upd H2 dx2 (.own x2)) x2 (.ins CT dx2 [])) := fun b u z => by
    rw [upd_ne (ne_of_none z hx2), upd_ne (ne_of_none z hdx2)]
    exact z
  refine ⟨x2, dx2, x1, rfl, upd_same, fun H3 jl rl gl k3 hj hr3 hg n1 n2' n3 p3 j3 r3 g3 => ⟨rfl, ?_⟩⟩
  have s3 : Same H2 H3 := fun b u z => k3 b u (ne_of_none z hx2) (sB b u z)
  have s13 := s1.trans (s2.trans s3)
  have fr : ∀ {b}, upd (upd H2 dx2 (.own x2)) x2 (.ins CT dx2 []) b = none → H b = none := fun {b} z => s1.free (s2.free (sB.free z))
  have nw3 : NWAt CN H3 x1 dx1 td (wordsIn xs t) 0 := by
    obtain ⟨kvs, q1, q2⟩ := n2.tk
    exact ⟨s3 _ _ n2.ob, kvs, s3 _ _ q1, q2⟩
  have n4 : x2 ≠ x1 := fun z => by
    rw [z, n2.ob] at hx2
    cases hx2
  have hT : TuAt CN CT H H3 ⟨x2, dx2, x1, dx1, td, jl, rl, gl⟩ (wordsIn xs t) ⟨[], [], [], 0⟩ [] :=
    ⟨p3, nw3, ⟨[], j3, trivial⟩, r3, trivial, ⟨[], g3, trivial⟩, List.nodup_nil, n1, n2', n3, n4, (fun y hy => absurd hy (List.not_mem_nil)), s13, fr hj, fr hr3, fr hg, s1.free hx1, (fun y hy => absurd hy (List.not_mem_nil))⟩
  have hA3 := hA.tk (tk_same s13)
  clear k2 k3 sA sB nw3 p3 j3 r3 g3 hx1 hdx1 hx2 hdx2 n2
  refine ⟨_, rfl, x2, _, _, rfl, hT.ob, by rfl, sz (by show 1 ≤ 100000; decide), fun t1 ht1 => ?_⟩
  have s4 := same_new ht1 (.tup [.str "row"])
  refine ⟨_, rfl, sz (by show 3 ≤ 100000; decide), fun t2 ht2 => ?_⟩
  have s5 := same_new ht2 (.tup [.str "done", .ref a, .str "home"])
  refine ⟨sz (by show 2 ≤ 100000; decide), fun l hl => ?_⟩
  have s6 := same_new hl (.lst [.ref t1, .ref t2])
  refine ⟨H, ⟨x2, dx2, x1, dx1, td, jl, rl, gl⟩, wordsIn xs t, 0, l, [.row, .done t "home"], [.ref t1, .ref t2], rfl, hT.mono (s4.trans (s5.trans s6)), upd_same, ⟨⟨t1, rfl, (s5.trans s6) _ _ upd_same⟩, ⟨t2, rfl, a, s6 _ _ upd_same, hA3.tk (tk_same (s4.trans (s5.trans s6)))⟩, trivial⟩, ⟨0, rfl, rfl, rfl⟩, ?_, by omega, by decide, fun H4 p m' hrun hT4 => ?_⟩
  · show 1 + (20 * cnt t + 5 + 0) ≤ 2000
    omega
  obtain ⟨gs, g1, g2⟩ := hT4.gs
  match gs, g2 with
  | [v], ⟨⟨b, e, hb⟩, _⟩ =>
    subst e
    refine ⟨_, rfl, x2, CT, _, _, _, rfl, hT4.ob, X.clT, X.tGot, l_got _ _ _ _, .inl ⟨rfl, _, SqL.of g1⟩, gl, _, .ref b, rfl, rfl, g1, by simp, ?_⟩
    have tk : TK H4 (upd H4 gl (.lst (List.reverse [V.ref b]).dropLast)) := tk_put g1
    refine q _ b p (same_mut hT4.sm hT4.o3) ⟨m', hrun⟩ (PAt.tk tk hb)
/-! ### turn_book -/
def TErV (H : Hp) (e : Er) (v : V) : Prop := ∃ q r b p, v = .ref q ∧ H q = some (.tup [.str e.1, .ref r, .ref b]) ∧ H r = some (.tup (e.2.1.map V.str)) ∧ RunB e.2.1 e.2.2 p ∧ PAt H p b
theorem TErV.tk {H H' : Hp} (t : TK H H') {e : Er} {v : V} (h : TErV H e v) : TErV H' e v :=
  let ⟨q, r, b, p, e1, h1, h2, h3, h4⟩ := h; ⟨q, r, b, p, e1, t _ _ h1, t _ _ h2, h3, PAt.tk t h4⟩
def spTBook : Sp := fun vs H Q _ => ∃ (p : Addr) (es : List Er) (us : List V), vs = [.ref p] ∧ BkAt H es us p ∧ es.length ≤ 6 ∧ (∀ e ∈ es, cnt e.2.2 ≤ 90 ∧ e.2.1.length ≤ 10) ∧ ∀ H' p' vs, Same H H' → H' p' = some (.tup vs) → All2 (TErV H') es vs → Q (.ref p') H'
abbrev sturn_book : Stmt := top 14
theorem scturn_book : FnScope ["book", "name", "names", "body"] ["book"] (defScope sturn_book) := ⟨rfl, rfl, rfl, by decide +kernel, rfl, by decide +kernel, by decide +kernel⟩
theorem ok_tbook (T : Txt K mg) {f f1 : Addr} {fd d1 : FuncData} (F : Fun K "turn_book" "turn_book" sturn_book f fd) (Gturned_body : FnOk P w K mg base CX0 6 f1 d1 ["names", "body"] spTBody) (Rturned_body : Ref K mg "turned_body" f1 d1 ["names", "body"]) : FnOk P w K mg base CX0 7 f fd ["book"] spTBook := by
  refine F.ok scturn_book (fun vs H Q E h => ?_) (fun cdv A outer s H vs Q E hr h => ?_)
  · obtain ⟨p, es, us, rfl, _⟩ := h
    rfl
  obtain ⟨p, es, us, rfl, hB, hl6, hc, q⟩ := h
  refine ⟨_, (pss_one (ps_ret (pe_callTy call_tuple_of (by rfl) T.m_tuple (by decide +kernel) (pa_cons (pe_lc (own := [("name", 1), ("names", 2), ("body", 3)]) (g := gTup K 3 (gCons (gName 1) (gCons (gName 2) (gCons (gName 3) gNil)))) (by rfl) scturn_book.nd (pi_tup (pv 0)) (blkOk_by (own := [("name", 1), ("names", 2), ("body", 3)]) (N := ["book", "name", "names", "body"]) (sc := defScope sturn_book) (by decide +kernel)) (fun _ _ _ _ _ => (pg_tup rfl (pgs_cons (pg_name (i := 1) scturn_book.nd rfl (Or.inl rfl)) (pgs_cons (pg_name (i := 2) scturn_book.nd rfl (Or.inl rfl)) (pgs_cons (pg_name (i := 3) scturn_book.nd rfl (Or.inl rfl)) pgs_nil))))) (fun _ _ _ _ _ => pts_nil) (fun _ _ _ _ _ => (pe_tup (pa_cons (pv 1) (pa_cons (pv 2) (pa_cons (pe_call Gturned_body hr rfl Rturned_body.m Rturned_body.k Rturned_body.b .nil pass0 (pa_cons (pv 2) (pa_cons (pv 3) pa_nil))) pa_nil)))))) pa_nil)))), ?_⟩
  refine ⟨_, rfl, p, rfl, ⟨_, SqT.of hB.1⟩, fun D hD => lc_tup (K := K) (a := p) (xs := us) (fun i H' => Same H H' ∧ ∃ acc, H' D = some (.lst acc) ∧ All2 (TErV H') (es.take i) acc) ⟨same_new hD _, [], upd_same, by rw [List.take_zero]; trivial⟩ ?_ ?_ ?_⟩
  · rintro i H' _ ⟨s2, _⟩
    exact SqT.of (s2 _ _ hB.1)
  · rintro i x H2 hx2 ⟨s2, acc, h2, k2⟩
    obtain ⟨e, he, qa, r, b, rfl, g1, g2, g3⟩ := hB.2.get hx2
    have hee := mem_of_get he
    obtain ⟨hc1, hc2⟩ := hc e hee
    obtain ⟨hj, hj2⟩ := List.getElem?_eq_some_iff.mp he
    have hle := k2.len
    rw [List.length_take] at hle
    refine ⟨qa, _, rfl, SqT.of (s2 _ _ g1), rfl, _, _, rfl, _, _, rfl, _, _, rfl, rfl, rfl, ?_⟩
    dsimp only [tYes]
    refine iteT ⟨_, rfl, _, rfl, _, rfl, _, rfl, r, b, e.2.1, e.2.2, rfl, s2 _ _ g2, At.tk (tk_same s2) g3, hc1, hc2, fun H3 b3 p3 s3 hrun hp3 => ?_⟩
    refine ⟨sz (by show 3 ≤ 100000; decide), fun t3 ht3 => ?_⟩
    have s4 := same_new ht3 (.tup [.str e.1, .ref r, .ref b3])
    have s34 := s3.trans s4
    have h4 := s34 _ _ h2
    have tk := tk_put (o := .lst (acc ++ [.ref t3])) h4
    refine ⟨acc, h4, Nat.lt_of_le_of_lt (m := 100) (by omega) (by decide), same_mut (s2.trans s34) hD, _, upd_same, ?_⟩
    rw [List.take_succ_eq_append_getElem hj, hj2]
    exact ((k2.imp fun _ _ z => TErV.tk (tk_same s34) z).imp fun _ _ z => z.tk tk).app ⟨⟨t3, r, b3, p3, rfl, tk _ _ upd_same, tk _ _ ((s2.trans s34) _ _ g2), hrun, PAt.tk ((tk_same s4).trans tk) hp3⟩, trivial⟩
  · rintro H2 ⟨s2, acc, h2, k2⟩
    rw [hB.2.len, List.take_length] at k2
    refine ⟨D, acc, rfl, .inl ⟨SqL.of h2, fun p' hp' => ?_⟩⟩
    have s3 := same_new hp' (.tup acc)
    exact q _ p' acc (s2.trans s3) upd_same (k2.imp fun _ _ z => TErV.tk (tk_same s3) z)
end
end KB

namespace KB
open PySem L2 HT

/-! ### marks -/
abbrev Mk3 := List Int × Bool × Bool
/-- whether part i is led on, and whether it is last -/
def pmk (h : Hd) (i : Nat) (ld ls : Bool) : Bool × Bool := if 0 < i then (match h with | .lett _ => (ld, ls) | .iff => (true, ls) | _ => (false, false)) else (false, false)
def marks : Tm → Bool → Bool → List Mk3
  | .mk h n k, ld, ls => ([], ld, ls) :: (List.ofFn fun i : _root_.Fin n => (marks (k i) (pmk h i.val ld ls).1 (pmk h i.val ld ls).2).map fun m => ((i.val : Int) :: m.1, m.2)).flatten
def marksL (h : Hd) (ld ls : Bool) : Nat → List Tm → List Mk3
  | _, [] => []
  | j, t :: ts => (marks t (pmk h j ld ls).1 (pmk h j ld ls).2).map (fun m => ((j : Int) :: m.1, m.2)) ++ marksL h ld ls (j + 1) ts
theorem marks_ofFn {h : Hd} {ld ls : Bool} : ∀ {n : Nat} {k : _root_.Fin n → Tm} {j : Nat},
    (List.ofFn fun i : _root_.Fin n => (marks (k i) (pmk h (j + i.val) ld ls).1 (pmk h (j + i.val) ld ls).2).map fun m => (((j + i.val : Nat) : Int) :: m.1, m.2)).flatten = marksL h ld ls j (List.ofFn k)
  | 0, _, _ => rfl
  | n + 1, k, j => by
    rw [List.ofFn_succ, List.ofFn_succ, List.flatten_cons]
    show _ = (marks (k 0) (pmk h j ld ls).1 (pmk h j ld ls).2).map (fun m => ((j : Int) :: m.1, m.2)) ++ marksL h ld ls (j + 1) _
    rw [← marks_ofFn (k := fun i => k i.succ) (j := j + 1)]
    congr 3
    funext i
    have e : j + (i.succ).val = j + 1 + i.val := by
      rw [_root_.Fin.val_succ]
      omega
    rw [e]
theorem marks_mk {h : Hd} {n : Nat} {k : _root_.Fin n → Tm} {ld ls : Bool} : marks (.mk h n k) ld ls = ([], ld, ls) :: marksL h ld ls 0 (List.ofFn k) := by
  rw [← marks_ofFn]
  show ([], ld, ls) :: _ = _
  congr 3
  funext i
  rw [Nat.zero_add]
theorem marks_len : ∀ (t : Tm) (ld ls : Bool), (marks t ld ls).length = cnt t := by
  have go : ∀ (h : Hd) (ld ls : Bool) (ts : List Tm) (j : Nat), (∀ t ∈ ts, ∀ a b, (marks t a b).length = cnt t) → (marksL h ld ls j ts).length = cnts ts := by
    intro h ld ls ts
    induction ts with
    | nil => intro j _; rfl
    | cons t r ih =>
      intro j hh
      show ((marks t _ _).map _ ++ marksL h ld ls (j + 1) r).length = _
      rw [List.length_append, List.length_map, ih (j + 1) (fun u hu => hh u (List.mem_cons_of_mem _ hu)), hh t List.mem_cons_self, cnts_cons]
  intro t
  induction t with
  | mk h n k ih =>
    intro ld ls
    rw [marks_mk, cnt_mk, List.length_cons, go _ _ _ _ _ (fun t ht => ?_)]
    · omega
    · obtain ⟨i, rfl⟩ := List.mem_ofFn.mp ht
      exact ih i
theorem marks_short : ∀ (t : Tm) (ld ls : Bool) (m : Mk3), m ∈ marks t ld ls → m.1.length < cnt t := by
  have go : ∀ (h : Hd) (ld ls : Bool) (ts : List Tm) (j : Nat), (∀ t ∈ ts, ∀ a b, ∀ m ∈ marks t a b, m.1.length < cnt t) → ∀ m ∈ marksL h ld ls j ts, m.1.length ≤ cnts ts := by
    intro h ld ls ts
    induction ts with
    | nil =>
      intro j _ m hm
      cases hm
    | cons t r ih =>
      intro j hh m hm
      have hm' : m ∈ (marks t (pmk h j ld ls).1 (pmk h j ld ls).2).map (fun m => ((j : Int) :: m.1, m.2)) ++ marksL h ld ls (j + 1) r := hm
      rw [cnts_cons]
      rcases List.mem_append.mp hm' with z | z
      · obtain ⟨p', h1, rfl⟩ := List.mem_map.mp z
        have := hh t List.mem_cons_self _ _ p' h1
        show p'.1.length + 1 ≤ _
        omega
      · have := ih (j + 1) (fun u hu => hh u (List.mem_cons_of_mem _ hu)) m z
        omega
  intro t
  induction t with
  | mk h n k ih =>
    intro ld ls m hm
    rw [marks_mk] at hm
    rw [cnt_mk]
    rcases List.mem_cons.mp hm with z | z
    · rw [z]
      show 0 < _
      omega
    · have := go h ld ls _ 0 (fun t ht => by
        obtain ⟨i, rfl⟩ := List.mem_ofFn.mp ht
        exact ih i) m z
      omega
/-! ### what waits -/
abbrev En := List Int × Tm × Bool × Bool
def ents (h : Hd) (ld ls : Bool) (ks : List Int) : Nat → List Tm → List En
  | _, [] => []
  | j, t :: ts => (ks ++ [(j : Int)], t, pmk h j ld ls) :: ents h ld ls ks (j + 1) ts
def spread (es : List En) : List Mk3 := (es.map fun e => (marks e.2.1 e.2.2.1 e.2.2.2).map fun m => (e.1 ++ m.1, m.2)).flatten
def ecnt (es : List En) : Nat := cnts (es.map (·.2.1))
theorem spread_cons {e : En} {r : List En} : spread (e :: r) = (marks e.2.1 e.2.2.1 e.2.2.2).map (fun m => (e.1 ++ m.1, m.2)) ++ spread r := by
  unfold spread
  rw [List.map_cons, List.flatten_cons]
theorem spread_app {a b : List En} : spread (a ++ b) = spread a ++ spread b := by
  unfold spread
  rw [List.map_append, List.flatten_append]
theorem spread_ents {h : Hd} {ld ls : Bool} {ks : List Int} : ∀ {ts : List Tm} {j : Nat}, spread (ents h ld ls ks j ts) = (marksL h ld ls j ts).map fun m => (ks ++ m.1, m.2)
  | [], _ => rfl
  | t :: ts, j => by
    show spread ((ks ++ [(j : Int)], t, pmk h j ld ls) :: ents h ld ls ks (j + 1) ts) = List.map (fun m => (ks ++ m.1, m.2)) ((marks t (pmk h j ld ls).1 (pmk h j ld ls).2).map (fun m => ((j : Int) :: m.1, m.2)) ++ marksL h ld ls (j + 1) ts)
    rw [spread_cons, spread_ents, List.map_append, List.map_map]
    congr 1
    refine List.map_congr_left fun p _ => ?_
    show ((ks ++ [(j : Int)]) ++ p.1, p.2) = (ks ++ ((j : Int) :: p.1), p.2)
    rw [List.append_assoc]
    rfl
theorem ents_snd {h : Hd} {ld ls : Bool} {ks : List Int} : ∀ {ts : List Tm} {j : Nat}, (ents h ld ls ks j ts).map (·.2.1) = ts
  | [], _ => rfl
  | t :: ts, j => by
    show t :: (ents h ld ls ks (j + 1) ts).map (·.2.1) = t :: ts
    rw [ents_snd]
theorem ents_drop {h : Hd} {ld ls : Bool} {ks : List Int} {kl : List Tm} {i : Nat} (hi : i < kl.length) : ents h ld ls ks i (kl.drop i) = (ks ++ [(i : Int)], kl[i], pmk h i ld ls) :: ents h ld ls ks (i + 1) (kl.drop (i + 1)) := by
  rw [List.drop_eq_getElem_cons hi]
  rfl
theorem ents_len {h : Hd} {ld ls : Bool} {ks : List Int} {ts : List Tm} {j : Nat} : (ents h ld ls ks j ts).length = ts.length := by
  have := congrArg List.length (ents_snd (h := h) (ld := ld) (ls := ls) (ks := ks) (ts := ts) (j := j))
  rw [List.length_map] at this
  exact this
def MkV (H : Hp) (m : Str × Mk3) (v : V) : Prop := ∃ q r, v = .ref q ∧ H q = some (.tup [.ref r, .bl m.2.2.1, .bl m.2.2.2]) ∧ H r = some (.tup (.str m.1 :: m.2.1.map V.int))
theorem MkV.tk {H H' : Hp} (e : TK H H') {m : Str × Mk3} {v : V} (h : MkV H m v) : MkV H' m v := let ⟨q, r, a, b, c⟩ := h; ⟨q, r, a, e _ _ b, e _ _ c⟩
def EnV (H : Hp) (nm : Str) (e : En) (v : V) : Prop := ∃ q r b, v = .ref q ∧ H q = some (.tup [.ref r, .ref b, .bl e.2.2.1, .bl e.2.2.2]) ∧ H r = some (.tup (.str nm :: e.1.map V.int)) ∧ At H e.2.1 b
theorem EnV.tk {H H' : Hp} (e : TK H H') {nm : Str} {x : En} {v : V} (h : EnV H nm x v) : EnV H' nm x v := let ⟨q, r, b, h0, h1, h2, h3⟩ := h; ⟨q, r, b, h0, e _ _ h1, e _ _ h2, h3.tk e⟩
def erMk (e : Er) : List (Str × Mk3) := (marks e.2.2 true true).map fun m => (e.1, m)
def allMk (es : List Er) : List (Str × Mk3) := (es.map erMk).flatten
theorem allMk_take {es : List Er} {i : Nat} {e : Er} (h : es[i]? = some e) : allMk (es.take (i + 1)) = allMk (es.take i) ++ erMk e := by
  unfold allMk
  obtain ⟨hi, he⟩ := List.getElem?_eq_some_iff.mp h
  rw [List.take_succ_eq_append_getElem hi, List.map_append, List.flatten_append, he]
  simp
theorem allMk_len {es : List Er} (hc : ∀ e ∈ es, cnt e.2.2 ≤ 1000) : (allMk es).length ≤ 1000 * es.length := by
  induction es with
  | nil => exact Nat.zero_le _
  | cons e r ih =>
    have h1 := ih fun x hx => hc x (List.mem_cons_of_mem _ hx)
    have h2 := hc e List.mem_cons_self
    have h3 : allMk (e :: r) = erMk e ++ allMk r := by
      unfold allMk
      rw [List.map_cons, List.flatten_cons]
    have h4 : (erMk e).length = cnt e.2.2 := by
      unfold erMk
      rw [List.length_map, marks_len]
    rw [h3, List.length_append, h4, List.length_cons]
    omega

section
variable {P : Program} {w : World} {K : PySem.W.Frag} {mg : Str → Option Value} {base : Heap}
/-! ### marks_of_part -/
def spMop : Sp := fun vs H Q _ => ∃ (h : Hd) (i : Nat) (ld ls : Bool), vs = [.str (hs h), .int i, .bl ld, .bl ls] ∧ ∀ p, H p = none → Q (.ref p) (upd H p (.tup [.bl (pmk h i ld ls).1, .bl (pmk h i ld ls).2]))
abbrev smarks_of_part : Stmt := top 23
theorem scmarks_of_part : FnScope ["head", "k", "is_led", "is_last"] ["head", "k", "is_led", "is_last"] (defScope smarks_of_part) := ⟨rfl, rfl, rfl, by decide +kernel, rfl, by decide +kernel, by decide +kernel⟩
theorem ok_mop {f : Addr} {fd : FuncData} (F : Fun K "marks_of_part" "marks_of_part" smarks_of_part f fd) : FnOk P w K mg base CX0 1 f fd ["head", "k", "is_led", "is_last"] spMop := by
  refine F.ok scmarks_of_part (fun vs H Q E h => ?_) (fun cdv A outer s H vs Q E hr h => ?_)
  · obtain ⟨h, i, ld, ls, rfl, _⟩ := h
    rfl
  obtain ⟨h, i, ld, ls, rfl, q⟩ := h
  refine ⟨_, (pss_cons (ps_if (PW.pt (pw_and (pt_cmpR op_gt (pv 1) pe_int (nomark _)) (pw_and1 (pt_cmpR op_eq (pv 0) pe_str (nomark _))))) (pss_one (ps_ret (pe_tup (pa_cons (pv 2) (pa_cons (pv 3) pa_nil))))) pss_nil)
    (pss_cons (ps_if (PW.pt (pw_and (pt_cmpR op_gt (pv 1) pe_int (nomark _)) (pw_and1 (pt_cmpR op_eq (pv 0) pe_str (nomark _))))) (pss_one (ps_ret (pe_tup (pa_cons pe_bl (pa_cons (pv 3) pa_nil))))) pss_nil)
    (pss_one (ps_ret (pe_tup (pa_cons pe_bl (pa_cons pe_bl pa_nil))))))), ?_⟩
  by_cases c : 0 < i
  · have c' : decide ((i : Int) > 0) = true := decide_eq_true (by omega)
    cases h with
    | lett x =>
      have e : pmk (.lett x) i ld ls = (ld, ls) := by unfold pmk; rw [if_pos c]
      rw [e] at q
      exact ⟨_, rfl, _, _, rfl, rfl, _, rfl, itT c' ⟨_, rfl, rfl, _, rfl, itT rfl ⟨_, rfl, _, rfl, sz (by show 2 ≤ 100000; decide), fun p hp => q p hp⟩⟩⟩
    | iff =>
      have e : pmk .iff i ld ls = (true, ls) := by unfold pmk; rw [if_pos c]
      rw [e] at q
      exact ⟨_, rfl, _, _, rfl, rfl, _, rfl, itT c' ⟨_, rfl, rfl, _, rfl, itF rfl ⟨_, rfl, _, _, rfl, rfl, _, rfl, itT c' ⟨_, rfl, rfl, _, rfl, itT rfl ⟨_, rfl, sz (by show 2 ≤ 100000; decide), fun p hp => q p hp⟩⟩⟩⟩⟩
    | num z =>
      have e : pmk (.num z) i ld ls = (false, false) := by unfold pmk; rw [if_pos c]
      rw [e] at q
      exact ⟨_, rfl, _, _, rfl, rfl, _, rfl, itT c' ⟨_, rfl, rfl, _, rfl, itF rfl ⟨_, rfl, _, _, rfl, rfl, _, rfl, itT c' ⟨_, rfl, rfl, _, rfl, itF rfl ⟨sz (by show 2 ≤ 100000; decide), fun p hp => q p hp⟩⟩⟩⟩⟩
    | nam z =>
      have e : pmk (.nam z) i ld ls = (false, false) := by unfold pmk; rw [if_pos c]
      rw [e] at q
      exact ⟨_, rfl, _, _, rfl, rfl, _, rfl, itT c' ⟨_, rfl, rfl, _, rfl, itF rfl ⟨_, rfl, _, _, rfl, rfl, _, rfl, itT c' ⟨_, rfl, rfl, _, rfl, itF rfl ⟨sz (by show 2 ≤ 100000; decide), fun p hp => q p hp⟩⟩⟩⟩⟩
    | ask z =>
      have e : pmk (.ask z) i ld ls = (false, false) := by unfold pmk; rw [if_pos c]
      rw [e] at q
      exact ⟨_, rfl, _, _, rfl, rfl, _, rfl, itT c' ⟨_, rfl, rfl, _, rfl, itF rfl ⟨_, rfl, _, _, rfl, rfl, _, rfl, itT c' ⟨_, rfl, rfl, _, rfl, itF rfl ⟨sz (by show 2 ≤ 100000; decide), fun p hp => q p hp⟩⟩⟩⟩⟩
    | plus =>
      have e : pmk .plus i ld ls = (false, false) := by unfold pmk; rw [if_pos c]
      rw [e] at q
      exact ⟨_, rfl, _, _, rfl, rfl, _, rfl, itT c' ⟨_, rfl, rfl, _, rfl, itF rfl ⟨_, rfl, _, _, rfl, rfl, _, rfl, itT c' ⟨_, rfl, rfl, _, rfl, itF rfl ⟨sz (by show 2 ≤ 100000; decide), fun p hp => q p hp⟩⟩⟩⟩⟩
    | less =>
      have e : pmk .less i ld ls = (false, false) := by unfold pmk; rw [if_pos c]
      rw [e] at q
      exact ⟨_, rfl, _, _, rfl, rfl, _, rfl, itT c' ⟨_, rfl, rfl, _, rfl, itF rfl ⟨_, rfl, _, _, rfl, rfl, _, rfl, itT c' ⟨_, rfl, rfl, _, rfl, itF rfl ⟨sz (by show 2 ≤ 100000; decide), fun p hp => q p hp⟩⟩⟩⟩⟩
    | tell =>
      have e : pmk .tell i ld ls = (false, false) := by unfold pmk; rw [if_pos c]
      rw [e] at q
      exact ⟨_, rfl, _, _, rfl, rfl, _, rfl, itT c' ⟨_, rfl, rfl, _, rfl, itF rfl ⟨_, rfl, _, _, rfl, rfl, _, rfl, itT c' ⟨_, rfl, rfl, _, rfl, itF rfl ⟨sz (by show 2 ≤ 100000; decide), fun p hp => q p hp⟩⟩⟩⟩⟩
  · have c' : decide ((i : Int) > 0) = false := decide_eq_false (by omega)
    have e : pmk h i ld ls = (false, false) := by unfold pmk; rw [if_neg c]
    rw [e] at q
    exact ⟨_, rfl, _, _, rfl, rfl, _, rfl, itF c' (iteF ⟨_, rfl, _, _, rfl, rfl, _, rfl, itF c' (iteF ⟨sz (by show 2 ≤ 100000; decide), fun p hp => q p hp⟩)⟩)⟩
/-! ### marked_places -/
def spMkd : Sp := fun vs H Q _ => ∃ (p : Addr) (es : List Er) (us : List V), vs = [.ref p] ∧ BkAt H es us p ∧ es.length ≤ 6 ∧ (∀ e ∈ es, cnt e.2.2 ≤ 1000) ∧
  ∀ p' H' its, H p' = none → Same H H' → H' p' = some (.lst its) → All2 (MkV H') (allMk es) its → Q (.ref p') H'
abbrev smarked_places : Stmt := top 22
theorem scmarked_places : FnScope ["book", "marked", "name", "names", "body", "waiting", "place", "term", "is_led", "is_last", "parts", "k", "is_part_led", "is_part_last"] ["book"] (defScope smarked_places) := ⟨rfl, rfl, rfl, by decide +kernel, rfl, by decide +kernel, by decide +kernel⟩
def MkdW (H : Hp) (bk fl : Addr) (nm : Str) (rn body wl : Addr) (dn : List (Str × Mk3)) (t : Tm) (m : Nat) (σ : St) (H' : Hp) : Prop := ∃ o6 o7 o8 o9 o10 o11 o12 o13 fs fv rs es, σ = [some (.ref bk), some (.ref fl), some (.str nm), some (.ref rn), some (.ref body), some (.ref wl), o6, o7, o8, o9, o10, o11, o12, o13] ∧ Same H H' ∧ H wl = none ∧ fl ≠ wl ∧
  H' fl = some (.lst fv) ∧ All2 (MkV H') (dn ++ fs.map fun m => (nm, m)) fv ∧ H' wl = some (.lst (List.reverse rs)) ∧ All2 (EnV H' nm) es rs ∧ m = ecnt es ∧ fs.length + ecnt es ≤ 1000 ∧ fs ++ spread es = marks t true true
def MkdI (H : Hp) (bk fl : Addr) (nm : Str) (rn body wl b ra pp : Addr) (h : Hd) (ld ls : Bool) (dn : List (Str × Mk3)) (fs : List Mk3) (ks : List Int) (kl : List Tm) (es : List En) (ys : List V) (i : Nat) (σ : St) (H' : Hp) : Prop :=
  ∃ o11 o12 o13, σ = [some (.ref bk), some (.ref fl), some (.str nm), some (.ref rn), some (.ref body), some (.ref wl), some (.ref ra), some (.ref b), some (.bl ld), some (.bl ls), some (.ref pp), o11, o12, o13] ∧ Same H H' ∧ (∃ fv, H' fl = some (.lst fv) ∧ All2 (MkV H') (dn ++ fs.map fun m => (nm, m)) fv) ∧
  (∃ rs, H' wl = some (.lst (List.reverse rs)) ∧ All2 (EnV H' nm) (ents h ld ls ks (kl.length - i) (kl.drop (kl.length - i)) ++ es) rs) ∧ H' ra = some (.tup (.str nm :: ks.map V.int)) ∧ H' pp = some (.tup ys) ∧ Stk H' ys kl ∧ ∃ r0, H' b = some (.tup (.str (hs h) :: r0))
theorem ok_mkd (T : Txt K mg) {f g gm : Addr} {fd gd md : FuncData} (F : Fun K "marked_places" "marked_places" smarked_places f fd) (Gparts_of : FnOk P w K mg base CX0 1 g gd ["term"] spParts) (Rparts_of : Ref K mg "parts_of" g gd ["term"])
    (Gmarks_of_part : FnOk P w K mg base CX0 1 gm md ["head", "k", "is_led", "is_last"] spMop) (Rmarks_of_part : Ref K mg "marks_of_part" gm md ["head", "k", "is_led", "is_last"]) : FnOk P w K mg base CX0 2 f fd ["book"] spMkd := by
  refine F.ok scmarked_places (fun vs H Q E h => ?_) (fun cdv A outer s H vs Q E hr h => ?_)
  · obtain ⟨p, es, us, rfl, _⟩ := h
    rfl
  obtain ⟨p, es, us, rfl, hB, hl6, hc, q⟩ := h
  refine ⟨_, (pss_cons (ps_set (i := 1) scmarked_places.nd rfl (Or.inl rfl) (pe_lst pa_nil))
    (pss_cons (ps_for PassesOwn.never rfl (pi_tup (pv 0)) (pg_tup rfl (pgs_cons (pg_name (i := 2) scmarked_places.nd rfl (Or.inl rfl)) (pgs_cons (pg_name (i := 3) scmarked_places.nd rfl (Or.inl rfl)) (pgs_cons (pg_name (i := 4) scmarked_places.nd rfl (Or.inl rfl)) pgs_nil)))) (pss_cons (ps_set (i := 5) scmarked_places.nd rfl (Or.inl rfl) (pe_lst (pa_cons (pe_tup (pa_cons (pe_tup (pa_cons (pv 2) pa_nil)) (pa_cons (pv 4) (pa_cons pe_bl (pa_cons pe_bl pa_nil))))) pa_nil)))
    (pss_one (ps_while PassesOwn.never (pt_truth (pv 5) (by intro _; rfl)) (pss_cons (ps_asg (pe_bm0 PySem.F.plainAttrs_list PySem.F.slot_list_pop PySem.F.type_list_pop mt_pop (pv 5)) (pg_tup rfl (pgs_cons (pg_name (i := 6) scmarked_places.nd rfl (Or.inl rfl)) (pgs_cons (pg_name (i := 7) scmarked_places.nd rfl (Or.inl rfl)) (pgs_cons (pg_name (i := 8) scmarked_places.nd rfl (Or.inl rfl)) (pgs_cons (pg_name (i := 9) scmarked_places.nd rfl (Or.inl rfl)) pgs_nil))))))
    (pss_cons (ps_expr (pe_bm PySem.F.plainAttrs_list PySem.F.slot_list_append PySem.F.type_list_append mt_append (pv 1) (pa_cons (pe_tup (pa_cons (pv 6) (pa_cons (pv 8) (pa_cons (pv 9) pa_nil)))) pa_nil)))
    (pss_cons (ps_set (i := 10) scmarked_places.nd rfl (Or.inl rfl) (pe_call Gparts_of (hr.mono (by omega)) rfl Rparts_of.m Rparts_of.k Rparts_of.b .nil pass0 (pa_cons (pv 7) pa_nil)))
    (pss_one (ps_for PassesOwn.never rfl (pi_revR rfl T.m_reversed (prg_1 rfl T.m_range (pe_callB call_len_seq (by rfl) T.m_len PySem.boot_len (pa_cons (pv 10) pa_nil)))) (pg_name (i := 11) scmarked_places.nd rfl (Or.inl rfl)) (pss_cons (ps_asg (pe_call Gmarks_of_part (hr.mono (by omega)) rfl Rmarks_of_part.m Rmarks_of_part.k Rmarks_of_part.b .nil pass0 (pa_cons (pe_ix ix_tup (pv 7) pe_int (fun _ _ => rfl)) (pa_cons (pv 11) (pa_cons (pv 8) (pa_cons (pv 9) pa_nil))))) (pg_tup rfl (pgs_cons (pg_name (i := 12) scmarked_places.nd rfl (Or.inl rfl)) (pgs_cons (pg_name (i := 13) scmarked_places.nd rfl (Or.inl rfl)) pgs_nil))))
    (pss_one (ps_expr (pe_bm PySem.F.plainAttrs_list PySem.F.slot_list_append PySem.F.type_list_append mt_append (pv 5) (pa_cons (pe_tup (pa_cons (pe_tup (StX.pa_star (pv 6) (pa_cons (pv 11) pa_nil))) (pa_cons (pe_ix ix_tup (pv 10) (pv 11) (fun _ _ => rfl)) (pa_cons (pv 12) (pa_cons (pv 13) pa_nil))))) pa_nil))))))))))))))
    (pss_one (ps_ret (pv 1))))), ?_⟩
  refine ⟨sz (by show 0 ≤ 100000; decide), fun fl hfl => ?_⟩
  have s0 := same_new hfl (.lst [])
  refine ⟨_, rfl, p, rfl, ⟨_, SqT.of (s0 _ _ hB.1)⟩, for_tup (xs := us) (fun i σ H' => ∃ o2 o3 o4 o5 o6 o7 o8 o9 o10 o11 o12 o13 its, σ = [some (.ref p), some (.ref fl), o2, o3, o4, o5, o6, o7, o8, o9, o10, o11, o12, o13] ∧ Same H H' ∧ H' fl = some (.lst its) ∧ All2 (MkV H') (allMk (es.take i)) its) ?_ ?_ ?_ ?_⟩
  · refine ⟨_, _, _, _, _, _, _, _, _, _, _, _, [], rfl, s0, upd_same, ?_⟩
    rw [List.take_zero]
    exact trivial
  · rintro i σ H' _ ⟨_, _, _, _, _, _, _, _, _, _, _, _, its, rfl, s1, h1, k1⟩
    exact SqT.of (s1 _ _ hB.1)
  · rintro i x σ H1 hx ⟨o2, o3, o4, o5, o6, o7, o8, o9, o10, o11, o12, o13, its, rfl, s1, h1, k1⟩
    obtain ⟨e, he, qa, rn, body, rfl, g1, g2, g3⟩ := hB.2.get hx
    have hee := mem_of_get he
    have hce := hc e hee
    refine ⟨qa, _, rfl, SqT.of (s1 _ _ g1), rfl, _, _, rfl, _, _, rfl, _, _, rfl, rfl, ?_⟩
    refine ⟨_, rfl, sz (by show 1 ≤ 100000; decide), fun p0 hp0 => ?_⟩
    have t1 := same_new hp0 (.tup [.str e.1])
    refine ⟨_, rfl, sz (by show 4 ≤ 100000; decide), fun p1 hp1 => ?_⟩
    have t2 := same_new hp1 (.tup [.ref p0, .ref body, .bl true, .bl true])
    refine ⟨sz (by show 1 ≤ 100000; decide), fun wl hwl => ?_⟩
    have t3 := same_new hwl (.lst [.ref p1])
    have tA := t1.trans (t2.trans t3)
    have sA := s1.trans tA
    have hwl0 : H wl = none := s1.free ((t1.trans t2).free hwl)
    have hfw : fl ≠ wl := ne_of_none (t2 _ _ (t1 _ _ h1)) hwl
    refine ⟨MkdW H p fl e.1 rn body wl (allMk (es.take i)) e.2.2, ⟨_, _, _, _, _, _, _, _, _, [], its, [.ref p1], [([], e.2.2, true, true)], rfl, sA, hwl0, hfw, tA _ _ h1, ?_, upd_same, ⟨⟨p1, p0, body, rfl, t3 _ _ upd_same, t3 _ _ (t2 _ _ upd_same), g3.mono sA⟩, trivial⟩, rfl, ?_, ?_⟩, ?_⟩
    · rw [List.map_nil, List.append_nil]
      exact k1.imp fun _ _ z => z.tk (tk_same tA)
    · show 0 + (cnt e.2.2 + 0) ≤ 1000
      omega
    · rw [spread_cons]
      show [] ++ ((marks e.2.2 true true).map (fun m => ([] ++ m.1, m.2)) ++ []) = marks e.2.2 true true
      simp
    clear t3 hwl t2 hp1 t1 hp0 tA sA k1 h1
    rintro m σ H2 ⟨o6, o7, o8, o9, o10, o11, o12, o13, fs, fv, rs, es2, rfl, s2, hw0, _, h1, k1, h2, k2, rfl, hm, hP⟩
    refine ⟨_, rfl, _, .inl ⟨_, SqL.of h2, rfl⟩, ?_⟩
    cases rs with
    | nil =>
      cases es2 with
      | cons _ _ => exact k2.elim
      | nil =>
        refine itF rfl ?_
        have e9 : fs = marks e.2.2 true true := by
          rw [← hP]
          exact (List.append_nil fs).symm
        subst e9
        refine ⟨_, _, _, _, _, _, _, _, _, _, _, _, fv, rfl, s2, h1, ?_⟩
        rw [allMk_take he]
        exact k1
    | cons r rs =>
      cases es2 with
      | nil => exact k2.elim
      | cons e1 es2 =>
        obtain ⟨ks, t1, ld, ls⟩ := e1
        obtain ⟨⟨qb, ra, b, rfl, c1, c2, c3⟩, k3⟩ := k2
        refine itT (by simp) ⟨fun σ' H' => ∃ m', m' < ecnt ((ks, t1, ld, ls) :: es2) ∧ MkdW H p fl e.1 rn body wl (allMk (es.take i)) e.2.2 m' σ' H', fun _ _ z => z, ?_⟩
        -- place, term, is_led, is_last = waiting.pop()
        refine ⟨_, rfl, .inl ⟨rfl, _, SqL.of h2⟩, wl, _, .ref qb, rfl, rfl, h2, by simp, ?_⟩
        have eD : ((V.ref qb :: rs).reverse).dropLast = rs.reverse := by rw [List.reverse_cons, List.dropLast_concat]
        rw [eD]
        have tk2 : TK H2 (upd H2 wl (.lst rs.reverse)) := tk_put h2
        have s3 : Same H (upd H2 wl (.lst rs.reverse)) := same_mut s2 hw0
        have w3 : upd H2 wl (.lst rs.reverse) wl = some (.lst rs.reverse) := upd_same
        have f3 : upd H2 wl (.lst rs.reverse) fl = some (.lst fv) := by
          rw [upd_ne hfw]
          exact h1
        have k4 := k1.imp fun _ _ z => MkV.tk tk2 z
        have k5 := k3.imp fun _ _ z => EnV.tk tk2 z
        have c4 := tk2 _ _ c1
        have c5 := tk2 _ _ c2
        have c6 := c3.tk tk2
        generalize upd H2 wl (.lst rs.reverse) = H3 at s3 w3 f3 k4 k5 c4 c5 c6
        refine ⟨qb, _, rfl, SqT.of c4, rfl, _, _, rfl, _, _, rfl, _, _, rfl, _, _, rfl, rfl, ?_⟩
        -- marked.append((place, is_led, is_last))
        have hfs := k4.len
        rw [List.length_append, List.length_map] at hfs
        have hdl := allMk_len (es := es.take i) fun x hx => hc x (List.mem_of_mem_take hx)
        have hdl2 : (es.take i).length ≤ es.length := by
          rw [List.length_take]
          omega
        refine ⟨_, rfl, .inl ⟨rfl, _, SqL.of f3⟩, _, rfl, _, rfl, _, rfl, sz (by show 3 ≤ 100000; decide), fun p2 hp2 => ?_⟩
        have s4 := same_new hp2 (.tup [.ref ra, .bl ld, .bl ls])
        have f4 := s4 _ _ f3
        refine ⟨fl, _, _, rfl, rfl, f4, Nat.lt_of_le_of_lt (m := 100000) (by omega) (by decide), ?_⟩
        have tk3 : TK H3 (upd (upd H3 p2 (.tup [.ref ra, .bl ld, .bl ls])) fl (.lst (fv ++ [.ref p2]))) := (tk_same s4).trans (tk_put f4)
        have s5 : Same H (upd (upd H3 p2 (.tup [.ref ra, .bl ld, .bl ls])) fl (.lst (fv ++ [.ref p2]))) := same_mut (s3.trans s4) hfl
        have f5 : upd (upd H3 p2 (.tup [.ref ra, .bl ld, .bl ls])) fl (.lst (fv ++ [.ref p2])) fl = some (.lst (fv ++ [.ref p2])) := upd_same
        have w5 : upd (upd H3 p2 (.tup [.ref ra, .bl ld, .bl ls])) fl (.lst (fv ++ [.ref p2])) wl = some (.lst rs.reverse) := by
          rw [upd_ne (Ne.symm hfw)]
          exact s4 _ _ w3
        have c7 : upd (upd H3 p2 (.tup [.ref ra, .bl ld, .bl ls])) fl (.lst (fv ++ [.ref p2])) p2 = some (.tup [.ref ra, .bl ld, .bl ls]) := tk_put f4 _ _ upd_same
        have k6 : All2 (MkV (upd (upd H3 p2 (.tup [.ref ra, .bl ld, .bl ls])) fl (.lst (fv ++ [.ref p2])))) (allMk (es.take i) ++ (fs ++ [(ks, ld, ls)]).map fun m => (e.1, m)) (fv ++ [.ref p2]) := by
          rw [List.map_append, ← List.append_assoc]
          exact (k4.imp fun _ _ z => MkV.tk tk3 z).app ⟨⟨p2, _, rfl, c7, tk3 _ _ c5⟩, trivial⟩
        have k7 := k5.imp fun _ _ z => EnV.tk tk3 z
        have c8 := tk3 _ _ c5
        have c9 := c6.tk tk3
        clear tk3 c7
        generalize upd (upd H3 p2 (.tup [.ref ra, .bl ld, .bl ls])) fl (.lst (fv ++ [.ref p2])) = H5 at s5 f5 w5 k6 k7 c8 c9
        -- parts = parts_of(term)
        obtain ⟨h, n, kf⟩ := t1
        obtain ⟨ys, l, hk⟩ := c9
        refine ⟨_, rfl, b, h, _, rfl, l, fun pp H6 s6 g10 => ?_⟩
        have f6 := s6 _ _ f5
        have w6 := s6 _ _ w5
        have s56 : Same H H6 := s5.trans s6
        have k8 := k6.imp fun _ _ z => MkV.tk (tk_same s6) z
        have k9 := k7.imp fun _ _ z => EnV.tk (tk_same s6) z
        have g11 := s6 _ _ c8
        have hk6 : ∀ i, At H6 (kf i) (ys i) := fun i => (hk i).mono s6
        obtain ⟨r0, hd0⟩ := (l.mono s6).head
        have hkl : (Rfs ys).length = n := List.length_ofFn
        have hkl2 : (List.ofFn kf).length = n := List.length_ofFn
        have hcn : cnt (.mk h n kf) = 1 + cnts (List.ofFn kf) := cnt_mk
        have hec : ecnt ((ks, .mk h n kf, ld, ls) :: es2) = 1 + cnts (List.ofFn kf) + ecnt es2 := by
          show cnt (.mk h n kf) + ecnt es2 = _
          rw [hcn]
        have hnk := len_cnts (List.ofFn kf)
        have hes := len_cnts (es2.map (·.2.1))
        rw [List.length_map] at hes
        have hes2 : es2.length ≤ ecnt es2 := hes
        refine ⟨_, rfl, pp, _, rfl, .inr (SqT.of g10), _, rfl, by decide, by decide, by omega, by omega, ?_⟩
        rw [hkl]
        have e0 : ((n : Int) - 0).toNat = n := by omega
        rw [e0]
        refine for_rangeC (lo := 0 + (n : Int) - 1) (c := -1) (n := n) (MkdI H p fl e.1 rn body wl b ra pp h ld ls (allMk (es.take i)) (fs ++ [(ks, ld, ls)]) ks (List.ofFn kf) es2 (Rfs ys)) ?_ ?_ ?_
        · refine ⟨_, _, _, rfl, s56, ⟨_, f6, k8⟩, ⟨rs, w6, ?_⟩, g11, g10, Stk.fn hk6, r0, hd0⟩
          rw [Nat.sub_zero, List.drop_length]
          exact k9
        · rintro i2 σ' H7 hi ⟨o11', o12', o13', rfl, r1, ⟨fv7, r2, r3⟩, ⟨rs7, r4, r5⟩, r6, r7, r8, r0', r9⟩
          rw [hkl2] at r5
          have hj : n - i2 - 1 < n := by omega
          have ej : (0 : Int) + (n : Int) - 1 + ((i2 : Nat) : Int) * (-1) = ((n - i2 - 1 : Nat) : Int) := by omega
          rw [ej]
          obtain ⟨v, hv⟩ : ∃ v, (Rfs ys)[n - i2 - 1]? = some v := ⟨_, List.getElem?_eq_getElem (by rw [hkl]; exact hj)⟩
          obtain ⟨tj, htj, bj, rfl, hbj⟩ := r8.get hv
          have hes6 := r5.len
          rw [List.length_append, ents_len, List.length_drop, hkl2] at hes6
          -- is_part_led, is_part_last = marks_of_part(..)
          refine ⟨_, rfl, b, _, _, _, rfl, rfl, SqT.of r9, at0, _, rfl, _, rfl, _, rfl, h, n - i2 - 1, ld, ls, rfl, fun p3 hp3 => ?_⟩
          have t3 := same_new hp3 (.tup [.bl (pmk h (n - i2 - 1) ld ls).1, .bl (pmk h (n - i2 - 1) ld ls).2])
          refine ⟨p3, _, rfl, SqT.of upd_same, rfl, _, _, rfl, _, _, rfl, rfl, ?_⟩
          have r4b := t3 _ _ r4
          refine ⟨_, rfl, .inl ⟨rfl, _, SqL.of r4b⟩, _, rfl, ra, _, rfl, .inl (SqT.of (t3 _ _ r6)), _, rfl, sz ?_, fun p4 hp4 => ?_⟩
          · have z9 : (ks, ld, ls) ∈ marks e.2.2 true true := by
              rw [← hP, spread_cons, marks_mk]
              refine List.mem_append_right _ (List.mem_append_left _ ?_)
              rw [List.map_cons]
              exact List.mem_cons.mpr (.inl (by rw [List.append_nil]))
            have z8 : ks.length < cnt e.2.2 := marks_short e.2.2 true true (ks, ld, ls) z9
            show ((.str e.1 :: ks.map V.int) ++ [V.int ((n - i2 - 1 : Nat) : Int)]).length ≤ 100000
            rw [List.length_append, List.length_cons, List.length_map, List.length_singleton]
            omega
          have t4 := same_new hp4 (.tup ((.str e.1 :: ks.map V.int) ++ [.int ((n - i2 - 1 : Nat) : Int)]))
          refine ⟨_, rfl, _, rfl, pp, _, _, _, rfl, rfl, SqT.of (t4 _ _ (t3 _ _ r7)), atI_nat hv, _, rfl, _, rfl, sz (by show 4 ≤ 100000; decide), fun p5 hp5 => ?_⟩
          have t5 := same_new hp5 (.tup [.ref p4, .ref bj, .bl (pmk h (n - i2 - 1) ld ls).1, .bl (pmk h (n - i2 - 1) ld ls).2])
          have tt := t3.trans (t4.trans t5)
          have w7 := tt _ _ r4
          refine ⟨wl, _, _, rfl, rfl, w7, Nat.lt_of_le_of_lt (m := 2000) (by rw [List.length_reverse]; omega) (by decide), ?_⟩
          have tk6 := (tk_same tt).trans (tk_put (o := .lst (rs7.reverse ++ [.ref p5])) w7)
          refine ⟨_, _, _, rfl, same_mut (r1.trans tt) hw0, ⟨fv7, ?_, r3.imp fun _ _ z => MkV.tk tk6 z⟩, ⟨.ref p5 :: rs7, ?_, ?_⟩, tk6 _ _ r6, tk6 _ _ r7, r8.tk tk6, r0', tk6 _ _ r9⟩
          · rw [upd_ne hfw]
            exact tt _ _ r2
          · rw [upd_same, List.reverse_cons]
          · rw [hkl2]
            have e2 : n - (i2 + 1) = n - i2 - 1 := by omega
            have e3 : n - i2 - 1 + 1 = n - i2 := by omega
            rw [e2, ents_drop (by rw [hkl2]; exact hj), e3]
            refine ⟨⟨p5, p4, bj, rfl, ?_, ?_, ?_⟩, r5.imp fun _ _ z => EnV.tk tk6 z⟩
            · exact tk_put w7 _ _ upd_same
            · have z := (tk_same t5).trans (tk_put (o := .lst (rs7.reverse ++ [.ref p5])) w7) _ _ (upd_same (a := p4) (o := .tup ((.str e.1 :: ks.map V.int) ++ [.int ((n - i2 - 1 : Nat) : Int)])))
              rw [z]
              simp
            · have e9 : (List.ofFn kf)[n - i2 - 1]'(by rw [hkl2]; exact hj) = tj := by
                rw [List.getElem?_eq_getElem (by rw [hkl2]; exact hj)] at htj
                exact Option.some.inj htj
              show At _ ((List.ofFn kf)[n - i2 - 1]'(by rw [hkl2]; exact hj)) bj
              rw [e9]
              exact hbj.tk tk6
        · rintro σ' H7 ⟨o11', o12', o13', rfl, r1, ⟨fv7, r2, r3⟩, ⟨rs7, r4, r5⟩, r6, r7, r8, r0', r9⟩
          rw [hkl2, Nat.sub_self, List.drop_zero] at r5
          have e3 : ecnt (ents h ld ls ks 0 (List.ofFn kf) ++ es2) = cnts (List.ofFn kf) + ecnt es2 := by
            unfold ecnt
            rw [List.map_append, ents_snd, cnts_app]
          refine ⟨_, ?_, _, _, _, _, _, _, _, _, fs ++ [(ks, ld, ls)], fv7, rs7, _, rfl, r1, hw0, hfw, r2, r3, r4, r5, rfl, ?_, ?_⟩
          · rw [e3, hec]
            omega
          · rw [e3, List.length_append, List.length_singleton]
            omega
          · rw [← hP, spread_cons, spread_app, spread_ents, marks_mk]
            simp
  · rintro σ H1 ⟨o2, o3, o4, o5, o6, o7, o8, o9, o10, o11, o12, o13, its, rfl, s1, h1, k1⟩
    refine ⟨_, rfl, ?_⟩
    rw [hB.2.len, List.take_length] at k1
    exact q _ _ _ hfl s1 h1 k1
end
end KB

namespace KB
open PySem L2 PyProof.Rows
open PySem.AutoSeq1 (wpAny_loadPart')

/-! ### enumerate(tuple): the layer has it over lists alone -/
theorem new_enumT (l : Addr) (us : Array Value) (n : Nat) (dd : Option Addr) (sl : Array (Option Value)) :
    Meets (Builtin.«enumerate.__new__» ⟨[.type "enumerate", .ref l], []⟩) (fun _ R s =>
      s.heap.get? l = some { cls := .type "tuple", dict := dd, data := .seq us n, slots := sl } ∧
      R (.ok (.ret (.ref (s.heap.push { cls := .type "tuple_iterator", data := .fields #[.ref l, .int 0 0] }).objs.size)))
        { s with heap := (s.heap.push { cls := .type "tuple_iterator", data := .fields #[.ref l, .int 0 0] }).push { cls := .type "enumerate", data := .fields #[.none, .bool false, .ref s.heap.objs.size, rawInt 0, .none, .none] } }) := by
  refine .of_wp fun prog w A R s h => ?_
  obtain ⟨hp, g, d, tk, os⟩ := s
  obtain ⟨hl, h⟩ := h
  have hsub := sub_enumerate
  have hL : Heap.IsTuple (Shared.heap ⟨hp, g, d, tk, os⟩) l us := ⟨_, hl, rfl, n, rfl⟩
  wp_walk using wpAny_loadPart' hl
  refine wpAny_stack_any fun st => wpAny_pure ?_
  split
  · rename_i c _ _ _ _ _
    cases (c == Value.type "enumerate")
    all_goals
      wp_walk using wpAny_loadPart' hl, wpAny_pyIter_tuple hL
      exact ⟨_, rfl, h⟩
  · wp_walk using wpAny_loadPart' hl, wpAny_pyIter_tuple hL
    exact ⟨_, rfl, h⟩
section
variable {prog : Program} {w : World} {A : Around} {E : Value → Shared → Prop} {s : Shared}
theorem call_enumT {l : Addr} {us : Array Value} {Q : Value → Shared → Prop} (hL : s.heap.IsTuple l us)
    (h : ∀ h', IsEnum h' (s.heap.objs.size + 1) s.heap.objs.size 0 .none → h'.IsTupleIter s.heap.objs.size l 0 →
      (∀ b o, s.heap.get? b = some o → h'.get? b = some o) → Q (.ref (s.heap.objs.size + 1)) { s with heap := h' }) :
    wpAny (model prog w) A (call (.type "enumerate") [.ref l]) Q E s := by
  obtain ⟨⟨c, dct, dt, sl⟩, hl, hc, n, hd⟩ := hL
  cases (show c = .type "tuple" from hc)
  cases (show dt = .seq us n from hd)
  refine callType_new F.called_enumerate (by decide) (F.typeCall_enumerate_1 _) (F.newCall_enumerate_1 _) (fun obj => F.args_object_init_2 obj _) F.entry_enumerate_new
    (new_enumT l us n dct sl) ⟨hl, ?_⟩
  have hz : (s.heap.push { cls := .type "tuple_iterator", data := .fields #[.ref l, .int 0 0] }).objs.size = s.heap.objs.size + 1 := Heap.size_push ..
  show _ ∧ _
  rw [hz]
  have g0 := Heap.get?_push_size (s.heap.push { cls := .type "tuple_iterator", data := .fields #[.ref l, .int 0 0] })
    (o := { cls := .type "enumerate", data := .fields #[.none, .bool false, .ref s.heap.objs.size, rawInt 0, .none, .none] }) rfl
  rw [hz] at g0
  refine ⟨⟨_, g0, rfl⟩, h _ g0 ⟨_, Heap.get?_push_of_some _ (Heap.get?_push_size _ rfl), rfl, rfl⟩ fun b o x => ?_⟩
  exact Heap.get?_push_of_some _ (Heap.get?_push_of_some _ x)
end
theorem drawsT {prog : Program} {w : World} {A : Around} (hh : A.handled = none) (it l : Addr) (hne : l ≠ it) (us : Array Value) :
    Draws prog w A it [it, l] us.size (fun i v => us[i]? = some v) (fun i h => h.IsTupleIter it l i ∧ h.IsTuple l us) where
  live := fun _ _ st => let ⟨o, ho, _⟩ := st.1; ⟨o, ho⟩
  frame := fun _ _ _ st hk => ⟨st.1.at fun o e => hk it (by simp) o e, let ⟨o, ho, r⟩ := st.2; ⟨o, hk l (by simp) o ho, r⟩⟩
  item := fun i s Q E hi st hQ => by
    refine RZ.nextOf_tuple_item st.1 st.2 (x := us[i]) (by simp [hi]) fun h' hit' hs' => ?_
    exact hQ _ h' s.toks (by simp [hi]) ⟨hit', st.2.extBut hs'.extBut hne⟩ hs'
  done := fun s Q E st hE => RZ.nextOf_tuple_end hh st.1 st.2 (by simp) hE
/-- the tuple at a, each item in a new pair -/
def IteT (K : PySem.W.Frag) (a : Addr) : It where
  go := fun i H => ∃ (xs : List V) (x : V), SqT K H a xs ∧ xs[i]? = some x
  yld := fun i H v H' => ∃ T x, v = .ref T ∧ H T = none ∧ H' = upd H T (.tup [.int (i : Nat), x]) ∧ ∀ xs, SqT K H a xs → xs[i]? = some x
  stop := fun i H => ∃ xs : List V, SqT K H a xs ∧ xs.length = i
theorem turn_enumT {P : Program} {w : World} {K : PySem.W.Frag} {elts : List Expr} {kk : Nat} {tpos : Pos} (a e it : Addr) :
    Turn P w K (.Tuple elts kk tpos) (IteT K a) [e, it] e (fun i h => (∃ old, IsEnum h e it ((i : Nat) : Int) old) ∧ h.IsTupleIter it a i ∧ e ≠ it ∧ a ≠ it ∧ a ≠ e) where
  mem := by simp
  obj := fun i h st b hb => by
    obtain ⟨⟨old, he⟩, ⟨o, ho, hc, hd⟩, _⟩ := st
    have e' : b = e ∨ b = it := by simpa using hb
    rcases e' with z | z
    · rw [z]; exact ⟨_, he, fun v q => nomatch q⟩
    · rw [z]; exact ⟨o, ho, fun v q => by rw [hd] at q; cases q⟩
  keep := fun i h h' st k => let ⟨⟨old, he⟩, hi, hne⟩ := st; ⟨⟨old, k e (by simp) _ he⟩, hi.at fun o q => k it (by simp) o q, hne⟩
  item := by
    intro X hP hw hK hc i pins s σ H E I hf st hg
    subst hP hw hK
    obtain ⟨⟨old, he⟩, hit, hne, hai, hae⟩ := st
    obtain ⟨xs, x, hq, hx⟩ := hg
    obtain ⟨its, rv, p, hz⟩ := I.tuple hq
    obtain ⟨u, hu, ru⟩ := rv.get hx
    have hel : e < s.heap.objs.size := Heap.lt_size he
    have hil : it < s.heap.objs.size := by obtain ⟨_, q, _⟩ := hit; exact Heap.lt_size q
    have hiz : i < its.toArray.size := by
      have := (List.getElem?_eq_some_iff.mp hu).1
      simpa using this
    refine wpAny_pyNext_enum_itemD (drawsT (A := X.A.in1) (show X.A.in1.handled = none from I.ok.hd hc) it a hai its.toArray) he ⟨hit, p⟩ hiz hne (by simp [hne, Ne.symm hae]) fun y h' tk hy ho hst hT hsz hk => ?_
    have ey : y = u := by
      have h2 : its.toArray[i]? = some u := by simpa using hu
      rw [hy] at h2
      exact Option.some.inj h2
    subst ey
    refine ⟨_, rfl, wpAny_letOwnedTupleGo_enum (s := { s with heap := h', toks := tk + 1 }) ho fun h'' he' sb => ?_⟩
    have hT2 : h''.get? s.heap.objs.size = some { cls := .type "tuple", data := .seq #[.int i tk, y] } := (sb.2 _ (Nat.ne_of_gt hel)).trans hT
    have new : ObjOk X.prog X.w (upd H s.heap.objs.size (.tup [.int (i : Nat), x])) h'' s.heap.objs.size (.tup [.int (i : Nat), x]) :=
      ⟨by show 2 ≤ sizeLine; decide, [.int i tk, y], .cons ⟨_, rfl⟩ (.cons ru .nil), ⟨_, hT2, rfl, _, rfl⟩⟩
    have I1 : Inv X pins σ (upd H s.heap.objs.size (.tup [.int (i : Nat), x])) { s with heap := h'', toks := tk + 1 } :=
      I.turnedNew (ch := [e, it]) (fun b ob hb q => (sb.2 b (fun z => hb (by simp [z]))).trans (hk b ob (fun z => hb (by simp [z])) (fun z => hb (by simp [z])) q)) hf (Nat.le_refl _) new
    refine ⟨.ref s.heap.objs.size, _, I1, rfl, ⟨_, x, rfl, I.hok.fresh (Nat.le_refl _), rfl, fun ys hy => by rw [I.tuple_inj hy hq]; exact hx⟩, ⟨⟨y, ?_⟩, hst.1.at fun o q => (sb.2 it (Ne.symm hne)).trans q, hne, hai, hae⟩, fun b hb => ?_⟩
    · have e1 : ((i + 1 : Nat) : Int) = (i : Int) + 1 := by omega
      rw [e1]
      exact he'
    · have hb' : b < s.heap.objs.size := by
        have e' : b = e ∨ b = it := by simpa using hb
        rcases e' with z | z
        · rw [z]; exact hel
        · rw [z]; exact hil
      rw [upd_ne (Nat.ne_of_lt hb')]
      exact (hf b hb).1
  done := by
    intro X hP hw hK hc i pins s σ H E I hf st hg
    subst hP hw hK
    obtain ⟨⟨old, he⟩, hit, hne, hai, hae⟩ := st
    obtain ⟨xs, hq, hx⟩ := hg
    obtain ⟨its, rv, p, hz⟩ := I.tuple hq
    obtain ⟨f0, f1, f2, f3, f4, f5⟩ := hf it (by simp)
    have hl := rv.length
    have hge : i = its.toArray.size := by
      rw [List.size_toArray]
      omega
    subst hge
    exact wpAny_pyNext_enum_endD (drawsT (A := X.A.in1) (show X.A.in1.handled = none from I.ok.hd hc) it a hai its.toArray) he ⟨hit, p⟩ fun h' eb => ⟨rfl, I.turned (t' := s.toks) (fun b o hb e => eb b o hb e) f0 f1 f3 f4 f5⟩
  self := fun A i s Q E st h => let ⟨⟨_, he⟩, _⟩ := st; wpAny_pyIter_enum he h
def iEnumT (K : PySem.W.Frag) (ta : TA) : TI := fun σ H R => ta σ H fun vs H1 => ∃ a xs, vs = [.ref a] ∧ SqT K H1 a xs ∧ R (IteT K a) H1
theorem pi_enumT {X : Cx} {e : Expr} {ta : TA} {p pos tpos : Pos} {elts : List Expr} {kk : Nat} (hg : Gl X "enumerate") (hm : X.mg "enumerate" = none) (ha : PA X [e] ta) (hs : starEach [e] X.env = [(false, eval e X.env)] := by rfl) :
    PI X (.Tuple elts kk tpos) (.Call (.Name "enumerate" p) [e] [] pos) (iEnumT X.K ta) := by
  refine ⟨fun pins s σ H R I h => ?_⟩
  refine Call_ (ld_blt I hg hm boot_enumerate (PyProof.Rows.callWith_type1 (thn (ha.run pos pins s σ H _ I h) fun us s1 ⟨vs, H1, I1, r1, q1⟩ => ?_) hs rfl))
  obtain ⟨a, xs, ex, hq, q⟩ := q1
  subst ex
  cases r1 with
  | cons r rr =>
    cases rr
    cases r
    obtain ⟨its, rv, p', hz⟩ := I1.tuple hq
    have hal : a < s1.heap.objs.size := by obtain ⟨_, z, _⟩ := p'; exact Heap.lt_size z
    refine call_enumT p' fun h' he hit hk => wpAny_pyIter_enum he ?_
    have I2 : Inv X pins σ H1 { s1 with heap := h' } := I1.kept (t' := s1.toks) hk
    refine ⟨s1.heap.objs.size + 1, [s1.heap.objs.size + 1, s1.heap.objs.size], _, _, H1, rfl, I2, turn_enumT a (s1.heap.objs.size + 1) s1.heap.objs.size, ⟨⟨.none, he⟩, hit, Nat.succ_ne_self _, Nat.ne_of_lt hal, Nat.ne_of_lt (Nat.lt_succ_of_lt hal)⟩, fun b hb => ?_, q⟩
    have hle : s1.heap.objs.size ≤ b := by
      have e' : b = s1.heap.objs.size + 1 ∨ b = s1.heap.objs.size := by simpa using hb
      rcases e' with z | z
      · rw [z]
        exact Nat.le_add_right _ _
      · rw [z]
        exact Nat.le_refl _
    exact I1.fpOk hle (I1.hok.fresh hle)
end KB
namespace KB
open PySem L2
theorem for_enT {K : PySem.W.Frag} {a : Addr} {xs : List V} {g : TG} {tb : TS} {D : Ends} {σ : St} {H : Hp} (Pv : Nat → St → Hp → Prop) (h0 : Pv 0 σ H) (hl : ∀ i σ H, i ≤ xs.length → Pv i σ H → SqT K H a xs)
    (hs : ∀ i x T σ H, xs[i]? = some x → H T = none → Pv i σ H → g (.ref T) σ (upd H T (.tup [.int (i : Nat), x])) fun σ2 H2 => tb { D with nx := Pv (i + 1), ct := Pv (i + 1), bk := D.nx } σ2 H2) (hd : ∀ σ H, Pv xs.length σ H → D.nx σ H) :
    ∃ W : Nat → Nat → St → Hp → Prop, (∃ m, W 0 m σ H) ∧ ∀ i m σ H, W i m σ H →
      ((IteT K a).stop i H ∧ D.nx σ H) ∨ ((IteT K a).go i H ∧ ∃ N : St → Hp → Prop, (∀ σ' H', N σ' H' → ∃ m', m' < m ∧ W (i + 1) m' σ' H') ∧ ∀ x H', (IteT K a).yld i H x H' → g x σ H' fun σ2 H2 => tb { D with nx := N, ct := N, bk := D.nx } σ2 H2) := by
  refine ⟨fun i m σ H => m = xs.length - i ∧ i ≤ xs.length ∧ Pv i σ H, ⟨xs.length, by simp, Nat.zero_le _, h0⟩, ?_⟩
  rintro i m σ H ⟨rfl, hi, p⟩
  have q := hl i σ H hi p
  by_cases hlt : i < xs.length
  · refine .inr ⟨⟨xs, xs[i], q, by simp [hlt]⟩, Pv (i + 1), fun σ' H' p' => ⟨xs.length - (i + 1), by omega, rfl, hlt, p'⟩, fun x H' y => ?_⟩
    obtain ⟨T, z, rfl, hT, rfl, hz⟩ := y
    exact hs i z T σ H (hz xs q) hT p
  · have e : i = xs.length := by omega
    subst e
    exact .inl ⟨⟨xs, q, rfl⟩, hd σ H p⟩

section
variable {P : Program} {w : World} {K : PySem.W.Frag} {mg : Str → Option Value} {base : Heap}
abbrev s_law_parts : Stmt := top 37
theorem scLparts : FnScope ["term"] ["term"] (defScope s_law_parts) := ⟨rfl, rfl, rfl, by decide +kernel, rfl, by decide +kernel, by decide +kernel⟩
theorem ok_Lparts (T : Txt K mg) {f : Addr} {fd : FuncData} (F : Fun K "_law_parts" "_law_parts" s_law_parts f fd) : FnOk P w K mg base CX0 1 f fd ["term"] spParts := by
  refine F.ok scLparts (fun vs H Q E h => ?_) (fun cdv A outer s H vs Q E hr h => ?_)
  · obtain ⟨a, h, xs, rfl, _⟩ := h
    rfl
  obtain ⟨a, h, xs, rfl, l, q⟩ := h
  refine ⟨_, (pss_cons (ps_if (pt_cmpR op_in_seq (pe_ix ix_tup (pv 0) pe_int (fun _ _ => rfl)) (pe_tup (pa_cons pe_str (pa_cons pe_str pa_nil))) rfl) (pss_one (ps_ret (pe_tup pa_nil))) pss_nil)
    (pss_cons (ps_if (pt_cmpR op_eq (pe_ix ix_tup (pv 0) pe_int (fun _ _ => rfl)) pe_str (nomark _)) (pss_one (ps_ret (pe_ix ix_tup (pv 0) pe_int (fun _ _ => rfl)))) pss_nil)
    (pss_one (ps_ret (pe_slice sl_tupA (pv 0) (po_some (pe_op op_add pe_int (pe_callTy call_int1 (by rfl) T.m_int (by decide +kernel) (pa_cons (pe_cmpR op_eq (pe_ix ix_tup (pv 0) pe_int (fun _ _ => rfl)) pe_str (nomark _)) pa_nil)))) po_none))))), ?_⟩
  obtain ⟨r, hd⟩ := l.head
  refine ⟨_, rfl, a, _, _, _, rfl, rfl, SqT.of hd, at0, sz (by show 2 ≤ 100000; decide), fun t ht => ?_⟩
  have s1 := same_new ht (.tup [.str "number", .str "name"])
  refine ⟨t, _, rfl, .inr (SqT.of upd_same), rfl, rfl, _, rfl, ?_⟩
  cases h with
  | num z =>
    refine itT rfl ⟨sz (by decide), fun p hp => q p _ (s1.trans (same_new hp _)) ?_⟩
    rw [l.1, upd_same]
  | nam z =>
    refine itT rfl ⟨sz (by decide), fun p hp => q p _ (s1.trans (same_new hp _)) ?_⟩
    rw [l.1, upd_same]
  | ask f =>
    obtain ⟨l1, p, l2, l3⟩ := l
    refine itF rfl ⟨_, rfl, a, _, _, _, rfl, rfl, SqT.of (s1 _ _ l2), at0, rfl, _, rfl, ?_⟩
    refine itT rfl ⟨_, rfl, a, _, _, _, rfl, rfl, SqT.of (s1 _ _ l2), at2, ?_⟩
    exact q p _ s1 (s1 _ _ l3)
  | lett x =>
    refine itF rfl ⟨_, rfl, a, _, _, _, rfl, rfl, SqT.of (s1 _ _ l.2), at0, rfl, _, rfl, ?_⟩
    refine itF rfl ⟨_, rfl, _, rfl, a, _, _, _, rfl, rfl, SqT.of (s1 _ _ l.2), at0, rfl, .inr ⟨_, rfl, _, _, rfl, rfl, _, rfl, a, _, rfl, SqT.of (s1 _ _ l.2), ?_, ?_⟩⟩
    · exact fun z => absurd z (not_whole (i := 2) (by decide) len2)
    · intro _ p hp
      refine q p _ (s1.trans (same_new hp _)) ?_
      rw [upd_same]
      exact congrArg (fun z => some (HO.tup z)) cut2
  | plus | less | tell | iff =>
    refine itF rfl ⟨_, rfl, a, _, _, _, rfl, rfl, SqT.of (s1 _ _ l.2), at0, rfl, _, rfl, ?_⟩
    refine itF rfl ⟨_, rfl, _, rfl, a, _, _, _, rfl, rfl, SqT.of (s1 _ _ l.2), at0, rfl, .inr ⟨_, rfl, _, _, rfl, rfl, _, rfl, a, _, rfl, SqT.of (s1 _ _ l.2), ?_, ?_⟩⟩
    · exact fun z => absurd z (not_whole (i := 1) (by decide) len1)
    · intro _ p hp
      refine q p _ (s1.trans (same_new hp _)) ?_
      rw [upd_same]
      exact congrArg (fun z => some (HO.tup z)) cut1
end
end KB

namespace KB
open PySem L2 HT

/-! ### those that are last, those that are led on -/
def lastsOf (l : List Mk3) : List (List Int) := (l.filter (·.2.2)).map (·.1)
def ledsOf (l : List Mk3) : List (List Int) := (l.filter (·.2.1)).map (·.1)
theorem lasts_app (a b : List Mk3) : lastsOf (a ++ b) = lastsOf a ++ lastsOf b := by
  unfold lastsOf
  rw [List.filter_append, List.map_append]
theorem leds_app (a b : List Mk3) : ledsOf (a ++ b) = ledsOf a ++ ledsOf b := by
  unfold ledsOf
  rw [List.filter_append, List.map_append]
theorem lasts_map (l : List Mk3) (g : List Int → List Int) : lastsOf (l.map fun m => (g m.1, m.2)) = (lastsOf l).map g := by
  induction l with
  | nil => rfl
  | cons m r ih =>
    unfold lastsOf at ih ⊢
    rw [List.map_cons]
    by_cases h : m.2.2 = true
    · rw [List.filter_cons_of_pos (by exact h), List.filter_cons_of_pos (by exact h), List.map_cons, List.map_cons, List.map_cons, ih]
    · rw [List.filter_cons_of_neg (by exact h), List.filter_cons_of_neg (by exact h), ih]
theorem leds_map (l : List Mk3) (g : List Int → List Int) : ledsOf (l.map fun m => (g m.1, m.2)) = (ledsOf l).map g := by
  induction l with
  | nil => rfl
  | cons m r ih =>
    unfold ledsOf at ih ⊢
    rw [List.map_cons]
    by_cases h : m.2.1 = true
    · rw [List.filter_cons_of_pos (by exact h), List.filter_cons_of_pos (by exact h), List.map_cons, List.map_cons, List.map_cons, ih]
    · rw [List.filter_cons_of_neg (by exact h), List.filter_cons_of_neg (by exact h), ih]
theorem lasts_cons (h : Hd) (ld ls : Bool) (j : Nat) (t : Tm) (ts : List Tm) : lastsOf (marksL h ld ls j (t :: ts)) = (lastsOf (marks t (pmk h j ld ls).1 (pmk h j ld ls).2)).map ((j : Int) :: ·) ++ lastsOf (marksL h ld ls (j + 1) ts) := by
  show lastsOf ((marks t _ _).map (fun m => ((j : Int) :: m.1, m.2)) ++ _) = _
  rw [lasts_app, lasts_map]
theorem leds_cons (h : Hd) (ld ls : Bool) (j : Nat) (t : Tm) (ts : List Tm) : ledsOf (marksL h ld ls j (t :: ts)) = (ledsOf (marks t (pmk h j ld ls).1 (pmk h j ld ls).2)).map ((j : Int) :: ·) ++ ledsOf (marksL h ld ls (j + 1) ts) := by
  show ledsOf ((marks t _ _).map (fun m => ((j : Int) :: m.1, m.2)) ++ _) = _
  rw [leds_app, leds_map]
theorem pmk_ls (h : Hd) (i : Nat) (ld ls ls' : Bool) : (pmk h i ld ls).1 = (pmk h i ld ls').1 := by
  unfold pmk
  by_cases c : 0 < i
  · rw [if_pos c, if_pos c]
    cases h <;> rfl
  · rw [if_neg c, if_neg c]
theorem pmk_ld (h : Hd) (i : Nat) (ld ld' ls : Bool) : (pmk h i ld ls).2 = (pmk h i ld' ls).2 := by
  unfold pmk
  by_cases c : 0 < i
  · rw [if_pos c, if_pos c]
    cases h <;> rfl
  · rw [if_neg c, if_neg c]
theorem pmk_no (h : Hd) (i : Nat) (ld : Bool) : (pmk h i ld false).2 = false := by
  unfold pmk
  by_cases c : 0 < i
  · rw [if_pos c]
    cases h <;> rfl
  · rw [if_neg c]
theorem leds_ls : ∀ (t : Tm) (ld ls ls' : Bool), ledsOf (marks t ld ls) = ledsOf (marks t ld ls') := by
  have go : ∀ (h : Hd) (ld ls ls' : Bool) (ts : List Tm) (j : Nat), (∀ t ∈ ts, ∀ a b b', ledsOf (marks t a b) = ledsOf (marks t a b')) → ledsOf (marksL h ld ls j ts) = ledsOf (marksL h ld ls' j ts) := by
    intro h ld ls ls' ts
    induction ts with
    | nil => intro j _; rfl
    | cons t r ih =>
      intro j hh
      rw [leds_cons, leds_cons, ih (j + 1) fun u hu => hh u (List.mem_cons_of_mem _ hu), pmk_ls h j ld ls ls', hh t List.mem_cons_self _ _ (pmk h j ld ls').2]
  intro t
  induction t with
  | mk h n k ih =>
    intro ld ls ls'
    rw [marks_mk, marks_mk]
    have e := go h ld ls ls' (List.ofFn k) 0 fun t ht => by
      obtain ⟨i, rfl⟩ := List.mem_ofFn.mp ht
      exact ih i
    show ledsOf ([([], ld, ls)] ++ _) = ledsOf ([([], ld, ls')] ++ _)
    rw [leds_app, leds_app, e]
    cases ld <;> rfl
theorem lasts_ld : ∀ (t : Tm) (ld ld' ls : Bool), lastsOf (marks t ld ls) = lastsOf (marks t ld' ls) := by
  have go : ∀ (h : Hd) (ld ld' ls : Bool) (ts : List Tm) (j : Nat), (∀ t ∈ ts, ∀ a a' b, lastsOf (marks t a b) = lastsOf (marks t a' b)) → lastsOf (marksL h ld ls j ts) = lastsOf (marksL h ld' ls j ts) := by
    intro h ld ld' ls ts
    induction ts with
    | nil => intro j _; rfl
    | cons t r ih =>
      intro j hh
      rw [lasts_cons, lasts_cons, ih (j + 1) fun u hu => hh u (List.mem_cons_of_mem _ hu), pmk_ld h j ld ld' ls, hh t List.mem_cons_self _ (pmk h j ld' ls).1 _]
  intro t
  induction t with
  | mk h n k ih =>
    intro ld ld' ls
    rw [marks_mk, marks_mk]
    have e := go h ld ld' ls (List.ofFn k) 0 fun t ht => by
      obtain ⟨i, rfl⟩ := List.mem_ofFn.mp ht
      exact ih i
    show lastsOf ([([], ld, ls)] ++ _) = lastsOf ([([], ld', ls)] ++ _)
    rw [lasts_app, lasts_app, e]
    cases ls <;> rfl
theorem lasts_no : ∀ (t : Tm) (ld : Bool), lastsOf (marks t ld false) = [] := by
  have go : ∀ (h : Hd) (ld : Bool) (ts : List Tm) (j : Nat), (∀ t ∈ ts, ∀ a, lastsOf (marks t a false) = []) → lastsOf (marksL h ld false j ts) = [] := by
    intro h ld ts
    induction ts with
    | nil => intro j _; rfl
    | cons t r ih =>
      intro j hh
      rw [lasts_cons, ih (j + 1) fun u hu => hh u (List.mem_cons_of_mem _ hu), pmk_no, hh t List.mem_cons_self]
      rfl
  intro t
  induction t with
  | mk h n k ih =>
    intro ld
    rw [marks_mk]
    show lastsOf ([([], ld, false)] ++ _) = _
    rw [lasts_app, go h ld (List.ofFn k) 0 fun t ht => by
      obtain ⟨i, rfl⟩ := List.mem_ofFn.mp ht
      exact ih i]
    rfl
def ends (t : Tm) : List (List Int) := lastsOf (marks t true true)
theorem ends_mk {h : Hd} {n : Nat} {k : _root_.Fin n → Tm} : ends (.mk h n k) = [] :: lastsOf (marksL h true true 0 (List.ofFn k)) := by
  unfold ends
  rw [marks_mk]
  show lastsOf ([([], true, true)] ++ _) = _
  rw [lasts_app]
  rfl
theorem kids_of (t : Tm) : ends t = [] :: lastsOf (marksL (hdT t) true true 0 (kidsT t)) := by
  cases t with
  | mk h n k => exact ends_mk
theorem lasts_flat {h : Hd} (hl : lazyH h = false) : ∀ (ts : List Tm) (j : Nat), lastsOf (marksL h true true j ts) = []
  | [], _ => rfl
  | t :: ts, j => by
    rw [lasts_cons, lasts_flat hl ts (j + 1)]
    have e : (pmk h j true true).2 = false := by
      unfold pmk
      by_cases c : 0 < j
      · rw [if_pos c]
        cases h <;> first | rfl | cases hl
      · rw [if_neg c]
    rw [e, lasts_no]
    rfl
theorem ends_flat {t : Tm} (hl : lazyH (hdT t) = false) : ends t = [[]] := by rw [kids_of, lasts_flat hl]
theorem ends_let {t : Tm} {x : Str} (hh : hdT t = .lett x) (hl : (kidsT t).length = 2) : ends t = [[]] ++ (ends (kid t 1)).map ((1 : Int) :: ·) := by
  rw [kids_of, hh]
  have e1 := kid_eq (t := t) (i := 1) (by omega)
  match hk : kidsT t, hl with
  | [a, b], _ =>
    rw [hk] at e1
    have e1' : b = kid t 1 := Option.some.inj e1
    rw [← e1', lasts_cons, lasts_cons]
    show [] :: ((lastsOf (marks a false false)).map _ ++ ((lastsOf (marks b true true)).map _ ++ [])) = _
    rw [lasts_no, List.append_nil]
    rfl
theorem ends_if {t : Tm} (hh : hdT t = .iff) (hl : (kidsT t).length = 3) : ends t = ([[]] ++ (ends (kid t 1)).map ((1 : Int) :: ·)) ++ (ends (kid t 2)).map ((2 : Int) :: ·) := by
  rw [kids_of, hh]
  have e1 := kid_eq (t := t) (i := 1) (by omega)
  have e2 := kid_eq (t := t) (i := 2) (by omega)
  match hk : kidsT t, hl with
  | [a, b, c], _ =>
    rw [hk] at e1 e2
    have e1' : b = kid t 1 := Option.some.inj e1
    have e2' : c = kid t 2 := Option.some.inj e2
    rw [← e1', ← e2', lasts_cons, lasts_cons, lasts_cons]
    show [] :: ((lastsOf (marks a false false)).map _ ++ ((lastsOf (marks b true true)).map _ ++ ((lastsOf (marks c true true)).map _ ++ []))) = _
    rw [lasts_no, List.append_nil]
    rfl
theorem marksL_take {h : Hd} {ld ls : Bool} : ∀ {ts : List Tm} {i j : Nat} {t : Tm}, ts[i]? = some t → marksL h ld ls j (ts.take (i + 1)) = marksL h ld ls j (ts.take i) ++ (marks t (pmk h (j + i) ld ls).1 (pmk h (j + i) ld ls).2).map fun m => (((j + i : Nat) : Int) :: m.1, m.2)
  | [], _, _, _, e => by simp at e
  | a :: ts, 0, j, t, e => by
    have e' : a = t := by simpa using e
    subst e'
    show (marks a _ _).map _ ++ marksL h ld ls (j + 1) [] = [] ++ _
    show (marks a _ _).map _ ++ [] = _
    rw [List.append_nil]
    rfl
  | a :: ts, i + 1, j, t, e => by
    have e' : ts[i]? = some t := by simpa using e
    show (marks a _ _).map _ ++ marksL h ld ls (j + 1) (ts.take (i + 1)) = ((marks a _ _).map _ ++ marksL h ld ls (j + 1) (ts.take i)) ++ _
    rw [marksL_take e', List.append_assoc]
    have e2 : j + 1 + i = j + (i + 1) := by omega
    rw [e2]
/-- what is last is led on -/
theorem last_led : ∀ (t : Tm) (ld ls : Bool), (ls = true → ld = true) → ∀ m ∈ marks t ld ls, m.2.2 = true → m.2.1 = true := by
  have pm : ∀ (h : Hd) (i : Nat) (ld ls : Bool), (ls = true → ld = true) → (pmk h i ld ls).2 = true → (pmk h i ld ls).1 = true := by
    intro h i ld ls hl
    unfold pmk
    by_cases c : 0 < i
    · rw [if_pos c]
      cases h with
      | lett x => exact hl
      | iff => exact fun _ => rfl
      | _ => exact fun z => by cases z
    · rw [if_neg c]
      exact fun z => by cases z
  have go : ∀ (h : Hd) (ld ls : Bool), (ls = true → ld = true) → ∀ (ts : List Tm) (j : Nat), (∀ t ∈ ts, ∀ a b, (b = true → a = true) → ∀ m ∈ marks t a b, m.2.2 = true → m.2.1 = true) → ∀ m ∈ marksL h ld ls j ts, m.2.2 = true → m.2.1 = true := by
    intro h ld ls hl ts
    induction ts with
    | nil =>
      intro j _ m hm
      cases hm
    | cons t r ih =>
      intro j hh m hm
      have hm' : m ∈ (marks t (pmk h j ld ls).1 (pmk h j ld ls).2).map (fun m => ((j : Int) :: m.1, m.2)) ++ marksL h ld ls (j + 1) r := hm
      rcases List.mem_append.mp hm' with z | z
      · obtain ⟨p', h1, rfl⟩ := List.mem_map.mp z
        exact hh t List.mem_cons_self _ _ (pm h j ld ls hl) p' h1
      · exact ih (j + 1) (fun u hu => hh u (List.mem_cons_of_mem _ hu)) m z
  intro t
  induction t with
  | mk h n k ih =>
    intro ld ls hl m hm
    rw [marks_mk] at hm
    rcases List.mem_cons.mp hm with z | z
    · rw [z]
      exact hl
    · exact go h ld ls hl _ 0 (fun t ht => by
        obtain ⟨i, rfl⟩ := List.mem_ofFn.mp ht
        exact ih i) m z
theorem lasts_leds (t : Tm) : ∀ ks ∈ ends t, ks ∈ ledsOf (marks t true true) := by
  intro ks hk
  unfold ends lastsOf at hk
  obtain ⟨m, hm, rfl⟩ := List.mem_map.mp hk
  obtain ⟨h1, h2⟩ := List.mem_filter.mp hm
  exact List.mem_map.mpr ⟨m, List.mem_filter.mpr ⟨h1, last_led t true true (fun _ => rfl) m h1 h2⟩, rfl⟩
theorem ends_len (t : Tm) : (ends t).length ≤ cnt t := by
  unfold ends lastsOf
  rw [List.length_map, ← marks_len t true true]
  exact List.length_filter_le _ _
theorem leds_len (t : Tm) (ld ls : Bool) : (ledsOf (marks t ld ls)).length ≤ cnt t := by
  unfold ledsOf
  rw [List.length_map, ← marks_len t ld ls]
  exact List.length_filter_le _ _
def lastPl (es : List Er) : List (Str × List Int) := (es.map fun e => (ends e.2.2).map fun ks => (e.1, ks)).flatten
def ledPl (es : List Er) : List (Str × List Int) := (es.map fun e => (ledsOf (marks e.2.2 true true)).map fun ks => (e.1, ks)).flatten
theorem last_all (es : List Er) : ((allMk es).filter (·.2.2.2)).map (fun m => (m.1, m.2.1)) = lastPl es := by
  induction es with
  | nil => rfl
  | cons e r ih =>
    have h3 : allMk (e :: r) = erMk e ++ allMk r := by
      unfold allMk
      rw [List.map_cons, List.flatten_cons]
    have h4 : lastPl (e :: r) = (ends e.2.2).map (fun ks => (e.1, ks)) ++ lastPl r := by
      unfold lastPl
      rw [List.map_cons, List.flatten_cons]
    rw [h3, h4, List.filter_append, List.map_append, ih]
    congr 1
    unfold erMk ends lastsOf
    generalize marks e.2.2 true true = l
    induction l with
    | nil => rfl
    | cons m l ih2 =>
      rw [List.map_cons]
      by_cases h : m.2.2 = true
      · rw [List.filter_cons_of_pos (by exact h), List.filter_cons_of_pos (by exact h), List.map_cons, List.map_cons, List.map_cons, ih2]
      · rw [List.filter_cons_of_neg (by exact h), List.filter_cons_of_neg (by exact h), ih2]
theorem led_all (es : List Er) : ((allMk es).filter (·.2.2.1)).map (fun m => (m.1, m.2.1)) = ledPl es := by
  induction es with
  | nil => rfl
  | cons e r ih =>
    have h3 : allMk (e :: r) = erMk e ++ allMk r := by
      unfold allMk
      rw [List.map_cons, List.flatten_cons]
    have h4 : ledPl (e :: r) = (ledsOf (marks e.2.2 true true)).map (fun ks => (e.1, ks)) ++ ledPl r := by
      unfold ledPl
      rw [List.map_cons, List.flatten_cons]
    rw [h3, h4, List.filter_append, List.map_append, ih]
    congr 1
    unfold erMk ledsOf
    generalize marks e.2.2 true true = l
    induction l with
    | nil => rfl
    | cons m l ih2 =>
      rw [List.map_cons]
      by_cases h : m.2.1 = true
      · rw [List.filter_cons_of_pos (by exact h), List.filter_cons_of_pos (by exact h), List.map_cons, List.map_cons, List.map_cons, ih2]
      · rw [List.filter_cons_of_neg (by exact h), List.filter_cons_of_neg (by exact h), ih2]
theorem last_in_led (es : List Er) : ∀ x ∈ lastPl es, x ∈ ledPl es := by
  intro x hx
  obtain ⟨l, hl, hx⟩ := List.mem_flatten.mp hx
  obtain ⟨e, he, rfl⟩ := List.mem_map.mp hl
  obtain ⟨ks, hk, rfl⟩ := List.mem_map.mp hx
  exact List.mem_flatten.mpr ⟨_, List.mem_map.mpr ⟨e, he, rfl⟩, List.mem_map.mpr ⟨ks, lasts_leds _ ks hk, rfl⟩⟩
end KB

namespace KB
open PySem L2 HT
def PlS (H : Hp) (x : Str × List Int) (v : V) : Prop := ∃ r, v = .ref r ∧ H r = some (.tup (.str x.1 :: x.2.map V.int))
theorem PlS.tk {H H' : Hp} (e : TK H H') {x : Str × List Int} {v : V} (h : PlS H x v) : PlS H' x v := let ⟨r, a, b⟩ := h; ⟨r, a, e _ _ b⟩
def PlP (H : Hp) (pre : List V) (ks : List Int) (v : V) : Prop := ∃ r, v = .ref r ∧ H r = some (.tup (pre ++ ks.map V.int))
theorem PlP.tk {H H' : Hp} (e : TK H H') {pre : List V} {ks : List Int} {v : V} (h : PlP H pre ks v) : PlP H' pre ks v := let ⟨r, a, b⟩ := h; ⟨r, a, e _ _ b⟩
theorem PlP.deep {H : Hp} {pre : List V} {i : Int} {ks : List Int} {v : V} (h : PlP H (pre ++ [.int i]) ks v) : PlP H pre (i :: ks) v := by
  obtain ⟨r, a, b⟩ := h
  refine ⟨r, a, ?_⟩
  rw [b, List.append_assoc]
  rfl
section
variable {P : Program} {w : World} {K : PySem.W.Frag} {mg : Str → Option Value} {base : Heap}

/-! ### last_places -/
def spLastP : Sp := fun vs H Q _ => ∃ (p : Addr) (es : List Er) (us : List V), vs = [.ref p] ∧ BkAt H es us p ∧ es.length ≤ 6 ∧ (∀ e ∈ es, cnt e.2.2 ≤ 1000) ∧
  ∀ p' H' its, H p' = none → Same H H' → H' p' = some (.lst its) → All2 (PlS H') (lastPl es) its → Q (.ref p') H'
abbrev slast_places : Stmt := top 20
theorem sclast_places : FnScope ["book", "place", "is_led", "is_last"] ["book"] (defScope slast_places) := ⟨rfl, rfl, rfl, by decide +kernel, rfl, by decide +kernel, by decide +kernel⟩
theorem ok_LastP {f g : Addr} {fd gd : FuncData} (F : Fun K "last_places" "last_places" slast_places f fd) (Gmarked_places : FnOk P w K mg base CX0 2 g gd ["book"] spMkd) (Rmarked_places : Ref K mg "marked_places" g gd ["book"]) : FnOk P w K mg base CX0 3 f fd ["book"] spLastP := by
  refine F.ok sclast_places (fun vs H Q E h => ?_) (fun cdv A outer s H vs Q E hr h => ?_)
  · obtain ⟨p, es, us, rfl, _⟩ := h
    rfl
  obtain ⟨p, es, us, rfl, hB, hl6, hc, q⟩ := h
  refine ⟨_, (pss_one (ps_ret (pe_lc (own := [("place", 1), ("is_led", 2), ("is_last", 3)]) (g := gTup K 3 (gCons (gName 1) (gCons (gName 2) (gCons (gName 3) gNil)))) (by rfl) sclast_places.nd (pi_list (pe_call Gmarked_places (hr.mono (by omega)) rfl Rmarked_places.m Rmarked_places.k Rmarked_places.b .nil pass0 (pa_cons (pv 0) pa_nil))) (blkOk_by (own := [("place", 1), ("is_led", 2), ("is_last", 3)]) (N := ["book", "place", "is_led", "is_last"]) (sc := defScope slast_places) (by decide +kernel)) (fun _ _ _ _ _ => (pg_tup rfl (pgs_cons (pg_name (i := 1) sclast_places.nd rfl (Or.inl rfl)) (pgs_cons (pg_name (i := 2) sclast_places.nd rfl (Or.inl rfl)) (pgs_cons (pg_name (i := 3) sclast_places.nd rfl (Or.inl rfl)) pgs_nil))))) (fun _ _ _ _ _ => (pts_one (pt_val (pv 3)))) (fun _ _ _ _ _ => (pv 1))))), ?_⟩
  refine ⟨_, rfl, p, es, us, rfl, hB, hl6, hc, fun ml H1 its hml s1 h1 k1 => ?_⟩
  have hlen := k1.len
  have hal := allMk_len hc
  refine ⟨ml, rfl, ⟨_, SqL.of h1⟩, fun D hD => lc_list (K := K) (a := ml) (xs := its) (fun j H' => Same H1 H' ∧ ∃ acc, H' D = some (.lst acc) ∧ All2 (PlS H') ((((allMk es).take j).filter (·.2.2.2)).map fun m => (m.1, m.2.1)) acc) ⟨same_new hD _, [], upd_same, trivial⟩ ?_ ?_ ?_⟩
  · rintro j H' _ ⟨sB, _⟩
    exact SqL.of (sB _ _ h1)
  · rintro j x H2 hx ⟨s2, acc, h2, k2⟩
    obtain ⟨m, hm, q0, r, rfl, g1, g2⟩ := k1.get hx
    obtain ⟨hj, hj2⟩ := List.getElem?_eq_some_iff.mp hm
    have hle := k2.len
    rw [List.length_map] at hle
    have hf := List.length_filter_le (·.2.2.2) ((allMk es).take j)
    rw [List.length_take] at hf
    refine ⟨q0, _, rfl, SqT.of (s2 _ _ g1), rfl, _, _, rfl, _, _, rfl, _, _, rfl, rfl, rfl, ?_⟩
    refine ⟨_, rfl, _, rfl, ?_⟩
    rw [List.take_succ_eq_append_getElem hj, hj2, List.filter_append]
    cases hb : m.2.2.2 with
    | true =>
      refine iteT ⟨_, rfl, acc, h2, Nat.lt_of_le_of_lt (m := 100000) (by omega) (by decide), same_mut s2 hD, _, upd_same, ?_⟩
      have tk := tk_put (o := .lst (acc ++ [.ref r])) h2
      rw [List.filter_cons_of_pos (by exact hb), List.map_append]
      exact (k2.imp fun _ _ z => z.tk tk).app ⟨⟨r, rfl, tk _ _ (s2 _ _ g2)⟩, trivial⟩
    | false =>
      refine iteF ⟨s2, acc, h2, ?_⟩
      rw [List.filter_cons_of_neg (by rw [hb]; exact Bool.false_ne_true), List.filter_nil, List.append_nil]
      exact k2
  · rintro H2 ⟨s2, acc, h2, k2⟩
    rw [hlen, List.take_length, last_all] at k2
    refine q D _ acc ?_ (s1.trans s2) h2 k2
    exact s1.free hD

/-! ### led_places -/
def spLedP : Sp := fun vs H Q _ => ∃ (p : Addr) (es : List Er) (us : List V), vs = [.ref p] ∧ BkAt H es us p ∧ es.length ≤ 6 ∧ (∀ e ∈ es, cnt e.2.2 ≤ 1000) ∧
  ∀ p' H' its, H p' = none → Same H H' → H' p' = some (.lst its) → All2 (PlS H') (ledPl es) its → Q (.ref p') H'
abbrev sled_places : Stmt := top 21
theorem scled_places : FnScope ["book", "place", "is_led", "is_last"] ["book"] (defScope sled_places) := ⟨rfl, rfl, rfl, by decide +kernel, rfl, by decide +kernel, by decide +kernel⟩
theorem ok_LedP {f g : Addr} {fd gd : FuncData} (F : Fun K "led_places" "led_places" sled_places f fd) (Gmarked_places : FnOk P w K mg base CX0 2 g gd ["book"] spMkd) (Rmarked_places : Ref K mg "marked_places" g gd ["book"]) : FnOk P w K mg base CX0 3 f fd ["book"] spLedP := by
  refine F.ok scled_places (fun vs H Q E h => ?_) (fun cdv A outer s H vs Q E hr h => ?_)
  · obtain ⟨p, es, us, rfl, _⟩ := h
    rfl
  obtain ⟨p, es, us, rfl, hB, hl6, hc, q⟩ := h
  refine ⟨_, (pss_one (ps_ret (pe_lc (own := [("place", 1), ("is_led", 2), ("is_last", 3)]) (g := gTup K 3 (gCons (gName 1) (gCons (gName 2) (gCons (gName 3) gNil)))) (by rfl) scled_places.nd (pi_list (pe_call Gmarked_places (hr.mono (by omega)) rfl Rmarked_places.m Rmarked_places.k Rmarked_places.b .nil pass0 (pa_cons (pv 0) pa_nil))) (blkOk_by (own := [("place", 1), ("is_led", 2), ("is_last", 3)]) (N := ["book", "place", "is_led", "is_last"]) (sc := defScope sled_places) (by decide +kernel)) (fun _ _ _ _ _ => (pg_tup rfl (pgs_cons (pg_name (i := 1) scled_places.nd rfl (Or.inl rfl)) (pgs_cons (pg_name (i := 2) scled_places.nd rfl (Or.inl rfl)) (pgs_cons (pg_name (i := 3) scled_places.nd rfl (Or.inl rfl)) pgs_nil))))) (fun _ _ _ _ _ => (pts_one (pt_val (pv 2)))) (fun _ _ _ _ _ => (pv 1))))), ?_⟩
  refine ⟨_, rfl, p, es, us, rfl, hB, hl6, hc, fun ml H1 its hml s1 h1 k1 => ?_⟩
  have hlen := k1.len
  have hal := allMk_len hc
  refine ⟨ml, rfl, ⟨_, SqL.of h1⟩, fun D hD => lc_list (K := K) (a := ml) (xs := its) (fun j H' => Same H1 H' ∧ ∃ acc, H' D = some (.lst acc) ∧ All2 (PlS H') ((((allMk es).take j).filter (·.2.2.1)).map fun m => (m.1, m.2.1)) acc) ⟨same_new hD _, [], upd_same, trivial⟩ ?_ ?_ ?_⟩
  · rintro j H' _ ⟨sB, _⟩
    exact SqL.of (sB _ _ h1)
  · rintro j x H2 hx ⟨s2, acc, h2, k2⟩
    obtain ⟨m, hm, q0, r, rfl, g1, g2⟩ := k1.get hx
    obtain ⟨hj, hj2⟩ := List.getElem?_eq_some_iff.mp hm
    have hle := k2.len
    rw [List.length_map] at hle
    have hf := List.length_filter_le (·.2.2.1) ((allMk es).take j)
    rw [List.length_take] at hf
    refine ⟨q0, _, rfl, SqT.of (s2 _ _ g1), rfl, _, _, rfl, _, _, rfl, _, _, rfl, rfl, rfl, ?_⟩
    refine ⟨_, rfl, _, rfl, ?_⟩
    rw [List.take_succ_eq_append_getElem hj, hj2, List.filter_append]
    cases hb : m.2.2.1 with
    | true =>
      refine iteT ⟨_, rfl, acc, h2, Nat.lt_of_le_of_lt (m := 100000) (by omega) (by decide), same_mut s2 hD, _, upd_same, ?_⟩
      have tk := tk_put (o := .lst (acc ++ [.ref r])) h2
      rw [List.filter_cons_of_pos (by exact hb), List.map_append]
      exact (k2.imp fun _ _ z => z.tk tk).app ⟨⟨r, rfl, tk _ _ (s2 _ _ g2)⟩, trivial⟩
    | false =>
      refine iteF ⟨s2, acc, h2, ?_⟩
      rw [List.filter_cons_of_neg (by rw [hb]; exact Bool.false_ne_true), List.filter_nil, List.append_nil]
      exact k2
  · rintro H2 ⟨s2, acc, h2, k2⟩
    rw [hlen, List.take_length, led_all] at k2
    refine q D _ acc ?_ (s1.trans s2) h2 k2
    exact s1.free hD
end
end KB

namespace KB
open PySem L2 HT

/-! ### what is counted -/
inductive Kd | post | home (f : Str) | ask (f : Str) | tell
def postK : Kd → Nat | .post => 1 | _ => 0
def tellK : Kd → Nat | .tell => 1 | _ => 0
def askK (κ : Kd) (f : Str) (b : Bool) : Nat :=
  match κ with
  | .home g => if b = true ∧ g = f then 1 else 0
  | .ask g => if b = false ∧ g = f then 1 else 0
  | _ => 0
def ownK (κ : Kd) : Hd → Bool → Bool → Nat
  | .ask f, ld, ls => (if ld = true then 0 else postK κ) + askK κ f ls
  | .iff, ld, _ => if ld = true then 0 else postK κ
  | .tell, _, _ => tellK κ
  | _, _, _ => 0
def cB (κ : Kd) : Tm → Bool → Bool → Nat
  | .mk h n k, ld, ls => ownK κ h ld ls + (List.ofFn fun i : _root_.Fin n => cB κ (k i) (pmk h i.val ld ls).1 (pmk h i.val ld ls).2).sum
def cBL (κ : Kd) (h : Hd) (ld ls : Bool) : Nat → List Tm → Nat
  | _, [] => 0
  | j, t :: ts => cB κ t (pmk h j ld ls).1 (pmk h j ld ls).2 + cBL κ h ld ls (j + 1) ts
theorem cB_fn {κ : Kd} {h : Hd} {ld ls : Bool} : ∀ {n : Nat} {k : _root_.Fin n → Tm} {j : Nat},
    (List.ofFn fun i : _root_.Fin n => cB κ (k i) (pmk h (j + i.val) ld ls).1 (pmk h (j + i.val) ld ls).2).sum = cBL κ h ld ls j (List.ofFn k)
  | 0, _, _ => rfl
  | n + 1, k, j => by
    rw [List.ofFn_succ, List.ofFn_succ, List.sum_cons]
    show _ = cB κ (k 0) (pmk h j ld ls).1 (pmk h j ld ls).2 + cBL κ h ld ls (j + 1) _
    rw [← cB_fn (k := fun i => k i.succ) (j := j + 1)]
    congr 3
    funext i
    have e : j + (i.succ).val = j + 1 + i.val := by
      rw [_root_.Fin.val_succ]
      omega
    rw [e]
theorem cB_kids {κ : Kd} (t : Tm) (ld ls : Bool) : cB κ t ld ls = ownK κ (hdT t) ld ls + cBL κ (hdT t) ld ls 0 (kidsT t) := by
  cases t with
  | mk h n k =>
    show _ = ownK κ h ld ls + cBL κ h ld ls 0 (List.ofFn k)
    rw [← cB_fn]
    show ownK κ h ld ls + _ = _
    congr 4
    funext i
    rw [Nat.zero_add]
theorem cBL_flat {κ : Kd} {h : Hd} (hl : lazyH h = false) (ld ls : Bool) : ∀ (ts : List Tm) (j : Nat), cBL κ h ld ls j ts = (ts.map fun t => cB κ t false false).sum
  | [], _ => rfl
  | t :: ts, j => by
    have e : pmk h j ld ls = (false, false) := by
      unfold pmk
      by_cases c : 0 < j
      · rw [if_pos c]
        cases h <;> first | rfl | cases hl
      · rw [if_neg c]
    show cB κ t (pmk h j ld ls).1 (pmk h j ld ls).2 + cBL κ h ld ls (j + 1) ts = _
    rw [e, cBL_flat hl ld ls ts (j + 1)]
    rfl
def cT (κ : Kd) : Pt → Nat
  | .give _ _ => 0
  | .ask f _ j => askK κ f (decide (j = "home"))
  | .tell _ _ p => tellK κ + cT κ p
  | .lett _ _ p => cT κ p
  | .iff _ p q => cT κ p + cT κ q
  | .post _ _ p q => postK κ + cT κ p + cT κ q
def cJ (κ : Kd) : Jb → Nat
  | .done t j => cB κ t true (decide (j = "home"))
  | .put t _ => cB κ t false false
  | .simple t => cB κ t false false
  | .tell _ => tellK κ
  | .post _ _ => postK κ
  | .ask f _ j => askK κ f (decide (j = "home"))
  | _ => 0
def cL (κ : Kd) : Ld → Nat
  | .lett _ _ => 0
  | .tell _ _ => tellK κ
  | .post _ _ u => postK κ + cT κ u
def cG (κ : Kd) : Gt → Nat
  | .t _ => 0
  | .p q => cT κ q
/-! ### sums -/
def sm {α : Type} (c : α → Nat) (l : List α) : Nat := (l.map c).sum
theorem sm_cons {α : Type} (c : α → Nat) (a : α) (l : List α) : sm c (a :: l) = c a + sm c l := rfl
theorem sm_app {α : Type} (c : α → Nat) (a b : List α) : sm c (a ++ b) = sm c a + sm c b := by
  unfold sm
  rw [List.map_append, List.sum_append]
theorem sm_nil {α : Type} (c : α → Nat) : sm c [] = 0 := rfl
theorem sm_map {α β : Type} (c : β → Nat) (g : α → β) (l : List α) : sm c (l.map g) = sm (fun a => c (g a)) l := by
  unfold sm
  rw [List.map_map]
  rfl
theorem sm_zero {α : Type} {c : α → Nat} : ∀ {l : List α}, (∀ a ∈ l, c a = 0) → sm c l = 0
  | [], _ => rfl
  | a :: r, h => by
    rw [sm_cons, h a List.mem_cons_self, sm_zero fun x hx => h x (List.mem_cons_of_mem _ hx)]
theorem sm_congr {α : Type} {c d : α → Nat} : ∀ {l : List α}, (∀ a ∈ l, c a = d a) → sm c l = sm d l
  | [], _ => rfl
  | a :: r, h => by
    rw [sm_cons, sm_cons, h a List.mem_cons_self, sm_congr fun x hx => h x (List.mem_cons_of_mem _ hx)]
/-! ### any measure of parts that adds up -/
structure Ms where
  tell : Nat
  lett : Nat
  post : Nat
  iff : Nat
  ask : Str → Str → Nat
  give : Nat
  p : Pt → Nat
  pa : ∀ f ts j, p (.ask f ts j) = ask f j
  pg : ∀ j s, p (.give j s) = give
  pt : ∀ x s q, p (.tell x s q) = tell + p q
  pl : ∀ x s q, p (.lett x s q) = lett + p q
  pp : ∀ j x q u, p (.post j x q u) = post + p q + p u
  pi : ∀ s q u, p (.iff s q u) = iff + p q + p u
namespace Ms
variable (M : Ms)
def l : Ld → Nat
  | .lett _ _ => M.lett
  | .tell _ _ => M.tell
  | .post _ _ u => M.post + M.p u
def g : Gt → Nat
  | .t _ => 0
  | .p q => M.p q
def rg (R : List (List Ld)) (G : List Gt) : Nat := sm (sm M.l) R + sm M.g G
theorem ah : ∀ (r : List Ld) (q : Pt), M.p (putAh r q) = sm M.l r + M.p q
  | [], q => (Nat.zero_add _).symm
  | .lett x s :: r, q => by
    show M.p (.lett x s (putAh r q)) = _
    rw [M.pl, ah r q, sm_cons]
    show _ = M.lett + _ + _
    omega
  | .tell x s :: r, q => by
    show M.p (.tell x s (putAh r q)) = _
    rw [M.pt, ah r q, sm_cons]
    show _ = M.tell + _ + _
    omega
  | .post j x u :: r, q => by
    show M.p (.post j x (putAh r q) u) = _
    rw [M.pp, ah r q, sm_cons]
    show _ = (M.post + M.p u) + _ + _
    omega
/-- what a finishing job adds -/
def fin : Jb → Nat
  | .lett _ => M.lett
  | .tell _ => M.tell
  | .post _ _ => M.post
  | .iff => M.iff
  | .ask f _ j => M.ask f j
  | .give _ => M.give
  | _ => 0
theorem fin_rg {j : Jb} {R R1 : List (List Ld)} {G G1 : List Gt} (f : Fin j R G R1 G1) : M.fin j + M.rg R G = M.rg R1 G1 := by
  unfold rg
  cases f with
  | row =>
    show 0 + _ = _
    rw [sm_cons, sm_nil]
    omega
  | @close r _ q _ =>
    show 0 + _ = _
    rw [sm_cons, sm_cons, sm_cons]
    show _ = _ + (M.p (putAh r q) + _)
    rw [M.ah]
    show 0 + (_ + (M.p q + _)) = _
    omega
  | lett =>
    show M.lett + _ = _
    rw [sm_cons, sm_cons, sm_cons, sm_app, sm_cons, sm_nil]
    show _ + (_ + (0 + _)) = (_ + (M.lett + _)) + _ + _
    omega
  | tell =>
    show M.tell + _ = _
    rw [sm_cons, sm_cons, sm_cons, sm_app, sm_cons, sm_nil]
    show _ + (_ + (0 + _)) = (_ + (M.tell + _)) + _ + _
    omega
  | @post _ _ _ _ q _ =>
    show M.post + _ = _
    rw [sm_cons, sm_cons, sm_cons, sm_app, sm_cons, sm_nil]
    show _ + (_ + (M.p q + _)) = (_ + ((M.post + M.p q) + _)) + _ + _
    omega
  | known =>
    show 0 + _ = _
    rw [sm_cons]
    show _ = _ + (0 + _)
    omega
  | @ask _ _ ts _ _ =>
    have e : sm M.g ((ts.map Gt.t).reverse) = 0 := sm_zero fun a ha => by
      obtain ⟨t, _, rfl⟩ := List.mem_map.mp (List.mem_reverse.mp ha)
      rfl
    rw [sm_app, e, sm_cons]
    show M.ask _ _ + _ = _ + (M.p (.ask _ _ _) + _)
    rw [M.pa]
    omega
  | give =>
    rw [sm_cons, sm_cons]
    show M.give + (_ + (0 + _)) = _ + (M.p (.give _ _) + _)
    rw [M.pg]
    omega
  | @iff a b c _ _ =>
    show M.iff + _ = _
    rw [sm_cons, sm_cons, sm_cons, sm_cons]
    show _ + (_ + (M.p c + (M.p b + (0 + _)))) = _ + (M.p (.iff a b c) + _)
    rw [M.pi]
    omega
  | op =>
    show 0 + _ = _
    rw [sm_cons, sm_cons, sm_cons]
    show _ + (_ + (0 + (0 + _))) = _ + (0 + _)
    omega
end Ms
/-! ### terms have as many parts as their heads ask for -/
def arT : Tm → Prop
  | .mk h n k => arH h n ∧ ∀ i, arT (k i)
theorem arT.here {t : Tm} (h : arT t) : arN t := by
  cases t with
  | mk hd n k =>
    show arH hd (kidsT (.mk hd n k)).length
    rw [kids_len]
    exact h.1
theorem arT.kid {t u : Tm} (h : arT t) (m : u ∈ kidsT t) : arT u := by
  cases t with
  | mk hd n k =>
    obtain ⟨i, rfl⟩ := List.mem_ofFn.mp m
    exact h.2 i
theorem At.arT {H : Hp} : ∀ {t : Tm} {a : Addr}, At H t a → KB.arT t := by
  intro t
  induction t with
  | mk hd n k ih =>
    intro a h
    obtain ⟨ys, l, r⟩ := h
    have := l.ar
    unfold Rfs at this
    rw [List.length_ofFn] at this
    exact ⟨this, fun i => ih i (r i)⟩
def arJ : Jb → Prop
  | .done t _ => arT t
  | .put t _ => arT t
  | .simple t => arT t
  | _ => True
theorem arE {t : Tm} {j : Str} (h : arT t) : ∀ x ∈ endJ t j, arJ x := by
  intro x hx
  unfold endJ at hx
  have hn := h.here
  unfold arN at hn
  have hk : ∀ u ∈ kidsT t, arT u := fun u hu => h.kid hu
  split at hx
  · rcases List.mem_append.mp hx with z | z
    · obtain ⟨u, hu, rfl⟩ := List.mem_map.mp z
      exact hk u hu
    · cases List.mem_singleton.mp z
      trivial
  · rename_i a b c h1 h2
    rw [h2] at hk
    have ha := hk a (by simp)
    have hb := hk b (by simp)
    have hc := hk c (by simp)
    simp only [List.mem_cons, List.not_mem_nil, or_false] at hx
    rcases hx with rfl | rfl | rfl | rfl | rfl | rfl
    · exact ha
    · trivial
    · exact hb
    · trivial
    · exact hc
    · trivial
  · simp only [List.mem_cons, List.not_mem_nil, or_false] at hx
    rcases hx with rfl | rfl
    · exact h
    · trivial
theorem arD {t : Tm} {j : Str} (h : arT t) : ∀ x ∈ doneJ t j, arJ x := by
  intro x hx
  unfold doneJ at hx
  have hk : ∀ u ∈ kidsT t, arT u := fun u hu => h.kid hu
  split at hx
  · rename_i a b h1 h2
    rw [h2] at hk
    have ha := hk a (by simp)
    have hb := hk b (by simp)
    simp only [List.mem_cons, List.not_mem_nil, or_false] at hx
    rcases hx with rfl | rfl
    · exact ha
    · exact hb
  · rcases List.mem_append.mp hx with z | z
    · exact arE h x z
    · cases List.mem_singleton.mp z
      trivial
theorem arP {t : Tm} {y w : Str} (h : arT t) : ∀ x ∈ putJ t y w, arJ x := by
  intro x hx
  unfold putJ at hx
  have hk : ∀ u ∈ kidsT t, arT u := fun u hu => h.kid hu
  split at hx
  · rename_i a b h1 h2
    rw [h2] at hk
    have ha := hk a (by simp)
    have hb := hk b (by simp)
    simp only [List.mem_cons, List.not_mem_nil, or_false] at hx
    rcases hx with rfl | rfl
    · exact ha
    · exact hb
  · rcases List.mem_append.mp hx with z | z
    · exact arE h x z
    · cases List.mem_singleton.mp z
      trivial
  · rcases List.mem_append.mp hx with z | z
    · exact arE h x z
    · cases List.mem_singleton.mp z
      trivial
  · rename_i a h1 h2
    rw [h2] at hk
    have ha := hk a (by simp)
    simp only [List.mem_cons, List.not_mem_nil, or_false] at hx
    rcases hx with rfl | rfl
    · exact ha
    · trivial
  · simp only [List.mem_cons, List.not_mem_nil, or_false] at hx
    rcases hx with rfl | rfl
    · exact h
    · trivial
theorem arS {t : Tm} {w : Str} (h : arT t) : ∀ x ∈ simpJ t w, arJ x := by
  intro x hx
  unfold simpJ at hx
  have hk : ∀ u ∈ kidsT t, arT u := fun u hu => h.kid hu
  split at hx
  · cases List.mem_singleton.mp hx
    trivial
  · cases List.mem_singleton.mp hx
    trivial
  · rename_i a b h1 h2
    rw [h2] at hk
    have ha := hk a (by simp)
    have hb := hk b (by simp)
    simp only [List.mem_cons, List.not_mem_nil, or_false] at hx
    rcases hx with rfl | rfl | rfl
    · exact ha
    · exact hb
    · trivial
  · rename_i a b h1 h2
    rw [h2] at hk
    have ha := hk a (by simp)
    have hb := hk b (by simp)
    simp only [List.mem_cons, List.not_mem_nil, or_false] at hx
    rcases hx with rfl | rfl | rfl
    · exact ha
    · exact hb
    · trivial
  · rename_i a b h1 h2
    rw [h2] at hk
    have ha := hk a (by simp)
    have hb := hk b (by simp)
    simp only [List.mem_cons, List.not_mem_nil, or_false] at hx
    rcases hx with rfl | rfl
    · exact ha
    · exact hb
  · simp only [List.mem_cons, List.not_mem_nil, or_false] at hx
    rcases hx with rfl | rfl
    · exact h
    · trivial
/-- what is kept by every step of a row of jobs: c weighs jobs, M what is told of them -/
theorem Run.le {M : Ms} {c : Jb → Nat} (tk : List Str)
    (hf : ∀ {j R G R1 G1}, Fin j R G R1 G1 → M.fin j ≤ c j)
    (hd : ∀ t j, arT t → sm c (doneJ t j) ≤ c (.done t j))
    (hp : ∀ (t : Tm) (x w : Str), arT t → (wordH (hdT t) = true → w ≠ "home") → sm c (putJ t x w) ≤ c (.put t x))
    (hs : ∀ t w, arT t → sm c (simpJ t w) ≤ c (.simple t))
    {J : List Jb} {R G m R2 G2 m2} (h : Run tk J R G m R2 G2 m2) : (∀ j ∈ J, arJ j) → M.rg R2 G2 ≤ sm c J + M.rg R G := by
  have nh : ∀ {b : Bool} {m w m1}, (b = true → NwR tk m w m1) → b = true → w ≠ "home" := fun h z => by
    obtain ⟨k, _, _, e, _⟩ := h z
    rw [e]
    exact wordOf_home k
  induction h with
  | nil => intro _; exact Nat.le_add_left _ _
  | fin f h ih =>
    intro ha
    have h1 := ih fun x hx => ha x (List.mem_cons_of_mem _ hx)
    have h2 := hf f
    have h3 := M.fin_rg f
    rw [sm_cons]
    omega
  | @done t j J R G m R2 G2 m2 h ih =>
    intro ha
    have h0 : arT t := ha _ List.mem_cons_self
    have h1 := ih fun x hx => by
      rcases List.mem_append.mp hx with z | z
      · exact arD h0 x z
      · exact ha x (List.mem_cons_of_mem _ z)
    have h2 := hd t j h0
    rw [sm_app] at h1
    rw [sm_cons]
    omega
  | @put t x w J R G m m1 R2 G2 m2 h1 h2 h ih =>
    intro ha
    have h0 : arT t := ha _ List.mem_cons_self
    have h1 := ih fun x hx => by
      rcases List.mem_append.mp hx with z | z
      · exact arP h0 x z
      · exact ha x (List.mem_cons_of_mem _ z)
    have h2 := hp t x w h0 (nh ‹_›)
    rw [sm_app] at h1
    rw [sm_cons]
    omega
  | @simple t w J R G m m1 R2 G2 m2 h1 h2 h ih =>
    intro ha
    have h0 : arT t := ha _ List.mem_cons_self
    have h1 := ih fun x hx => by
      rcases List.mem_append.mp hx with z | z
      · exact arS h0 x z
      · exact ha x (List.mem_cons_of_mem _ z)
    have h2 := hs t w h0
    rw [sm_app] at h1
    rw [sm_cons]
    omega
theorem Run.ge {M : Ms} {c : Jb → Nat} (tk : List Str)
    (hf : ∀ {j R G R1 G1}, Fin j R G R1 G1 → c j ≤ M.fin j)
    (hd : ∀ t j, arT t → c (.done t j) ≤ sm c (doneJ t j))
    (hp : ∀ (t : Tm) (x w : Str), arT t → (wordH (hdT t) = true → w ≠ "home") → c (.put t x) ≤ sm c (putJ t x w))
    (hs : ∀ t w, arT t → c (.simple t) ≤ sm c (simpJ t w))
    {J : List Jb} {R G m R2 G2 m2} (h : Run tk J R G m R2 G2 m2) : (∀ j ∈ J, arJ j) → sm c J + M.rg R G ≤ M.rg R2 G2 := by
  have nh : ∀ {b : Bool} {m w m1}, (b = true → NwR tk m w m1) → b = true → w ≠ "home" := fun h z => by
    obtain ⟨k, _, _, e, _⟩ := h z
    rw [e]
    exact wordOf_home k
  induction h with
  | nil => intro _; rw [sm_nil]; omega
  | fin f h ih =>
    intro ha
    have h1 := ih fun x hx => ha x (List.mem_cons_of_mem _ hx)
    have h2 := hf f
    have h3 := M.fin_rg f
    rw [sm_cons]
    omega
  | @done t j J R G m R2 G2 m2 h ih =>
    intro ha
    have h0 : arT t := ha _ List.mem_cons_self
    have h1 := ih fun x hx => by
      rcases List.mem_append.mp hx with z | z
      · exact arD h0 x z
      · exact ha x (List.mem_cons_of_mem _ z)
    have h2 := hd t j h0
    rw [sm_app] at h1
    rw [sm_cons]
    omega
  | @put t x w J R G m m1 R2 G2 m2 h1 h2 h ih =>
    intro ha
    have h0 : arT t := ha _ List.mem_cons_self
    have h1 := ih fun x hx => by
      rcases List.mem_append.mp hx with z | z
      · exact arP h0 x z
      · exact ha x (List.mem_cons_of_mem _ z)
    have h2 := hp t x w h0 (nh ‹_›)
    rw [sm_app] at h1
    rw [sm_cons]
    omega
  | @simple t w J R G m m1 R2 G2 m2 h1 h2 h ih =>
    intro ha
    have h0 : arT t := ha _ List.mem_cons_self
    have h1 := ih fun x hx => by
      rcases List.mem_append.mp hx with z | z
      · exact arS h0 x z
      · exact ha x (List.mem_cons_of_mem _ z)
    have h2 := hs t w h0
    rw [sm_app] at h1
    rw [sm_cons]
    omega
end KB

namespace KB
open PySem L2 HT

/-! ### as many of each kind -/
def mK (κ : Kd) : Ms where
  tell := tellK κ
  lett := 0
  post := postK κ
  iff := 0
  ask f j := askK κ f (decide (j = "home"))
  give := 0
  p := cT κ
  pa _ _ _ := rfl
  pg _ _ := rfl
  pt _ _ _ := rfl
  pl _ _ _ := (Nat.zero_add _).symm
  pp _ _ _ _ := rfl
  pi _ _ _ := (Nat.zero_add _ ▸ rfl)
theorem fin_cJ (κ : Kd) {j : Jb} {R G R1 G1} (f : Fin j R G R1 G1) : (mK κ).fin j = cJ κ j := by
  cases f <;> rfl
theorem c_simples (κ : Kd) (ts : List Tm) : sm (cJ κ) (ts.map Jb.simple) = (ts.map fun t => cB κ t false false).sum := by
  rw [sm_map]
  rfl
theorem c_end (κ : Kd) {t : Tm} {j : Str} (h : arT t) (hl : ∀ x, hdT t ≠ .lett x) : sm (cJ κ) (endJ t j) = cB κ t true (decide (j = "home")) := by
  have hn := h.here
  unfold arN at hn
  unfold endJ
  rw [cB_kids]
  cases hh : hdT t with
  | ask f =>
    show sm (cJ κ) ((kidsT t).map Jb.simple ++ [.ask f (kidsT t).length j]) = _
    rw [sm_app, c_simples, cBL_flat rfl]
    show _ + (askK κ f _ + 0) = (0 + askK κ f _) + _
    omega
  | iff =>
    rw [hh] at hn
    obtain ⟨a, b, c, e⟩ := three_of (show (kidsT t).length = 3 from hn)
    rw [e]
    show cB κ a false false + (0 + (cB κ b true (decide (j = "home")) + (0 + (cB κ c true (decide (j = "home")) + (0 + 0))))) = 0 + (cB κ a false false + (cB κ b true (decide (j = "home")) + (cB κ c true (decide (j = "home")) + 0)))
    omega
  | lett x => exact absurd hh (hl x)
  | num z =>
    rw [cBL_flat rfl]
    show cB κ t false false + (0 + 0) = _
    rw [cB_kids, hh, cBL_flat rfl]
    show (0 + _) + 0 = 0 + _
    omega
  | nam z =>
    rw [cBL_flat rfl]
    show cB κ t false false + (0 + 0) = _
    rw [cB_kids, hh, cBL_flat rfl]
    show (0 + _) + 0 = 0 + _
    omega
  | plus =>
    rw [cBL_flat rfl]
    show cB κ t false false + (0 + 0) = _
    rw [cB_kids, hh, cBL_flat rfl]
    show (0 + _) + 0 = 0 + _
    omega
  | less =>
    rw [cBL_flat rfl]
    show cB κ t false false + (0 + 0) = _
    rw [cB_kids, hh, cBL_flat rfl]
    show (0 + _) + 0 = 0 + _
    omega
  | tell =>
    rw [cBL_flat rfl]
    show cB κ t false false + (0 + 0) = _
    rw [cB_kids, hh, cBL_flat rfl]
    show (tellK κ + _) + 0 = tellK κ + _
    omega
theorem c_done (κ : Kd) {t : Tm} {j : Str} (h : arT t) : sm (cJ κ) (doneJ t j) = cJ κ (.done t j) := by
  have hn := h.here
  unfold arN at hn
  have he := c_end κ (j := j) h
  show _ = cB κ t true (decide (j = "home"))
  unfold doneJ
  cases hh : hdT t with
  | lett x =>
    rw [hh] at hn
    obtain ⟨a, b, e⟩ := two_of (show (kidsT t).length = 2 from hn)
    rw [cB_kids, hh, e]
    show cB κ a false false + (cB κ b true (decide (j = "home")) + 0) = 0 + (cB κ a false false + (cB κ b true (decide (j = "home")) + 0))
    omega
  | _ =>
    show sm (cJ κ) (endJ t j ++ [.close]) = _
    rw [sm_app, he (fun x z => by rw [hh] at z; cases z)]
    rfl
theorem c_put (κ : Kd) {t : Tm} {x w : Str} (h : arT t) (hw : wordH (hdT t) = true → w ≠ "home") : sm (cJ κ) (putJ t x w) = cJ κ (.put t x) := by
  have hn := h.here
  unfold arN at hn
  have he := c_end κ (j := w) h
  show _ = cB κ t false false
  unfold putJ
  cases hh : hdT t with
  | lett x =>
    rw [hh] at hn
    obtain ⟨a, b, e⟩ := two_of (show (kidsT t).length = 2 from hn)
    rw [cB_kids, hh, e]
    show cB κ a false false + (cB κ b false false + 0) = 0 + (cB κ a false false + (cB κ b false false + 0))
    omega
  | ask f =>
    have e1 : decide (w = "home") = false := decide_eq_false (hw (by rw [hh]; rfl))
    show sm (cJ κ) (endJ t w ++ [.post w x]) = _
    rw [sm_app, he (fun x z => by rw [hh] at z; cases z), e1, cB_kids, cB_kids, hh, cBL_flat rfl, cBL_flat rfl]
    show ((0 + askK κ f false) + _) + (postK κ + 0) = (postK κ + askK κ f false) + _
    omega
  | iff =>
    have e1 : decide (w = "home") = false := decide_eq_false (hw (by rw [hh]; rfl))
    show sm (cJ κ) (endJ t w ++ [.post w x]) = _
    rw [sm_app, he (fun x z => by rw [hh] at z; cases z), e1, cB_kids, cB_kids, hh]
    rw [hh] at hn
    obtain ⟨a, b, c, e⟩ := three_of (show (kidsT t).length = 3 from hn)
    rw [e]
    show (0 + (cB κ a false false + (cB κ b true false + (cB κ c true false + 0)))) + (postK κ + 0) = postK κ + (cB κ a false false + (cB κ b true false + (cB κ c true false + 0)))
    omega
  | tell =>
    rw [hh] at hn
    obtain ⟨a, e⟩ := one_of (show (kidsT t).length = 1 from hn)
    rw [cB_kids, hh, e]
    show cB κ a false false + (tellK κ + 0) = tellK κ + (cB κ a false false + 0)
    omega
  | _ => rfl
theorem c_simp (κ : Kd) {t : Tm} {w : Str} (h : arT t) : sm (cJ κ) (simpJ t w) = cJ κ (.simple t) := by
  have hn := h.here
  unfold arN at hn
  show _ = cB κ t false false
  unfold simpJ
  cases hh : hdT t with
  | num z =>
    rw [hh] at hn
    have hn' : (kidsT t).length = 0 := hn
    rw [cB_kids, hh, List.eq_nil_of_length_eq_zero hn']
    rfl
  | nam z =>
    rw [hh] at hn
    have hn' : (kidsT t).length = 0 := hn
    rw [cB_kids, hh, List.eq_nil_of_length_eq_zero hn']
    rfl
  | plus =>
    rw [hh] at hn
    obtain ⟨a, b, e⟩ := two_of (show (kidsT t).length = 2 from hn)
    rw [cB_kids, hh, e]
    show cB κ a false false + (cB κ b false false + (0 + 0)) = 0 + (cB κ a false false + (cB κ b false false + 0))
    omega
  | less =>
    rw [hh] at hn
    obtain ⟨a, b, e⟩ := two_of (show (kidsT t).length = 2 from hn)
    rw [cB_kids, hh, e]
    show cB κ a false false + (cB κ b false false + (0 + 0)) = 0 + (cB κ a false false + (cB κ b false false + 0))
    omega
  | lett y =>
    rw [hh] at hn
    obtain ⟨a, b, e⟩ := two_of (show (kidsT t).length = 2 from hn)
    rw [cB_kids, hh, e]
    show cB κ a false false + (cB κ b false false + 0) = 0 + (cB κ a false false + (cB κ b false false + 0))
    omega
  | _ => rfl
/-! ### how many parts at most -/
def mP : Ms where
  tell := 1
  lett := 1
  post := 1
  iff := 1
  ask _ _ := 1
  give := 1
  p := pcnt
  pa _ _ _ := rfl
  pg _ _ := rfl
  pt _ _ _ := rfl
  pl _ _ _ := rfl
  pp _ _ _ _ := rfl
  pi _ _ _ := rfl
def uJ : Jb → Nat
  | .simple t => 4 * cnt t
  | .put t _ => 4 * cnt t + (if wordS (hdT t) = true then 0 else 1)
  | .done t _ => 4 * cnt t + 1
  | .lett _ => 1
  | .tell _ => 1
  | .post _ _ => 1
  | .ask _ _ _ => 1
  | .give _ => 1
  | .iff => 1
  | _ => 0
theorem fin_uJ {j : Jb} {R G R1 G1} (f : Fin j R G R1 G1) : mP.fin j ≤ uJ j := by
  cases f <;> exact Nat.le_refl _
theorem u_simples : ∀ ts : List Tm, sm uJ (ts.map Jb.simple) = 4 * cnts ts
  | [] => rfl
  | t :: r => by
    rw [List.map_cons, sm_cons, u_simples r, cnts_cons]
    show 4 * cnt t + _ = _
    omega
theorem u_put_le (t : Tm) (x : Str) : uJ (.put t x) ≤ 4 * cnt t + 1 := by
  show 4 * cnt t + _ ≤ _
  split <;> omega
theorem u_end {t : Tm} {j : Str} (h : arT t) : sm uJ (endJ t j) ≤ 4 * cnt t + 1 ∧ (wordH (hdT t) = true → sm uJ (endJ t j) + 1 ≤ 4 * cnt t) := by
  have hn := h.here
  unfold arN at hn
  have hc := cnt_kids t
  unfold endJ
  cases hh : hdT t with
  | ask f =>
    show sm uJ ((kidsT t).map Jb.simple ++ [.ask f (kidsT t).length j]) ≤ _ ∧ (_ → sm uJ ((kidsT t).map Jb.simple ++ [.ask f (kidsT t).length j]) + 1 ≤ _)
    rw [sm_app, u_simples]
    have e : sm uJ [Jb.ask f (kidsT t).length j] = 1 := rfl
    omega
  | iff =>
    rw [hh] at hn
    obtain ⟨a, b, c, e⟩ := three_of (show (kidsT t).length = 3 from hn)
    rw [e] at hc ⊢
    have e2 : cnts [a, b, c] = cnt a + (cnt b + (cnt c + 0)) := rfl
    show (4 * cnt a + (0 + ((4 * cnt b + 1) + (0 + ((4 * cnt c + 1) + (1 + 0)))))) ≤ _ ∧ (_ → (4 * cnt a + (0 + ((4 * cnt b + 1) + (0 + ((4 * cnt c + 1) + (1 + 0)))))) + 1 ≤ _)
    omega
  | _ =>
    refine ⟨?_, fun z => nomatch z⟩
    show 4 * cnt t + (1 + 0) ≤ _
    omega
theorem u_done {t : Tm} {j : Str} (h : arT t) : sm uJ (doneJ t j) ≤ uJ (.done t j) := by
  have hn := h.here
  unfold arN at hn
  have hc := cnt_kids t
  have he := (u_end (j := j) h).1
  show _ ≤ 4 * cnt t + 1
  unfold doneJ
  cases hh : hdT t with
  | lett x =>
    rw [hh] at hn
    obtain ⟨a, b, e⟩ := two_of (show (kidsT t).length = 2 from hn)
    rw [e] at hc ⊢
    have e2 : cnts [a, b] = cnt a + (cnt b + 0) := rfl
    have := u_put_le a x
    show uJ (.put a x) + ((4 * cnt b + 1) + 0) ≤ _
    omega
  | _ =>
    show sm uJ (endJ t j ++ [.close]) ≤ _
    rw [sm_app]
    have e : sm uJ [Jb.close] = 0 := rfl
    omega
theorem u_put {t : Tm} {x w : Str} (h : arT t) : sm uJ (putJ t x w) ≤ uJ (.put t x) := by
  have hn := h.here
  unfold arN at hn
  have hc := cnt_kids t
  have he := (u_end (j := w) h).2
  show _ ≤ 4 * cnt t + _
  unfold putJ
  cases hh : hdT t with
  | lett y =>
    rw [hh] at hn
    obtain ⟨a, b, e⟩ := two_of (show (kidsT t).length = 2 from hn)
    rw [e] at hc ⊢
    have e2 : cnts [a, b] = cnt a + (cnt b + 0) := rfl
    have := u_put_le a y
    have := u_put_le b x
    show uJ (.put a y) + (uJ (.put b x) + 0) ≤ _
    omega
  | ask f =>
    have := he (by rw [hh]; rfl)
    show sm uJ (endJ t w ++ [.post w x]) ≤ _
    rw [sm_app]
    have e : sm uJ [Jb.post w x] = 1 := rfl
    omega
  | iff =>
    have := he (by rw [hh]; rfl)
    show sm uJ (endJ t w ++ [.post w x]) ≤ _
    rw [sm_app]
    have e : sm uJ [Jb.post w x] = 1 := rfl
    omega
  | tell =>
    rw [hh] at hn
    obtain ⟨a, e⟩ := one_of (show (kidsT t).length = 1 from hn)
    rw [e] at hc ⊢
    have e2 : cnts [a] = cnt a + 0 := rfl
    show 4 * cnt a + (1 + 0) ≤ _
    omega
  | _ =>
    show 4 * cnt t + (1 + 0) ≤ 4 * cnt t + 1
    omega
theorem u_simp {t : Tm} {w : Str} (h : arT t) : sm uJ (simpJ t w) ≤ uJ (.simple t) := by
  have hn := h.here
  unfold arN at hn
  have hc := cnt_kids t
  show _ ≤ 4 * cnt t
  unfold simpJ
  have plain : ∀ l : Bool, (kidsT t).length = 2 → ∃ a b, kidsT t = [a, b] ∧ sm uJ [.simple a, .simple b, .op l] ≤ 4 * cnt t := fun l h2 => by
    obtain ⟨a, b, e⟩ := two_of h2
    rw [e] at hc
    have e2 : cnts [a, b] = cnt a + (cnt b + 0) := rfl
    refine ⟨a, b, e, ?_⟩
    show 4 * cnt a + (4 * cnt b + (0 + 0)) ≤ _
    omega
  cases hh : hdT t with
  | num z => exact Nat.zero_le _
  | nam z => exact Nat.zero_le _
  | plus =>
    rw [hh] at hn
    obtain ⟨a, b, e, h9⟩ := plain false hn
    rw [e]
    exact h9
  | less =>
    rw [hh] at hn
    obtain ⟨a, b, e, h9⟩ := plain true hn
    rw [e]
    exact h9
  | lett y =>
    rw [hh] at hn
    obtain ⟨a, b, e⟩ := two_of (show (kidsT t).length = 2 from hn)
    rw [e] at hc ⊢
    have e2 : cnts [a, b] = cnt a + (cnt b + 0) := rfl
    have := u_put_le a y
    show uJ (.put a y) + (4 * cnt b + 0) ≤ _
    omega
  | ask f =>
    show (4 * cnt t + (if wordS (hdT t) = true then 0 else 1)) + (0 + 0) ≤ _
    rw [hh]
    show (4 * cnt t + 0) + (0 + 0) ≤ _
    omega
  | iff =>
    show (4 * cnt t + (if wordS (hdT t) = true then 0 else 1)) + (0 + 0) ≤ _
    rw [hh]
    show (4 * cnt t + 0) + (0 + 0) ≤ _
    omega
  | tell =>
    show (4 * cnt t + (if wordS (hdT t) = true then 0 else 1)) + (0 + 0) ≤ _
    rw [hh]
    show (4 * cnt t + 0) + (0 + 0) ≤ _
    omega
theorem run_counts {xs : List Str} {t : Tm} {p : Pt} (h : RunB xs t p) (ha : arT t) (κ : Kd) : cT κ p = cB κ t true true := by
  obtain ⟨m', h⟩ := h
  have hj : ∀ j ∈ ([.row, .done t "home"] : List Jb), arJ j := fun j hj => by
    simp only [List.mem_cons, List.not_mem_nil, or_false] at hj
    rcases hj with rfl | rfl
    · trivial
    · exact ha
  have h1 := Run.le (M := mK κ) (c := cJ κ) _ (fun f => Nat.le_of_eq (fin_cJ κ f)) (fun t j a => Nat.le_of_eq (c_done κ a)) (fun t x w a b => Nat.le_of_eq (c_put κ a b)) (fun t w a => Nat.le_of_eq (c_simp κ a)) h hj
  have h2 := Run.ge (M := mK κ) (c := cJ κ) _ (fun f => Nat.le_of_eq (fin_cJ κ f).symm) (fun t j a => Nat.le_of_eq (c_done κ a).symm) (fun t x w a b => Nat.le_of_eq (c_put κ a b).symm) (fun t w a => Nat.le_of_eq (c_simp κ a).symm) h hj
  have e1 : (mK κ).rg [] [.p p] = 0 + (cT κ p + 0) := rfl
  have e2 : (mK κ).rg [] [] = 0 := rfl
  have e3 : sm (cJ κ) [.row, .done t "home"] = 0 + (cB κ t true true + 0) := rfl
  omega
theorem run_small {xs : List Str} {t : Tm} {p : Pt} (h : RunB xs t p) (ha : arT t) : pcnt p ≤ 4 * cnt t + 1 := by
  obtain ⟨m', h⟩ := h
  have hj : ∀ j ∈ ([.row, .done t "home"] : List Jb), arJ j := fun j hj => by
    simp only [List.mem_cons, List.not_mem_nil, or_false] at hj
    rcases hj with rfl | rfl
    · trivial
    · exact ha
  have h1 := Run.le (M := mP) (c := uJ) _ (fun f => fin_uJ f) (fun t j a => u_done a) (fun t x w a b => u_put a) (fun t w a => u_simp a) h hj
  have e1 : mP.rg [] [.p p] = 0 + (pcnt p + 0) := rfl
  have e2 : mP.rg [] [] = 0 := rfl
  have e3 : sm uJ [.row, .done t "home"] = 0 + ((4 * cnt t + 1) + 0) := rfl
  omega
end KB

namespace KB
open PySem L2 HT

theorem plL_take {N : Type} {pl : N → List (List Int × N)} : ∀ {ts : List N} {i j : Nat} {t : N}, ts[i]? = some t → plL pl j (ts.take (i + 1)) = plL pl j (ts.take i) ++ (pl t).map fun e => (((j + i : Nat) : Int) :: e.1, e.2)
  | [], _, _, _, e => by simp at e
  | a :: ts, 0, j, t, e => by
    have e' : a = t := by simpa using e
    subst e'
    show (pl a).map _ ++ plL pl (j + 1) [] = [] ++ _
    show (pl a).map _ ++ [] = _
    rw [List.append_nil]
    rfl
  | a :: ts, i + 1, j, t, e => by
    have e' : ts[i]? = some t := by simpa using e
    show (pl a).map _ ++ plL pl (j + 1) (ts.take (i + 1)) = ((pl a).map _ ++ plL pl (j + 1) (ts.take i)) ++ _
    rw [plL_take e', List.append_assoc]
    have e2 : j + 1 + i = j + (i + 1) := by omega
    rw [e2]
theorem mem_plL {N : Type} {pl : N → List (List Int × N)} : ∀ {ts : List N} {j : Nat} {e : List Int × N}, e ∈ plL pl j ts → ∃ i t e', ts[i]? = some t ∧ e' ∈ pl t ∧ e = (((j + i : Nat) : Int) :: e'.1, e'.2)
  | [], _, _, h => by cases h
  | a :: ts, j, e, h => by
    have h' : e ∈ (pl a).map (fun e => ((j : Int) :: e.1, e.2)) ++ plL pl (j + 1) ts := h
    rcases List.mem_append.mp h' with z | z
    · obtain ⟨e', h1, rfl⟩ := List.mem_map.mp z
      exact ⟨0, a, e', rfl, h1, rfl⟩
    · obtain ⟨i, t, e', h1, h2, rfl⟩ := mem_plL z
      refine ⟨i + 1, t, e', by simpa using h1, h2, ?_⟩
      have e2 : j + 1 + i = j + (i + 1) := by omega
      rw [e2]
theorem all2_at {α : Type} {R : α → V → Prop} : ∀ {as : List α} {vs : List V} {i : Nat} {a : α}, All2 R as vs → as[i]? = some a → ∃ v, vs[i]? = some v ∧ R a v
  | [], _, _, _, _, e => by simp at e
  | _ :: _, [], _, _, h, _ => h.elim
  | b :: as, v :: vs, 0, a, h, e => ⟨v, rfl, by
    have e' : b = a := by simpa using e
    subst e'
    exact h.1⟩
  | b :: as, v :: vs, i + 1, a, h, e => by
    obtain ⟨v', h1, h2⟩ := all2_at (i := i) h.2 (by simpa using e)
    exact ⟨v', by simpa using h1, h2⟩
theorem plT_len (t : Tm) : (plT t).length = cnt t := TrT.pl_len _ t (Nat.le_refl _)
theorem plLT_len (ts : List Tm) (j : Nat) : (plL plT j ts).length = cnts ts := TrT.plL_len (fun n => TrT.pl_len _ n (Nat.le_refl _)) ts j
theorem plT_nil {t u : Tm} (h : ([], u) ∈ plT t) : u = t := by
  rw [plT_eq] at h
  rcases List.mem_cons.mp h with z | z
  · exact (Prod.mk.inj z).2
  · obtain ⟨i, v, e', _, _, h3⟩ := mem_plL z
    cases (Prod.mk.inj h3).1
theorem plT_cons {t u : Tm} {k : Int} {ks : List Int} (h : (k :: ks, u) ∈ plT t) : ∃ (i : Nat) (v : Tm), k = (i : Int) ∧ (kidsT t)[i]? = some v ∧ (ks, u) ∈ plT v := by
  rw [plT_eq] at h
  rcases List.mem_cons.mp h with z | z
  · cases (Prod.mk.inj z).1
  · obtain ⟨i, v, e', h1, h2, h3⟩ := mem_plL z
    obtain ⟨e1, e2⟩ := Prod.mk.inj h3
    obtain ⟨e3, e4⟩ := List.cons.inj e1
    refine ⟨i, v, by rw [e3, Nat.zero_add], h1, ?_⟩
    subst e4 e2
    exact h2
section
variable {P : Program} {w : World} {K : PySem.W.Frag} {mg : Str → Option Value} {base : Heap}
/-! ### _law_places -/
def spLPl (n : Nat) : Sp := fun vs H Q _ => ∃ (a pl : Addr) (t : Tm) (pre : List V), vs = [.ref a, .ref pl] ∧ At H t a ∧ H pl = some (.tup pre) ∧ cnt t ≤ n ∧ pre.length + cnt t ≤ 2000 ∧
  ∀ p' H' its, H p' = none → Same H H' → H' p' = some (.lst its) → All2 (PlP H' pre) ((plT t).map (·.1)) its → Q (.ref p') H'
abbrev s_law_places : Stmt := top 38
theorem scLplaces : FnScope ["term", "place", "found", "k", "part"] ["term", "place"] (defScope s_law_places) := ⟨rfl, rfl, rfl, by decide +kernel, rfl, by decide +kernel, by decide +kernel⟩
theorem ok_Lpl (T : Txt K mg) {n : Nat} {f g : Addr} {fd gd : FuncData} (F : Fun K "_law_places" "_law_places" s_law_places f fd) (G_law_places : FnOk P w K mg base CX0 (n + 1) f fd ["term", "place"] (spLPl n)) (R_law_places : Ref K mg "_law_places" f fd ["term", "place"])
    (G_law_parts : FnOk P w K mg base CX0 1 g gd ["term"] (spKids TrT)) (R_law_parts : Ref K mg "_law_parts" g gd ["term"]) : FnOk P w K mg base CX0 (n + 2) f fd ["term", "place"] (spLPl (n + 1)) := by
  refine F.ok scLplaces (fun vs H Q E h => ?_) (fun cdv A outer s H vs Q E hr h => ?_)
  · obtain ⟨a, pl, t, pre, rfl, _⟩ := h
    rfl
  obtain ⟨a, pl, t, pre, rfl, hA, hp, hc, hl, q⟩ := h
  refine ⟨_, (pss_cons (ps_set (i := 2) scLplaces.nd rfl (Or.inl rfl) (pe_lst (pa_cons (pv 1) pa_nil)))
    (pss_cons (ps_for PassesOwn.never rfl (pi_enumT (by rfl) T.m_enumerate (pa_cons (pe_call G_law_parts (hr.mono (by omega)) rfl R_law_parts.m R_law_parts.k R_law_parts.b .nil pass0 (pa_cons (pv 0) pa_nil)) pa_nil)) (pg_tup rfl (pgs_cons (pg_name (i := 3) scLplaces.nd rfl (Or.inl rfl)) (pgs_cons (pg_name (i := 4) scLplaces.nd rfl (Or.inl rfl)) pgs_nil))) (pss_one (ps_expr (pe_bm PySem.F.plainAttrs_list PySem.F.slot_list_extend PySem.F.type_list_extend mt_extend (pv 2) (pa_cons (pe_call G_law_places hr rfl R_law_places.m R_law_places.k R_law_places.b .nil pass0 (pa_cons (pv 4) (pa_cons (pe_op op_catA (pv 1) (pe_tup (pa_cons (pv 3) pa_nil))) pa_nil))) pa_nil)))))
    (pss_one (ps_ret (pv 2))))), ?_⟩
  have hck := cnt_kids t
  refine ⟨_, rfl, sz (by show 1 ≤ 100000; decide), fun fl hfl => ?_⟩
  have s0 := same_new hfl (.lst [.ref pl])
  refine ⟨_, rfl, t, a, rfl, hA.tk (tk_same s0), fun pp H1 us s1 h1 k1 => ?_⟩
  have f1 := s1 _ _ (upd_same (H := H) (a := fl) (o := .lst [.ref pl]))
  have s01 := s0.trans s1
  refine ⟨pp, us, rfl, SqT.of h1, for_enT (xs := us) (fun i σ H' => ∃ o3 o4 its, σ = [some (.ref a), some (.ref pl), some (.ref fl), o3, o4] ∧ Same H H' ∧ TK H1 H' ∧ H' pp = some (.tup us) ∧ H' fl = some (.lst its) ∧ All2 (PlP H' pre) ([] :: (plL plT 0 ((kidsT t).take i)).map (·.1)) its) ?_ ?_ ?_ ?_⟩
  · refine ⟨_, _, _, rfl, s01, fun _ _ z => z, h1, f1, ?_⟩
    rw [List.take_zero]
    refine ⟨⟨pl, rfl, ?_⟩, trivial⟩
    rw [List.map_nil, List.append_nil]
    exact s01 _ _ hp
  · rintro i σ H' _ ⟨o3, o4, its, rfl, s2, _, g1, _⟩
    exact SqT.of g1
  · rintro i x T' σ H2 hx hT ⟨o3, o4, its, rfl, s2, t2, g1, g2, g3⟩
    obtain ⟨ti, hti, b, rfl, hb⟩ := k1.get hx
    have hti : (kidsT t)[i]? = some ti := hti
    have hmem := mem_of_get hti
    have hct := cnt_mem hmem
    have s3 := same_new hT (.tup [.int (i : Nat), .ref b])
    refine ⟨T', _, rfl, SqT.of upd_same, rfl, _, _, rfl, _, _, rfl, rfl, ?_⟩
    have s23 := s2.trans s3
    refine ⟨_, rfl, .inl ⟨rfl, _, SqL.of (s3 _ _ g2)⟩, _, rfl, _, rfl, _, rfl, sz (by show 1 ≤ 100000; decide), fun p2 hp2 => ?_⟩
    have s4 := same_new hp2 (.tup [.int (i : Nat)])
    refine catA_of (s4 _ _ (s23 _ _ hp)) upd_same (by show pre.length + 1 ≤ 100000; omega) fun p3 H3 s5 h3 => ?_
    have s25 := s23.trans (s4.trans s5)
    have s35 := s3.trans (s4.trans s5)
    have cp := cnt_pos ti
    refine ⟨b, p3, ti, _, rfl, At.tk (t2.trans (tk_same s35)) hb, h3, by omega, by rw [List.length_append, List.length_singleton]; omega, fun p4 H4 its4 hp4 s6 h4 k4 => ?_⟩
    have s26 := s25.trans s6
    have s36 := s3.trans (s4.trans (s5.trans s6))
    have f4 := s36 _ _ g2
    have l4 := k4.len
    have l3 := g3.len
    rw [List.length_map, plT_len] at l4
    rw [List.length_cons, List.length_map, plLT_len] at l3
    have l5 := cnts_take (kidsT t) i
    refine ⟨fl, p4, _, _, rfl, rfl, f4, h4, sz (by omega), ?_⟩
    have tk := tk_put (o := .lst (its ++ its4)) f4
    refine ⟨_, _, _, rfl, same_mut s26 hfl, t2.trans ((tk_same s36).trans tk), tk _ _ (s36 _ _ g1), upd_same, ?_⟩
    rw [plL_take hti, List.map_append, ← List.cons_append]
    refine (g3.imp fun _ _ z => (PlP.tk (tk_same s36) z).tk tk).app ?_
    rw [List.map_map]
    have e5 : ((fun x : List Int × Tm => x.1) ∘ fun e : List Int × Tm => (((0 + i : Nat) : Int) :: e.1, e.2)) = (fun ks => (((i : Nat) : Int) :: ks)) ∘ fun e : List Int × Tm => e.1 := by
      funext e
      show ((0 + i : Nat) : Int) :: e.1 = _
      rw [Nat.zero_add]
      rfl
    rw [e5, ← List.map_map]
    exact All2.map (k4.imp fun ks v z => (z.tk tk).deep)
  · rintro σ H2 ⟨o3, o4, its, rfl, s2, _, g1, g2, g3⟩
    refine ⟨_, rfl, q fl H2 its hfl s2 g2 ?_⟩
    rw [show us.length = (kidsT t).length from k1.len, List.take_length] at g3
    rw [plT_eq]
    exact g3
theorem no_Lpl {f : Addr} {fd : FuncData} : FnOk P w K mg base CX0 1 f fd ["term", "place"] (spLPl 0) := by
  have no : ∀ vs H Q E, ¬ spLPl 0 vs H Q E := fun vs H Q E h => by
    obtain ⟨a, pl, t, pre, _, _, _, h0, _⟩ := h
    have := cnt_pos t
    omega
  exact ⟨fun vs H Q E h => absurd h (no vs H Q E), fun A outer s H args us vs Q E _ _ _ _ h => absurd h (no vs H Q E)⟩
theorem all_Lpl (T : Txt K mg) {f g : Addr} {fd gd : FuncData} (F : Fun K "_law_places" "_law_places" s_law_places f fd) (R_law_places : Ref K mg "_law_places" f fd ["term", "place"])
    (G_law_parts : FnOk P w K mg base CX0 1 g gd ["term"] (spKids TrT)) (R_law_parts : Ref K mg "_law_parts" g gd ["term"]) : ∀ n : Nat, FnOk P w K mg base CX0 (n + 1) f fd ["term", "place"] (spLPl n)
  | 0 => no_Lpl
  | n + 1 => ok_Lpl T F (all_Lpl T F R_law_places G_law_parts R_law_parts n) R_law_places G_law_parts R_law_parts

/-! ### _law_at -/
def spLAt : Sp := fun vs H Q _ => ∃ (a pl : Addr) (t u : Tm) (ks : List Int), vs = [.ref a, .ref pl] ∧ H pl = some (.tup (ks.map V.int)) ∧ At H t a ∧ (ks, u) ∈ plT t ∧ ∀ b H', Same H H' → At H' u b → Q (.ref b) H'
abbrev s_law_at : Stmt := top 39
theorem scLat : FnScope ["term", "place", "k"] ["term", "place"] (defScope s_law_at) := ⟨rfl, rfl, rfl, by decide +kernel, rfl, by decide +kernel, by decide +kernel⟩
theorem ok_Lat {f g : Addr} {fd gd : FuncData} (F : Fun K "_law_at" "_law_at" s_law_at f fd) (G_law_parts : FnOk P w K mg base CX0 1 g gd ["term"] (spKids TrT)) (R_law_parts : Ref K mg "_law_parts" g gd ["term"]) : FnOk P w K mg base CX0 2 f fd ["term", "place"] spLAt := by
  refine F.ok scLat (fun vs H Q E h => ?_) (fun cdv A outer s H vs Q E hr h => ?_)
  · obtain ⟨a, pl, t, u, ks, rfl, _⟩ := h
    rfl
  obtain ⟨a, pl, t, u, ks, rfl, hp, hA, hm, q⟩ := h
  refine ⟨_, (pss_cons (ps_for PassesOwn.never rfl (pi_tup (pv 1)) (pg_name (i := 2) scLat.nd rfl (Or.inl rfl)) (pss_one (ps_set (i := 0) scLat.nd rfl (Or.inl rfl) (pe_ix ix_tup (pe_call G_law_parts hr rfl R_law_parts.m R_law_parts.k R_law_parts.b .nil pass0 (pa_cons (pv 0) pa_nil)) (pv 2) (fun _ _ => rfl)))))
    (pss_one (ps_ret (pv 0)))), ?_⟩
  refine ⟨_, rfl, pl, rfl, ⟨_, SqT.of hp⟩, for_tup (xs := ks.map V.int) (fun j σ H' => ∃ o c v, σ = [some (.ref c), some (.ref pl), o] ∧ Same H H' ∧ At H' v c ∧ (ks.drop j, u) ∈ plT v) ⟨_, a, t, rfl, Same.refl _, hA, hm⟩ ?_ ?_ ?_⟩
  · rintro j σ H' _ ⟨o, c, v, rfl, s2, _⟩
    exact SqT.of (s2 _ _ hp)
  · rintro j x σ H' hx ⟨o, c, v, rfl, s2, hv, m2⟩
    rw [List.getElem?_map] at hx
    obtain ⟨k, hk, rfl⟩ : ∃ k, ks[j]? = some k ∧ V.int k = x := by
      cases z : ks[j]? with
      | none =>
        rw [z] at hx
        cases hx
      | some k =>
        rw [z] at hx
        exact ⟨k, rfl, Option.some.inj hx⟩
    obtain ⟨hj, hj2⟩ := List.getElem?_eq_some_iff.mp hk
    rw [List.drop_eq_getElem_cons hj, hj2] at m2
    obtain ⟨i, v2, rfl, hi, m3⟩ := plT_cons m2
    refine ⟨_, rfl, v, c, rfl, hv, fun pp H3 us s3 h3 k3 => ?_⟩
    obtain ⟨b, hb, b2, eb, hb2⟩ := all2_at k3 hi
    subst eb
    refine ⟨_, rfl, pp, _, _, _, rfl, rfl, SqT.of h3, at_of (j := i) rfl hb, ?_⟩
    exact ⟨_, b2, v2, rfl, s2.trans s3, hb2, m3⟩
  · rintro σ H' ⟨o, c, v, rfl, s2, hv, m2⟩
    rw [List.length_map, List.drop_length] at m2
    refine ⟨_, rfl, ?_⟩
    cases plT_nil m2
    exact q _ _ s2 hv
end
end KB

namespace KB
open PySem L2 HT

def innP : Pt → List Pt
  | .give _ _ => []
  | .ask _ _ _ => []
  | .tell _ _ q => [q]
  | .lett _ _ q => [q]
  | .iff _ q u => [q, u]
  | .post _ _ q u => [q, u]
def preP : Pt → List Pt
  | .give j s => [.give j s]
  | .ask f ts j => [.ask f ts j]
  | .tell x s q => .tell x s q :: preP q
  | .lett x s q => .lett x s q :: preP q
  | .iff s q u => .iff s q u :: (preP q ++ preP u)
  | .post j x q u => .post j x q u :: (preP q ++ preP u)
def presP (ps : List Pt) : List Pt := (ps.map preP).flatten
theorem preP_eq (p : Pt) : preP p = p :: presP (innP p) := by
  cases p with
  | give j s => rfl
  | ask f ts j => rfl
  | tell x s q => show _ :: preP q = _ :: (preP q ++ []); rw [List.append_nil]
  | lett x s q => show _ :: preP q = _ :: (preP q ++ []); rw [List.append_nil]
  | iff s q u => show _ :: (preP q ++ preP u) = _ :: (preP q ++ (preP u ++ [])); rw [List.append_nil]
  | post j x q u => show _ :: (preP q ++ preP u) = _ :: (preP q ++ (preP u ++ [])); rw [List.append_nil]
theorem preP_len : ∀ p : Pt, (preP p).length = pcnt p
  | .give j s => rfl
  | .ask f ts j => rfl
  | .tell x s q => by show (preP q).length + 1 = 1 + pcnt q; rw [preP_len q]; omega
  | .lett x s q => by show (preP q).length + 1 = 1 + pcnt q; rw [preP_len q]; omega
  | .iff s q u => by show (preP q ++ preP u).length + 1 = 1 + pcnt q + pcnt u; rw [List.length_append, preP_len q, preP_len u]; omega
  | .post j x q u => by show (preP q ++ preP u).length + 1 = 1 + pcnt q + pcnt u; rw [List.length_append, preP_len q, preP_len u]; omega
theorem pcnt_inn (p : Pt) : pcnt p = 1 + ((innP p).map pcnt).sum := by
  cases p <;> simp only [pcnt, innP, List.map, List.sum_cons, List.sum_nil] <;> omega
theorem presP_len (ps : List Pt) : (presP ps).length = (ps.map pcnt).sum := by
  induction ps with
  | nil => rfl
  | cons p r ih =>
    show (preP p ++ presP r).length = pcnt p + (r.map pcnt).sum
    rw [List.length_append, preP_len, ih]
theorem presP_take {ps : List Pt} {i : Nat} {p : Pt} (h : ps[i]? = some p) : presP (ps.take (i + 1)) = presP (ps.take i) ++ preP p := by
  obtain ⟨hi, he⟩ := List.getElem?_eq_some_iff.mp h
  unfold presP
  rw [List.take_succ_eq_append_getElem hi, List.map_append, List.flatten_append, he]
  simp
theorem mem_sum {ps : List Pt} {p : Pt} (h : p ∈ ps) : pcnt p ≤ (ps.map pcnt).sum := by
  induction ps with
  | nil => cases h
  | cons a r ih =>
    rw [List.map_cons, List.sum_cons]
    rcases List.mem_cons.mp h with z | z
    · subst z
      omega
    · have := ih z
      omega
theorem take_sum (ps : List Pt) (i : Nat) : ((ps.take i).map pcnt).sum ≤ (ps.map pcnt).sum := by
  have e : (ps.map pcnt).sum = ((ps.take i).map pcnt).sum + ((ps.drop i).map pcnt).sum := by
    rw [← List.sum_append, ← List.map_append, List.take_append_drop]
  omega
def PVr (H : Hp) (p : Pt) (v : V) : Prop := ∃ b, v = .ref b ∧ PAt H p b
def hdPt : Pt → Str
  | .give _ _ => "give" | .ask _ _ _ => "ask" | .tell _ _ _ => "tell" | .lett _ _ _ => "let" | .iff _ _ _ => "if" | .post _ _ _ _ => "post"
def smpN : Pt → Nat
  | .ask _ ts _ => ts.length
  | .post _ _ _ _ => 0
  | _ => 1
/-- a pair of a place and what stands there -/
def EnP (H : Hp) (p : Pt) (v : V) : Prop := ∃ e r b, v = .ref e ∧ H e = some (.tup [.ref r, .ref b]) ∧ PAt H p b
theorem EnP.tk {H H' : Hp} (k : TK H H') {p : Pt} {v : V} (h : EnP H p v) : EnP H' p v := let ⟨e, r, b, h1, h2, h3⟩ := h; ⟨e, r, b, h1, k _ _ h2, PAt.tk k h3⟩
theorem len3 {α : Type} {x y z : α} {r : List α} : 3 ≤ (x :: y :: z :: r).length := Nat.succ_le_succ len2
theorem cut3 {x y z : V} {r : List V} : cutV (x :: y :: z :: r) (some 3) none = r := cut_from (i := 3) (by decide) len3
section
variable {P : Program} {w : World} {K : PySem.W.Frag} {mg : Str → Option Value} {base : Heap}
/-! ### _law_inner -/
def spInn : Sp := fun vs H Q _ => ∃ (a : Addr) (p : Pt), vs = [.ref a] ∧ PAt H p a ∧ ∀ r H' us, Same H H' → H' r = some (.tup us) → All2 (PVr H') (innP p) us → Q (.ref r) H'
abbrev s_law_inner : Stmt := top 40
theorem scLinner : FnScope ["part"] ["part"] (defScope s_law_inner) := ⟨rfl, rfl, rfl, by decide +kernel, rfl, by decide +kernel, by decide +kernel⟩
theorem ok_inn (T : Txt K mg) {f : Addr} {fd : FuncData} (F : Fun K "_law_inner" "_law_inner" s_law_inner f fd) : FnOk P w K mg base CX0 1 f fd ["part"] spInn := by
  refine F.ok scLinner (fun vs H Q E h => ?_) (fun cdv A outer s H vs Q E hr h => ?_)
  · obtain ⟨a, p, rfl, _⟩ := h
    rfl
  obtain ⟨a, p, rfl, hA, q⟩ := h
  refine ⟨_, (pss_cons (ps_if (pt_cmpR op_in_seq (pe_ix ix_tup (pv 0) pe_int (fun _ _ => rfl)) (pe_tup (pa_cons pe_str (pa_cons pe_str pa_nil))) rfl) (pss_one (ps_ret (pe_tup pa_nil))) pss_nil)
    (pss_one (ps_ret (pe_slice sl_tupA (pv 0) (po_some (pe_op op_add pe_int (pe_callTy call_int1 (by rfl) T.m_int (by decide +kernel) (pa_cons (pe_cmpR op_ne (pe_ix ix_tup (pv 0) pe_int (fun _ _ => rfl)) pe_str (nomark _)) pa_nil)))) po_none)))), ?_⟩
  cases p with
  | give j s =>
    obtain ⟨b, h1, h2⟩ := hA
    refine ⟨_, rfl, a, _, _, _, rfl, rfl, SqT.of h1, at0, sz (by show 2 ≤ 100000; decide), fun t ht => ?_⟩
    have s1 := same_new ht (.tup [.str "give", .str "ask"])
    exact ⟨t, _, rfl, .inr (SqT.of upd_same), rfl, rfl, _, rfl, itT rfl ⟨sz (by decide), fun p hp => q p _ [] (s1.trans (same_new hp _)) upd_same trivial⟩⟩
  | ask g ts j =>
    obtain ⟨b, vs, h1, h2, h3⟩ := hA
    refine ⟨_, rfl, a, _, _, _, rfl, rfl, SqT.of h1, at0, sz (by show 2 ≤ 100000; decide), fun t ht => ?_⟩
    have s1 := same_new ht (.tup [.str "give", .str "ask"])
    exact ⟨t, _, rfl, .inr (SqT.of upd_same), rfl, rfl, _, rfl, itT rfl ⟨sz (by decide), fun p hp => q p _ [] (s1.trans (same_new hp _)) upd_same trivial⟩⟩
  | tell x s p =>
    obtain ⟨b, c, h1, h2, h3⟩ := hA
    refine ⟨_, rfl, a, _, _, _, rfl, rfl, SqT.of h1, at0, sz (by show 2 ≤ 100000; decide), fun t ht => ?_⟩
    have s1 := same_new ht (.tup [.str "give", .str "ask"])
    refine ⟨t, _, rfl, .inr (SqT.of upd_same), rfl, rfl, _, rfl, itF rfl ⟨_, rfl, _, rfl, a, _, _, _, rfl, rfl, SqT.of (s1 _ _ h1), at0, rfl, .inr ⟨_, rfl, _, _, rfl, rfl, _, rfl, a, _, rfl, SqT.of (s1 _ _ h1), ?_, ?_⟩⟩⟩
    · exact fun z => absurd z (not_whole (i := 3) (by decide) len3)
    · intro _ p hp
      have s2 := s1.trans (same_new hp (.tup (cutV [V.str "tell", .str x, .ref b, .ref c] (some 3) none)))
      refine q p _ [.ref c] s2 ?_ ⟨⟨c, rfl, PAt.tk (tk_same s2) h3⟩, trivial⟩
      rw [upd_same]
      exact congrArg (fun z => some (HO.tup z)) cut3
  | lett x s p =>
    obtain ⟨b, c, h1, h2, h3⟩ := hA
    refine ⟨_, rfl, a, _, _, _, rfl, rfl, SqT.of h1, at0, sz (by show 2 ≤ 100000; decide), fun t ht => ?_⟩
    have s1 := same_new ht (.tup [.str "give", .str "ask"])
    refine ⟨t, _, rfl, .inr (SqT.of upd_same), rfl, rfl, _, rfl, itF rfl ⟨_, rfl, _, rfl, a, _, _, _, rfl, rfl, SqT.of (s1 _ _ h1), at0, rfl, .inr ⟨_, rfl, _, _, rfl, rfl, _, rfl, a, _, rfl, SqT.of (s1 _ _ h1), ?_, ?_⟩⟩⟩
    · exact fun z => absurd z (not_whole (i := 3) (by decide) len3)
    · intro _ p hp
      have s2 := s1.trans (same_new hp (.tup (cutV [V.str "let", .str x, .ref b, .ref c] (some 3) none)))
      refine q p _ [.ref c] s2 ?_ ⟨⟨c, rfl, PAt.tk (tk_same s2) h3⟩, trivial⟩
      rw [upd_same]
      exact congrArg (fun z => some (HO.tup z)) cut3
  | post j x p p2 =>
    obtain ⟨c, d, h1, h2, h3⟩ := hA
    refine ⟨_, rfl, a, _, _, _, rfl, rfl, SqT.of h1, at0, sz (by show 2 ≤ 100000; decide), fun t ht => ?_⟩
    have s1 := same_new ht (.tup [.str "give", .str "ask"])
    refine ⟨t, _, rfl, .inr (SqT.of upd_same), rfl, rfl, _, rfl, itF rfl ⟨_, rfl, _, rfl, a, _, _, _, rfl, rfl, SqT.of (s1 _ _ h1), at0, rfl, .inr ⟨_, rfl, _, _, rfl, rfl, _, rfl, a, _, rfl, SqT.of (s1 _ _ h1), ?_, ?_⟩⟩⟩
    · exact fun z => absurd z (not_whole (i := 3) (by decide) len3)
    · intro _ p hp
      have s2 := s1.trans (same_new hp (.tup (cutV [V.str "post", .str j, .str x, .ref c, .ref d] (some 3) none)))
      refine q p _ [.ref c, .ref d] s2 ?_ ⟨⟨c, rfl, PAt.tk (tk_same s2) h2⟩, ⟨d, rfl, PAt.tk (tk_same s2) h3⟩, trivial⟩
      rw [upd_same]
      exact congrArg (fun z => some (HO.tup z)) cut3
  | iff s p p2 =>
    obtain ⟨b, c, d, h1, h2, h3, h4⟩ := hA
    refine ⟨_, rfl, a, _, _, _, rfl, rfl, SqT.of h1, at0, sz (by show 2 ≤ 100000; decide), fun t ht => ?_⟩
    have s1 := same_new ht (.tup [.str "give", .str "ask"])
    refine ⟨t, _, rfl, .inr (SqT.of upd_same), rfl, rfl, _, rfl, itF rfl ⟨_, rfl, _, rfl, a, _, _, _, rfl, rfl, SqT.of (s1 _ _ h1), at0, rfl, .inr ⟨_, rfl, _, _, rfl, rfl, _, rfl, a, _, rfl, SqT.of (s1 _ _ h1), ?_, ?_⟩⟩⟩
    · exact fun z => absurd z (not_whole (i := 2) (by decide) len2)
    · intro _ p hp
      have s2 := s1.trans (same_new hp (.tup (cutV [V.str "if", .ref b, .ref c, .ref d] (some 2) none)))
      refine q p _ [.ref c, .ref d] s2 ?_ ⟨⟨c, rfl, PAt.tk (tk_same s2) h3⟩, ⟨d, rfl, PAt.tk (tk_same s2) h4⟩, trivial⟩
      rw [upd_same]
      exact congrArg (fun z => some (HO.tup z)) cut2
/-! ### _law_simples -/
def spSmp : Sp := fun vs H Q _ => ∃ (a : Addr) (p : Pt), vs = [.ref a] ∧ PAt H p a ∧ ∀ r H' us, Same H H' → H' r = some (.tup us) → us.length = smpN p → Q (.ref r) H'
abbrev s_law_simples : Stmt := top 41
theorem scLsimples : FnScope ["part"] ["part"] (defScope s_law_simples) := ⟨rfl, rfl, rfl, by decide +kernel, rfl, by decide +kernel, by decide +kernel⟩
theorem ok_smp (T : Txt K mg) {f : Addr} {fd : FuncData} (F : Fun K "_law_simples" "_law_simples" s_law_simples f fd) : FnOk P w K mg base CX0 1 f fd ["part"] spSmp := by
  refine F.ok scLsimples (fun vs H Q E h => ?_) (fun cdv A outer s H vs Q E hr h => ?_)
  · obtain ⟨a, p, rfl, _⟩ := h
    rfl
  obtain ⟨a, p, rfl, hA, q⟩ := h
  refine ⟨_, (pss_cons (ps_if (pt_cmpR op_eq (pe_ix ix_tup (pv 0) pe_int (fun _ _ => rfl)) pe_str (nomark _)) (pss_one (ps_ret (pe_ix ix_tup (pv 0) pe_int (fun _ _ => rfl)))) pss_nil)
    (pss_cons (ps_if (pt_cmpR op_eq (pe_ix ix_tup (pv 0) pe_int (fun _ _ => rfl)) pe_str (nomark _)) (pss_one (ps_ret (pe_tup pa_nil))) pss_nil)
    (pss_one (ps_ret (pe_tup (pa_cons (pe_ix ix_tup (pv 0) (pe_op op_sub pe_int (pe_callTy call_int1 (by rfl) T.m_int (by decide +kernel) (pa_cons (pe_cmpR op_eq (pe_ix ix_tup (pv 0) pe_int (fun _ _ => rfl)) pe_str (nomark _)) pa_nil))) (fun _ _ => rfl)) pa_nil)))))), ?_⟩
  cases p with
  | ask g ts j =>
    obtain ⟨b, vs, h1, h2, h3⟩ := hA
    exact ⟨_, rfl, a, _, _, _, rfl, rfl, SqT.of h1, at0, rfl, _, rfl, itT rfl ⟨_, rfl, a, _, _, _, rfl, rfl, SqT.of h1, at2, q b _ vs (Same.refl _) h2 h3.len⟩⟩
  | post j x p p2 =>
    obtain ⟨c, d, h1, h2, h3⟩ := hA
    exact ⟨_, rfl, a, _, _, _, rfl, rfl, SqT.of h1, at0, rfl, _, rfl, itF rfl ⟨_, rfl, a, _, _, _, rfl, rfl, SqT.of h1, at0, rfl, _, rfl, itT rfl ⟨sz (by decide), fun p hp => q p _ [] (same_new hp _) upd_same rfl⟩⟩⟩
  | give j s =>
    obtain ⟨b, h1, h2⟩ := hA
    exact ⟨_, rfl, a, _, _, _, rfl, rfl, SqT.of h1, at0, rfl, _, rfl, itF rfl ⟨_, rfl, a, _, _, _, rfl, rfl, SqT.of h1, at0, rfl, _, rfl, itF rfl ⟨_, rfl, _, rfl, a, _, _, _, rfl, rfl, SqT.of h1, at0, rfl, .inr ⟨_, rfl, _, _, rfl, rfl, a, _, _, _, rfl, rfl, SqT.of h1, at2, sz (by show 1 ≤ 100000; decide), fun p hp => q p _ _ (same_new hp _) upd_same rfl⟩⟩⟩⟩
  | tell x s p =>
    obtain ⟨b, c, h1, h2, h3⟩ := hA
    exact ⟨_, rfl, a, _, _, _, rfl, rfl, SqT.of h1, at0, rfl, _, rfl, itF rfl ⟨_, rfl, a, _, _, _, rfl, rfl, SqT.of h1, at0, rfl, _, rfl, itF rfl ⟨_, rfl, _, rfl, a, _, _, _, rfl, rfl, SqT.of h1, at0, rfl, .inr ⟨_, rfl, _, _, rfl, rfl, a, _, _, _, rfl, rfl, SqT.of h1, at2, sz (by show 1 ≤ 100000; decide), fun p hp => q p _ _ (same_new hp _) upd_same rfl⟩⟩⟩⟩
  | lett x s p =>
    obtain ⟨b, c, h1, h2, h3⟩ := hA
    exact ⟨_, rfl, a, _, _, _, rfl, rfl, SqT.of h1, at0, rfl, _, rfl, itF rfl ⟨_, rfl, a, _, _, _, rfl, rfl, SqT.of h1, at0, rfl, _, rfl, itF rfl ⟨_, rfl, _, rfl, a, _, _, _, rfl, rfl, SqT.of h1, at0, rfl, .inr ⟨_, rfl, _, _, rfl, rfl, a, _, _, _, rfl, rfl, SqT.of h1, at2, sz (by show 1 ≤ 100000; decide), fun p hp => q p _ _ (same_new hp _) upd_same rfl⟩⟩⟩⟩
  | iff s p p2 =>
    obtain ⟨b, c, d, h1, h2, h3, h4⟩ := hA
    exact ⟨_, rfl, a, _, _, _, rfl, rfl, SqT.of h1, at0, rfl, _, rfl, itF rfl ⟨_, rfl, a, _, _, _, rfl, rfl, SqT.of h1, at0, rfl, _, rfl, itF rfl ⟨_, rfl, _, rfl, a, _, _, _, rfl, rfl, SqT.of h1, at0, rfl, .inr ⟨_, rfl, _, _, rfl, rfl, a, _, _, _, rfl, rfl, SqT.of h1, at1, sz (by show 1 ≤ 100000; decide), fun p hp => q p _ _ (same_new hp _) upd_same rfl⟩⟩⟩⟩
/-! ### _law_tplaces -/
def spTPl (n : Nat) : Sp := fun vs H Q _ => ∃ (a pl : Addr) (p : Pt) (pre : List V), vs = [.ref a, .ref pl] ∧ PAt H p a ∧ H pl = some (.tup pre) ∧ pcnt p ≤ n ∧ pre.length + pcnt p ≤ 2000 ∧
  ∀ p' H' its, H p' = none → Same H H' → H' p' = some (.lst its) → All2 (EnP H') (preP p) its → Q (.ref p') H'
abbrev s_law_tplaces : Stmt := top 42
theorem scLtplaces : FnScope ["part", "place", "found", "first", "k", "one"] ["part", "place"] (defScope s_law_tplaces) := ⟨rfl, rfl, rfl, by decide +kernel, rfl, by decide +kernel, by decide +kernel⟩
theorem ok_Tpl (T : Txt K mg) {n : Nat} {f g1 g2 : Addr} {fd d1 d2 : FuncData} (F : Fun K "_law_tplaces" "_law_tplaces" s_law_tplaces f fd) (G_law_tplaces : FnOk P w K mg base CX0 (n + 1) f fd ["part", "place"] (spTPl n)) (R_law_tplaces : Ref K mg "_law_tplaces" f fd ["part", "place"])
    (G_law_simples : FnOk P w K mg base CX0 1 g1 d1 ["part"] spSmp) (R_law_simples : Ref K mg "_law_simples" g1 d1 ["part"]) (G_law_inner : FnOk P w K mg base CX0 1 g2 d2 ["part"] spInn) (R_law_inner : Ref K mg "_law_inner" g2 d2 ["part"]) : FnOk P w K mg base CX0 (n + 2) f fd ["part", "place"] (spTPl (n + 1)) := by
  refine F.ok scLtplaces (fun vs H Q E h => ?_) (fun cdv A outer s H vs Q E hr h => ?_)
  · obtain ⟨a, pl, t, pre, rfl, _⟩ := h
    rfl
  obtain ⟨a, pl, p, pre, rfl, hA, hp, hc, hl, q⟩ := h
  refine ⟨_, (pss_cons (ps_set (i := 2) scLtplaces.nd rfl (Or.inl rfl) (pe_lst (pa_cons (pe_tup (pa_cons (pv 1) (pa_cons (pv 0) pa_nil))) pa_nil)))
    (pss_cons (ps_set (i := 3) scLtplaces.nd rfl (Or.inl rfl) (pe_callB call_len_seq (by rfl) T.m_len PySem.boot_len (pa_cons (pe_call G_law_simples (hr.mono (by omega)) rfl R_law_simples.m R_law_simples.k R_law_simples.b .nil pass0 (pa_cons (pv 0) pa_nil)) pa_nil)))
    (pss_cons (ps_for PassesOwn.never rfl (pi_enumT (by rfl) T.m_enumerate (pa_cons (pe_call G_law_inner (hr.mono (by omega)) rfl R_law_inner.m R_law_inner.k R_law_inner.b .nil pass0 (pa_cons (pv 0) pa_nil)) pa_nil)) (pg_tup rfl (pgs_cons (pg_name (i := 4) scLtplaces.nd rfl (Or.inl rfl)) (pgs_cons (pg_name (i := 5) scLtplaces.nd rfl (Or.inl rfl)) pgs_nil))) (pss_one (ps_expr (pe_bm PySem.F.plainAttrs_list PySem.F.slot_list_extend PySem.F.type_list_extend mt_extend (pv 2) (pa_cons (pe_call G_law_tplaces hr rfl R_law_tplaces.m R_law_tplaces.k R_law_tplaces.b .nil pass0 (pa_cons (pv 5) (pa_cons (pe_op op_catA (pv 1) (pe_tup (pa_cons (pe_op op_add (pv 3) (pv 4)) pa_nil))) pa_nil))) pa_nil)))))
    (pss_one (ps_ret (pv 2)))))), ?_⟩
  have hck := pcnt_inn p
  refine ⟨_, rfl, _, rfl, sz (by show 2 ≤ 100000; decide), fun e0 he0 => ?_⟩
  have sa := same_new he0 (.tup [.ref pl, .ref a])
  refine ⟨sz (by show 1 ≤ 100000; decide), fun fl hfl => ?_⟩
  have sb := same_new hfl (.lst [.ref e0])
  have s0 := sa.trans sb
  have k0 : All2 (EnP (upd (upd H e0 (.tup [.ref pl, .ref a])) fl (.lst [.ref e0]))) [p] [.ref e0] := ⟨⟨e0, pl, a, rfl, sb _ _ upd_same, PAt.tk (tk_same s0) hA⟩, trivial⟩
  have f0 : upd (upd H e0 (.tup [.ref pl, .ref a])) fl (.lst [.ref e0]) fl = some (.lst [.ref e0]) := upd_same
  have nfl := sa.free hfl
  generalize upd (upd H e0 (.tup [.ref pl, .ref a])) fl (.lst [.ref e0]) = H0 at s0 k0 f0
  clear sa sb hfl he0
  refine ⟨_, rfl, a, p, rfl, PAt.tk (tk_same s0) hA, fun pp H1 us1 s1 h1 k1 => ?_⟩
  refine ⟨pp, us1, rfl, .inr (SqT.of h1), ?_⟩
  have s01 := s0.trans s1
  refine ⟨_, rfl, a, p, rfl, PAt.tk (tk_same s01) hA, fun pi H2 us s2 h2 k2 => ?_⟩
  have s02 := s01.trans s2
  refine ⟨pi, us, rfl, SqT.of h2, for_enT (xs := us) (fun i σ H' => ∃ o4 o5 its, σ = [some (.ref a), some (.ref pl), some (.ref fl), some (.int (us1.length : Nat)), o4, o5] ∧ Same H H' ∧ TK H2 H' ∧ H' pi = some (.tup us) ∧ H' fl = some (.lst its) ∧ All2 (EnP H') (p :: presP ((innP p).take i)) its) ?_ ?_ ?_ ?_⟩
  · exact ⟨_, _, _, rfl, s02, fun _ _ z => z, h2, (s1.trans s2) _ _ f0, k0.imp fun _ _ z => z.tk (tk_same (s1.trans s2))⟩
  · rintro i σ H' _ ⟨o4, o5, its, rfl, _, _, g1, _⟩
    exact SqT.of g1
  · rintro i x T' σ H3 hx hT ⟨o4, o5, its, rfl, s3, t3, g1, g2, g3⟩
    obtain ⟨pi', hpi, b, rfl, hb⟩ := k2.get hx
    have hmem := mem_of_get hpi
    have hct := mem_sum hmem
    have s4 := same_new hT (.tup [.int (i : Nat), .ref b])
    refine ⟨T', _, rfl, SqT.of upd_same, rfl, _, _, rfl, _, _, rfl, rfl, ?_⟩
    have s34 := s3.trans s4
    refine ⟨_, rfl, .inl ⟨rfl, _, SqL.of (s4 _ _ g2)⟩, _, rfl, _, rfl, _, rfl, _, rfl, _, _, rfl, rfl, ?_⟩
    refine ⟨sz (by show 1 ≤ 100000; decide), fun p2 hp2 => ?_⟩
    have s5 := same_new hp2 (.tup [.int (((us1.length : Nat) : Int) + ((i : Nat) : Int))])
    refine catA_of (s5 _ _ (s34 _ _ hp)) upd_same (by show pre.length + 1 ≤ 100000; omega) fun p3 H4 s6 h4 => ?_
    have s45 := s4.trans (s5.trans s6)
    have s35 := s3.trans s45
    have cp : 1 ≤ pcnt pi' := by rw [← preP_len, preP_eq]; exact Nat.succ_le_succ (Nat.zero_le _)
    refine ⟨b, p3, pi', _, rfl, PAt.tk (t3.trans (tk_same s45)) hb, h4, by omega, by rw [List.length_append, List.length_singleton]; omega, fun p5 H5 its5 hp5 s7 h5 k5 => ?_⟩
    have s46 := s45.trans s7
    have s36 := s3.trans s46
    have f5 := s46 _ _ g2
    have l5 := k5.len
    have l3 := g3.len
    rw [preP_len] at l5
    rw [List.length_cons, presP_len] at l3
    have l6 := take_sum (innP p) i
    refine ⟨fl, p5, _, _, rfl, rfl, f5, h5, sz (by omega), ?_⟩
    have tk := tk_put (o := .lst (its ++ its5)) f5
    refine ⟨_, _, _, rfl, same_mut s36 nfl, t3.trans ((tk_same s46).trans tk), tk _ _ (s46 _ _ g1), upd_same, ?_⟩
    rw [presP_take hpi, ← List.cons_append]
    exact (g3.imp fun _ _ z => (EnP.tk (tk_same s46) z).tk tk).app (k5.imp fun _ _ z => z.tk tk)
  · rintro σ H3 ⟨o4, o5, its, rfl, s3, _, g1, g2, g3⟩
    refine ⟨_, rfl, q fl H3 its nfl s3 g2 ?_⟩
    rw [k2.len, List.take_length] at g3
    rw [preP_eq]
    exact g3
theorem no_Tpl {f : Addr} {fd : FuncData} : FnOk P w K mg base CX0 1 f fd ["part", "place"] (spTPl 0) := by
  have no : ∀ vs H Q E, ¬ spTPl 0 vs H Q E := fun vs H Q E h => by
    obtain ⟨a, pl, p, pre, _, _, _, h0, _⟩ := h
    have := pcnt_inn p
    omega
  exact ⟨fun vs H Q E h => absurd h (no vs H Q E), fun A outer s H args us vs Q E _ _ _ _ h => absurd h (no vs H Q E)⟩
theorem all_Tpl (T : Txt K mg) {f g1 g2 : Addr} {fd d1 d2 : FuncData} (F : Fun K "_law_tplaces" "_law_tplaces" s_law_tplaces f fd) (R_law_tplaces : Ref K mg "_law_tplaces" f fd ["part", "place"])
    (G_law_simples : FnOk P w K mg base CX0 1 g1 d1 ["part"] spSmp) (R_law_simples : Ref K mg "_law_simples" g1 d1 ["part"]) (G_law_inner : FnOk P w K mg base CX0 1 g2 d2 ["part"] spInn) (R_law_inner : Ref K mg "_law_inner" g2 d2 ["part"]) : ∀ n : Nat, FnOk P w K mg base CX0 (n + 1) f fd ["part", "place"] (spTPl n)
  | 0 => no_Tpl
  | n + 1 => ok_Tpl T F (all_Tpl T F R_law_tplaces G_law_simples R_law_simples G_law_inner R_law_inner n) R_law_tplaces G_law_simples R_law_simples G_law_inner R_law_inner
end
end KB

namespace KB
open PySem L2 HT

/-! ### places as Python's data -/
theorem layAll : ∀ {ds : List PyData}, (∀ d ∈ ds, d.canLay0 = true) → PySem.PyData.canLayAll0 ds = true
  | [], _ => rfl
  | d :: r, h => by
    show (d.canLay0 && PySem.PyData.canLayAll0 r) = true
    rw [h d List.mem_cons_self, layAll fun x hx => h x (List.mem_cons_of_mem _ hx)]
    rfl
theorem depthAll_le {m : Nat} : ∀ {ds : List PyData}, (∀ d ∈ ds, d.depth ≤ m) → PySem.PyData.depthAll ds ≤ m
  | [], _ => Nat.zero_le _
  | d :: r, h => by
    show max d.depth (PySem.PyData.depthAll r) ≤ m
    have h1 := h d List.mem_cons_self
    have h2 := depthAll_le fun x hx => h x (List.mem_cons_of_mem _ hx)
    omega
theorem depth_tup {m : Nat} {ds : List PyData} (h : ∀ d ∈ ds, d.depth ≤ m) : (PyData.tuple ds).depth ≤ m + 1 := by
  show PySem.PyData.depthAll ds + 1 ≤ m + 1
  have := depthAll_le h
  omega
theorem depth_lst {m : Nat} {ds : List PyData} (h : ∀ d ∈ ds, d.depth ≤ m) : (PyData.list ds).depth ≤ m + 1 := by
  show PySem.PyData.depthAll ds + 1 ≤ m + 1
  have := depthAll_le h
  omega
theorem lay_str {x : Str} (h : isW x = true) : (PyData.str x).canLay0 = true := isW_ok h
theorem eqv_self {d : PyData} (h : SeqAt.shaped d = true) : PyData.eqv d d = true := SeqAt.eqv_refl d (SeqAt.canLay_of_shaped h)
theorem dp_ints {K : PySem.W.Frag} {H : Hp} : ∀ ks : List Int, DpAll K H (ks.map V.int) (ks.map PyData.int)
  | [] => .nil
  | k :: r => .cons (.int k) (dp_ints r)
theorem u65 {k : Nat} {A : Around} (r : Room k A) : A.units + 65 < cLine := by
  have := r.un
  omega
def pdPl (x : Str × List Int) : PyData := .tuple (.str x.1 :: x.2.map PyData.int)
theorem dp_pls {K : PySem.W.Frag} {H : Hp} : ∀ {xs : List (Str × List Int)} {vs : List V}, All2 (PlS H) xs vs → DpAll K H vs (xs.map pdPl)
  | [], [], _ => .nil
  | x :: xs, v :: vs, h => by
    obtain ⟨⟨r, e, hr⟩, h2⟩ := h
    subst e
    exact .cons (.tup (SqT.of hr) (.cons (.str _) (dp_ints _))) (dp_pls h2)
  | [], _ :: _, h => h.elim
  | _ :: _, [], h => h.elim
theorem lay_pl {x : Str × List Int} (h : isW x.1 = true) : (pdPl x).canLay0 = true := layAll fun d hd => by
  rcases List.mem_cons.mp hd with z | z
  · rw [z]
    exact lay_str h
  · obtain ⟨k, _, rfl⟩ := List.mem_map.mp z
    rfl
theorem depth_pl (x : Str × List Int) : (pdPl x).depth ≤ 1 := depth_tup (m := 0) fun d hd => by
  rcases List.mem_cons.mp hd with z | z
  · rw [z]
    exact Nat.le_refl 0
  · obtain ⟨k, _, rfl⟩ := List.mem_map.mp z
    exact Nat.le_refl 0
theorem shaped_pl {x : Str × List Int} (h : isW x.1 = true) : SeqAt.shaped (pdPl x) = true := shaped_of (lay_pl h) (Nat.le_trans (depth_pl x) (by decide))
theorem shaped_pls {xs : List (Str × List Int)} (h : ∀ x ∈ xs, isW x.1 = true) : SeqAt.shaped (.list (xs.map pdPl)) = true := by
  refine shaped_of (layAll fun d hd => ?_) (Nat.le_trans (depth_lst (m := 1) fun d hd => ?_) (by decide))
  · obtain ⟨x, hx, rfl⟩ := List.mem_map.mp hd
    exact lay_pl (h x hx)
  · obtain ⟨x, _, rfl⟩ := List.mem_map.mp hd
    exact depth_pl x
theorem eqv_ints : ∀ a b : List Int, PyData.eqvAll (a.map PyData.int) (b.map PyData.int) = decide (a = b)
  | [], [] => rfl
  | [], _ :: _ => rfl
  | _ :: _, [] => rfl
  | x :: a, y :: b => by
    show (PyData.eqv (.int x) (.int y) && PyData.eqvAll (a.map PyData.int) (b.map PyData.int)) = _
    rw [eqv_ints a b]
    by_cases h1 : x = y
    · subst h1
      have e : PyData.eqv (.int x) (.int x) = true := by simp [PyData.eqv]
      rw [e]
      by_cases h2 : a = b
      · subst h2; simp
      · simp [h2]
    · have e : PyData.eqv (.int x) (.int y) = false := by simp [PyData.eqv, h1]
      rw [e]
      simp [h1]
theorem eqv_pl (x y : Str × List Int) : PyData.eqv (pdPl x) (pdPl y) = decide (x = y) := by
  show (PyData.eqv (.str x.1) (.str y.1) && PyData.eqvAll (x.2.map PyData.int) (y.2.map PyData.int)) = _
  rw [eqv_ints]
  obtain ⟨a, b⟩ := x
  obtain ⟨c, d⟩ := y
  by_cases h1 : a = c
  · subst h1
    have e : PyData.eqv (.str a) (.str a) = true := by simp [PyData.eqv]
    show (PyData.eqv (.str a) (.str a) && _) = _
    rw [e]
    by_cases h2 : b = d
    · subst h2; simp
    · simp [h2]
  · have e : PyData.eqv (.str a) (.str c) = false := by simp [PyData.eqv, h1]
    show (PyData.eqv (.str a) (.str c) && _) = _
    rw [e]
    simp [h1]
theorem any_pl (xs : List (Str × List Int)) (x : Str × List Int) : ((xs.map pdPl).any fun z => PyData.eqv z (pdPl x)) = decide (x ∈ xs) := by
  induction xs with
  | nil => rfl
  | cons y r ih =>
    rw [List.map_cons, List.any_cons, ih, eqv_pl]
    by_cases h : y = x
    · subst h; simp
    · have h' : ¬ x = y := fun z => h z.symm
      simp [h, h']
/-! ### rising lists of words -/
theorem rising_pw : ∀ (l : List Str) (p : Str), PyProof.Rows.risingS p l = true → (p :: l).Pairwise (fun a b => a.cps.toList ≤ b.cps.toList)
  | [], p, _ => List.pairwise_singleton ..
  | x :: r, p, h => by
    have h' : (!PySem.Spec.ltCps x.cps.toList p.cps.toList && PyProof.Rows.risingS x r) = true := h
    obtain ⟨h1, h2⟩ := Bool.and_eq_true_iff.mp h'
    have ih := rising_pw r x h2
    rw [PyProof.Rows.ltCps_eq] at h1
    have h3 : p.cps.toList ≤ x.cps.toList := by
      have : ¬ (x.cps.toList < p.cps.toList) := by simpa using h1
      exact List.not_lt.mp this
    refine List.pairwise_cons.mpr ⟨fun b hb => ?_, ih⟩
    rcases List.mem_cons.mp hb with z | z
    · rw [z]
      exact h3
    · exact List.le_trans h3 ((List.pairwise_cons.mp ih).1 b z)
theorem sorted_one {a b : List Str} (ha : PyProof.Rows.sortedS a = true) (hb : PyProof.Rows.sortedS b = true) (p : a.Perm b) : a = b := by
  have pw : ∀ l : List Str, PyProof.Rows.sortedS l = true → l.Pairwise (fun a b => a.cps.toList ≤ b.cps.toList) := fun l h => by
    cases l with
    | nil => exact List.Pairwise.nil
    | cons x r => exact rising_pw r x h
  refine List.Perm.eq_of_pairwise (fun x y _ _ h1 h2 => ?_) (pw a ha) (pw b hb) p
  have e : x.cps.toList = y.cps.toList := List.le_antisymm h1 h2
  cases x
  cases y
  congr
  exact Array.toList_inj.mp e
/-! ### marks and counts -/
theorem mem_marksL {h : Hd} {ld ls : Bool} : ∀ {ts : List Tm} {j : Nat} {m : Mk3}, m ∈ marksL h ld ls j ts → ∃ i t m', ts[i]? = some t ∧ m' ∈ marks t (pmk h (j + i) ld ls).1 (pmk h (j + i) ld ls).2 ∧ m = (((j + i : Nat) : Int) :: m'.1, m'.2)
  | [], _, _, h => by cases h
  | a :: ts, j, m, hm => by
    have h' : m ∈ (marks a (pmk h j ld ls).1 (pmk h j ld ls).2).map (fun m => ((j : Int) :: m.1, m.2)) ++ marksL h ld ls (j + 1) ts := hm
    rcases List.mem_append.mp h' with z | z
    · obtain ⟨e', h1, rfl⟩ := List.mem_map.mp z
      exact ⟨0, a, e', rfl, h1, rfl⟩
    · obtain ⟨i, t, e', h1, h2, rfl⟩ := mem_marksL z
      have e2 : j + 1 + i = j + (i + 1) := by omega
      rw [e2] at h2 ⊢
      exact ⟨i + 1, t, e', by simpa using h1, h2, rfl⟩
theorem marks_one : ∀ (t : Tm) (ld ls : Bool) (m m' : Mk3), m ∈ marks t ld ls → m' ∈ marks t ld ls → m.1 = m'.1 → m = m' := by
  intro t
  induction t with
  | mk h n k ih =>
    intro ld ls m m' hm hm' e
    rw [marks_mk] at hm hm'
    rcases List.mem_cons.mp hm with z | z
    · rcases List.mem_cons.mp hm' with z' | z'
      · rw [z, z']
      · obtain ⟨i, v, e', _, _, h3⟩ := mem_marksL z'
        rw [z, h3] at e
        cases e
    · obtain ⟨i, v, q, h1, h2, h3⟩ := mem_marksL z
      rcases List.mem_cons.mp hm' with z' | z'
      · rw [z', h3] at e
        cases e
      · obtain ⟨i', v', q', h1', h2', h3'⟩ := mem_marksL z'
        rw [h3, h3'] at e
        obtain ⟨e1, e2⟩ := List.cons.inj e
        have ei : i = i' := by
          have := Int.ofNat.inj e1
          omega
        subst ei
        rw [h1] at h1'
        cases Option.some.inj h1'
        have hv : v ∈ List.ofFn k := List.mem_of_getElem? h1
        obtain ⟨f, rfl⟩ := List.mem_ofFn.mp hv
        have := ih f _ _ q q' h2 h2' e2
        rw [h3, h3', this]
theorem marks_leds {t : Tm} {ld ls : Bool} {m : Mk3} (h : m ∈ marks t ld ls) : decide (m.1 ∈ ledsOf (marks t ld ls)) = m.2.1 := by
  cases hb : m.2.1 with
  | true => exact decide_eq_true (List.mem_map.mpr ⟨m, List.mem_filter.mpr ⟨h, hb⟩, rfl⟩)
  | false =>
    refine decide_eq_false fun z => ?_
    obtain ⟨m', h1, h2⟩ := List.mem_map.mp z
    obtain ⟨h3, h4⟩ := List.mem_filter.mp h1
    have := marks_one t ld ls m' m h3 h h2
    subst this
    rw [hb] at h4
    cases h4
theorem marks_lasts {t : Tm} {ld ls : Bool} {m : Mk3} (h : m ∈ marks t ld ls) : decide (m.1 ∈ lastsOf (marks t ld ls)) = m.2.2 := by
  cases hb : m.2.2 with
  | true => exact decide_eq_true (List.mem_map.mpr ⟨m, List.mem_filter.mpr ⟨h, hb⟩, rfl⟩)
  | false =>
    refine decide_eq_false fun z => ?_
    obtain ⟨m', h1, h2⟩ := List.mem_map.mp z
    obtain ⟨h3, h4⟩ := List.mem_filter.mp h1
    have := marks_one t ld ls m' m h3 h h2
    subst this
    rw [hb] at h4
    cases h4
/-- what the law counts, place by place, is what the marks count -/
theorem cB_places (κ : Kd) : ∀ (t : Tm) (ld ls : Bool) (L Z : List Int → Bool), (∀ m ∈ marks t ld ls, L m.1 = m.2.1 ∧ Z m.1 = m.2.2) → sm (fun e => ownK κ (hdT e.2) (L e.1) (Z e.1)) (plT t) = cB κ t ld ls := by
  intro t
  induction t with
  | mk h n k ih =>
    intro ld ls L Z hm
    rw [marks_mk] at hm
    have h0 := hm _ List.mem_cons_self
    have go : ∀ (ts : List Tm) (j : Nat), (∀ t ∈ ts, ∃ i, t = k i) → (∀ m ∈ marksL h ld ls j ts, L m.1 = m.2.1 ∧ Z m.1 = m.2.2) → sm (fun e => ownK κ (hdT e.2) (L e.1) (Z e.1)) (plL plT j ts) = cBL κ h ld ls j ts := by
      intro ts
      induction ts with
      | nil => intro j _ _; rfl
      | cons t r ihr =>
        intro j hk hmm
        show sm _ ((plT t).map (fun e => ((j : Int) :: e.1, e.2)) ++ plL plT (j + 1) r) = cB κ t (pmk h j ld ls).1 (pmk h j ld ls).2 + cBL κ h ld ls (j + 1) r
        rw [sm_app, sm_map, ihr (j + 1) (fun u hu => hk u (List.mem_cons_of_mem _ hu)) (fun m hm2 => hmm m (List.mem_append_right _ hm2))]
        obtain ⟨i, rfl⟩ := hk t List.mem_cons_self
        have := ih i (pmk h j ld ls).1 (pmk h j ld ls).2 (fun ks => L ((j : Int) :: ks)) (fun ks => Z ((j : Int) :: ks)) fun m hm2 => hmm ((j : Int) :: m.1, m.2) (List.mem_append_left _ (List.mem_map.mpr ⟨m, hm2, rfl⟩))
        rw [← this]
    rw [plT_eq, sm_cons, cB_kids, go (kidsT (.mk h n k)) 0 (fun u hu => by
      obtain ⟨i, rfl⟩ := List.mem_ofFn.mp hu
      exact ⟨i, rfl⟩) (fun m hm2 => hm m (List.mem_cons_of_mem _ hm2))]
    show ownK κ h (L []) (Z []) + _ = ownK κ h ld ls + _
    rw [h0.1, h0.2]
    rfl
end KB

namespace KB
open PySem L2 HT

/-! ### the dict that counts -/
abbrev kPo : Key := Sum.inr "posts"
abbrev kHo : Key := Sum.inr "home"
abbrev kAs : Key := Sum.inr "asks"
abbrev kTe : Key := Sum.inr "tells"
def cdL (hl al : Addr) (n m : Nat) : List (Key × V) := [(kPo, .int n), (kHo, .ref hl), (kAs, .ref al), (kTe, .int m)]
theorem merge_cd (hl al : Addr) : mergeK [] (cdL hl al 0 0) = cdL hl al 0 0 := by
  have e1 : ¬ ((Sum.inr "posts" : Key) = (Sum.inr "home" : Key)) := by decide +kernel
  have e2 : ¬ ((Sum.inr "posts" : Key) = (Sum.inr "asks" : Key)) := by decide +kernel
  have e3 : ¬ ((Sum.inr "posts" : Key) = (Sum.inr "tells" : Key)) := by decide +kernel
  have e4 : ¬ ((Sum.inr "home" : Key) = (Sum.inr "asks" : Key)) := by decide +kernel
  have e5 : ¬ ((Sum.inr "home" : Key) = (Sum.inr "tells" : Key)) := by decide +kernel
  have e6 : ¬ ((Sum.inr "asks" : Key) = (Sum.inr "tells" : Key)) := by decide +kernel
  unfold mergeK cdL
  simp [putK, e1, e2, e3, e4, e5, e6]
structure Cd (H : Hp) (dk hl al : Addr) (n m : Nat) (hs as : List Str) : Prop where
  d : H dk = some (.dK (cdL hl al n m))
  h : H hl = some (.lst (hs.map V.str))
  a : H al = some (.lst (as.map V.str))
  n : hl ≠ al
def But3 (dk hl al : Addr) (H H' : Hp) : Prop := ∀ b o, b ≠ dk → b ≠ hl → b ≠ al → H b = some o → H' b = some o
section
variable {H H' H0 : Hp} {dk hl al : Addr} {n m : Nat} {hs as : List Str}
theorem But3.refl : But3 dk hl al H H := fun _ _ _ _ _ h => h
theorem But3.trans {H1 H2 : Hp} (a : But3 dk hl al H H1) (b : But3 dk hl al H1 H2) : But3 dk hl al H H2 := fun x o p q r h => b x o p q r (a x o p q r h)
theorem But3.of (s : Same H H') : But3 dk hl al H H' := fun b o _ _ _ h => s b o h
theorem Cd.ndh (C : Cd H dk hl al n m hs as) : dk ≠ hl := fun z => by
  have h1 := C.d
  rw [z, C.h] at h1
  cases h1
theorem Cd.nda (C : Cd H dk hl al n m hs as) : dk ≠ al := fun z => by
  have h1 := C.d
  rw [z, C.a] at h1
  cases h1
theorem Cd.same (C : Cd H dk hl al n m hs as) (s : Same H H') : Cd H' dk hl al n m hs as := ⟨s _ _ C.d, s _ _ C.h, s _ _ C.a, C.n⟩
theorem Cd.tk (C : Cd H dk hl al n m hs as) (b : But3 dk hl al H H') : TK H H' := fun a xs h => b a _ (fun z => by rw [z, C.d] at h; cases h) (fun z => by rw [z, C.h] at h; cases h) (fun z => by rw [z, C.a] at h; cases h) h
theorem Cd.po (C : Cd H dk hl al n m hs as) : DGet H dk (.str "posts") (some (.int n)) := DGet.k (k := kPo) C.d
theorem Cd.ho (C : Cd H dk hl al n m hs as) : DGet H dk (.str "home") (some (.ref hl)) := DGet.k (k := kHo) C.d
theorem Cd.ak (C : Cd H dk hl al n m hs as) : DGet H dk (.str "asks") (some (.ref al)) := DGet.k (k := kAs) C.d
theorem Cd.te (C : Cd H dk hl al n m hs as) : DGet H dk (.str "tells") (some (.int m)) := DGet.k (k := kTe) C.d
theorem Cd.post (C : Cd H dk hl al n m hs as) : Cd (upd H dk (.dK (putK (cdL hl al n m) kPo (.int ((n : Int) + 1))))) dk hl al (n + 1) m hs as ∧ But3 dk hl al H (upd H dk (.dK (putK (cdL hl al n m) kPo (.int ((n : Int) + 1))))) :=
  ⟨⟨upd_same, by rw [upd_ne C.ndh.symm]; exact C.h, by rw [upd_ne C.nda.symm]; exact C.a, C.n⟩, fun b o p _ _ h => by rw [upd_ne p]; exact h⟩
theorem Cd.tell (C : Cd H dk hl al n m hs as) : Cd (upd H dk (.dK (putK (cdL hl al n m) kTe (.int ((m : Int) + 1))))) dk hl al n (m + 1) hs as ∧ But3 dk hl al H (upd H dk (.dK (putK (cdL hl al n m) kTe (.int ((m : Int) + 1))))) :=
  ⟨⟨upd_same, by rw [upd_ne C.ndh.symm]; exact C.h, by rw [upd_ne C.nda.symm]; exact C.a, C.n⟩, fun b o p _ _ h => by rw [upd_ne p]; exact h⟩
theorem Cd.addH (C : Cd H dk hl al n m hs as) (f : Str) : Cd (upd H hl (.lst (hs.map V.str ++ [.str f]))) dk hl al n m (hs ++ [f]) as ∧ But3 dk hl al H (upd H hl (.lst (hs.map V.str ++ [.str f]))) :=
  ⟨⟨by rw [upd_ne C.ndh]; exact C.d, by rw [upd_same, List.map_append]; rfl, by rw [upd_ne C.n.symm]; exact C.a, C.n⟩, fun b o _ p _ h => by rw [upd_ne p]; exact h⟩
theorem Cd.addA (C : Cd H dk hl al n m hs as) (f : Str) : Cd (upd H al (.lst (as.map V.str ++ [.str f]))) dk hl al n m hs (as ++ [f]) ∧ But3 dk hl al H (upd H al (.lst (as.map V.str ++ [.str f]))) :=
  ⟨⟨by rw [upd_ne C.nda]; exact C.d, by rw [upd_ne C.n]; exact C.h, by rw [upd_same, List.map_append]; rfl, C.n⟩, fun b o _ _ p h => by rw [upd_ne p]; exact h⟩
end
/-- what is counted, written down -/
def CntV (H : Hp) (r : Addr) (c : Kd → Nat) : Prop := ∃ (hp ap : Addr) (hs as : List Str), H r = some (.lst [.int (c .post), .ref hp, .ref ap, .int (c .tell)]) ∧ H hp = some (.lst (hs.map V.str)) ∧ H ap = some (.lst (as.map V.str)) ∧
  PyProof.Rows.sortedS hs = true ∧ PyProof.Rows.sortedS as = true ∧ (∀ f, hs.count f = c (.home f)) ∧ ∀ f, as.count f = c (.ask f)
theorem CntV.same {H H' : Hp} (s : Same H H') {r : Addr} {c : Kd → Nat} (h : CntV H r c) : CntV H' r c := let ⟨hp, ap, hs, as, h1, h2, h3, h4⟩ := h; ⟨hp, ap, hs, as, s _ _ h1, s _ _ h2, s _ _ h3, h4⟩
/-! ### what is picked -/
abbrev Pl1 := List Int × Tm
def sH (Z : List Int → Bool) (e : Pl1) : Option Str := match hdT e.2 with | .ask f => if Z e.1 = true then some f else none | _ => none
def sA (Z : List Int → Bool) (e : Pl1) : Option Str := match hdT e.2 with | .ask f => if Z e.1 = true then none else some f | _ => none
theorem count_sH (L Z : List Int → Bool) (f : Str) : ∀ l : List Pl1, (l.filterMap (sH Z)).count f = sm (fun e => ownK (.home f) (hdT e.2) (L e.1) (Z e.1)) l
  | [] => rfl
  | e :: r => by
    rw [sm_cons, ← count_sH L Z f r, List.filterMap_cons]
    generalize List.filterMap (sH Z) r = q
    unfold sH
    cases hh : hdT e.2 with
    | ask g =>
      cases hz : Z e.1 with
      | true =>
        show (g :: q).count f = ((if L e.1 = true then 0 else 0) + (if true = true ∧ f = g then 1 else 0)) + _
        rw [List.count_cons]
        by_cases h1 : g = f
        · subst h1; simp; omega
        · have : ¬ f = g := fun z => h1 z.symm
          simp [h1, this]
      | false =>
        show (q).count f = ((if L e.1 = true then 0 else 0) + (if false = true ∧ f = g then 1 else 0)) + _
        simp
    | iff =>
      show (q).count f = (if L e.1 = true then 0 else 0) + _
      simp
    | _ => exact (Nat.zero_add _).symm
theorem count_sA (L Z : List Int → Bool) (f : Str) : ∀ l : List Pl1, (l.filterMap (sA Z)).count f = sm (fun e => ownK (.ask f) (hdT e.2) (L e.1) (Z e.1)) l
  | [] => rfl
  | e :: r => by
    rw [sm_cons, ← count_sA L Z f r, List.filterMap_cons]
    generalize List.filterMap (sA Z) r = q
    unfold sA
    cases hh : hdT e.2 with
    | ask g =>
      cases hz : Z e.1 with
      | false =>
        show (g :: q).count f = ((if L e.1 = true then 0 else 0) + (if false = false ∧ f = g then 1 else 0)) + _
        rw [List.count_cons]
        by_cases h1 : g = f
        · subst h1; simp; omega
        · have : ¬ f = g := fun z => h1 z.symm
          simp [h1, this]
      | true =>
        show (q).count f = ((if L e.1 = true then 0 else 0) + (if true = false ∧ f = g then 1 else 0)) + _
        simp
    | iff =>
      show (q).count f = (if L e.1 = true then 0 else 0) + _
      simp
    | _ => exact (Nat.zero_add _).symm
theorem fm_take {α β : Type} (g : α → Option β) {l : List α} {i : Nat} {e : α} (h : l[i]? = some e) : (l.take (i + 1)).filterMap g = (l.take i).filterMap g ++ [e].filterMap g := by
  obtain ⟨hi, he⟩ := List.getElem?_eq_some_iff.mp h
  rw [List.take_succ_eq_append_getElem hi, List.filterMap_append, he]
theorem sm_take {α : Type} (c : α → Nat) {l : List α} {i : Nat} {e : α} (h : l[i]? = some e) : sm c (l.take (i + 1)) = sm c (l.take i) + c e := by
  obtain ⟨hi, he⟩ := List.getElem?_eq_some_iff.mp h
  rw [List.take_succ_eq_append_getElem hi, sm_app, he]
  rfl
/-- an ask of a thing that is no word isn't there -/
theorem no_kind {f : Str} (hf : isW f = false) {κ : Kd} (hκ : κ = .home f ∨ κ = .ask f) : ∀ (t : Tm), okT t → ∀ ld ls, cB κ t ld ls = 0 := by
  intro t
  induction t with
  | mk h n k ih =>
    intro ⟨o, r⟩ ld ls
    have go : ∀ (ts : List Tm) (j : Nat), (∀ t ∈ ts, ∃ i, t = k i) → cBL κ h ld ls j ts = 0 := by
      intro ts
      induction ts with
      | nil => intro j _; rfl
      | cons t r' ihr =>
        intro j hk
        obtain ⟨i, rfl⟩ := hk t List.mem_cons_self
        show cB κ (k i) _ _ + cBL κ h ld ls (j + 1) r' = 0
        rw [ih i (r i), ihr (j + 1) fun u hu => hk u (List.mem_cons_of_mem _ hu)]
    rw [cB_kids]
    show ownK κ h ld ls + cBL κ h ld ls 0 (List.ofFn k) = 0
    rw [go _ _ (fun u hu => by
      obtain ⟨i, rfl⟩ := List.mem_ofFn.mp hu
      exact ⟨i, rfl⟩)]
    cases h with
    | ask g =>
      have ng : f ≠ g := fun z => by
        have o' : isW g = true := o
        rw [← z, hf] at o'
        cases o'
      rcases hκ with e | e <;> subst e
      · show ((if ld = true then 0 else 0) + (if ls = true ∧ f = g then 1 else 0)) + 0 = 0
        simp [ng]
      · show ((if ld = true then 0 else 0) + (if ls = false ∧ f = g then 1 else 0)) + 0 = 0
        simp [ng]
    | iff =>
      rcases hκ with e | e <;> subst e
      · show (if ld = true then 0 else 0) + 0 = 0
        simp
      · show (if ld = true then 0 else 0) + 0 = 0
        simp
    | tell => rcases hκ with e | e <;> subst e <;> rfl
    | _ => rfl
end KB

namespace KB
open PySem L2 HT

theorem nodup_one : ∀ {es : List Er}, (es.map (·.1)).Nodup → ∀ {a b : Er}, a ∈ es → b ∈ es → a.1 = b.1 → a = b
  | [], _, _, _, ha, _, _ => by cases ha
  | e :: r, hn, a, b, ha, hb, h => by
    obtain ⟨h1, h2⟩ := List.nodup_cons.mp hn
    rcases List.mem_cons.mp ha with z | z
    · rcases List.mem_cons.mp hb with z' | z'
      · rw [z, z']
      · exact absurd (List.mem_map.mpr ⟨b, z', by rw [← h, z]⟩) h1
    · rcases List.mem_cons.mp hb with z' | z'
      · exact absurd (List.mem_map.mpr ⟨a, z, by rw [h, z']⟩) h1
      · exact nodup_one h2 z z' h
theorem in_ai (h : Hd) : inV (.str (hs h)) [.str "ask", .str "if"] = wordH h := by cases h <;> rfl
theorem own_word {h : Hd} (w : wordH h = true) (ld ls : Bool) : ownK .post h ld ls = if ld = true then 0 else 1 := by
  cases h with
  | ask f => exact Nat.add_zero _
  | iff => rfl
  | _ => cases w
theorem own_none {h : Hd} (w : wordH h = false) (ld ls : Bool) : ownK .post h ld ls = 0 := by
  cases h with
  | ask f => cases w
  | iff => cases w
  | _ => rfl
def isAsk : Hd → Bool | .ask _ => true | _ => false
def isTell : Hd → Bool | .tell => true | _ => false
theorem eq_ask (h : Hd) : decide (V.str (hs h) = V.str "ask") = isAsk h := by cases h <;> rfl
theorem eq_tell (h : Hd) : decide (V.str (hs h) = V.str "tell") = isTell h := by cases h <;> rfl
theorem ask_of {h : Hd} (w : isAsk h = true) : ∃ f, h = .ask f := by
  cases h with
  | ask f => exact ⟨f, rfl⟩
  | _ => cases w
theorem own_tell {h : Hd} (ld ls : Bool) : ownK .tell h ld ls = if isTell h = true then 1 else 0 := by
  cases h with
  | ask f => show (if ld = true then 0 else 0) + 0 = 0; cases ld <;> rfl
  | iff => show (if ld = true then 0 else 0) = 0; cases ld <;> rfl
  | _ => rfl
theorem pick_no {Z : List Int → Bool} {y : Pl1} (w : isAsk (hdT y.2) = false) : [y].filterMap (sH Z) = [] ∧ [y].filterMap (sA Z) = [] := by
  have e : sH Z y = none ∧ sA Z y = none := by
    unfold sH sA
    cases hh : hdT y.2 with
    | ask f => rw [hh] at w; cases w
    | _ => exact ⟨rfl, rfl⟩
  rw [List.filterMap_cons, List.filterMap_cons, e.1, e.2]
  exact ⟨rfl, rfl⟩
theorem pick_ask {Z : List Int → Bool} {y : Pl1} {f : Str} (h : hdT y.2 = .ask f) : [y].filterMap (sH Z) = (if Z y.1 = true then [f] else []) ∧ [y].filterMap (sA Z) = (if Z y.1 = true then [] else [f]) := by
  rw [List.filterMap_cons, List.filterMap_cons]
  unfold sH sA
  rw [h]
  dsimp only
  cases Z y.1 <;> exact ⟨rfl, rfl⟩
def lz (es : List Er) (nm : Str) (ks : List Int) : Bool := decide ((nm, ks) ∈ lastPl es)
def ll (es : List Er) (nm : Str) (ks : List Int) : Bool := decide ((nm, ks) ∈ ledPl es)
theorem mem_lastPl {es : List Er} (hn : (es.map (·.1)).Nodup) {e : Er} (he : e ∈ es) (ks : List Int) : ((e.1, ks) ∈ lastPl es) ↔ ks ∈ lastsOf (marks e.2.2 true true) := by
  unfold lastPl
  constructor
  · intro h
    obtain ⟨l, hl, hx⟩ := List.mem_flatten.mp h
    obtain ⟨e', he', rfl⟩ := List.mem_map.mp hl
    obtain ⟨ks', hk, e1⟩ := List.mem_map.mp hx
    obtain ⟨e2, e3⟩ := Prod.mk.inj e1
    have : e' = e := nodup_one hn he' he e2
    subst this e3
    exact hk
  · intro h
    exact List.mem_flatten.mpr ⟨_, List.mem_map.mpr ⟨e, he, rfl⟩, List.mem_map.mpr ⟨ks, h, rfl⟩⟩
theorem mem_ledPl {es : List Er} (hn : (es.map (·.1)).Nodup) {e : Er} (he : e ∈ es) (ks : List Int) : ((e.1, ks) ∈ ledPl es) ↔ ks ∈ ledsOf (marks e.2.2 true true) := by
  unfold ledPl
  constructor
  · intro h
    obtain ⟨l, hl, hx⟩ := List.mem_flatten.mp h
    obtain ⟨e', he', rfl⟩ := List.mem_map.mp hl
    obtain ⟨ks', hk, e1⟩ := List.mem_map.mp hx
    obtain ⟨e2, e3⟩ := Prod.mk.inj e1
    have : e' = e := nodup_one hn he' he e2
    subst this e3
    exact hk
  · intro h
    exact List.mem_flatten.mpr ⟨_, List.mem_map.mpr ⟨e, he, rfl⟩, List.mem_map.mpr ⟨ks, h, rfl⟩⟩
theorem isW_last {es : List Er} (hw : ∀ e ∈ es, isW e.1 = true) : ∀ x ∈ lastPl es, isW x.1 = true := fun x hx => by
  obtain ⟨l, hl, hx⟩ := List.mem_flatten.mp hx
  obtain ⟨e, he, rfl⟩ := List.mem_map.mp hl
  obtain ⟨ks, hk, rfl⟩ := List.mem_map.mp hx
  exact hw e he
theorem isW_led {es : List Er} (hw : ∀ e ∈ es, isW e.1 = true) : ∀ x ∈ ledPl es, isW x.1 = true := fun x hx => by
  obtain ⟨l, hl, hx⟩ := List.mem_flatten.mp hx
  obtain ⟨e, he, rfl⟩ := List.mem_map.mp hl
  obtain ⟨ks, hk, rfl⟩ := List.mem_map.mp hx
  exact hw e he
theorem same_of3 {H H1 H' : Hp} {dk hl al : Addr} (s : Same H H1) (b : But3 dk hl al H1 H') (n1 : H dk = none) (n2 : H hl = none) (n3 : H al = none) : Same H H' :=
  fun x o h => b x o (ne_of_none h n1) (ne_of_none h n2) (ne_of_none h n3) (s x o h)
section
variable {P : Program} {w : World} {K : PySem.W.Frag} {mg : Str → Option Value} {base : Heap}
/-! ### _law_counted -/
def spCounted : Sp := fun vs H Q _ => ∃ (a zl dl : Addr) (es : List Er) (e : Er) (zv dv : List V), vs = [.ref a, .str e.1, .ref zl, .ref dl] ∧ At H e.2.2 a ∧ H zl = some (.lst zv) ∧ All2 (PlS H) (lastPl es) zv ∧ H dl = some (.lst dv) ∧ All2 (PlS H) (ledPl es) dv ∧
  e ∈ es ∧ (es.map (·.1)).Nodup ∧ (∀ e ∈ es, isW e.1 = true) ∧ cnt e.2.2 ≤ 40 ∧ ∀ H' r, Same H H' → CntV H' r (fun κ => cB κ e.2.2 true true) → Q (.ref r) H'
abbrev s_law_counted : Stmt := top 43
theorem scLcounted : FnScope ["body", "name", "last", "led", "found", "place", "term", "here"] ["body", "name", "last", "led"] (defScope s_law_counted) := ⟨rfl, rfl, rfl, by decide +kernel, rfl, by decide +kernel, by decide +kernel⟩
theorem ok_counted (T : Txt K mg) (mso : mg "sorted" = none) {f g1 g2 : Addr} {fd d1 d2 : FuncData} (F : Fun K "_law_counted" "_law_counted" s_law_counted f fd) (G_law_places : FnOk P w K mg base CX0 41 g1 d1 ["term", "place"] (spLPl 40)) (R_law_places : Ref K mg "_law_places" g1 d1 ["term", "place"])
    (G_law_at : FnOk P w K mg base CX0 2 g2 d2 ["term", "place"] spLAt) (R_law_at : Ref K mg "_law_at" g2 d2 ["term", "place"]) : FnOk P w K mg base CX0 42 f fd ["body", "name", "last", "led"] spCounted := by
  refine F.ok scLcounted (fun vs H Q E h => ?_) (fun cdv A outer s H vs Q E hr h => ?_)
  · obtain ⟨a, zl, dl, es, e, zv, dv, rfl, _⟩ := h
    rfl
  obtain ⟨a, zl, dl, es, e, zv, dv, rfl, hA, hz, kz, hd, kd, he, hnd, hw, hc, q⟩ := h
  refine ⟨_, (pss_cons (ps_set (i := 4) scLcounted.nd rfl (Or.inl rfl) (pe_disp (pps_cons pe_str pe_int (pps_cons pe_str (pe_lst pa_nil) (pps_cons pe_str (pe_lst pa_nil) (pps_cons pe_str pe_int pps_nil)))) (by rfl) (by rfl) (fun z => by cases z) (by decide)))
    (pss_cons (ps_for PassesOwn.never rfl (pi_list (pe_call G_law_places (hr.mono (by omega)) rfl R_law_places.m R_law_places.k R_law_places.b .nil pass0 (pa_cons (pv 0) (pa_cons (pe_tup pa_nil) pa_nil)))) (pg_name (i := 5) scLcounted.nd rfl (Or.inl rfl)) (pss_cons (ps_set (i := 6) scLcounted.nd rfl (Or.inl rfl) (pe_call G_law_at (hr.mono (by omega)) rfl R_law_at.m R_law_at.k R_law_at.b .nil pass0 (pa_cons (pv 0) (pa_cons (pv 5) pa_nil))))
    (pss_cons (ps_set (i := 7) scLcounted.nd rfl (Or.inl rfl) (pe_op op_catA (pe_tup (pa_cons (pv 1) pa_nil)) (pv 5)))
    (Evl.pss_cut (ps_if (PW.pt (pw_and (pt_cmpR op_in_seq (pe_ix ix_tup (pv 6) pe_int (fun _ _ => rfl)) (pe_tup (pa_cons pe_str (pa_cons pe_str pa_nil))) rfl) (pw_and1 (pt_cmpR (op_notInD (u65 hr)) (pv 7) (pv 3) rfl)))) (pss_one (ps_dput (hu_of hr) (pv 4) pe_str (pe_op op_add (pe_dget (hu_of hr) (pv 4) pe_str (fun _ _ => rfl)) pe_int) rfl)) pss_nil)
    (Evl.pss_cut (ps_if (pt_cmpR op_eq (pe_ix ix_tup (pv 6) pe_int (fun _ _ => rfl)) pe_str (nomark _)) (pss_one (ps_expr (pe_bm PySem.F.plainAttrs_list PySem.F.slot_list_append PySem.F.type_list_append mt_append (pe_dget (hu_of hr) (pv 4) (pe_ix ix_list (pe_lst (pa_cons pe_str (pa_cons pe_str pa_nil))) (pe_callTy call_int1 (by rfl) T.m_int (by decide +kernel) (pa_cons (pe_cmpR (op_inD (u65 hr)) (pv 7) (pv 2) rfl) pa_nil)) (fun _ _ => rfl)) (fun _ _ => rfl)) (pa_cons (pe_ix ix_tup (pv 6) pe_int (fun _ _ => rfl)) pa_nil)))) pss_nil)
    (pss_one (ps_if (pt_cmpR op_eq (pe_ix ix_tup (pv 6) pe_int (fun _ _ => rfl)) pe_str (nomark _)) (pss_one (ps_dput (hu_of hr) (pv 4) pe_str (pe_op op_add (pe_dget (hu_of hr) (pv 4) pe_str (fun _ _ => rfl)) pe_int) rfl)) pss_nil)))))))
    (pss_one (ps_ret (pe_lst (pa_cons (pe_dget (hu_of hr) (pv 4) pe_str (fun _ _ => rfl)) (pa_cons (pe_callB cr_sortedS (by rfl) mso (by decide +kernel) (pa_cons (pe_dget (hu_of hr) (pv 4) pe_str (fun _ _ => rfl)) pa_nil)) (pa_cons (pe_callB cr_sortedS (by rfl) mso (by decide +kernel) (pa_cons (pe_dget (hu_of hr) (pv 4) pe_str (fun _ _ => rfl)) pa_nil)) (pa_cons (pe_dget (hu_of hr) (pv 4) pe_str (fun _ _ => rfl)) pa_nil))))))))), ?_⟩
  intro dk hdk
  have sE := same_new hdk (.dK [])
  refine ⟨sz (by show 0 ≤ 100000; decide), fun hl hhl => ?_⟩
  have sF := same_new hhl (.lst [])
  refine ⟨sz (by show 0 ≤ 100000; decide), fun al hal => ?_⟩
  have sG := same_new hal (.lst [])
  have d1 : upd (upd (upd H dk (.dK [])) hl (.lst [])) al (.lst []) dk = some (.dK []) := sG _ _ (sF _ _ upd_same)
  have h1 : upd (upd (upd H dk (.dK [])) hl (.lst [])) al (.lst []) hl = some (.lst []) := sG _ _ upd_same
  have a1 : upd (upd (upd H dk (.dK [])) hl (.lst [])) al (.lst []) al = some (.lst []) := upd_same
  have nha : hl ≠ al := ne_of_none (upd_same : upd (upd H dk (.dK [])) hl (.lst []) hl = some (.lst [])) hal
  have s1 := sE.trans (sF.trans sG)
  have nhl : H hl = none := sE.free hhl
  have nal : H al = none := (sE.trans sF).free hal
  have ndh : dk ≠ hl := ne_of_none (upd_same : upd H dk (.dK []) dk = some (.dK [])) hhl
  have nda : dk ≠ al := ne_of_none (sF _ _ (upd_same : upd H dk (.dK []) dk = some (.dK []))) hal
  clear sE sF sG hhl hal
  generalize upd (upd (upd H dk (.dK [])) hl (.lst [])) al (.lst []) = H1 at d1 h1 a1 s1
  refine ⟨d1, cdL hl al 0 0, rfl, by show 4 ≤ 15; decide, ?_⟩
  rw [merge_cd]
  have C1 : Cd (upd H1 dk (.dK (cdL hl al 0 0))) dk hl al 0 0 [] [] := ⟨upd_same, by rw [upd_ne ndh.symm]; exact h1, by rw [upd_ne nda.symm]; exact a1, nha⟩
  have s2 : Same H (upd H1 dk (.dK (cdL hl al 0 0))) := same_mut s1 hdk
  clear d1 h1 a1 s1
  generalize upd H1 dk (.dK (cdL hl al 0 0)) = H2 at C1 s2
  refine ⟨_, rfl, sz (by show 0 ≤ 100000; decide), fun pt hpt => ?_⟩
  have s3 := same_new hpt (.tup [])
  refine ⟨a, pt, e.2.2, [], rfl, hA.tk (tk_same (s2.trans s3)), upd_same, hc, by show 0 + cnt e.2.2 ≤ 2000; omega, fun pl H3 its hpl s4 h4 k4 => ?_⟩
  have s34 := s3.trans s4
  have C3 := C1.same s34
  have sH3 := s2.trans s34
  have hlen := k4.len
  rw [List.length_map, plT_len] at hlen
  have npd : pl ≠ dk := fun z => by rw [z, C3.d] at h4; cases h4
  have npl : ∀ {b o}, upd H2 pt (.tup []) b = some o → pl ≠ b := fun h z => by rw [z, h] at hpl; cases hpl
  have nph : pl ≠ hl := npl (s3 _ _ C1.h)
  have npa : pl ≠ al := npl (s3 _ _ C1.a)
  clear s3 s4 hpt hpl npl C1
  let L := ll es e.1
  let Z := lz es e.1
  refine ⟨pl, rfl, ⟨_, SqL.of h4⟩, for_list (K := K) (a := pl) (xs := its) (fun i σ H' => ∃ o5 o6 o7, σ = [some (.ref a), some (.str e.1), some (.ref zl), some (.ref dl), some (.ref dk), o5, o6, o7] ∧ But3 dk hl al H3 H' ∧
    Cd H' dk hl al (sm (fun x => ownK .post (hdT x.2) (L x.1) (Z x.1)) ((plT e.2.2).take i)) (sm (fun x => ownK .tell (hdT x.2) (L x.1) (Z x.1)) ((plT e.2.2).take i)) (((plT e.2.2).take i).filterMap (sH Z)) (((plT e.2.2).take i).filterMap (sA Z)))
    ⟨_, _, _, rfl, But3.refl, C3⟩ ?_ ?_ ?_⟩
  · rintro i σ H' _ ⟨o5, o6, o7, rfl, b, _⟩
    exact SqL.of (b _ _ npd nph npa h4)
  · rintro i x σ H5 hx ⟨o5, o6, o7, rfl, b5, C5⟩
    obtain ⟨ks, hks, r, rfl, hr5⟩ := k4.get hx
    rw [List.getElem?_map] at hks
    obtain ⟨y, hy, rfl⟩ : ∃ y, (plT e.2.2)[i]? = some y ∧ y.1 = ks := by
      cases z : (plT e.2.2)[i]? with
      | none => rw [z] at hks; cases hks
      | some y => rw [z] at hks; exact ⟨y, rfl, Option.some.inj hks⟩
    rw [fm_take (sH Z) hy, fm_take (sA Z) hy, sm_take _ hy, sm_take _ hy]
    obtain ⟨ks, u⟩ := y
    have hym := List.mem_of_getElem? hy
    have hys := TrT.pl_short _ e.2.2 (Nat.le_refl _) _ hym
    have tk5 := C3.tk b5
    have hle1 := List.length_filterMap_le (sH Z) ((plT e.2.2).take i)
    have hle2 := List.length_filterMap_le (sA Z) ((plT e.2.2).take i)
    have hpl2 := plT_len e.2.2
    rw [List.length_take] at hle1 hle2
    generalize ((plT e.2.2).take i).filterMap (sH Z) = h1s at C5 hle1 ⊢
    generalize ((plT e.2.2).take i).filterMap (sA Z) = a1s at C5 hle2 ⊢
    generalize sm (fun x => ownK .post (hdT x.2) (L x.1) (Z x.1)) ((plT e.2.2).take i) = n at C5 ⊢
    generalize sm (fun x => ownK .tell (hdT x.2) (L x.1) (Z x.1)) ((plT e.2.2).take i) = m at C5 ⊢
    have hr6 : H5 r = some (.tup (ks.map V.int)) := tk5 _ _ hr5
    refine ⟨_, rfl, _, rfl, a, r, e.2.2, u, ks, rfl, hr6, (hA.tk (tk_same sH3)).tk tk5, hym, fun b H6 s6 hb => ?_⟩
    refine ⟨_, rfl, sz (by show 1 ≤ 100000; decide), fun p1 hp1 => ⟨_, rfl, catA_of upd_same (same_new hp1 (.tup [V.str e.1]) _ _ (s6 _ _ hr6)) (by rw [List.length_map]; show 1 + ks.length ≤ 100000; have : ks.length < cnt e.2.2 := hys; omega) fun p3 H7 s7 h7 => ?_⟩⟩
    have s67 := s6.trans ((same_new hp1 (.tup [V.str e.1])).trans s7)
    have C7 := C5.same s67
    have b7 : But3 dk hl al H3 H7 := b5.trans (But3.of s67)
    have hb7 := hb.tk (tk_same ((same_new hp1 (.tup [V.str e.1])).trans s7))
    have h7' : H7 p3 = some (.tup (V.str e.1 :: ks.map V.int)) := h7
    clear s6 hb hr6 h7 C5 b5 tk5 s67 hp1
    -- what is asked of lists
    have nzl : ∀ {H8 : Hp}, But3 dk hl al H3 H8 → H8 zl = some (.lst zv) ∧ H8 dl = some (.lst dv) ∧ TK H H8 := fun {H8} b8 => by
      have hz3 := sH3 _ _ hz
      have hd3 := sH3 _ _ hd
      exact ⟨b8 _ _ (ne_of_none hz hdk) (ne_of_none hz nhl) (ne_of_none hz nal) hz3, b8 _ _ (ne_of_none hd hdk) (ne_of_none hd nhl) (ne_of_none hd nal) hd3, (tk_same sH3).trans (C3.tk b8)⟩
    have dpx : ∀ {H8 : Hp}, H8 p3 = some (.tup (V.str e.1 :: ks.map V.int)) → Dp K H8 (.ref p3) (pdPl (e.1, ks)) := fun h => .tup (SqT.of h) (.cons (.str _) (dp_ints _))
    have hwx : isW e.1 = true := hw e he
    obtain ⟨xs, lay, _⟩ := hb7.kids
    obtain ⟨r0, hhd⟩ := lay.head
    have big : ∀ {k : Nat}, k ≤ 1000 → k < sizeLine := fun h => Nat.lt_of_le_of_lt h (by decide)
    -- if1
    refine ⟨fun σ' H8 => σ' = [some (.ref a), some (.str e.1), some (.ref zl), some (.ref dl), some (.ref dk), some (.ref r), some (.ref b), some (.ref p3)] ∧ But3 dk hl al H3 H8 ∧ Cd H8 dk hl al (n + ownK .post (hdT u) (L ks) (Z ks)) m h1s a1s ∧ H8 p3 = some (.tup (V.str e.1 :: ks.map V.int)) ∧ At H8 u b, ?_, ?_⟩
    · refine ⟨_, rfl, b, _, _, _, rfl, rfl, SqT.of hhd, at0, sz (by show 2 ≤ 100000; decide), fun t ht => ?_⟩
      have s8 := same_new ht (.tup [.str "ask", .str "if"])
      have C8 := C7.same s8
      have b8 := b7.trans (But3.of s8)
      refine ⟨t, _, rfl, .inr (SqT.of upd_same), rfl, rfl, _, rfl, ?_⟩
      show if inV (.str (hs (hdT u))) [.str "ask", .str "if"] = true then _ else _
      rw [in_ai]
      cases hw2 : wordH (hdT u) with
      | false =>
        refine itF rfl ⟨rfl, b8, ?_, s8 _ _ h7', hb7.tk (tk_same s8)⟩
        rw [own_none hw2]
        exact C8
      | true =>
        obtain ⟨z8, d8, tk8⟩ := nzl b8
        refine itT rfl ⟨_, rfl, _, rfl, pdPl (e.1, ks), (ledPl es).map pdPl, dpx (s8 _ _ h7'), .lst (SqL.of d8) (dp_pls (kd.imp fun _ _ z => z.tk tk8)), shaped_pl hwx, shaped_pls (isW_led hw), _, rfl, ?_⟩
        rw [any_pl]
        show if (!(L ks)) = true then _ else _
        rw [own_word hw2]
        cases hl2 : L ks with
        | true => exact itF rfl ⟨rfl, b8, C8, s8 _ _ h7', hb7.tk (tk_same s8)⟩
        | false =>
          obtain ⟨C9, b9⟩ := C8.post
          have tk9 := C8.tk b9
          exact itT rfl ⟨_, rfl, dk, _, rfl, C8.po, _, _, rfl, rfl, _, rfl, dk, _, rfl, DPut.k (k := kPo) C8.d (big (by show 4 ≤ 1000; decide)), rfl, b8.trans b9, C9, tk9 _ _ (s8 _ _ h7'), (hb7.tk (tk_same s8)).tk tk9⟩
    clear C7 b7 h7' hb7 hhd lay
    rintro σ' H8 ⟨rfl, b8, C8, h8, hb8⟩
    obtain ⟨xs, lay, k8⟩ := hb8.kids
    obtain ⟨r0, hhd⟩ := lay.head
    generalize n + ownK .post (hdT u) (L ks) (Z ks) = n2 at C8 ⊢
    -- if2
    refine ⟨fun σ' H9 => σ' = [some (.ref a), some (.str e.1), some (.ref zl), some (.ref dl), some (.ref dk), some (.ref r), some (.ref b), some (.ref p3)] ∧ But3 dk hl al H3 H9 ∧ Cd H9 dk hl al n2 m (h1s ++ [(ks, u)].filterMap (sH Z)) (a1s ++ [(ks, u)].filterMap (sA Z)) ∧ At H9 u b, ?_, ?_⟩
    · refine ⟨_, rfl, b, _, _, _, rfl, rfl, SqT.of hhd, at0, rfl, _, rfl, ?_⟩
      show if decide (V.str (hs (hdT u)) = V.str "ask") = true then _ else _
      rw [eq_ask]
      cases ha2 : isAsk (hdT u) with
      | false =>
        refine itF rfl ⟨rfl, b8, ?_, hb8⟩
        obtain ⟨e1, e2⟩ := pick_no (Z := Z) (y := (ks, u)) ha2
        rw [e1, e2, List.append_nil, List.append_nil]
        exact C8
      | true =>
        obtain ⟨g, hg⟩ := ask_of ha2
        obtain ⟨e1, e2⟩ := pick_ask (Z := Z) (y := (ks, u)) hg
        rw [e1, e2]
        rw [hg] at lay
        obtain ⟨lx, lp, l2, l3⟩ := lay
        refine itT rfl ⟨_, rfl, sz (by show 2 ≤ 100000; decide), fun tp htp => ?_⟩
        have s9 := same_new htp (.lst [.str "asks", .str "home"])
        have b9 := b8.trans (But3.of s9)
        have C9 := C8.same s9
        obtain ⟨z9, d9, tk9⟩ := nzl b9
        refine ⟨_, rfl, _, rfl, pdPl (e.1, ks), (lastPl es).map pdPl, dpx (s9 _ _ h8), .lst (SqL.of z9) (dp_pls (kz.imp fun _ _ z => z.tk tk9)), shaped_pl hwx, shaped_pls (isW_last hw), .inr ⟨_, rfl, ?_⟩⟩
        rw [any_pl, show decide ((e.1, ks) ∈ lastPl es) = Z ks from rfl]
        have len1s : h1s.length ≤ 1000 ∧ a1s.length ≤ 1000 := ⟨by omega, by omega⟩
        have l2' := tk_same s9 _ _ l2
        cases hz2 : Z ks with
        | true =>
          obtain ⟨C10, b10⟩ := C9.addH g
          have tk10 := C9.tk b10
          refine ⟨tp, _, _, _, rfl, rfl, SqL.of upd_same, at1, dk, _, rfl, C9.ho, .inl ⟨rfl, _, SqL.of C9.h⟩, _, rfl, b, _, _, _, rfl, rfl, SqT.of l2', at1, hl, _, _, rfl, rfl, C9.h, big (by rw [List.length_map]; exact len1s.1), rfl, b9.trans b10, ?_, (hb8.tk (tk_same s9)).tk tk10⟩
          rw [if_pos rfl, if_pos rfl, List.append_nil]
          exact C10
        | false =>
          obtain ⟨C10, b10⟩ := C9.addA g
          have tk10 := C9.tk b10
          refine ⟨tp, _, _, _, rfl, rfl, SqL.of upd_same, at0, dk, _, rfl, C9.ak, .inl ⟨rfl, _, SqL.of C9.a⟩, _, rfl, b, _, _, _, rfl, rfl, SqT.of l2', at1, al, _, _, rfl, rfl, C9.a, big (by rw [List.length_map]; exact len1s.2), rfl, b9.trans b10, ?_, (hb8.tk (tk_same s9)).tk tk10⟩
          rw [if_neg Bool.false_ne_true, if_neg Bool.false_ne_true, List.append_nil]
          exact C10
    clear C8 b8 hb8 h8 hhd lay k8
    rintro σ' H9 ⟨rfl, b9, C9, hb9⟩
    obtain ⟨xs, lay, k9⟩ := hb9.kids
    obtain ⟨r0, hhd⟩ := lay.head
    generalize h1s ++ [(ks, u)].filterMap (sH Z) = h2s at C9 ⊢
    generalize a1s ++ [(ks, u)].filterMap (sA Z) = a2s at C9 ⊢
    -- if3
    refine ⟨_, rfl, b, _, _, _, rfl, rfl, SqT.of hhd, at0, rfl, _, rfl, ?_⟩
    show if decide (V.str (hs (hdT u)) = V.str "tell") = true then _ else _
    rw [eq_tell, own_tell]
    cases ht2 : isTell (hdT u) with
    | false => exact itF rfl ⟨_, _, _, rfl, b9, C9⟩
    | true =>
      obtain ⟨C10, b10⟩ := C9.tell
      exact itT rfl ⟨_, rfl, dk, _, rfl, C9.te, _, _, rfl, rfl, _, rfl, dk, _, rfl, DPut.k (k := kTe) C9.d (big (by show 4 ≤ 1000; decide)), _, _, _, rfl, b9.trans b10, C10⟩
  · rintro σ H5 ⟨o5, o6, o7, rfl, b5, C5⟩
    have hpl2 := plT_len e.2.2
    rw [hlen, ← hpl2, List.take_length] at C5
    have hm : ∀ m ∈ marks e.2.2 true true, L m.1 = m.2.1 ∧ Z m.1 = m.2.2 := fun m hm => by
      refine ⟨?_, ?_⟩
      · rw [← marks_leds hm]
        exact decide_eq_decide.mpr (mem_ledPl hnd he m.1)
      · rw [← marks_lasts hm]
        exact decide_eq_decide.mpr (mem_lastPl hnd he m.1)
    have cP : ∀ κ, sm (fun x => ownK κ (hdT x.2) (L x.1) (Z x.1)) (plT e.2.2) = cB κ e.2.2 true true := fun κ => cB_places κ e.2.2 true true L Z hm
    have cH : ∀ f, ((plT e.2.2).filterMap (sH Z)).count f = cB (.home f) e.2.2 true true := fun f => by rw [count_sH L Z f, cP]
    have cA : ∀ f, ((plT e.2.2).filterMap (sA Z)).count f = cB (.ask f) e.2.2 true true := fun f => by rw [count_sA L Z f, cP]
    rw [cP, cP] at C5
    have hle1 := List.length_filterMap_le (sH Z) (plT e.2.2)
    have hle2 := List.length_filterMap_le (sA Z) (plT e.2.2)
    generalize (plT e.2.2).filterMap (sH Z) = h1s at C5 hle1 cH
    generalize (plT e.2.2).filterMap (sA Z) = a1s at C5 hle2 cA
    have sH5 : Same H H5 := same_of3 sH3 b5 hdk nhl nal
    refine ⟨_, rfl, dk, _, rfl, C5.po, _, rfl, dk, _, rfl, C5.ho, hl, h1s, rfl, SqL.of C5.h, by omega, fun ys p1 y1 y2 y3 => ?_⟩
    have s6 := same_new y3 (.lst (ys.map V.str))
    have C6 := C5.same s6
    refine ⟨_, rfl, dk, _, rfl, C6.ak, al, a1s, rfl, SqL.of C6.a, by omega, fun zs p2 z1 z2 z3 => ?_⟩
    have s7 := same_new z3 (.lst (zs.map V.str))
    have C7 := C6.same s7
    refine ⟨_, rfl, dk, _, rfl, C7.te, sz (by show 4 ≤ 100000; decide), fun p3 hp3 => ?_⟩
    have s8 := same_new hp3 (.lst [.int (cB .post e.2.2 true true), .ref p1, .ref p2, .int (cB .tell e.2.2 true true)])
    exact q _ p3 (sH5.trans (s6.trans (s7.trans s8))) ⟨p1, p2, ys, zs, upd_same, (s7.trans s8) _ _ upd_same, s8 _ _ upd_same, y2, z2, fun f => by rw [y1.count_eq]; exact cH f, fun f => by rw [z1.count_eq]; exact cA f⟩
end
end KB

namespace KB
open PySem L2 HT

def isHm (j : Str) : Bool := decide (j = "home")
def ownT (κ : Kd) : Pt → Nat
  | .ask f _ j => askK κ f (isHm j)
  | .tell _ _ _ => tellK κ
  | .post _ _ _ _ => postK κ
  | _ => 0
theorem cT_pre (κ : Kd) : ∀ p : Pt, sm (ownT κ) (preP p) = cT κ p
  | .give j s => rfl
  | .ask f ts j => Nat.add_zero _
  | .tell x s q => by
    show tellK κ + sm (ownT κ) (preP q) = tellK κ + cT κ q
    rw [cT_pre κ q]
  | .lett x s q => by
    show 0 + sm (ownT κ) (preP q) = cT κ q
    rw [cT_pre κ q, Nat.zero_add]
  | .iff s q u => by
    show 0 + sm (ownT κ) (preP q ++ preP u) = cT κ q + cT κ u
    rw [sm_app, cT_pre κ q, cT_pre κ u, Nat.zero_add]
  | .post j x q u => by
    show postK κ + sm (ownT κ) (preP q ++ preP u) = postK κ + cT κ q + cT κ u
    rw [sm_app, cT_pre κ q, cT_pre κ u, Nat.add_assoc]
def tH : Pt → Option Str
  | .ask f _ j => if isHm j = true then some f else none
  | _ => none
def tA : Pt → Option Str
  | .ask f _ j => if isHm j = true then none else some f
  | _ => none
theorem count_tH (f : Str) : ∀ l : List Pt, (l.filterMap tH).count f = sm (ownT (.home f)) l
  | [] => rfl
  | e :: r => by
    rw [sm_cons, ← count_tH f r, List.filterMap_cons]
    generalize List.filterMap tH r = q
    cases e with
    | ask g ts j =>
      rw [show tH (Pt.ask g ts j) = (if isHm j = true then some g else none) from rfl, show ownT (.home f) (Pt.ask g ts j) = (if isHm j = true ∧ f = g then 1 else 0) from rfl]
      cases isHm j with
      | true =>
        show (g :: q).count f = _
        rw [List.count_cons]
        by_cases h1 : g = f
        · subst h1; simp; omega
        · have : ¬ f = g := fun z => h1 z.symm
          simp [h1, this]
      | false =>
        show q.count f = _
        simp
    | _ => exact (Nat.zero_add _).symm
theorem count_tA (f : Str) : ∀ l : List Pt, (l.filterMap tA).count f = sm (ownT (.ask f)) l
  | [] => rfl
  | e :: r => by
    rw [sm_cons, ← count_tA f r, List.filterMap_cons]
    generalize List.filterMap tA r = q
    cases e with
    | ask g ts j =>
      rw [show tA (Pt.ask g ts j) = (if isHm j = true then none else some g) from rfl, show ownT (.ask f) (Pt.ask g ts j) = (if isHm j = false ∧ f = g then 1 else 0) from rfl]
      cases isHm j with
      | false =>
        show (g :: q).count f = _
        rw [List.count_cons]
        by_cases h1 : g = f
        · subst h1; simp; omega
        · have : ¬ f = g := fun z => h1 z.symm
          simp [h1, this]
      | true =>
        show q.count f = _
        simp
    | _ => exact (Nat.zero_add _).symm
theorem PAt.hd {H : Hp} {p : Pt} {a : Addr} (h : PAt H p a) : ∃ r, H a = some (.tup (.str (hdPt p) :: r)) := by
  cases p with
  | give j t => obtain ⟨b, h1, _⟩ := h; exact ⟨_, h1⟩
  | ask f ts j => obtain ⟨b, vs, h1, _⟩ := h; exact ⟨_, h1⟩
  | tell x t p => obtain ⟨b, c, h1, _⟩ := h; exact ⟨_, h1⟩
  | lett x t p => obtain ⟨b, c, h1, _⟩ := h; exact ⟨_, h1⟩
  | iff t p q => obtain ⟨b, c, d, h1, _⟩ := h; exact ⟨_, h1⟩
  | post j x p q => obtain ⟨c, d, h1, _⟩ := h; exact ⟨_, h1⟩
def isPostP : Pt → Bool | .post _ _ _ _ => true | _ => false
def isAskP : Pt → Bool | .ask _ _ _ => true | _ => false
def isTellP : Pt → Bool | .tell _ _ _ => true | _ => false
theorem eq_postP (p : Pt) : decide (V.str (hdPt p) = V.str "post") = isPostP p := by cases p <;> rfl
theorem eq_askP (p : Pt) : decide (V.str (hdPt p) = V.str "ask") = isAskP p := by cases p <;> rfl
theorem eq_tellP (p : Pt) : decide (V.str (hdPt p) = V.str "tell") = isTellP p := by cases p <;> rfl
theorem own_postP (p : Pt) : ownT .post p = if isPostP p = true then 1 else 0 := by cases p <;> rfl
theorem own_tellP (p : Pt) : ownT .tell p = if isTellP p = true then 1 else 0 := by cases p <;> rfl
theorem askP_of {p : Pt} (h : isAskP p = true) : ∃ f ts j, p = .ask f ts j := by
  cases p with
  | ask f ts j => exact ⟨f, ts, j, rfl⟩
  | _ => cases h
theorem pickP_no {p : Pt} (w : isAskP p = false) : [p].filterMap tH = [] ∧ [p].filterMap tA = [] := by
  cases p with
  | ask f ts j => cases w
  | _ => exact ⟨rfl, rfl⟩
theorem pickP_ask {f : Str} {ts : List Tm} {j : Str} : [Pt.ask f ts j].filterMap tH = (if isHm j = true then [f] else []) ∧ [Pt.ask f ts j].filterMap tA = (if isHm j = true then [] else [f]) := by
  rw [List.filterMap_cons, List.filterMap_cons]
  rw [show tH (Pt.ask f ts j) = (if isHm j = true then some f else none) from rfl, show tA (Pt.ask f ts j) = (if isHm j = true then none else some f) from rfl]
  cases isHm j <;> exact ⟨rfl, rfl⟩
theorem eq_str (x y : Str) : decide (V.str x = V.str y) = decide (x = y) := by
  by_cases h : x = y
  · rw [h, decide_eq_true rfl, decide_eq_true rfl]
  · rw [decide_eq_false h, decide_eq_false fun z => h (V.str.inj z)]
section
variable {P : Program} {w : World} {K : PySem.W.Frag} {mg : Str → Option Value} {base : Heap}
/-! ### _law_counted_turned -/
def spCntT : Sp := fun vs H Q _ => ∃ (a : Addr) (p : Pt), vs = [.ref a] ∧ PAt H p a ∧ pcnt p ≤ 161 ∧ ((preP p).filterMap tH).length < 64 ∧ ((preP p).filterMap tA).length < 64 ∧ ∀ H' r, Same H H' → CntV H' r (fun κ => cT κ p) → Q (.ref r) H'
abbrev s_law_counted_turned : Stmt := top 44
theorem scLcounted_turned : FnScope ["part", "found", "place", "one"] ["part"] (defScope s_law_counted_turned) := ⟨rfl, rfl, rfl, by decide +kernel, rfl, by decide +kernel, by decide +kernel⟩
theorem ok_cntT (T : Txt K mg) (mso : mg "sorted" = none) {f g1 : Addr} {fd d1 : FuncData} (F : Fun K "_law_counted_turned" "_law_counted_turned" s_law_counted_turned f fd) (G_law_tplaces : FnOk P w K mg base CX0 162 g1 d1 ["part", "place"] (spTPl 161)) (R_law_tplaces : Ref K mg "_law_tplaces" g1 d1 ["part", "place"]) :
    FnOk P w K mg base CX0 163 f fd ["part"] spCntT := by
  refine F.ok scLcounted_turned (fun vs H Q E h => ?_) (fun cdv A outer s H vs Q E hr h => ?_)
  · obtain ⟨a, p, rfl, _⟩ := h
    rfl
  obtain ⟨a, p, rfl, hA, hc, hl1, hl2, q⟩ := h
  refine ⟨_, (pss_cons (ps_set (i := 1) scLcounted_turned.nd rfl (Or.inl rfl) (pe_disp (pps_cons pe_str pe_int (pps_cons pe_str (pe_lst pa_nil) (pps_cons pe_str (pe_lst pa_nil) (pps_cons pe_str pe_int pps_nil)))) (by rfl) (by rfl) (fun z => by cases z) (by decide)))
    (pss_cons (ps_for PassesOwn.never rfl (pi_list (pe_call G_law_tplaces (hr.mono (by omega)) rfl R_law_tplaces.m R_law_tplaces.k R_law_tplaces.b .nil pass0 (pa_cons (pv 0) (pa_cons (pe_tup pa_nil) pa_nil)))) (pg_tup rfl (pgs_cons (pg_name (i := 2) scLcounted_turned.nd rfl (Or.inl rfl)) (pgs_cons (pg_name (i := 3) scLcounted_turned.nd rfl (Or.inl rfl)) pgs_nil))) (Evl.pss_cut (ps_if (pt_cmpR op_eq (pe_ix ix_tup (pv 3) pe_int (fun _ _ => rfl)) pe_str (nomark _)) (pss_one (ps_dput (hu_of hr) (pv 1) pe_str (pe_op op_add (pe_dget (hu_of hr) (pv 1) pe_str (fun _ _ => rfl)) pe_int) rfl)) pss_nil)
    (Evl.pss_cut (ps_if (pt_cmpR op_eq (pe_ix ix_tup (pv 3) pe_int (fun _ _ => rfl)) pe_str (nomark _)) (pss_one (ps_expr (pe_bm PySem.F.plainAttrs_list PySem.F.slot_list_append PySem.F.type_list_append mt_append (pe_dget (hu_of hr) (pv 1) (pe_ix ix_list (pe_lst (pa_cons pe_str (pa_cons pe_str pa_nil))) (pe_callTy call_int1 (by rfl) T.m_int (by decide +kernel) (pa_cons (pe_cmpR op_eq (pe_ix ix_tup (pv 3) pe_int (fun _ _ => rfl)) pe_str (nomark _)) pa_nil)) (fun _ _ => rfl)) (fun _ _ => rfl)) (pa_cons (pe_ix ix_tup (pv 3) pe_int (fun _ _ => rfl)) pa_nil)))) pss_nil)
    (pss_one (ps_if (pt_cmpR op_eq (pe_ix ix_tup (pv 3) pe_int (fun _ _ => rfl)) pe_str (nomark _)) (pss_one (ps_dput (hu_of hr) (pv 1) pe_str (pe_op op_add (pe_dget (hu_of hr) (pv 1) pe_str (fun _ _ => rfl)) pe_int) rfl)) pss_nil)))))
    (pss_one (ps_ret (pe_lst (pa_cons (pe_dget (hu_of hr) (pv 1) pe_str (fun _ _ => rfl)) (pa_cons (pe_callB cr_sortedS (by rfl) mso (by decide +kernel) (pa_cons (pe_dget (hu_of hr) (pv 1) pe_str (fun _ _ => rfl)) pa_nil)) (pa_cons (pe_callB cr_sortedS (by rfl) mso (by decide +kernel) (pa_cons (pe_dget (hu_of hr) (pv 1) pe_str (fun _ _ => rfl)) pa_nil)) (pa_cons (pe_dget (hu_of hr) (pv 1) pe_str (fun _ _ => rfl)) pa_nil))))))))), ?_⟩
  intro dk hdk
  have sE := same_new hdk (.dK [])
  refine ⟨sz (by show 0 ≤ 100000; decide), fun hl hhl => ?_⟩
  have sF := same_new hhl (.lst [])
  refine ⟨sz (by show 0 ≤ 100000; decide), fun al hal => ?_⟩
  have sG := same_new hal (.lst [])
  have d1 : upd (upd (upd H dk (.dK [])) hl (.lst [])) al (.lst []) dk = some (.dK []) := sG _ _ (sF _ _ upd_same)
  have h1 : upd (upd (upd H dk (.dK [])) hl (.lst [])) al (.lst []) hl = some (.lst []) := sG _ _ upd_same
  have a1 : upd (upd (upd H dk (.dK [])) hl (.lst [])) al (.lst []) al = some (.lst []) := upd_same
  have nha : hl ≠ al := ne_of_none (upd_same : upd (upd H dk (.dK [])) hl (.lst []) hl = some (.lst [])) hal
  have s1 := sE.trans (sF.trans sG)
  have nhl : H hl = none := sE.free hhl
  have nal : H al = none := (sE.trans sF).free hal
  have ndh : dk ≠ hl := ne_of_none (upd_same : upd H dk (.dK []) dk = some (.dK [])) hhl
  have nda : dk ≠ al := ne_of_none (sF _ _ (upd_same : upd H dk (.dK []) dk = some (.dK []))) hal
  clear sE sF sG hhl hal
  generalize upd (upd (upd H dk (.dK [])) hl (.lst [])) al (.lst []) = H1 at d1 h1 a1 s1
  refine ⟨d1, cdL hl al 0 0, rfl, by show 4 ≤ 15; decide, ?_⟩
  rw [merge_cd]
  have C1 : Cd (upd H1 dk (.dK (cdL hl al 0 0))) dk hl al 0 0 [] [] := ⟨upd_same, by rw [upd_ne ndh.symm]; exact h1, by rw [upd_ne nda.symm]; exact a1, nha⟩
  have s2 : Same H (upd H1 dk (.dK (cdL hl al 0 0))) := same_mut s1 hdk
  clear d1 h1 a1 s1
  generalize upd H1 dk (.dK (cdL hl al 0 0)) = H2 at C1 s2
  refine ⟨_, rfl, sz (by show 0 ≤ 100000; decide), fun pt hpt => ?_⟩
  have s3 := same_new hpt (.tup [])
  refine ⟨a, pt, p, [], rfl, PAt.tk (tk_same (s2.trans s3)) hA, upd_same, hc, by show 0 + pcnt p ≤ 2000; omega, fun pl H3 its hpl s4 h4 k4 => ?_⟩
  have s34 := s3.trans s4
  have C3 := C1.same s34
  have sH3 := s2.trans s34
  have npd : pl ≠ dk := fun z => by rw [z, C3.d] at h4; cases h4
  have npl : ∀ {b o}, upd H2 pt (.tup []) b = some o → pl ≠ b := fun h z => by rw [z, h] at hpl; cases hpl
  have nph : pl ≠ hl := npl (s3 _ _ C1.h)
  have npa : pl ≠ al := npl (s3 _ _ C1.a)
  have hpc := preP_len p
  clear s3 s4 hpt hpl npl C1
  refine ⟨pl, rfl, ⟨_, SqL.of h4⟩, for_list (K := K) (a := pl) (xs := its) (fun i σ H' => ∃ o2 o3, σ = [some (.ref a), some (.ref dk), o2, o3] ∧ But3 dk hl al H3 H' ∧
    Cd H' dk hl al (sm (ownT .post) ((preP p).take i)) (sm (ownT .tell) ((preP p).take i)) (((preP p).take i).filterMap tH) (((preP p).take i).filterMap tA))
    ⟨_, _, rfl, But3.refl, C3⟩ ?_ ?_ ?_⟩
  · rintro i σ H' _ ⟨o2, o3, rfl, b, _⟩
    exact SqL.of (b _ _ npd nph npa h4)
  · rintro i x σ H5 hx ⟨o2, o3, rfl, b5, C5⟩
    obtain ⟨y, hy, eq, r, b, rfl, he3, hb3⟩ := k4.get hx
    rw [fm_take tH hy, fm_take tA hy, sm_take _ hy, sm_take _ hy]
    have tk5 := C3.tk b5
    have hle1 := List.length_filterMap_le tH ((preP p).take i)
    have hle2 := List.length_filterMap_le tA ((preP p).take i)
    rw [List.length_take] at hle1 hle2
    generalize ((preP p).take i).filterMap tH = h1s at C5 hle1 ⊢
    generalize ((preP p).take i).filterMap tA = a1s at C5 hle2 ⊢
    generalize sm (ownT .post) ((preP p).take i) = n at C5 ⊢
    generalize sm (ownT .tell) ((preP p).take i) = m at C5 ⊢
    refine ⟨eq, _, rfl, SqT.of (tk5 _ _ he3), rfl, _, _, rfl, _, _, rfl, rfl, ?_⟩
    have hb5 := PAt.tk tk5 hb3
    obtain ⟨r0, hhd⟩ := hb5.hd
    have big : ∀ {k : Nat}, k ≤ 1000 → k < sizeLine := fun h => Nat.lt_of_le_of_lt h (by decide)
    -- if1
    refine ⟨fun σ' H8 => σ' = [some (.ref a), some (.ref dk), some (.ref r), some (.ref b)] ∧ But3 dk hl al H3 H8 ∧ Cd H8 dk hl al (n + ownT .post y) m h1s a1s ∧ PAt H8 y b, ?_, ?_⟩
    · refine ⟨_, rfl, b, _, _, _, rfl, rfl, SqT.of hhd, at0, rfl, _, rfl, ?_⟩
      show if decide (V.str (hdPt y) = V.str "post") = true then _ else _
      rw [eq_postP, own_postP]
      cases isPostP y with
      | false => exact itF rfl ⟨rfl, b5, C5, hb5⟩
      | true =>
        obtain ⟨C9, b9⟩ := C5.post
        have tk9 := C5.tk b9
        exact itT rfl ⟨_, rfl, dk, _, rfl, C5.po, _, _, rfl, rfl, _, rfl, dk, _, rfl, DPut.k (k := kPo) C5.d (big (by show 4 ≤ 1000; decide)), rfl, b5.trans b9, C9, PAt.tk tk9 hb5⟩
    clear C5 b5 hb5 hhd tk5 hb3 he3
    rintro σ' H8 ⟨rfl, b8, C8, hb8⟩
    obtain ⟨r0, hhd⟩ := hb8.hd
    generalize n + ownT .post y = n2 at C8 ⊢
    -- if2
    refine ⟨fun σ' H9 => σ' = [some (.ref a), some (.ref dk), some (.ref r), some (.ref b)] ∧ But3 dk hl al H3 H9 ∧ Cd H9 dk hl al n2 m (h1s ++ [y].filterMap tH) (a1s ++ [y].filterMap tA) ∧ PAt H9 y b, ?_, ?_⟩
    · refine ⟨_, rfl, b, _, _, _, rfl, rfl, SqT.of hhd, at0, rfl, _, rfl, ?_⟩
      show if decide (V.str (hdPt y) = V.str "ask") = true then _ else _
      rw [eq_askP]
      cases ha2 : isAskP y with
      | false =>
        refine itF rfl ⟨rfl, b8, ?_, hb8⟩
        obtain ⟨e1, e2⟩ := pickP_no ha2
        rw [e1, e2, List.append_nil, List.append_nil]
        exact C8
      | true =>
        obtain ⟨g, ts, j, rfl⟩ := askP_of ha2
        obtain ⟨e1, e2⟩ := pickP_ask (f := g) (ts := ts) (j := j)
        rw [e1, e2]
        obtain ⟨bq, vs, g1', g2', g3'⟩ := hb8
        refine itT rfl ⟨_, rfl, sz (by show 2 ≤ 100000; decide), fun tp htp => ?_⟩
        have s9 := same_new htp (.lst [.str "asks", .str "home"])
        have b9 := b8.trans (But3.of s9)
        have C9 := C8.same s9
        have h9 := s9 _ _ g1'
        have hb9 : PAt (upd H8 tp (.lst [.str "asks", .str "home"])) (.ask g ts j) b := PAt.tk (tk_same s9) ⟨bq, vs, g1', g2', g3'⟩
        refine ⟨_, rfl, b, _, _, _, rfl, rfl, SqT.of h9, at3, rfl, .inr ⟨_, rfl, ?_⟩⟩
        rw [show decide (V.str j = V.str "home") = isHm j from eq_str j "home"]
        have len1s : h1s.length ≤ 1000 ∧ a1s.length ≤ 1000 := ⟨by omega, by omega⟩
        cases hz2 : isHm j with
        | true =>
          obtain ⟨C10, b10⟩ := C9.addH g
          have tk10 := C9.tk b10
          refine ⟨tp, _, _, _, rfl, rfl, SqL.of upd_same, at1, dk, _, rfl, C9.ho, .inl ⟨rfl, _, SqL.of C9.h⟩, _, rfl, b, _, _, _, rfl, rfl, SqT.of h9, at1, hl, _, _, rfl, rfl, C9.h, big (by rw [List.length_map]; exact len1s.1), rfl, b9.trans b10, ?_, PAt.tk tk10 hb9⟩
          rw [if_pos rfl, if_pos rfl, List.append_nil]
          exact C10
        | false =>
          obtain ⟨C10, b10⟩ := C9.addA g
          have tk10 := C9.tk b10
          refine ⟨tp, _, _, _, rfl, rfl, SqL.of upd_same, at0, dk, _, rfl, C9.ak, .inl ⟨rfl, _, SqL.of C9.a⟩, _, rfl, b, _, _, _, rfl, rfl, SqT.of h9, at1, al, _, _, rfl, rfl, C9.a, big (by rw [List.length_map]; exact len1s.2), rfl, b9.trans b10, ?_, PAt.tk tk10 hb9⟩
          rw [if_neg Bool.false_ne_true, if_neg Bool.false_ne_true, List.append_nil]
          exact C10
    clear C8 b8 hb8 hhd
    rintro σ' H9 ⟨rfl, b9, C9, hb9⟩
    obtain ⟨r0, hhd⟩ := hb9.hd
    generalize h1s ++ [y].filterMap tH = h2s at C9 ⊢
    generalize a1s ++ [y].filterMap tA = a2s at C9 ⊢
    -- if3
    refine ⟨_, rfl, b, _, _, _, rfl, rfl, SqT.of hhd, at0, rfl, _, rfl, ?_⟩
    show if decide (V.str (hdPt y) = V.str "tell") = true then _ else _
    rw [eq_tellP, own_tellP]
    cases isTellP y with
    | false => exact itF rfl ⟨_, _, rfl, b9, C9⟩
    | true =>
      obtain ⟨C10, b10⟩ := C9.tell
      exact itT rfl ⟨_, rfl, dk, _, rfl, C9.te, _, _, rfl, rfl, _, rfl, dk, _, rfl, DPut.k (k := kTe) C9.d (big (by show 4 ≤ 1000; decide)), _, _, rfl, b9.trans b10, C10⟩
  · rintro σ H5 ⟨o2, o3, rfl, b5, C5⟩
    rw [k4.len, List.take_length] at C5
    have cH : ∀ f, ((preP p).filterMap tH).count f = cT (.home f) p := fun f => by rw [count_tH, cT_pre]
    have cA : ∀ f, ((preP p).filterMap tA).count f = cT (.ask f) p := fun f => by rw [count_tA, cT_pre]
    rw [cT_pre, cT_pre] at C5
    generalize (preP p).filterMap tH = h1s at C5 hl1 cH
    generalize (preP p).filterMap tA = a1s at C5 hl2 cA
    have sH5 : Same H H5 := same_of3 sH3 b5 hdk nhl nal
    refine ⟨_, rfl, dk, _, rfl, C5.po, _, rfl, dk, _, rfl, C5.ho, hl, h1s, rfl, SqL.of C5.h, hl1, fun ys p1 y1 y2 y3 => ?_⟩
    have s6 := same_new y3 (.lst (ys.map V.str))
    have C6 := C5.same s6
    refine ⟨_, rfl, dk, _, rfl, C6.ak, al, a1s, rfl, SqL.of C6.a, hl2, fun zs p2 z1 z2 z3 => ?_⟩
    have s7 := same_new z3 (.lst (zs.map V.str))
    have C7 := C6.same s7
    refine ⟨_, rfl, dk, _, rfl, C7.te, sz (by show 4 ≤ 100000; decide), fun p3 hp3 => ?_⟩
    have s8 := same_new hp3 (.lst [.int (cT .post p), .ref p1, .ref p2, .int (cT .tell p)])
    exact q _ p3 (sH5.trans (s6.trans (s7.trans s8))) ⟨p1, p2, ys, zs, upd_same, (s7.trans s8) _ _ upd_same, s8 _ _ upd_same, y2, z2, fun f => by rw [y1.count_eq]; exact cH f, fun f => by rw [z1.count_eq]; exact cA f⟩
end
end KB

namespace KB
open PySem L2 HT

theorem dp_strs' {K : PySem.W.Frag} {H : Hp} (xs : List Str) : DpAll K H (xs.map V.str) (xs.map PyData.str) := dp_strs xs
def pdC (po te : Int) (hs as : List Str) : PyData := .list [.int po, .list (hs.map PyData.str), .list (as.map PyData.str), .int te]
theorem shaped_C {po te : Int} {h1s a1s : List Str} (w1 : ∀ x ∈ h1s, isW x = true) (w2 : ∀ x ∈ a1s, isW x = true) : SeqAt.shaped (pdC po te h1s a1s) = true := by
  have stW : ∀ {xs : List Str}, (∀ x ∈ xs, isW x = true) → (PyData.list (xs.map PyData.str)).canLay0 = true ∧ (PyData.list (xs.map PyData.str)).depth ≤ 1 := fun {xs} h => ⟨layAll fun d hd => by
    obtain ⟨x, hx, rfl⟩ := List.mem_map.mp hd
    exact lay_str (h x hx), depth_lst (m := 0) fun d hd => by
    obtain ⟨x, hx, rfl⟩ := List.mem_map.mp hd
    exact Nat.le_refl 0⟩
  have aux : ∀ d ∈ [PyData.int po, .list (h1s.map PyData.str), .list (a1s.map PyData.str), .int te], d.canLay0 = true ∧ d.depth ≤ 1 := fun d hd => by
    simp only [List.mem_cons, List.not_mem_nil, or_false] at hd
    rcases hd with rfl | rfl | rfl | rfl
    · exact ⟨rfl, Nat.zero_le _⟩
    · exact stW w1
    · exact stW w2
    · exact ⟨rfl, Nat.zero_le _⟩
  exact shaped_of (layAll fun d hd => (aux d hd).1) (Nat.le_trans (depth_lst (m := 1) fun d hd => (aux d hd).2) (by decide))
theorem dp_C {K : PySem.W.Frag} {H : Hp} {r hp ap : Addr} {po te : Int} {h1s a1s : List Str} (h1 : H r = some (.lst [.int po, .ref hp, .ref ap, .int te])) (h2 : H hp = some (.lst (h1s.map V.str))) (h3 : H ap = some (.lst (a1s.map V.str))) : Dp K H (.ref r) (pdC po te h1s a1s) :=
  .lst (SqL.of h1) (.cons (.int _) (.cons (.lst (SqL.of h2) (dp_strs _)) (.cons (.lst (SqL.of h3) (dp_strs _)) (.cons (.int _) .nil))))
/-- both counts are the same list -/
theorem counts_eq {H : Hp} {r r' : Addr} {c c' : Kd → Nat} (h : CntV H r c) (h' : CntV H r' c') (e : ∀ κ, c' κ = c κ) (w1 : ∀ f, 0 < c (.home f) → isW f = true) (w2 : ∀ f, 0 < c (.ask f) → isW f = true) : ∃ d, (∀ K, Dp K H (.ref r) d) ∧ (∀ K, Dp K H (.ref r') d) ∧ SeqAt.shaped d = true := by
  obtain ⟨hp, ap, h1s, a1s, g1, g2, g3, g4, g5, g6, g7⟩ := h
  obtain ⟨hp', ap', h2s, a2s, k1, k2, k3, k4, k5, k6, k7⟩ := h'
  have e1 : h2s = h1s := sorted_one k4 g4 (List.perm_iff_count.mpr fun f => by rw [k6, g6, e])
  have e2 : a2s = a1s := sorted_one k5 g5 (List.perm_iff_count.mpr fun f => by rw [k7, g7, e])
  subst e1 e2
  rw [e, e] at k1
  exact ⟨pdC (c .post) (c .tell) h2s a2s, fun K => dp_C g1 g2 g3, fun K => dp_C k1 k2 k3, shaped_C (fun x hx => w1 x (by rw [← g6]; exact List.count_pos_iff.mpr hx)) (fun x hx => w2 x (by rw [← g7]; exact List.count_pos_iff.mpr hx))⟩
theorem rg_tab : ∀ k : _root_.Fin 21, 0 < k.val → Builtin.Range.small 0 (k.val : Int) 6 = true ∧ Builtin.Range.rangeSize 0 (k.val : Int) 6 = ((Builtin.Range.rangeSize 0 (k.val : Int) 6).toNat : Int) ∧ (Builtin.Range.rangeSize 0 (k.val : Int) 6).toNat ≤ 4 := by decide +kernel
theorem rg20 {J : Int} (h1 : 1 ≤ J) (h2 : J ≤ 20) : ∃ n : Nat, n ≤ 4 ∧ RgC 0 J 6 n := by
  obtain ⟨k, rfl⟩ := Int.eq_ofNat_of_zero_le (show 0 ≤ J by omega)
  obtain ⟨a, b, c⟩ := rg_tab ⟨k, by omega⟩ (by show 0 < k; omega)
  exact ⟨_, c, by decide, by decide, a, b⟩
theorem turned_few {xs : List Str} {t : Tm} {p : Pt} (h : RunB xs t p) (ha : arT t) (hc : cnt t ≤ 40) : pcnt p ≤ 161 ∧ ((preP p).filterMap tH).length < 64 ∧ ((preP p).filterMap tA).length < 64 := by
  have h1 := run_small h ha
  let L : List Int → Bool := fun ks => decide (ks ∈ ledsOf (marks t true true))
  let Z : List Int → Bool := fun ks => decide (ks ∈ lastsOf (marks t true true))
  have hm : ∀ m ∈ marks t true true, L m.1 = m.2.1 ∧ Z m.1 = m.2.2 := fun m hm => ⟨marks_leds hm, marks_lasts hm⟩
  have cP : ∀ κ, sm (fun x => ownK κ (hdT x.2) (L x.1) (Z x.1)) (plT t) = cB κ t true true := fun κ => cB_places κ t true true L Z hm
  have p1 : ((preP p).filterMap tH).Perm ((plT t).filterMap (sH Z)) := List.perm_iff_count.mpr fun f => by rw [count_tH, cT_pre, run_counts h ha, count_sH L Z f, cP]
  have p2 : ((preP p).filterMap tA).Perm ((plT t).filterMap (sA Z)) := List.perm_iff_count.mpr fun f => by rw [count_tA, cT_pre, run_counts h ha, count_sA L Z f, cP]
  have l1 := List.length_filterMap_le (sH Z) (plT t)
  have l2 := List.length_filterMap_le (sA Z) (plT t)
  rw [plT_len] at l1 l2
  have e1 := p1.length_eq
  have e2 := p2.length_eq
  omega
section
variable {P : Program} {w : World} {K : PySem.W.Frag} {mg : Str → Option Value} {base : Heap}
/-! ### law -/
def spLaw (K : PySem.W.Frag) : Sp := fun vs H Q _ => ∃ (a : Addr) (ns : List Int), vs = [.ref a] ∧ SqL K H a (ns.map V.int) ∧ ns.length ≤ 63 ∧ ∀ H', Q (.bl true) H'
abbrev slaw : Stmt := top 45
theorem sclaw : FnScope ["script", "start", "book", "last", "led", "other", "k", "name", "names", "body"] ["script"] (defScope slaw) := ⟨rfl, rfl, rfl, by decide +kernel, rfl, by decide +kernel, by decide +kernel⟩
structure Cal (P : Program) (w : World) (K : PySem.W.Frag) (mg : Str → Option Value) (base : Heap) (x : Str) (ps : List Str) (k : Nat) (sp : Sp) : Prop where
  c : ∃ f fd, FnOk P w K mg base CX0 k f fd ps sp ∧ Ref K mg x f fd ps
theorem ok_law (T : Txt K mg) (mmin : mg "min" = none) {f : Addr} {fd : FuncData} (F : Fun K "law" "law" slaw f fd)
    (c1 : Cal P w K mg base "_law_book" ["script", "start"] 30 (spBook K)) (c2 : Cal P w K mg base "last_places" ["book"] 3 spLastP) (c3 : Cal P w K mg base "led_places" ["book"] 3 spLedP) (c4 : Cal P w K mg base "turn_book" ["book"] 7 spTBook)
    (c5 : Cal P w K mg base "_law_counted" ["body", "name", "last", "led"] 42 spCounted) (c6 : Cal P w K mg base "_law_counted_turned" ["part"] 163 spCntT) : FnOk P w K mg base CX0 164 f fd ["script"] (spLaw K) := by
  obtain ⟨f1, d1, G_law_book, R_law_book⟩ := c1.c
  obtain ⟨f2, d2, Glast_places, Rlast_places⟩ := c2.c
  obtain ⟨f3, d3, Gled_places, Rled_places⟩ := c3.c
  obtain ⟨f4, d4, Gturn_book, Rturn_book⟩ := c4.c
  obtain ⟨f5, d5, G_law_counted, R_law_counted⟩ := c5.c
  obtain ⟨f6, d6, G_law_counted_turned, R_law_counted_turned⟩ := c6.c
  refine F.ok sclaw (fun vs H Q E h => ?_) (fun cdv A outer s H vs Q E hr h => ?_)
  · obtain ⟨a, ns, rfl, _⟩ := h
    rfl
  obtain ⟨sc, ns, rfl, hS, hn, q⟩ := h
  refine ⟨_, (pss_cons (ps_for PassesOwn.never rfl (pi_range3 rfl T.m_range (pa_cons pe_int (pa_cons (pe_callB (call_max2 rfl) (by rfl) T.m_max (by decide +kernel) (pa_cons pe_int (pa_cons (pe_callB (call_min2 rfl) (by rfl) mmin (by decide +kernel) (pa_cons pe_int (pa_cons (pe_callB call_len_seq (by rfl) T.m_len PySem.boot_len (pa_cons (pv 0) pa_nil)) pa_nil))) pa_nil))) (pa_cons pe_int pa_nil)))) (pg_name (i := 1) sclaw.nd rfl (Or.inl rfl)) (pss_cons (ps_set (i := 2) sclaw.nd rfl (Or.inl rfl) (pe_call G_law_book (hr.mono (by omega)) rfl R_law_book.m R_law_book.k R_law_book.b .nil pass0 (pa_cons (pv 0) (pa_cons (pv 1) pa_nil))))
    (pss_cons (ps_set (i := 3) sclaw.nd rfl (Or.inl rfl) (pe_call Glast_places (hr.mono (by omega)) rfl Rlast_places.m Rlast_places.k Rlast_places.b .nil pass0 (pa_cons (pv 2) pa_nil)))
    (pss_cons (ps_set (i := 4) sclaw.nd rfl (Or.inl rfl) (pe_call Gled_places (hr.mono (by omega)) rfl Rled_places.m Rled_places.k Rled_places.b .nil pass0 (pa_cons (pv 2) pa_nil)))
    (pss_cons (ps_set (i := 5) sclaw.nd rfl (Or.inl rfl) (pe_call Gturn_book (hr.mono (by omega)) rfl Rturn_book.m Rturn_book.k Rturn_book.b .nil pass0 (pa_cons (pv 2) pa_nil)))
    (pss_one (ps_for PassesOwn.never rfl (pi_range1 rfl T.m_range (pa_cons (pe_callB call_len_seq (by rfl) T.m_len PySem.boot_len (pa_cons (pv 2) pa_nil)) pa_nil)) (pg_name (i := 6) sclaw.nd rfl (Or.inl rfl)) (pss_cons (ps_asg (pe_ix ix_tup (pv 2) (pv 6) (fun _ _ => rfl)) (pg_tup rfl (pgs_cons (pg_name (i := 7) sclaw.nd rfl (Or.inl rfl)) (pgs_cons (pg_name (i := 8) sclaw.nd rfl (Or.inl rfl)) (pgs_cons (pg_name (i := 9) sclaw.nd rfl (Or.inl rfl)) pgs_nil)))))
    (pss_one (ps_if (pt_cmpR (op_neD hr.units) (pe_call G_law_counted (hr.mono (by omega)) rfl R_law_counted.m R_law_counted.k R_law_counted.b .nil pass0 (pa_cons (pv 9) (pa_cons (pv 7) (pa_cons (pv 3) (pa_cons (pv 4) pa_nil))))) (pe_call G_law_counted_turned hr rfl R_law_counted_turned.m R_law_counted_turned.k R_law_counted_turned.b .nil pass0 (pa_cons (pe_ix ix_tup (pe_ix ix_tup (pv 5) (pv 6) (fun _ _ => rfl)) pe_int (fun _ _ => rfl)) pa_nil)) (nomark _)) (pss_one (ps_ret pe_bl)) pss_nil))))))))))
    (pss_one (ps_ret pe_bl))), ?_⟩
  have eL : ((ns.map V.int).length : Int) = (ns.length : Int) := by rw [List.length_map]
  refine ⟨_, rfl, sc, _, rfl, .inl hS, _, _, rfl, _, _, rfl, ?_⟩
  rw [eL]
  obtain ⟨n, hn4, hrg⟩ := rg20 (J := if (if (ns.length : Int) < 20 then (ns.length : Int) else 20) > 1 then (if (ns.length : Int) < 20 then (ns.length : Int) else 20) else 1) (by split <;> (try split) <;> omega) (by split <;> (try split) <;> omega)
  refine ⟨_, _, _, n, rfl, hrg, for_rangeC (lo := 0) (c := 6) (n := n) (fun i σ H' => ∃ o1 o2 o3 o4 o5 o6 o7 o8 o9, σ = [some (.ref sc), o1, o2, o3, o4, o5, o6, o7, o8, o9] ∧ Same H H') ⟨_, _, _, _, _, _, _, _, _, rfl, Same.refl _⟩ ?_ ?_⟩
  rotate_left
  · rintro σ H1 ⟨o1, o2, o3, o4, o5, o6, o7, o8, o9, rfl, s1⟩
    exact q _
  rintro i σ H1 hi ⟨o1, o2, o3, o4, o5, o6, o7, o8, o9, rfl, s1⟩
  -- the book
  refine ⟨_, rfl, _, rfl, sc, ns, _, rfl, s1.seq hS, by omega, by omega, fun p es us H2 s2 hB hG => ?_⟩
  obtain ⟨hF, hGe, _⟩ := hG.er
  have hl6 := hG.len.2
  have h1000 : ∀ e ∈ es, cnt e.2.2 ≤ 1000 := fun e he => Nat.le_trans (hGe e he).cn (by decide)
  -- last, led, other
  refine ⟨_, rfl, p, es, us, rfl, hB, hl6, h1000, fun zl H3 zv hzl s3 h3 k3 => ?_⟩
  refine ⟨_, rfl, p, es, us, rfl, hB.tk (tk_same s3), hl6, h1000, fun dl H4 dv hdl s4 h4 k4 => ?_⟩
  refine ⟨_, rfl, p, es, us, rfl, hB.tk (tk_same (s3.trans s4)), hl6, fun e he => ⟨Nat.le_trans (hGe e he).cn (by decide), Nat.le_trans (hGe e he).n4 (by decide)⟩, fun H5 tb tv s5 h5 k5 => ?_⟩
  have hB5 := hB.tk (tk_same (s3.trans (s4.trans s5)))
  have z5 := (s4.trans s5) _ _ h3
  have kz5 := k3.imp fun _ _ z => PlS.tk (tk_same (s4.trans s5)) z
  have d5 := s5 _ _ h4
  have kd5 := k4.imp fun _ _ z => PlS.tk (tk_same s5) z
  have s25 := (s1.trans s2).trans (s3.trans (s4.trans s5))
  clear k3 k4 h3 h4 hzl hdl hB
  have hus := hB5.2.len
  refine ⟨_, rfl, p, _, rfl, .inr (SqT.of hB5.1), ?_⟩
  refine ⟨_, rfl, by omega, by rw [hus]; exact Int.lt_of_le_of_lt (b := 6) (by omega) (by decide), for_range (lo := 0) (n := _) (fun j σ H' => ∃ o6 o7 o8 o9, σ = [some (.ref sc), some (.int (0 + (i : Int) * 6)), some (.ref p), some (.ref zl), some (.ref dl), some (.ref tb), o6, o7, o8, o9] ∧ Same H5 H') ⟨_, _, _, _, rfl, Same.refl _⟩ ?_ ?_⟩
  · rintro j σ H6 hj ⟨o6, o7, o8, o9, rfl, s6⟩
    have hj' : j < us.length := by omega
    have huj : us[j]? = some us[j] := List.getElem?_eq_getElem hj'
    obtain ⟨e, he, qa, r, b, equ, g1, g2, g3⟩ := hB5.2.get huj
    obtain ⟨ve, hve, q2, r2, b2, tp, rfl, t1, t2, t3, t4⟩ := all2_at k5 he
    rw [equ] at huj
    have hee := mem_of_get he
    have hat : atI us ((0 : Int) + (j : Nat)) = some (V.ref qa) := at_of (j := j) (by omega) huj
    have hat2 : atI tv ((0 : Int) + (j : Nat)) = some (V.ref q2) := at_of (j := j) (by omega) hve
    refine ⟨_, rfl, _, rfl, p, _, _, _, rfl, rfl, SqT.of (s6 _ _ hB5.1), hat, qa, _, rfl, SqT.of (s6 _ _ g1), rfl, _, _, rfl, _, _, rfl, _, _, rfl, rfl, ?_⟩
    -- counted
    have hA6 := At.tk (tk_same s6) g3
    have hgd := hGe e hee
    refine ⟨_, rfl, _, rfl, _, rfl, _, rfl, b, zl, dl, es, e, zv, dv, rfl, hA6, s6 _ _ z5, kz5.imp fun _ _ z => z.tk (tk_same s6), s6 _ _ d5, kd5.imp fun _ _ z => z.tk (tk_same s6), hee, hG.nd, fun e he => (hGe e he).w, hgd.cn, fun H7 c1' s7 hc1 => ?_⟩
    have s67 := s6.trans s7
    have hf := turned_few t3 hA6.arT hgd.cn
    refine ⟨_, rfl, _, rfl, tb, _, _, _, rfl, rfl, SqT.of (s67 _ _ h5), hat2, q2, _, _, _, rfl, rfl, SqT.of (s67 _ _ t1), at2, b2, tp, rfl, PAt.tk (tk_same s67) t4, hf.1, hf.2.1, hf.2.2, fun H8 c2' s8 hc2 => ?_⟩
    have wd : ∀ f, (isW f = false → False) → isW f = true := fun f h => by
      cases hz : isW f with
      | true => rfl
      | false => exact (h hz).elim
    obtain ⟨d, dp1, dp2, shd⟩ := counts_eq (hc1.same s8) hc2 (fun κ => run_counts t3 hA6.arT κ)
      (fun f h => wd f fun z => by rw [no_kind z (.inl rfl) _ hgd.ok] at h; exact Nat.lt_irrefl 0 h) (fun f h => wd f fun z => by rw [no_kind z (.inr rfl) _ hgd.ok] at h; exact Nat.lt_irrefl 0 h)
    refine ⟨d, d, dp1 _, dp2 _, shd, shd, _, rfl, ?_⟩
    exact itF (by rw [eqv_self shd]; rfl) ⟨_, _, _, _, rfl, s67.trans s8⟩
  · rintro σ H6 ⟨o6, o7, o8, o9, rfl, s6⟩
    exact ⟨_, _, _, _, _, _, _, _, _, rfl, s25.trans s6⟩
end
end KB

namespace KB
open PySem L2
theorem all_mk {l : PySem.W.OpenLaw} {w : World} {K : PySem.W.Frag} {h : Heap} {mg : Str → Option Value} {fa : Addr} (X : K.In h) (G : h.Ns mainGlobals mg) (hfa : mg "law" = some (.ref fa))
    {f1 f2 f3 f4 f5 f6 f7 f8 f9 f10 f11 f12 f13 f14 f15 f16 f17 f18 f19 f20 f21 f22 f23 f24 f25 f26 f27 f28 f29 f30 f31 f32 f33 f34 m1 m2 m3 m4 m5 m6 m7 m8 m9 CN CT : Addr}
    {od1 an1 od2 an2 od3 an3 od4 an4 od5 an5 od6 an6 od7 an7 od8 an8 od9 an9 od10 an10 od11 an11 od12 an12 od13 an13 od14 an14 od15 an15 od16 an16 od17 an17 od18 an18 od19 an19 od20 an20 od21 an21 od22 an22 od23 an23 od24 an24 od25 an25 od26 an26 od27 an27 od28 an28 od29 an29 od30 an30 od31 an31 od32 an32 od33 an33 od34 an34 mod1 man1 mod2 man2 mod3 man3 mod4 man4 mod5 man5 mod6 man6 mod7 man7 mod8 man8 mod9 man9 : Option Addr}
    {sl1 sl2 sl3 sl4 sl5 sl6 sl7 sl8 sl9 sl10 sl11 sl12 sl13 sl14 sl15 sl16 sl17 sl18 sl19 sl20 sl21 sl22 sl23 sl24 sl25 sl26 sl27 sl28 sl29 sl30 sl31 sl32 sl33 sl34 msl1 msl2 msl3 msl4 msl5 msl6 msl7 msl8 msl9 : Array (Option Value)}
    {oc1 kV1 dc1 pm1 cd1 ct1 oc2 kV2 dc2 pm2 cd2 ct2 oc3 kV3 dc3 pm3 cd3 ct3 oc4 kV4 dc4 pm4 cd4 ct4 oc5 kV5 dc5 pm5 cd5 ct5 oc6 kV6 dc6 pm6 cd6 ct6 oc7 kV7 dc7 pm7 cd7 ct7 oc8 kV8 dc8 pm8 cd8 ct8 oc9 kV9 dc9 pm9 cd9 ct9 oc10 kV10 dc10 pm10 cd10 ct10 oc11 kV11 dc11 pm11 cd11 ct11 oc12 kV12 dc12 pm12 cd12 ct12 oc13 kV13 dc13 pm13 cd13 ct13 oc14 kV14 dc14 pm14 cd14 ct14 oc15 kV15 dc15 pm15 cd15 ct15 oc16 kV16 dc16 pm16 cd16 ct16 oc17 kV17 dc17 pm17 cd17 ct17 oc18 kV18 dc18 pm18 cd18 ct18 oc19 kV19 dc19 pm19 cd19 ct19 oc20 kV20 dc20 pm20 cd20 ct20 oc21 kV21 dc21 pm21 cd21 ct21 oc22 kV22 dc22 pm22 cd22 ct22 oc23 kV23 dc23 pm23 cd23 ct23 oc24 kV24 dc24 pm24 cd24 ct24 oc25 kV25 dc25 pm25 cd25 ct25 oc26 kV26 dc26 pm26 cd26 ct26 oc27 kV27 dc27 pm27 cd27 ct27 oc28 kV28 dc28 pm28 cd28 ct28 oc29 kV29 dc29 pm29 cd29 ct29 oc30 kV30 dc30 pm30 cd30 ct30 oc31 kV31 dc31 pm31 cd31 ct31 oc32 kV32 dc32 pm32 cd32 ct32 oc33 kV33 dc33 pm33 cd33 ct33 oc34 kV34 dc34 pm34 cd34 ct34 moc1 mkV1 mdc1 mpm1 mcd1 mct1 moc2 mkV2 mdc2 mpm2 mcd2 mct2 moc3 mkV3 mdc3 mpm3 mcd3 mct3 moc4 mkV4 mdc4 mpm4 mcd4 mct4 moc5 mkV5 mdc5 mpm5 mcd5 mct5 moc6 mkV6 mdc6 mpm6 mcd6 mct6 moc7 mkV7 mdc7 mpm7 mcd7 mct7 moc8 mkV8 mdc8 mpm8 mcd8 mct8 moc9 mkV9 mdc9 mpm9 mcd9 mct9 : Value}
    (a1 : PySem.W.nsIn K mainGlobals "met" = some (some (.ref f1)))
    (l1 : K.lookup f1 = some ⟨oc1, od1, .func (PySem.W.fnOf "met" "met" (defArgs smet) (defBody smet) (defScope smet) .none kV1 dc1 pm1 an1 cd1 ct1), sl1⟩)
    (c1 : PySem.W.codeIn K cd1 "met" = true)
    (k1 : PySem.W.keepIn K (.ref f1) = true)
    (a2 : PySem.W.nsIn K mainGlobals "last_taken" = some (some (.ref f2)))
    (l2 : K.lookup f2 = some ⟨oc2, od2, .func (PySem.W.fnOf "last_taken" "last_taken" (defArgs slast_taken) (defBody slast_taken) (defScope slast_taken) .none kV2 dc2 pm2 an2 cd2 ct2), sl2⟩)
    (c2 : PySem.W.codeIn K cd2 "last_taken" = true)
    (k2 : PySem.W.keepIn K (.ref f2) = true)
    (a3 : PySem.W.nsIn K mainGlobals "parts_of" = some (some (.ref f3)))
    (l3 : K.lookup f3 = some ⟨oc3, od3, .func (PySem.W.fnOf "parts_of" "parts_of" (defArgs sparts_of) (defBody sparts_of) (defScope sparts_of) .none kV3 dc3 pm3 an3 cd3 ct3), sl3⟩)
    (c3 : PySem.W.codeIn K cd3 "parts_of" = true)
    (k3 : PySem.W.keepIn K (.ref f3) = true)
    (a4 : PySem.W.nsIn K mainGlobals "words_in" = some (some (.ref f4)))
    (l4 : K.lookup f4 = some ⟨oc4, od4, .func (PySem.W.fnOf "words_in" "words_in" (defArgs swords_in) (defBody swords_in) (defScope swords_in) .none kV4 dc4 pm4 an4 cd4 ct4), sl4⟩)
    (c4 : PySem.W.codeIn K cd4 "words_in" = true)
    (k4 : PySem.W.keepIn K (.ref f4) = true)
    (a5 : PySem.W.nsIn K mainGlobals "word_of" = some (some (.ref f5)))
    (l5 : K.lookup f5 = some ⟨oc5, od5, .func (PySem.W.fnOf "word_of" "word_of" (defArgs sword_of) (defBody sword_of) (defScope sword_of) .none kV5 dc5 pm5 an5 cd5 ct5), sl5⟩)
    (c5 : PySem.W.codeIn K cd5 "word_of" = true)
    (k5 : PySem.W.keepIn K (.ref f5) = true)
    (a6 : PySem.W.nsIn K mainGlobals "turn_book" = some (some (.ref f6)))
    (l6 : K.lookup f6 = some ⟨oc6, od6, .func (PySem.W.fnOf "turn_book" "turn_book" (defArgs sturn_book) (defBody sturn_book) (defScope sturn_book) .none kV6 dc6 pm6 an6 cd6 ct6), sl6⟩)
    (c6 : PySem.W.codeIn K cd6 "turn_book" = true)
    (k6 : PySem.W.keepIn K (.ref f6) = true)
    (a7 : PySem.W.nsIn K mainGlobals "turned_body" = some (some (.ref f7)))
    (l7 : K.lookup f7 = some ⟨oc7, od7, .func (PySem.W.fnOf "turned_body" "turned_body" (defArgs sturned_body) (defBody sturned_body) (defScope sturned_body) .none kV7 dc7 pm7 an7 cd7 ct7), sl7⟩)
    (c7 : PySem.W.codeIn K cd7 "turned_body" = true)
    (k7 : PySem.W.keepIn K (.ref f7) = true)
    (a8 : PySem.W.nsIn K mainGlobals "jobs_to_end" = some (some (.ref f8)))
    (l8 : K.lookup f8 = some ⟨oc8, od8, .func (PySem.W.fnOf "jobs_to_end" "jobs_to_end" (defArgs sjobs_to_end) (defBody sjobs_to_end) (defScope sjobs_to_end) .none kV8 dc8 pm8 an8 cd8 ct8), sl8⟩)
    (c8 : PySem.W.codeIn K cd8 "jobs_to_end" = true)
    (k8 : PySem.W.keepIn K (.ref f8) = true)
    (a9 : PySem.W.nsIn K mainGlobals "put_ahead" = some (some (.ref f9)))
    (l9 : K.lookup f9 = some ⟨oc9, od9, .func (PySem.W.fnOf "put_ahead" "put_ahead" (defArgs sput_ahead) (defBody sput_ahead) (defScope sput_ahead) .none kV9 dc9 pm9 an9 cd9 ct9), sl9⟩)
    (c9 : PySem.W.codeIn K cd9 "put_ahead" = true)
    (k9 : PySem.W.keepIn K (.ref f9) = true)
    (a10 : PySem.W.nsIn K mainGlobals "last_places" = some (some (.ref f10)))
    (l10 : K.lookup f10 = some ⟨oc10, od10, .func (PySem.W.fnOf "last_places" "last_places" (defArgs slast_places) (defBody slast_places) (defScope slast_places) .none kV10 dc10 pm10 an10 cd10 ct10), sl10⟩)
    (c10 : PySem.W.codeIn K cd10 "last_places" = true)
    (k10 : PySem.W.keepIn K (.ref f10) = true)
    (a11 : PySem.W.nsIn K mainGlobals "led_places" = some (some (.ref f11)))
    (l11 : K.lookup f11 = some ⟨oc11, od11, .func (PySem.W.fnOf "led_places" "led_places" (defArgs sled_places) (defBody sled_places) (defScope sled_places) .none kV11 dc11 pm11 an11 cd11 ct11), sl11⟩)
    (c11 : PySem.W.codeIn K cd11 "led_places" = true)
    (k11 : PySem.W.keepIn K (.ref f11) = true)
    (a12 : PySem.W.nsIn K mainGlobals "marked_places" = some (some (.ref f12)))
    (l12 : K.lookup f12 = some ⟨oc12, od12, .func (PySem.W.fnOf "marked_places" "marked_places" (defArgs smarked_places) (defBody smarked_places) (defScope smarked_places) .none kV12 dc12 pm12 an12 cd12 ct12), sl12⟩)
    (c12 : PySem.W.codeIn K cd12 "marked_places" = true)
    (k12 : PySem.W.keepIn K (.ref f12) = true)
    (a13 : PySem.W.nsIn K mainGlobals "marks_of_part" = some (some (.ref f13)))
    (l13 : K.lookup f13 = some ⟨oc13, od13, .func (PySem.W.fnOf "marks_of_part" "marks_of_part" (defArgs smarks_of_part) (defBody smarks_of_part) (defScope smarks_of_part) .none kV13 dc13 pm13 an13 cd13 ct13), sl13⟩)
    (c13 : PySem.W.codeIn K cd13 "marks_of_part" = true)
    (k13 : PySem.W.keepIn K (.ref f13) = true)
    (a14 : PySem.W.nsIn K mainGlobals "_law_cell_at" = some (some (.ref f14)))
    (l14 : K.lookup f14 = some ⟨oc14, od14, .func (PySem.W.fnOf "_law_cell_at" "_law_cell_at" (defArgs s_law_cell_at) (defBody s_law_cell_at) (defScope s_law_cell_at) .none kV14 dc14 pm14 an14 cd14 ct14), sl14⟩)
    (c14 : PySem.W.codeIn K cd14 "_law_cell_at" = true)
    (k14 : PySem.W.keepIn K (.ref f14) = true)
    (a15 : PySem.W.nsIn K mainGlobals "_law_tape" = some (some (.ref f15)))
    (l15 : K.lookup f15 = some ⟨oc15, od15, .func (PySem.W.fnOf "_law_tape" "_law_tape" (defArgs s_law_tape) (defBody s_law_tape) (defScope s_law_tape) .none kV15 dc15 pm15 an15 cd15 ct15), sl15⟩)
    (c15 : PySem.W.codeIn K cd15 "_law_tape" = true)
    (k15 : PySem.W.keepIn K (.ref f15) = true)
    (a16 : PySem.W.nsIn K mainGlobals "_law_digit" = some (some (.ref f16)))
    (l16 : K.lookup f16 = some ⟨oc16, od16, .func (PySem.W.fnOf "_law_digit" "_law_digit" (defArgs s_law_digit) (defBody s_law_digit) (defScope s_law_digit) .none kV16 dc16 pm16 an16 cd16 ct16), sl16⟩)
    (c16 : PySem.W.codeIn K cd16 "_law_digit" = true)
    (k16 : PySem.W.keepIn K (.ref f16) = true)
    (a17 : PySem.W.nsIn K mainGlobals "_law_words" = some (some (.ref f17)))
    (l17 : K.lookup f17 = some ⟨oc17, od17, .func (PySem.W.fnOf "_law_words" "_law_words" (defArgs s_law_words) (defBody s_law_words) (defScope s_law_words) .none kV17 dc17 pm17 an17 cd17 ct17), sl17⟩)
    (c17 : PySem.W.codeIn K cd17 "_law_words" = true)
    (k17 : PySem.W.keepIn K (.ref f17) = true)
    (a18 : PySem.W.nsIn K mainGlobals "_law_number" = some (some (.ref f18)))
    (l18 : K.lookup f18 = some ⟨oc18, od18, .func (PySem.W.fnOf "_law_number" "_law_number" (defArgs s_law_number) (defBody s_law_number) (defScope s_law_number) .none kV18 dc18 pm18 an18 cd18 ct18), sl18⟩)
    (c18 : PySem.W.codeIn K cd18 "_law_number" = true)
    (k18 : PySem.W.keepIn K (.ref f18) = true)
    (a19 : PySem.W.nsIn K mainGlobals "_law_leaf" = some (some (.ref f19)))
    (l19 : K.lookup f19 = some ⟨oc19, od19, .func (PySem.W.fnOf "_law_leaf" "_law_leaf" (defArgs s_law_leaf) (defBody s_law_leaf) (defScope s_law_leaf) .none kV19 dc19 pm19 an19 cd19 ct19), sl19⟩)
    (c19 : PySem.W.codeIn K cd19 "_law_leaf" = true)
    (k19 : PySem.W.keepIn K (.ref f19) = true)
    (a20 : PySem.W.nsIn K mainGlobals "_law_shares" = some (some (.ref f20)))
    (l20 : K.lookup f20 = some ⟨oc20, od20, .func (PySem.W.fnOf "_law_shares" "_law_shares" (defArgs s_law_shares) (defBody s_law_shares) (defScope s_law_shares) .none kV20 dc20 pm20 an20 cd20 ct20), sl20⟩)
    (c20 : PySem.W.codeIn K cd20 "_law_shares" = true)
    (k20 : PySem.W.keepIn K (.ref f20) = true)
    (a21 : PySem.W.nsIn K mainGlobals "_law_less_one" = some (some (.ref f21)))
    (l21 : K.lookup f21 = some ⟨oc21, od21, .func (PySem.W.fnOf "_law_less_one" "_law_less_one" (defArgs s_law_less_one) (defBody s_law_less_one) (defScope s_law_less_one) .none kV21 dc21 pm21 an21 cd21 ct21), sl21⟩)
    (c21 : PySem.W.codeIn K cd21 "_law_less_one" = true)
    (k21 : PySem.W.keepIn K (.ref f21) = true)
    (a22 : PySem.W.nsIn K mainGlobals "_law_ask" = some (some (.ref f22)))
    (l22 : K.lookup f22 = some ⟨oc22, od22, .func (PySem.W.fnOf "_law_ask" "_law_ask" (defArgs s_law_ask) (defBody s_law_ask) (defScope s_law_ask) .none kV22 dc22 pm22 an22 cd22 ct22), sl22⟩)
    (c22 : PySem.W.codeIn K cd22 "_law_ask" = true)
    (k22 : PySem.W.keepIn K (.ref f22) = true)
    (a23 : PySem.W.nsIn K mainGlobals "_law_term" = some (some (.ref f23)))
    (l23 : K.lookup f23 = some ⟨oc23, od23, .func (PySem.W.fnOf "_law_term" "_law_term" (defArgs s_law_term) (defBody s_law_term) (defScope s_law_term) .none kV23 dc23 pm23 an23 cd23 ct23), sl23⟩)
    (c23 : PySem.W.codeIn K cd23 "_law_term" = true)
    (k23 : PySem.W.keepIn K (.ref f23) = true)
    (a24 : PySem.W.nsIn K mainGlobals "_law_body" = some (some (.ref f24)))
    (l24 : K.lookup f24 = some ⟨oc24, od24, .func (PySem.W.fnOf "_law_body" "_law_body" (defArgs s_law_body) (defBody s_law_body) (defScope s_law_body) .none kV24 dc24 pm24 an24 cd24 ct24), sl24⟩)
    (c24 : PySem.W.codeIn K cd24 "_law_body" = true)
    (k24 : PySem.W.keepIn K (.ref f24) = true)
    (a25 : PySem.W.nsIn K mainGlobals "_law_book" = some (some (.ref f25)))
    (l25 : K.lookup f25 = some ⟨oc25, od25, .func (PySem.W.fnOf "_law_book" "_law_book" (defArgs s_law_book) (defBody s_law_book) (defScope s_law_book) .none kV25 dc25 pm25 an25 cd25 ct25), sl25⟩)
    (c25 : PySem.W.codeIn K cd25 "_law_book" = true)
    (k25 : PySem.W.keepIn K (.ref f25) = true)
    (a26 : PySem.W.nsIn K mainGlobals "_law_parts" = some (some (.ref f26)))
    (l26 : K.lookup f26 = some ⟨oc26, od26, .func (PySem.W.fnOf "_law_parts" "_law_parts" (defArgs s_law_parts) (defBody s_law_parts) (defScope s_law_parts) .none kV26 dc26 pm26 an26 cd26 ct26), sl26⟩)
    (c26 : PySem.W.codeIn K cd26 "_law_parts" = true)
    (k26 : PySem.W.keepIn K (.ref f26) = true)
    (a27 : PySem.W.nsIn K mainGlobals "_law_places" = some (some (.ref f27)))
    (l27 : K.lookup f27 = some ⟨oc27, od27, .func (PySem.W.fnOf "_law_places" "_law_places" (defArgs s_law_places) (defBody s_law_places) (defScope s_law_places) .none kV27 dc27 pm27 an27 cd27 ct27), sl27⟩)
    (c27 : PySem.W.codeIn K cd27 "_law_places" = true)
    (k27 : PySem.W.keepIn K (.ref f27) = true)
    (a28 : PySem.W.nsIn K mainGlobals "_law_at" = some (some (.ref f28)))
    (l28 : K.lookup f28 = some ⟨oc28, od28, .func (PySem.W.fnOf "_law_at" "_law_at" (defArgs s_law_at) (defBody s_law_at) (defScope s_law_at) .none kV28 dc28 pm28 an28 cd28 ct28), sl28⟩)
    (c28 : PySem.W.codeIn K cd28 "_law_at" = true)
    (k28 : PySem.W.keepIn K (.ref f28) = true)
    (a29 : PySem.W.nsIn K mainGlobals "_law_inner" = some (some (.ref f29)))
    (l29 : K.lookup f29 = some ⟨oc29, od29, .func (PySem.W.fnOf "_law_inner" "_law_inner" (defArgs s_law_inner) (defBody s_law_inner) (defScope s_law_inner) .none kV29 dc29 pm29 an29 cd29 ct29), sl29⟩)
    (c29 : PySem.W.codeIn K cd29 "_law_inner" = true)
    (k29 : PySem.W.keepIn K (.ref f29) = true)
    (a30 : PySem.W.nsIn K mainGlobals "_law_simples" = some (some (.ref f30)))
    (l30 : K.lookup f30 = some ⟨oc30, od30, .func (PySem.W.fnOf "_law_simples" "_law_simples" (defArgs s_law_simples) (defBody s_law_simples) (defScope s_law_simples) .none kV30 dc30 pm30 an30 cd30 ct30), sl30⟩)
    (c30 : PySem.W.codeIn K cd30 "_law_simples" = true)
    (k30 : PySem.W.keepIn K (.ref f30) = true)
    (a31 : PySem.W.nsIn K mainGlobals "_law_tplaces" = some (some (.ref f31)))
    (l31 : K.lookup f31 = some ⟨oc31, od31, .func (PySem.W.fnOf "_law_tplaces" "_law_tplaces" (defArgs s_law_tplaces) (defBody s_law_tplaces) (defScope s_law_tplaces) .none kV31 dc31 pm31 an31 cd31 ct31), sl31⟩)
    (c31 : PySem.W.codeIn K cd31 "_law_tplaces" = true)
    (k31 : PySem.W.keepIn K (.ref f31) = true)
    (a32 : PySem.W.nsIn K mainGlobals "_law_counted" = some (some (.ref f32)))
    (l32 : K.lookup f32 = some ⟨oc32, od32, .func (PySem.W.fnOf "_law_counted" "_law_counted" (defArgs s_law_counted) (defBody s_law_counted) (defScope s_law_counted) .none kV32 dc32 pm32 an32 cd32 ct32), sl32⟩)
    (c32 : PySem.W.codeIn K cd32 "_law_counted" = true)
    (k32 : PySem.W.keepIn K (.ref f32) = true)
    (a33 : PySem.W.nsIn K mainGlobals "_law_counted_turned" = some (some (.ref f33)))
    (l33 : K.lookup f33 = some ⟨oc33, od33, .func (PySem.W.fnOf "_law_counted_turned" "_law_counted_turned" (defArgs s_law_counted_turned) (defBody s_law_counted_turned) (defScope s_law_counted_turned) .none kV33 dc33 pm33 an33 cd33 ct33), sl33⟩)
    (c33 : PySem.W.codeIn K cd33 "_law_counted_turned" = true)
    (k33 : PySem.W.keepIn K (.ref f33) = true)
    (a34 : PySem.W.nsIn K mainGlobals "law" = some (some (.ref f34)))
    (l34 : K.lookup f34 = some ⟨oc34, od34, .func (PySem.W.fnOf "law" "law" (defArgs slaw) (defBody slaw) (defScope slaw) .none kV34 dc34 pm34 an34 cd34 ct34), sl34⟩)
    (c34 : PySem.W.codeIn K cd34 "law" = true)
    (k34 : PySem.W.keepIn K (.ref f34) = true)
    (gCN : PySem.W.nsIn K mainGlobals "NewWords" = some (some (.ref CN)))
    (gCT : PySem.W.nsIn K mainGlobals "Turning" = some (some (.ref CT)))
    (ma1 : PySem.W.findIn K (.ref CN) "__init__" = some (some (.ref m1)))
    (mi1 : PySem.W.isFn K (.ref m1) = true)
    (ml1 : K.lookup m1 = some ⟨moc1, mod1, .func (PySem.W.fnOf "__init__" "NewWords.__init__" (defArgs sNew0) (defBody sNew0) (defScope sNew0) .none mkV1 mdc1 mpm1 man1 mcd1 mct1), msl1⟩)
    (mc1 : PySem.W.codeIn K mcd1 "NewWords.__init__" = true)
    (mk1 : PySem.W.keepIn K (.ref m1) = true)
    (ma2 : PySem.W.findIn K (.ref CN) "one_more" = some (some (.ref m2)))
    (mi2 : PySem.W.isFn K (.ref m2) = true)
    (ml2 : K.lookup m2 = some ⟨moc2, mod2, .func (PySem.W.fnOf "one_more" "NewWords.one_more" (defArgs sMore) (defBody sMore) (defScope sMore) .none mkV2 mdc2 mpm2 man2 mcd2 mct2), msl2⟩)
    (mc2 : PySem.W.codeIn K mcd2 "NewWords.one_more" = true)
    (mk2 : PySem.W.keepIn K (.ref m2) = true)
    (ma3 : PySem.W.findIn K (.ref CT) "__init__" = some (some (.ref m3)))
    (mi3 : PySem.W.isFn K (.ref m3) = true)
    (ml3 : K.lookup m3 = some ⟨moc3, mod3, .func (PySem.W.fnOf "__init__" "Turning.__init__" (defArgs sT0) (defBody sT0) (defScope sT0) .none mkV3 mdc3 mpm3 man3 mcd3 mct3), msl3⟩)
    (mc3 : PySem.W.codeIn K mcd3 "Turning.__init__" = true)
    (mk3 : PySem.W.keepIn K (.ref m3) = true)
    (ma4 : PySem.W.findIn K (.ref CT) "go" = some (some (.ref m4)))
    (mi4 : PySem.W.isFn K (.ref m4) = true)
    (ml4 : K.lookup m4 = some ⟨moc4, mod4, .func (PySem.W.fnOf "go" "Turning.go" (defArgs sGo) (defBody sGo) (defScope sGo) .none mkV4 mdc4 mpm4 man4 mcd4 mct4), msl4⟩)
    (mc4 : PySem.W.codeIn K mcd4 "Turning.go" = true)
    (mk4 : PySem.W.keepIn K (.ref m4) = true)
    (ma5 : PySem.W.findIn K (.ref CT) "jobs_of" = some (some (.ref m5)))
    (mi5 : PySem.W.isFn K (.ref m5) = true)
    (ml5 : K.lookup m5 = some ⟨moc5, mod5, .func (PySem.W.fnOf "jobs_of" "Turning.jobs_of" (defArgs sJof) (defBody sJof) (defScope sJof) .none mkV5 mdc5 mpm5 man5 mcd5 mct5), msl5⟩)
    (mc5 : PySem.W.codeIn K mcd5 "Turning.jobs_of" = true)
    (mk5 : PySem.W.keepIn K (.ref m5) = true)
    (ma6 : PySem.W.findIn K (.ref CT) "jobs_done" = some (some (.ref m6)))
    (mi6 : PySem.W.isFn K (.ref m6) = true)
    (ml6 : K.lookup m6 = some ⟨moc6, mod6, .func (PySem.W.fnOf "jobs_done" "Turning.jobs_done" (defArgs sJdone) (defBody sJdone) (defScope sJdone) .none mkV6 mdc6 mpm6 man6 mcd6 mct6), msl6⟩)
    (mc6 : PySem.W.codeIn K mcd6 "Turning.jobs_done" = true)
    (mk6 : PySem.W.keepIn K (.ref m6) = true)
    (ma7 : PySem.W.findIn K (.ref CT) "jobs_put" = some (some (.ref m7)))
    (mi7 : PySem.W.isFn K (.ref m7) = true)
    (ml7 : K.lookup m7 = some ⟨moc7, mod7, .func (PySem.W.fnOf "jobs_put" "Turning.jobs_put" (defArgs sJput) (defBody sJput) (defScope sJput) .none mkV7 mdc7 mpm7 man7 mcd7 mct7), msl7⟩)
    (mc7 : PySem.W.codeIn K mcd7 "Turning.jobs_put" = true)
    (mk7 : PySem.W.keepIn K (.ref m7) = true)
    (ma8 : PySem.W.findIn K (.ref CT) "jobs_simple" = some (some (.ref m8)))
    (mi8 : PySem.W.isFn K (.ref m8) = true)
    (ml8 : K.lookup m8 = some ⟨moc8, mod8, .func (PySem.W.fnOf "jobs_simple" "Turning.jobs_simple" (defArgs sJsimp) (defBody sJsimp) (defScope sJsimp) .none mkV8 mdc8 mpm8 man8 mcd8 mct8), msl8⟩)
    (mc8 : PySem.W.codeIn K mcd8 "Turning.jobs_simple" = true)
    (mk8 : PySem.W.keepIn K (.ref m8) = true)
    (ma9 : PySem.W.findIn K (.ref CT) "finish" = some (some (.ref m9)))
    (mi9 : PySem.W.isFn K (.ref m9) = true)
    (ml9 : K.lookup m9 = some ⟨moc9, mod9, .func (PySem.W.fnOf "finish" "Turning.finish" (defArgs sFin) (defBody sFin) (defScope sFin) .none mkV9 mdc9 mpm9 man9 mcd9 mct9), msl9⟩)
    (mc9 : PySem.W.codeIn K mcd9 "Turning.finish" = true)
    (mk9 : PySem.W.keepIn K (.ref m9) = true)
    (pgCN : PySem.W.plainGet K CN Str.empty = true)
    (hdCN : PySem.W.hasDictIn K CN = true)
    (poCN : PySem.W.plainOver K CN = true)
    (saCN : PySem.W.findIn K (.ref CN) "__setattr__" = some (some (.builtin "object.__setattr__")))
    (msCN : PySem.W.makesIn K CN = true)
    (kcCN : PySem.W.keepIn K (.ref CN) = true)
    (nCNtaken : PySem.W.findIn K (.ref CN) "taken" = some none)
    (nCNmany : PySem.W.findIn K (.ref CN) "many" = some none)
    (pgCT : PySem.W.plainGet K CT Str.empty = true)
    (hdCT : PySem.W.hasDictIn K CT = true)
    (poCT : PySem.W.plainOver K CT = true)
    (saCT : PySem.W.findIn K (.ref CT) "__setattr__" = some (some (.builtin "object.__setattr__")))
    (msCT : PySem.W.makesIn K CT = true)
    (kcCT : PySem.W.keepIn K (.ref CT) = true)
    (nCTnew_words : PySem.W.findIn K (.ref CT) "new_words" = some none)
    (nCTjobs : PySem.W.findIn K (.ref CT) "jobs" = some none)
    (nCTrows : PySem.W.findIn K (.ref CT) "rows" = some none)
    (nCTgot : PySem.W.findIn K (.ref CT) "got" = some none)
    (z_len : PySem.W.nsIn K mainGlobals "len" = some none)
    (z_isinstance : PySem.W.nsIn K mainGlobals "isinstance" = some none)
    (z_int : PySem.W.nsIn K mainGlobals "int" = some none)
    (z_tuple : PySem.W.nsIn K mainGlobals "tuple" = some none)
    (z_list : PySem.W.nsIn K mainGlobals "list" = some none)
    (z_str : PySem.W.nsIn K mainGlobals "str" = some none)
    (z_bool : PySem.W.nsIn K mainGlobals "bool" = some none)
    (z_max : PySem.W.nsIn K mainGlobals "max" = some none)
    (z_all : PySem.W.nsIn K mainGlobals "all" = some none)
    (z_dict : PySem.W.nsIn K mainGlobals "dict" = some none)
    (z_range : PySem.W.nsIn K mainGlobals "range" = some none)
    (z_enumerate : PySem.W.nsIn K mainGlobals "enumerate" = some none)
    (z_reversed : PySem.W.nsIn K mainGlobals "reversed" = some none)
    (z_min : PySem.W.nsIn K mainGlobals "min" = some none)
    (z_sorted : PySem.W.nsIn K mainGlobals "sorted" = some none)
    {tSIGNS : Tok}
    (qSIGNS : PySem.W.nsIn K mainGlobals "SIGNS" = some (some (.str lettersS tSIGNS)))
    {tBEHIND : Tok}
    (qBEHIND : PySem.W.nsIn K mainGlobals "BEHIND" = some (some (.str "q" tBEHIND)))
    {tHOME : Tok}
    (qHOME : PySem.W.nsIn K mainGlobals "HOME" = some (some (.str "home" tHOME)))
    : ∃ fd : FuncData, (∀ (s : Shared) (v : Value), BindsTo s fd ⟨[v], []⟩ [("script", v)]) ∧ ∀ base : Heap, K.In base → base.Ns mainGlobals mg → FnOk l.prog w K mg base CX0 164 fa fd ["script"] (spLaw K) := by
  have e := hfa.symm.trans (PySem.W.mg_of X G a34)
  cases e
  have T : Txt K mg := ⟨PySem.W.mg_none_of X G z_len, PySem.W.mg_none_of X G z_isinstance, PySem.W.mg_none_of X G z_int, PySem.W.mg_none_of X G z_tuple, PySem.W.mg_none_of X G z_list, PySem.W.mg_none_of X G z_str, PySem.W.mg_none_of X G z_bool, PySem.W.mg_none_of X G z_max, PySem.W.mg_none_of X G z_all, PySem.W.mg_none_of X G z_dict, PySem.W.mg_none_of X G z_range, PySem.W.mg_none_of X G z_enumerate, PySem.W.mg_none_of X G z_reversed⟩
  have XN : TxN K mg CN CT := ⟨⟨pgCN, hdCN, poCN, saCN⟩, nCNtaken, nCNmany, ⟨pgCT, hdCT, poCT, saCT⟩, nCTnew_words, nCTjobs, nCTrows, nCTgot, PySem.W.mg_of X G gCN, PySem.W.mg_of X G gCT⟩
  have SX : TxS K mg := ⟨⟨_, PySem.W.mg_of X G qSIGNS⟩, ⟨_, PySem.W.mg_of X G qBEHIND⟩, ⟨_, PySem.W.mg_of X G qHOME⟩⟩
  have F1 := fun_mk (st := smet) l1 c1 k1
  have R1 : Ref K mg "met" f1 _ ["body", "parts"] := ⟨PySem.W.mg_of X G a1, k1, F1.binds (ps := ["body", "parts"]) fun _ _ _ _ _ _ us hl => match us, hl with | [_, _], _ => rfl⟩
  have F2 := fun_mk (st := slast_taken) l2 c2 k2
  have R2 : Ref K mg "last_taken" f2 _ ["got", "many"] := ⟨PySem.W.mg_of X G a2, k2, F2.binds (ps := ["got", "many"]) fun _ _ _ _ _ _ us hl => match us, hl with | [_, _], _ => rfl⟩
  have F3 := fun_mk (st := sparts_of) l3 c3 k3
  have R3 : Ref K mg "parts_of" f3 _ ["term"] := ⟨PySem.W.mg_of X G a3, k3, F3.binds (ps := ["term"]) fun _ _ _ _ _ _ us hl => match us, hl with | [_], _ => rfl⟩
  have F4 := fun_mk (st := swords_in) l4 c4 k4
  have R4 : Ref K mg "words_in" f4 _ ["names", "body"] := ⟨PySem.W.mg_of X G a4, k4, F4.binds (ps := ["names", "body"]) fun _ _ _ _ _ _ us hl => match us, hl with | [_, _], _ => rfl⟩
  have F5 := fun_mk (st := sword_of) l5 c5 k5
  have R5 : Ref K mg "word_of" f5 _ ["k"] := ⟨PySem.W.mg_of X G a5, k5, F5.binds (ps := ["k"]) fun _ _ _ _ _ _ us hl => match us, hl with | [_], _ => rfl⟩
  have F6 := fun_mk (st := sturn_book) l6 c6 k6
  have R6 : Ref K mg "turn_book" f6 _ ["book"] := ⟨PySem.W.mg_of X G a6, k6, F6.binds (ps := ["book"]) fun _ _ _ _ _ _ us hl => match us, hl with | [_], _ => rfl⟩
  have F7 := fun_mk (st := sturned_body) l7 c7 k7
  have R7 : Ref K mg "turned_body" f7 _ ["names", "body"] := ⟨PySem.W.mg_of X G a7, k7, F7.binds (ps := ["names", "body"]) fun _ _ _ _ _ _ us hl => match us, hl with | [_, _], _ => rfl⟩
  have F8 := fun_mk (st := sjobs_to_end) l8 c8 k8
  have R8 : Ref K mg "jobs_to_end" f8 _ ["term", "j"] := ⟨PySem.W.mg_of X G a8, k8, F8.binds (ps := ["term", "j"]) fun _ _ _ _ _ _ us hl => match us, hl with | [_, _], _ => rfl⟩
  have F9 := fun_mk (st := sput_ahead) l9 c9 k9
  have R9 : Ref K mg "put_ahead" f9 _ ["leads", "part"] := ⟨PySem.W.mg_of X G a9, k9, F9.binds (ps := ["leads", "part"]) fun _ _ _ _ _ _ us hl => match us, hl with | [_, _], _ => rfl⟩
  have F10 := fun_mk (st := slast_places) l10 c10 k10
  have R10 : Ref K mg "last_places" f10 _ ["book"] := ⟨PySem.W.mg_of X G a10, k10, F10.binds (ps := ["book"]) fun _ _ _ _ _ _ us hl => match us, hl with | [_], _ => rfl⟩
  have F11 := fun_mk (st := sled_places) l11 c11 k11
  have R11 : Ref K mg "led_places" f11 _ ["book"] := ⟨PySem.W.mg_of X G a11, k11, F11.binds (ps := ["book"]) fun _ _ _ _ _ _ us hl => match us, hl with | [_], _ => rfl⟩
  have F12 := fun_mk (st := smarked_places) l12 c12 k12
  have R12 : Ref K mg "marked_places" f12 _ ["book"] := ⟨PySem.W.mg_of X G a12, k12, F12.binds (ps := ["book"]) fun _ _ _ _ _ _ us hl => match us, hl with | [_], _ => rfl⟩
  have F13 := fun_mk (st := smarks_of_part) l13 c13 k13
  have R13 : Ref K mg "marks_of_part" f13 _ ["head", "k", "is_led", "is_last"] := ⟨PySem.W.mg_of X G a13, k13, F13.binds (ps := ["head", "k", "is_led", "is_last"]) fun _ _ _ _ _ _ us hl => match us, hl with | [_, _, _, _], _ => rfl⟩
  have F14 := fun_mk (st := s_law_cell_at) l14 c14 k14
  have R14 : Ref K mg "_law_cell_at" f14 _ ["script", "k"] := ⟨PySem.W.mg_of X G a14, k14, F14.binds (ps := ["script", "k"]) fun _ _ _ _ _ _ us hl => match us, hl with | [_, _], _ => rfl⟩
  have F15 := fun_mk (st := s_law_tape) l15 c15 k15
  have R15 : Ref K mg "_law_tape" f15 _ ["script", "k"] := ⟨PySem.W.mg_of X G a15, k15, F15.binds (ps := ["script", "k"]) fun _ _ _ _ _ _ us hl => match us, hl with | [_, _], _ => rfl⟩
  have F16 := fun_mk (st := s_law_digit) l16 c16 k16
  have R16 : Ref K mg "_law_digit" f16 _ ["tape", "many"] := ⟨PySem.W.mg_of X G a16, k16, F16.binds (ps := ["tape", "many"]) fun _ _ _ _ _ _ us hl => match us, hl with | [_, _], _ => rfl⟩
  have F17 := fun_mk (st := s_law_words) l17 c17 k17
  have R17 : Ref K mg "_law_words" f17 _ ["tape", "many"] := ⟨PySem.W.mg_of X G a17, k17, F17.binds (ps := ["tape", "many"]) fun _ _ _ _ _ _ us hl => match us, hl with | [_, _], _ => rfl⟩
  have F18 := fun_mk (st := s_law_number) l18 c18 k18
  have R18 : Ref K mg "_law_number" f18 _ ["tape"] := ⟨PySem.W.mg_of X G a18, k18, F18.binds (ps := ["tape"]) fun _ _ _ _ _ _ us hl => match us, hl with | [_], _ => rfl⟩
  have F19 := fun_mk (st := s_law_leaf) l19 c19 k19
  have R19 : Ref K mg "_law_leaf" f19 _ ["tape", "known", "around"] := ⟨PySem.W.mg_of X G a19, k19, F19.binds (ps := ["tape", "known", "around"]) fun _ _ _ _ _ _ us hl => match us, hl with | [_, _, _], _ => rfl⟩
  have F20 := fun_mk (st := s_law_shares) l20 c20 k20
  have R20 : Ref K mg "_law_shares" f20 _ ["tape", "room", "many"] := ⟨PySem.W.mg_of X G a20, k20, F20.binds (ps := ["tape", "room", "many"]) fun _ _ _ _ _ _ us hl => match us, hl with | [_, _, _], _ => rfl⟩
  have F21 := fun_mk (st := s_law_less_one) l21 c21 k21
  have R21 : Ref K mg "_law_less_one" f21 _ ["around"] := ⟨PySem.W.mg_of X G a21, k21, F21.binds (ps := ["around"]) fun _ _ _ _ _ _ us hl => match us, hl with | [_], _ => rfl⟩
  have F22 := fun_mk (st := s_law_ask) l22 c22 k22
  have R22 : Ref K mg "_law_ask" f22 _ ["tape", "known", "around", "room", "deep"] := ⟨PySem.W.mg_of X G a22, k22, F22.binds (ps := ["tape", "known", "around", "room", "deep"]) fun _ _ _ _ _ _ us hl => match us, hl with | [_, _, _, _, _], _ => rfl⟩
  have F23 := fun_mk (st := s_law_term) l23 c23 k23
  have R23 : Ref K mg "_law_term" f23 _ ["tape", "known", "around", "room", "deep"] := ⟨PySem.W.mg_of X G a23, k23, F23.binds (ps := ["tape", "known", "around", "room", "deep"]) fun _ _ _ _ _ _ us hl => match us, hl with | [_, _, _, _, _], _ => rfl⟩
  have F24 := fun_mk (st := s_law_body) l24 c24 k24
  have R24 : Ref K mg "_law_body" f24 _ ["tape", "known", "names", "room"] := ⟨PySem.W.mg_of X G a24, k24, F24.binds (ps := ["tape", "known", "names", "room"]) fun _ _ _ _ _ _ us hl => match us, hl with | [_, _, _, _], _ => rfl⟩
  have F25 := fun_mk (st := s_law_book) l25 c25 k25
  have R25 : Ref K mg "_law_book" f25 _ ["script", "start"] := ⟨PySem.W.mg_of X G a25, k25, F25.binds (ps := ["script", "start"]) fun _ _ _ _ _ _ us hl => match us, hl with | [_, _], _ => rfl⟩
  have F26 := fun_mk (st := s_law_parts) l26 c26 k26
  have R26 : Ref K mg "_law_parts" f26 _ ["term"] := ⟨PySem.W.mg_of X G a26, k26, F26.binds (ps := ["term"]) fun _ _ _ _ _ _ us hl => match us, hl with | [_], _ => rfl⟩
  have F27 := fun_mk (st := s_law_places) l27 c27 k27
  have R27 : Ref K mg "_law_places" f27 _ ["term", "place"] := ⟨PySem.W.mg_of X G a27, k27, F27.binds (ps := ["term", "place"]) fun _ _ _ _ _ _ us hl => match us, hl with | [_, _], _ => rfl⟩
  have F28 := fun_mk (st := s_law_at) l28 c28 k28
  have R28 : Ref K mg "_law_at" f28 _ ["term", "place"] := ⟨PySem.W.mg_of X G a28, k28, F28.binds (ps := ["term", "place"]) fun _ _ _ _ _ _ us hl => match us, hl with | [_, _], _ => rfl⟩
  have F29 := fun_mk (st := s_law_inner) l29 c29 k29
  have R29 : Ref K mg "_law_inner" f29 _ ["part"] := ⟨PySem.W.mg_of X G a29, k29, F29.binds (ps := ["part"]) fun _ _ _ _ _ _ us hl => match us, hl with | [_], _ => rfl⟩
  have F30 := fun_mk (st := s_law_simples) l30 c30 k30
  have R30 : Ref K mg "_law_simples" f30 _ ["part"] := ⟨PySem.W.mg_of X G a30, k30, F30.binds (ps := ["part"]) fun _ _ _ _ _ _ us hl => match us, hl with | [_], _ => rfl⟩
  have F31 := fun_mk (st := s_law_tplaces) l31 c31 k31
  have R31 : Ref K mg "_law_tplaces" f31 _ ["part", "place"] := ⟨PySem.W.mg_of X G a31, k31, F31.binds (ps := ["part", "place"]) fun _ _ _ _ _ _ us hl => match us, hl with | [_, _], _ => rfl⟩
  have F32 := fun_mk (st := s_law_counted) l32 c32 k32
  have R32 : Ref K mg "_law_counted" f32 _ ["body", "name", "last", "led"] := ⟨PySem.W.mg_of X G a32, k32, F32.binds (ps := ["body", "name", "last", "led"]) fun _ _ _ _ _ _ us hl => match us, hl with | [_, _, _, _], _ => rfl⟩
  have F33 := fun_mk (st := s_law_counted_turned) l33 c33 k33
  have R33 : Ref K mg "_law_counted_turned" f33 _ ["part"] := ⟨PySem.W.mg_of X G a33, k33, F33.binds (ps := ["part"]) fun _ _ _ _ _ _ us hl => match us, hl with | [_], _ => rfl⟩
  have F34 := fun_mk (st := slaw) l34 c34 k34
  have MF1 := fun_mk (st := sNew0) ml1 mc1 mk1
  have Mb1 := MF1.binds (ps := ["self", "taken"]) fun _ _ _ _ _ _ us hl => match us, hl with | [_, _], _ => rfl
  have MF2 := fun_mk (st := sMore) ml2 mc2 mk2
  have Mb2 := MF2.binds (ps := ["self"]) fun _ _ _ _ _ _ us hl => match us, hl with | [_], _ => rfl
  have MF3 := fun_mk (st := sT0) ml3 mc3 mk3
  have Mb3 := MF3.binds (ps := ["self", "new_words"]) fun _ _ _ _ _ _ us hl => match us, hl with | [_, _], _ => rfl
  have MF4 := fun_mk (st := sGo) ml4 mc4 mk4
  have Mb4 := MF4.binds (ps := ["self", "jobs"]) fun _ _ _ _ _ _ us hl => match us, hl with | [_, _], _ => rfl
  have MF5 := fun_mk (st := sJof) ml5 mc5 mk5
  have Mb5 := MF5.binds (ps := ["self", "job"]) fun _ _ _ _ _ _ us hl => match us, hl with | [_, _], _ => rfl
  have MF6 := fun_mk (st := sJdone) ml6 mc6 mk6
  have Mb6 := MF6.binds (ps := ["self", "term", "j"]) fun _ _ _ _ _ _ us hl => match us, hl with | [_, _, _], _ => rfl
  have MF7 := fun_mk (st := sJput) ml7 mc7 mk7
  have Mb7 := MF7.binds (ps := ["self", "term", "x"]) fun _ _ _ _ _ _ us hl => match us, hl with | [_, _, _], _ => rfl
  have MF8 := fun_mk (st := sJsimp) ml8 mc8 mk8
  have Mb8 := MF8.binds (ps := ["self", "term"]) fun _ _ _ _ _ _ us hl => match us, hl with | [_, _], _ => rfl
  have MF9 := fun_mk (st := sFin) ml9 mc9 mk9
  have Mb9 := MF9.binds (ps := ["self", "job"]) fun _ _ _ _ _ _ us hl => match us, hl with | [_, _], _ => rfl
  refine ⟨PySem.W.fnOf "law" "law" (defArgs slaw) (defBody slaw) (defScope slaw) .none kV34 dc34 pm34 an34 cd34 ct34, fun s v => .of_eq rfl, fun base _ _ => ?_⟩
  have G_law_cell_at := ok_cell (P := l.prog) (w := w) (mg := mg) (base := base) T F14
  have G_law_tape := ok_tape (P := l.prog) (w := w) (mg := mg) (base := base) T F15 G_law_cell_at R14
  have G_law_digit := ok_dig (P := l.prog) (w := w) (mg := mg) (base := base) F16
  have G_law_words := ok_words (P := l.prog) (w := w) (mg := mg) (base := base) T F17 G_law_digit R16
  have G_law_number := ok_num (P := l.prog) (w := w) (mg := mg) (base := base) F18 G_law_digit R16
  have G_law_leaf := ok_leaf (P := l.prog) (w := w) (mg := mg) (base := base) T F19 G_law_digit R16 G_law_number R18
  have G_law_shares := ok_shares (P := l.prog) (w := w) (mg := mg) (base := base) T F20 G_law_digit R16
  have G_law_less_one := ok_less (P := l.prog) (w := w) (mg := mg) (base := base) F21
  have G_law_term := all_term (P := l.prog) (w := w) (mg := mg) (base := base) T F23 F22 G_law_digit R16 G_law_leaf R19 G_law_shares R20 G_law_less_one R21 R23 R22 12
  have G_law_body := ok_body (P := l.prog) (w := w) (mg := mg) (base := base) T F24 G_law_digit R16 G_law_shares R20 G_law_term R23
  have G_law_book := ok_book (P := l.prog) (w := w) (mg := mg) (base := base) T F25 G_law_digit R16 G_law_tape R15 G_law_words R17 G_law_body R24
  have Gparts_of := ok_parts (P := l.prog) (w := w) (mg := mg) (base := base) F3
  have Gmet := ok_met (P := l.prog) (w := w) (mg := mg) (base := base) TrT F1 (parts_kids Gparts_of) R3.k R3.b
  have Gwords_in := ok_wordsIn (P := l.prog) (w := w) (mg := mg) (base := base) F4 Gmet R1 R3
  have Gword_of := ok_wordOf (P := l.prog) (w := w) (mg := mg) (base := base) T SX F5
  have GNewWords___init__ := ok_new0 (P := l.prog) (w := w) (mg := mg) (base := base) XN MF1
  have GNewWords_one_more := ok_more (P := l.prog) (w := w) (mg := mg) (base := base) XN MF2 Gword_of R5
  have Gjobs_to_end := ok_jend (P := l.prog) (w := w) (mg := mg) (base := base) T F8
  have Gput_ahead := ok_ahead (P := l.prog) (w := w) (mg := mg) (base := base) T F9
  have GTurning_jobs_done := ok_jdone (P := l.prog) (w := w) (mg := mg) (base := base) MF6 Gjobs_to_end R8
  have GTurning_jobs_put := ok_jput (P := l.prog) (w := w) (mg := mg) (base := base) XN MF7 Gjobs_to_end R8 GNewWords_one_more Mb2 ⟨ma2, mi2, mk2⟩
  have GTurning_jobs_simple := ok_jsimp (P := l.prog) (w := w) (mg := mg) (base := base) XN MF8 GNewWords_one_more Mb2 ⟨ma2, mi2, mk2⟩
  have GTurning_jobs_of := ok_jof (P := l.prog) (w := w) (mg := mg) (base := base) XN MF5 GTurning_jobs_done Mb6 ⟨ma6, mi6, mk6⟩ GTurning_jobs_put Mb7 ⟨ma7, mi7, mk7⟩ GTurning_jobs_simple Mb8 ⟨ma8, mi8, mk8⟩
  have Glast_taken := ok_last (P := l.prog) (w := w) (mg := mg) (base := base) T F2
  have GTurning_finish := ok_fin (P := l.prog) (w := w) (mg := mg) (base := base) T XN MF9 Gput_ahead R9 Glast_taken R2
  have GTurning_go := ok_go (P := l.prog) (w := w) (mg := mg) (base := base) XN MF4 GTurning_jobs_of Mb5 ⟨ma5, mi5, mk5⟩ GTurning_finish Mb9 ⟨ma9, mi9, mk9⟩
  have GTurning___init__ := ok_t0 (P := l.prog) (w := w) (mg := mg) (base := base) XN MF3
  have Gturned_body := ok_tbody (P := l.prog) (w := w) (mg := mg) (base := base) XN SX F7 Gwords_in R4 GNewWords___init__ Mb1 ⟨msCN, ma1, mi1, kcCN⟩ GTurning___init__ Mb3 ⟨msCT, ma3, mi3, kcCT⟩ GTurning_go Mb4 ⟨ma4, mi4, mk4⟩
  have Gturn_book := ok_tbook (P := l.prog) (w := w) (mg := mg) (base := base) T F6 Gturned_body R7
  have Gmarks_of_part := ok_mop (P := l.prog) (w := w) (mg := mg) (base := base) F13
  have Gmarked_places := ok_mkd (P := l.prog) (w := w) (mg := mg) (base := base) T F12 Gparts_of R3 Gmarks_of_part R13
  have Glast_places := ok_LastP (P := l.prog) (w := w) (mg := mg) (base := base) F10 Gmarked_places R12
  have Gled_places := ok_LedP (P := l.prog) (w := w) (mg := mg) (base := base) F11 Gmarked_places R12
  have G_law_parts := ok_Lparts (P := l.prog) (w := w) (mg := mg) (base := base) T F26
  have G_law_places := all_Lpl (P := l.prog) (w := w) (mg := mg) (base := base) T F27 R27 (parts_kids G_law_parts) R26 40
  have G_law_at := ok_Lat (P := l.prog) (w := w) (mg := mg) (base := base) F28 (parts_kids G_law_parts) R26
  have G_law_inner := ok_inn (P := l.prog) (w := w) (mg := mg) (base := base) T F29
  have G_law_simples := ok_smp (P := l.prog) (w := w) (mg := mg) (base := base) T F30
  have G_law_tplaces := all_Tpl (P := l.prog) (w := w) (mg := mg) (base := base) T F31 R31 G_law_simples R30 G_law_inner R29 161
  have G_law_counted := ok_counted (P := l.prog) (w := w) (mg := mg) (base := base) T (PySem.W.mg_none_of X G z_sorted) F32 G_law_places R27 G_law_at R28
  have G_law_counted_turned := ok_cntT (P := l.prog) (w := w) (mg := mg) (base := base) T (PySem.W.mg_none_of X G z_sorted) F33 G_law_tplaces R31
  exact ok_law T (PySem.W.mg_none_of X G z_min) F34 ⟨_, _, G_law_book, R25⟩ ⟨_, _, Glast_places, R10⟩ ⟨_, _, Gled_places, R11⟩ ⟨_, _, Gturn_book, R6⟩ ⟨_, _, G_law_counted, R32⟩ ⟨_, _, G_law_counted_turned, R33⟩
theorem walk {l : PySem.W.OpenLaw} {q : Program} {loose : List Str} {XP : (Str → Option Value) → Heap → Prop} {YP : World → Heap → Prop} {d : DefRec} {K : Params → PySem.W.Frag} (hn : l.most = some 63) (hdf : d.params.defaults = [])
    (hY : ∀ (w : World) (h : Heap), YP w h → (K w.params).In h)
    (F : ∀ (w : World) (mg : Str → Option Value) (fa : Addr) (h : Heap), (K w.params).In h → h.Ns mainGlobals mg → mg d.name = some (.ref fa) →
      ∃ fd : FuncData, (∀ (s : Shared) (u : Value), BindsTo s fd ⟨[u], []⟩ [("script", u)]) ∧ ∀ base : Heap, (K w.params).In base → base.Ns mainGlobals mg → FnOk l.prog w (K w.params) mg base CX0 164 fa fd ["script"] (spLaw (K w.params))) :
    PySem.W.WalkO q loose XP YP l.row.toRowW d [] (fun f vs => PySem.call f vs) :=
  L2.walk_of (n := 63) (k := 164) (x := "script") (CX := fun _ => CX0) (sp := fun w => spLaw (K w.params)) hn (by decide) hdf ⟨rfl, by decide, by decide⟩ hY F (fun _ _ a ns hl _ hS => ⟨a, ns, rfl, hS, hl, fun _ => rfl⟩) fun _ _ _ _ _ z => z
end KB

open PySem PySem.W PyProof.Rows in
set_option maxRecDepth 100000 in
set_option maxHeartbeats 0 in
theorem PySem.Challenge.cw_whatnext_k18_whole_hand_ons_where_someth_holds : PySem.Challenge.rw_whatnext_k18_whole_hand_ons_where_someth.Holds := by
  w_on; o_law; k_head; (case hw => w_witness2)
  k_fill
  refine KB.walk (l := PySem.Challenge.rw_whatnext_k18_whole_hand_ons_where_someth) rfl rfl (fun w h Y => PySem.W.kIn_of Y) ?F
  case F =>
    intro w mg fa h KX G hmg
    refine' KB.all_mk KX G hmg ?a1 ?l1 ?c1 ?k1 ?a2 ?l2 ?c2 ?k2 ?a3 ?l3 ?c3 ?k3 ?a4 ?l4 ?c4 ?k4 ?a5 ?l5 ?c5 ?k5 ?a6 ?l6 ?c6 ?k6 ?a7 ?l7 ?c7 ?k7 ?a8 ?l8 ?c8 ?k8 ?a9 ?l9 ?c9 ?k9 ?a10 ?l10 ?c10 ?k10 ?a11 ?l11 ?c11 ?k11 ?a12 ?l12 ?c12 ?k12 ?a13 ?l13 ?c13 ?k13 ?a14 ?l14 ?c14 ?k14 ?a15 ?l15 ?c15 ?k15 ?a16 ?l16 ?c16 ?k16 ?a17 ?l17 ?c17 ?k17 ?a18 ?l18 ?c18 ?k18 ?a19 ?l19 ?c19 ?k19 ?a20 ?l20 ?c20 ?k20 ?a21 ?l21 ?c21 ?k21 ?a22 ?l22 ?c22 ?k22 ?a23 ?l23 ?c23 ?k23 ?a24 ?l24 ?c24 ?k24 ?a25 ?l25 ?c25 ?k25 ?a26 ?l26 ?c26 ?k26 ?a27 ?l27 ?c27 ?k27 ?a28 ?l28 ?c28 ?k28 ?a29 ?l29 ?c29 ?k29 ?a30 ?l30 ?c30 ?k30 ?a31 ?l31 ?c31 ?k31 ?a32 ?l32 ?c32 ?k32 ?a33 ?l33 ?c33 ?k33 ?a34 ?l34 ?c34 ?k34 ?gCN ?gCT ?ma1 ?mi1 ?ml1 ?mc1 ?mk1 ?ma2 ?mi2 ?ml2 ?mc2 ?mk2 ?ma3 ?mi3 ?ml3 ?mc3 ?mk3 ?ma4 ?mi4 ?ml4 ?mc4 ?mk4 ?ma5 ?mi5 ?ml5 ?mc5 ?mk5 ?ma6 ?mi6 ?ml6 ?mc6 ?mk6 ?ma7 ?mi7 ?ml7 ?mc7 ?mk7 ?ma8 ?mi8 ?ml8 ?mc8 ?mk8 ?ma9 ?mi9 ?ml9 ?mc9 ?mk9 ?pgCN ?hdCN ?poCN ?saCN ?msCN ?kcCN ?nCNtaken ?nCNmany ?pgCT ?hdCT ?poCT ?saCT ?msCT ?kcCT ?nCTnew_words ?nCTjobs ?nCTrows ?nCTgot ?z_len ?z_isinstance ?z_int ?z_tuple ?z_list ?z_str ?z_bool ?z_max ?z_all ?z_dict ?z_range ?z_enumerate ?z_reversed ?z_min ?z_sorted ?qSIGNS ?qBEHIND ?qHOME
    (case a1 => k_is)
    (case l1 => k_is)
    (case c1 => k_is)
    (case k1 => k_is)
    (case a2 => k_is)
    (case l2 => k_is)
    (case c2 => k_is)
    (case k2 => k_is)
    (case a3 => k_is)
    (case l3 => k_is)
    (case c3 => k_is)
    (case k3 => k_is)
    (case a4 => k_is)
    (case l4 => k_is)
    (case c4 => k_is)
    (case k4 => k_is)
    (case a5 => k_is)
    (case l5 => k_is)
    (case c5 => k_is)
    (case k5 => k_is)
    (case a6 => k_is)
    (case l6 => k_is)
    (case c6 => k_is)
    (case k6 => k_is)
    (case a7 => k_is)
    (case l7 => k_is)
    (case c7 => k_is)
    (case k7 => k_is)
    (case a8 => k_is)
    (case l8 => k_is)
    (case c8 => k_is)
    (case k8 => k_is)
    (case a9 => k_is)
    (case l9 => k_is)
    (case c9 => k_is)
    (case k9 => k_is)
    (case a10 => k_is)
    (case l10 => k_is)
    (case c10 => k_is)
    (case k10 => k_is)
    (case a11 => k_is)
    (case l11 => k_is)
    (case c11 => k_is)
    (case k11 => k_is)
    (case a12 => k_is)
    (case l12 => k_is)
    (case c12 => k_is)
    (case k12 => k_is)
    (case a13 => k_is)
    (case l13 => k_is)
    (case c13 => k_is)
    (case k13 => k_is)
    (case a14 => k_is)
    (case l14 => k_is)
    (case c14 => k_is)
    (case k14 => k_is)
    (case a15 => k_is)
    (case l15 => k_is)
    (case c15 => k_is)
    (case k15 => k_is)
    (case a16 => k_is)
    (case l16 => k_is)
    (case c16 => k_is)
    (case k16 => k_is)
    (case a17 => k_is)
    (case l17 => k_is)
    (case c17 => k_is)
    (case k17 => k_is)
    (case a18 => k_is)
    (case l18 => k_is)
    (case c18 => k_is)
    (case k18 => k_is)
    (case a19 => k_is)
    (case l19 => k_is)
    (case c19 => k_is)
    (case k19 => k_is)
    (case a20 => k_is)
    (case l20 => k_is)
    (case c20 => k_is)
    (case k20 => k_is)
    (case a21 => k_is)
    (case l21 => k_is)
    (case c21 => k_is)
    (case k21 => k_is)
    (case a22 => k_is)
    (case l22 => k_is)
    (case c22 => k_is)
    (case k22 => k_is)
    (case a23 => k_is)
    (case l23 => k_is)
    (case c23 => k_is)
    (case k23 => k_is)
    (case a24 => k_is)
    (case l24 => k_is)
    (case c24 => k_is)
    (case k24 => k_is)
    (case a25 => k_is)
    (case l25 => k_is)
    (case c25 => k_is)
    (case k25 => k_is)
    (case a26 => k_is)
    (case l26 => k_is)
    (case c26 => k_is)
    (case k26 => k_is)
    (case a27 => k_is)
    (case l27 => k_is)
    (case c27 => k_is)
    (case k27 => k_is)
    (case a28 => k_is)
    (case l28 => k_is)
    (case c28 => k_is)
    (case k28 => k_is)
    (case a29 => k_is)
    (case l29 => k_is)
    (case c29 => k_is)
    (case k29 => k_is)
    (case a30 => k_is)
    (case l30 => k_is)
    (case c30 => k_is)
    (case k30 => k_is)
    (case a31 => k_is)
    (case l31 => k_is)
    (case c31 => k_is)
    (case k31 => k_is)
    (case a32 => k_is)
    (case l32 => k_is)
    (case c32 => k_is)
    (case k32 => k_is)
    (case a33 => k_is)
    (case l33 => k_is)
    (case c33 => k_is)
    (case k33 => k_is)
    (case a34 => k_is)
    (case l34 => k_is)
    (case c34 => k_is)
    (case k34 => k_is)
    (case gCN => k_is)
    (case gCT => k_is)
    (case ma1 => k_is)
    (case mi1 => k_is)
    (case ml1 => k_is)
    (case mc1 => k_is)
    (case mk1 => k_is)
    (case ma2 => k_is)
    (case mi2 => k_is)
    (case ml2 => k_is)
    (case mc2 => k_is)
    (case mk2 => k_is)
    (case ma3 => k_is)
    (case mi3 => k_is)
    (case ml3 => k_is)
    (case mc3 => k_is)
    (case mk3 => k_is)
    (case ma4 => k_is)
    (case mi4 => k_is)
    (case ml4 => k_is)
    (case mc4 => k_is)
    (case mk4 => k_is)
    (case ma5 => k_is)
    (case mi5 => k_is)
    (case ml5 => k_is)
    (case mc5 => k_is)
    (case mk5 => k_is)
    (case ma6 => k_is)
    (case mi6 => k_is)
    (case ml6 => k_is)
    (case mc6 => k_is)
    (case mk6 => k_is)
    (case ma7 => k_is)
    (case mi7 => k_is)
    (case ml7 => k_is)
    (case mc7 => k_is)
    (case mk7 => k_is)
    (case ma8 => k_is)
    (case mi8 => k_is)
    (case ml8 => k_is)
    (case mc8 => k_is)
    (case mk8 => k_is)
    (case ma9 => k_is)
    (case mi9 => k_is)
    (case ml9 => k_is)
    (case mc9 => k_is)
    (case mk9 => k_is)
    (case pgCN => k_is)
    (case hdCN => k_is)
    (case poCN => k_is)
    (case saCN => k_is)
    (case msCN => k_is)
    (case kcCN => k_is)
    (case nCNtaken => k_is)
    (case nCNmany => k_is)
    (case pgCT => k_is)
    (case hdCT => k_is)
    (case poCT => k_is)
    (case saCT => k_is)
    (case msCT => k_is)
    (case kcCT => k_is)
    (case nCTnew_words => k_is)
    (case nCTjobs => k_is)
    (case nCTrows => k_is)
    (case nCTgot => k_is)
    (case z_len => k_is)
    (case z_isinstance => k_is)
    (case z_int => k_is)
    (case z_tuple => k_is)
    (case z_list => k_is)
    (case z_str => k_is)
    (case z_bool => k_is)
    (case z_max => k_is)
    (case z_all => k_is)
    (case z_dict => k_is)
    (case z_range => k_is)
    (case z_enumerate => k_is)
    (case z_reversed => k_is)
    (case z_min => k_is)
    (case z_sorted => k_is)
    (case qSIGNS => k_is)
    (case qBEHIND => k_is)
    (case qHOME => k_is)
#print axioms PySem.Challenge.cw_whatnext_k18_whole_hand_ons_where_someth_holds
