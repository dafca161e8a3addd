import PyProof.Rows.All
import Wide.All
import OpenK.AllK
import Wide.FinOn
import PySem.Challenge.RW_looseshelf_k01_what_is_none
import HandS.ForMost
import HandS.More
import HandS.Flow
import HandS.IsInst
import PyProof.Draws
import PyProof.AssignAttr
import HandS.NoneIn
import HandS.Flt
import HandS.DictComp
import HandS.Nested
import HandS.SortKw
import KE.DataMinKey
import HandS.ListItems
import KE.KDictList
import HandS.ExcInit
import HandS.Exc
import HandS.ExcCtx
import HandS.ExcIs
import HandS.ExcField
import HandS.WordsExc
import HandS.Hot
import HandS.HotCalls
import KE.KDflt
import HandS.FStr
import PyProof.StrBlock2
import HandS.EndTab
set_option Elab.async false
set_option linter.all false
set_option maxRecDepth 100000
set_option maxHeartbeats 4000000
/-! CK: a def's body as a function of plain data (slots and a small heap of its own), and that the hand layer's readings follow from its run. -/
namespace CK
open PySem L2

/-- a plain value: a reference is a number into the plain heap; a key is an int of which only the order is known -/
inductive CV where
  | non | bl (b : Bool) | int (i : Int) | str (x : List Nat) | ref (n : Nat) | ty (n : String) | key (k : Nat) | off (i : Int) | opq
/-- a plain object -/
inductive CO where
  | lst (xs : List CV) | tup (xs : List CV) | ins (c : Nat) (fs : List (List Nat × CV))
/-- the plain heap: how many, the newest first -/
structure CH where
  n : Nat
  l : List CO
def CH.length (h : CH) : Nat := h.n
def CH.get (h : CH) (i : Nat) : Option CO := match Nat.blt i h.n with
  | true => h.l[h.n - 1 - i]?
  | false => none
def CH.new (h : CH) (o : CO) : CH := ⟨h.n + 1, o :: h.l⟩
def CH.set (h : CH) (i : Nat) (o : CO) : CH := ⟨h.n, h.l.set (h.n - 1 - i) o⟩
/-- objects, the oldest first -/
def CH.of (l : List CO) : CH := ⟨l.length, l.reverse⟩
theorem CH.get_eq (h : CH) (i : Nat) : h.get i = if i < h.n then h.l[h.n - 1 - i]? else none := by
  unfold CH.get
  by_cases c : i < h.n
  · rw [if_pos c]
    have e : Nat.blt i h.n = true := Nat.ble_eq_true_of_le (show i + 1 ≤ h.n from c)
    rw [e]
  · rw [if_neg c]
    have e : Nat.blt i h.n = false := by
      cases q : Nat.blt i h.n with
      | false => rfl
      | true => exact absurd (show i < h.n from Nat.le_of_ble_eq_true (show Nat.ble (i + 1) h.n = true from q)) c
    rw [e]
theorem CH.get_lt {h : CH} {i : Nat} {o : CO} (e : h.get i = some o) : i < h.length := by
  rw [CH.get_eq] at e
  split at e
  · assumption
  · cases e
abbrev CS := List (Option CV)
/-- where the plain data lies: the keys' ints, the classes' and the objects' addresses -/
structure Em where
  k : Nat → Int
  c : Nat → Addr
  as : List Addr
  t : Int
def Tx (l : List Nat) : Str := ⟨l.toArray⟩
def RV (η : Em) : CV → V → Prop
  | .non, y => y = .non
  | .bl b, y => y = .bl b
  | .int i, y => y = .int i
  | .str x, y => y = .str (Tx x)
  | .ref n, y => ∃ a, η.as[n]? = some a ∧ y = .ref a
  | .ty n, y => y = .ty n
  | .key k, y => y = .int (η.k k)
  | .off i, y => y = .int (η.t + i)
  | .opq, y => y = .ref (η.k 0).toNat
abbrev RVs (η : Em) : List CV → List V → Prop := Paired (RV η)
abbrev RF (η : Em) : List (List Nat × CV) → List (Str × V) → Prop := Paired fun p q => q.1 = Tx p.1 ∧ RV η p.2 q.2
def RO (η : Em) : CO → HO → Prop
  | .lst xs, O => ∃ ys, O = .lst ys ∧ RVs η xs ys
  | .tup xs, O => ∃ ys, O = .tup ys ∧ RVs η xs ys
  | .ins c fs, O => ∃ dx ys, O = .ins (η.c c) dx ys ∧ RF η fs ys
/-- later: the same and more objects -/
structure Le (η η' : Em) : Prop where
  k : η'.k = η.k
  c : η'.c = η.c
  as : ∃ l, η'.as = η.as ++ l
  t : η'.t = η.t
theorem Le.refl (η : Em) : Le η η := ⟨rfl, rfl, ⟨[], by simp⟩, rfl⟩
theorem Le.trans {a b c : Em} (x : Le a b) (y : Le b c) : Le a c := by
  obtain ⟨l, e⟩ := x.as
  obtain ⟨m, f⟩ := y.as
  exact ⟨y.k.trans x.k, y.c.trans x.c, ⟨l ++ m, by rw [f, e, List.append_assoc]⟩, y.t.trans x.t⟩
theorem Le.get {a b : Em} (x : Le a b) {n : Nat} {p : Addr} (h : a.as[n]? = some p) : b.as[n]? = some p := by
  obtain ⟨l, e⟩ := x.as
  rw [e, List.getElem?_append_left (List.getElem?_eq_some_iff.mp h).1]
  exact h
theorem Le.mem {a b : Em} (x : Le a b) {p : Addr} (h : p ∈ a.as) : p ∈ b.as := by
  obtain ⟨l, e⟩ := x.as
  rw [e]
  exact List.mem_append_left _ h
theorem Le.len {a b : Em} (x : Le a b) : a.as.length ≤ b.as.length := by
  obtain ⟨l, e⟩ := x.as
  rw [e, List.length_append]
  omega
theorem RV.mono {η η' : Em} (x : Le η η') {v : CV} {y : V} (h : RV η v y) : RV η' v y := by
  cases v with
  | ref n => obtain ⟨a, e, q⟩ := h; exact ⟨a, x.get e, q⟩
  | key k => show y = V.int (η'.k k); rw [x.k]; exact h
  | off k => show y = V.int (η'.t + k); rw [x.t]; exact h
  | opq => show y = V.ref (η'.k 0).toNat; rw [x.k]; exact h
  | _ => exact h
theorem RVs.mono {η η' : Em} (x : Le η η') {v : List CV} {y : List V} (h : RVs η v y) : RVs η' v y := Paired.mapP h fun _ _ q => RV.mono x q
theorem RF.mono {η η' : Em} (x : Le η η') {v : List (List Nat × CV)} {y : List (Str × V)} (h : RF η v y) : RF η' v y := Paired.mapP h fun _ _ q => ⟨q.1, RV.mono x q.2⟩
theorem RO.mono {η η' : Em} (x : Le η η') {v : CO} {y : HO} (h : RO η v y) : RO η' v y := by
  cases v with
  | lst xs => obtain ⟨ys, e, q⟩ := h; exact ⟨ys, e, RVs.mono x q⟩
  | tup xs => obtain ⟨ys, e, q⟩ := h; exact ⟨ys, e, RVs.mono x q⟩
  | ins c fs =>
    obtain ⟨dx, ys, e, q⟩ := h
    exact ⟨dx, ys, by rw [x.c]; exact e, RF.mono x q⟩
/-- the plain heap stands in the abstract one -/
structure HR (cc : Nat → Addr) (η : Em) (h : CH) (H : Hp) : Prop where
  cl : η.c = cc
  nd : η.as.Nodup
  wf : h.l.length = h.n
  len : η.as.length = h.length
  mo : ∀ i j, i < j → η.k i < η.k j
  ob : ∀ (n : Nat) (a : Addr) (o : CO), η.as[n]? = some a → h.get n = some o → ∃ O, H a = some O ∧ RO η o O
theorem CH.get_some {h : CH} (wf : h.l.length = h.n) {i : Nat} (c : i < h.length) : ∃ o, h.get i = some o := by
  have c : i < h.n := c
  rw [CH.get_eq, if_pos c]
  exact ⟨_, List.getElem?_eq_getElem (by omega)⟩
theorem CH.get_old {h : CH} {o : CO} {i : Nat} (c : i < h.length) : (h.new o).get i = h.get i := by
  have c : i < h.n := c
  rw [CH.get_eq h, if_pos c, CH.get_eq]
  show (if i < h.n + 1 then (o :: h.l)[h.n + 1 - 1 - i]? else none) = _
  rw [if_pos (show i < h.n + 1 by omega)]
  have e : h.n + 1 - 1 - i = (h.n - 1 - i) + 1 := by omega
  rw [e, List.getElem?_cons_succ]
theorem CH.get_new {h : CH} {o : CO} : (h.new o).get h.length = some o := by
  rw [CH.get_eq]
  show (if h.n < h.n + 1 then (o :: h.l)[h.n + 1 - 1 - h.n]? else none) = _
  rw [if_pos (show h.n < h.n + 1 by omega)]
  have e : h.n + 1 - 1 - h.n = 0 := by omega
  rw [e]
  rfl
theorem CH.get_set {h : CH} (wf : h.l.length = h.n) {o : CO} {i : Nat} (c : i < h.length) : (h.set i o).get i = some o := by
  have c : i < h.n := c
  rw [CH.get_eq]
  show (if i < h.n then (h.l.set (h.n - 1 - i) o)[h.n - 1 - i]? else none) = _
  rw [if_pos c, List.getElem?_set_self (by omega)]
theorem CH.get_set_ne {h : CH} {o : CO} {i j : Nat} (ci : i < h.length) (n : j ≠ i) : (h.set i o).get j = h.get j := by
  have ci : i < h.n := ci
  rw [CH.get_eq, CH.get_eq]
  show (if j < h.n then (h.l.set (h.n - 1 - i) o)[h.n - 1 - j]? else none) = _
  by_cases c : j < h.n
  · rw [if_pos c, if_pos c, List.getElem?_set_ne (by omega)]
  · rw [if_neg c, if_neg c]
/-- a step: more objects, all new; what is none of ours stays -/
structure Stp (η : Em) (H : Hp) (η' : Em) (H' : Hp) : Prop where
  le : Le η η'
  nw : ∀ b, b ∈ η'.as → b ∉ η.as → H b = none
  fr : ∀ b o, b ∉ η.as → H b = some o → H' b = some o
theorem Stp.refl (η : Em) (H : Hp) : Stp η H η H := ⟨Le.refl _, fun _ h n => absurd h n, fun _ _ _ h => h⟩
theorem HR.at {cc : Nat → Addr} {η : Em} {h : CH} {H : Hp} (r : HR cc η h H) {n : Nat} {o : CO} (e : h.get n = some o) : ∃ a O, η.as[n]? = some a ∧ H a = some O ∧ RO η o O := by
  have hl : n < η.as.length := by rw [r.len]; exact CH.get_lt e
  obtain ⟨O, q⟩ := r.ob n η.as[n] o (List.getElem?_eq_getElem hl) e
  exact ⟨_, O, List.getElem?_eq_getElem hl, q⟩
theorem HR.mem {cc : Nat → Addr} {η : Em} {h : CH} {H : Hp} (r : HR cc η h H) {b : Addr} (e : b ∈ η.as) : ∃ O, H b = some O := by
  obtain ⟨n, hn⟩ := List.getElem?_of_mem e
  have hl : n < h.length := by rw [← r.len]; exact (List.getElem?_eq_some_iff.mp hn).1
  obtain ⟨o, eo⟩ := CH.get_some r.wf hl
  obtain ⟨O, q, _⟩ := r.ob n b o hn eo
  exact ⟨O, q⟩
theorem HR.notIn {cc : Nat → Addr} {η : Em} {h : CH} {H : Hp} (r : HR cc η h H) {b : Addr} (e : H b = none) : b ∉ η.as := fun m => by
  obtain ⟨O, q⟩ := r.mem m
  rw [e] at q; cases q
theorem Stp.trans {cc : Nat → Addr} {η η1 η2 : Em} {H H1 H2 : Hp} {h1 : CH} (a : Stp η H η1 H1) (r : HR cc η1 h1 H1) (b : Stp η1 H1 η2 H2) : Stp η H η2 H2 := by
  refine ⟨a.le.trans b.le, fun x hx hn => ?_, fun x o hn e => ?_⟩
  · by_cases m : x ∈ η1.as
    · exact a.nw x m hn
    · have z := b.nw x hx m
      cases q : H x with
      | none => rfl
      | some o => rw [a.fr x o hn q] at z; cases z
  · have m : x ∉ η1.as := fun m => by have z := a.nw x m hn; rw [e] at z; cases z
    exact b.fr x o m (a.fr x o hn e)
def Em.push (η : Em) (p : Addr) : Em := ⟨η.k, η.c, η.as ++ [p], η.t⟩
theorem Le.push (η : Em) (p : Addr) : Le η (η.push p) := ⟨rfl, rfl, ⟨[p], rfl⟩, rfl⟩
theorem Em.push_new (η : Em) (p : Addr) {h : CH} (e : η.as.length = h.length) : (η.push p).as[h.length]? = some p := by
  show (η.as ++ [p])[h.length]? = some p
  rw [← e, List.getElem?_append_right (Nat.le_refl _), Nat.sub_self]
  rfl
theorem nodup_snoc {l : List Addr} {p : Addr} (h : l.Nodup) (n : p ∉ l) : (l ++ [p]).Nodup := by
  refine List.nodup_append.mpr ⟨h, by simp, fun a ha b hb => ?_⟩
  have e : b = p := by simpa using hb
  subst e
  exact fun q => n (by rw [← q]; exact ha)
/-- a new object -/
theorem HR.new {cc : Nat → Addr} {η : Em} {h : CH} {H : Hp} (r : HR cc η h H) {o : CO} {O : HO} (ro : RO η o O) {p : Addr} (hp : H p = none) : HR cc (η.push p) (h.new o) (upd H p O) ∧ Stp η H (η.push p) (upd H p O) := by
  have hn := r.notIn hp
  refine ⟨⟨r.cl, nodup_snoc r.nd hn, by show (o :: h.l).length = h.n + 1; rw [List.length_cons, r.wf], ?_, r.mo, fun n a o' e1 e2 => ?_⟩, ⟨Le.push η p, fun b hb nb => ?_, fun b u nb e => ?_⟩⟩
  · show (η.as ++ [p]).length = h.n + 1
    rw [List.length_append, r.len]
    rfl
  · have e1 : (η.as ++ [p])[n]? = some a := e1
    by_cases hl : n < h.length
    · rw [List.getElem?_append_left (by rw [r.len]; exact hl)] at e1
      rw [CH.get_old hl] at e2
      obtain ⟨O', q1, q2⟩ := r.ob n a o' e1 e2
      refine ⟨O', ?_, RO.mono (Le.push η p) q2⟩
      rw [upd_ne (ne_of_none q1 hp)]
      exact q1
    · have hl2 : n < h.length + 1 := CH.get_lt e2
      have en : n = h.length := by omega
      subst en
      have z := Em.push_new η p r.len
      have z : (η.as ++ [p])[h.length]? = some p := z
      rw [z] at e1
      cases e1
      rw [CH.get_new] at e2
      cases e2
      exact ⟨O, upd_same, RO.mono (Le.push η p) ro⟩
  · have hb : b ∈ η.as ++ [p] := hb
    rcases List.mem_append.mp hb with m | m
    · exact absurd m nb
    · have e : b = p := by simpa using m
      rw [e]; exact hp
  · rw [upd_ne (ne_of_none e hp)]
    exact e
/-- an object is changed -/
theorem HR.put {cc : Nat → Addr} {η : Em} {h : CH} {H : Hp} (r : HR cc η h H) {n : Nat} {a : Addr} {o : CO} {O : HO} (e : η.as[n]? = some a) (ro : RO η o O) : HR cc η (h.set n o) (upd H a O) ∧ Stp η H η (upd H a O) := by
  have hl : n < h.length := by rw [← r.len]; exact (List.getElem?_eq_some_iff.mp e).1
  refine ⟨⟨r.cl, r.nd, by show (h.l.set _ o).length = h.n; rw [List.length_set]; exact r.wf, r.len, r.mo, fun m b o' e1 e2 => ?_⟩, ⟨Le.refl _, fun b hb nb => absurd hb nb, fun b u nb q => ?_⟩⟩
  · by_cases hm : m = n
    · subst hm
      rw [e] at e1
      cases e1
      rw [CH.get_set r.wf hl] at e2
      cases e2
      exact ⟨O, upd_same, ro⟩
    · rw [CH.get_set_ne hl hm] at e2
      obtain ⟨O', q1, q2⟩ := r.ob m b o' e1 e2
      refine ⟨O', ?_, q2⟩
      rw [upd_ne (fun q => hm (nd_ix r.nd e1 (by rw [q]; exact e)))]
      exact q1
  · rw [upd_ne (fun z => nb (by rw [z]; exact List.mem_of_getElem? e))]
    exact q
theorem HR.lst {cc : Nat → Addr} {η : Em} {h : CH} {H : Hp} (r : HR cc η h H) {n : Nat} {xs : List CV} {a : Addr} (e : h.get n = some (.lst xs)) (ea : η.as[n]? = some a) : ∃ ys, H a = some (.lst ys) ∧ RVs η xs ys := by
  obtain ⟨O, q, ys, e2, rv⟩ := r.ob n a _ ea e
  exact ⟨ys, by rw [q, e2], rv⟩
theorem HR.tup {cc : Nat → Addr} {η : Em} {h : CH} {H : Hp} (r : HR cc η h H) {n : Nat} {xs : List CV} {a : Addr} (e : h.get n = some (.tup xs)) (ea : η.as[n]? = some a) : ∃ ys, H a = some (.tup ys) ∧ RVs η xs ys := by
  obtain ⟨O, q, ys, e2, rv⟩ := r.ob n a _ ea e
  exact ⟨ys, by rw [q, e2], rv⟩

/-- the slots -/
structure RS (η : Em) (s : CS) (σ : L2.St) : Prop where
  len : s.length = σ.length
  at_ : ∀ (i : Nat) (v : CV), s[i]? = some (some v) → ∃ y, σ[i]? = some (some y) ∧ RV η v y
theorem RS.mono {η η' : Em} (x : Le η η') {s : CS} {σ : L2.St} (r : RS η s σ) : RS η' s σ := ⟨r.len, fun i v e => let ⟨y, a, b⟩ := r.at_ i v e; ⟨y, a, RV.mono x b⟩⟩
theorem RS.set {η : Em} {s : CS} {σ : L2.St} (r : RS η s σ) (i : Nat) {v : CV} {y : V} (rv : RV η v y) : RS η (s.set i (some v)) (σ.set i (some y)) := by
  refine ⟨by rw [List.length_set, List.length_set]; exact r.len, fun j u e => ?_⟩
  by_cases hj : j = i
  · subst hj
    have hl : j < s.length := by have := (List.getElem?_eq_some_iff.mp e).1; rwa [List.length_set] at this
    rw [List.getElem?_set_self hl] at e
    cases e
    exact ⟨y, List.getElem?_set_self (by rw [← r.len]; exact hl), rv⟩
  · rw [List.getElem?_set_ne (fun q => hj q.symm)] at e ⊢
    exact r.at_ j u e

theorem pe_imp {X : Cx} {e : Expr} {t t' : TE} (h : PE X e t) (i : ∀ σ H Q, t' σ H Q → t σ H Q) : PE X e t' := ⟨fun pins s σ H Q I q => h.run pins s σ H Q I (i _ _ _ q)⟩
theorem pt_imp {X : Cx} {e : Expr} {t t' : TT} (h : PT X e t) (i : ∀ σ H Q, t' σ H Q → t σ H Q) : PT X e t' := ⟨fun pins s σ H Q I q => h.run pins s σ H Q I (i _ _ _ q)⟩
theorem pw_imp {X : Cx} {e : Expr} {t t' : TT} (h : PW X e t) (i : ∀ σ H Q, t' σ H Q → t σ H Q) : PW X e t' := ⟨fun wh pins s σ H Q I q => h.run wh pins s σ H Q I (i _ _ _ q)⟩
theorem pa_imp {X : Cx} {e : List Expr} {t t' : TA} (h : PA X e t) (i : ∀ σ H Q, t' σ H Q → t σ H Q) : PA X e t' := ⟨fun pos pins s σ H Q I q => h.run pos pins s σ H Q I (i _ _ _ q)⟩
theorem ps_imp {X : Cx} {e : Stmt} {t t' : TS} (h : PS X e t) (i : ∀ D σ H, t' D σ H → t D σ H) : PS X e t' := ⟨fun pins s σ H D I q => h.run pins s σ H D I (i _ _ _ q)⟩
theorem pss_imp {X : Cx} {e : List Stmt} {t t' : TS} (h : PSs X e t) (i : ∀ D σ H, t' D σ H → t D σ H) : PSs X e t' := ⟨fun pins s σ H D I q => h.run pins s σ H D I (i _ _ _ q)⟩
theorem pg_imp {X : Cx} {e : Expr} {t t' : TG} (h : PG X e t) (i : ∀ v σ H Q, t' v σ H Q → t v σ H Q) : PG X e t' := ⟨fun pins s σ H v u Q I r q => h.run pins s σ H v u Q I r (i _ _ _ _ q)⟩
theorem pi_imp {X : Cx} {tg e : Expr} {t t' : TI} (h : PI X tg e t) (i : ∀ σ H Q, t' σ H Q → t σ H Q) : PI X tg e t' := ⟨fun pins s σ H Q I q => h.run pins s σ H Q I (i _ _ _ q)⟩

abbrev CE := CS → CH → Option (CV × CH)
abbrev CT := CS → CH → Option (Bool × CH)
abbrev CA := CS → CH → Option (List CV × CH)
inductive Fl where
  | nx | rt (v : CV) | bk | ct
abbrev CP := CS → CH → Option (Fl × CS × CH)
/-- the readings of plain functions -/
def eOf (cc : Nat → Addr) (c : CE) : TE := fun σ H Q => ∃ η h s, RS η s σ ∧ HR cc η h H ∧ ∃ v h', c s h = some (v, h') ∧ ∀ η' H' v', Stp η H η' H' → HR cc η' h' H' → RV η' v v' → Q v' H'
def bOf (cc : Nat → Addr) (c : CT) : TT := fun σ H Q => ∃ η h s, RS η s σ ∧ HR cc η h H ∧ ∃ v h', c s h = some (v, h') ∧ ∀ η' H', Stp η H η' H' → HR cc η' h' H' → Q v H'
def aOf (cc : Nat → Addr) (c : CA) : TA := fun σ H Q => ∃ η h s, RS η s σ ∧ HR cc η h H ∧ ∃ v h', c s h = some (v, h') ∧ ∀ η' H' v', Stp η H η' H' → HR cc η' h' H' → RVs η' v v' → Q v' H'
def Post (D : Ends) (η' : Em) (fl : Fl) (σ' : L2.St) (H' : Hp) : Prop := match fl with
  | .nx => D.nx σ' H'
  | .rt v => ∀ v', RV η' v v' → D.rt v' H'
  | .bk => D.bk σ' H'
  | .ct => D.ct σ' H'
def sOf (cc : Nat → Addr) (c : CP) : TS := fun D σ H => ∃ η h s, RS η s σ ∧ HR cc η h H ∧ ∃ fl s' h', c s h = some (fl, s', h') ∧ ∀ η' H' σ', Stp η H η' H' → HR cc η' h' H' → RS η' s' σ' → Post D η' fl σ' H'
def spOf (cc : Nat → Addr) (c : List CV → CH → Option (CV × CH)) : Sp := fun vs H Q _ => ∃ η h xs, RVs η xs vs ∧ HR cc η h H ∧ ∃ v h', c xs h = some (v, h') ∧ ∀ η' H' v', Stp η H η' H' → HR cc η' h' H' → RV η' v v' → Q v' H'
end CK

/-! CK: expressions. -/
namespace CK
open PySem L2
variable {X : Cx} {cc : Nat → Addr}

/-! ### names, constants -/
def cVar (i : Nat) : CE := fun s h => match s[i]? with | some (some v) => some (v, h) | _ => none
def cC (v : CV) : CE := fun _ h => some (v, h)
theorem var_of {i : Nat} {σ : L2.St} {H : Hp} {Q : VK} (q : eOf cc (cVar i) σ H Q) : tVar i σ H Q := by
  obtain ⟨η, h, s, rs, hr, v, h', e, k⟩ := q
  unfold cVar at e
  split at e
  · rename_i u eu
    cases e
    obtain ⟨y, ey, rv⟩ := rs.at_ i _ eu
    exact ⟨y, ey, k η H y (Stp.refl _ _) hr rv⟩
  · cases e
theorem c_of {v : CV} {y : V} (r : ∀ η, RV η v y) {σ : L2.St} {H : Hp} {Q : VK} (q : eOf cc (cC v) σ H Q) : tC y σ H Q := by
  obtain ⟨η, h, s, rs, hr, v', h', e, k⟩ := q
  cases e
  exact k η H y (Stp.refl _ _) hr (r η)
theorem kv (i : Nat) {x : Str} {pos : Pos} (hN : X.N[i]? = some x := by rfl) (hv : Vis X.env.scope x := by first | exact Or.inl rfl | exact Or.inr (Or.inl rfl) | exact Or.inr (Or.inr rfl)) (hd : (x == ("__debug__" : Str)) = false := by decide)
    (hcd : (x == ("__classdict__" : Str)) = false := by decide) : PE X (.Name x pos) (eOf cc (cVar i)) := pe_imp (pe_var hN hv hd hcd) fun _ _ _ q => var_of q
theorem ke_int {i j pos} : PE X (.Constant (.int i) j pos) (eOf cc (cC (.int i))) := pe_imp pe_int fun _ _ _ q => c_of (v := .int i) (y := .int i) (fun _ => rfl) q
theorem ke_bl {b j pos} : PE X (.Constant (.bool b) j pos) (eOf cc (cC (.bl b))) := pe_imp pe_bl fun _ _ _ q => c_of (v := .bl b) (y := .bl b) (fun _ => rfl) q
theorem ke_non {j pos} : PE X (.Constant .none j pos) (eOf cc (cC .non)) := pe_imp pe_non fun _ _ _ q => c_of (v := .non) (y := .non) (fun _ => rfl) q
theorem ke_str (l : List Nat) {x j pos} (hx : x = Tx l := by rfl) : PE X (.Constant (.str x) j pos) (eOf cc (cC (.str l))) := pe_imp pe_str fun _ _ _ q => c_of (v := .str l) (y := .str x) (fun _ => by rw [hx]; rfl) q
/-- a constant of the module -/
theorem ke_glob {x : Str} {v : CV} {y : V} {u : Value} {pos : Pos} (r : ∀ η, RV η v y) (hg : Gl X x) (hm : X.mg x = some u) (rv : RelV y u) (hd : (x == ("__debug__" : Str)) = false := by decide) : PE X (.Name x pos) (eOf cc (cC v)) :=
  pe_imp (pe_glob hg hm rv hd) fun _ _ _ q => c_of r q
/-- a built-in type as a value -/
theorem ke_ty {x : Str} {n : String} {pos : Pos} (hg : Gl X x) (hm : X.mg x = none) (hv : bootBuiltins x = some (.type n)) (hn : x ≠ "__name__" := by decide) (hd : (x == ("__debug__" : Str)) = false := by decide) : PE X (.Name x pos) (eOf cc (cC (.ty n))) :=
  pe_imp (pe_bltn (v := .ty n) hg hm hv rfl hn hd) fun _ _ _ q => c_of (v := .ty n) (y := .ty n) (fun _ => rfl) q

/-! ### one after another -/
def cBin (f : CV → CV → CH → Option (CV × CH)) (a b : CE) : CE := fun s h =>
  match a s h with
  | none => none
  | some (v, h1) => match b s h1 with
    | none => none
    | some (u, h2) => f v u h2
def cUn (f : CV → CH → Option (CV × CH)) (a : CE) : CE := fun s h =>
  match a s h with
  | none => none
  | some (v, h1) => f v h1
/-- the end that is wanted behind a plain step -/
def Kn (cc : Nat → Addr) (η : Em) (H : Hp) (w : CV) (h' : CH) (Q : VK) : Prop := ∀ η' H' z, Stp η H η' H' → HR cc η' h' H' → RV η' w z → Q z H'
def VOp (cc : Nat → Addr) (f : CV → CV → CH → Option (CV × CH)) (r : R2) : Prop :=
  ∀ {η : Em} {h : CH} {H : Hp} {v u : CV} {x y : V} {w : CV} {h' : CH} {Q : VK}, HR cc η h H → RV η v x → RV η u y → f v u h = some (w, h') → Kn cc η H w h' Q → r x y H Q
def VUn (cc : Nat → Addr) (f : CV → CH → Option (CV × CH)) (r : V → Hp → VK → Prop) : Prop :=
  ∀ {η : Em} {h : CH} {H : Hp} {v : CV} {x : V} {w : CV} {h' : CH} {Q : VK}, HR cc η h H → RV η v x → f v h = some (w, h') → Kn cc η H w h' Q → r x H Q
theorem cBin_some {f : CV → CV → CH → Option (CV × CH)} {a b : CE} {s : CS} {h : CH} {w : CV × CH} (e : cBin f a b s h = some w) : ∃ v h1 u h2, a s h = some (v, h1) ∧ b s h1 = some (u, h2) ∧ f v u h2 = some w := by
  unfold cBin at e
  split at e
  · cases e
  · rename_i v h1 e1
    split at e
    · cases e
    · rename_i u h2 e2
      exact ⟨v, h1, u, h2, e1, e2, e⟩
theorem cUn_some {f : CV → CH → Option (CV × CH)} {a : CE} {s : CS} {h : CH} {w : CV × CH} (e : cUn f a s h = some w) : ∃ v h1, a s h = some (v, h1) ∧ f v h1 = some w := by
  unfold cUn at e
  split at e
  · cases e
  · rename_i v h1 e1
    exact ⟨v, h1, e1, e⟩
theorem op_of {f : CV → CV → CH → Option (CV × CH)} {r : R2} (hf : VOp cc f r) {a b : CE} {σ : L2.St} {H : Hp} {Q : VK} (q : eOf cc (cBin f a b) σ H Q) : tOp r (eOf cc a) (eOf cc b) σ H Q := by
  obtain ⟨η, h, s, rs, hr, w, h', e, k⟩ := q
  obtain ⟨v, h1, u, h2, e1, e2, e3⟩ := cBin_some e
  refine ⟨η, h, s, rs, hr, v, h1, e1, fun η1 H1 x S1 R1 rx => ⟨η1, h1, s, RS.mono S1.le rs, R1, u, h2, e2, fun η2 H2 y S2 R2 ry => ?_⟩⟩
  exact hf R2 (RV.mono S2.le rx) ry e3 fun η3 H3 z S3 R3 rz => k η3 H3 z (Stp.trans (Stp.trans S1 R1 S2) R2 S3) R3 rz
theorem un_of {f : CV → CH → Option (CV × CH)} {r : V → Hp → VK → Prop} (hf : VUn cc f r) {a : CE} {σ : L2.St} {H : Hp} {Q : VK} (q : eOf cc (cUn f a) σ H Q) : tUn r (eOf cc a) σ H Q := by
  obtain ⟨η, h, s, rs, hr, w, h', e, k⟩ := q
  obtain ⟨v, h1, e1, e3⟩ := cUn_some e
  refine ⟨η, h, s, rs, hr, v, h1, e1, fun η1 H1 x S1 R1 rx => ?_⟩
  exact hf R1 rx e3 fun η3 H3 z S3 R3 rz => k η3 H3 z (Stp.trans S1 R1 S3) R3 rz

/-! ### values -/
theorem kn_same {η : Em} {h : CH} {H : Hp} {w : CV} {Q : VK} {y : V} (hr : HR cc η h H) (k : Kn cc η H w h Q) (r : RV η w y) : Q y H := k η H y (Stp.refl _ _) hr r
theorem kn_new {η : Em} {h : CH} {H : Hp} {o : CO} {O : HO} {Q : VK} (hr : HR cc η h H) (ro : RO η o O) (k : Kn cc η H (.ref h.length) (h.new (o)) Q) {p : Addr} (hp : H p = none) : Q (.ref p) (upd H p O) := by
  obtain ⟨a, b⟩ := hr.new ro hp
  exact k (η.push p) _ _ b a ⟨p, Em.push_new η p hr.len, rfl⟩
theorem kn_lst {η : Em} {h : CH} {H : Hp} {xs : List CV} {ys : List V} {Q : VK} (hr : HR cc η h H) (r : RVs η xs ys) (k : Kn cc η H (.ref h.length) (h.new (.lst xs)) Q) {p : Addr} (hp : H p = none) : Q (.ref p) (upd H p (.lst ys)) := kn_new hr (o := .lst xs) (O := .lst ys) ⟨ys, rfl, r⟩ k hp
theorem kn_tup {η : Em} {h : CH} {H : Hp} {xs : List CV} {ys : List V} {Q : VK} (hr : HR cc η h H) (r : RVs η xs ys) (k : Kn cc η H (.ref h.length) (h.new (.tup xs)) Q) {p : Addr} (hp : H p = none) : Q (.ref p) (upd H p (.tup ys)) := kn_new hr (o := .tup xs) (O := .tup ys) ⟨ys, rfl, r⟩ k hp
/-- equality of flat values, where their kinds are told apart -/
def ceq : CV → CV → Option Bool
  | .non, .non => some true
  | .bl a, .bl b => some (a == b)
  | .int a, .int b => some (a == b)
  | .str a, .str b => some (a == b)
  | .key a, .key b => some (a == b)
  | .non, .int _ => some false | .int _, .non => some false
  | .non, .bl _ => some false | .bl _, .non => some false
  | .non, .str _ => some false | .str _, .non => some false
  | .non, .key _ => some false | .key _, .non => some false
  | .int _, .str _ => some false | .str _, .int _ => some false
  | .bl _, .str _ => some false | .str _, .bl _ => some false
  | _, _ => none
theorem Tx_inj {a b : List Nat} : Tx a = Tx b ↔ a = b := by
  constructor
  · intro e
    have : a.toArray = b.toArray := congrArg Str.cps e
    simpa using this
  · intro e; rw [e]
theorem HR.key {η : Em} {h : CH} {H : Hp} (r : HR cc η h H) {i j : Nat} : η.k i = η.k j ↔ i = j := by
  constructor
  · intro e
    rcases Nat.lt_trichotomy i j with q | q | q
    · have := r.mo i j q; omega
    · exact q
    · have := r.mo j i q; omega
  · intro e; rw [e]
theorem HR.klt {η : Em} {h : CH} {H : Hp} (r : HR cc η h H) {i j : Nat} : η.k i < η.k j ↔ i < j := by
  constructor
  · intro e
    rcases Nat.lt_trichotomy i j with q | q | q
    · exact q
    · subst q; omega
    · have := r.mo j i q; omega
  · exact r.mo i j
theorem beq_comm' {α : Type} [BEq α] [LawfulBEq α] (p q : α) : (q == p) = (p == q) := by
  by_cases h : p = q
  · subst h; rfl
  · rw [beq_eq_false_iff_ne.mpr h, beq_eq_false_iff_ne.mpr (fun z => h z.symm)]
theorem Tx_beq (a b : List Nat) : (Tx a == Tx b) = (a == b) := by
  by_cases h : a = b
  · subst h; rw [beq_self_eq_true, beq_self_eq_true]
  · rw [beq_eq_false_iff_ne.mpr h, beq_eq_false_iff_ne.mpr (fun z => h (Tx_inj.mp z))]
theorem HR.kbeq {η : Em} {h : CH} {H : Hp} (r : HR cc η h H) {i j : Nat} : (η.k i == η.k j) = (i == j) := by
  by_cases h : i = j
  · subst h; rw [beq_self_eq_true, beq_self_eq_true]
  · rw [beq_eq_false_iff_ne.mpr h, beq_eq_false_iff_ne.mpr (fun z => h (r.key.mp z))]
/-- what ceq is worth -/
structure Ceq (x y : V) (b : Bool) : Prop where
  sc : scal x y = true
  de : decide (x = y) = b
  fx : flatV x = true
  fy : flatV y = true
  e1 : eqV x y = b
  e2 : eqV y x = b
theorem Ceq.int (a b : Int) : Ceq (.int a) (.int b) (a == b) := ⟨rfl, dec_int, rfl, rfl, rfl, beq_comm' a b⟩
theorem Ceq.bl (a b : Bool) : Ceq (.bl a) (.bl b) (a == b) := ⟨rfl, dec_bl, rfl, rfl, rfl, beq_comm' a b⟩
theorem Ceq.str (a b : Str) : Ceq (.str a) (.str b) (a == b) := ⟨rfl, dec_str, rfl, rfl, rfl, beq_comm' a b⟩
theorem ceq_of {η : Em} {h : CH} {H : Hp} (hr : HR cc η h H) {v u : CV} {x y : V} {b : Bool} (r1 : RV η v x) (r2 : RV η u y) (e : ceq v u = some b) : Ceq x y b := by
  cases v with
  | non =>
    cases (show x = .non from r1)
    cases u with
    | non => cases (show y = .non from r2); cases e; exact ⟨rfl, decide_eq_true rfl, rfl, rfl, rfl, rfl⟩
    | int j => cases (show y = .int j from r2); cases e; exact ⟨rfl, decide_eq_false (fun q => nomatch q), rfl, rfl, rfl, rfl⟩
    | bl j => cases (show y = .bl j from r2); cases e; exact ⟨rfl, decide_eq_false (fun q => nomatch q), rfl, rfl, rfl, rfl⟩
    | str j => cases (show y = .str (Tx j) from r2); cases e; exact ⟨rfl, decide_eq_false (fun q => nomatch q), rfl, rfl, rfl, rfl⟩
    | key j => cases (show y = .int (η.k j) from r2); cases e; exact ⟨rfl, decide_eq_false (fun q => nomatch q), rfl, rfl, rfl, rfl⟩
    | ref j => cases e
    | ty j => cases e
    | off j => cases e
    | opq => cases e
  | int i =>
    cases (show x = .int i from r1)
    cases u with
    | non => cases (show y = .non from r2); cases e; exact ⟨rfl, decide_eq_false (fun q => nomatch q), rfl, rfl, rfl, rfl⟩
    | int j => cases (show y = .int j from r2); cases e; exact Ceq.int i j
    | str j => cases (show y = .str (Tx j) from r2); cases e; exact ⟨rfl, decide_eq_false (fun q => nomatch q), rfl, rfl, rfl, rfl⟩
    | bl j => cases e
    | key j => cases e
    | ref j => cases e
    | ty j => cases e
    | off j => cases e
    | opq => cases e
  | bl i =>
    cases (show x = .bl i from r1)
    cases u with
    | non => cases (show y = .non from r2); cases e; exact ⟨rfl, decide_eq_false (fun q => nomatch q), rfl, rfl, rfl, rfl⟩
    | bl j => cases (show y = .bl j from r2); cases e; exact Ceq.bl i j
    | str j => cases (show y = .str (Tx j) from r2); cases e; exact ⟨rfl, decide_eq_false (fun q => nomatch q), rfl, rfl, rfl, rfl⟩
    | int j => cases e
    | key j => cases e
    | ref j => cases e
    | ty j => cases e
    | off j => cases e
    | opq => cases e
  | str i =>
    cases (show x = .str (Tx i) from r1)
    cases u with
    | non => cases (show y = .non from r2); cases e; exact ⟨rfl, decide_eq_false (fun q => nomatch q), rfl, rfl, rfl, rfl⟩
    | bl j => cases (show y = .bl j from r2); cases e; exact ⟨rfl, decide_eq_false (fun q => nomatch q), rfl, rfl, rfl, rfl⟩
    | int j => cases (show y = .int j from r2); cases e; exact ⟨rfl, decide_eq_false (fun q => nomatch q), rfl, rfl, rfl, rfl⟩
    | str j => cases (show y = .str (Tx j) from r2); cases e; rw [← Tx_beq]; exact Ceq.str _ _
    | key j => cases e
    | ref j => cases e
    | ty j => cases e
    | off j => cases e
    | opq => cases e
  | key i =>
    cases (show x = .int (η.k i) from r1)
    cases u with
    | non => cases (show y = .non from r2); cases e; exact ⟨rfl, decide_eq_false (fun q => nomatch q), rfl, rfl, rfl, rfl⟩
    | key j => cases (show y = .int (η.k j) from r2); cases e; rw [← hr.kbeq]; exact Ceq.int _ _
    | bl j => cases e
    | int j => cases e
    | str j => cases e
    | ref j => cases e
    | ty j => cases e
    | off j => cases e
    | opq => cases e
  | ref i => cases u <;> cases e
  | ty i => cases u <;> cases e
  | off i => cases u <;> cases e
  | opq => cases u <;> cases e
end CK

/-! CK: operators. -/
namespace CK
open PySem L2
variable {X : Cx} {cc : Nat → Addr}

/-! ### lists in step -/
section
variable {α β : Type} {F : α → β → Prop}
theorem Pd.app : ∀ {a c : List α} {b d : List β}, Paired F a b → Paired F c d → Paired F (a ++ c) (b ++ d)
  | _, _, _, _, .nil, s => s
  | _, _, _, _, .cons r t, s => .cons r (Pd.app t s)
theorem Pd.get : ∀ {a : List α} {b : List β} {i : Nat} {x : α}, Paired F a b → a[i]? = some x → ∃ y, b[i]? = some y ∧ F x y
  | _, _, _, _, .nil, e => by simp at e
  | _, _, 0, _, .cons r _, e => by simp at e; subst e; exact ⟨_, rfl, r⟩
  | _, _, i + 1, x, .cons _ t, e => by
    obtain ⟨u, h1, h2⟩ := Pd.get (i := i) (x := x) t (by simpa using e)
    exact ⟨u, by simpa using h1, h2⟩
theorem Pd.take : ∀ {a : List α} {b : List β} (n : Nat), Paired F a b → Paired F (a.take n) (b.take n)
  | _, _, 0, _ => .nil
  | _, _, _ + 1, .nil => .nil
  | _, _, n + 1, .cons r t => .cons r (Pd.take n t)
theorem Pd.drop : ∀ {a : List α} {b : List β} (n : Nat), Paired F a b → Paired F (a.drop n) (b.drop n)
  | _, _, 0, r => r
  | _, _, _ + 1, .nil => .nil
  | _, _, n + 1, .cons _ t => Pd.drop n t
theorem Pd.set {x : α} {y : β} (r : F x y) : ∀ {a : List α} {b : List β} (i : Nat), Paired F a b → Paired F (a.set i x) (b.set i y)
  | _, _, _, .nil => .nil
  | _, _, 0, .cons _ t => .cons r t
  | _, _, i + 1, .cons q t => .cons q (Pd.set r i t)
theorem Pd.erase : ∀ {a : List α} {b : List β} (i : Nat), Paired F a b → Paired F (a.eraseIdx i) (b.eraseIdx i)
  | _, _, _, .nil => .nil
  | _, _, 0, .cons _ t => t
  | _, _, i + 1, .cons q t => .cons q (Pd.erase i t)
theorem Pd.dropLast {a : List α} {b : List β} (h : Paired F a b) : Paired F a.dropLast b.dropLast := by
  rw [List.dropLast_eq_take, List.dropLast_eq_take, ← h.length]
  exact Pd.take _ h
theorem Pd.rep {a : List α} {b : List β} (h : Paired F a b) : ∀ k : Nat, Paired F (List.replicate k a).flatten (List.replicate k b).flatten
  | 0 => .nil
  | k + 1 => by
    rw [List.replicate_succ, List.replicate_succ, List.flatten_cons, List.flatten_cons]
    exact Pd.app h (Pd.rep h k)
end
theorem Tx_len (l : List Nat) : (Tx l).length = l.length := by simp [Tx, Str.length]
theorem Tx_app (a b : List Nat) : Tx a ++ Tx b = Tx (a ++ b) := by
  show Str.mk (a.toArray ++ b.toArray) = Str.mk (a ++ b).toArray
  simp
theorem Tx_cps (l : List Nat) : (Tx l).cps.toList = l := by simp [Tx]
theorem Tx_one (c : Nat) : Tx [c] = ⟨#[c]⟩ := rfl
theorem small {n : Nat} (h : n ≤ 4000) : n ≤ sizeLine := by rw [sizeLine_eq]; omega

/-! ### arithmetic -/
def fAdd : CV → CV → CH → Option (CV × CH)
  | .int i, .int j, h => some (.int (i + j), h)
  | .str x, .str y, h => if x.length + y.length ≤ 4000 then some (.str (x ++ y), h) else none
  | .ref a, .ref b, h => match h.get a, h.get b with
    | some (.lst xs), some (.lst ys) => if xs.length + ys.length ≤ 4000 then some (.ref h.length, h.new (.lst (xs ++ ys))) else none
    | _, _ => none
  | _, _, _ => none
theorem vAdd : VOp cc fAdd (fun x y H Q => rI0 (fun i j => .int (i + j)) x y H Q ∨ ((∃ i j, x = .str i ∧ y = .str j ∧ i.length + j.length ≤ sizeLine ∧ Q (.str (i ++ j)) H) ∨ rCat x y H Q)) := by
  intro η h H v u x y w h' Q hr r1 r2 e k
  unfold fAdd at e
  split at e
  · cases e
    exact .inl ⟨_, _, r1, r2, kn_same hr k rfl⟩
  · split at e
    · rename_i hz
      cases e
      refine .inr (.inl ⟨_, _, r1, r2, by rw [Tx_len, Tx_len]; exact small hz, ?_⟩)
      rw [Tx_app]
      exact kn_same hr k rfl
    · cases e
  · obtain ⟨a, ea, rfl⟩ := r1
    obtain ⟨b, eb, rfl⟩ := r2
    split at e
    · rename_i xs ys e1 e2
      split at e
      · rename_i hz
        cases e
        obtain ⟨xs', q1, p1⟩ := hr.lst e1 ea
        obtain ⟨ys', q2, p2⟩ := hr.lst e2 eb
        refine .inr (.inr ⟨a, b, xs', ys', rfl, rfl, q1, q2, by rw [← p1.length, ← p2.length]; exact small hz, fun p hp => ?_⟩)
        exact kn_lst hr (Pd.app p1 p2) k hp
      · cases e
    · cases e
  · cases e
def fInt2 (g : Int → Int → Int) : CV → CV → CH → Option (CV × CH)
  | .int i, .int j, h => some (.int (g i j), h)
  | _, _, _ => none
theorem vInt2 (g : Int → Int → Int) : VOp cc (fInt2 g) (rI0 fun i j => .int (g i j)) := by
  intro η h H v u x y w h' Q hr r1 r2 e k
  unfold fInt2 at e
  split at e
  · cases e
    exact ⟨_, _, r1, r2, kn_same hr k rfl⟩
  · cases e
def fIntC (C : Int → Int → Bool) (g : Int → Int → Int) : CV → CV → CH → Option (CV × CH)
  | .int i, .int j, h => if C i j then some (.int (g i j), h) else none
  | _, _, _ => none
theorem vIntC {C : Int → Int → Bool} {g : Int → Int → Int} {D : Int → Int → Prop} (hD : ∀ i j, C i j = true → D i j) : VOp cc (fIntC C g) (rI D fun i j => .int (g i j)) := by
  intro η h H v u x y w h' Q hr r1 r2 e k
  unfold fIntC at e
  split at e
  · split at e
    · rename_i hc
      cases e
      exact ⟨_, _, r1, r2, hD _ _ hc, kn_same hr k rfl⟩
    · cases e
  · cases e
def cDivOk (i j : Int) : Bool := decide (0 < j) && decide (j < 1073741824)
def cModOk (i j : Int) : Bool := decide (0 < j)
def cMulOk (i j : Int) : Bool := (decide (-1000000000000 < i) && decide (i < 1000000000000)) || (decide (-1000000000000 < j) && decide (j < 1000000000000))
def cPowOk (i j : Int) : Bool := decide (0 ≤ j) && decide (j ≤ 1000) && decide (i.natAbs < 1000000)
theorem divOk (i j : Int) (h : cDivOk i j = true) : CDiv i j := by
  simp only [cDivOk, Bool.and_eq_true, decide_eq_true_eq] at h; exact h
theorem modOk (i j : Int) (h : cModOk i j = true) : 0 < j := of_decide_eq_true h
theorem mulOk (i j : Int) (h : cMulOk i j = true) : CMul i j := by
  simp only [cMulOk, Bool.and_eq_true, Bool.or_eq_true, decide_eq_true_eq] at h
  unfold CMul
  rcases h with h | h
  · exact .inl ⟨by omega, by omega⟩
  · exact .inr ⟨by omega, by omega⟩
theorem powOk (i j : Int) (h : cPowOk i j = true) : CPow i j := by
  simp only [cPowOk, Bool.and_eq_true, decide_eq_true_eq] at h
  unfold CPow
  omega
def fMul : CV → CV → CH → Option (CV × CH)
  | .int i, .int j, h => if cMulOk i j then some (.int (i * j), h) else none
  | .ref a, .int k, h => match h.get a with
    | some (.lst xs) => if decide (0 ≤ k) && decide (k ≤ 1000) && decide (xs.length * k.toNat ≤ 4000) then some (.ref h.length, h.new (.lst (List.replicate k.toNat xs).flatten)) else none
    | _ => none
  | _, _, _ => none
theorem vMul : VOp cc fMul (fun x y H Q => rI CMul (fun i j => .int (i * j)) x y H Q ∨ rRep x y H Q) := by
  intro η h H v u x y w h' Q hr r1 r2 e k
  unfold fMul at e
  split at e
  · split at e
    · rename_i hc
      cases e
      exact .inl ⟨_, _, r1, r2, mulOk _ _ hc, kn_same hr k rfl⟩
    · cases e
  · obtain ⟨a, ea, rfl⟩ := r1
    split at e
    · rename_i kk _ xs e1
      split at e
      · rename_i hc
        simp only [Bool.and_eq_true, decide_eq_true_eq] at hc
        cases e
        obtain ⟨xs', q1, p1⟩ := hr.lst e1 ea
        refine .inr ⟨a, kk, xs', rfl, r2, q1, by omega, by omega, by rw [← p1.length]; exact small hc.2, fun p hp => ?_⟩
        exact kn_lst hr (Pd.rep p1 _) k hp
      · cases e
    · cases e
  · cases e
def fNeg : CV → CH → Option (CV × CH)
  | .int i, h => some (.int (-i), h)
  | _, _ => none
theorem vNeg : VUn cc fNeg (rU fun i => .int (-i)) := by
  intro η h H v x w h' Q hr r1 e k
  unfold fNeg at e
  split at e
  · cases e; exact ⟨_, r1, kn_same hr k rfl⟩
  · cases e
section
variable {a b : Expr} {ca cb : CE} {pos : Pos}
theorem ke_add (ha : PE X a (eOf cc ca)) (hb : PE X b (eOf cc cb)) : PE X (.BinOp a .Add b pos) (eOf cc (cBin fAdd ca cb)) := pe_imp (pe_op (op_add.or (op_add_str.or op_cat)) ha hb) fun _ _ _ q => op_of vAdd q
theorem ke_sub (ha : PE X a (eOf cc ca)) (hb : PE X b (eOf cc cb)) : PE X (.BinOp a .Sub b pos) (eOf cc (cBin (fInt2 fun i j => i - j) ca cb)) := pe_imp (pe_op op_sub ha hb) fun _ _ _ q => op_of (vInt2 _) q
theorem ke_mul (ha : PE X a (eOf cc ca)) (hb : PE X b (eOf cc cb)) : PE X (.BinOp a .Mult b pos) (eOf cc (cBin fMul ca cb)) := pe_imp (pe_op (op_mul.or op_rep) ha hb) fun _ _ _ q => op_of vMul q
theorem ke_div (ha : PE X a (eOf cc ca)) (hb : PE X b (eOf cc cb)) : PE X (.BinOp a .FloorDiv b pos) (eOf cc (cBin (fIntC cDivOk fun i j => i / j) ca cb)) := pe_imp (pe_op op_fdiv ha hb) fun _ _ _ q => op_of (vIntC divOk) q
theorem ke_mod (ha : PE X a (eOf cc ca)) (hb : PE X b (eOf cc cb)) : PE X (.BinOp a .Mod b pos) (eOf cc (cBin (fIntC cModOk fun i j => i % j) ca cb)) := pe_imp (pe_op op_mod ha hb) fun _ _ _ q => op_of (vIntC modOk) q
theorem ke_pow (ha : PE X a (eOf cc ca)) (hb : PE X b (eOf cc cb)) : PE X (.BinOp a .Pow b pos) (eOf cc (cBin (fIntC cPowOk fun i j => i ^ j.toNat) ca cb)) := pe_imp (pe_op op_pow ha hb) fun _ _ _ q => op_of (vIntC powOk) q
theorem ke_neg (ha : PE X a (eOf cc ca)) : PE X (.UnaryOp .USub a pos) (eOf cc (cUn fNeg ca)) := pe_imp (pe_un un_neg ha) fun _ _ _ q => un_of vNeg q
end

/-! ### comparisons -/
/-- the order of ints, of keys -/
def fOrd (p : Int → Int → Bool) (q : Nat → Nat → Bool) : CV → CV → CH → Option (CV × CH)
  | .int i, .int j, h => some (.bl (p i j), h)
  | .key i, .key j, h => some (.bl (q i j), h)
  | _, _, _ => none
theorem vOrd {p : Int → Int → Bool} {q : Nat → Nat → Bool} (hq : ∀ (κ : Nat → Int), (∀ i j, κ i < κ j ↔ i < j) → ∀ i j, p (κ i) (κ j) = q i j) : VOp cc (fOrd p q) (rI0 fun i j => .bl (p i j)) := by
  intro η h H v u x y w h' Q hr r1 r2 e k
  unfold fOrd at e
  split at e
  · cases e; exact ⟨_, _, r1, r2, kn_same hr k rfl⟩
  · cases e
    refine ⟨_, _, r1, r2, ?_⟩
    show Q (V.bl (p _ _)) H
    rw [hq η.k (fun i j => hr.klt)]
    exact kn_same hr k rfl
  · cases e
abbrev fLt := fOrd (fun i j => decide (i < j)) (fun i j => decide (i < j))
abbrev fLe := fOrd (fun i j => decide (i ≤ j)) (fun i j => decide (i ≤ j))
abbrev fGt := fOrd (fun i j => decide (j < i)) (fun i j => decide (j < i))
abbrev fGe := fOrd (fun i j => decide (j ≤ i)) (fun i j => decide (j ≤ i))
theorem dec_iff {p q : Prop} [Decidable p] [Decidable q] (h : p ↔ q) : decide p = decide q := by
  by_cases c : p
  · rw [decide_eq_true c, decide_eq_true (h.mp c)]
  · rw [decide_eq_false c, decide_eq_false fun z => c (h.mpr z)]
theorem vLt : VOp cc fLt (rI0 fun i j => .bl (decide (i < j))) := vOrd fun κ m i j => dec_iff (m i j)
theorem vLe : VOp cc fLe (rI0 fun i j => .bl (decide (i ≤ j))) := vOrd fun κ m i j => dec_iff (by have := m j i; omega)
theorem vGt : VOp cc fGt (rI0 fun i j => .bl (decide (j < i))) := vOrd fun κ m i j => dec_iff (m j i)
theorem vGe : VOp cc fGe (rI0 fun i j => .bl (decide (j ≤ i))) := vOrd fun κ m i j => dec_iff (by have := m i j; omega)
def isNon : CV → Bool
  | .non => true
  | _ => false
def fIsN : CV → CV → CH → Option (CV × CH)
  | v, .non, h => some (.bl (isNon v), h)
  | _, _, _ => none
def fNotN : CV → CV → CH → Option (CV × CH)
  | v, .non, h => some (.bl (!isNon v), h)
  | _, _, _ => none
theorem non_iff {η : Em} {v : CV} {x : V} (r : RV η v x) : decide (x = .non) = isNon v := by
  cases v with
  | non => cases (show x = .non from r); rfl
  | bl b => cases (show x = .bl b from r); rfl
  | int b => cases (show x = .int b from r); rfl
  | str b => cases (show x = .str (Tx b) from r); rfl
  | ref b => obtain ⟨a, _, rfl⟩ := r; rfl
  | ty b => cases (show x = .ty b from r); rfl
  | off b => cases (show x = .int (η.t + b) from r); rfl
  | opq => cases (show x = .ref (η.k 0).toNat from r); rfl
  | key b => cases (show x = .int (η.k b) from r); rfl
theorem vIsN : VOp cc fIsN (fun x y H Q => y = .non ∧ Q (.bl (decide (x = .non))) H) := by
  intro η h H v u x y w h' Q hr r1 r2 e k
  unfold fIsN at e
  split at e
  · cases e
    refine ⟨r2, ?_⟩
    rw [non_iff r1]
    exact kn_same hr k rfl
  · cases e
theorem vNotN : VOp cc fNotN (fun x y H Q => y = .non ∧ Q (.bl (!decide (x = .non))) H) := by
  intro η h H v u x y w h' Q hr r1 r2 e k
  unfold fNotN at e
  split at e
  · cases e
    refine ⟨r2, ?_⟩
    rw [non_iff r1]
    exact kn_same hr k rfl
  · cases e
def fEq : CV → CV → CH → Option (CV × CH) := fun v u h => match ceq v u with | some b => some (.bl b, h) | none => none
def fNe : CV → CV → CH → Option (CV × CH) := fun v u h => match ceq v u with | some b => some (.bl (!b), h) | none => none
theorem vEq : VOp cc fEq rEq := by
  intro η h H v u x y w h' Q hr r1 r2 e k
  unfold fEq at e
  split at e
  · rename_i b eb
    cases e
    have q := ceq_of hr r1 r2 eb
    exact ⟨q.sc, by rw [q.de]; exact kn_same hr k rfl⟩
  · cases e
theorem vNe : VOp cc fNe rNe := by
  intro η h H v u x y w h' Q hr r1 r2 e k
  unfold fNe at e
  split at e
  · rename_i b eb
    cases e
    have q := ceq_of hr r1 r2 eb
    exact ⟨q.sc, by rw [q.de]; exact kn_same hr k rfl⟩
  · cases e
/-- x in xs, kinds told apart at each item -/
def cIn (x : CV) : List CV → Option Bool
  | [] => some false
  | y :: ys => match ceq x y with
    | none => none
    | some b => match cIn x ys with
      | none => none
      | some c => some (b || c)
theorem cIn_of {η : Em} {h : CH} {H : Hp} (hr : HR cc η h H) {v : CV} {x : V} (r : RV η v x) : ∀ {xs : List CV} {ys : List V} {b : Bool}, RVs η xs ys → cIn v xs = some b → inV x ys = b ∧ ys.all flatV = true ∧ (xs ≠ [] → flatV x = true)
  | _, _, b, .nil, e => by
    cases e
    exact ⟨rfl, rfl, fun z => absurd rfl z⟩
  | a :: as, y :: ys, b, .cons r1 rs, e => by
    unfold cIn at e
    split at e
    · cases e
    · rename_i c ec
      split at e
      · cases e
      · rename_i d ed
        cases e
        have q := ceq_of hr r r1 ec
        obtain ⟨h1, h2, _⟩ := cIn_of hr r rs ed
        refine ⟨?_, ?_, fun _ => q.fx⟩
        · show (eqV y x || inV x ys) = _
          rw [q.e2, h1]
        · rw [List.all_cons, q.fy, h2]; rfl
def isFlat : CV → Bool
  | .non => true | .bl _ => true | .int _ => true | .str _ => true | .key _ => true
  | _ => false
theorem flat_of {η : Em} {v : CV} {x : V} (r : RV η v x) (f : isFlat v = true) : flatV x = true := by
  cases v with
  | non => cases (show x = .non from r); rfl
  | bl b => cases (show x = .bl b from r); rfl
  | int b => cases (show x = .int b from r); rfl
  | str b => cases (show x = .str (Tx b) from r); rfl
  | ref b => cases f
  | ty b => cases f
  | off b => cases f
  | opq => cases f
  | key b => cases (show x = .int (η.k b) from r); rfl
def fIn (neg : Bool) : CV → CV → CH → Option (CV × CH)
  | v, .ref a, h => if isFlat v then (match h.get a with
    | some (.lst xs) => (match cIn v xs with | some b => some (.bl (if neg then !b else b), h) | none => none)
    | some (.tup xs) => (match cIn v xs with | some b => some (.bl (if neg then !b else b), h) | none => none)
    | _ => none) else none
  | _, _, _ => none
theorem vIn {K : PySem.W.Frag} (neg : Bool) : VOp cc (fIn neg) (rIn K neg) := by
  intro η h H v u x y w h' Q hr r1 r2 e k
  unfold fIn at e
  split at e
  · obtain ⟨a, ea, rfl⟩ := r2
    split at e
    · rename_i hf
      split at e
      · rename_i xs e1
        split at e
        · rename_i b eb
          cases e
          obtain ⟨ys, q1, p1⟩ := hr.lst e1 ea
          obtain ⟨h1, h2, _⟩ := cIn_of hr r1 p1 eb
          refine ⟨a, ys, rfl, .inl (SqL.of q1), flat_of r1 hf, h2, ?_⟩
          rw [h1]
          exact kn_same hr k rfl
        · cases e
      · rename_i xs e1
        split at e
        · rename_i b eb
          cases e
          obtain ⟨ys, q1, p1⟩ := hr.tup e1 ea
          obtain ⟨h1, h2, _⟩ := cIn_of hr r1 p1 eb
          refine ⟨a, ys, rfl, .inr (SqT.of q1), flat_of r1 hf, h2, ?_⟩
          rw [h1]
          exact kn_same hr k rfl
        · cases e
      · cases e
    · cases e
  · cases e
section
variable {a b : Expr} {ca cb : CE} {pos : Pos}
theorem ke_eq (ha : PE X a (eOf cc ca)) (hb : PE X b (eOf cc cb)) : PE X (.Compare a [.Eq] [b] pos) (eOf cc (cBin fEq ca cb)) := pe_imp (pe_cmpR op_eq ha hb (nomark _)) fun _ _ _ q => op_of vEq q
theorem ke_ne (ha : PE X a (eOf cc ca)) (hb : PE X b (eOf cc cb)) : PE X (.Compare a [.NotEq] [b] pos) (eOf cc (cBin fNe ca cb)) := pe_imp (pe_cmpR op_ne ha hb (nomark _)) fun _ _ _ q => op_of vNe q
theorem ke_lt (ha : PE X a (eOf cc ca)) (hb : PE X b (eOf cc cb)) : PE X (.Compare a [.Lt] [b] pos) (eOf cc (cBin fLt ca cb)) := pe_imp (pe_cmpR op_lt ha hb (nomark _)) fun _ _ _ q => op_of vLt q
theorem ke_le (ha : PE X a (eOf cc ca)) (hb : PE X b (eOf cc cb)) : PE X (.Compare a [.LtE] [b] pos) (eOf cc (cBin fLe ca cb)) := pe_imp (pe_cmpR op_le ha hb (nomark _)) fun _ _ _ q => op_of vLe q
theorem ke_gt (ha : PE X a (eOf cc ca)) (hb : PE X b (eOf cc cb)) : PE X (.Compare a [.Gt] [b] pos) (eOf cc (cBin fGt ca cb)) := pe_imp (pe_cmpR op_gt ha hb (nomark _)) fun _ _ _ q => op_of vGt q
theorem ke_ge (ha : PE X a (eOf cc ca)) (hb : PE X b (eOf cc cb)) : PE X (.Compare a [.GtE] [b] pos) (eOf cc (cBin fGe ca cb)) := pe_imp (pe_cmpR op_ge ha hb (nomark _)) fun _ _ _ q => op_of vGe q
theorem ke_isN (ha : PE X a (eOf cc ca)) (hb : PE X b (eOf cc cb)) : PE X (.Compare a [.Is] [b] pos) (eOf cc (cBin fIsN ca cb)) := pe_imp (pe_cmpR op_isN ha hb (nomark _)) fun _ _ _ q => op_of vIsN q
theorem ke_notN (ha : PE X a (eOf cc ca)) (hb : PE X b (eOf cc cb)) : PE X (.Compare a [.IsNot] [b] pos) (eOf cc (cBin fNotN ca cb)) := pe_imp (pe_cmpR op_notN ha hb (nomark _)) fun _ _ _ q => op_of vNotN q
theorem ke_in (ha : PE X a (eOf cc ca)) (hb : PE X b (eOf cc cb)) (hm : behindInMarks .In b = false := by with_unfolding_all rfl) : PE X (.Compare a [.In] [b] pos) (eOf cc (cBin (fIn false) ca cb)) := pe_imp (pe_cmpR op_in_seq ha hb hm) fun _ _ _ q => op_of (vIn false) q
theorem ke_notIn (ha : PE X a (eOf cc ca)) (hb : PE X b (eOf cc cb)) (hm : behindInMarks .NotIn b = false := by with_unfolding_all rfl) : PE X (.Compare a [.NotIn] [b] pos) (eOf cc (cBin (fIn true) ca cb)) := pe_imp (pe_cmpR op_notIn_seq ha hb hm) fun _ _ _ q => op_of (vIn true) q
end
/-- x not in a tuple that the module has written -/
def fNotInC (xs : List CV) : CV → CH → Option (CV × CH) := fun v h => if isFlat v then (match cIn v xs with | some b => some (.bl (!b), h) | none => none) else none
theorem ke_notInK {e : Expr} {ce : CE} {x : Str} {xs : List CV} {ys : List V} {u : Value} {aT : Addr} {p pos : Pos} (he : PE X e (eOf cc ce)) (hg : Gl X x) (hm : X.mg x = some (.ref aT)) (hT : ∀ H, SqT X.K H aT ys) (r : ∀ η, RVs η xs ys)
    (hd : (x == ("__debug__" : Str)) = false := by decide) (hmk : behindInMarks .NotIn (.Name x p) = false := by with_unfolding_all rfl) : PE X (.Compare e [.NotIn] [.Name x p] pos) (eOf cc (cUn (fNotInC xs) ce)) := by
  refine pe_imp (pe_cmpR op_notIn_seq he (pe_glob (v := .ref aT) hg hm rfl hd) hmk) fun σ H Q q => ?_
  refine un_of (r := fun x H1 Q' => rIn X.K true x (.ref aT) H1 Q') (f := fNotInC xs) ?_ q
  intro η h H v x w h' Q' hr r1 e k
  unfold fNotInC at e
  split at e
  · rename_i hf
    split at e
    · rename_i b eb
      cases e
      obtain ⟨h1, h2, _⟩ := cIn_of hr r1 (r η) eb
      refine ⟨aT, ys, rfl, .inr (hT _), flat_of r1 hf, h2, ?_⟩
      rw [h1]
      exact kn_same hr k rfl
    · cases e
  · cases e
end CK

/-! CK: subscripts, displays, tests, calls. -/
namespace CK
open PySem L2
variable {X : Cx} {cc : Nat → Addr}

/-! ### subscripts -/
def fIx : CV → CV → CH → Option (CV × CH)
  | .ref a, .int i, h => match h.get a with
    | some (.lst xs) => (match atI xs i with | some v => some (v, h) | none => none)
    | some (.tup xs) => (match atI xs i with | some v => some (v, h) | none => none)
    | _ => none
  | .str x, .int i, h => if x.length ≤ 4000 then (match atI x i with | some c => some (.str [c], h) | none => none) else none
  | _, _, _ => none
theorem atI_pd {α β : Type} {F : α → β → Prop} {xs : List α} {ys : List β} (p : Paired F xs ys) {i : Int} {v : α} (e : atI xs i = some v) : ∃ y, atI ys i = some y ∧ F v y := by
  unfold atI at e ⊢
  rw [← p.length]
  cases q : ixN xs.length i with
  | none => rw [q] at e; cases e
  | some j =>
    rw [q] at e
    exact Pd.get p e
theorem vIx {K : PySem.W.Frag} : VOp cc fIx (rIx K) := by
  intro η h H v u x y w h' Q hr r1 r2 e k
  unfold fIx at e
  split at e
  · obtain ⟨a, ea, rfl⟩ := r1
    split at e
    · rename_i i _ xs e1
      split at e
      · rename_i v ev
        cases e
        obtain ⟨ys, q1, p1⟩ := hr.lst e1 ea
        obtain ⟨z, ez, rz⟩ := atI_pd p1 ev
        exact .inl ⟨a, ys, i, z, rfl, r2, SqL.of q1, ez, kn_same hr k rz⟩
      · cases e
    · rename_i i _ xs e1
      split at e
      · rename_i v ev
        cases e
        obtain ⟨ys, q1, p1⟩ := hr.tup e1 ea
        obtain ⟨z, ez, rz⟩ := atI_pd p1 ev
        exact .inr (.inl ⟨a, ys, i, z, rfl, r2, SqT.of q1, ez, kn_same hr k rz⟩)
      · cases e
    · cases e
  · split at e
    · rename_i hz
      split at e
      · rename_i c ec
        cases e
        refine .inr (.inr ⟨_, _, c, r1, r2, by rw [Tx_len]; exact small hz, by rw [Tx_cps]; exact ec, ?_⟩)
        rw [← Tx_one]
        exact kn_same hr k rfl
      · cases e
    · cases e
  · cases e
/-- the parts of a slice -/
abbrev CPt := CS → CH → Option (Option Int × CH)
def pOf (cc : Nat → Addr) (c : CPt) : TO := fun σ H Q => ∃ η h s, RS η s σ ∧ HR cc η h H ∧ ∃ v h', c s h = some (v, h') ∧ ∀ η' H', Stp η H η' H' → HR cc η' h' H' → Q v H'
def pNo : CPt := fun _ h => some (none, h)
def pYes (c : CE) : CPt := fun s h => match c s h with | some (.int i, h1) => some (some i, h1) | _ => none
theorem po_imp {o : Option Expr} {t t' : TO} (h : PO X o t) (i : ∀ σ H Q, t' σ H Q → t σ H Q) : PO X o t' := ⟨fun pins s σ H Q I q => h.run pins s σ H Q I (i _ _ _ q)⟩
theorem kp_no : PO X none (pOf cc pNo) := po_imp po_none fun σ H Q q => by
  obtain ⟨η, h, s, rs, hr, v, h', e, k⟩ := q
  cases e
  exact k η H (Stp.refl _ _) hr
theorem kp_yes {e : Expr} {c : CE} (he : PE X e (eOf cc c)) : PO X (some e) (pOf cc (pYes c)) := po_imp (po_some he) fun σ H Q q => by
  obtain ⟨η, h, s, rs, hr, v, h', e, k⟩ := q
  unfold pYes at e
  split at e
  · rename_i i h1 e1
    cases e
    exact ⟨η, h, s, rs, hr, _, _, e1, fun η' H' x S1 R1 rx => ⟨i, rx, k η' H' S1 R1⟩⟩
  · cases e
def cutC (xs : List CV) (lo hi : Option Int) : List CV := (xs.drop (HT.sIx xs.length 0 lo)).take (HT.sIx xs.length xs.length hi - HT.sIx xs.length 0 lo)
theorem cut_pd {η : Em} {xs : List CV} {ys : List V} (p : RVs η xs ys) (lo hi : Option Int) : RVs η (cutC xs lo hi) (cutV ys lo hi) := by
  unfold cutC cutV
  rw [← p.length]
  exact Pd.take _ (Pd.drop _ p)
def cSl (a : CE) (lo hi : CPt) : CE := fun s h =>
  match a s h with
  | some (.ref n, h1) => (match lo s h1 with
    | some (l, h2) => (match hi s h2 with
      | some (u, h3) => (match h3.get n with
        | some (.lst xs) => some (.ref h3.length, h3.new (.lst (cutC xs l u)))
        | _ => none)
      | none => none)
    | none => none)
  | _ => none
theorem ke_slice {e : Expr} {lo hi : Option Expr} {ca : CE} {cl cu : CPt} {p2 pos : Pos} (he : PE X e (eOf cc ca)) (hl : PO X lo (pOf cc cl)) (hu : PO X hi (pOf cc cu)) : PE X (.Subscript e (.Slice lo hi none p2) pos) (eOf cc (cSl ca cl cu)) := by
  refine pe_imp (pe_slice sl_list he hl hu) fun σ H Q q => ?_
  obtain ⟨η, h, s, rs, hr, w, h', e, k⟩ := q
  unfold cSl at e
  split at e
  · rename_i n h1 e1
    split at e
    · rename_i l h2 e2
      split at e
      · rename_i u h3 e3
        split at e
        · rename_i xs e4
          cases e
          refine ⟨η, h, s, rs, hr, _, _, e1, fun η1 H1 x S1 R1 rx => ⟨η1, h1, s, RS.mono S1.le rs, R1, _, _, e2, fun η2 H2 S2 R2 => ⟨η2, h2, s, RS.mono S2.le (RS.mono S1.le rs), R2, _, _, e3, fun η3 H3 S3 R3 => ?_⟩⟩⟩
          obtain ⟨a, ea, rfl⟩ := RV.mono S3.le (RV.mono S2.le rx)
          obtain ⟨ys, q1, p1⟩ := R3.lst e4 ea
          refine ⟨a, ys, rfl, SqL.of q1, fun p hp => ?_⟩
          exact kn_lst R3 (cut_pd p1 l u) (fun η4 H4 z S4 R4 rz => k η4 H4 z (Stp.trans (Stp.trans (Stp.trans S1 R1 S2) R2 S3) R3 S4) R4 rz) hp
        · cases e
      · cases e
    · cases e
  · cases e

/-! ### arguments, displays -/
def cNil : CA := fun _ h => some ([], h)
def cCons (a : CE) (r : CA) : CA := fun s h => match a s h with
  | none => none
  | some (v, h1) => match r s h1 with
    | none => none
    | some (vs, h2) => some (v :: vs, h2)
theorem ka_nil : PA X [] (aOf cc cNil) := pa_imp pa_nil fun σ H Q q => by
  obtain ⟨η, h, s, rs, hr, v, h', e, k⟩ := q
  cases e
  exact k η H [] (Stp.refl _ _) hr .nil
theorem ka_cons {e : Expr} {es : List Expr} {ce : CE} {cr : CA} (he : PE X e (eOf cc ce)) (hr : PA X es (aOf cc cr)) (hs : starEach (e :: es) X.env = (false, eval e X.env) :: starEach es X.env := by rfl) : PA X (e :: es) (aOf cc (cCons ce cr)) :=
  pa_imp (pa_cons he hr hs) fun σ H Q q => by
    obtain ⟨η, h, s, rs, hr, v, h', e, k⟩ := q
    unfold cCons at e
    split at e
    · cases e
    · rename_i v1 h1 e1
      split at e
      · cases e
      · rename_i vs h2 e2
        cases e
        exact ⟨η, h, s, rs, hr, _, _, e1, fun η1 H1 x S1 R1 rx => ⟨η1, h1, s, RS.mono S1.le rs, R1, _, _, e2, fun η2 H2 xs S2 R2 rxs => k η2 H2 _ (Stp.trans S1 R1 S2) R2 (.cons (RV.mono S2.le rx) rxs)⟩⟩
def cLst (a : CA) : CE := fun s h => match a s h with
  | some (vs, h1) => if vs.length ≤ 4000 then some (.ref h1.length, h1.new (.lst vs)) else none
  | none => none
def cTup (a : CA) : CE := fun s h => match a s h with
  | some (vs, h1) => if vs.length ≤ 4000 then some (.ref h1.length, h1.new (.tup vs)) else none
  | none => none
theorem ke_lst {es : List Expr} {c : CA} {pos : Pos} (ha : PA X es (aOf cc c)) : PE X (.List es pos) (eOf cc (cLst c)) := pe_imp (pe_lst ha) fun σ H Q q => by
  obtain ⟨η, h, s, rs, hr, v, h', e, k⟩ := q
  unfold cLst at e
  split at e
  · rename_i vs h1 e1
    split at e
    · rename_i hz
      cases e
      refine ⟨η, h, s, rs, hr, _, _, e1, fun η1 H1 xs S1 R1 rx => ⟨by rw [← rx.length]; exact small hz, fun p hp => ?_⟩⟩
      exact kn_lst R1 rx (fun η4 H4 z S4 R4 rz => k η4 H4 z (Stp.trans S1 R1 S4) R4 rz) hp
    · cases e
  · cases e
theorem ke_tup {es : List Expr} {c : CA} {x1} {pos : Pos} (ha : PA X es (aOf cc c)) : PE X (.Tuple es x1 pos) (eOf cc (cTup c)) := pe_imp (pe_tup ha) fun σ H Q q => by
  obtain ⟨η, h, s, rs, hr, v, h', e, k⟩ := q
  unfold cTup at e
  split at e
  · rename_i vs h1 e1
    split at e
    · rename_i hz
      cases e
      refine ⟨η, h, s, rs, hr, _, _, e1, fun η1 H1 xs S1 R1 rx => ⟨by rw [← rx.length]; exact small hz, fun p hp => ?_⟩⟩
      exact kn_tup R1 rx (fun η4 H4 z S4 R4 rz => k η4 H4 z (Stp.trans S1 R1 S4) R4 rz) hp
    · cases e
  · cases e
theorem ke_ix {a b : Expr} {ca cb : CE} {pos : Pos} (ha : PE X a (eOf cc ca)) (hb : PE X b (eOf cc cb)) (hs : PlainIx b := by exact fun _ _ => rfl) : PE X (.Subscript a b pos) (eOf cc (cBin fIx ca cb)) := pe_imp (pe_ix ix_seq ha hb hs) fun _ _ _ q => op_of vIx q

/-! ### tests -/
/-- a value's truth -/
def tru : CV → CH → Option Bool
  | .non, _ => some false
  | .bl b, _ => some b
  | .int i, _ => some (i != 0)
  | .ref a, h => match h.get a with
    | some (.lst xs) => some (!xs.isEmpty)
    | some (.tup xs) => some (!xs.isEmpty)
    | _ => none
  | _, _ => none
def cTru (c : CE) : CT := fun s h => match c s h with
  | none => none
  | some (v, h1) => match tru v h1 with
    | none => none
    | some b => some (b, h1)
theorem isEmpty_pd {α β : Type} {F : α → β → Prop} {xs : List α} {ys : List β} (p : Paired F xs ys) : (!xs.isEmpty) = !ys.isEmpty := by
  cases p <;> rfl
theorem tru_of {K : PySem.W.Frag} {η : Em} {h : CH} {H : Hp} (hr : HR cc η h H) {v : CV} {x : V} {b : Bool} (r : RV η v x) (e : tru v h = some b) : TruV K x H b := by
  cases v with
  | non => cases (show x = .non from r); cases e; rfl
  | bl i => cases (show x = .bl i from r); cases e; rfl
  | int i => cases (show x = .int i from r); cases e; rfl
  | str i => cases e
  | ty i => cases e
  | key i => cases e
  | off i => cases e
  | opq => cases e
  | ref n =>
    obtain ⟨a, ea, rfl⟩ := r
    change (match h.get n with | some (.lst xs) => some (!xs.isEmpty) | some (.tup xs) => some (!xs.isEmpty) | _ => none) = some b at e
    split at e
    · rename_i xs e1
      cases e
      obtain ⟨ys, q1, p1⟩ := hr.lst e1 ea
      exact .inl ⟨ys, SqL.of q1, isEmpty_pd p1⟩
    · rename_i xs e1
      cases e
      obtain ⟨ys, q1, p1⟩ := hr.tup e1 ea
      exact .inr (.inl ⟨ys, SqT.of q1, isEmpty_pd p1⟩)
    · cases e
/-- a name, a call, a subscript, a field as a test -/
theorem kt_tru {a : Expr} {c : CE} (ha : PE X a (eOf cc c)) (he : ∀ whole, isTrue a X.env whole = (do let v ← whole; standAt a.pos; holding [v] (truthy v)) := by exact fun _ => rfl) : PT X a (bOf cc (cTru c)) := by
  refine pt_imp (pt_truth ha he) fun σ H Q q => ?_
  obtain ⟨η, h, s, rs, hr, v, h', e, k⟩ := q
  unfold cTru at e
  split at e
  · cases e
  · rename_i v1 h1 e1
    split at e
    · cases e
    · rename_i b eb
      cases e
      exact ⟨η, h, s, rs, hr, _, _, e1, fun η1 H1 x S1 R1 rx => ⟨_, tru_of R1 rx eb, k η1 H1 S1 R1⟩⟩
/-- a bool's value as a test -/
def cTst (c : CE) : CT := fun s h => match c s h with
  | some (.bl b, h1) => some (b, h1)
  | _ => none
theorem tst_of {c : CE} {t : TE} (i : ∀ σ H Q, eOf cc c σ H Q → t σ H Q) {σ : L2.St} {H : Hp} {Q : Bool → Hp → Prop} (q : bOf cc (cTst c) σ H Q) : tTest t σ H Q := by
  obtain ⟨η, h, s, rs, hr, v, h', e, k⟩ := q
  unfold cTst at e
  split at e
  · rename_i b h1 e1
    cases e
    exact i σ H _ ⟨η, h, s, rs, hr, _, _, e1, fun η1 H1 x S1 R1 rx => ⟨_, rx, k η1 H1 S1 R1⟩⟩
  · cases e
section
variable {a b : Expr} {ca cb : CE} {pos : Pos}
theorem kt_eq (ha : PE X a (eOf cc ca)) (hb : PE X b (eOf cc cb)) : PT X (.Compare a [.Eq] [b] pos) (bOf cc (cTst (cBin fEq ca cb))) := pt_imp (pt_cmpR op_eq ha hb (nomark _)) fun _ _ _ q => tst_of (fun _ _ _ z => op_of vEq z) q
theorem kt_ne (ha : PE X a (eOf cc ca)) (hb : PE X b (eOf cc cb)) : PT X (.Compare a [.NotEq] [b] pos) (bOf cc (cTst (cBin fNe ca cb))) := pt_imp (pt_cmpR op_ne ha hb (nomark _)) fun _ _ _ q => tst_of (fun _ _ _ z => op_of vNe z) q
theorem kt_lt (ha : PE X a (eOf cc ca)) (hb : PE X b (eOf cc cb)) : PT X (.Compare a [.Lt] [b] pos) (bOf cc (cTst (cBin fLt ca cb))) := pt_imp (pt_cmpR op_lt ha hb (nomark _)) fun _ _ _ q => tst_of (fun _ _ _ z => op_of vLt z) q
theorem kt_le (ha : PE X a (eOf cc ca)) (hb : PE X b (eOf cc cb)) : PT X (.Compare a [.LtE] [b] pos) (bOf cc (cTst (cBin fLe ca cb))) := pt_imp (pt_cmpR op_le ha hb (nomark _)) fun _ _ _ q => tst_of (fun _ _ _ z => op_of vLe z) q
theorem kt_gt (ha : PE X a (eOf cc ca)) (hb : PE X b (eOf cc cb)) : PT X (.Compare a [.Gt] [b] pos) (bOf cc (cTst (cBin fGt ca cb))) := pt_imp (pt_cmpR op_gt ha hb (nomark _)) fun _ _ _ q => tst_of (fun _ _ _ z => op_of vGt z) q
theorem kt_ge (ha : PE X a (eOf cc ca)) (hb : PE X b (eOf cc cb)) : PT X (.Compare a [.GtE] [b] pos) (bOf cc (cTst (cBin fGe ca cb))) := pt_imp (pt_cmpR op_ge ha hb (nomark _)) fun _ _ _ q => tst_of (fun _ _ _ z => op_of vGe z) q
theorem kt_isN (ha : PE X a (eOf cc ca)) (hb : PE X b (eOf cc cb)) : PT X (.Compare a [.Is] [b] pos) (bOf cc (cTst (cBin fIsN ca cb))) := pt_imp (pt_cmpR op_isN ha hb (nomark _)) fun _ _ _ q => tst_of (fun _ _ _ z => op_of vIsN z) q
theorem kt_notN (ha : PE X a (eOf cc ca)) (hb : PE X b (eOf cc cb)) : PT X (.Compare a [.IsNot] [b] pos) (bOf cc (cTst (cBin fNotN ca cb))) := pt_imp (pt_cmpR op_notN ha hb (nomark _)) fun _ _ _ q => tst_of (fun _ _ _ z => op_of vNotN z) q
theorem kt_in (ha : PE X a (eOf cc ca)) (hb : PE X b (eOf cc cb)) (hm : behindInMarks .In b = false := by with_unfolding_all rfl) : PT X (.Compare a [.In] [b] pos) (bOf cc (cTst (cBin (fIn false) ca cb))) := pt_imp (pt_cmpR op_in_seq ha hb hm) fun _ _ _ q => tst_of (fun _ _ _ z => op_of (vIn false) z) q
theorem kt_notIn (ha : PE X a (eOf cc ca)) (hb : PE X b (eOf cc cb)) (hm : behindInMarks .NotIn b = false := by with_unfolding_all rfl) : PT X (.Compare a [.NotIn] [b] pos) (bOf cc (cTst (cBin (fIn true) ca cb))) := pt_imp (pt_cmpR op_notIn_seq ha hb hm) fun _ _ _ q => tst_of (fun _ _ _ z => op_of (vIn true) z) q
end
end CK

/-! CK: chains, and, or, not, if-expressions; calls. -/
namespace CK
open PySem L2
variable {X : Cx} {cc : Nat → Addr}

def cChain (f g : CV → CV → CH → Option (CV × CH)) (a b c : CE) : CE := fun s h =>
  match a s h with
  | none => none
  | some (v, h1) => match b s h1 with
    | none => none
    | some (u, h2) => match f v u h2 with
      | some (.bl true, h3) => (match c s h3 with
        | none => none
        | some (w, h4) => g u w h4)
      | some (.bl false, h3) => some (.bl false, h3)
      | _ => none
theorem chain_of {f g : CV → CV → CH → Option (CV × CH)} {r r' : R2} (hf : VOp cc f r) (hg : VOp cc g r') {a b c : CE} {σ : L2.St} {H : Hp} {Q : VK} (q : eOf cc (cChain f g a b c) σ H Q) : tChain r r' (eOf cc a) (eOf cc b) (eOf cc c) σ H Q := by
  obtain ⟨η, h, s, rs, hr, w, h', e, k⟩ := q
  unfold cChain at e
  split at e
  · cases e
  · rename_i v h1 e1
    split at e
    · cases e
    · rename_i u h2 e2
      refine ⟨η, h, s, rs, hr, v, h1, e1, fun η1 H1 x S1 R1 rx => ⟨η1, h1, s, RS.mono S1.le rs, R1, u, h2, e2, fun η2 H2 y S2 R2 ry => ?_⟩⟩
      split at e
      · rename_i h3 e3
        split at e
        · cases e
        · rename_i z h4 e4
          refine hf R2 (RV.mono S2.le rx) ry e3 fun η3 H3 z3 S3 R3 rz => ⟨true, rz, ?_⟩
          refine iteT ?_
          refine ⟨η3, h3, s, RS.mono S3.le (RS.mono S2.le (RS.mono S1.le rs)), R3, _, _, e4, fun η4 H4 z4 S4 R4 rz4 => ?_⟩
          exact hg R4 (RV.mono S4.le (RV.mono S3.le ry)) rz4 e fun η5 H5 z5 S5 R5 rz5 => k η5 H5 z5 (Stp.trans (Stp.trans (Stp.trans (Stp.trans S1 R1 S2) R2 S3) R3 S4) R4 S5) R5 rz5
      · rename_i h3 e3
        cases e
        refine hf R2 (RV.mono S2.le rx) ry e3 fun η3 H3 z3 S3 R3 rz => ⟨false, rz, ?_⟩
        refine iteF ?_
        exact k η3 H3 _ (Stp.trans (Stp.trans S1 R1 S2) R2 S3) R3 rfl
      · cases e
section
variable {a b c : Expr} {ca cb c3 : CE} {pos : Pos} {op op' : CmpOp}
/-- the comparisons that a chain may hold -/
structure Cmp (cc : Nat → Addr) (X : Cx) (op : CmpOp) (f : CV → CV → CH → Option (CV × CH)) : Prop where
  ex : ∃ r, OpR X (compareOp op) r ∧ VOp cc f r
theorem m_lt : Cmp cc X .Lt fLt := ⟨_, op_lt, vLt⟩
theorem m_le : Cmp cc X .LtE fLe := ⟨_, op_le, vLe⟩
theorem m_gt : Cmp cc X .Gt fGt := ⟨_, op_gt, vGt⟩
theorem m_ge : Cmp cc X .GtE fGe := ⟨_, op_ge, vGe⟩
theorem m_eq : Cmp cc X .Eq fEq := ⟨_, op_eq, vEq⟩
theorem m_ne : Cmp cc X .NotEq fNe := ⟨_, op_ne, vNe⟩
theorem ke_chain {f g : CV → CV → CH → Option (CV × CH)} (m : Cmp cc X op f) (m' : Cmp cc X op' g) (ha : PE X a (eOf cc ca)) (hb : PE X b (eOf cc cb)) (h3 : PE X c (eOf cc c3)) (hm : lastMarks [op, op'] [b, c] = false := by with_unfolding_all rfl) :
    PE X (.Compare a [op, op'] [b, c] pos) (eOf cc (cChain f g ca cb c3)) := by
  obtain ⟨r, o, v⟩ := m.ex
  obtain ⟨r', o', v'⟩ := m'.ex
  exact pe_imp (pe_chain o o' ha hb h3 hm) fun _ _ _ q => chain_of v v' q
theorem kt_chain {f g : CV → CV → CH → Option (CV × CH)} (m : Cmp cc X op f) (m' : Cmp cc X op' g) (ha : PE X a (eOf cc ca)) (hb : PE X b (eOf cc cb)) (h3 : PE X c (eOf cc c3)) (hm : lastMarks [op, op'] [b, c] = false := by with_unfolding_all rfl) :
    PT X (.Compare a [op, op'] [b, c] pos) (bOf cc (cTst (cChain f g ca cb c3))) := by
  obtain ⟨r, o, v⟩ := m.ex
  obtain ⟨r', o', v'⟩ := m'.ex
  exact pt_imp (pt_chain o o' ha hb h3 hm) fun _ _ _ q => tst_of (fun _ _ _ z => chain_of v v' z) q
end

/-! ### and, or, not -/
def cAnd (a b : CT) : CT := fun s h => match a s h with
  | some (true, h1) => b s h1
  | some (false, h1) => some (false, h1)
  | none => none
def cOr (a b : CT) : CT := fun s h => match a s h with
  | some (true, h1) => some (true, h1)
  | some (false, h1) => b s h1
  | none => none
def cNot (a : CT) : CT := fun s h => match a s h with
  | some (b, h1) => some (!b, h1)
  | none => none
def cAndV (a b : CE) : CE := fun s h => match a s h with
  | some (.bl true, h1) => b s h1
  | some (.bl false, h1) => some (.bl false, h1)
  | _ => none
def cOrV (a b : CE) : CE := fun s h => match a s h with
  | some (.bl true, h1) => some (.bl true, h1)
  | some (.bl false, h1) => b s h1
  | _ => none
def cNotV (a : CE) : CE := fun s h => match a s h with
  | some (.bl b, h1) => some (.bl (!b), h1)
  | _ => none
def cIfE (t : CT) (a b : CE) : CE := fun s h => match t s h with
  | some (true, h1) => a s h1
  | some (false, h1) => b s h1
  | none => none
section
variable {a b c : Expr} {rest : List Expr} {pos : Pos} {ta tb : CT} {ca cb : CE}
theorem kw_and1 (ha : PT X a (bOf cc ta)) : PW X (.BoolOp .And [a] pos) (bOf cc ta) := pw_and1 ha
theorem kw_or1 (ha : PT X a (bOf cc ta)) : PW X (.BoolOp .Or [a] pos) (bOf cc ta) := pw_or1 ha
theorem kw_and (ha : PT X a (bOf cc ta)) (hb : PW X (.BoolOp .And (b :: rest) pos) (bOf cc tb)) : PW X (.BoolOp .And (a :: b :: rest) pos) (bOf cc (cAnd ta tb)) := pw_imp (pw_and ha hb) fun σ H Q q => by
  obtain ⟨η, h, s, rs, hr, v, h', e, k⟩ := q
  unfold cAnd at e
  split at e
  · rename_i h1 e1
    refine ⟨η, h, s, rs, hr, _, _, e1, fun η1 H1 S1 R1 => ?_⟩
    refine iteT ?_
    exact ⟨η1, h1, s, RS.mono S1.le rs, R1, _, _, e, fun η2 H2 S2 R2 => k η2 H2 (Stp.trans S1 R1 S2) R2⟩
  · rename_i h1 e1
    cases e
    refine ⟨η, h, s, rs, hr, _, _, e1, fun η1 H1 S1 R1 => ?_⟩
    refine iteF ?_
    exact k η1 H1 S1 R1
  · cases e
theorem kw_or (ha : PT X a (bOf cc ta)) (hb : PW X (.BoolOp .Or (b :: rest) pos) (bOf cc tb)) : PW X (.BoolOp .Or (a :: b :: rest) pos) (bOf cc (cOr ta tb)) := pw_imp (pw_or ha hb) fun σ H Q q => by
  obtain ⟨η, h, s, rs, hr, v, h', e, k⟩ := q
  unfold cOr at e
  split at e
  · rename_i h1 e1
    cases e
    refine ⟨η, h, s, rs, hr, _, _, e1, fun η1 H1 S1 R1 => ?_⟩
    refine iteT ?_
    exact k η1 H1 S1 R1
  · rename_i h1 e1
    refine ⟨η, h, s, rs, hr, _, _, e1, fun η1 H1 S1 R1 => ?_⟩
    refine iteF ?_
    exact ⟨η1, h1, s, RS.mono S1.le rs, R1, _, _, e, fun η2 H2 S2 R2 => k η2 H2 (Stp.trans S1 R1 S2) R2⟩
  · cases e
theorem kt_not (ha : PT X a (bOf cc ta)) : PT X (.UnaryOp .Not a pos) (bOf cc (cNot ta)) := pt_imp (pt_not ha) fun σ H Q q => by
  obtain ⟨η, h, s, rs, hr, v, h', e, k⟩ := q
  unfold cNot at e
  split at e
  · rename_i b h1 e1
    cases e
    exact ⟨η, h, s, rs, hr, _, _, e1, fun η1 H1 S1 R1 => k η1 H1 S1 R1⟩
  · cases e
theorem ke_one {op} (ha : PE X a (eOf cc ca)) : PE X (.BoolOp op [a] pos) (eOf cc ca) := pe_one ha
theorem ke_and (ha : PE X a (eOf cc ca)) (hb : PE X (.BoolOp .And (b :: rest) pos) (eOf cc cb)) : PE X (.BoolOp .And (a :: b :: rest) pos) (eOf cc (cAndV ca cb)) := pe_imp (pe_and ha hb) fun σ H Q q => by
  obtain ⟨η, h, s, rs, hr, v, h', e, k⟩ := q
  unfold cAndV at e
  split at e
  · rename_i h1 e1
    refine ⟨η, h, s, rs, hr, _, _, e1, fun η1 H1 x S1 R1 rx => ⟨true, rx, ?_⟩⟩
    refine iteT ?_
    exact ⟨η1, h1, s, RS.mono S1.le rs, R1, _, _, e, fun η2 H2 z S2 R2 rz => k η2 H2 z (Stp.trans S1 R1 S2) R2 rz⟩
  · rename_i h1 e1
    cases e
    refine ⟨η, h, s, rs, hr, _, _, e1, fun η1 H1 x S1 R1 rx => ⟨false, rx, ?_⟩⟩
    refine iteF ?_
    exact k η1 H1 _ S1 R1 rfl
  · cases e
theorem ke_or (ha : PE X a (eOf cc ca)) (hb : PE X (.BoolOp .Or (b :: rest) pos) (eOf cc cb)) : PE X (.BoolOp .Or (a :: b :: rest) pos) (eOf cc (cOrV ca cb)) := pe_imp (pe_or ha hb) fun σ H Q q => by
  obtain ⟨η, h, s, rs, hr, v, h', e, k⟩ := q
  unfold cOrV at e
  split at e
  · rename_i h1 e1
    cases e
    refine ⟨η, h, s, rs, hr, _, _, e1, fun η1 H1 x S1 R1 rx => ⟨true, rx, ?_⟩⟩
    refine iteT ?_
    exact k η1 H1 _ S1 R1 rfl
  · rename_i h1 e1
    refine ⟨η, h, s, rs, hr, _, _, e1, fun η1 H1 x S1 R1 rx => ⟨false, rx, ?_⟩⟩
    refine iteF ?_
    exact ⟨η1, h1, s, RS.mono S1.le rs, R1, _, _, e, fun η2 H2 z S2 R2 rz => k η2 H2 z (Stp.trans S1 R1 S2) R2 rz⟩
  · cases e
theorem ke_not (ha : PE X a (eOf cc ca)) : PE X (.UnaryOp .Not a pos) (eOf cc (cNotV ca)) := pe_imp (pe_not ha) fun σ H Q q => by
  obtain ⟨η, h, s, rs, hr, v, h', e, k⟩ := q
  unfold cNotV at e
  split at e
  · rename_i b h1 e1
    cases e
    exact ⟨η, h, s, rs, hr, _, _, e1, fun η1 H1 x S1 R1 rx => ⟨b, rx, k η1 H1 _ S1 R1 rfl⟩⟩
  · cases e
theorem ke_if {ct : CT} (hc : PT X c (bOf cc ct)) (ha : PE X a (eOf cc ca)) (hb : PE X b (eOf cc cb)) : PE X (.IfExp c a b pos) (eOf cc (cIfE ct ca cb)) := pe_imp (pe_ifExp hc ha hb) fun σ H Q q => by
  obtain ⟨η, h, s, rs, hr, v, h', e, k⟩ := q
  unfold cIfE at e
  split at e
  · rename_i h1 e1
    refine ⟨η, h, s, rs, hr, _, _, e1, fun η1 H1 S1 R1 => ?_⟩
    refine iteT ?_
    exact ⟨η1, h1, s, RS.mono S1.le rs, R1, _, _, e, fun η2 H2 z S2 R2 rz => k η2 H2 z (Stp.trans S1 R1 S2) R2 rz⟩
  · rename_i h1 e1
    refine ⟨η, h, s, rs, hr, _, _, e1, fun η1 H1 S1 R1 => ?_⟩
    refine iteF ?_
    exact ⟨η1, h1, s, RS.mono S1.le rs, R1, _, _, e, fun η2 H2 z S2 R2 rz => k η2 H2 z (Stp.trans S1 R1 S2) R2 rz⟩
  · cases e
end

/-! ### calls -/
def cCb (f : List CV → CH → Option (CV × CH)) (a : CA) : CE := fun s h => match a s h with
  | none => none
  | some (vs, h1) => f vs h1
def VCall (cc : Nat → Addr) (f : List CV → CH → Option (CV × CH)) (r : List V → Hp → VK → Prop) : Prop :=
  ∀ {η : Em} {h : CH} {H : Hp} {vs : List CV} {xs : List V} {w : CV} {h' : CH} {Q : VK}, HR cc η h H → RVs η vs xs → f vs h = some (w, h') → Kn cc η H w h' Q → r xs H Q
theorem cb_of {f : List CV → CH → Option (CV × CH)} {r : List V → Hp → VK → Prop} (hf : VCall cc f r) {a : CA} {σ : L2.St} {H : Hp} {Q : VK} (q : eOf cc (cCb f a) σ H Q) : tCB r (aOf cc a) σ H Q := by
  obtain ⟨η, h, s, rs, hr, w, h', e, k⟩ := q
  unfold cCb at e
  split at e
  · cases e
  · rename_i vs h1 e1
    exact ⟨η, h, s, rs, hr, _, _, e1, fun η1 H1 xs S1 R1 rx => hf R1 rx e fun η2 H2 z S2 R2 rz => k η2 H2 z (Stp.trans S1 R1 S2) R2 rz⟩
theorem pd1 {α β : Type} {F : α → β → Prop} {x : α} {ys : List β} (p : Paired F [x] ys) : ∃ y, ys = [y] ∧ F x y := by
  cases p with
  | cons r t => cases t; exact ⟨_, rfl, r⟩
theorem pd2 {α β : Type} {F : α → β → Prop} {x x2 : α} {ys : List β} (p : Paired F [x, x2] ys) : ∃ y y2, ys = [y, y2] ∧ F x y ∧ F x2 y2 := by
  cases p with
  | cons r t =>
    obtain ⟨z, rfl, q⟩ := pd1 t
    exact ⟨_, _, rfl, r, q⟩
def fLen : List CV → CH → Option (CV × CH)
  | [.ref a], h => match h.get a with
    | some (.lst xs) => some (.int xs.length, h)
    | some (.tup xs) => some (.int xs.length, h)
    | _ => none
  | [.str x], h => if x.length ≤ 4000 then some (.int x.length, h) else none
  | _, _ => none
theorem vLen {K : PySem.W.Frag} : VCall cc fLen (fun xs H Q => ∃ x n, xs = [x] ∧ LenV K x H n ∧ Q (.int n) H) := by
  intro η h H vs xs w h' Q hr r e k
  unfold fLen at e
  split at e
  · obtain ⟨y, rfl, a, ea, rfl⟩ := pd1 r
    split at e
    · rename_i ys e1
      cases e
      obtain ⟨zs, q1, p1⟩ := hr.lst e1 ea
      exact ⟨_, zs.length, rfl, .inl ⟨zs, SqL.of q1, rfl⟩, by rw [← p1.length]; exact kn_same hr k rfl⟩
    · rename_i ys e1
      cases e
      obtain ⟨zs, q1, p1⟩ := hr.tup e1 ea
      exact ⟨_, zs.length, rfl, .inr ⟨zs, SqT.of q1, rfl⟩, by rw [← p1.length]; exact kn_same hr k rfl⟩
    · cases e
  · split at e
    · rename_i x hz
      cases e
      obtain ⟨y, rfl, q⟩ := pd1 r
      cases (show y = .str (Tx x) from q)
      exact ⟨_, x.length, rfl, ⟨by rw [Tx_len]; exact small hz, (Tx_len _).symm⟩, kn_same hr k rfl⟩
    · cases e
  · cases e
def fAbs : List CV → CH → Option (CV × CH)
  | [.int i], h => some (.int (if i < 0 then -i else i), h)
  | _, _ => none
theorem vAbs : VCall cc fAbs (fun xs H Q => ∃ i, xs = [.int i] ∧ Q (.int (if i < 0 then -i else i)) H) := by
  intro η h H vs xs w h' Q hr r e k
  unfold fAbs at e
  split at e
  · obtain ⟨y, rfl, q⟩ := pd1 r
    cases e
    exact ⟨_, by rw [show y = _ from q], kn_same hr k rfl⟩
  · cases e
def fIntOf : List CV → CH → Option (CV × CH)
  | [.int i], h => some (.int i, h)
  | [.bl b], h => some (.int (if b then 1 else 0), h)
  | _, _ => none
theorem vIntOf : VCall cc fIntOf (fun xs H Q => (∃ i, xs = [.int i] ∧ Q (.int i) H) ∨ ∃ k, xs = [.bl k] ∧ Q (.int (if k then 1 else 0)) H) := by
  intro η h H vs xs w h' Q hr r e k
  unfold fIntOf at e
  split at e
  · obtain ⟨y, rfl, q⟩ := pd1 r
    cases e
    exact .inl ⟨_, by rw [show y = _ from q], kn_same hr k rfl⟩
  · obtain ⟨y, rfl, q⟩ := pd1 r
    cases e
    exact .inr ⟨_, by rw [show y = _ from q], kn_same hr k rfl⟩
  · cases e
def fListOf : List CV → CH → Option (CV × CH)
  | [.ref a], h => match h.get a with
    | some (.lst xs) => some (.ref h.length, h.new (.lst xs))
    | some (.tup xs) => some (.ref h.length, h.new (.lst xs))
    | _ => none
  | _, _ => none
theorem vListOf {K : PySem.W.Frag} : VCall cc fListOf (fun xs H Q => ∃ p ys, xs = [.ref p] ∧ (SqL K H p ys ∨ SqT K H p ys) ∧ ∀ l, H l = none → Q (.ref l) (upd H l (.lst ys))) := by
  intro η h H vs xs w h' Q hr r e k
  unfold fListOf at e
  split at e
  · obtain ⟨y, rfl, a, ea, rfl⟩ := pd1 r
    split at e
    · rename_i ys e1
      cases e
      obtain ⟨zs, q1, p1⟩ := hr.lst e1 ea
      exact ⟨a, zs, rfl, .inl (SqL.of q1), fun l hl => kn_lst hr p1 k hl⟩
    · rename_i ys e1
      cases e
      obtain ⟨zs, q1, p1⟩ := hr.tup e1 ea
      exact ⟨a, zs, rfl, .inr (SqT.of q1), fun l hl => kn_lst hr p1 k hl⟩
    · cases e
  · cases e
section
variable {x : Str} {p pos : Pos} {e : Expr} {es : List Expr} {ca : CA} {id T : String}
theorem ke_len (hg : Gl X "len") (hm : X.mg "len" = none) (ha : PA X [e] (aOf cc ca)) (he : starEach [e] X.env = (false, eval e X.env) :: starEach [] X.env := by rfl) : PE X (.Call (.Name "len" p) [e] [] pos) (eOf cc (cCb fLen ca)) :=
  pe_imp (pe_callB call_len hg hm boot_len ha (he := he)) fun _ _ _ q => cb_of vLen q
theorem ke_abs (hg : Gl X "abs") (hm : X.mg "abs" = none) (ha : PA X [e] (aOf cc ca)) (he : starEach [e] X.env = (false, eval e X.env) :: starEach [] X.env := by rfl) : PE X (.Call (.Name "abs" p) [e] [] pos) (eOf cc (cCb fAbs ca)) :=
  pe_imp (pe_callB call_abs hg hm (by decide +kernel) ha (he := he)) fun _ _ _ q => cb_of vAbs q
theorem ke_intOf (hg : Gl X "int") (hm : X.mg "int" = none) (ha : PA X [e] (aOf cc ca)) (he : starEach [e] X.env = (false, eval e X.env) :: starEach [] X.env := by rfl) : PE X (.Call (.Name "int" p) [e] [] pos) (eOf cc (cCb fIntOf ca)) :=
  pe_imp (pe_callTy call_int1 hg hm (by decide +kernel) ha (he := he)) fun _ _ _ q => cb_of vIntOf q
theorem ke_listOf (hg : Gl X "list") (hm : X.mg "list" = none) (ha : PA X [e] (aOf cc ca)) (he : starEach [e] X.env = (false, eval e X.env) :: starEach [] X.env := by rfl) : PE X (.Call (.Name "list" p) [e] [] pos) (eOf cc (cCb fListOf ca)) :=
  pe_imp (pe_callTy call_list_of hg hm (by decide +kernel) ha (he := he)) fun _ _ _ q => cb_of vListOf q
/-- an own def that keeps a plain promise -/
theorem ke_call {k : Nat} {f : Addr} {fd : FuncData} {ps : List Str} {g : List CV → CH → Option (CV × CH)} (F : FnOk X.prog X.w X.K X.mg X.base CX0 k f fd ps (spOf cc g)) (hr : Room k X.A) (hg : Gl X x) (hm : X.mg x = some (.ref f)) (hk : PySem.W.keepIn X.K (.ref f) = true) (hb : Binds X.K fd ps [])
    (ha : PA X (e :: es) (aOf cc ca)) (hdb : (x == ("__debug__" : Str)) = false := by decide) (he : starEach (e :: es) X.env = (false, eval e X.env) :: starEach es X.env := by rfl) (hpl : (backTo pos (starEach es X.env)).any (·.1) = false := by rfl) :
    PE X (.Call (.Name x p) (e :: es) [] pos) (eOf cc (cCb g ca)) := by
  refine pe_imp (pe_call F hr hg hm hk hb .nil pass0 ha hdb he hpl) fun σ H Q q => ?_
  obtain ⟨η, h, s, rs, hr, w, h', e, k⟩ := q
  unfold cCb at e
  split at e
  · cases e
  · rename_i vs h1 e1
    refine ⟨η, h, s, rs, hr, _, _, e1, fun η1 H1 xs S1 R1 rx => ?_⟩
    show spOf cc g (xs ++ []) H1 Q E0
    rw [List.append_nil]
    exact ⟨η1, h1, vs, rx, R1, _, _, e, fun η2 H2 z S2 R2 rz => k η2 H2 z (Stp.trans S1 R1 S2) R2 rz⟩
end
end CK

/-! CK: enumerate of a text: the walk, by the library's Draws. -/
namespace CK
open PySem L2 PyProof.Rows

/-- the signs of a text, each in a new pair with its number -/
def Ites (x : Str) : It :=
  ⟨fun i _ => i < x.cps.size, fun i H v H' => ∃ T c, v = .ref T ∧ H T = none ∧ H' = upd H T (.tup [.int (i : Nat), .str ⟨#[c]⟩]) ∧ x.cps[i]? = some c, fun i _ => x.cps.size ≤ i⟩
theorem draws_str {prog : Program} {w : World} {A : Around} (hh : A.handled = none) (it : Addr) (x : Str) (t : Tok) :
    Draws prog w A it [it] x.cps.size (fun i v => ∃ c u, x.cps[i]? = some c ∧ v = .str ⟨#[c]⟩ u) (fun i h => h.IsStrIter it (strIterType x) x t i) := by
  unfold strIterType
  cases x.cps.all (· < 128)
  · exact Draws.strWide hh it x t
  · exact Draws.strAscii hh it x t
theorem turn_enumS {P : Program} {w : World} {K : PySem.W.Frag} {elts : List Expr} {kk : Nat} {tpos : Pos} (x : Str) (t : Tok) (e it : Addr) :
    Turn P w K (.Tuple elts kk tpos) (Ites x) [e, it] e (fun i h => (∃ old, IsEnum h e it ((i : Nat) : Int) old) ∧ h.IsStrIter it (strIterType x) x t i ∧ e ≠ it) where
  mem := by simp
  obj := fun i h st b hb => by
    obtain ⟨⟨old, he⟩, ⟨o, ho, hc, hd⟩, _⟩ := st
    have e' : b = e ∨ b = it := by simpa using hb
    rcases e' with z | z
    · rw [z]; exact ⟨_, he, fun v q => nomatch q⟩
    · rw [z]; exact ⟨o, ho, fun v q => by rw [hd] at q; cases q⟩
  keep := fun i h h' st k => by
    obtain ⟨⟨old, he⟩, ⟨o, ho, r⟩, hne⟩ := st
    exact ⟨⟨old, k e (by simp) _ he⟩, ⟨o, k it (by simp) o ho, r⟩, hne⟩
  item := by
    intro X hP hw hK hc i pins s σ H E I hf st hg
    subst hP hw hK
    obtain ⟨⟨old, he⟩, hit, hne⟩ := st
    have hg : i < x.cps.size := hg
    have hel : e < s.heap.objs.size := Heap.lt_size he
    have hil : it < s.heap.objs.size := by obtain ⟨_, q, _⟩ := hit; exact Heap.lt_size q
    have hh : X.A.in1.handled = none := I.ok.hd hc
    refine wpAny_pyNext_enum_itemD (draws_str hh it x t) he hit hg hne (by simpa using hne) fun y h' tk hy ho hit' hT hsz hk => ?_
    obtain ⟨c, u, hcx, rfl⟩ := hy
    refine ⟨_, rfl, wpAny_letOwnedTupleGo_enum (s := { s with heap := h', toks := tk + 1 }) ho fun h'' he' sb => ?_⟩
    have hT2 : h''.get? s.heap.objs.size = some { cls := .type "tuple", data := .seq #[.int i tk, .str ⟨#[c]⟩ u] } := (sb.2 _ (Nat.ne_of_gt hel)).trans hT
    have new : ObjOk X.prog X.w (upd H s.heap.objs.size (.tup [.int (i : Nat), .str ⟨#[c]⟩])) h'' s.heap.objs.size (.tup [.int (i : Nat), .str ⟨#[c]⟩]) :=
      ⟨by show 2 ≤ sizeLine; decide, [.int i tk, .str ⟨#[c]⟩ u], .cons ⟨_, rfl⟩ (.cons ⟨_, rfl⟩ .nil), ⟨_, hT2, rfl, _, rfl⟩⟩
    have I1 : Inv X pins σ (upd H s.heap.objs.size (.tup [.int (i : Nat), .str ⟨#[c]⟩])) { s with heap := h'', toks := tk + 1 } :=
      I.turnedNew (ch := [e, it]) (fun b ob hb q => (sb.2 b (fun z => hb (by simp [z]))).trans (hk b ob (fun z => hb (by simp [z])) (fun z => hb (by simp [z])) q)) hf (Nat.le_refl _) new
    refine ⟨.ref s.heap.objs.size, _, I1, rfl, ⟨_, c, rfl, I.hok.fresh (Nat.le_refl _), rfl, hcx⟩, ⟨⟨.str ⟨#[c]⟩ u, ?_⟩, ?_, hne⟩, fun b hb => ?_⟩
    · have e1 : ((i + 1 : Nat) : Int) = (i : Int) + 1 := by omega
      rw [e1]; exact he'
    · obtain ⟨o, hO, r⟩ := hit'
      exact ⟨o, (sb.2 it (Ne.symm hne)).trans hO, r⟩
    · have hb' : b < s.heap.objs.size := by
        have e' : b = e ∨ b = it := by simpa using hb
        rcases e' with z | z
        · rw [z]; exact hel
        · rw [z]; exact hil
      rw [upd_ne (Nat.ne_of_lt hb')]
      exact (hf b hb).1
  done := by
    intro X hP hw hK hc i pins s σ H E I hf st hg
    subst hP hw hK
    obtain ⟨⟨old, he⟩, hit, hne⟩ := st
    have hg : x.cps.size ≤ i := hg
    obtain ⟨f0, f1, f2, f3, f4, f5⟩ := hf it (by simp)
    have hh : X.A.in1.handled = none := I.ok.hd hc
    -- the walk never comes behind the end
    have hx : x.cps[i]? = none := Array.getElem?_eq_none hg
    have D : ∀ (s' : Shared) (Q : Value → Shared → Prop) (E : Value → Shared → Prop), s'.heap.IsStrIter it (strIterType x) x t i →
        (∀ h' e', Heap.ExtBut it s'.heap h' → (∃ o, h'.get? e' = some o ∧ o.cls = .type "StopIteration") → E (.ref e') { s' with heap := h' }) → wpAny (model X.prog X.w) X.A.in1 (Builtin.SmallTypes.nextOf (.ref it)) Q E s' := by
      intro s' Q E' st' hE
      unfold strIterType at st'
      cases ha : x.cps.all (· < 128)
      · rw [ha] at st'; exact wpAny_nextOf_wide_end hh st' hx hE
      · rw [ha] at st'; exact wpAny_nextOf_ascii_end hh st' hx hE
    have dr := draws_str (prog := X.prog) (w := X.w) hh it x t
    have dr' : Draws X.prog X.w X.A.in1 it [it] i (fun _ _ => False) (fun j h => j = i ∧ h.IsStrIter it (strIterType x) x t i) :=
      ⟨fun _ h st => dr.live _ h st.2, fun _ h h' st k => ⟨st.1, dr.frame _ h h' st.2 k⟩, fun j s' Q E' hj st' _ => absurd st'.1 (Nat.ne_of_lt hj), fun s' Q E' st' hE => D s' Q E' st'.2 hE⟩
    exact wpAny_pyNext_enum_endD dr' he ⟨rfl, hit⟩ fun h' eb => ⟨rfl, I.turned (t' := s.toks) (fun b o hb q => eb b o hb q) f0 f1 f3 f4 f5⟩
  self := fun A i s Q E st h => let ⟨⟨_, he⟩, _⟩ := st; wpAny_pyIter_enum he h
def iEnumS (ta : TA) : TI := fun σ H R => ta σ H fun vs H1 => ∃ x, vs = [.str x] ∧ R (Ites x) H1
theorem pi_enumS {X : Cx} {e : Expr} {ta : TA} {p pos tpos : Pos} {elts : List Expr} {kk : Nat} (hg : Gl X "enumerate") (hm : X.mg "enumerate" = none) (ha : PA X [e] ta) (hs : starEach [e] X.env = [(false, eval e X.env)] := by rfl) :
    PI X (.Tuple elts kk tpos) (.Call (.Name "enumerate" p) [e] [] pos) (iEnumS ta) := by
  refine ⟨fun pins s σ H R I h => ?_⟩
  refine Call_ (ld_blt I hg hm boot_enumerate (PyProof.Rows.callWith_type1 (thn (ha.run pos pins s σ H _ I h) fun us s1 ⟨vs, H1, I1, r1, q1⟩ => ?_) hs rfl))
  obtain ⟨x, ex, q⟩ := q1
  subst ex
  cases r1 with
  | cons r rr =>
    cases rr
    obtain ⟨t, rfl⟩ := r
    refine call_enumerate_str fun h' he hit hsz hk => wpAny_pyIter_enum he ?_
    have I2 : Inv X pins σ H1 { s1 with heap := h' } := I1.kept (t' := s1.toks) hk
    refine ⟨s1.heap.objs.size + 1, [s1.heap.objs.size + 1, s1.heap.objs.size], _, _, H1, rfl, I2, turn_enumS x t (s1.heap.objs.size + 1) s1.heap.objs.size, ⟨⟨.none, he⟩, hit, Nat.succ_ne_self _⟩, fun b hb => ?_, q⟩
    have e' : b = s1.heap.objs.size + 1 ∨ b = s1.heap.objs.size := by simpa using hb
    have hle : s1.heap.objs.size ≤ b := by
      rcases e' with z | z
      · rw [z]; exact Nat.le_add_right _ _
      · rw [z]; exact Nat.le_refl _
    exact I1.fpOk hle (I1.hok.fresh hle)
/-- a list or a text -/
theorem PI.or {X : Cx} {tg e : Expr} {t t' : TI} (h : PI X tg e t) (h' : PI X tg e t') : PI X tg e (fun σ H R => t σ H R ∨ t' σ H R) := ⟨fun pins s σ H R I q => q.elim (h.run pins s σ H R I) (h'.run pins s σ H R I)⟩
end CK

/-! CK: targets, statements. -/
namespace CK
open PySem L2
variable {X : Cx} {cc : Nat → Addr}

/-! ### targets -/
abbrev CG := CV → CS → CH → Option (CS × CH)
abbrev CGs := List CV → CS → CH → Option (CS × CH)
def gOf (cc : Nat → Addr) (c : CG) : TG := fun v σ H Q => ∃ η h s u, RV η u v ∧ RS η s σ ∧ HR cc η h H ∧ ∃ s' h', c u s h = some (s', h') ∧ ∀ η' H' σ', Stp η H η' H' → HR cc η' h' H' → RS η' s' σ' → Q σ' H'
def gsOf (cc : Nat → Addr) (c : CGs) : TGs := fun v σ H Q => ∃ η h s u, RVs η u v ∧ RS η s σ ∧ HR cc η h H ∧ ∃ s' h', c u s h = some (s', h') ∧ ∀ η' H' σ', Stp η H η' H' → HR cc η' h' H' → RS η' s' σ' → Q σ' H'
theorem pgs_imp {e : List Expr} {t t' : TGs} (h : PGs X e t) (i : ∀ v σ H Q, t' v σ H Q → t v σ H Q) : PGs X e t' := ⟨fun pins s σ H v u Q I r q => h.run pins s σ H v u Q I r (i _ _ _ _ q)⟩
def cgN (i : Nat) : CG := fun v s h => some (s.set i (some v), h)
def cgNil : CGs := fun vs s h => match vs with | [] => some (s, h) | _ => none
def cgCons (g : CG) (r : CGs) : CGs := fun vs s h => match vs with
  | v :: vr => (match g v s h with
    | some (s1, h1) => r vr s1 h1
    | none => none)
  | [] => none
def cgTup (n : Nat) (g : CGs) : CG := fun v s h => match v with
  | .ref a => (match h.get a with
    | some (.tup xs) => if xs.length = n then g xs s h else none
    | _ => none)
  | _ => none
def cgIx (o i : CE) : CG := fun v s h => match o s h with
  | some (.ref a, h1) => (match i s h1 with
    | some (.int k, h2) => (match h2.get a with
      | some (.lst xs) => (match ixN xs.length k with
        | some j => some (s, h2.set a (.lst (xs.set j v)))
        | none => none)
      | _ => none)
    | _ => none)
  | _ => none
theorem name_of {i : Nat} {v : V} {σ : L2.St} {H : Hp} {Q : L2.St → Hp → Prop} (q : gOf cc (cgN i) v σ H Q) : gName i v σ H Q := by
  obtain ⟨η, h, s, u, rv, rs, hr, s', h', e, k⟩ := q
  cases e
  exact k η H _ (Stp.refl _ _) hr (rs.set i rv)
section
variable {pos : Pos}
theorem kg_name {i : Nat} {x : Str} (hN : X.N.Nodup) (hi : X.N[i]? = some x) (hx : Loc X.env.scope x) (hf : X.fn x = true ∨ X.env.scope.names.lookup x = some .local := by first | exact .inl rfl | exact .inr rfl | assumption) : PG X (.Name x pos) (gOf cc (cgN i)) :=
  pg_imp (pg_name hN hi hx hf) fun _ _ _ _ q => name_of q
theorem kgs_nil : PGs X [] (gsOf cc cgNil) := pgs_imp pgs_nil fun v σ H Q q => by
  obtain ⟨η, h, s, u, rv, rs, hr, s', h', e, k⟩ := q
  unfold cgNil at e
  split at e
  · cases e
    cases rv
    exact ⟨rfl, k η H σ (Stp.refl _ _) hr rs⟩
  · cases e
theorem kgs_cons {e : Expr} {es : List Expr} {g : CG} {r : CGs} (h1 : PG X e (gOf cc g)) (h2 : PGs X es (gsOf cc r))
    (hs : (assignEach (e :: es) X.env).map (·.2) = assign e X.env :: (assignEach es X.env).map (·.2) := by rfl) : PGs X (e :: es) (gsOf cc (cgCons g r)) := pgs_imp (pgs_cons h1 h2 hs) fun v σ H Q q => by
  obtain ⟨η, h, s, u, rv, rs, hr, s', h', e, k⟩ := q
  unfold cgCons at e
  split at e
  · rename_i v1 vr
    split at e
    · rename_i s1 h1 e1
      cases rv with
      | cons r1 rr =>
        exact ⟨_, _, rfl, η, h, s, _, r1, rs, hr, s1, h1, e1, fun η1 H1 σ1 S1 R1 rs1 => ⟨η1, h1, s1, _, RVs.mono S1.le rr, rs1, R1, s', h', e, fun η2 H2 σ2 S2 R2 rs2 => k η2 H2 σ2 (Stp.trans S1 R1 S2) R2 rs2⟩⟩
    · cases e
  · cases e
theorem kg_tup {es : List Expr} {k : Nat} {g : CGs} {n : Nat} (hc : X.calm = true) (h : PGs X es (gsOf cc g))
    (hn : (assignEach es X.env).length = n := by rfl) (hst : (assignEach es X.env).findIdx? (·.1) = none := by rfl) : PG X (.Tuple es k pos) (gOf cc (cgTup n g)) := pg_imp (pg_tup hc h hn hst) fun v σ H Q q => by
  obtain ⟨η, h, s, u, rv, rs, hr, s', h', e, k⟩ := q
  unfold cgTup at e
  split at e
  · rename_i a
    obtain ⟨b, eb, rfl⟩ := rv
    split at e
    · rename_i xs e1
      split at e
      · rename_i hl
        obtain ⟨ys, q1, p1⟩ := hr.tup e1 eb
        exact ⟨b, ys, rfl, SqT.of q1, by rw [← p1.length]; exact hl, η, h, s, xs, p1, rs, hr, s', h', e, k⟩
      · cases e
    · cases e
  · cases e
theorem ixset_pd {η : Em} {xs : List CV} {ys : List V} (p : RVs η xs ys) {u : CV} {y : V} (r : RV η u y) (j : Nat) : RVs η (xs.set j u) (ys.set j y) := Pd.set r j p
theorem kg_ix {o i : Expr} {co ci : CE} (ho : PE X o (eOf cc co)) (hi : PE X i (eOf cc ci))
    (ha : ∀ v, assign (.Subscript o i pos) X.env v = (do
      let ov ← holding [v] (eval o X.env)
      let iv ← holding [v, ov] (eval i X.env)
      standAt pos
      holding [v, ov, iv] (setItem ov iv v)
      release [v, ov, iv] []) := by intro _; rfl) : PG X (.Subscript o i pos) (gOf cc (cgIx co ci)) := pg_imp (pg_sub ho hi set_list ha) fun v σ H Q q => by
  obtain ⟨η, h, s, u, rv, rs, hr, s', h', e, k⟩ := q
  unfold cgIx at e
  split at e
  · rename_i a h1 e1
    split at e
    · rename_i kk h2 e2
      split at e
      · rename_i xs e3
        split at e
        · rename_i j ej
          cases e
          refine ⟨η, h, s, rs, hr, _, _, e1, fun η1 H1 x S1 R1 rx => ⟨η1, h1, s, RS.mono S1.le rs, R1, _, _, e2, fun η2 H2 y S2 R2 ry => ?_⟩⟩
          obtain ⟨b, eb, rfl⟩ := RV.mono S2.le rx
          obtain ⟨ys, q1, p1⟩ := R2.lst e3 eb
          refine ⟨b, ys, kk, j, rfl, ry, q1, by rw [← p1.length]; exact ej, ?_⟩
          obtain ⟨R3, S3⟩ := R2.put (o := .lst (xs.set j u)) (O := .lst (ys.set j v)) eb ⟨_, rfl, Pd.set (RV.mono (S1.le.trans S2.le) rv) j p1⟩
          exact k η2 _ σ (Stp.trans (Stp.trans S1 R1 S2) R2 S3) R3 (RS.mono (S1.le.trans S2.le) rs)
        · cases e
      · cases e
    · cases e
  · cases e
end

/-! ### statements -/
def cSkip : CP := fun s h => some (.nx, s, h)
def cSeq (a b : CP) : CP := fun s h => match a s h with
  | some (.nx, s1, h1) => b s1 h1
  | r => r
def cNever : CP := fun _ _ => none
def cRet (e : CE) : CP := fun s h => match e s h with
  | some (v, h1) => some (.rt v, s, h1)
  | none => none
def cRetN : CP := fun s h => some (.rt .non, s, h)
def cDrop (e : CE) : CP := fun s h => match e s h with
  | some (_, h1) => some (.nx, s, h1)
  | none => none
def cIf (t : CT) (a b : CP) : CP := fun s h => match t s h with
  | some (true, h1) => a s h1
  | some (false, h1) => b s h1
  | none => none
def cAsg (e : CE) (g : CG) : CP := fun s h => match e s h with
  | some (v, h1) => (match g v s h1 with
    | some (s2, h2) => some (.nx, s2, h2)
    | none => none)
  | none => none
section
variable {pos : Pos}
theorem kss_nil : PSs X [] (sOf cc cSkip) := pss_imp pss_nil fun D σ H q => by
  obtain ⟨η, h, s, rs, hr, fl, s', h', e, k⟩ := q
  cases e
  exact k η H σ (Stp.refl _ _) hr rs
theorem kss_one {st : Stmt} {c : CP} (h1 : PS X st (sOf cc c)) : PSs X [st] (sOf cc c) := pss_one h1
theorem post_nx {D : Ends} {R : L2.St → Hp → Prop} {η : Em} {fl : Fl} {σ : L2.St} {H : Hp} (hn : fl ≠ .nx) (p : Post D η fl σ H) : Post { D with nx := R } η fl σ H := by
  cases fl with
  | nx => exact absurd rfl hn
  | rt v => exact p
  | bk => exact p
  | ct => exact p
theorem seq_of {a b : CP} {D : Ends} {σ : L2.St} {H : Hp} (q : sOf cc (cSeq a b) D σ H) : tSeq (sOf cc a) (sOf cc b) D σ H := by
  obtain ⟨η, h, s, rs, hr, fl, s', h', e, k⟩ := q
  unfold cSeq at e
  split at e
  · rename_i s1 h1 e1
    exact ⟨η, h, s, rs, hr, .nx, s1, h1, e1, fun η1 H1 σ1 S1 R1 rs1 => ⟨η1, h1, s1, rs1, R1, fl, s', h', e, fun η2 H2 σ2 S2 R2 rs2 => k η2 H2 σ2 (Stp.trans S1 R1 S2) R2 rs2⟩⟩
  · rename_i hn
    refine ⟨η, h, s, rs, hr, fl, s', h', e, fun η1 H1 σ1 S1 R1 rs1 => post_nx (fun z => ?_) (k η1 H1 σ1 S1 R1 rs1)⟩
    subst z
    exact hn _ _ e
theorem kss_cons {st : Stmt} {rest : List Stmt} {a b : CP} (h1 : PS X st (sOf cc a)) (h2 : PSs X rest (sOf cc b)) : PSs X (st :: rest) (sOf cc (cSeq a b)) := pss_imp (pss_cons h1 h2) fun _ _ _ q => seq_of q
theorem ks_never {st : Stmt} : PS X st (sOf cc cNever) := ps_imp ps_never fun D σ H q => by
  obtain ⟨η, h, s, rs, hr, fl, s', h', e, k⟩ := q
  cases e
theorem kss_never {sts : List Stmt} : PSs X sts (sOf cc cNever) := pss_imp pss_never fun D σ H q => by
  obtain ⟨η, h, s, rs, hr, fl, s', h', e, k⟩ := q
  cases e
theorem ks_pass : PS X (.Pass pos) (sOf cc cSkip) := ps_imp ps_pass fun D σ H q => by
  obtain ⟨η, h, s, rs, hr, fl, s', h', e, k⟩ := q
  cases e
  exact k η H σ (Stp.refl _ _) hr rs
theorem ks_ret {e : Expr} {c : CE} (he : PE X e (eOf cc c)) : PS X (.Return (some e) pos) (sOf cc (cRet c)) := ps_imp (ps_ret he) fun D σ H q => by
  obtain ⟨η, h, s, rs, hr, fl, s', h', e, k⟩ := q
  unfold cRet at e
  split at e
  · rename_i v h1 e1
    cases e
    exact ⟨η, h, s, rs, hr, _, _, e1, fun η1 H1 x S1 R1 rx => k η1 H1 σ S1 R1 (RS.mono S1.le rs) x rx⟩
  · cases e
theorem ks_retN : PS X (.Return none pos) (sOf cc cRetN) := ps_imp ps_retN fun D σ H q => by
  obtain ⟨η, h, s, rs, hr, fl, s', h', e, k⟩ := q
  cases e
  exact k η H σ (Stp.refl _ _) hr rs _ rfl
theorem ks_expr {e : Expr} {c : CE} (he : PE X e (eOf cc c)) (hs : swapsWith e none pos.line X.env = pure false := by rfl) : PS X (.Expr e pos) (sOf cc (cDrop c)) := ps_imp (ps_expr he hs) fun D σ H q => by
  obtain ⟨η, h, s, rs, hr, fl, s', h', e, k⟩ := q
  unfold cDrop at e
  split at e
  · rename_i v h1 e1
    cases e
    exact ⟨η, h, s, rs, hr, v, h', e1, fun η1 H1 x S1 R1 rx => k η1 H1 σ S1 R1 (RS.mono S1.le rs)⟩
  · cases e
theorem ks_if {c : Expr} {a b : List Stmt} {ct : CT} {ca cb : CP} (hc : PT X c (bOf cc ct)) (ha : PSs X a (sOf cc ca)) (hb : PSs X b (sOf cc cb)) : PS X (.If c a b pos) (sOf cc (cIf ct ca cb)) := ps_imp (ps_if hc ha hb) fun D σ H q => by
  obtain ⟨η, h, s, rs, hr, fl, s', h', e, k⟩ := q
  unfold cIf at e
  split at e
  · rename_i h1 e1
    refine ⟨η, h, s, rs, hr, _, _, e1, fun η1 H1 S1 R1 => iteT ?_⟩
    exact ⟨η1, h1, s, RS.mono S1.le rs, R1, fl, s', h', e, fun η2 H2 σ2 S2 R2 rs2 => k η2 H2 σ2 (Stp.trans S1 R1 S2) R2 rs2⟩
  · rename_i h1 e1
    refine ⟨η, h, s, rs, hr, _, _, e1, fun η1 H1 S1 R1 => iteF ?_⟩
    exact ⟨η1, h1, s, RS.mono S1.le rs, R1, fl, s', h', e, fun η2 H2 σ2 S2 R2 rs2 => k η2 H2 σ2 (Stp.trans S1 R1 S2) R2 rs2⟩
  · cases e
theorem asg_of {c : CE} {g : CG} {D : Ends} {σ : L2.St} {H : Hp} (q : sOf cc (cAsg c g) D σ H) : tAsg (eOf cc c) (gOf cc g) D σ H := by
  obtain ⟨η, h, s, rs, hr, fl, s', h', e, k⟩ := q
  unfold cAsg at e
  split at e
  · rename_i v h1 e1
    split at e
    · rename_i s2 h2 e2
      cases e
      exact ⟨η, h, s, rs, hr, v, h1, e1, fun η1 H1 x S1 R1 rx => ⟨η1, h1, s, v, rx, RS.mono S1.le rs, R1, _, _, e2, fun η2 H2 σ2 S2 R2 rs2 => k η2 H2 σ2 (Stp.trans S1 R1 S2) R2 rs2⟩⟩
    · cases e
  · cases e
theorem ks_asg {tg e : Expr} {c : CE} {g : CG} (he : PE X e (eOf cc c)) (hg : PG X tg (gOf cc g)) (hs : swapsWithSole [tg] e pos.line X.env = pure false := by rfl) (hw : swappedStores [tg] e X.env = pure none := by rfl)
    (h1 : (assignEach [tg] X.env).map (·.2) = [assign tg X.env] := by rfl) : PS X (.Assign [tg] e pos) (sOf cc (cAsg c g)) := ps_imp (ps_asg he hg hs hw h1) fun _ _ _ q => asg_of q
theorem ks_set {i : Nat} {x : Str} {e : Expr} {c : CE} {pos' : Pos} (hN : X.N.Nodup) (hi : X.N[i]? = some x) (hx : Loc X.env.scope x) (he : PE X e (eOf cc c)) (hs : swapsWith e (some (.Name x pos')) pos.line X.env = pure false := by rfl) (hf : X.fn x = true ∨ X.env.scope.names.lookup x = some .local := by first | exact .inl rfl | exact .inr rfl | assumption) :
    PS X (.Assign [.Name x pos'] e pos) (sOf cc (cAsg c (cgN i))) := ps_imp (ps_set hN hi hx he hs hf) fun D σ H q => by
  have q := asg_of q
  obtain ⟨η, h, s, rs, hr, v, h1, e1, k⟩ := q
  exact ⟨η, h, s, rs, hr, v, h1, e1, fun η1 H1 x S1 R1 rx => name_of (k η1 H1 x S1 R1 rx)⟩
end
end CK

/-! CK: loops. -/
namespace CK
open PySem L2
variable {X : Cx} {cc : Nat → Addr}

/-- what a loop walks -/
inductive CIt where
  | rng (lo : Int) (n : Nat) | lst (a : Nat) | tup (a : Nat) | enu (a : Nat) | enuS (x : List Nat) | zip (a b : Nat) | sgn (x : List Nat)
/-- the i-th turn: none (nothing is known), no more, an item -/
def cnext : CIt → Nat → CH → Option (Option (CV × CH))
  | .rng lo n, i, h => if i < n then some (some (.int (lo + i), h)) else some none
  | .lst a, i, h => match h.get a with
    | some (.lst xs) => (match xs[i]? with | some x => some (some (x, h)) | none => some none)
    | _ => none
  | .tup a, i, h => match h.get a with
    | some (.tup xs) => (match xs[i]? with | some x => some (some (x, h)) | none => some none)
    | _ => none
  | .enu a, i, h => match h.get a with
    | some (.lst xs) => (match xs[i]? with | some x => some (some (.ref h.length, h.new (.tup [.int i, x]))) | none => some none)
    | _ => none
  | .enuS x, i, h => match x[i]? with | some c => some (some (.ref h.length, h.new (.tup [.int i, .str [c]]))) | none => some none
  | .zip a b, i, h => match h.get a, h.get b with
    | some (.lst xs), some (.lst ys) => (match xs[i]?, ys[i]? with | some x, some y => some (some (.ref h.length, h.new (.tup [x, y]))) | _, _ => some none)
    | _, _ => none
  | .sgn x, i, h => match x[i]? with | some c => some (some (.str [c], h)) | none => some none
/-- the walk of the hand layer that stands for it -/
inductive JR (K : PySem.W.Frag) (η : Em) : CIt → It → Prop where
  | rng (lo : Int) (n : Nat) : JR K η (.rng lo n) (Itr lo n)
  | lst {a : Nat} {p : Addr} : η.as[a]? = some p → JR K η (.lst a) (Itl K p)
  | tup {a : Nat} {p : Addr} : η.as[a]? = some p → JR K η (.tup a) (Itt K p)
  | enu {a : Nat} {p : Addr} : η.as[a]? = some p → JR K η (.enu a) (Ite K p)
  | enuS (x : List Nat) : JR K η (.enuS x) (Ites (Tx x))
  | zip {a b : Nat} {p q : Addr} : η.as[a]? = some p → η.as[b]? = some q → JR K η (.zip a b) (Itz K p q)
  | sgn (x : List Nat) : JR K η (.sgn x) (Its (Tx x))
theorem JR.mono {K : PySem.W.Frag} {η η' : Em} (l : Le η η') {c : CIt} {J : It} (j : JR K η c J) : JR K η' c J := by
  cases j with
  | rng lo n => exact .rng lo n
  | lst e => exact .lst (l.get e)
  | tup e => exact .tup (l.get e)
  | enu e => exact .enu (l.get e)
  | enuS x => exact .enuS x
  | zip e f => exact .zip (l.get e) (l.get f)
  | sgn x => exact .sgn x
theorem pd_none {α β : Type} {F : α → β → Prop} {xs : List α} {ys : List β} (p : Paired F xs ys) {i : Nat} (e : xs[i]? = none) : ys.length ≤ i := by
  rw [← p.length]
  exact List.getElem?_eq_none_iff.mp e
theorem Tx_get (x : List Nat) (i : Nat) : (Tx x).cps[i]? = x[i]? := by simp [Tx]
theorem Tx_size (x : List Nat) : (Tx x).cps.size = x.length := by simp [Tx]
theorem next_stop {K : PySem.W.Frag} {η : Em} {h : CH} {H : Hp} (hr : HR cc η h H) {c : CIt} {J : It} (j : JR K η c J) {i : Nat} (e : cnext c i h = some none) : J.stop i H := by
  cases j with
  | rng lo n =>
    simp only [cnext] at e
    split at e
    · cases e
    · rename_i hn; exact Nat.le_of_not_lt hn
  | lst ea =>
    simp only [cnext] at e
    split at e
    · rename_i xs e1
      obtain ⟨ys, q1, p1⟩ := hr.lst e1 ea
      split at e
      · cases e
      · rename_i en; exact ⟨ys, SqL.of q1, pd_none p1 en⟩
    · cases e
  | tup ea =>
    simp only [cnext] at e
    split at e
    · rename_i xs e1
      obtain ⟨ys, q1, p1⟩ := hr.tup e1 ea
      split at e
      · cases e
      · rename_i en; exact ⟨ys, SqT.of q1, pd_none p1 en⟩
    · cases e
  | enu ea =>
    simp only [cnext] at e
    split at e
    · rename_i xs e1
      obtain ⟨ys, q1, p1⟩ := hr.lst e1 ea
      split at e
      · cases e
      · rename_i en; exact ⟨ys, SqL.of q1, pd_none p1 en⟩
    · cases e
  | enuS x =>
    simp only [cnext] at e
    split at e
    · cases e
    · rename_i en
      show (Tx x).cps.size ≤ i
      rw [Tx_size]; exact List.getElem?_eq_none_iff.mp en
  | zip ea eb =>
    simp only [cnext] at e
    split at e
    · rename_i xs ys e1 e2
      obtain ⟨xs', q1, p1⟩ := hr.lst e1 ea
      obtain ⟨ys', q2, p2⟩ := hr.lst e2 eb
      split at e
      · cases e
      · rename_i en
        refine ⟨xs', ys', SqL.of q1, SqL.of q2, ?_⟩
        cases z1 : xs[i]? with
        | none => exact .inl (pd_none p1 z1)
        | some x =>
          cases z2 : ys[i]? with
          | none => exact .inr (pd_none p2 z2)
          | some y => exact absurd z2 (en x y z1)
    · cases e
  | sgn x =>
    simp only [cnext] at e
    split at e
    · cases e
    · rename_i en
      show (Tx x).cps.size ≤ i
      rw [Tx_size]; exact List.getElem?_eq_none_iff.mp en
theorem next_item {K : PySem.W.Frag} {η : Em} {h : CH} {H : Hp} (hr : HR cc η h H) {c : CIt} {J : It} (j : JR K η c J) {i : Nat} {x : CV} {h1 : CH} (e : cnext c i h = some (some (x, h1))) : J.go i H ∧
    ∀ v H', J.yld i H v H' → ∃ η', Stp η H η' H' ∧ HR cc η' h1 H' ∧ RV η' x v := by
  cases j with
  | rng lo n =>
    simp only [cnext] at e
    split at e
    · rename_i hn
      cases e
      refine ⟨hn, fun v H' y => ?_⟩
      obtain ⟨rfl, rfl⟩ := y
      exact ⟨η, Stp.refl _ _, hr, rfl⟩
    · cases e
  | lst ea =>
    simp only [cnext] at e
    split at e
    · rename_i xs e1
      obtain ⟨ys, q1, p1⟩ := hr.lst e1 ea
      split at e
      · rename_i z ez
        cases e
        obtain ⟨y, ey, ry⟩ := Pd.get p1 ez
        refine ⟨⟨ys, y, SqL.of q1, ey⟩, fun v H' w => ?_⟩
        obtain ⟨rfl, w⟩ := w
        have := w ys (SqL.of q1)
        rw [ey] at this
        cases this
        exact ⟨η, Stp.refl _ _, hr, ry⟩
      · cases e
    · cases e
  | tup ea =>
    simp only [cnext] at e
    split at e
    · rename_i xs e1
      obtain ⟨ys, q1, p1⟩ := hr.tup e1 ea
      split at e
      · rename_i z ez
        cases e
        obtain ⟨y, ey, ry⟩ := Pd.get p1 ez
        refine ⟨⟨ys, y, SqT.of q1, ey⟩, fun v H' w => ?_⟩
        obtain ⟨rfl, w⟩ := w
        have := w ys (SqT.of q1)
        rw [ey] at this
        cases this
        exact ⟨η, Stp.refl _ _, hr, ry⟩
      · cases e
    · cases e
  | enu ea =>
    simp only [cnext] at e
    split at e
    · rename_i xs e1
      obtain ⟨ys, q1, p1⟩ := hr.lst e1 ea
      split at e
      · rename_i z ez
        cases e
        obtain ⟨y, ey, ry⟩ := Pd.get p1 ez
        refine ⟨⟨ys, y, SqL.of q1, ey⟩, fun v H' w => ?_⟩
        obtain ⟨T, x', rfl, hT, rfl, w⟩ := w
        have := w ys (SqL.of q1)
        rw [ey] at this
        cases this
        obtain ⟨R2, S2⟩ := hr.new (o := .tup [.int i, z]) (O := .tup [.int (i : Nat), y]) ⟨_, rfl, .cons rfl (.cons ry .nil)⟩ hT
        exact ⟨_, S2, R2, T, Em.push_new η T hr.len, rfl⟩
      · cases e
    · cases e
  | enuS l =>
    simp only [cnext] at e
    split at e
    · rename_i z ez
      cases e
      refine ⟨?_, fun v H' w => ?_⟩
      · show i < (Tx l).cps.size
        rw [Tx_size]; exact (List.getElem?_eq_some_iff.mp ez).1
      · obtain ⟨T, c', rfl, hT, rfl, w⟩ := w
        rw [Tx_get, ez] at w
        cases w
        obtain ⟨R2, S2⟩ := hr.new (o := .tup [.int i, .str [z]]) (O := .tup [.int (i : Nat), .str ⟨#[z]⟩]) ⟨_, rfl, .cons rfl (.cons rfl .nil)⟩ hT
        exact ⟨_, S2, R2, T, Em.push_new η T hr.len, rfl⟩
    · cases e
  | zip ea eb =>
    simp only [cnext] at e
    split at e
    · rename_i xs ys e1 e2
      obtain ⟨xs', q1, p1⟩ := hr.lst e1 ea
      obtain ⟨ys', q2, p2⟩ := hr.lst e2 eb
      split at e
      · rename_i z z2 ez ez2
        cases e
        obtain ⟨y, ey, ry⟩ := Pd.get p1 ez
        obtain ⟨y2, ey2, ry2⟩ := Pd.get p2 ez2
        refine ⟨⟨xs', ys', y, y2, SqL.of q1, SqL.of q2, ey, ey2⟩, fun v H' w => ?_⟩
        obtain ⟨T, x', y', rfl, hT, rfl, w1, w2⟩ := w
        have w1 := w1 xs' (SqL.of q1)
        rw [ey] at w1
        cases w1
        have w2 := w2 ys' (SqL.of q2)
        rw [ey2] at w2
        cases w2
        obtain ⟨R2, S2⟩ := hr.new (o := .tup [z, z2]) (O := .tup [y, y2]) ⟨_, rfl, .cons ry (.cons ry2 .nil)⟩ hT
        exact ⟨_, S2, R2, T, Em.push_new η T hr.len, rfl⟩
      · cases e
    · cases e
  | sgn l =>
    simp only [cnext] at e
    split at e
    · rename_i z ez
      cases e
      refine ⟨?_, fun v H' w => ?_⟩
      · show i < (Tx l).cps.size
        rw [Tx_size]; exact (List.getElem?_eq_some_iff.mp ez).1
      · obtain ⟨rfl, c', w, rfl⟩ := w
        rw [Tx_get, ez] at w
        cases w
        exact ⟨η, Stp.refl _ _, hr, rfl⟩
    · cases e

/-! ### what is walked -/
abbrev CI := CS → CH → Option (CIt × CH)
def iOf (cc : Nat → Addr) (K : PySem.W.Frag) (c : CI) : TI := fun σ H R => ∃ η h s, RS η s σ ∧ HR cc η h H ∧ ∃ it h', c s h = some (it, h') ∧ ∀ η' H' J, Stp η H η' H' → HR cc η' h' H' → JR K η' it J → R J H'
def ciR1 (a : CA) : CI := fun s h => match a s h with
  | some ([.int j], h1) => if decide (-1000000 ≤ j) && decide (j ≤ 1000000) then some (.rng 0 j.toNat, h1) else none
  | _ => none
def ciR2 (a : CA) : CI := fun s h => match a s h with
  | some ([.int i, .int j], h1) => if (decide (-1000000 ≤ i) && decide (i ≤ 1000000)) && (decide (-1000000 ≤ j) && decide (j ≤ 1000000)) then some (.rng i (j - i).toNat, h1) else none
  | _ => none
def isLst (h : CH) (a : Nat) : Bool := match h.get a with | some (.lst _) => true | _ => false
def ciL (e : CE) : CI := fun s h => match e s h with
  | some (.ref a, h1) => if isLst h1 a then some (.lst a, h1) else none
  | _ => none
def ciE (a : CA) : CI := fun s h => match a s h with
  | some ([.ref a], h1) => if isLst h1 a then some (.enu a, h1) else none
  | some ([.str x], h1) => some (.enuS x, h1)
  | _ => none
def ciZ (a : CA) : CI := fun s h => match a s h with
  | some ([.ref a, .ref b], h1) => if isLst h1 a && isLst h1 b then some (.zip a b, h1) else none
  | _ => none
def ciS (e : CE) : CI := fun s h => match e s h with
  | some (.str x, h1) => some (.sgn x, h1)
  | _ => none
theorem isLst_of {η : Em} {h : CH} {H : Hp} (hr : HR cc η h H) {a : Nat} {p : Addr} (ea : η.as[a]? = some p) (e : isLst h a = true) : ∃ ys, H p = some (.lst ys) := by
  unfold isLst at e
  split at e
  · rename_i xs e1
    obtain ⟨ys, q, _⟩ := hr.lst e1 ea
    exact ⟨ys, q⟩
  · cases e
section
variable {tg : Expr} {p pos : Pos}
theorem ki_range1 {a : Expr} {ca : CA} (hg : Gl X "range") (hm : X.mg "range" = none) (ha : PA X [a] (aOf cc ca)) (hs : starEach [a] X.env = [(false, eval a X.env)] := by rfl) : PI X tg (.Call (.Name "range" p) [a] [] pos) (iOf cc X.K (ciR1 ca)) := pi_imp (pi_range1 hg hm ha hs) fun σ H R q => by
  obtain ⟨η, h, s, rs, hr, it, h', e, k⟩ := q
  unfold ciR1 at e
  split at e
  · rename_i j h1 e1
    split at e
    · rename_i hc
      simp only [Bool.and_eq_true, decide_eq_true_eq] at hc
      cases e
      refine ⟨η, h, s, rs, hr, _, _, e1, fun η1 H1 xs S1 R1 rx => ?_⟩
      obtain ⟨y, rfl, ry⟩ := pd1 rx
      exact ⟨j, by rw [show y = .int j from ry], by omega, by omega, k η1 H1 _ S1 R1 (.rng _ _)⟩
    · cases e
  · cases e
theorem ki_range2 {a b : Expr} {ca : CA} (hg : Gl X "range") (hm : X.mg "range" = none) (ha : PA X [a, b] (aOf cc ca)) (hs : starEach [a, b] X.env = [(false, eval a X.env), (false, eval b X.env)] := by rfl) (hs2 : starEach [b] X.env = [(false, eval b X.env)] := by rfl) :
    PI X tg (.Call (.Name "range" p) [a, b] [] pos) (iOf cc X.K (ciR2 ca)) := pi_imp (pi_range2 hg hm ha hs hs2) fun σ H R q => by
  obtain ⟨η, h, s, rs, hr, it, h', e, k⟩ := q
  unfold ciR2 at e
  split at e
  · rename_i i j h1 e1
    split at e
    · rename_i hc
      simp only [Bool.and_eq_true, decide_eq_true_eq] at hc
      cases e
      refine ⟨η, h, s, rs, hr, _, _, e1, fun η1 H1 xs S1 R1 rx => ?_⟩
      obtain ⟨y, y2, rfl, ry, ry2⟩ := pd2 rx
      exact ⟨i, j, by rw [show y = .int i from ry, show y2 = .int j from ry2], ⟨by omega, by omega, by omega, by omega⟩, k η1 H1 _ S1 R1 (.rng _ _)⟩
    · cases e
  · cases e
theorem ki_list {e : Expr} {c : CE} (he : PE X e (eOf cc c)) : PI X tg e (iOf cc X.K (ciL c)) := pi_imp (pi_list he) fun σ H R q => by
  obtain ⟨η, h, s, rs, hr, it, h', e, k⟩ := q
  unfold ciL at e
  split at e
  · rename_i a h1 e1
    split at e
    · rename_i hl
      cases e
      refine ⟨η, h, s, rs, hr, _, _, e1, fun η1 H1 x S1 R1 rx => ?_⟩
      obtain ⟨b, eb, rfl⟩ := rx
      obtain ⟨ys, q⟩ := isLst_of R1 eb hl
      exact ⟨b, rfl, ⟨ys, SqL.of q⟩, k η1 H1 _ S1 R1 (.lst eb)⟩
    · cases e
  · cases e
theorem ki_str {e : Expr} {c : CE} (he : PE X e (eOf cc c)) : PI X tg e (iOf cc X.K (ciS c)) := pi_imp (pi_str he) fun σ H R q => by
  obtain ⟨η, h, s, rs, hr, it, h', e, k⟩ := q
  unfold ciS at e
  split at e
  · rename_i x h1 e1
    cases e
    exact ⟨η, h, s, rs, hr, _, _, e1, fun η1 H1 y S1 R1 rx => ⟨Tx x, rx, k η1 H1 _ S1 R1 (.sgn x)⟩⟩
  · cases e
theorem ki_enum {e : Expr} {ca : CA} {tpos : Pos} {elts : List Expr} {kk : Nat} (hg : Gl X "enumerate") (hm : X.mg "enumerate" = none) (ha : PA X [e] (aOf cc ca)) (hs : starEach [e] X.env = [(false, eval e X.env)] := by rfl) :
    PI X (.Tuple elts kk tpos) (.Call (.Name "enumerate" p) [e] [] pos) (iOf cc X.K (ciE ca)) := pi_imp (CK.PI.or (pi_enum hg hm ha hs) (pi_enumS hg hm ha hs)) fun σ H R q => by
  obtain ⟨η, h, s, rs, hr, it, h', e, k⟩ := q
  unfold ciE at e
  split at e
  · rename_i a h1 e1
    split at e
    · rename_i hl
      cases e
      refine .inl ⟨η, h, s, rs, hr, _, _, e1, fun η1 H1 xs S1 R1 rx => ?_⟩
      obtain ⟨y, rfl, b, eb, rfl⟩ := pd1 rx
      obtain ⟨ys, q⟩ := isLst_of R1 eb hl
      exact ⟨b, ys, rfl, SqL.of q, k η1 H1 _ S1 R1 (.enu eb)⟩
    · cases e
  · rename_i x h1 e1
    cases e
    refine .inr ⟨η, h, s, rs, hr, _, _, e1, fun η1 H1 xs S1 R1 rx => ?_⟩
    obtain ⟨y, rfl, ry⟩ := pd1 rx
    exact ⟨Tx x, by rw [show y = .str (Tx x) from ry], k η1 H1 _ S1 R1 (.enuS x)⟩
  · cases e
theorem ki_zip {e e2 : Expr} {ca : CA} {tpos : Pos} {elts : List Expr} {kk : Nat} (hg : Gl X "zip") (hm : X.mg "zip" = none) (ha : PA X [e, e2] (aOf cc ca))
    (hs : starEach [e, e2] X.env = (false, eval e X.env) :: starEach [e2] X.env := by rfl) (hpl : (backTo pos (starEach [e2] X.env)).any (·.1) = false := by rfl) :
    PI X (.Tuple elts kk tpos) (.Call (.Name "zip" p) [e, e2] [] pos) (iOf cc X.K (ciZ ca)) := pi_imp (pi_zip hg hm ha hs hpl) fun σ H R q => by
  obtain ⟨η, h, s, rs, hr, it, h', e, k⟩ := q
  unfold ciZ at e
  split at e
  · rename_i a b h1 e1
    split at e
    · rename_i hl
      simp only [Bool.and_eq_true] at hl
      cases e
      refine ⟨η, h, s, rs, hr, _, _, e1, fun η1 H1 xs S1 R1 rx => ?_⟩
      obtain ⟨y, y2, rfl, ⟨p1, ep, rfl⟩, ⟨p2, eq, rfl⟩⟩ := pd2 rx
      obtain ⟨ys, q⟩ := isLst_of R1 ep hl.1
      obtain ⟨ys2, q2⟩ := isLst_of R1 eq hl.2
      exact ⟨p1, p2, ys, ys2, rfl, SqL.of q, SqL.of q2, k η1 H1 _ S1 R1 (.zip ep eq)⟩
    · cases e
  · cases e
end

/-! ### for, while -/
def forGo (it : CIt) (g : CG) (b : CP) : Nat → Nat → CP
  | 0, _, _, _ => none
  | m + 1, i, s, h => match cnext it i h with
    | none => none
    | some none => some (.nx, s, h)
    | some (some (x, h1)) => match g x s h1 with
      | none => none
      | some (s1, h2) => match b s1 h2 with
        | some (.nx, s2, h3) => forGo it g b m (i + 1) s2 h3
        | some (.ct, s2, h3) => forGo it g b m (i + 1) s2 h3
        | some (.bk, s2, h3) => some (.nx, s2, h3)
        | some (.rt v, s2, h3) => some (.rt v, s2, h3)
        | none => none
def cFor (fuel : Nat) (ci : CI) (g : CG) (b : CP) : CP := fun s h => match ci s h with
  | none => none
  | some (it, h1) => forGo it g b fuel 0 s h1
theorem for_of {K : PySem.W.Frag} {fuel : Nat} {ci : CI} {g : CG} {b : CP} {D : Ends} {σ : L2.St} {H : Hp} (q : sOf cc (cFor fuel ci g b) D σ H) : tFor (iOf cc K ci) (gOf cc g) (sOf cc b) D σ H := by
  obtain ⟨η, h, s, rs, hr, fl, s', h', e, k⟩ := q
  unfold cFor at e
  split at e
  · cases e
  · rename_i it h1 e1
    refine ⟨η, h, s, rs, hr, it, h1, e1, fun η1 H1 J S1 R1 j1 => ?_⟩
    refine ⟨fun i m σ' H' => ∃ η2 h2 s2, Stp η H η2 H' ∧ HR cc η2 h2 H' ∧ RS η2 s2 σ' ∧ JR K η2 it J ∧ forGo it g b m i s2 h2 = some (fl, s', h'), ⟨fuel, η1, h1, s, S1, R1, RS.mono S1.le rs, j1, e⟩, ?_⟩
    rintro i m σ2 H2 ⟨η2, h2, s2, S2, R2, rs2, j2, e2⟩
    cases m with
    | zero => cases e2
    | succ m =>
      unfold forGo at e2
      split at e2
      · cases e2
      · rename_i en
        cases e2
        exact .inl ⟨next_stop R2 j2 en, k η2 H2 σ2 S2 R2 rs2⟩
      · rename_i x h3 en
        obtain ⟨go, yl⟩ := next_item R2 j2 en
        refine .inr ⟨go, fun σ' H' => ∃ η4 h4 s4, Stp η H η4 H' ∧ HR cc η4 h4 H' ∧ RS η4 s4 σ' ∧ JR K η4 it J ∧ forGo it g b m (i + 1) s4 h4 = some (fl, s', h'), fun σ' H' w => ⟨m, Nat.lt_succ_self m, w⟩, fun v H3 y => ?_⟩
        obtain ⟨η3, S3, R3, rv⟩ := yl v H3 y
        split at e2
        · cases e2
        · rename_i s4 h4 eg
          refine ⟨η3, h3, s2, x, rv, RS.mono S3.le rs2, R3, s4, h4, eg, fun η4 H4 σ4 S4 R4 rs4 => ?_⟩
          have S24 := Stp.trans (Stp.trans S2 R2 S3) R3 S4
          have j4 := JR.mono S4.le (JR.mono S3.le j2)
          split at e2
          · rename_i s5 h5 eb
            exact ⟨η4, h4, s4, rs4, R4, .nx, s5, h5, eb, fun η5 H5 σ5 S5 R5 rs5 => ⟨η5, h5, s5, Stp.trans S24 R4 S5, R5, rs5, JR.mono S5.le j4, e2⟩⟩
          · rename_i s5 h5 eb
            exact ⟨η4, h4, s4, rs4, R4, .ct, s5, h5, eb, fun η5 H5 σ5 S5 R5 rs5 => ⟨η5, h5, s5, Stp.trans S24 R4 S5, R5, rs5, JR.mono S5.le j4, e2⟩⟩
          · rename_i s5 h5 eb
            cases e2
            exact ⟨η4, h4, s4, rs4, R4, .bk, _, _, eb, fun η5 H5 σ5 S5 R5 rs5 => k η5 H5 σ5 (Stp.trans S24 R4 S5) R5 rs5⟩
          · rename_i v' s5 h5 eb
            cases e2
            exact ⟨η4, h4, s4, rs4, R4, .rt v', _, _, eb, fun η5 H5 σ5 S5 R5 rs5 => k η5 H5 σ5 (Stp.trans S24 R4 S5) R5 rs5⟩
          · cases e2
theorem ks_for {tg iter : Expr} {body : List Stmt} {ci : CI} {g : CG} {b : CP} {pos : Pos} (fuel : Nat) (hp : PassesOwn (model X.prog X.w) X.A X.env X.xe) (hc : X.calm = true) (hi : PI X tg iter (iOf cc X.K ci)) (hg : PG X tg (gOf cc g)) (hb : PSs X body (sOf cc b))
    (hs : ∀ x, foldedSetIterable iter X.env x = pure x := by intro _; rfl) : PS X (.For tg iter body [] pos) (sOf cc (cFor fuel ci g b)) := ps_imp (ps_for hp hc hi hg hb hs) fun _ _ _ q => for_of q
def whileGo (t : CT) (b : CP) : Nat → CP
  | 0, _, _ => none
  | m + 1, s, h => match t s h with
    | none => none
    | some (false, h1) => some (.nx, s, h1)
    | some (true, h1) => match b s h1 with
      | some (.nx, s2, h3) => whileGo t b m s2 h3
      | some (.ct, s2, h3) => whileGo t b m s2 h3
      | some (.bk, s2, h3) => some (.nx, s2, h3)
      | some (.rt v, s2, h3) => some (.rt v, s2, h3)
      | none => none
theorem while_of {fuel : Nat} {t : CT} {b : CP} {D : Ends} {σ : L2.St} {H : Hp} (q : sOf cc (whileGo t b fuel) D σ H) : tWhile (bOf cc t) (sOf cc b) D σ H := by
  obtain ⟨η, h, s, rs, hr, fl, s', h', e, k⟩ := q
  refine ⟨fun m σ' H' => ∃ η2 h2 s2, Stp η H η2 H' ∧ HR cc η2 h2 H' ∧ RS η2 s2 σ' ∧ whileGo t b m s2 h2 = some (fl, s', h'), ⟨fuel, η, h, s, Stp.refl _ _, hr, rs, e⟩, ?_⟩
  rintro m σ2 H2 ⟨η2, h2, s2, S2, R2, rs2, e2⟩
  cases m with
  | zero => cases e2
  | succ m =>
    unfold whileGo at e2
    split at e2
    · cases e2
    · rename_i h3 et
      cases e2
      refine ⟨η2, h2, _, rs2, R2, _, _, et, fun η3 H3 S3 R3 => iteF ?_⟩
      exact k η3 H3 σ2 (Stp.trans S2 R2 S3) R3 (RS.mono S3.le rs2)
    · rename_i h3 et
      refine ⟨η2, h2, s2, rs2, R2, _, _, et, fun η3 H3 S3 R3 => iteT ?_⟩
      refine ⟨fun σ' H' => ∃ η4 h4 s4, Stp η H η4 H' ∧ HR cc η4 h4 H' ∧ RS η4 s4 σ' ∧ whileGo t b m s4 h4 = some (fl, s', h'), fun σ' H' w => ⟨m, Nat.lt_succ_self m, w⟩, ?_⟩
      have S23 := Stp.trans S2 R2 S3
      split at e2
      · rename_i s5 h5 eb
        exact ⟨η3, h3, s2, RS.mono S3.le rs2, R3, .nx, s5, h5, eb, fun η5 H5 σ5 S5 R5 rs5 => ⟨η5, h5, s5, Stp.trans S23 R3 S5, R5, rs5, e2⟩⟩
      · rename_i s5 h5 eb
        exact ⟨η3, h3, s2, RS.mono S3.le rs2, R3, .ct, s5, h5, eb, fun η5 H5 σ5 S5 R5 rs5 => ⟨η5, h5, s5, Stp.trans S23 R3 S5, R5, rs5, e2⟩⟩
      · rename_i s5 h5 eb
        cases e2
        exact ⟨η3, h3, s2, RS.mono S3.le rs2, R3, .bk, _, _, eb, fun η5 H5 σ5 S5 R5 rs5 => k η5 H5 σ5 (Stp.trans S23 R3 S5) R5 rs5⟩
      · rename_i v' s5 h5 eb
        cases e2
        exact ⟨η3, h3, s2, RS.mono S3.le rs2, R3, .rt v', _, _, eb, fun η5 H5 σ5 S5 R5 rs5 => k η5 H5 σ5 (Stp.trans S23 R3 S5) R5 rs5⟩
      · cases e2
theorem ks_while {c : Expr} {body : List Stmt} {t : CT} {b : CP} {pos : Pos} (fuel : Nat) (hp : PassesOwn (model X.prog X.w) X.A X.env X.xe) (hc : PT X c (bOf cc t)) (hb : PSs X body (sOf cc b)) : PS X (.While c body [] pos) (sOf cc (whileGo t b fuel)) := ps_imp (ps_while hp hc hb) fun _ _ _ q => while_of q
end CK

/-! CK: comprehensions. -/
namespace CK
open PySem L2
variable {X : Cx} {cc : Nat → Addr}

/-- the targets of a comprehension: a name, or names in a tuple -/
inductive CTg where
  | nm (i : Nat) | tp (is : List Nat)
def CTg.ix : CTg → List Nat
  | .nm i => [i]
  | .tp is => is
def namesR : List Nat → TGs
  | [] => gNil
  | i :: r => gCons (gName i) (namesR r)
def tgR (K : PySem.W.Frag) : CTg → TG
  | .nm i => gName i
  | .tp is => gTup K is.length (namesR is)
def namesC : List Nat → List CV → CS → Option CS
  | [], [], s => some s
  | i :: r, v :: vs, s => namesC r vs (s.set i (some v))
  | _, _, _ => none
def tgC : CTg → CV → CS → CH → Option CS
  | .nm i, v, s, _ => some (s.set i (some v))
  | .tp is, .ref a, s, h => (match h.get a with
    | some (.tup xs) => namesC is xs s
    | _ => none)
  | .tp _, _, _, _ => none
structure OutEq (vs : List Nat) (a b : L2.St) : Prop where
  len : a.length = b.length
  at_ : ∀ i : Nat, i ∉ vs → a[i]? = b[i]?
theorem OutEq.set {vs : List Nat} {a b : L2.St} (q : OutEq vs a b) {i : Nat} (hi : i ∈ vs) (v : Option V) : OutEq vs (a.set i v) b := by
  refine ⟨by rw [List.length_set]; exact q.len, fun j hj => ?_⟩
  have : i ≠ j := fun z => hj (by rw [← z]; exact hi)
  rw [List.getElem?_set_ne this]
  exact q.at_ j hj
theorem wipe_in {σ : L2.St} {i : Nat} : ∀ {vs : List Nat}, i ∈ vs → (wipe σ vs)[i]? = if i < σ.length then some none else none
  | v :: vs, h => by
    unfold wipe
    by_cases e : v = i
    · subst e
      rw [List.getElem?_set, if_pos rfl, wipe_length]
    · rw [List.getElem?_set_ne e]
      rcases List.mem_cons.mp h with z | z
      · exact absurd z.symm e
      · exact wipe_in z
theorem wipe_eq {vs : List Nat} {a b : L2.St} (q : OutEq vs a b) : wipe a vs = wipe b vs := by
  refine List.ext_getElem? fun i => ?_
  by_cases h : i ∈ vs
  · rw [wipe_in h, wipe_in h, q.len]
  · rw [wipe_out h, wipe_out h, q.at_ i h]
theorem outEq_wipe (vs : List Nat) (σ : L2.St) : OutEq vs (wipe σ vs) σ := ⟨wipe_length σ vs, fun i h => wipe_out h⟩
theorem names_of {η : Em} {H : Hp} : ∀ {is : List Nat} {us : List CV} {vs : List V} {s s' : CS} {σ : L2.St} {Q : L2.St → Hp → Prop}, RVs η us vs → RS η s σ → namesC is us s = some s' →
    (∀ σ2, RS η s' σ2 → (∀ ws τ, (∀ i ∈ is, i ∈ ws) → OutEq ws σ τ → OutEq ws σ2 τ) → Q σ2 H) → namesR is vs σ H Q
  | [], _, _, _, _, _, _, .nil, rs, e, k => by
    cases e
    exact ⟨rfl, k _ rs fun _ _ _ q => q⟩
  | i :: r, _, _, _, _, _, _, .cons rv rr, rs, e, k => by
    have e : namesC r _ _ = some _ := e
    refine ⟨_, _, rfl, ?_⟩
    show namesR r _ _ H _
    exact names_of rr (rs.set i rv) e fun σ2 rs2 hq => k σ2 rs2 fun ws τ hw q => hq ws τ (fun j hj => hw j (List.mem_cons_of_mem _ hj)) (q.set (hw i List.mem_cons_self) _)
  | [], _, _, _, _, _, _, .cons _ _, _, e, _ => by cases e
  | _ :: _, _, _, _, _, _, _, .nil, _, e, _ => by cases e
theorem namesC_len : ∀ {is : List Nat} {us : List CV} {s s' : CS}, namesC is us s = some s' → us.length = is.length
  | [], [], _, _, _ => rfl
  | _ :: r, _ :: vs, s, s', e => by
    have := namesC_len (is := r) (us := vs) (s' := s') (s := _) (show namesC r vs _ = some s' from e)
    rw [List.length_cons, List.length_cons, this]
  | [], _ :: _, _, _, e => by cases e
  | _ :: _, [], _, _, e => by cases e
theorem tg_of {K : PySem.W.Frag} {η : Em} {h : CH} {H : Hp} (hr : HR cc η h H) {t : CTg} {u : CV} {v : V} {s s' : CS} {σ : L2.St} {Q : L2.St → Hp → Prop} (rv : RV η u v) (rs : RS η s σ) (e : tgC t u s h = some s')
    (k : ∀ σ2, RS η s' σ2 → (∀ ws τ, (∀ i ∈ t.ix, i ∈ ws) → OutEq ws σ τ → OutEq ws σ2 τ) → Q σ2 H) : tgR K t v σ H Q := by
  cases t with
  | nm i =>
    cases e
    exact k _ (rs.set i rv) fun ws τ hw q => q.set (hw i (List.mem_singleton.mpr rfl)) _
  | tp is =>
    unfold tgC at e
    split at e
    · rename_i z; cases z
    · rename_i is' a _ _ z
      cases z
      obtain ⟨b, eb, rfl⟩ := rv
      split at e
      · rename_i xs e1
        obtain ⟨ys, q1, p1⟩ := hr.tup e1 eb
        exact ⟨b, ys, rfl, SqT.of q1, by rw [← p1.length]; exact namesC_len e, names_of p1 rs e k⟩
      · cases e
    · cases e
def cwipe (s : CS) : List Nat → CS
  | [] => s
  | v :: vs => (cwipe s vs).set v none
theorem RS.unset {η : Em} {s : CS} {σ : L2.St} (r : RS η s σ) (i : Nat) : RS η (s.set i none) (σ.set i none) := by
  refine ⟨by rw [List.length_set, List.length_set]; exact r.len, fun j u e => ?_⟩
  by_cases hj : j = i
  · subst hj
    have hl : j < s.length := by have := (List.getElem?_eq_some_iff.mp e).1; rwa [List.length_set] at this
    rw [List.getElem?_set_self hl] at e
    cases e
  · rw [List.getElem?_set_ne (fun q => hj q.symm)] at e ⊢
    exact r.at_ j u e
theorem RS.wipe {η : Em} {s : CS} {σ : L2.St} (r : RS η s σ) : ∀ vs : List Nat, RS η (cwipe s vs) (L2.wipe σ vs)
  | [] => r
  | v :: vs => (RS.wipe r vs).unset v
/-- the tests -/
def cYes : CT := fun _ h => some (true, h)
theorem pts_imp {e : List Expr} {t t' : TT} (h : PTs X e t) (i : ∀ σ H Q, t' σ H Q → t σ H Q) : PTs X e t' := ⟨fun pins s σ H Q I q => h.run pins s σ H Q I (i _ _ _ q)⟩
theorem kts_nil : PTs X [] (bOf cc cYes) := pts_imp pts_nil fun σ H Q q => by
  obtain ⟨η, h, s, rs, hr, v, h', e, k⟩ := q
  cases e
  exact k η H (Stp.refl _ _) hr
theorem kts_one {c : Expr} {t : CT} (h : PT X c (bOf cc t)) : PTs X [c] (bOf cc t) := pts_one h
/-- the turns: the new list stands at D -/
def lcGo (it : CIt) (t : CTg) (ct : CT) (ce : CE) (D : Nat) (s0 : CS) : Nat → Nat → CH → Option CH
  | 0, _, _ => none
  | m + 1, i, h => match cnext it i h with
    | none => none
    | some none => some h
    | some (some (x, h1)) => match tgC t x s0 h1 with
      | none => none
      | some s1 => match ct s1 h1 with
        | none => none
        | some (false, h3) => lcGo it t ct ce D s0 m (i + 1) h3
        | some (true, h3) => match ce s1 h3 with
          | none => none
          | some (y, h4) => match h4.get D with
            | some (.lst acc) => if acc.length ≤ 4000 then lcGo it t ct ce D s0 m (i + 1) (h4.set D (.lst (acc ++ [y]))) else none
            | _ => none
def cLc (fuel : Nat) (ci : CI) (t : CTg) (ct : CT) (ce : CE) (vs : List Nat) : CE := fun s h => match ci s h with
  | none => none
  | some (it, h1) => match lcGo it t ct ce h1.length (cwipe s vs) fuel 0 (h1.new (.lst [])) with
    | none => none
    | some h2 => some (.ref h1.length, h2)
theorem lc_of {K : PySem.W.Frag} {fuel : Nat} {ci : CI} {t : CTg} {ct : CT} {ce : CE} {vs : List Nat} (hsub : ∀ i ∈ t.ix, i ∈ vs) {σ : L2.St} {H : Hp} {Q : VK} (q : eOf cc (cLc fuel ci t ct ce vs) σ H Q) :
    tLc (iOf cc K ci) (tgR K t) (bOf cc ct) (eOf cc ce) vs σ H Q := by
  obtain ⟨η, h, s, rs, hr, w, h', e, k⟩ := q
  unfold cLc at e
  split at e
  · cases e
  · rename_i it h1 e1
    split at e
    · cases e
    · rename_i h2 e2
      cases e
      refine ⟨η, h, s, rs, hr, it, h1, e1, fun η1 H1 J S1 R1 j1 D hD => ?_⟩
      obtain ⟨R2, S2⟩ := R1.new (o := .lst []) (O := .lst []) ⟨[], rfl, .nil⟩ hD
      have hix : (η1.push D).as[h1.length]? = some D := Em.push_new η1 D R1.len
      refine ⟨fun i m H' => ∃ η2 h3, Stp η H η2 H' ∧ HR cc η2 h3 H' ∧ η2.as[h1.length]? = some D ∧ JR K η2 it J ∧ Le η η2 ∧ lcGo it t ct ce h1.length (cwipe s vs) m i h3 = some h',
        ⟨fuel, η1.push D, _, Stp.trans S1 R1 S2, R2, hix, JR.mono S2.le j1, S1.le.trans S2.le, e2⟩, ?_⟩
      rintro i m H2 ⟨η2, h3, S3, R3, x2, j2, l2, e3⟩
      cases m with
      | zero => cases e3
      | succ m =>
        unfold lcGo at e3
        split at e3
        · cases e3
        · rename_i en
          cases e3
          exact .inl ⟨next_stop R3 j2 en, k η2 H2 _ S3 R3 ⟨D, x2, rfl⟩⟩
        · rename_i x h4 en
          obtain ⟨go, yl⟩ := next_item R3 j2 en
          refine .inr ⟨go, fun H' => ∃ η4 h5, Stp η H η4 H' ∧ HR cc η4 h5 H' ∧ η4.as[h1.length]? = some D ∧ JR K η4 it J ∧ Le η η4 ∧ lcGo it t ct ce h1.length (cwipe s vs) m (i + 1) h5 = some h', fun H' z => ⟨m, Nat.lt_succ_self m, z⟩, fun v H3 y => ?_⟩
          obtain ⟨η3, S4, R4, rv⟩ := yl v H3 y
          split at e3
          · cases e3
          · rename_i s1 eg
            have l3 : Le η η3 := l2.trans S4.le
            refine tg_of R4 rv (RS.mono l3 (rs.wipe vs)) eg fun σ2 rs2 hq => ⟨wipe_eq (hq vs σ hsub (outEq_wipe vs σ)), ?_⟩
            have S34 := Stp.trans S3 R3 S4
            split at e3
            · cases e3
            · rename_i h5 et
              refine ⟨η3, h4, s1, rs2, R4, _, _, et, fun η5 H5 S5 R5 => iteF ?_⟩
              exact ⟨η5, h5, Stp.trans S34 R4 S5, R5, S5.le.get (S4.le.get x2), JR.mono S5.le (JR.mono S4.le j2), l3.trans S5.le, e3⟩
            · rename_i h5 et
              refine ⟨η3, h4, s1, rs2, R4, _, _, et, fun η5 H5 S5 R5 => iteT ?_⟩
              split at e3
              · cases e3
              · rename_i y6 h6 ee
                refine ⟨η5, h5, s1, RS.mono S5.le rs2, R5, _, _, ee, fun η6 H6 y' S6 R6 ry => ?_⟩
                split at e3
                · rename_i acc ea
                  split at e3
                  · rename_i hz
                    have x6 := S6.le.get (S5.le.get (S4.le.get x2))
                    obtain ⟨acc', q1, p1⟩ := R6.lst ea x6
                    refine ⟨acc', q1, by rw [← p1.length]; exact Nat.lt_of_le_of_lt hz (by rw [sizeLine_eq]; decide), ?_⟩
                    obtain ⟨R7, S7⟩ := R6.put (o := .lst (acc ++ [y6])) (O := .lst (acc' ++ [y'])) x6 ⟨_, rfl, Pd.app p1 (.cons ry .nil)⟩
                    exact ⟨η6, _, Stp.trans (Stp.trans (Stp.trans S34 R4 S5) R5 S6) R6 S7, R7, x6, JR.mono S6.le (JR.mono S5.le (JR.mono S4.le j2)), (l3.trans S5.le).trans S6.le, e3⟩
                  · cases e3
                · cases e3
section
variable {elt tg iter : Expr} {ifs : List Expr} {scope : Scope} {own : List (Str × Nat)} {pos spos : Pos} {ci : CI} {ct : CT} {ce : CE}
theorem ke_lc (fuel : Nat) (t : CTg) (hc : X.calm = true) (hN : X.N.Nodup) (hi : PI X tg iter (iOf cc X.K ci)) (ok : BlkOk X.N X.env.scope scope own)
    (hg : ∀ (s : Shared) (H : Hp) (C : Addr) (cl : List (Str × Addr)) (fp : List Addr), PG (X.blk s H scope (compEnvC scope cl C X.env) fp) tg (tgR X.K t)) (ht : ∀ (s : Shared) (H : Hp) (C : Addr) (cl : List (Str × Addr)) (fp : List Addr), PTs (X.blk s H scope (compEnvC scope cl C X.env) fp) ifs (bOf cc ct))
    (he : ∀ (s : Shared) (H : Hp) (C : Addr) (cl : List (Str × Addr)) (fp : List Addr), PE (X.blk s H scope (compEnvC scope cl C X.env) fp) elt (eOf cc ce)) (hsub : ∀ i ∈ t.ix, i ∈ own.map (·.2) := by decide) (hs : ∀ x, foldedSetIterable iter X.env x = pure x := by intro _; rfl) :
    PE X (.ListComp elt [⟨tg, iter, ifs, 0⟩] scope pos) (eOf cc (cLc fuel ci t ct ce (own.map (·.2)))) := pe_imp (pe_lc hc hN hi ok hg ht he hs) fun _ _ _ q => lc_of hsub q
theorem ks_setLc (fuel : Nat) (t : CTg) {i : Nat} {y : Str} {py : Pos} (hc : X.calm = true) (hN : X.N.Nodup) (hy : X.N[i]? = some y) (hyl : X.env.scope.names.lookup y = some .local)
    (hsw : swapsWith (.ListComp elt [⟨tg, iter, ifs, 0⟩] scope pos) (some (.Name y py)) spos.line X.env = pure true) (hi : PI X tg iter (iOf cc X.K ci)) (ok : BlkOk X.N X.env.scope scope own)
    (hg : ∀ (s : Shared) (H : Hp) (C : Addr) (cl : List (Str × Addr)) (fp : List Addr), PG (X.blk s H scope (compEnvC scope cl C X.env) fp) tg (tgR X.K t)) (ht : ∀ (s : Shared) (H : Hp) (C : Addr) (cl : List (Str × Addr)) (fp : List Addr), PTs (X.blk s H scope (compEnvC scope cl C X.env) fp) ifs (bOf cc ct))
    (he : ∀ (s : Shared) (H : Hp) (C : Addr) (cl : List (Str × Addr)) (fp : List Addr), PE (X.blk s H scope (compEnvC scope cl C X.env) fp) elt (eOf cc ce)) (hsub : ∀ i ∈ t.ix, i ∈ own.map (·.2) := by decide) (hs : ∀ x, foldedSetIterable iter X.env x = pure x := by intro _; rfl) :
    PS X (.Assign [.Name y py] (.ListComp elt [⟨tg, iter, ifs, 0⟩] scope pos) spos) (sOf cc (cAsg (cLc fuel ci t ct ce (own.map (·.2))) (cgN i))) := ps_imp (ps_setLc hc hN hy hyl hsw hi ok hg ht he hs) fun D σ H q => by
  have q := asg_of q
  refine lc_of (fuel := fuel) hsub ?_
  obtain ⟨η, h, s, rs, hr, v, h1, e1, k⟩ := q
  exact ⟨η, h, s, rs, hr, v, h1, e1, fun η1 H1 x S1 R1 rx => name_of (k η1 H1 x S1 R1 rx)⟩
end
end CK

/-! CK: built-in methods, own objects, a def as a whole. -/
namespace CK
open PySem L2 PyProof.Rows
variable {X : Cx} {cc : Nat → Addr}

/-! ### built-in methods -/
def isL (v : CV) (h : CH) : Bool := match v with | .ref a => isLst h a | _ => false
def isS (v : CV) (_ : CH) : Bool := match v with | .str _ => true | _ => false
def cMt (ck : CV → CH → Bool) (f : CV → List CV → CH → Option (CV × CH)) (o : CE) (a : CA) : CE := fun s h => match o s h with
  | none => none
  | some (v, h1) => if ck v h1 then (match a s h1 with
    | none => none
    | some (vs, h2) => f v vs h2) else none
def VMt (cc : Nat → Addr) (f : CV → List CV → CH → Option (CV × CH)) (r : V → List V → Hp → VK → Prop) : Prop :=
  ∀ {η : Em} {h : CH} {H : Hp} {v : CV} {vs : List CV} {x : V} {xs : List V} {w : CV} {h' : CH} {Q : VK}, HR cc η h H → RV η v x → RVs η vs xs → f v vs h = some (w, h') → Kn cc η H w h' Q → r x xs H Q
def Ck (cc : Nat → Addr) (K : PySem.W.Frag) (T : String) (ck : CV → CH → Bool) : Prop := ∀ {η : Em} {h : CH} {H : Hp} {v : CV} {x : V}, HR cc η h H → RV η v x → ck v h = true → tyV K T x H
theorem ck_list {K : PySem.W.Frag} : Ck cc K "list" isL := by
  intro η h H v x hr r e
  unfold isL at e
  split at e
  · obtain ⟨a, ea, rfl⟩ := r
    obtain ⟨ys, q⟩ := isLst_of hr ea e
    exact .inl ⟨rfl, ys, SqL.of q⟩
  · cases e
theorem ck_str {K : PySem.W.Frag} : Ck cc K "str" isS := by
  intro η h H v x hr r e
  unfold isS at e
  split at e
  · obtain rfl : x = .str (Tx _) := r
    rfl
  · cases e
theorem mt_of {K : PySem.W.Frag} {T : String} {ck : CV → CH → Bool} {f : CV → List CV → CH → Option (CV × CH)} {r : V → List V → Hp → VK → Prop} (hc : Ck cc K T ck) (hf : VMt cc f r) {o : CE} {a : CA} {σ : L2.St} {H : Hp} {Q : VK} (q : eOf cc (cMt ck f o a) σ H Q) :
    tBM K T r (eOf cc o) (aOf cc a) σ H Q := by
  obtain ⟨η, h, s, rs, hr, w, h', e, k⟩ := q
  unfold cMt at e
  split at e
  · cases e
  · rename_i v h1 e1
    split at e
    · rename_i hck
      split at e
      · cases e
      · rename_i vs h2 e2
        refine ⟨η, h, s, rs, hr, _, _, e1, fun η1 H1 x S1 R1 rx => ⟨hc R1 rx hck, η1, h1, s, RS.mono S1.le rs, R1, _, _, e2, fun η2 H2 xs S2 R2 rxs => ?_⟩⟩
        exact hf R2 (RV.mono S2.le rx) rxs e fun η3 H3 z S3 R3 rz => k η3 H3 z (Stp.trans (Stp.trans S1 R1 S2) R2 S3) R3 rz
    · cases e
theorem mt0_of {K : PySem.W.Frag} {T : String} {ck : CV → CH → Bool} {f : CV → List CV → CH → Option (CV × CH)} {r : V → List V → Hp → VK → Prop} (hc : Ck cc K T ck) (hf : VMt cc f r) {o : CE} {σ : L2.St} {H : Hp} {Q : VK} (q : eOf cc (cMt ck f o cNil) σ H Q) :
    tBM0 K T r (eOf cc o) σ H Q := by
  obtain ⟨η, h, s, rs, hr, w, h', e, k⟩ := q
  unfold cMt at e
  split at e
  · cases e
  · rename_i v h1 e1
    split at e
    · rename_i hck
      have e : f v [] h1 = some (w, h') := e
      refine ⟨η, h, s, rs, hr, _, _, e1, fun η1 H1 x S1 R1 rx => ⟨hc R1 rx hck, ?_⟩⟩
      exact hf R1 rx .nil e fun η3 H3 z S3 R3 rz => k η3 H3 z (Stp.trans S1 R1 S3) R3 rz
    · cases e
theorem kn_put {η : Em} {h : CH} {H : Hp} {n : Nat} {a : Addr} {xs : List CV} {ys : List V} {w : CV} {y : V} {Q : VK} (hr : HR cc η h H) (ea : η.as[n]? = some a) (r : RVs η xs ys) (rw' : RV η w y) (k : Kn cc η H w (h.set n (.lst xs)) Q) : Q y (upd H a (.lst ys)) := by
  obtain ⟨R, S⟩ := hr.put (o := .lst xs) (O := .lst ys) ea ⟨ys, rfl, r⟩
  exact k η _ y S R rw'
def mAppend : CV → List CV → CH → Option (CV × CH)
  | .ref a, [y], h => match h.get a with
    | some (.lst xs) => if xs.length ≤ 4000 then some (.non, h.set a (.lst (xs ++ [y]))) else none
    | _ => none
  | _, _, _ => none
theorem vAppend : VMt cc mAppend rAppend := by
  intro η h H v vs x xs w h' Q hr r1 r2 e k
  unfold mAppend at e
  split at e
  · obtain ⟨a, ea, rfl⟩ := r1
    obtain ⟨y, rfl, ry⟩ := pd1 r2
    split at e
    · rename_i zs e1
      split at e
      · rename_i hz
        cases e
        obtain ⟨ys, q1, p1⟩ := hr.lst e1 ea
        exact ⟨a, ys, y, rfl, rfl, q1, by rw [← p1.length]; exact Nat.lt_of_le_of_lt hz (by rw [sizeLine_eq]; decide), kn_put (w := .non) (y := .non) hr ea (Pd.app p1 (.cons ry .nil)) rfl k⟩
      · cases e
    · cases e
  · cases e
def mInsert : CV → List CV → CH → Option (CV × CH)
  | .ref a, [.int i, y], h => match h.get a with
    | some (.lst xs) => if decide (xs.length ≤ 4000) && (decide (0 ≤ i) && decide (i ≤ 1000000)) then some (.non, h.set a (.lst (xs.take i.toNat ++ [y] ++ xs.drop i.toNat))) else none
    | _ => none
  | _, _, _ => none
theorem vInsert : VMt cc mInsert (fun x vs H Q => ∃ (l : Addr) (xs : List V) (i : Int) (y : V), x = .ref l ∧ vs = [.int i, y] ∧ H l = some (.lst xs) ∧ xs.length < sizeLine ∧ 0 ≤ i ∧ i < 2 ^ 63 ∧
    Q .non (upd H l (.lst (xs.take i.toNat ++ [y] ++ xs.drop i.toNat)))) := by
  intro η h H v vs x xs w h' Q hr r1 r2 e k
  unfold mInsert at e
  split at e
  · obtain ⟨a, ea, rfl⟩ := r1
    obtain ⟨yi, y, rfl, ri, ry⟩ := pd2 r2
    obtain rfl : yi = .int _ := ri
    split at e
    · rename_i zs e1
      split at e
      · rename_i hz
        simp only [Bool.and_eq_true, decide_eq_true_eq] at hz
        cases e
        obtain ⟨ys, q1, p1⟩ := hr.lst e1 ea
        exact ⟨a, ys, _, y, rfl, rfl, q1, by rw [← p1.length]; exact Nat.lt_of_le_of_lt hz.1 (by rw [sizeLine_eq]; decide), hz.2.1, by omega, kn_put (w := .non) (y := .non) hr ea (Pd.app (Pd.app (Pd.take _ p1) (.cons ry .nil)) (Pd.drop _ p1)) rfl k⟩
      · cases e
    · cases e
  · cases e
def mPop : CV → List CV → CH → Option (CV × CH)
  | .ref a, [.int i], h => match h.get a with
    | some (.lst xs) => if decide (-1000000 ≤ i) && decide (i ≤ 1000000) then (match seqIndex? i xs.length with
      | some j => (match xs[j]? with
        | some y => some (y, h.set a (.lst (xs.eraseIdx j)))
        | none => none)
      | none => none) else none
    | _ => none
  | _, _, _ => none
theorem vPop : VMt cc mPop rPopAt := by
  intro η h H v vs x xs w h' Q hr r1 r2 e k
  unfold mPop at e
  split at e
  · obtain ⟨a, ea, rfl⟩ := r1
    obtain ⟨yi, rfl, ri⟩ := pd1 r2
    obtain rfl : yi = .int _ := ri
    split at e
    · rename_i zs e1
      split at e
      · rename_i hz
        simp only [Bool.and_eq_true, decide_eq_true_eq] at hz
        split at e
        · rename_i j ej
          split at e
          · rename_i y ey
            cases e
            obtain ⟨ys, q1, p1⟩ := hr.lst e1 ea
            obtain ⟨y', ey', ry⟩ := Pd.get p1 ey
            exact ⟨a, ys, _, j, y', rfl, rfl, q1, by omega, by omega, by rw [← p1.length]; exact ej, ey', kn_put hr ea (Pd.erase j p1) ry k⟩
          · cases e
        · cases e
      · cases e
    · cases e
  · cases e
def mPopEnd : CV → List CV → CH → Option (CV × CH)
  | .ref a, [], h => match h.get a with
    | some (.lst xs) => (match xs[xs.length - 1]? with
      | some y => some (y, h.set a (.lst xs.dropLast))
      | none => none)
    | _ => none
  | _, _, _ => none
theorem vPopEnd : VMt cc mPopEnd rPop := by
  intro η h H v vs x xs w h' Q hr r1 r2 e k
  unfold mPopEnd at e
  split at e
  · obtain ⟨a, ea, rfl⟩ := r1
    cases r2
    split at e
    · rename_i zs e1
      split at e
      · rename_i y ey
        cases e
        obtain ⟨ys, q1, p1⟩ := hr.lst e1 ea
        obtain ⟨y', ey', ry⟩ := Pd.get p1 ey
        exact ⟨a, ys, y', rfl, rfl, q1, by rw [← p1.length]; exact ey', kn_put hr ea (Pd.dropLast p1) ry k⟩
      · cases e
    · cases e
  · cases e
/-- the first place of an equal item, all kinds told apart up to it -/
def cIdx (y : CV) : List CV → Nat → Option Nat
  | [], _ => none
  | z :: zs, j => match ceq z y with
    | some true => some j
    | some false => cIdx y zs (j + 1)
    | none => none
theorem cIdx_of {η : Em} {h : CH} {H : Hp} (hr : HR cc η h H) {y : CV} {y' : V} (ry : RV η y y') : ∀ {zs : List CV} {ys : List V} {j0 j : Nat}, RVs η zs ys → cIdx y zs j0 = some j →
    ∃ m z, j = j0 + m ∧ ys[m]? = some z ∧ eqV z y' = true ∧ ∀ (n : Nat) (z' : V), n < m → ys[n]? = some z' → eqV z' y' = false
  | _, _, _, _, .nil, e => by cases e
  | a :: as, b :: bs, j0, j, .cons r rs, e => by
    unfold cIdx at e
    split at e
    · rename_i ec
      cases e
      have q := ceq_of hr r ry ec
      exact ⟨0, b, rfl, rfl, q.e1, fun n z' hn => absurd hn (Nat.not_lt_zero n)⟩
    · rename_i ec
      have q := ceq_of hr r ry ec
      obtain ⟨m, z, h1, h2, h3, h4⟩ := cIdx_of hr ry rs e
      refine ⟨m + 1, z, by omega, h2, h3, fun n z' hn hz => ?_⟩
      cases n with
      | zero => cases hz; exact q.e1
      | succ n => exact h4 n z' (by omega) hz
    · cases e
theorem allFlat_of {η : Em} : ∀ {zs : List CV} {ys : List V}, RVs η zs ys → zs.all isFlat = true → ys.all flatV = true
  | _, _, .nil, _ => rfl
  | a :: as, b :: bs, .cons r rs, e => by
    rw [List.all_cons, Bool.and_eq_true] at e
    rw [List.all_cons, flat_of r e.1, allFlat_of rs e.2]; rfl
def mIndex : CV → List CV → CH → Option (CV × CH)
  | .ref a, [y], h => match h.get a with
    | some (.lst xs) => if isFlat y && xs.all isFlat then (match cIdx y xs 0 with
      | some j => some (.int j, h)
      | none => none) else none
    | _ => none
  | _, _, _ => none
theorem vIndex {K : PySem.W.Frag} : VMt cc mIndex (rIndex K) := by
  intro η h H v vs x xs w h' Q hr r1 r2 e k
  unfold mIndex at e
  split at e
  · obtain ⟨a, ea, rfl⟩ := r1
    obtain ⟨y', rfl, ry⟩ := pd1 r2
    split at e
    · rename_i zs e1
      split at e
      · rename_i hf
        rw [Bool.and_eq_true] at hf
        split at e
        · rename_i j ej
          cases e
          obtain ⟨ys, q1, p1⟩ := hr.lst e1 ea
          obtain ⟨m, z, h1, h2, h3, h4⟩ := cIdx_of hr ry p1 ej
          have hj : j = m := by omega
          subst hj
          exact ⟨a, ys, y', j, z, rfl, rfl, SqL.of q1, flat_of ry hf.1, allFlat_of p1 hf.2, h2, h3, h4, kn_same hr k rfl⟩
        · cases e
      · cases e
    · cases e
  · cases e
/-- the texts of a list -/
def strsOf : List CV → Option (List (List Nat))
  | [] => some []
  | .str x :: r => (match strsOf r with | some xs => some (x :: xs) | none => none)
  | _ :: _ => none
theorem strsOf_of {η : Em} : ∀ {zs : List CV} {ys : List V} {xs : List (List Nat)}, RVs η zs ys → strsOf zs = some xs → ys = (xs.map Tx).map V.str
  | _, _, xs, .nil, e => by cases e; rfl
  | a :: as, b :: bs, xs, .cons r rs, e => by
    cases a with
    | str x =>
      unfold strsOf at e
      split at e
      · rename_i ys ey
        cases e
        rw [strsOf_of rs ey, show b = .str (Tx x) from r]
        rfl
      · cases e
    | _ => cases e
def mJoin : CV → List CV → CH → Option (CV × CH)
  | .str a, [.ref p], h => match h.get p with
    | some (.lst zs) => (match strsOf zs with
      | some xs => if (xs.map List.length).sum + xs.length * a.length ≤ 4000 then some (.str (TL.joinL a xs), h) else none
      | none => none)
    | _ => none
  | _, _, _ => none
theorem tl_Tx (l : List Nat) : TL.tl (Tx l) = l := by simp [TL.tl, Tx]
theorem Tx_tl (x : Str) : Tx (TL.tl x) = x := by simp [TL.tl, Tx]
theorem join_Tx (a : List Nat) (xs : List (List Nat)) : Txt.join (Tx a) (xs.map Tx) = Tx (TL.joinL a xs) := by
  rw [TL.join_eq, ← Tx_tl (Str.join (Tx a) (xs.map Tx)), TL.tl_join, tl_Tx, List.map_map]
  have e : (TL.tl ∘ Tx) = id := funext fun l => tl_Tx l
  rw [e, List.map_id]
theorem vJoin {K : PySem.W.Frag} : VMt cc mJoin (fun x xs H Q => ∃ a p, ∃ ys : List Str, x = .str a ∧ xs = [.ref p] ∧ (SqL K H p (ys.map V.str) ∨ SqT K H p (ys.map V.str)) ∧
    (ys.map (·.length)).sum + ys.length * a.length ≤ 16777216 ∧ Q (.str (Txt.join a ys)) H) := by
  intro η h H v vs x xs w h' Q hr r1 r2 e k
  unfold mJoin at e
  split at e
  · obtain ⟨y', rfl, p, ep, rfl⟩ := pd1 r2
    split at e
    · rename_i zs e1
      split at e
      · rename_i xs es
        split at e
        · rename_i hz
          cases e
          obtain ⟨ys, q1, p1⟩ := hr.lst e1 ep
          refine ⟨_, p, xs.map Tx, r1, rfl, .inl (SqL.of (by rw [q1, strsOf_of p1 es])), ?_, ?_⟩
          · rw [List.map_map, List.length_map, Tx_len]
            have e3 : ((fun y : Str => y.length) ∘ Tx) = List.length := funext fun l => Tx_len l
            rw [e3]
            omega
          · rw [join_Tx]
            exact kn_same hr k rfl
        · cases e
      · cases e
    · cases e
  · cases e
def mCount : CV → List CV → CH → Option (CV × CH)
  | .str a, [.str b], h => some (.int (Txt.count (Tx a) (Tx b)), h)
  | _, _, _ => none
theorem vCount : VMt cc mCount (fun x xs H Q => ∃ a b, x = .str a ∧ xs = [.str b] ∧ Q (.int (Txt.count a b)) H) := by
  intro η h H v vs x xs w h' Q hr r1 r2 e k
  unfold mCount at e
  split at e
  · obtain ⟨y', rfl, ry⟩ := pd1 r2
    cases e
    exact ⟨_, _, r1, by rw [show y' = _ from ry], kn_same hr k rfl⟩
  · cases e
section
variable {o e e2 : Expr} {co : CE} {ca : CA} {apos cpos : Pos}
theorem ke_append (ho : PE X o (eOf cc co)) (ha : PA X [e] (aOf cc ca)) (hbase : attributeBase o "append" X.env (eval o X.env) = eval o X.env := by rfl)
    (hfew : ((backTo cpos (starEach [e] X.env)).all (fun x => !x.1) && (backToKw cpos (keywordEach [] X.env)).all (fun x => x.1.isSome) && decide (([e] : List Expr).length + ([] : List Keyword).length + (if ([] : List Keyword).isEmpty then 0 else 1) < 30)) = true := by rfl)
    (hline : (apos.endLine == cpos.line) = true := by rfl) (hs : starEach [e] X.env = (false, eval e X.env) :: starEach [] X.env := by rfl) : PE X (.Call (.Attribute o "append" apos) [e] [] cpos) (eOf cc (cMt isL mAppend co ca)) :=
  pe_imp (pe_bm PySem.F.plainAttrs_list PySem.F.slot_list_append PySem.F.type_list_append mt_append ho ha hbase hfew hline hs) fun _ _ _ q => mt_of ck_list vAppend q
theorem ke_popAt (ho : PE X o (eOf cc co)) (ha : PA X [e] (aOf cc ca)) (hbase : attributeBase o "pop" X.env (eval o X.env) = eval o X.env := by rfl)
    (hfew : ((backTo cpos (starEach [e] X.env)).all (fun x => !x.1) && (backToKw cpos (keywordEach [] X.env)).all (fun x => x.1.isSome) && decide (([e] : List Expr).length + ([] : List Keyword).length + (if ([] : List Keyword).isEmpty then 0 else 1) < 30)) = true := by rfl)
    (hline : (apos.endLine == cpos.line) = true := by rfl) (hs : starEach [e] X.env = (false, eval e X.env) :: starEach [] X.env := by rfl) : PE X (.Call (.Attribute o "pop" apos) [e] [] cpos) (eOf cc (cMt isL mPop co ca)) :=
  pe_imp (pe_bm PySem.F.plainAttrs_list PySem.F.slot_list_pop PySem.F.type_list_pop mt_popAt ho ha hbase hfew hline hs) fun _ _ _ q => mt_of ck_list vPop q
theorem ke_pop0 (ho : PE X o (eOf cc co)) (hbase : attributeBase o "pop" X.env (eval o X.env) = eval o X.env := by rfl) (hline : (apos.endLine == cpos.line) = true := by rfl) : PE X (.Call (.Attribute o "pop" apos) [] [] cpos) (eOf cc (cMt isL mPopEnd co cNil)) :=
  pe_imp (pe_bm0 PySem.F.plainAttrs_list PySem.F.slot_list_pop PySem.F.type_list_pop mt_pop ho hbase hline) fun _ _ _ q => mt0_of ck_list vPopEnd q
theorem ke_insert (ho : PE X o (eOf cc co)) (ha : PA X [e, e2] (aOf cc ca)) (hbase : attributeBase o "insert" X.env (eval o X.env) = eval o X.env := by rfl)
    (hfew : ((backTo cpos (starEach [e, e2] X.env)).all (fun x => !x.1) && (backToKw cpos (keywordEach [] X.env)).all (fun x => x.1.isSome) && decide (([e, e2] : List Expr).length + ([] : List Keyword).length + (if ([] : List Keyword).isEmpty then 0 else 1) < 30)) = true := by rfl)
    (hline : (apos.endLine == cpos.line) = true := by rfl) (hs : starEach [e, e2] X.env = (false, eval e X.env) :: starEach [e2] X.env := by rfl) (hplain : (backTo cpos (starEach [e2] X.env)).any (·.1) = false := by rfl) : PE X (.Call (.Attribute o "insert" apos) [e, e2] [] cpos) (eOf cc (cMt isL mInsert co ca)) :=
  pe_imp (pe_bm PySem.F.plainAttrs_list PySem.F.slot_list_insert PySem.F.type_list_insert mt_insert ho ha hbase hfew hline hs hplain) fun _ _ _ q => mt_of ck_list vInsert q
theorem ke_index (ho : PE X o (eOf cc co)) (ha : PA X [e] (aOf cc ca)) (hbase : attributeBase o "index" X.env (eval o X.env) = eval o X.env := by rfl)
    (hfew : ((backTo cpos (starEach [e] X.env)).all (fun x => !x.1) && (backToKw cpos (keywordEach [] X.env)).all (fun x => x.1.isSome) && decide (([e] : List Expr).length + ([] : List Keyword).length + (if ([] : List Keyword).isEmpty then 0 else 1) < 30)) = true := by rfl)
    (hline : (apos.endLine == cpos.line) = true := by rfl) (hs : starEach [e] X.env = (false, eval e X.env) :: starEach [] X.env := by rfl) : PE X (.Call (.Attribute o "index" apos) [e] [] cpos) (eOf cc (cMt isL mIndex co ca)) :=
  pe_imp (pe_bm PySem.F.plainAttrs_list PySem.F.slot_list_index PySem.F.type_list_index mt_index ho ha hbase hfew hline hs) fun _ _ _ q => mt_of ck_list vIndex q
theorem ke_join (ho : PE X o (eOf cc co)) (ha : PA X [e] (aOf cc ca)) (hbase : attributeBase o "join" X.env (eval o X.env) = eval o X.env := by rfl)
    (hfew : ((backTo cpos (starEach [e] X.env)).all (fun x => !x.1) && (backToKw cpos (keywordEach [] X.env)).all (fun x => x.1.isSome) && decide (([e] : List Expr).length + ([] : List Keyword).length + (if ([] : List Keyword).isEmpty then 0 else 1) < 30)) = true := by rfl)
    (hline : (apos.endLine == cpos.line) = true := by rfl) (hs : starEach [e] X.env = (false, eval e X.env) :: starEach [] X.env := by rfl) : PE X (.Call (.Attribute o "join" apos) [e] [] cpos) (eOf cc (cMt isS mJoin co ca)) :=
  pe_imp (pe_bm PySem.F.plainAttrs_str PySem.F.slot_str_join PySem.F.type_str_join mt_join ho ha hbase hfew hline hs) fun _ _ _ q => mt_of ck_str vJoin q
theorem ke_count (ho : PE X o (eOf cc co)) (ha : PA X [e] (aOf cc ca)) (hbase : attributeBase o "count" X.env (eval o X.env) = eval o X.env := by rfl)
    (hfew : ((backTo cpos (starEach [e] X.env)).all (fun x => !x.1) && (backToKw cpos (keywordEach [] X.env)).all (fun x => x.1.isSome) && decide (([e] : List Expr).length + ([] : List Keyword).length + (if ([] : List Keyword).isEmpty then 0 else 1) < 30)) = true := by rfl)
    (hline : (apos.endLine == cpos.line) = true := by rfl) (hs : starEach [e] X.env = (false, eval e X.env) :: starEach [] X.env := by rfl) : PE X (.Call (.Attribute o "count" apos) [e] [] cpos) (eOf cc (cMt isS mCount co ca)) :=
  pe_imp (pe_bm PySem.F.plainAttrs_str PySem.F.slot_str_count PySem.F.type_str_count mt_count ho ha hbase hfew hline hs) fun _ _ _ q => mt_of ck_str vCount q
end

/-! ### a def as a whole -/
def cstart (n : Nat) (xs : List CV) : CS := xs.map some ++ List.replicate (n - xs.length) none
def cDef (k n : Nat) (b : CP) : List CV → CH → Option (CV × CH) := fun xs h => if xs.length = k then (match b (cstart n xs) h with
  | some (.nx, _, h1) => some (.non, h1)
  | some (.rt v, _, h1) => some (v, h1)
  | _ => none) else none
theorem start_rs {η : Em} {N : List Str} {xs : List CV} {vs : List V} (p : RVs η xs vs) : RS η (cstart N.length xs) (L2.start N vs) := by
  unfold cstart L2.start
  refine ⟨by rw [List.length_append, List.length_append, List.length_map, List.length_map, List.length_replicate, List.length_replicate, p.length], fun i v e => ?_⟩
  by_cases hi : i < xs.length
  · rw [List.getElem?_append_left (by rw [List.length_map]; exact hi), List.getElem?_map] at e
    cases q : xs[i]? with
    | none => rw [q] at e; cases e
    | some u =>
      rw [q] at e
      cases e
      obtain ⟨y, ey, ry⟩ := Pd.get p q
      refine ⟨y, ?_, ry⟩
      rw [List.getElem?_append_left (by rw [List.length_map, ← p.length]; exact hi), List.getElem?_map, ey]
      rfl
  · rw [List.getElem?_append_right (by rw [List.length_map]; omega), List.getElem?_replicate] at e
    split at e <;> cases e
theorem spOf_len {k n : Nat} {b : CP} {vs : List V} {H : Hp} {Q : VK} {E : XK} (q : spOf cc (cDef k n b) vs H Q E) : vs.length = k := by
  obtain ⟨η, h, xs, p, hr, v, h', e, _⟩ := q
  unfold cDef at e
  split at e
  · rename_i hl; rw [← p.length]; exact hl
  · cases e
theorem def_of {N : List Str} {k : Nat} {b : CP} {vs : List V} {H : Hp} {Q : VK} {E : XK} (q : spOf cc (cDef k N.length b) vs H Q E) : sOf cc b { nx := fun _ H' => Q .non H', rt := Q } (L2.start N vs) H := by
  obtain ⟨η, h, xs, p, hr, v, h', e, kk⟩ := q
  unfold cDef at e
  split at e
  · split at e
    · rename_i s1 h1 e1
      cases e
      exact ⟨η, h, _, start_rs p, hr, _, _, _, e1, fun η' H' σ' S R rs => kk η' H' _ S R rfl⟩
    · rename_i v1 s1 h1 e1
      cases e
      exact ⟨η, h, _, start_rs p, hr, _, _, _, e1, fun η' H' σ' S R rs v' rv => kk η' H' v' S R rv⟩
    · cases e
  · cases e
/-- a def keeps the promise of its plain function -/
theorem def_ok {P : Program} {w : World} {K : PySem.W.Frag} {mg : Str → Option Value} {base : Heap} {x qual : Str} {st : Stmt} {f : Addr} {fd : FuncData} {N ps : List Str} {k : Nat} {b : CP} (F : Fun K x qual st f fd) (S : FnScope N ps (defScope st))
    (hb : ∀ (cdv : Value) (A : Around) (outer : List Env) (s : Shared) (H : Hp) (E : XK), Room k (A.deeper (envOfC qual (defScope st) s.heap.objs.size f cdv)) → PSs (cxOf CX0 P w K mg base N qual (defScope st) f cdv A outer s H E).nox (defBody st) (sOf cc b)) :
    FnOk P w K mg base CX0 (k + 1) f fd ps (spOf cc (cDef ps.length N.length b)) :=
  F.ok S (fun vs H Q E q => spOf_len q) fun cdv A outer s H vs Q E hr q => ⟨sOf cc b, hb cdv A outer s H E hr, def_of q⟩
end CK

/-! CK: own defs, bundled. -/
namespace CK
open PySem L2 PyProof.Rows
variable {X : Cx} {cc : Nat → Addr}
/-- an own def of the module that keeps the promise sp -/
structure OwnS (P : Program) (w : World) (K : PySem.W.Frag) (mg : Str → Option Value) (base : Heap) (k : Nat) (x : Str) (ps : List Str) (sp : Sp) : Prop where
  ex : ∃ f fd, FnOk P w K mg base CX0 k f fd ps sp ∧ mg x = some (.ref f) ∧ PySem.W.keepIn K (.ref f) = true ∧ Binds K fd ps []
abbrev Own (P : Program) (w : World) (K : PySem.W.Frag) (mg : Str → Option Value) (base : Heap) (cc : Nat → Addr) (k : Nat) (x : Str) (ps : List Str) (g : List CV → CH → Option (CV × CH)) : Prop := OwnS P w K mg base k x ps (spOf cc g)
theorem ke_own {k : Nat} {x : Str} {p pos : Pos} {e : Expr} {es : List Expr} {ca : CA} {ps : List Str} {g : List CV → CH → Option (CV × CH)} (O : Own X.prog X.w X.K X.mg X.base cc k x ps g) (hr : Room k X.A) (ha : PA X (e :: es) (aOf cc ca)) (hg : Gl X x := by rfl)
    (hdb : (x == ("__debug__" : Str)) = false := by decide) (he : starEach (e :: es) X.env = (false, eval e X.env) :: starEach es X.env := by rfl) (hpl : (backTo pos (starEach es X.env)).any (·.1) = false := by rfl) :
    PE X (.Call (.Name x p) (e :: es) [] pos) (eOf cc (cCb g ca)) := by
  obtain ⟨f, fd, F, hm, hk, hb⟩ := O.ex
  exact ke_call F hr hg hm hk hb ha hdb he hpl
def tOwn (sp : Sp) (ta : TA) : TE := fun σ H Q => ta σ H fun vs H1 => sp vs H1 Q E0
/-- the same over readings -/
theorem pe_own {k : Nat} {x : Str} {p pos : Pos} {e : Expr} {es : List Expr} {ta : TA} {ps : List Str} {sp : Sp} (O : OwnS X.prog X.w X.K X.mg X.base k x ps sp) (hr : Room k X.A) (ha : PA X (e :: es) ta) (hg : Gl X x := by rfl)
    (hdb : (x == ("__debug__" : Str)) = false := by decide) (he : starEach (e :: es) X.env = (false, eval e X.env) :: starEach es X.env := by rfl) (hpl : (backTo pos (starEach es X.env)).any (·.1) = false := by rfl) :
    PE X (.Call (.Name x p) (e :: es) [] pos) (tOwn sp ta) := by
  obtain ⟨f, fd, F, hm, hk, hb⟩ := O.ex
  exact pe_imp (pe_call F hr hg hm hk hb .nil pass0 ha hdb he hpl) fun σ H Q q => by
    show ta σ H fun vs H1 => sp (vs ++ []) H1 Q E0
    simp only [List.append_nil]
    exact q
theorem kt_notInK {e : Expr} {ce : CE} {x : Str} {xs : List CV} {ys : List V} {aT : Addr} {p pos : Pos} (he : PE X e (eOf cc ce)) (hg : Gl X x) (hm : X.mg x = some (.ref aT)) (hT : ∀ H, SqT X.K H aT ys) (r : ∀ η, RVs η xs ys)
    (hd : (x == ("__debug__" : Str)) = false := by decide) (hmk : behindInMarks .NotIn (.Name x p) = false := by with_unfolding_all rfl) : PT X (.Compare e [.NotIn] [.Name x p] pos) (bOf cc (cTst (cUn (fNotInC xs) ce))) := by
  refine pt_imp (pt_cmpR op_notIn_seq he (pe_glob (v := .ref aT) hg hm rfl hd) hmk) fun σ H Q q => tst_of (fun σ H Q z => ?_) q
  refine un_of (r := fun x H1 Q' => rIn X.K true x (.ref aT) H1 Q') (f := fNotInC xs) ?_ z
  intro η h H v x w h' Q' hr r1 e k
  unfold fNotInC at e
  split at e
  · rename_i hf
    split at e
    · rename_i b eb
      cases e
      obtain ⟨h1, h2, _⟩ := cIn_of hr r1 (r η) eb
      refine ⟨aT, ys, rfl, .inr (hT _), flat_of r1 hf, h2, ?_⟩
      rw [h1]
      exact kn_same hr k rfl
    · cases e
  · cases e
end CK

/-! CK: a chain of three comparisons. -/
namespace CK
open PySem L2 PyProof.Rows
variable {X : Cx} {cc : Nat → Addr}
/-- a o b o' c o'' d, read -/
def tChain3 (r r' r'' : R2) (ta tb tc td : TE) : TE := fun σ H Q => ta σ H fun x H1 => tb σ H1 fun y H2 => r x y H2 fun z H3 => ∃ k, z = .bl k ∧
  (if k = true then tc σ H3 fun x' H4 => r' y x' H4 fun z' H5 => ∃ k', z' = .bl k' ∧ (if k' = true then td σ H5 fun y' H6 => r'' x' y' H6 Q else Q (.bl false) H5) else Q (.bl false) H3)
section
variable {a b c d : Expr} {pos : Pos}
theorem pe_chain3 {o1 o2 o3 : CmpOp} {r r' r'' : R2} {ta tb tc td : TE} (h1 : OpR X (compareOp o1) r) (h2 : OpR X (compareOp o2) r') (h3 : OpR X (compareOp o3) r'') (ha : PE X a ta) (hb : PE X b tb) (hc : PE X c tc) (hd : PE X d td)
    (hm : lastMarks [o1, o2, o3] [b, c, d] = false) : PE X (.Compare a [o1, o2, o3] [b, c, d] pos) (tChain3 r r' r'' ta tb tc td) := by
  refine ⟨fun pins s σ H Q I h => ?_⟩
  refine Compare_chain (thn (ha.run pins s σ H _ I h) fun v s1 ⟨x, H1, I1, r1, q1⟩ => chain_link (thn (hb.run pins s1 σ H1 _ I1 q1) fun u s2 ⟨y, H2, I2, r2, q2⟩ =>
    thn (h1 pins s2 σ H2 x y v u _ I2 r1 r2 q2) fun e s3 ⟨z, H3, I3, r3, k, e1, q3⟩ => ?_)) hm
  subst e1
  cases r3
  refine wpAny_truthy_bool ?_
  cases k with
  | false => exact ite_ff ⟨.bl false, H3, I3, rfl, q3⟩
  | true =>
    refine ite_tt (chain_link (thn (hc.run pins s3 σ H3 _ I3 q3) fun w1 s4 ⟨x', H4, I4, r4, q4⟩ => thn (h2 pins s4 σ H4 y x' u w1 _ I4 r2 r4 q4) fun e' s5 ⟨z', H5, I5, r5, k', e2, q5⟩ => ?_))
    subst e2
    cases r5
    refine wpAny_truthy_bool ?_
    cases k' with
    | false => exact ite_ff ⟨.bl false, H5, I5, rfl, q5⟩
    | true => exact ite_tt (chain_last (thn (hd.run pins s5 σ H5 _ I5 q5) fun w2 s6 ⟨y', H6, I6, r6, q6⟩ => h3 pins s6 σ H6 x' y' w1 w2 Q I6 r4 r6 q6))
end
def cChain3 (f g k : CV → CV → CH → Option (CV × CH)) (a b c d : CE) : CE := fun s h =>
  match a s h with
  | none => none
  | some (v, h1) => match b s h1 with
    | none => none
    | some (u, h2) => match f v u h2 with
      | some (.bl true, h3) => (match c s h3 with
        | none => none
        | some (w, h4) => match g u w h4 with
          | some (.bl true, h5) => (match d s h5 with
            | none => none
            | some (z, h6) => k w z h6)
          | some (.bl false, h5) => some (.bl false, h5)
          | _ => none)
      | some (.bl false, h3) => some (.bl false, h3)
      | _ => none
theorem chain3_of {f g k : CV → CV → CH → Option (CV × CH)} {r r' r'' : R2} (hf : VOp cc f r) (hg : VOp cc g r') (hk : VOp cc k r'') {a b c d : CE} {σ : L2.St} {H : Hp} {Q : VK}
    (q : eOf cc (cChain3 f g k a b c d) σ H Q) : tChain3 r r' r'' (eOf cc a) (eOf cc b) (eOf cc c) (eOf cc d) σ H Q := by
  obtain ⟨η, h, s, rs, hr, w, h', e, kk⟩ := q
  unfold cChain3 at e
  split at e
  · cases e
  · rename_i v h1 e1
    split at e
    · cases e
    · rename_i u h2 e2
      refine ⟨η, h, s, rs, hr, v, h1, e1, fun η1 H1 x S1 R1 rx => ⟨η1, h1, s, RS.mono S1.le rs, R1, u, h2, e2, fun η2 H2 y S2 R2 ry => ?_⟩⟩
      split at e
      · rename_i h3 e3
        split at e
        · cases e
        · rename_i z h4 e4
          refine hf R2 (RV.mono S2.le rx) ry e3 fun η3 H3 z3 S3 R3 rz => ⟨true, rz, ?_⟩
          refine iteT ?_
          refine ⟨η3, h3, s, RS.mono S3.le (RS.mono S2.le (RS.mono S1.le rs)), R3, _, _, e4, fun η4 H4 z4 S4 R4 rz4 => ?_⟩
          split at e
          · rename_i h5 e5
            split at e
            · cases e
            · rename_i z6 h6 e6
              refine hg R4 (RV.mono S4.le (RV.mono S3.le ry)) rz4 e5 fun η5 H5 z5 S5 R5 rz5 => ⟨true, rz5, ?_⟩
              refine iteT ?_
              refine ⟨η5, h5, s, RS.mono S5.le (RS.mono S4.le (RS.mono S3.le (RS.mono S2.le (RS.mono S1.le rs)))), R5, _, _, e6, fun η6 H6 z7 S6 R6 rz6 => ?_⟩
              exact hk R6 (RV.mono S6.le (RV.mono S5.le rz4)) rz6 e fun η7 H7 z8 S7 R7 rz8 => kk η7 H7 z8 (Stp.trans (Stp.trans (Stp.trans (Stp.trans (Stp.trans (Stp.trans S1 R1 S2) R2 S3) R3 S4) R4 S5) R5 S6) R6 S7) R7 rz8
          · rename_i h5 e5
            cases e
            refine hg R4 (RV.mono S4.le (RV.mono S3.le ry)) rz4 e5 fun η5 H5 z5 S5 R5 rz5 => ⟨false, rz5, ?_⟩
            refine iteF ?_
            exact kk η5 H5 _ (Stp.trans (Stp.trans (Stp.trans (Stp.trans S1 R1 S2) R2 S3) R3 S4) R4 S5) R5 rfl
          · cases e
      · rename_i h3 e3
        cases e
        refine hf R2 (RV.mono S2.le rx) ry e3 fun η3 H3 z3 S3 R3 rz => ⟨false, rz, ?_⟩
        refine iteF ?_
        exact kk η3 H3 _ (Stp.trans (Stp.trans S1 R1 S2) R2 S3) R3 rfl
      · cases e
section
variable {a b c d : Expr} {ca cb c3 c4 : CE} {pos : Pos} {o1 o2 o3 : CmpOp}
theorem ke_chain3 {f g k : CV → CV → CH → Option (CV × CH)} (m : Cmp cc X o1 f) (m' : Cmp cc X o2 g) (m'' : Cmp cc X o3 k) (ha : PE X a (eOf cc ca)) (hb : PE X b (eOf cc cb)) (h3 : PE X c (eOf cc c3)) (h4 : PE X d (eOf cc c4))
    (hm : lastMarks [o1, o2, o3] [b, c, d] = false := by with_unfolding_all rfl) :
    PE X (.Compare a [o1, o2, o3] [b, c, d] pos) (eOf cc (cChain3 f g k ca cb c3 c4)) := by
  obtain ⟨r, o, v⟩ := m.ex
  obtain ⟨r', o', v'⟩ := m'.ex
  obtain ⟨r'', o'', v''⟩ := m''.ex
  exact pe_imp (pe_chain3 o o' o'' ha hb h3 h4 hm) fun _ _ _ q => chain3_of v v' v'' q
end
end CK

/-! CK: the law's own comparison, at any depth. -/
namespace CK
open PySem L2 PyProof.Rows

/-- the same data, n deep -/
def Alk (H : Hp) : Nat → V → V → Prop
  | 0, x, y => x = y ∧ (x = .non ∨ (∃ b, x = .bl b) ∨ (∃ i, x = .int i) ∨ ∃ s, x = .str s)
  | n + 1, x, y => Alk H n x y ∨ ∃ a b xs ys, x = .ref a ∧ y = .ref b ∧ ((H a = some (.lst xs) ∧ H b = some (.lst ys)) ∨ (H a = some (.tup xs) ∧ H b = some (.tup ys))) ∧ Paired (Alk H n) xs ys ∧ xs.length ≤ 4000
theorem Alk.same {H H' : Hp} (s : Same H H') : ∀ {n : Nat} {x y : V}, Alk H n x y → Alk H' n x y
  | 0, _, _, h => h
  | n + 1, x, y, h => by
    rcases h with h | ⟨a, b, xs, ys, ex, ey, ho, p, hl⟩
    · exact .inl (Alk.same s h)
    · refine .inr ⟨a, b, xs, ys, ex, ey, ?_, Paired.mapP p fun _ _ q => Alk.same s q, hl⟩
      rcases ho with ⟨h1, h2⟩ | ⟨h1, h2⟩
      · exact .inl ⟨s _ _ h1, s _ _ h2⟩
      · exact .inr ⟨s _ _ h1, s _ _ h2⟩
def spAlk (n : Nat) : Sp := fun vs H Q _ => ∃ x y, vs = [x, y] ∧ Alk H n x y ∧ ∀ H', Same H H' → Q (.bl true) H'
/-- isinstance of a slot's value -/
theorem isi_rd {K : PySem.W.Frag} {σ : L2.St} {H : Hp} {Q : VK} {i : Nat} {x : V} {n m : String} {b : Bool} (hv : σ[i]? = some (some x)) (ty : TyOf K H x (.type n)) (k : kitB n m = some b) (q : Q (.bl b) H) :
    tCB (rIsi K) (tCons (tVar i) (tCons (tC (.ty m)) tNil)) σ H Q := ⟨x, hv, x, .ty m, .type n, .type m, b, rfl, .ty m, .base ty, kit_ty k, q⟩
theorem yes_rd {σ : L2.St} {H : Hp} {A B : Hp → Prop} (h : A H) : tYes σ H (fun b H3 => if b = true then A H3 else B H3) := by
  show if true = true then A H else B H
  rw [if_pos rfl]
  exact h
theorem kb1 : kitB "bool" "bool" = some true := by decide +kernel
theorem kb2 : kitB "int" "bool" = some false := by decide +kernel
theorem kb3 : kitB "int" "int" = some true := by decide +kernel
theorem kb4 : kitB "str" "bool" = some false := by decide +kernel
theorem kb5 : kitB "str" "int" = some false := by decide +kernel
theorem kb6 : kitB "str" "str" = some true := by decide +kernel
theorem kb7 : kitB "list" "bool" = some false := by decide +kernel
theorem kb8 : kitB "list" "int" = some false := by decide +kernel
theorem kb9 : kitB "list" "str" = some false := by decide +kernel
theorem kb10 : kitB "list" "tuple" = some false := by decide +kernel
theorem kb11 : kitB "list" "list" = some true := by decide +kernel
theorem kb12 : kitB "tuple" "bool" = some false := by decide +kernel
theorem kb13 : kitB "tuple" "int" = some false := by decide +kernel
theorem kb14 : kitB "tuple" "str" = some false := by decide +kernel
theorem kb15 : kitB "tuple" "tuple" = some true := by decide +kernel
theorem kb16 : kitB "tuple" "list" = some false := by decide +kernel
theorem boot_all' : bootBuiltins "all" = some (.builtin "all") := by decide +kernel
theorem boot_isi : bootBuiltins "isinstance" = some (.builtin "isinstance") := by decide +kernel
theorem boot_bool' : bootBuiltins "bool" = some (.type "bool") := by decide +kernel
theorem boot_int' : bootBuiltins "int" = some (.type "int") := by decide +kernel
theorem boot_str' : bootBuiltins "str" = some (.type "str") := by decide +kernel
theorem boot_tuple' : bootBuiltins "tuple" = some (.type "tuple") := by decide +kernel
theorem boot_list' : bootBuiltins "list" = some (.type "list") := by decide +kernel
end CK

/-! CK: calls that leave what was there; reading results. -/
namespace CK
open PySem L2 PyProof.Rows
variable {cc : Nat → Addr}

theorem RV.fn {η : Em} {v : CV} {x y : V} (a : RV η v x) (b : RV η v y) : x = y := by
  cases v with
  | ref n =>
    obtain ⟨p, e, rfl⟩ := a
    obtain ⟨q, f, rfl⟩ := b
    rw [e] at f
    cases f
    rfl
  | non => exact (show x = _ from a).trans (show y = _ from b).symm
  | bl z => exact (show x = _ from a).trans (show y = _ from b).symm
  | int z => exact (show x = _ from a).trans (show y = _ from b).symm
  | str z => exact (show x = _ from a).trans (show y = _ from b).symm
  | ty z => exact (show x = _ from a).trans (show y = _ from b).symm
  | off z => exact (show x = _ from a).trans (show y = _ from b).symm
  | opq => exact (show x = _ from a).trans (show y = _ from b).symm
  | key z => exact (show x = _ from a).trans (show y = _ from b).symm
theorem RVs.fn {η : Em} : ∀ {vs : List CV} {xs ys : List V}, RVs η vs xs → RVs η vs ys → xs = ys
  | _, _, _, .nil, .nil => rfl
  | _, _, _, .cons a s, .cons b t => by rw [RV.fn a b, RVs.fn s t]
def noIns : CO → Bool
  | .ins _ _ => false
  | _ => true
theorem RO.fn {η : Em} {o : CO} {x y : HO} (n : noIns o = true) (a : RO η o x) (b : RO η o y) : x = y := by
  cases o with
  | lst xs =>
    obtain ⟨p, rfl, r⟩ := a
    obtain ⟨q, rfl, s⟩ := b
    rw [RVs.fn r s]
  | tup xs =>
    obtain ⟨p, rfl, r⟩ := a
    obtain ⟨q, rfl, s⟩ := b
    rw [RVs.fn r s]
  | ins _ _ => cases n
/-- every old object is as it was -/
def Keeps (h h' : CH) : Prop := ∀ (i : Nat) (o : CO), h.get i = some o → noIns o = true ∧ h'.get i = some o
theorem keeps_same {η η' : Em} {h h' : CH} {H H' : Hp} (hr : HR cc η h H) (S : Stp η H η' H') (R : HR cc η' h' H') (k : Keeps h h') : Same H H' := fun b O e => by
  by_cases m : b ∈ η.as
  · obtain ⟨n, hn⟩ := List.getElem?_of_mem m
    have hl : n < h.length := by rw [← hr.len]; exact (List.getElem?_eq_some_iff.mp hn).1
    obtain ⟨o, eo⟩ := CH.get_some hr.wf hl
    obtain ⟨O1, q1, r1⟩ := hr.ob n b o hn eo
    rw [e] at q1
    cases q1
    obtain ⟨ni, ek⟩ := k n o eo
    obtain ⟨O2, q2, r2⟩ := R.ob n b o (S.le.get hn) ek
    rw [q2, RO.fn ni (RO.mono S.le r1) r2]
  · exact S.fr b O m e
/-- structural equality, as a test -/
def cveq : CV → CV → Bool
  | .non, .non => true
  | .bl a, .bl b => a == b
  | .int a, .int b => a == b
  | .str a, .str b => a == b
  | .ref a, .ref b => Nat.beq a b
  | .key a, .key b => Nat.beq a b
  | .off a, .off b => a == b
  | _, _ => false
theorem cveq_eq {a b : CV} (h : cveq a b = true) : a = b := by
  cases a <;> cases b <;> first
    | rfl
    | (exact absurd h Bool.false_ne_true)
    | (rw [show _ = _ from eq_of_beq (show (_ == _) = true from h)])
    | (rw [Nat.eq_of_beq_eq_true (show Nat.beq _ _ = true from h)])
def cvseq : List CV → List CV → Bool
  | [], [] => true
  | a :: as, b :: bs => cveq a b && cvseq as bs
  | _, _ => false
theorem cvseq_eq : ∀ {a b : List CV}, cvseq a b = true → a = b
  | [], [], _ => rfl
  | a :: as, b :: bs, h => by
    have h : (cveq a b && cvseq as bs) = true := h
    rw [Bool.and_eq_true] at h
    rw [cveq_eq h.1, cvseq_eq h.2]
  | [], _ :: _, h => absurd h Bool.false_ne_true
  | _ :: _, [], h => absurd h Bool.false_ne_true
def coeq : CO → CO → Bool
  | .lst a, .lst b => cvseq a b
  | .tup a, .tup b => cvseq a b
  | _, _ => false
theorem coeq_eq {a b : CO} (h : coeq a b = true) : a = b ∧ noIns a = true := by
  cases a <;> cases b <;> first
    | (exact absurd h Bool.false_ne_true)
    | (exact ⟨by rw [cvseq_eq (show cvseq _ _ = true from h)], rfl⟩)
/-- the first objects of h' are os -/
def kept (h' : CH) : Nat → List CO → Bool
  | _, [] => true
  | i, o :: os => (match h'.get i with
    | some o' => coeq o o'
    | none => false) && kept h' (i + 1) os
theorem kept_get {h' : CH} : ∀ {os : List CO} {i : Nat}, kept h' i os = true → ∀ (j : Nat) (o : CO), os[j]? = some o → noIns o = true ∧ h'.get (i + j) = some o
  | [], _, _, j, o, e => by simp at e
  | o :: os, i, h, j, o', e => by
    unfold kept at h
    rw [Bool.and_eq_true] at h
    cases j with
    | zero =>
      cases e
      have h1 := h.1
      split at h1
      · rename_i q eq
        obtain ⟨e1, e2⟩ := coeq_eq h1
        rw [e1] at e2 ⊢
        exact ⟨e2, eq⟩
      · cases h1
    | succ j =>
      have q := kept_get h.2 j o' (by simpa using e)
      have e3 : i + 1 + j = i + (j + 1) := by omega
      rw [e3] at q
      exact q
theorem CH.of_get (os : List CO) (i : Nat) : (CH.of os).get i = os[i]? := by
  rw [CH.get_eq]
  show (if i < os.length then os.reverse[os.length - 1 - i]? else none) = _
  by_cases c : i < os.length
  · rw [if_pos c, List.getElem?_reverse (by omega)]
    congr 1
    omega
  · rw [if_neg c, List.getElem?_eq_none (by omega)]
theorem keeps_of {os : List CO} {h' : CH} (k : kept h' 0 os = true) : Keeps (CH.of os) h' := fun i o e => by
  rw [CH.of_get] at e
  have q := kept_get k i o e
  rw [Nat.zero_add] at q
  exact q
/-- some objects that stand in H -/
theorem HR.of {t : Int} {κ : Nat → Int} (hκ : ∀ i j, i < j → κ i < κ j) {as : List Addr} {os : List CO} {H : Hp} (nd : as.Nodup) (ln : as.length = os.length)
    (ob : ∀ (n : Nat) (a : Addr) (o : CO), as[n]? = some a → os[n]? = some o → ∃ O, H a = some O ∧ RO ⟨κ, cc, as, t⟩ o O) : HR cc ⟨κ, cc, as, t⟩ (CH.of os) H :=
  ⟨rfl, nd, by show os.reverse.length = os.length; rw [List.length_reverse], ln, hκ, fun n a o e1 e2 => ob n a o e1 (by rw [← CH.of_get]; exact e2)⟩
def k0 (i : Nat) : Int := i
theorem k0_mo : ∀ i j, i < j → k0 i < k0 j := fun i j h => by unfold k0; omega
theorem ints_rv {η : Em} : ∀ (ns : List Int), RVs η (ns.map CV.int) (ns.map V.int)
  | [] => .nil
  | n :: ns => .cons rfl (ints_rv ns)
theorem rv_ints {η : Em} : ∀ {ns : List Int} {ys : List V}, RVs η (ns.map CV.int) ys → ys = ns.map V.int := fun h => RVs.fn h (ints_rv _)
/-- THE CALL of a plain function that keeps what was there: the answer, more objects -/
theorem sp_keeps {g : List CV → CH → Option (CV × CH)} {η : Em} {os : List CO} {H : Hp} {xs : List CV} {vs : List V} {Q : VK} {E : XK} {v : CV} {h' : CH} (hr : HR cc η (CH.of os) H) (r : RVs η xs vs) (e : g xs (CH.of os) = some (v, h')) (k : kept h' 0 os = true)
    (q : ∀ η' H' v', Same H H' → Stp η H η' H' → HR cc η' h' H' → RV η' v v' → Q v' H') : spOf cc g vs H Q E :=
  ⟨η, CH.of os, xs, r, hr, v, h', e, fun η' H' v' S R rv => q η' H' v' (keeps_same hr S R (keeps_of k)) S R rv⟩
theorem HR.nil {H : Hp} : HR cc ⟨k0, cc, [], 0⟩ (CH.of []) H := HR.of k0_mo List.nodup_nil rfl fun n a o e _ => by simp at e
theorem HR.one {H : Hp} {a : Addr} {o : CO} {O : HO} (ha : H a = some O) (r : RO ⟨k0, cc, [a], 0⟩ o O) : HR cc ⟨k0, cc, [a], 0⟩ (CH.of [o]) H := HR.of k0_mo (by simp) rfl fun n b u e1 e2 => by
  match n, e1, e2 with
  | 0, e1, e2 => cases e1; cases e2; exact ⟨O, ha, r⟩
  | n + 1, e1, _ => simp at e1
theorem HR.two {H : Hp} {a b : Addr} {o u : CO} {O U : HO} (n : a ≠ b) (ha : H a = some O) (hb : H b = some U) (r : RO ⟨k0, cc, [a, b], 0⟩ o O) (s : RO ⟨k0, cc, [a, b], 0⟩ u U) : HR cc ⟨k0, cc, [a, b], 0⟩ (CH.of [o, u]) H := HR.of k0_mo (by simp [n]) rfl fun m c z e1 e2 => by
  match m, e1, e2 with
  | 0, e1, e2 => cases e1; cases e2; exact ⟨O, ha, r⟩
  | 1, e1, e2 => cases e1; cases e2; exact ⟨U, hb, s⟩
  | n + 2, e1, _ => simp at e1
end CK

namespace CK
open PySem L2 PyProof.Rows
theorem rvS {η : Em} (x : List Nat) : RV η (.str x) (.str (Tx x)) := rfl
theorem rvI {η : Em} (i : Int) : RV η (.int i) (.int i) := rfl
theorem rvR {η : Em} {n : Nat} {a : Addr} (h : η.as[n]? = some a) : RV η (.ref n) (.ref a) := ⟨a, h, rfl⟩
/-- for over enumerate of a list that the body leaves as it is -/
theorem for_enum {K : PySem.W.Frag} {a : Addr} {xs : List V} {g : TG} {tb : TS} {D : Ends} {σ : L2.St} {H : Hp} (Pv : Nat → L2.St → Hp → Prop) (h0 : Pv 0 σ H) (hl : ∀ i σ H, i ≤ xs.length → Pv i σ H → SqL K H a xs)
    (hs : ∀ i x σ H T, xs[i]? = some x → Pv i σ H → H T = none → g (.ref T) σ (upd H T (.tup [.int (i : Nat), x])) fun σ2 H2 => tb { D with nx := Pv (i + 1), ct := Pv (i + 1), bk := D.nx } σ2 H2) (hd : ∀ σ H, Pv xs.length σ H → D.nx σ H) :
    ∃ W : Nat → Nat → L2.St → Hp → Prop, (∃ m, W 0 m σ H) ∧ ∀ i m σ H, W i m σ H →
      ((Ite K a).stop i H ∧ D.nx σ H) ∨ ((Ite K a).go i H ∧ ∃ N : L2.St → Hp → Prop, (∀ σ' H', N σ' H' → ∃ m', m' < m ∧ W (i + 1) m' σ' H') ∧ ∀ x H', (Ite K a).yld i H x H' → g x σ H' fun σ2 H2 => tb { D with nx := N, ct := N, bk := D.nx } σ2 H2) := by
  refine ⟨fun i m σ H => m = xs.length - i ∧ i ≤ xs.length ∧ Pv i σ H, ⟨xs.length, by simp, Nat.zero_le _, h0⟩, ?_⟩
  rintro i m σ H ⟨rfl, hi, p⟩
  have q := hl i σ H hi p
  by_cases hlt : i < xs.length
  · refine .inr ⟨⟨xs, xs[i], q, by simp [hlt]⟩, Pv (i + 1), fun σ' H' p' => ⟨xs.length - (i + 1), by omega, rfl, hlt, p'⟩, fun v H' y => ?_⟩
    obtain ⟨T, x, rfl, hT, rfl, y⟩ := y
    exact hs i x σ H T (y xs q) p hT
  · have e : i = xs.length := by omega
    subst e
    exact .inl ⟨⟨xs, q, Nat.le_refl _⟩, hd σ H p⟩
end CK

/-! CK: own objects. -/
namespace CK
open PySem L2 PyProof.Rows
variable {X : Cx} {cc : Nat → Addr}
def clook (k : List Nat) : List (List Nat × CV) → Option CV
  | [] => none
  | (g, v) :: r => match g == k with
    | true => some v
    | false => clook k r
def cput (k : List Nat) (v : CV) : List (List Nat × CV) → List (List Nat × CV)
  | [] => [(k, v)]
  | (g, x) :: r => match g == k with
    | true => (g, v) :: r
    | false => (g, x) :: cput k v r
theorem Tx_beq2 (a b : List Nat) : (Tx b == Tx a) = (a == b) := by rw [Tx_beq, beq_comm']
theorem look_some {η : Em} {k : List Nat} {v : CV} : ∀ {fs : List (List Nat × CV)} {ys : List (Str × V)}, RF η fs ys → clook k fs = some v → ∃ y, ys.lookup (Tx k) = some y ∧ RV η v y
  | _, _, .nil, e => by cases e
  | (g, x) :: r, (g', y) :: ys, .cons q rs, e => by
    obtain ⟨e1, rv⟩ := q
    have e1 : g' = Tx g := e1
    have e : (match g == k with | true => some x | false => clook k r) = some v := e
    show ∃ z, (match Tx k == g' with | true => some y | false => ys.lookup (Tx k)) = some z ∧ RV η v z
    rw [e1, Tx_beq2]
    cases c : g == k with
    | true => rw [c] at e; cases e; exact ⟨y, rfl, rv⟩
    | false => rw [c] at e; exact look_some rs e
theorem look_no {η : Em} {k : List Nat} : ∀ {fs : List (List Nat × CV)} {ys : List (Str × V)}, RF η fs ys → clook k fs = none → ys.lookup (Tx k) = none
  | _, _, .nil, _ => rfl
  | (g, x) :: r, (g', y) :: ys, .cons q rs, e => by
    obtain ⟨e1, rv⟩ := q
    have e1 : g' = Tx g := e1
    have e : (match g == k with | true => some x | false => clook k r) = none := e
    show (match Tx k == g' with | true => some y | false => ys.lookup (Tx k)) = none
    rw [e1, Tx_beq2]
    cases c : g == k with
    | true => rw [c] at e; cases e
    | false => rw [c] at e; exact look_no rs e
theorem put_rf {η : Em} {k : List Nat} {v : CV} {y : V} (rv : RV η v y) : ∀ {fs : List (List Nat × CV)} {ys : List (Str × V)}, RF η fs ys → RF η (cput k v fs) (putF (Tx k) y ys)
  | _, _, .nil => .cons ⟨rfl, rv⟩ .nil
  | (g, x) :: r, (g', z) :: ys, .cons q rs => by
    obtain ⟨e1, rx⟩ := q
    have e1 : g' = Tx g := e1
    subst e1
    show RF η (match g == k with | true => (g, v) :: r | false => (g, x) :: cput k v r) (if Tx g = Tx k then (Tx g, y) :: ys else (Tx g, z) :: putF (Tx k) y ys)
    cases c : g == k with
    | true =>
      rw [if_pos (Tx_inj.mpr (eq_of_beq c))]
      exact .cons ⟨rfl, rv⟩ rs
    | false =>
      rw [if_neg fun q => by rw [Tx_inj.mp q, beq_self_eq_true] at c; cases c]
      exact .cons ⟨rfl, rx⟩ (put_rf rv rs)
theorem HR.ins {η : Em} {h : CH} {H : Hp} (r : HR cc η h H) {n c : Nat} {fs : List (List Nat × CV)} {a : Addr} (e : h.get n = some (.ins c fs)) (ea : η.as[n]? = some a) : ∃ dx ys, H a = some (.ins (cc c) dx ys) ∧ RF η fs ys := by
  obtain ⟨O, q, dx, ys, e2, rv⟩ := r.ob n a _ ea e
  exact ⟨dx, ys, by rw [q, e2, r.cl], rv⟩
def cFld (c : Nat) (k : List Nat) (o : CE) : CE := fun s h => match o s h with
  | some (.ref n, h1) => (match h1.get n with
    | some (.ins c' fs) => (match Nat.beq c' c with
      | true => (match clook k fs with | some v => some (v, h1) | none => none)
      | false => none)
    | _ => none)
  | _ => none
theorem ke_fld {e : Expr} {f : Str} {pos : Pos} {co : CE} {c : Nat} {k : List Nat} (he : PE X e (eOf cc co)) (cl : Cls X.K (cc c)) (na : NoAttr X.K (cc c) f) (hf : f = Tx k := by decide +kernel) (hb : attributeBase e f X.env (eval e X.env) = eval e X.env := by rfl) :
    PE X (.Attribute e f pos) (eOf cc (cFld c k co)) := pe_imp (pe_fld he hb) fun σ H Q q => by
  obtain ⟨η, h, s, rs, hr, w, h', e, kk⟩ := q
  unfold cFld at e
  split at e
  · rename_i n h1 e1
    split at e
    · rename_i c' fs e2
      split at e
      · rename_i ec
        split at e
        · rename_i v ev
          cases e
          have ec := Nat.eq_of_beq_eq_true ec
          subst ec
          refine ⟨η, h, s, rs, hr, _, _, e1, fun η1 H1 x S1 R1 rx => ?_⟩
          obtain ⟨a, ea, rfl⟩ := rx
          obtain ⟨dx, ys, q1, p1⟩ := R1.ins e2 ea
          obtain ⟨y, ey, ry⟩ := look_some p1 ev
          exact ⟨a, _, dx, ys, y, rfl, q1, cl, na, by rw [hf]; exact ey, kk η1 H1 y S1 R1 ry⟩
        · cases e
      · cases e
    · cases e
  · cases e
/-- o.f = v, behind both -/
def setF (c : Nat) (k : List Nat) (v : CV) (n : Nat) (h : CH) : Option CH := match h.get n with
  | some (.ins c' fs) => (match Nat.beq c' c && Nat.ble fs.length 900 with
    | true => some (h.set n (.ins c (cput k v fs)))
    | false => none)
  | _ => none
theorem setF_of {η : Em} {h h' : CH} {H : Hp} (hr : HR cc η h H) {c : Nat} {k : List Nat} {v : CV} {y : V} {n : Nat} {a : Addr} (e : setF c k v n h = some h') (ea : η.as[n]? = some a) (rv : RV η v y) : ∃ dx ys, H a = some (.ins (cc c) dx ys) ∧ ys.length < 1000 ∧
    HR cc η h' (upd H a (.ins (cc c) dx (putF (Tx k) y ys))) ∧ Stp η H η (upd H a (.ins (cc c) dx (putF (Tx k) y ys))) := by
  unfold setF at e
  split at e
  · rename_i c' fs e2
    split at e
    · rename_i ec
      rw [Bool.and_eq_true] at ec
      cases e
      have ec1 := Nat.eq_of_beq_eq_true ec.1
      subst ec1
      obtain ⟨dx, ys, q1, p1⟩ := hr.ins e2 ea
      have hl : fs.length ≤ 900 := Nat.le_of_ble_eq_true ec.2
      refine ⟨dx, ys, q1, by rw [← p1.length]; omega, ?_⟩
      exact hr.put (o := .ins c' (cput k v fs)) (O := .ins (cc c') dx (putF (Tx k) y ys)) ea ⟨dx, _, by rw [hr.cl], put_rf rv p1⟩
    · cases e
  · cases e
def cSetF (c : Nat) (k : List Nat) (o v : CE) : CP := fun s h => match v s h with
  | some (y, h1) => (match o s h1 with
    | some (.ref n, h2) => (match setF c k y n h2 with
      | some h3 => some (.nx, s, h3)
      | none => none)
    | _ => none)
  | none => none
theorem ks_fld {o value : Expr} {f : Str} {pos pos' : Pos} {co cv : CE} {c : Nat} {k : List Nat} (ho : PE X o (eOf cc co)) (hv : PE X value (eOf cc cv)) (cl : Cls X.K (cc c)) (na : NoAttr X.K (cc c) f) (hf : f = Tx k := by decide +kernel) (hs : swapsWith value (some (.Attribute o f pos')) pos.line X.env = pure false := by rfl) :
    PS X (.Assign [.Attribute o f pos'] value pos) (sOf cc (cSetF c k co cv)) := ps_imp (ps_fld ho hv hs) fun D σ H q => by
  obtain ⟨η, h, s, rs, hr, fl, s', h', e, kk⟩ := q
  unfold cSetF at e
  split at e
  · rename_i y h1 e1
    split at e
    · rename_i n h2 e2
      split at e
      · rename_i h3 e3
        cases e
        refine ⟨η, h, s, rs, hr, _, _, e1, fun η1 H1 x S1 R1 rx => ⟨η1, h1, s, RS.mono S1.le rs, R1, _, _, e2, fun η2 H2 z S2 R2 rz => ?_⟩⟩
        obtain ⟨a, ea, rfl⟩ := rz
        obtain ⟨dx, ys, q1, hl, R3, S3⟩ := setF_of R2 e3 ea (RV.mono S2.le rx)
        refine ⟨a, _, dx, ys, rfl, q1, cl, na, hl, ?_⟩
        rw [hf]
        exact kk η2 _ σ (Stp.trans (Stp.trans S1 R1 S2) R2 S3) R3 (RS.mono (S1.le.trans S2.le) rs)
      · cases e
    · cases e
  · cases e
/-- an attribute as a target -/
def gFldR (K : PySem.W.Frag) (to : TE) (f : Str) : TG := fun v σ H Q => to σ H fun x H1 => ∃ a C dx fs, x = .ref a ∧ H1 a = some (.ins C dx fs) ∧ Cls K C ∧ NoAttr K C f ∧ fs.length < 1000 ∧ Q σ (upd H1 a (.ins C dx (putF f v fs)))
theorem pg_attr {o : Expr} {f : Str} {pos : Pos} {to : TE} (ho : PE X o to) : PG X (.Attribute o f pos) (gFldR X.K to f) := by
  refine ⟨fun pins s σ H v u Q I r h => ?_⟩
  rw [assign_Attribute]
  refine wpAny_bind (wpAny_holding (thn (ho.run pins s σ H _ I h) fun ov s1 ⟨x, H1, I1, rx, a, C, dx, fs, ex, ea, c, n, hl, q⟩ => ?_))
  subst ex
  obtain rfl : ov = Value.ref a := rx
  refine wpAny_bind (wpAny_standAt (wpAny_bind (wpAny_holding (setattr_ok I1 ea c n hl r fun s2 I2 => ?_))))
  exact wpAny_release ⟨σ, _, I2, q⟩
def cgFld (c : Nat) (k : List Nat) (o : CE) : CG := fun v s h => match o s h with
  | some (.ref n, h1) => (match setF c k v n h1 with
    | some h2 => some (s, h2)
    | none => none)
  | _ => none
theorem kg_fld {o : Expr} {f : Str} {pos : Pos} {co : CE} {c : Nat} {k : List Nat} (ho : PE X o (eOf cc co)) (cl : Cls X.K (cc c)) (na : NoAttr X.K (cc c) f) (hf : f = Tx k := by decide +kernel) : PG X (.Attribute o f pos) (gOf cc (cgFld c k co)) := pg_imp (pg_attr ho) fun v σ H Q q => by
  obtain ⟨η, h, s, u, rv, rs, hr, s', h', e, kk⟩ := q
  unfold cgFld at e
  split at e
  · rename_i n h1 e1
    split at e
    · rename_i h2 e2
      cases e
      refine ⟨η, h, _, rs, hr, _, _, e1, fun η1 H1 x S1 R1 rx => ?_⟩
      obtain ⟨a, ea, rfl⟩ := rx
      obtain ⟨dx, ys, q1, hl, R3, S3⟩ := setF_of R1 e2 ea (RV.mono S1.le rv)
      refine ⟨a, _, dx, ys, rfl, q1, cl, na, hl, ?_⟩
      rw [hf]
      exact kk η1 _ σ (Stp.trans S1 R1 S3) R3 (RS.mono S1.le rs)
    · cases e
  · cases e
/-- a sum of ints, of one whose base is not known -/
def augI : CV → CV → Option CV
  | .int i, .int j => some (.int (i + j))
  | .off i, .int j => some (.off (i + j))
  | _, _ => none
theorem augI_of {η : Em} {u v w : CV} {x y : V} (e : augI u v = some w) (r : RV η u x) (s : RV η v y) : ∃ i j, x = .int i ∧ y = .int j ∧ RV η w (.int (i + j)) := by
  unfold augI at e
  split at e
  · cases e; exact ⟨_, _, r, s, rfl⟩
  · rename_i i j
    cases e
    refine ⟨_, _, r, s, ?_⟩
    show V.int (η.t + i + j) = V.int (η.t + (i + j))
    rw [Int.add_assoc]
  · cases e
/-- o.f += v, ints -/
def cAugF (c : Nat) (k : List Nat) (o v : CE) : CP := fun s h => match o s h with
  | some (.ref n, h1) => (match h1.get n with
    | some (.ins c' fs) => (match Nat.beq c' c with
      | true => (match clook k fs with
        | some i => (match v s h1 with
          | some (j, h2) => (match augI i j with
            | some m => (match setF c k m n h2 with
              | some h3 => some (.nx, s, h3)
              | none => none)
            | none => none)
          | none => none)
        | none => none)
      | false => none)
    | _ => none)
  | _ => none
theorem ks_augF {o value : Expr} {f : Str} {pos tpos : Pos} {co cv : CE} {c : Nat} {k : List Nat} (ho : PE X o (eOf cc co)) (hv : PE X value (eOf cc cv)) (cl : Cls X.K (cc c)) (na : NoAttr X.K (cc c) f) (hf : f = Tx k := by decide +kernel) :
    PS X (.AugAssign (.Attribute o f tpos) .Add value pos) (sOf cc (cAugF c k co cv)) := ps_imp (ps_fldaug ho hv in_add) fun D σ H q => by
  obtain ⟨η, h, s, rs, hr, fl, s', h', e, kk⟩ := q
  unfold cAugF at e
  split at e
  · rename_i n h1 e1
    split at e
    · rename_i c' fs e2
      split at e
      · rename_i ec
        split at e
        · rename_i i ei
          split at e
          · rename_i j h2 e3
            split at e
            · rename_i m em
              split at e
              · rename_i h3 e4
                cases e
                have ec := Nat.eq_of_beq_eq_true ec
                subst ec
                refine ⟨η, h, _, rs, hr, _, _, e1, fun η1 H1 x S1 R1 rx => ?_⟩
                obtain ⟨a, ea, rfl⟩ := rx
                obtain ⟨dx, ys, q1, p1⟩ := R1.ins e2 ea
                obtain ⟨y, ey, ry⟩ := look_some p1 ei
                refine ⟨a, _, dx, ys, y, rfl, q1, cl, na, by rw [hf]; exact ey, η1, h1, _, RS.mono S1.le rs, R1, _, _, e3, fun η2 H2 z S2 R2 rz => ?_⟩
                obtain ⟨i', j', rfl, rfl, rm⟩ := augI_of em (RV.mono S2.le ry) rz
                obtain ⟨dx', ys', q2, hl, R3, S3⟩ := setF_of R2 e4 (S2.le.get ea) rm
                refine ⟨i', j', rfl, rfl, dx', ys', q2, hl, ?_⟩
                rw [hf]
                exact kk η2 _ σ (Stp.trans (Stp.trans S1 R1 S2) R2 S3) R3 (RS.mono (S1.le.trans S2.le) rs)
              · cases e
            · cases e
          · cases e
        · cases e
      · cases e
    · cases e
  · cases e
/-- del xs[i] -/
def cDel (o i : CE) : CP := fun s h => match o s h with
  | some (.ref n, h1) => (match i s h1 with
    | some (.int j, h2) => (match h2.get n with
      | some (.lst xs) => (match decide (-1000000 ≤ j) && decide (j ≤ 1000000) with
        | true => (match seqIndex? j xs.length with
          | some k => some (.nx, s, h2.set n (.lst (xs.eraseIdx k)))
          | none => none)
        | false => none)
      | _ => none)
    | _ => none)
  | _ => none
theorem ks_del {o i : Expr} {co ci : CE} {pos tpos : Pos} (ho : PE X o (eOf cc co)) (hi : PE X i (eOf cc ci)) : PS X (.Delete [.Subscript o i tpos] pos) (sOf cc (cDel co ci)) := ps_imp (ps_delL ho hi) fun D σ H q => by
  obtain ⟨η, h, s, rs, hr, fl, s', h', e, kk⟩ := q
  unfold cDel at e
  split at e
  · rename_i n h1 e1
    split at e
    · rename_i j h2 e2
      split at e
      · rename_i xs e3
        split at e
        · rename_i hj
          simp only [Bool.and_eq_true, decide_eq_true_eq] at hj
          split at e
          · rename_i k ek
            cases e
            refine ⟨η, h, _, rs, hr, _, _, e1, fun η1 H1 x S1 R1 rx => ⟨η1, h1, _, RS.mono S1.le rs, R1, _, _, e2, fun η2 H2 y S2 R2 ry => ?_⟩⟩
            obtain ⟨a, ea, rfl⟩ := RV.mono S2.le rx
            obtain ⟨ys, q1, p1⟩ := R2.lst e3 ea
            obtain ⟨R3, S3⟩ := R2.put (o := .lst (xs.eraseIdx k)) (O := .lst (ys.eraseIdx k)) ea ⟨_, rfl, Pd.erase k p1⟩
            exact ⟨a, ys, j, k, rfl, ry, q1, by omega, by omega, by rw [← p1.length]; exact ek, kk η2 _ σ (Stp.trans (Stp.trans S1 R1 S2) R2 S3) R3 (RS.mono (S1.le.trans S2.le) rs)⟩
          · cases e
        · cases e
      · cases e
    · cases e
  · cases e
end CK

/-! CK: a list taken apart into names; the greatest of three. -/
namespace CK
open PySem L2 PyProof.Rows
variable {X : Cx} {cc : Nat → Addr}
def cgUnl (n : Nat) (g : CGs) : CG := fun v s h => match v with
  | .ref a => (match h.get a with
    | some (.lst xs) => if xs.length = n then g xs s h else none
    | _ => none)
  | _ => none
theorem kg_unl {pos : Pos} {es : List Expr} {k : Nat} {g : CGs} {n : Nat} (hc : X.calm = true) (h : PGs X es (gsOf cc g))
    (hn : (assignEach es X.env).length = n := by rfl) (hst : (assignEach es X.env).findIdx? (·.1) = none := by rfl) : PG X (.Tuple es k pos) (gOf cc (cgUnl n g)) := pg_imp (pg_unl hc h hn hst) fun v σ H Q q => by
  obtain ⟨η, h, s, u, rv, rs, hr, s', h', e, k⟩ := q
  unfold cgUnl at e
  split at e
  · rename_i a
    obtain ⟨b, eb, rfl⟩ := rv
    split at e
    · rename_i xs e1
      split at e
      · rename_i hl
        obtain ⟨ys, q1, p1⟩ := hr.lst e1 eb
        exact ⟨b, ys, rfl, SqL.of q1, by rw [← p1.length]; exact hl, η, h, s, xs, p1, rs, hr, s', h', e, k⟩
      · cases e
    · cases e
  · cases e
def fMax3 : List CV → CH → Option (CV × CH)
  | [.int i, .int j, .int k], h => some (.int (if (if i < j then j else i) < k then k else (if i < j then j else i)), h)
  | _, _ => none
theorem vMax3 : VCall cc fMax3 (rNuC3 nuMax3) := by
  intro η h H vs xs w h' Q hr r e k
  unfold fMax3 at e
  split at e
  · rename_i a b c
    cases r with
    | cons ra r =>
    cases r with
    | cons rb r =>
    cases r with
    | cons rc r =>
    cases r
    obtain rfl := (show _ = V.int a from ra)
    obtain rfl := (show _ = V.int b from rb)
    obtain rfl := (show _ = V.int c from rc)
    cases e
    refine ⟨.int a, .int b, .int c, .int (if (if a < b then b else a) < c then c else (if a < b then b else a)), rfl, ?_, kn_same hr k rfl⟩
    by_cases h1 : a < b
    · by_cases h2 : b < c
      · simp [nuMax3, nuMax2, nuLt, nuCB, h1, h2]
      · simp [nuMax3, nuMax2, nuLt, nuCB, h1, h2]
    · by_cases h2 : a < c
      · simp [nuMax3, nuMax2, nuLt, nuCB, h1, h2]
      · simp [nuMax3, nuMax2, nuLt, nuCB, h1, h2]
  · cases e
theorem boot_maxQ : bootBuiltins "max" = some (.builtin "max") := by decide +kernel
theorem ke_max3 {p pos : Pos} {e : Expr} {es : List Expr} {ca : CA} (hcm : X.calm = true) (hg : Gl X "max") (hm : X.mg "max" = none) (ha : PA X (e :: es) (aOf cc ca)) (he : starEach (e :: es) X.env = (false, eval e X.env) :: starEach es X.env := by rfl) (hpl : (backTo pos (starEach es X.env)).any (·.1) = false := by rfl) :
    PE X (.Call (.Name "max" p) (e :: es) [] pos) (eOf cc (cCb fMax3 ca)) :=
  pe_imp (pe_callB (call_max3Nu hcm) hg hm boot_maxQ ha (he := he) (hpl := hpl)) fun _ _ _ q => cb_of vMax3 q
end CK

/-! CK: a name for a dict comprehension. -/
namespace CK
open PySem L2 PyProof.Rows
theorem ps_setDc {X : Cx} {n : Nat} {nm : Str} {np : Pos} {kx vx tg src : Expr} {cs : List Expr} {sc : Scope} {own : List (Str × Nat)} {pos spos : Pos} {wi : TI} {g : TG} {tt : TT} {tk tv : TE}
    (calm : X.calm = true) (un : X.N.Nodup) (hn : X.N[n]? = some nm) (loc : X.env.scope.names.lookup nm = some .local)
    (sw : swapsWith (.DictComp kx vx [⟨tg, src, cs, 0⟩] sc pos) (some (.Name nm np)) spos.line X.env = pure true)
    (a1 : PI X tg src wi) (a2 : BlkOk X.N X.env.scope sc own)
    (a3 : ∀ (z : Shared) (H : Hp) (C : Addr) (l : List (Str × Addr)) (q : List Addr), PG (X.blk z H sc (compEnvC sc l C X.env) q) tg g)
    (a4 : ∀ (z : Shared) (H : Hp) (C : Addr) (l : List (Str × Addr)) (q : List Addr), PTs (X.blk z H sc (compEnvC sc l C X.env) q) cs tt)
    (a5 : ∀ (z : Shared) (H : Hp) (C : Addr) (l : List (Str × Addr)) (q : List Addr), PE (X.blk z H sc (compEnvC sc l C X.env) q) kx tk)
    (a6 : ∀ (z : Shared) (H : Hp) (C : Addr) (l : List (Str × Addr)) (q : List Addr), PE (X.blk z H sc (compEnvC sc l C X.env) q) vx tv)
    (a7 : ∀ u, foldedSetIterable src X.env u = pure u := by intro _; rfl) :
    PS X (.Assign [.Name nm np] (.DictComp kx vx [⟨tg, src, cs, 0⟩] sc pos) spos) (tAsg (tDc wi g tt tk tv (own.map (·.2))) (gName n)) := by
  constructor
  intro pins z σ H D I want
  have want : tDc wi g tt tk tv (own.map (·.2)) σ H (fun u H1 => gName n u σ H1 D.nx) := want
  rw [exec_Assign_Name_used _ _ _ _ sw]
  apply wpAny_bind; apply wpAny_standAt; apply wpAny_bind
  show wpAny _ X.A (do let _ ← comprehension (.DictComp kx vx [⟨tg, src, cs, 0⟩] sc pos) sc X.env (firstIterPos [⟨tg, src, cs, 0⟩] pos) newDict false (eval src X.env) (some (assign (.Name nm np) X.env))) _ _ z
  apply wpAny_bind
  apply thn (dc_core (Qf := fun _ z' => SP X pins D .next z') calm un I a1 a2 a3 a4 a5 a6 a7 want ?_)
  · intro _ z' fin
    exact wpAny_pure (wpAny_pure fin)
  · intro L C z' m H' I' fin ns fp
    show wpAny _ _ (assign (.Name nm np) X.env (.ref L)) _ _ _
    apply wpAny_assign_Name
    apply store_ok2 (v := V.ref L) I' un hn (.inl loc) rfl _ (.inr loc)
    intro z2 I2 ⟨b, sb, hb⟩
    obtain ⟨p0, p1, p2, p3, p4, p5⟩ := fp
    have far : C ≠ b := hb.elim (fun e => by rw [e]; exact p1) (fun e q => p4 nm b e q.symm)
    refine ⟨m, ns.sameBut sb far, fun h3 sb3 => ⟨_, H', ?_, fin⟩⟩
    exact I2.turned (t' := z2.toks) (fun c o hc e => (sb3.2 c hc).trans e) p0 p1 p3 p4 p5
theorem sw_dict {kx vx : Expr} {gs : List Comprehension} {sc : Scope} {pos np : Pos} {nm : Str} {l : Nat} {env : Env} (k : env.scope.kind = .function) (loc : env.scope.names.lookup nm = some .local) (row : (np.line == pos.line) = true)
    (out : (sc.names.any fun (n, k) => n == nm && (k == .local || k == .cell)) = false) : swapsWith (.DictComp kx vx gs sc pos) (some (.Name nm np)) l env = pure true := by
  have q1 : env.kindOf nm = some .local := loc
  have q2 : env.blockKind = .function := by simp only [Env.blockKind, k]; rfl
  simp only [swapsWith, q2, q1, out, Expr.pos, row]
  rfl
end CK

/-! CK: a lambda as a value that the abstract heap knows; its call. -/
namespace CK
open PySem L2 PyProof.Rows LamX NdefX
structure LF where
  qual : Str
  params : Arguments
  body : Expr
  scope : Scope
  cl : List (Str × Addr)
  c : Addr
def lamAt (f : Addr) (F : LF) (h : Heap) : Prop := ∃ pm ctv, h.get? f = some (PySem.W.kla_obj "<lambda>" F.qual F.params F.body F.scope F.cl pm F.c ctv)
def LamO (f : Addr) (F : LF) : HO := .ext (lamAt f F)
def LF.nf (F : LF) : NF := ⟨"<lambda>", F.qual, F.params, [], F.scope, F.cl, F.c⟩
section
variable {X : Cx} {pins : List (Addr × Obj)} {σ : L2.St} {H : Hp} {s : Shared}
theorem inv_lam {F : LF} {pm ctv : Value} {tk : Nat} (I : Inv X pins σ H s) :
    Inv X pins σ (upd H s.heap.objs.size (LamO s.heap.objs.size F)) { s with heap := s.heap.push (PySem.W.kla_obj "<lambda>" F.qual F.params F.body F.scope F.cl pm F.c ctv), toks := tk } := by
  have here : (s.heap.push (PySem.W.kla_obj "<lambda>" F.qual F.params F.body F.scope F.cl pm F.c ctv)).get? s.heap.objs.size = some (PySem.W.kla_obj "<lambda>" F.qual F.params F.body F.scope F.cl pm F.c ctv) := Heap.get?_push_size _ rfl
  refine I.laid (fun b u q => Heap.get?_push_of_some _ q) (Nat.le_refl _) ⟨⟨pm, ctv, here⟩, ⟨_, here⟩, ?_⟩
  rintro g1 g2 ⟨p1, p2, z⟩ st
  exact ⟨p1, p2, st _ z⟩
/-- one entry more in the table: all tables tell what they should -/
theorem tabs_grow {T : List NTab} {nm : Nat → Nat → Str} {P c' : Addr} {pos : Pos} {q : Str} {ps : Array Value} (hT : TabsN T H) (hu : ∀ p ∈ T, p.1 = P → p.2 = nm) (hP : H P = some (.tbl ps)) (nc : H c' = none) (hq : nm pos.line pos.col = q) :
    TabsN T (upd (upd H P (.tbl (ps ++ #[rawInt pos.line, rawInt pos.col, .ref c']))) c' (CodeO c' q)) := by
  have nPc : P ≠ c' := ne_of_none hP nc
  have old : ∀ (d : Addr) (r : Str), H d = some (CodeO d r) → (upd (upd H P (.tbl (ps ++ #[rawInt pos.line, rawInt pos.col, .ref c']))) c' (CodeO c' q)) d = some (CodeO d r) := fun d r e => by
    have n1 : d ≠ P := fun z => by rw [z, hP] at e; exact codeO_ne ps (Option.some.inj e).symm
    rw [upd_ne (ne_of_none e nc), upd_ne n1]
    exact e
  rintro ⟨P', nm'⟩ hp
  obtain ⟨ps', e1, e2, e3⟩ := hT _ hp
  by_cases z : P' = P
  · have hn : nm' = nm := hu _ hp z
    subst z
    subst hn
    have e1 : H P' = some (.tbl ps') := e1
    rw [hP] at e1
    cases e1
    refine ⟨ps ++ #[rawInt pos.line, rawInt pos.col, .ref c'], ?_, ?_, fun po cv hcv => ?_⟩
    · show (upd (upd H P' _) c' _) P' = _
      rw [upd_ne nPc, upd_same]
    · show TriplesOk (ps ++ #[rawInt pos.line, rawInt pos.col, .ref c']).toList
      rw [Array.toList_append]
      exact PySem.TriplesOk_snoc _ _ _ _ e2
    · have hcv : codeAmong po (ps.toList ++ [rawInt pos.line, rawInt pos.col, .ref c']) = some cv := by simpa using hcv
      rcases among_app2 _ e2 hcv with y | ⟨y, y1, y2⟩
      · obtain ⟨d, w1, w2⟩ := e3 po cv y
        exact ⟨d, w1, old d _ w2⟩
      · refine ⟨c', y, ?_⟩
        show (upd (upd H P' _) c' _) c' = some (CodeO c' (nm' po.line po.col))
        rw [upd_same, ← y1, ← y2, hq]
  · refine ⟨ps', ?_, e2, fun po cv hcv => ?_⟩
    · have n1 : P' ≠ c' := ne_of_none e1 nc
      show (upd (upd H P _) c' _) P' = _
      rw [upd_ne n1, upd_ne z]
      exact e1
    · obtain ⟨d, w1, w2⟩ := e3 po cv hcv
      exact ⟨d, w1, old d _ w2⟩
/-- the reading of a lambda: a new object that is known -/
def tLm (T : List NTab) (mk : Addr → LF) : TE := fun σ H Q => TabsN T H ∧ ∀ (f c' : Addr) (H1 : Hp), ExtN H H1 → (∀ b, H1 b = none → H b = none) → TabsN T H1 → H f = none → H1 f = some (LamO f (mk c')) → H1 c' = some (CodeO c' (mk c').qual) → Q (.ref f) H1
theorem pe_lm {X : Cx} {T : List NTab} {nm : Nat → Nat → Str} {c P : Addr} {params : Arguments} {body : Expr} {scope : Scope} {pos : Pos} (TB : TabB X.base X.mg c P) (hcode : X.env.code = .ref c) (hm : (P, nm) ∈ T) (hn : nm pos.line pos.col = X.env.qual ++ "<lambda>") (hu : ∀ p ∈ T, p.1 = P → p.2 = nm)
    (hfree : ∀ y ∈ scope.names, y.2 = .free → X.env.scope.names.lookup y.1 = some .cell ∨ X.env.scope.names.lookup y.1 = some .free) (hdef : defaultsOf params X.env = ([], [])) :
    PE X (.Lambda params body scope pos) (tLm T fun c' => ⟨X.env.qual ++ "<lambda>", params, body, scope, cloFrom X.env.cells scope.names [], c'⟩) := by
  refine ⟨fun pins s σ H Q I h => ?_⟩
  obtain ⟨hT, kq⟩ := h
  have has : ∀ y ∈ scope.names, y.2 = .free → ∃ a, X.env.cells.lookup y.1 = some a := fun y hy e => by
    rcases hfree y hy e with z | z
    · exact I.ok.has _ (.inl z)
    · exact I.ok.has _ (.inr z)
  obtain ⟨ps, hP, tri, told⟩ := hT _ hm
  have bt := TB.bm.keeps I.bk
  have there := I.hok P _ hP
  have glob := I.mod.glob.keeps I.bk
  have hd := TB.code.keeps I.bk
  apply PySem.W.kla_eval hdef
  match ec : codeAmong pos ps.toList with
  | none =>
    apply PySem.W.kla_makeFunction (closure_ok has) I.ok.glob glob hcode hd there tri ec TB.gP bt
    intro c' ctv g tk ext low high rec tab
    obtain ⟨c2, oc, vs, t, q1, q2, q3, q4⟩ := rec
    obtain rfl : c' = c2 := Value.ref.inj q1
    have J := inv_table (t' := tk) I hP (fun b o n e => ext b o n e) tab low ⟨oc, vs, t, q2, q3, q4⟩
    have nc : H c' = none := I.hok.fresh low
    have L := inv_lam (F := ⟨X.env.qual ++ "<lambda>", params, body, scope, cloFrom X.env.cells scope.names [], c'⟩) (pm := (X.mg "__name__").getD .none) (ctv := ctv) (tk := tk) J
    have nf := J.hok.fresh (Nat.le_refl g.objs.size)
    have nP : P ≠ c' := ne_of_none hP nc
    refine ⟨.ref g.objs.size, _, L, rfl, kq g.objs.size c' _ (fun b o e no => ?_) (fun b e => upd_none (upd_none (upd_none e))) ?_ (I.hok.fresh (Nat.le_trans low (Nat.le_of_lt high))) upd_same ?_⟩
    · have n1 : b ≠ P := fun z => by rw [z, hP] at e; exact no ps (Option.some.inj e).symm
      have n2 : b ≠ c' := ne_of_none e nc
      have e2 : (upd (upd H P (.tbl (ps ++ #[rawInt pos.line, rawInt pos.col, .ref c']))) c' (CodeO c' (X.env.qual ++ "<lambda>"))) b = some o := by rw [upd_ne n2, upd_ne n1]; exact e
      rw [upd_ne (ne_of_none e2 nf)]
      exact e2
    · exact (tabs_grow hT hu hP nc hn).ext fun b o e => by rw [upd_ne (ne_of_none e nf)]; exact e
    · rw [upd_ne (Nat.ne_of_lt high)]
      exact upd_same
  | some cv =>
    obtain ⟨c', rfl, hco⟩ := told pos cv ec
    have hco : H c' = some (CodeO c' (nm pos.line pos.col)) := hco
    rw [hn] at hco
    apply PySem.W.kla_makeFunctionHit (closure_ok has) I.ok.glob glob hcode hd there tri ec bt
    intro ctv g tk keep low
    have J : Inv X pins σ H { s with heap := g, toks := tk } := I.kept keep
    have nf : H g.objs.size = none := J.hok.fresh (Nat.le_refl _)
    have L := inv_lam (F := ⟨X.env.qual ++ "<lambda>", params, body, scope, cloFrom X.env.cells scope.names [], c'⟩) (pm := (X.mg "__name__").getD .none) (ctv := ctv) (tk := tk) J
    refine ⟨.ref g.objs.size, _, L, rfl, kq g.objs.size c' _ (fun b o e _ => by rw [upd_ne (ne_of_none e nf)]; exact e) (fun b e => upd_none e) (hT.ext fun b o e => by rw [upd_ne (ne_of_none e nf)]; exact e) nf upd_same ?_⟩
    rw [upd_ne (ne_of_none hco nf)]
    exact hco
end
/-- a known lambda called -/
theorem lam_call {CX : CXT} {P : Program} {w : World} {K : PySem.W.Frag} {mg : Str → Option Value} {base : Heap} {N ps fr : List Str} {F : LF} {f : Addr} {A : Around} {outer : List Env} {s : Shared} {H : Hp} {E : XK} {us : List Value} {vs : List V} {ws : List (Option V)} {k : Nat} {tb : TE} {Q : VK}
    (S : NScope N ps fr F.scope) (hr : Room (k + 1) A) (e0 : Env0 P w K mg base A outer s H) (hf : H f = some (LamO f F)) (hc : H F.c = some (CodeO F.c F.qual)) (hbind : ∀ pm ctv, bindArgs (PySem.W.kla_fn "<lambda>" F.qual F.params F.body F.scope F.cl pm (.ref F.c) ctv) ⟨us, []⟩ = pure (ps.zip us))
    (r : Vals vs us) (hl : vs.length = ps.length) (C : CellsAt F.cl fr ws s.heap H) (hbody : PE (ncx CX P w K mg base N F.nf f A outer s H E) F.body tb) (h : tb (startF N vs ws) H Q) :
    codeAny (model P w) A (.call (.ref f) ⟨us, []⟩) (CR CX outer P w H s Q E) s := by
  obtain ⟨⟨pm, ctv, ho⟩, _, _⟩ := e0.hok f _ hf
  apply PySem.W.kla_callFunE hr.depth ho rfl S.co S.gen rfl (codeO_at e0.hok hc)
  rw [hbind]
  have loc : ∀ y ∈ ps.zip us, F.scope.names.lookup y.1 = some .local := fun y hy => S.par _ (List.of_mem_zip (show (y.1, y.2) ∈ ps.zip us from hy)).1
  have lim : s.heap.NoLimit := e0.mod.nolimit.keeps fun b o e => (e0.bs b o e).1
  refine wpAny_pure (wpAny_newFunctionEnv S.nocell loc (fun g hns sb => ⟨lim.fresh _ sb, ?_⟩) S.kind)
  have kp : ∀ b o, s.heap.get? b = some o → g.get? b = some o := fun b o e => sb.extBut b o (Nat.ne_of_lt (Heap.lt_size e)) (Heap.get?_push_of_some _ e)
  have J := inv_startN (CX := CX) (K := K) (mg := mg) (base := base) (F := F.nf) (f := f) (E := E) (tk := s.toks + (ps.zip us).length) S hr.hd e0 hl r C hns kp
  apply PySem.W.kla_codeExpr
  refine wpAny_mono (hbody.run [] _ _ H Q J h) (fun v s' hq => ?_) fun e s' hq => hq
  obtain ⟨w', H', J', rv, q⟩ := hq
  exact ⟨w', H', J'.os, J'.bare, J'.base, J'.hok, rv, q⟩
end CK

/-! CK: min of a list of tuples by their first parts, the key a lambda. -/
namespace CK
open PySem L2 PyProof.Rows LamX NdefX
/-- addresses of a built-in's own, that nothing else knows -/
structure Own2 (X : Cx) (pins : List (Addr × Obj)) (H : Hp) (a : Addr) : Prop where
  s0 : X.s_0.heap.objs.size ≤ a
  lo : a ≠ X.env.locals
  ce : ∀ x c, X.env.cells.lookup x = some c → c ≠ a
  pi : ∀ p ∈ X.pn ++ pins, p.1 ≠ a
  hn : H a = none
  fr : a ∉ frs X.stack
section
variable {X : Cx} {pins : List (Addr × Obj)} {σ : L2.St} {H : Hp} {s s' : Shared}
theorem own2_of (I : Inv X pins σ H s) {a : Addr} (h : s.heap.objs.size ≤ a) : Own2 X pins H a := by
  refine ⟨Nat.le_trans I.sz h, fun z => ?_, fun x c e z => ?_, fun p hp z => ?_, I.hok.fresh h, fun z => ?_⟩
  · have := I.lt
    rw [← z] at this
    exact Nat.lt_irrefl _ (Nat.lt_of_lt_of_le this h)
  · obtain ⟨v, o, ho, _⟩ := I.cell x c e
    have := Heap.lt_size ho
    rw [z] at this
    exact Nat.lt_irrefl _ (Nat.lt_of_lt_of_le this h)
  · have := Heap.lt_size (I.pin p hp).1
    rw [z] at this
    exact Nat.lt_irrefl _ (Nat.lt_of_lt_of_le this h)
  · rcases List.mem_cons.mp (I.stkSub _ z) with e | e
    · have := I.lt
      rw [← e] at this
      exact Nat.lt_irrefl _ (Nat.lt_of_lt_of_le this h)
    · exact I.nofs h e
theorem inv_moved {ch : List Addr} (I : Inv X pins σ H s) (hc : ∀ a ∈ ch, Own2 X pins H a) (mv : Moved ch (fun a b => b = a) s s') : Inv X pins σ H s' := by
  obtain ⟨h', g', d', t', o'⟩ := s'
  obtain ⟨mh, mg, md, mo, mt⟩ := mv
  have mg : g' = s.gens := mg
  have mo : o' = s.os := mo
  subst mg
  subst mo
  have out : ∀ b u, H b = some u → b ∉ ch := fun b u e z => by rw [(hc b z).hn] at e; cases e
  refine I.step (ch := ch) (fun b hb => ⟨.inr (hc b hb).s0, (hc b hb).lo, (hc b hb).ce, (hc b hb).pi⟩) (fun b o _ _ n e _ => mh b o n e) (fun b o _ _ n e _ => ⟨o.slots, mh b o n e⟩) (fun b o _ _ n => n) (fun b o n e => ⟨o, mh b o n e⟩) (fun b xs e => e) (fun b o u e => e)
    (fun b ps e => ⟨#[], by rw [e, Array.append_empty]⟩) (fun m hn => ?_) (fun b u e => ?_) I.bare
  · obtain ⟨ob, es, ep, ho, r⟩ := hn
    exact ⟨ob, es, ep, mh _ ob (fun z => (hc _ z).lo rfl) ho, r⟩
  · refine (I.hok b u e).stay (fun d v hd q => mh d v ?_ q) (fun d q => q) fun d xs q => q
    rcases hd with z | z
    · rw [z]; exact out b u e
    · exact out d _ z
end
/-- the lambda tells a tuple's first part -/
def FirstF (X : Cx) (F : LF) : Prop := ∃ a : Str, NScope [a] [a] [] F.scope ∧ F.cl = [] ∧ (∀ v pm ctv, bindArgs (PySem.W.kla_fn "<lambda>" F.qual F.params F.body F.scope F.cl pm (.ref F.c) ctv) ⟨[v], []⟩ = pure [(a, v)]) ∧
  ∀ (f : Addr) (A : Around) (outer : List Env) (s : Shared) (H : Hp) (E : XK), PE (ncx CX0 X.prog X.w X.K X.mg X.base [a] F.nf f A outer s H E) F.body (tOp (rIxT X.K) (tVar 0) (tC (.int 0)))
def bestIx (ks : List Int) : Nat := argBest (fun i j => decide (ks.getD i 0 < ks.getD j 0)) (ks.length - 1)
def Firsts (H : Hp) (ts : List Addr) (ks : List Int) : Prop := Paired (fun t k => ∃ rest, H t = some (.tup (.int k :: rest))) ts ks
def rMinKey (X : Cx) : List V → List V → Hp → VK → Prop := fun vs zs H Q => ∃ (L f : Addr) (F : LF) (ts : List Addr) (ks : List Int), vs = [.ref L] ∧ zs = [.ref f] ∧ SqL X.K H L (ts.map V.ref) ∧ Firsts H ts ks ∧ 0 < ts.length ∧ H f = some (LamO f F) ∧ H F.c = some (CodeO F.c F.qual) ∧ FirstF X F ∧
  ∀ t, ts[bestIx ks]? = some t → Q (.ref t) H
theorem vals_refs : ∀ {ts : List Addr} {its : List Value}, Vals (ts.map V.ref) its → its = ts.map Value.ref
  | [], _, .nil => rfl
  | t :: ts, _, .cons r rs => by
    rw [vals_refs rs, show _ = Value.ref t from r]
    rfl
/-- the lambda called on a tuple -/
theorem first_call {X : Cx} {pins : List (Addr × Obj)} {σ : L2.St} {H : Hp} {s : Shared} {F : LF} {f t : Addr} {k : Int} {rest : List V} {Q : Value → Shared → Prop} {E : Value → Shared → Prop} (I : Inv X pins σ H s) (hr : Room 1 X.A.in1) (FF : FirstF X F) (hf : H f = some (LamO f F)) (hc : H F.c = some (CodeO F.c F.qual)) (ht : H t = some (.tup (.int k :: rest)))
    (q : ∀ tk s', Inv X pins σ H s' → (∀ b o, s.heap.get? b = some o → H b = none → b ∉ frs X.stack → s'.heap.get? b = some o) → Q (.int k tk) s') : wpAny (model X.prog X.w) X.A.in1 (call (.ref f) [.ref t]) Q E s := by
  obtain ⟨a, S, ecl, hb, hbody⟩ := FF
  have e0 := I.env0
  have rc := lam_call (CX := CX0) (E := E0) (us := [.ref t]) (vs := [.ref t]) (ws := []) (k := 0) (tb := tOp (rIxT X.K) (tVar 0) (tC (.int 0))) (Q := fun v H' => v = .int k ∧ H' = H) S hr ⟨e0.frames, e0.mod, e0.bs, e0.bsz, e0.funs, e0.frf, e0.hok, e0.bare⟩ hf hc (fun pm ctv => hb (.ref t) pm ctv) (.cons rfl .nil) rfl
    (by rw [ecl]; exact ⟨rfl, fun y c e => (by cases e), fun x y c e => (by cases e), fun i y e => by simp at e⟩) (hbody f X.A.in1 X.stack s H E0) ⟨_, rfl, t, _, _, .int k, rfl, rfl, SqT.of ht, at_of (j := 0) rfl rfl, rfl, rfl⟩
  refine wpAny_call (codeAny_mono rc fun r s' hq => ?_)
  cases r with
  | error e => exact (show False from hq).elim
  | ok fl =>
    cases fl with
    | next => exact False.elim hq
    | brk => exact False.elim hq
    | cont => exact False.elim hq
    | ret u =>
      obtain ⟨v, H', os, bare, un, hok, rv, ev, eH⟩ := hq
      subst ev
      subst eH
      obtain ⟨tk, rfl⟩ := rv
      have un' := un
      obtain ⟨hh, g, d, tt, os'⟩ := s'
      obtain rfl : os' = s.os := os
      have J := I.call (h' := hh) (g' := g) (d' := d) (t' := tt) (ch := []) un hok bare (fun b z => absurd z (by simp))
      exact q tk _ J fun b o e n nf => un'.keep b o e n nf (by simp)
theorem cr_minKey {X : Cx} (hcalm : X.calm = true) (hr : Room 2 X.A) : CallRK X (.builtin "min") [Str.ofString "key"] (rMinKey X) := by
  intro pins s σ H vs zs us ws Q I r rz h
  obtain ⟨L, f, F, ts, ks, rfl, rfl, hL, hF, hn, hf, hc, FF, q⟩ := h
  obtain rfl := Vals.ref1 r
  obtain ⟨w1, rfl, e1⟩ := vals1 rz
  obtain rfl : w1 = Value.ref f := e1
  have hkl := hF.length
  obtain ⟨its, rv, hl, hz⟩ := I.list hL
  obtain rfl := vals_refs rv
  show wpAny _ X.A (call (.builtin "min") [.ref L] [(Str.ofString "key", .ref f)]) _ _ s
  have listAt : ∀ s', Inv X pins σ H s' → s'.heap.IsList L (ts.map Value.ref).toArray := fun s' J => by
    obtain ⟨its, rv, hl, _⟩ := J.list hL
    obtain rfl := vals_refs rv
    exact hl.isList
  have hdl : X.A.in1.handled = none := I.ok.hd hcalm
  have Lsz : L < s.heap.objs.size := by
    obtain ⟨o, ho, _⟩ := hl.isList
    exact Heap.lt_size ho
  refine call_min_walkK (wpAny_pyIter_list hl.isList ?_)
  have nLI : L ≠ s.heap.objs.size := Nat.ne_of_lt Lsz
  have oI := own2_of I (Nat.le_refl s.heap.objs.size)
  have szS : (s.heap.push ({ cls := .type "list_iterator", data := .fields #[.ref L, .int 0 0] } : Obj)).objs.size = s.heap.objs.size + 1 := by rw [Heap.size_push]
  have oS := own2_of I (a := (s.heap.push ({ cls := .type "list_iterator", data := .fields #[.ref L, .int 0 0] } : Obj)).objs.size) (by rw [szS]; exact Nat.le_succ _)
  have J0 : Inv X pins σ H { s with heap := s.heap.push ({ cls := .type "list_iterator", data := .fields #[.ref L, .int 0 0] } : Obj) } := I.kept fun b o e => Heap.get?_push_of_some _ e
  have W := (Walks.list (prog := X.prog) (w := X.w) (A := X.A.in1) hdl s.heap.objs.size L nLI (ts.map Value.ref).toArray).toS
  have asz : (ts.map Value.ref).toArray.size = ts.length := by simp
  refine ⟨s.heap.objs.size, _, _, _, (ts.map Value.ref).toArray.size, _, _, fun s' => Inv X pins σ H s', fun i v _ => ∃ tk, v = .int (ks.getD i 0) tk, fun i j => decide (ks.getD i 0 < ks.getD j 0), rfl, W, ⟨⟨_, Heap.get?_push_size _ rfl, rfl, rfl⟩, listAt _ J0⟩, ?_, by rw [asz]; exact hn, ⟨?_, ?_, ?_, ?_⟩, J0, ?_⟩
  · intro b hb
    have hb : b = s.heap.objs.size ∨ b = L := by simpa using hb
    show b < (s.heap.push _).objs.size
    rw [szS]
    rcases hb with z | z
    · rw [z]; exact Nat.lt_succ_self _
    · rw [z]; exact Nat.lt_succ_of_lt Lsz
  · intro s1 s2 J mv
    refine inv_moved J (fun a ha => ?_) mv
    rcases List.mem_cons.mp ha with z | z
    · rw [z]; exact oS
    · rw [show a = s.heap.objs.size by simpa using z]; exact oI
  · intro i k s1 s2 v _
    exact v
  · intro i v s1 o Q' E' hi hv J st hS kq
    rw [asz] at hi
    obtain ⟨t, ht⟩ : ∃ t, ts[i]? = some t := ⟨_, List.getElem?_eq_getElem hi⟩
    have ev : v = .ref t := by
      have hv : (ts.map Value.ref).toArray[i]? = some v := hv
      rw [List.getElem?_toArray, List.getElem?_map, ht] at hv
      exact (Option.some.inj hv).symm
    subst ev
    obtain ⟨k, hk, rest, hrest⟩ := Pd.get hF ht
    refine first_call J hr.in1 FF hf hc hrest fun tk s' J' kp => ?_
    obtain ⟨⟨oi, hoi, c1, c2⟩, _⟩ := st
    refine kq _ s' J' ⟨⟨oi, kp _ _ hoi oI.hn oI.fr, c1, c2⟩, listAt _ J'⟩ (kp _ _ hS oS.hn oS.fr) ⟨tk, ?_⟩ fun j k' z => z
    have e : ks.getD i 0 = k := by rw [List.getD_eq_getElem?_getD, hk]; rfl
    rw [e]
  · rintro i j _ _ s1 Q' E' J ⟨t1, rfl⟩ ⟨t2, rfl⟩ hq
    exact lt_int hq
  · intro v s1 hv J
    have hv : (ts.map Value.ref).toArray[argBest (fun i j => decide (ks.getD i 0 < ks.getD j 0)) ((ts.map Value.ref).toArray.size - 1)]? = some v := hv
    rw [asz, hkl] at hv
    rw [List.getElem?_toArray, List.getElem?_map] at hv
    have hv : ((ts[bestIx ks]?).map Value.ref) = some v := hv
    cases e : ts[bestIx ks]? with
    | none => rw [e] at hv; cases hv
    | some t =>
      rw [e] at hv
      cases hv
      exact ⟨.ref t, H, J, rfl, q t e⟩
/-- the first of the least -/
theorem argBest_le (ks : List Int) : ∀ n : Nat, argBest (fun i j => decide (ks.getD i 0 < ks.getD j 0)) n ≤ n ∧ ∀ j, j ≤ n → ks.getD (argBest (fun i j => decide (ks.getD i 0 < ks.getD j 0)) n) 0 ≤ ks.getD j 0
  | 0 => ⟨Nat.le_refl _, fun j hj => by rw [show j = 0 by omega]; exact Int.le_refl _⟩
  | n + 1 => by
    obtain ⟨a, b⟩ := argBest_le ks n
    show (if decide (ks.getD (n + 1) 0 < ks.getD (argBest _ n) 0) = true then n + 1 else argBest _ n) ≤ n + 1 ∧ ∀ j, j ≤ n + 1 → ks.getD (if decide (ks.getD (n + 1) 0 < ks.getD (argBest _ n) 0) = true then n + 1 else argBest _ n) 0 ≤ ks.getD j 0
    split
    · rename_i h
      have h := of_decide_eq_true h
      refine ⟨Nat.le_refl _, fun j hj => ?_⟩
      by_cases e : j = n + 1
      · rw [e]; exact Int.le_refl _
      · have := b j (by omega)
        omega
    · rename_i h
      have h : ¬ _ := fun z => h (decide_eq_true z)
      refine ⟨by omega, fun j hj => ?_⟩
      by_cases e : j = n + 1
      · rw [e]; omega
      · exact b j (by omega)
theorem bestIx_ok {ks : List Int} (h : 0 < ks.length) : ∃ k, ks[bestIx ks]? = some k ∧ ∀ y ∈ ks, k ≤ y := by
  obtain ⟨a, b⟩ := argBest_le ks (ks.length - 1)
  have lt : bestIx ks < ks.length := by
    have : bestIx ks ≤ ks.length - 1 := a
    omega
  refine ⟨ks[bestIx ks], List.getElem?_eq_getElem lt, fun y hy => ?_⟩
  obtain ⟨j, hj⟩ := List.getElem?_of_mem hy
  have jl := (List.getElem?_eq_some_iff.mp hj).1
  have := b j (by omega)
  have e1 : ks.getD (bestIx ks) 0 = ks[bestIx ks] := by rw [List.getD_eq_getElem?_getD, List.getElem?_eq_getElem lt]; rfl
  have e2 : ks.getD j 0 = y := by rw [List.getD_eq_getElem?_getD, hj]; rfl
  rw [e2] at this
  rw [← e1]
  exact this
end CK

/-! CK: a list of a dict's values. -/
namespace CK
open PySem L2 PyProof.Rows
def tLV (te : TE) : TE := fun σ H Q => te σ H fun x H1 => ∃ (d : Addr) (kvs : List (Key × V)), x = .ref d ∧ H1 d = some (.dK kvs) ∧ ∀ p, H1 p = none → Q (.ref p) (upd H1 p (.lst (kvs.map Prod.snd)))
theorem vals_snd : ∀ {kvs : List (Key × V)} {vs : List (Key × Value)}, KV kvs vs → Vals (kvs.map Prod.snd) (vs.map fun x => x.2)
  | _, _, .nil => .nil
  | _, _, .cons a b => .cons a.2 (vals_snd b)
section
variable {X : Cx} {e : Expr} {te : TE} {apos cpos p q : Pos}
theorem pe_lv (hcalm : X.calm = true) (h1 : PE X e te) (h2 : Gl X "list") (h3 : X.mg "list" = none) (h4 : bootBuiltins "list" = some (.type "list")) (h5 : attributeBase e "values" X.env (eval e X.env) = eval e X.env := by rfl) (h6 : (apos.endLine == cpos.line) = true := by rfl)
    (h7 : starEach [.Call (.Attribute e "values" apos) [] [] cpos] X.env = (false, eval (.Call (.Attribute e "values" apos) [] [] cpos) X.env) :: starEach [] X.env := by rfl) : PE X (.Call (.Name "list" p) [.Call (.Attribute e "values" apos) [] [] cpos] [] q) (tLV te) := ⟨fun pins s σ H Q I w => by
  refine wpAny_Call_Name_kw (ld_blt I h2 h3 h4 (callWith_type1 ?_ h7 rfl))
  rw [h7]
  show wpAny _ _ (spliced ((false, eval (.Call (.Attribute e "values" apos) [] [] cpos) X.env) :: backTo q (starEach [] X.env))) _ _ s
  refine Calls.spliced_cons (wpAny_Call_method (T := "dict") (id := "dict.values") h5 rfl h6 F.plainAttrs_dict F.slot_dict_values F.type_dict_values (thn (h1.run pins s σ H _ I w) fun u s1 ⟨x, H1, J, rx, d, kvs, ex, hd, k⟩ => ?_))
  subst ex
  obtain rfl : u = Value.ref d := rx
  obtain ⟨lim, nsys, vs, kv, od⟩ := J.hok d _ hd
  obtain ⟨ep, dat⟩ := od.dictAt
  have el : kvs.length = vs.length := kv.length
  have J2 : Inv X pins σ H1 { s1 with heap := s1.heap.push { cls := .type "dict_values", data := .fields #[.ref d] } } := J.kept (t' := s1.toks) fun b o e => Heap.get?_push_of_some _ e
  refine ⟨od.typeIs, od.mapOf.noDict, ?_⟩
  show wpAny _ _ (callWith cpos (.builtin "dict.values") [.ref d] [] []) _ X.xe s1
  refine method_meetsIn F.slot_dict_values F.entry_dict_values rfl (PySem.evalArgs_none ⟨rfl, od.typeIs, F.args_dict_values_1 _, _, meets_dict_values (mixKind X.prog X.w) d nsys, ⟨vs, od⟩, Calls.spliced_nil ?_⟩)
  refine PySem.W.kdl_call (PySem.W.kdl_values (knd := mixKind X.prog X.w) (r := s1.heap.objs.size) (d := d) (kvs := vs) (ep := ep)) (J.ok.hd hcalm) ⟨⟨_, Heap.get?_push_size _ rfl, rfl, rfl⟩, dat.push _⟩ (by omega) fun h' tk acc c' hk hD hacc => ?_
  have ea : acc.toList = vs.map fun x => x.2 := PySem.W.kdl_vals_eq _ (by rw [Array.length_toList]; exact hacc.1) fun j v ej => hacc.2 j v (by rw [← Array.getElem?_toList]; exact ej)
  refine ⟨.ref _, _, J2.laid (t' := tk) hk (Nat.le_refl _) (show ObjOk X.prog X.w _ _ _ (.lst (kvs.map Prod.snd)) from ⟨by rw [List.length_map]; omega, acc.toList, c', by rw [ea]; exact vals_snd kv, by rw [Array.toArray_toList]; exact hD⟩), rfl, k _ (J2.hok.fresh (Nat.le_refl _))⟩⟩
end
end CK

/-! CK: an own exception's __init__ that calls its own base's __init__, which is ValueError's. -/
namespace CK
open PySem L2 PyProof.Rows
section
variable {X : Cx} {e : Expr} {es : List Expr} {ta : TA} {x : Str} {CS : Addr} {mc : Value} {p1 p2 pos : Pos} {pl : Sem Bool}
/-- B.__init__(self, ..), B an own class that has ValueError's -/
theorem pe_baseInit (h1 : Gl X x) (h2 : X.mg x = some (.ref CS)) (h3 : PySem.W.specialIn X.K (.ref CS) "__getattribute__" = some (some (.builtin "type.__getattribute__"))) (h4 : PySem.W.readsIn X.K CS mc = true) (h5 : PySem.W.findCls X.K (.ref CS) mc "__init__" = some (.val (.builtin "ValueError.__init__"))) (h6 : PA X (e :: es) ta)
    (h7 : eval (.Call (.Attribute (.Name x p1) "__init__" p2) (e :: es) [] pos) X.env = (do
      let ov ← eval (.Name x p1) X.env
      standAt p2.atName
      let (f, first) ← holding [ov] (getMethod ov "__init__" pl)
      callWith pos f first (backTo pos (starEach (e :: es) X.env)) (backToKw pos (keywordEach [] X.env))) := by rfl)
    (h8 : (x == ("__debug__" : Str)) = false := by decide) (h9 : starEach (e :: es) X.env = (false, eval e X.env) :: starEach es X.env := by rfl) (h10 : (backTo pos (starEach es X.env)).any (·.1) = false := by rfl) :
    PE X (.Call (.Attribute (.Name x p1) "__init__" p2) (e :: es) [] pos) (tVeI X.K ta) := ⟨fun pins s σ H Q I w => by
  refine PySem.W.methodCall_KW (ld_glob I h1 h2 ?_ h8) h7
  refine PySem.W.method_cls I.kIn h3 (PySem.W.cls_value I.kIn h4 h5 rfl ?_)
  show wpAny _ _ (callWith pos (Value.builtin "ValueError.__init__") [] (backTo pos (starEach (e :: es) X.env)) []) _ _ _
  refine PyProof.Rows.callWith_method1 (thn (h6.run pos pins _ σ H _ (I.tok _) w) fun us s1 ⟨vs, H1, J, r, a, C, ws, ev, hl, T, ea, q⟩ => ?_) h9 h10
  subst ev
  cases r with
  | @cons _ u _ ur ra rs =>
    obtain rfl : u = Value.ref a := ra
    exact oinit_ok T J ea (by rw [← Paired.length rs, sizeLine_eq]; omega) fun s' J' => ⟨.non, H1, J', rfl, q⟩⟩
end
end CK

/-! CK: objects that are tracked exactly (cells that lambdas hold); taken out of the abstract heap for a run, and put in. -/
namespace CK
open PySem L2 PyProof.Rows LamX NdefX
/-- at c just this object -/
def XO (o : Obj) (c : Addr) : HO := .ext fun h => h.get? c = some o
/-- without those at cs -/
def ctH (cs : List Addr) (H : Hp) : Hp := fun b => if b ∈ cs then none else H b
/-- with those at cs as H0 has them -/
def rsH (cs : List Addr) (H0 H : Hp) : Hp := fun b => if b ∈ cs then H0 b else H b
section
variable {P : Program} {w : World} {H H0 H' : Hp} {h h' : Heap} {cs : List Addr}
theorem ctH_in {b : Addr} (m : b ∈ cs) : ctH cs H b = none := if_pos m
theorem ctH_out {b : Addr} (m : b ∉ cs) : ctH cs H b = H b := if_neg m
theorem rsH_in {b : Addr} (m : b ∈ cs) : rsH cs H0 H b = H0 b := if_pos m
theorem rsH_out {b : Addr} (m : b ∉ cs) : rsH cs H0 H b = H b := if_neg m
def Exact (cs : List Addr) (H : Hp) : Prop := ∀ c ∈ cs, ∃ o, H c = some (XO o c)
theorem xo_own {o : Obj} {c a : Addr} : XO o c ≠ .own a := fun z => by cases z
theorem xo_tup {o : Obj} {c : Addr} {xs : List V} : XO o c ≠ .tup xs := fun z => by cases z
theorem xo_ok {o : Obj} {c : Addr} (e : h.get? c = some o) : ObjOk P w H h c (XO o c) := ⟨e, ⟨o, e⟩, fun h1 h2 a b => b _ a⟩
theorem xo_at {o : Obj} {c : Addr} (x : HOk P w H h) (e : H c = some (XO o c)) : h.get? c = some o := (x c _ e).1
theorem hok_cut (x : HOk P w H h) (ex : Exact cs H) : HOk P w (ctH cs H) h := fun b u e => by
  by_cases m : b ∈ cs
  · rw [ctH_in m] at e; cases e
  · rw [ctH_out m] at e
    have out : ∀ y v, H y = some v → (∀ o, v ≠ XO o y) → ctH cs H y = some v := fun y v q n => by
      rw [ctH_out fun z => ?_]; exact q
      obtain ⟨o, q2⟩ := ex y z
      rw [q] at q2
      exact n o (Option.some.inj q2)
    exact (x b u e).stay (fun d v _ q => q) (fun d q => out d _ q fun o z => xo_own z.symm) fun d xs q => out d _ q fun o z => xo_tup z.symm
theorem hok_res (x : HOk P w H' h') (n : ∀ c ∈ cs, H' c = none) (e0 : ∀ c ∈ cs, ∃ o, H0 c = some (XO o c) ∧ h'.get? c = some o) : HOk P w (rsH cs H0 H') h' := fun b u e => by
  by_cases m : b ∈ cs
  · rw [rsH_in m] at e
    obtain ⟨o, q, g⟩ := e0 b m
    rw [q] at e
    cases e
    exact xo_ok g
  · rw [rsH_out m] at e
    have out : ∀ y v, H' y = some v → rsH cs H0 H' y = some v := fun y v q => by
      rw [rsH_out fun z => ?_]; exact q
      rw [n y z] at q; cases q
    exact (x b u e).stay (fun d v _ q => q) (fun d q => out d _ q) fun d xs q => out d _ q
end
/-- what is asked behind a run without the cells: they are not told there -/
def bkQ (cs : List Addr) (H : Hp) (Q : VK) : VK := fun v H' => (∀ c ∈ cs, H' c = none) → Q v (rsH cs H H')
def bkE (cs : List Addr) (H : Hp) (E : XK) : XK := fun c d H' => (∀ c ∈ cs, H' c = none) → E c d (rsH cs H H')
section
variable {P : Program} {w : World} {K : PySem.W.Frag} {mg : Str → Option Value} {base : Heap} {A : Around} {outer : List Env} {s s' : Shared} {H : Hp} {cs : List Addr}
theorem env_cut (e : Env0 P w K mg base A outer s H) (ex : Exact cs H) : Env0 P w K mg base A outer s (ctH cs H) :=
  ⟨e.frames, e.mod, fun b o q => ⟨(e.bs b o q).1, by unfold ctH; split; rfl; exact (e.bs b o q).2⟩, e.bsz, e.funs, fun b q => by unfold ctH; split; rfl; exact e.frf b q, hok_cut e.hok ex, e.bare⟩
/-- a run without the cells is one with them -/
theorem cr_cut {Q : VK} {E : XK} {r : Result} (e : Env0 P w K mg base A outer s H) (ex : Exact cs H) (h : CR (L2N.CX P w) outer P w (ctH cs H) s (bkQ cs H Q) (bkE cs H E) r s') : CR (L2N.CX P w) outer P w H s Q E r s' := by
  have there : ∀ c ∈ cs, ∃ o, H c = some (XO o c) ∧ s.heap.get? c = some o ∧ c ∉ frs outer := fun c m => by
    obtain ⟨o, q⟩ := ex c m
    refine ⟨o, q, xo_at e.hok q, fun z => ?_⟩
    rw [e.frf c z] at q
    cases q
  have out : ∀ b v, H b = some v → (∀ o, v ≠ XO o b) → b ∉ cs := fun b v q n z => by
    obtain ⟨o, q2⟩ := ex b z
    rw [q] at q2
    exact n o (Option.some.inj q2)
  have no : ∀ b, H b = none → b ∉ cs := fun b q z => by
    obtain ⟨o, q2⟩ := ex b z
    rw [q] at q2; cases q2
  cases r with
  | ok fl =>
    cases fl with
    | ret u =>
      obtain ⟨v, H', os, bare, un, hok, rv, q⟩ := h
      have nn : ∀ c ∈ cs, H' c = none := fun c m => by
        obtain ⟨o, _, g, _⟩ := there c m
        exact un.free c o g (ctH_in m) (by simp)
      refine ⟨v, rsH cs H H', os, bare, ⟨fun b o g n nf ne => un.keep b o g (by rw [ctH_out (no b n)]; exact n) nf ne, fun b o g n nf ne => un.slot b o g (by rw [ctH_out (no b n)]; exact n) nf ne, fun b o g n ne => by rw [rsH_out (no b n)]; exact un.free b o g (by rw [ctH_out (no b n)]; exact n) ne, un.there, fun b xs q => ?_, fun b o u q => ?_, fun b ps q => ?_⟩, hok_res hok nn fun c m => ?_, rv, q nn⟩
      · have m := out b _ q fun o z => xo_tup z.symm
        rw [rsH_out m]; exact un.tups b xs (by rw [ctH_out m]; exact q)
      · have m := out b _ q fun o z => by cases z
        rw [rsH_out m]; exact un.frzs b o u (by rw [ctH_out m]; exact q)
      · have m := out b _ q fun o z => by cases z
        rw [rsH_out m]; exact un.tbls b ps (by rw [ctH_out m]; exact q)
      · obtain ⟨o, q, g, nf⟩ := there c m
        exact ⟨o, q, un.keep c o g (ctH_in m) nf (by simp)⟩
    | next => exact h
    | brk => exact h
    | cont => exact h
  | error er =>
    obtain ⟨a, B, H', cls, d, eu, fl, hok, ub, na, os, bare, q⟩ := h
    have nn : ∀ c ∈ cs, H' c = none := fun c m => by
      obtain ⟨o, _, g, _⟩ := there c m
      exact ub.free c o g (ctH_in m)
    have kb : ∀ c ∈ cs, ∃ o, H c = some (XO o c) ∧ B.get? c = some o := fun c m => by
      obtain ⟨o, q, g, nf⟩ := there c m
      exact ⟨o, q, ub.keep c o g (ctH_in m) nf⟩
    refine ⟨a, B, rsH cs H H', cls, d, eu, fl, hok_res hok nn kb, ⟨fun b o g n nf => ub.keep b o g (by rw [ctH_out (no b n)]; exact n) nf, ub.slot, fun b o g n => by rw [rsH_out (no b n)]; exact ub.free b o g (by rw [ctH_out (no b n)]; exact n), ub.there, fun b xs q => ?_, fun b o u q => ?_, fun b ps q => ?_⟩, ?_, os, bare, q nn⟩
    · have m := out b _ q fun o z => xo_tup z.symm
      rw [rsH_out m]; exact ub.tups b xs (by rw [ctH_out m]; exact q)
    · have m := out b _ q fun o z => by cases z
      rw [rsH_out m]; exact ub.frzs b o u (by rw [ctH_out m]; exact q)
    · have m := out b _ q fun o z => by cases z
      rw [rsH_out m]; exact ub.tbls b ps (by rw [ctH_out m]; exact q)
    · by_cases m : a ∈ cs
      · obtain ⟨o, _, g⟩ := kb a m
        have : B.get? a = none := fl.2.1
        rw [g] at this; cases this
      · rw [rsH_out m]; exact na
end
/-- what a lambda has captured, tracked -/
structure Cap (H : Hp) (cl : List (Str × Addr)) (fr : List Str) (ws : List (Option V)) : Prop where
  len : ws.length = fr.length
  all : ∀ y c, cl.lookup y = some c → ∃ o v, H c = some (XO o c) ∧ o.data = .cell v
  inj : ∀ x y c, cl.lookup x = some c → cl.lookup y = some c → x = y
  has : ∀ (i : Nat) (y : Str), fr[i]? = some y → ∃ c o, cl.lookup y = some c ∧ H c = some (XO o c) ∧ ∀ v, ws[i]? = some (some v) → ∃ u, RelV v u ∧ o.data = .cell (some u)
def capC (cl : List (Str × Addr)) : List Addr := cl.filterMap fun p => if cl.lookup p.1 = some p.2 then some p.2 else none
theorem capC_mem {cl : List (Str × Addr)} {c : Addr} : c ∈ capC cl ↔ ∃ y, cl.lookup y = some c := by
  unfold capC
  rw [List.mem_filterMap]
  constructor
  · rintro ⟨p, _, e⟩
    split at e
    · rename_i q; cases e; exact ⟨_, q⟩
    · cases e
  · rintro ⟨y, e⟩
    exact ⟨(y, c), PySem.mem_of_lookup e, by rw [if_pos (show cl.lookup (y, c).1 = some (y, c).2 from e)]⟩
theorem Cap.exact {H : Hp} {cl : List (Str × Addr)} {fr : List Str} {ws : List (Option V)} (C : Cap H cl fr ws) : Exact (capC cl) H := fun c m => by
  obtain ⟨y, e⟩ := capC_mem.mp m
  obtain ⟨o, v, q, _⟩ := C.all y c e
  exact ⟨o, q⟩
theorem Cap.cells {P : Program} {w : World} {H : Hp} {h : Heap} {cl : List (Str × Addr)} {fr : List Str} {ws : List (Option V)} (C : Cap H cl fr ws) (x : HOk P w H h) : CellsAt cl fr ws h (ctH (capC cl) H) := by
  refine ⟨C.len, fun y c e => ⟨ctH_in (capC_mem.mpr ⟨y, e⟩), ?_⟩, C.inj, fun i y e => ?_⟩
  · obtain ⟨o, v, q, d⟩ := C.all y c e
    exact ⟨v, o, xo_at x q, d⟩
  · obtain ⟨c, o, e1, q, hv⟩ := C.has i y e
    refine ⟨c, e1, fun v hw => ?_⟩
    obtain ⟨u, ru, d⟩ := hv v hw
    exact ⟨u, ru, o, xo_at x q, d⟩
/-- a known lambda called whose cells are tracked -/
theorem lam_callC {P : Program} {w : World} {K : PySem.W.Frag} {mg : Str → Option Value} {base : Heap} {N ps fr : List Str} {F : LF} {f : Addr} {A : Around} {outer : List Env} {s : Shared} {H : Hp} {E : XK} {us : List Value} {vs : List V} {ws : List (Option V)} {k : Nat} {tb : TE} {Q : VK}
    (S : NScope N ps fr F.scope) (hr : Room (k + 1) A) (e0 : Env0 P w K mg base A outer s H) (hf : H f = some (LamO f F)) (hc : H F.c = some (CodeO F.c F.qual)) (hbind : ∀ pm ctv, bindArgs (PySem.W.kla_fn "<lambda>" F.qual F.params F.body F.scope F.cl pm (.ref F.c) ctv) ⟨us, []⟩ = pure (ps.zip us))
    (r : Vals vs us) (hl : vs.length = ps.length) (C : Cap H F.cl fr ws) (nf : f ∉ capC F.cl) (nc : F.c ∉ capC F.cl)
    (hbody : PE (ncx (L2N.CX P w) P w K mg base N F.nf f A outer s (ctH (capC F.cl) H) (bkE (capC F.cl) H E)) F.body tb) (h : tb (startF N vs ws) (ctH (capC F.cl) H) (bkQ (capC F.cl) H Q)) :
    codeAny (model P w) A (.call (.ref f) ⟨us, []⟩) (CR (L2N.CX P w) outer P w H s Q E) s := by
  have e1 := env_cut e0 C.exact
  exact codeAny_mono (lam_call (CX := L2N.CX P w) (E := bkE (capC F.cl) H E) S hr e1 (by rw [ctH_out nf]; exact hf) (by rw [ctH_out nc]; exact hc) hbind r hl (C.cells e0.hok) hbody h) fun r s' q => cr_cut e0 C.exact q
end CK

/-! CK: a list comprehension whose test never holds; the test may be judged by what the maker's frame holds when the block starts. -/
namespace CK
open PySem L2 PyProof.Rows
def tNo (wi : TI) (g : TG) (tt : TT) (vs : List Nat) : TE := fun σ H Q => wi σ H fun J H1 => ∀ L, H1 L = none → ∃ V : Nat → Nat → Hp → Prop, (∃ m, V 0 m (upd H1 L (.lst []))) ∧ ∀ k m G, V k m G →
  (J.stop k G ∧ Q (.ref L) G) ∨ (J.go k G ∧ ∀ x G1, J.yld k G x G1 → g x (wipe σ vs) G1 fun τ G2 => wipe τ vs = wipe σ vs ∧ tt τ G2 fun b G3 => b = false ∧ ∃ m', m' < m ∧ V (k + 1) m' G3)
theorem pe_lcNo {X : Cx} {elt tg iter : Expr} {ifs : List Expr} {scope : Scope} {own : List (Str × Nat)} {pos : Pos} {wi : TI} {g : TG} {tt : TT} (calm : X.calm = true) (nd : X.N.Nodup) (pit : PI X tg iter wi) (bok : BlkOk X.N X.env.scope scope own)
    (pgo : ∀ (s : Shared) (H : Hp) (C : Addr) (cl : List (Str × Addr)) (fp : List Addr), PG (X.blk s H scope (compEnvC scope cl C X.env) fp) tg g)
    (pte : ∀ (pins : List (Addr × Obj)) (σ : L2.St) (s : Shared) (H : Hp) (C : Addr) (cl : List (Str × Addr)) (fp : List Addr), Inv X pins σ H s → (∀ b ∈ fp, FpOk X pins H b) → ∀ (s' : Shared) (H' : Hp) (σ' : L2.St) (pins' : List (Addr × Obj)) (R : Bool → Hp → Prop), wipe σ' (own.map (·.2)) = wipe σ (own.map (·.2)) → Inv (X.blk s H scope (compEnvC scope cl C X.env) fp) pins' σ' H' s' → tt σ' H' R →
      wpAny (model X.prog X.w) X.A (forIn ifs true fun c r => if r = true then do let ok ← isTrue c (compEnvC scope cl C X.env) (eval c (compEnvC scope cl C X.env)); pure (ForInStep.yield ok) else pure (ForInStep.yield r)) (TP (X.blk s H scope (compEnvC scope cl C X.env) fp) pins' σ' R) (fun _ _ => False) s')
    (fold : ∀ x, foldedSetIterable iter X.env x = pure x := by intro _; rfl) :
    PE X (.ListComp elt [⟨tg, iter, ifs, 0⟩] scope pos) (tNo wi g tt (own.map (·.2))) := ⟨fun pins s σ H Q inv want => by
  rw [eval_ListComp]
  have caps : ∀ y ∈ scope.names, y.2 = .free → ∃ c, X.env.cells.lookup y.1 = some c := fun y hy e => (bok.free y hy e).elim (fun k => inv.ok.has _ (.inl k)) fun k => inv.ok.has _ (.inr k)
  refine wpAny_comprehension_free rfl fold (closure_ok caps) bok.kind (fun y hy e => by rw [bok.uniq y hy, e]) (thn (pit.run pins s σ H _ inv want) fun xv sa ha => thn ha fun iv sb hb => ?_)
  obtain ⟨it, fp, tn, J, Hb, rfl, invb, turn, tn0, fpb, want⟩ := hb
  refine wpAny_newObj_type (newEnv_comp ?_) (by show 0 ≤ sizeLine; decide)
  have fresh : Hb sb.heap.objs.size = none := invb.hok.fresh (Nat.le_refl _)
  obtain ⟨V, ⟨m0, v0⟩, steps⟩ := want _ fresh
  -- the new list is there
  have invc : Inv X pins σ (upd Hb sb.heap.objs.size (.lst [])) { sb with heap := sb.heap.push { cls := .type "list", data := .seq ([] : List Value).toArray } } :=
    invb.laid (t' := sb.toks) (fun b o e => Heap.get?_push_of_some _ e) (Nat.le_refl _) ⟨Nat.zero_le _, [], 0, .nil, Heap.get?_push_size _ rfl⟩
  have below : ∀ b ∈ fp, b < sb.heap.objs.size := fun b hb => by obtain ⟨o, e, _⟩ := turn.obj _ _ tn0 b hb; exact Heap.lt_size e
  generalize hL : sb.heap.objs.size = L at *
  generalize hsc : ({ sb with heap := sb.heap.push { cls := .type "list", data := .seq ([] : List Value).toArray } } : Shared) = sc at *
  have szc : sc.heap.objs.size = L + 1 := by rw [← hsc, ← hL]; exact Heap.size_push _ _
  have fpc : ∀ b ∈ fp, FpOk X pins (upd Hb L (.lst [])) b ∧ b < sc.heap.objs.size := fun b hb => ⟨⟨by rw [upd_ne (Nat.ne_of_lt (below b hb))]; exact (fpb b hb).1, (fpb b hb).2⟩, by rw [szc]; exact Nat.lt_succ_of_lt (below b hb)⟩
  have tnc : tn 0 sc.heap := turn.keep _ _ _ tn0 fun b _ o e => by rw [← hsc]; exact Heap.get?_push_of_some _ e
  generalize hHc : upd Hb L (.lst []) = Hc at *
  have start := block_start invc bok nd fpc
  have back : ∀ {τ : L2.St} {G : Hp} {t : Shared} {ce : Env}, ce = compEnvC scope (cellsFrom (sc.heap.objs.size + 1) scope.names (cloFrom X.env.cells scope.names [])) sc.heap.objs.size X.env → Inv (X.blk sc Hc scope ce fp) [] τ G t → Inv X pins σ G t ∧ G sc.heap.objs.size = none ∧ ∃ m, t.heap.Ns sc.heap.objs.size m := fun {τ G t ce} ece J' => by
    have el : ce.locals = sc.heap.objs.size := by rw [ece]; rfl
    refine ⟨invc.call' (ch := fp) J'.os J'.base J'.hok J'.bare fun b hb => ⟨(fpc b hb).1.2.2.2.1, (fpc b hb).1.2.1, (fpc b hb).1.2.2.2.2.1, (fpc b hb).1.2.2.2.2.2⟩, ?_, ?_⟩
    · have z : G ce.locals = none := J'.free
      rw [el] at z; exact z
    · obtain ⟨m, q, _⟩ := J'.loc
      have q : t.heap.Ns ce.locals m := q
      rw [el] at q; exact ⟨m, q⟩
  have pg := pgo sc Hc sc.heap.objs.size (cellsFrom (sc.heap.objs.size + 1) scope.names (cloFrom X.env.cells scope.names [])) fp
  have pt := pte pins σ sc Hc sc.heap.objs.size (cellsFrom (sc.heap.objs.size + 1) scope.names (cloFrom X.env.cells scope.names [])) fp invc (fun b hb => (fpc b hb).1)
  show codeAny _ _ (.compStart (.ListComp elt [⟨tg, iter, ifs, 0⟩] scope pos) 0 (.ref it) (.ref L) (compEnvC scope (cellsFrom (sc.heap.objs.size + 1) scope.names (cloFrom X.env.cells scope.names [])) sc.heap.objs.size X.env)) (compPost (model X.prog X.w) X.A X.xe none _ (.ref L) sc.heap.objs.size) { sc with heap := pushCells (sc.heap.push { cls := .type "dict", data := .dict #[] }) scope.names }
  generalize hce : compEnvC scope (cellsFrom (sc.heap.objs.size + 1) scope.names (cloFrom X.env.cells scope.names [])) sc.heap.objs.size X.env = ce at *
  generalize hsd : ({ sc with heap := pushCells (sc.heap.push { cls := .type "dict", data := .dict #[] }) scope.names } : Shared) = sd at *
  have tnd : tn 0 sd.heap := turn.keep _ _ _ tnc fun b _ o e => by rw [← hsd]; exact pushCells_keeps _ _ _ _ (Heap.get?_push_of_some _ e)
  have own' : ∀ {τ : L2.St} {G : Hp} {t : Shared}, Inv (X.blk sc Hc scope ce fp) [] τ G t → (∀ b ∈ fp, G b = none) → ∀ b ∈ fp, FpOk (X.blk sc Hc scope ce fp) [] G b := fun {τ G t} J' n b hb =>
    ⟨n b hb, (J'.ok.exf b hb).1, J'.ok.exfs b hb, .inl hb, fun x c e => (J'.ok.exf b hb).2 x c e, fun p hp => absurd (show p ∈ ([] : List (Addr × Obj)) ++ [] from hp) (by simp)⟩
  have round : codeAny (model X.prog X.w) X.A (.compLoop (.ListComp elt [⟨tg, iter, ifs, 0⟩] scope pos) 0 (.ref it) (.ref L) ce) (compPost (model X.prog X.w) X.A X.xe none (EP X pins σ Q) (.ref L) sc.heap.objs.size) sd := by
    refine compLoop_any (fun n t => ∃ k G, Inv (X.blk sc Hc scope ce fp) [] (wipe σ (own.map (·.2))) G t ∧ tn k t.heap ∧ (∀ b ∈ fp, G b = none) ∧ V k n G) ?_ m0 ⟨0, Hc, start, tnd, fun b hb => (fpc b hb).1.1, v0⟩
    rintro n t ⟨k, G, J1, tk, free, v⟩
    rcases steps k n G v with ⟨stop, fin⟩ | ⟨go, next⟩
    · refine thnF (turn.done (X.blk sc Hc scope ce fp) rfl rfl rfl calm k [] t _ G (fun _ _ => False) J1 (own' J1 free) tk stop) fun r t1 ⟨er, J2⟩ => ?_
      subst er
      obtain ⟨inv2, nC, m, hm⟩ := back rfl J2
      refine ⟨m, hm, fun h'' sb'' => ?_⟩
      obtain ⟨f0, f1, f2, f3, f4, f5⟩ := invc.fpOk (H' := G) (Nat.le_refl _) nC
      exact ⟨.ref L, G, inv2.turned (t' := t1.toks) (fun b o hb e => (sb''.2 b hb).trans e) f0 f1 f3 f4 f5, rfl, fin⟩
    · refine thnF (turn.item (X.blk sc Hc scope ce fp) rfl rfl rfl calm k [] t _ G (fun _ _ => False) J1 (own' J1 free) tk go) fun r t1 ⟨u, er, h1⟩ => ?_
      subst er
      refine thnF h1 fun _ t2 ⟨x, G2, J2, rx, yx, tk2, free2⟩ => ?_
      have J3 := J2.pinned (own' J2 free2) (turn.obj _ _ tk2)
      refine thnF (pg.run _ t2 _ G2 x u _ J3 rx (next x G2 yx)) fun _ t3 ⟨τ, G3, J4, ew, q⟩ => ?_
      refine thnF (pt t3 G3 τ _ _ ew J4 q) fun b t4 ⟨G4, J5, eb, m', lt, v'⟩ => ?_
      subst eb
      simp only [Bool.false_eq_true, if_false]
      have pinned : ∀ b ∈ fp, ∀ o, t2.heap.get? b = some o → t4.heap.get? b = some o ∧ G4 b = none := fun b hb o e =>
        let z := J5.pin (b, o) (List.mem_append_right _ (List.mem_append_right _ (mem_pinsAt hb e)))
        ⟨z.1, z.2.1⟩
      refine ⟨m', lt, k + 1, G4, (J5.unpinned (pins := [])).weak (by rw [← ew, wipe_length]) (fun j w e => by rw [← ew] at e; exact (wipe_some e).1), turn.keep _ _ _ tk2 fun b hb o e => (pinned b hb o e).1, fun b hb => ?_, v'⟩
      obtain ⟨o, e, _⟩ := turn.obj _ _ tk2 b hb
      exact (pinned b hb o e).2
  exact codeAny_compStart_list round (turn.self X.A 0 _ _ _ tnd round)⟩
end CK

/-! CK: a call to which the maker's own cells are told. -/
namespace CK
open PySem L2 PyProof.Rows
/-- what is known of a cell of the maker's -/
structure OwnCell (Z : Cx) (H : Hp) (s : Shared) (c : Addr) : Prop where
  at' : ∃ o v, s.heap.get? c = some o ∧ o.data = .cell v
  no : H c = none
  fr : c ∉ frs Z.stack
  ba : Z.base.get? c = none
section
variable {X : Cx} {pins : List (Addr × Obj)} {σ : L2.St} {H : Hp} {s : Shared}
theorem own_cell (I : Inv X pins σ H s) (hf : ∀ x c, X.env.cells.lookup x = some c → X.fn x = true) {y : Str} {c : Addr} (e : X.env.cells.lookup y = some c) : OwnCell X H s c := by
  have lo := I.ok.cab y c (hf y c e) e
  obtain ⟨v, o, g, d⟩ := I.cell y c e
  refine ⟨⟨o, v, g, d⟩, I.freeC y c e, fun z => ?_, ?_⟩
  · rcases List.mem_cons.mp (I.stkSub _ z) with q | q
    · obtain ⟨m, ⟨o', es, ep, g', d', _⟩, _⟩ := I.loc
      rw [← q, g] at g'
      cases g'
      rw [d] at d'
      cases d'
    · obtain ⟨_, o', g', _⟩ := I.ok.funs.mem (show c ∈ X.outer.filterMap (·.frame) from q)
      exact Nat.lt_irrefl _ (Nat.lt_of_lt_of_le (Heap.lt_size g') lo)
  · cases q : X.base.get? c with
    | none => rfl
    | some o' => exact absurd (Nat.lt_of_lt_of_le (Heap.lt_size q) (Nat.le_trans I.ok.bsz lo)) (Nat.lt_irrefl _)
theorem blk_cell {scope : Scope} {ce : Env} {fp : List Addr} {pins' : List (Addr × Obj)} {σ' : L2.St} {H' : Hp} {s' : Shared} (I : Inv X pins σ H s) (hf : ∀ x c, X.env.cells.lookup x = some c → X.fn x = true) (hfp : ∀ b ∈ fp, FpOk X pins H b) (J : Inv (X.blk s H scope ce fp) pins' σ' H' s')
    {y : Str} {c : Addr} (e : X.env.cells.lookup y = some c) : OwnCell (X.blk s H scope ce fp) H' s' c ∧ ∀ o, s.heap.get? c = some o → s'.heap.get? c = some o := by
  have O := own_cell I hf e
  obtain ⟨o, v, g, d⟩ := O.at'
  have nfp : c ∉ fp := fun z => (hfp c z).2.2.2.2.1 y c e rfl
  have kp : ∀ o, s.heap.get? c = some o → s'.heap.get? c = some o := fun o g => J.base.keep c o g O.no O.fr nfp
  exact ⟨⟨⟨o, v, kp o g, d⟩, J.base.free c o g O.no nfp, O.fr, O.ba⟩, kp⟩
end
/-- the heap with the cells told -/
def plusH (h : Heap) (cs : List Addr) (H : Hp) : Hp := fun b => if b ∈ cs then (h.get? b).map fun o => XO o b else H b
section
variable {P : Program} {w : World} {K : PySem.W.Frag} {mg : Str → Option Value} {base : Heap} {A : Around} {outer : List Env} {s s' : Shared} {H : Hp} {cs : List Addr}
theorem plus_in {b : Addr} {o : Obj} {h : Heap} (m : b ∈ cs) (g : h.get? b = some o) : plusH h cs H b = some (XO o b) := by
  unfold plusH
  rw [if_pos m, g]; rfl
theorem plus_out {b : Addr} {h : Heap} (m : b ∉ cs) : plusH h cs H b = H b := if_neg m
theorem env_plus (e : Env0 P w K mg base A outer s H) (hc : ∀ c ∈ cs, H c = none ∧ (∃ o, s.heap.get? c = some o) ∧ base.get? c = none ∧ c ∉ frs outer) : Env0 P w K mg base A outer s (plusH s.heap cs H) := by
  have out : ∀ y v, H y = some v → plusH s.heap cs H y = some v := fun y v q => by
    rw [plus_out fun z => ?_]; exact q
    rw [(hc y z).1] at q; cases q
  refine ⟨e.frames, e.mod, fun b o q => ⟨(e.bs b o q).1, ?_⟩, e.bsz, e.funs, fun b q => ?_, fun b u q => ?_, e.bare⟩
  · rw [plus_out fun z => by rw [(hc b z).2.2.1] at q; cases q]; exact (e.bs b o q).2
  · rw [plus_out fun z => (hc b z).2.2.2 q]; exact e.frf b q
  · by_cases m : b ∈ cs
    · obtain ⟨o, g⟩ := (hc b m).2.1
      rw [plus_in m g] at q
      cases q
      exact xo_ok g
    · rw [plus_out m] at q
      exact (e.hok b u q).stay (fun d v _ q => q) (fun d q => out d _ q) fun d xs q => out d _ q
theorem ce_plus {Q : VK} {u : Value} (e : Env0 P w K mg base A outer s H) (hc : ∀ c ∈ cs, H c = none ∧ (∃ o, s.heap.get? c = some o) ∧ base.get? c = none ∧ c ∉ frs outer) (h : L2.CE outer P w (plusH s.heap cs H) s (fun v H2 => (∀ c ∈ cs, H2 c = plusH s.heap cs H c) ∧ Q v (ctH cs H2)) u s') : L2.CE outer P w H s Q u s' := by
  obtain ⟨v, H2, os, bare, un, hok, rv, same, q⟩ := h
  have ex : Exact cs H2 := fun c m => by
    obtain ⟨o, g⟩ := (hc c m).2.1
    exact ⟨o, by rw [same c m, plus_in m g]⟩
  have no : ∀ b x, H b = some x → b ∉ cs := fun b x q z => by rw [(hc b z).1] at q; cases q
  refine ⟨v, ctH cs H2, os, bare, ⟨fun b o g n nf ne => ?_, fun b o g n nf ne => ?_, fun b o g n ne => ?_, un.there, fun b xs q => ?_, fun b o x q => ?_, fun b ps q => ?_⟩, hok_cut hok ex, rv, q⟩
  · by_cases m : b ∈ cs
    · have := same b m
      rw [plus_in m g] at this
      exact xo_at hok this
    · exact un.keep b o g (by rw [plus_out m]; exact n) nf ne
  · have m : b ∉ cs := fun m => (hc b m).2.2.2 nf
    exact un.slot b o g (by rw [plus_out m]; exact n) nf ne
  · by_cases m : b ∈ cs
    · exact ctH_in m
    · rw [ctH_out m]; exact un.free b o g (by rw [plus_out m]; exact n) ne
  · have m := no b _ q
    rw [ctH_out m]; exact un.tups b xs (by rw [plus_out m]; exact q)
  · have m := no b _ q
    rw [ctH_out m]; exact un.frzs b o x (by rw [plus_out m]; exact q)
  · have m := no b _ q
    obtain ⟨more, z⟩ := un.tbls b ps (by rw [plus_out m]; exact q)
    exact ⟨more, by rw [ctH_out m]; exact z⟩
end
/-- the cells, told as the frame's slots know them -/
structure Plus (X : Cx) (σ : L2.St) (H Hp' : Hp) : Prop where
  off : ∀ b, b ∉ capC X.env.cells → Hp' b = H b
  no : ∀ c ∈ capC X.env.cells, H c = none
  at' : ∀ y c, X.env.cells.lookup y = some c → ∃ o v, Hp' c = some (XO o c) ∧ o.data = .cell v
  inj : ∀ x y c, X.env.cells.lookup x = some c → X.env.cells.lookup y = some c → x = y
  has : ∀ y, X.env.scope.names.lookup y = some .cell ∨ X.env.scope.names.lookup y = some .free → ∃ c, X.env.cells.lookup y = some c
  val : ∀ (i : Nat) (y : Str) (v : V), X.N[i]? = some y → σ[i]? = some (some v) → (X.env.scope.names.lookup y = some .cell ∨ X.env.scope.names.lookup y = some .free) → ∃ c o u, X.env.cells.lookup y = some c ∧ Hp' c = some (XO o c) ∧ o.data = .cell (some u) ∧ RelV v u
section
variable {X : Cx} {pins : List (Addr × Obj)} {σ : L2.St} {H : Hp} {s : Shared}
theorem plus_of (I : Inv X pins σ H s) {H' : Hp} {s' : Shared} (hc : ∀ y c, X.env.cells.lookup y = some c → H' c = none ∧ ∀ o, s.heap.get? c = some o → s'.heap.get? c = some o) : Plus X σ H' (plusH s'.heap (capC X.env.cells) H') := by
  refine ⟨fun b m => plus_out m, fun c m => ?_, fun y c e => ?_, I.ok.inj, fun y h => I.ok.has y h, fun i y v e1 e2 e3 => ?_⟩
  · obtain ⟨y, e⟩ := capC_mem.mp m
    exact (hc y c e).1
  · obtain ⟨v, o, g, d⟩ := I.cell y c e
    exact ⟨o, v, plus_in (capC_mem.mpr ⟨y, e⟩) ((hc y c e).2 o g), d⟩
  · obtain ⟨m, _, hl⟩ := I.loc
    obtain ⟨u, ru, q⟩ := hl i y v e1 e2 (e3.elim (fun z => .inr (.inl z)) fun z => .inr (.inr z))
    rcases q with ⟨k, _⟩ | ⟨_, c, e, o, g, d⟩
    · have k : X.env.scope.names.lookup y = some .local := k
      rcases e3 with z | z <;> rw [k] at z <;> cases z
    · exact ⟨c, o, u, e, plus_in (capC_mem.mpr ⟨y, e⟩) ((hc y c e).2 o g), d, ru⟩
/-- a def called, the own cells told -/
def tOwnP (X : Cx) (sp : Sp) (ta : TA) : TE := fun σ H Q => ta σ H fun vs H1 => ∀ Hp', Plus X σ H1 Hp' → sp vs Hp' (fun v H2 => (∀ c ∈ capC X.env.cells, H2 c = Hp' c) ∧ Q v (ctH (capC X.env.cells) H2)) E0
theorem run_plus {Z : Cx} {pz : List (Addr × Obj)} {τ : L2.St} {G : Hp} {t : Shared} {cs : List Addr} {k : Nat} {f : Addr} {fd : FuncData} {ps : List Str} {sp : Sp} {us : List Value} {vs : List V} {Q : VK} {E : Value → Shared → Prop} (J : Inv Z pz τ G t) (hc : ∀ c ∈ cs, OwnCell Z G t c) (F : FnOk Z.prog Z.w Z.K Z.mg Z.base CX0 k f fd ps sp) (hr : Room k Z.A) (hb : Binds Z.K fd ps []) (r : Vals vs us)
    (h : sp vs (plusH t.heap cs G) (fun v H2 => (∀ c ∈ cs, H2 c = plusH t.heap cs G c) ∧ Q v (ctH cs H2)) E0) : wpAny (model Z.prog Z.w) Z.A (call (.ref f) us) (EP Z pz τ Q) E t := by
  have hc' : ∀ c ∈ cs, G c = none ∧ (∃ o, t.heap.get? c = some o) ∧ Z.base.get? c = none ∧ c ∉ frs Z.stack := fun c m => by
    obtain ⟨⟨o, v, g, d⟩, n, fr, ba⟩ := hc c m
    exact ⟨n, ⟨o, g⟩, ba, fr⟩
  have e1 := env_plus J.env0 hc'
  have hl : us.length = ps.length := by rw [← r.length]; exact F.len _ _ _ _ h
  have hbt := hb t us J.kIn (by simpa using hl)
  refine wpAny_call (codeAny_mono (F.run Z.A Z.stack t _ ⟨us, []⟩ us vs _ _ hr e1 (by simpa using hbt) r h) fun rr s' hq => ?_)
  cases rr with
  | error er => exact (show False from hq).elim
  | ok fl =>
    cases fl with
    | ret u => exact J.after (ce_plus J.env0 hc' hq)
    | next => exact False.elim hq
    | brk => exact False.elim hq
    | cont => exact False.elim hq
theorem pe_ownP {k : Nat} {x : Str} {p pos : Pos} {e : Expr} {es : List Expr} {ta : TA} {ps : List Str} {sp : Sp} (hf : ∀ x c, X.env.cells.lookup x = some c → X.fn x = true) (O : OwnS X.prog X.w X.K X.mg X.base k x ps sp) (hr : Room k X.A) (ha : PA X (e :: es) ta) (hg : Gl X x := by rfl)
    (hdb : (x == ("__debug__" : Str)) = false := by decide) (he : starEach (e :: es) X.env = (false, eval e X.env) :: starEach es X.env := by rfl) (hpl : (backTo pos (starEach es X.env)).any (·.1) = false := by rfl) : PE X (.Call (.Name x p) (e :: es) [] pos) (tOwnP X sp ta) := by
  obtain ⟨f, fd, F, hm, hk, hb⟩ := O.ex
  refine ⟨fun pins s σ H Q I h => ?_⟩
  refine wpAny_Call_Name_kw (ld_glob I hg hm ?_ hdb)
  refine PySem.W.callWith_K (h₀ := X.base) I.ok.mod.kin hk (thn (ha.run pos pins s σ H _ I h) fun us s1 ⟨vs, H1, I1, r, q⟩ => ⟨I1.kIn, ?_⟩) he hpl
  exact run_plus I1 (fun c m => by obtain ⟨y, e⟩ := capC_mem.mp m; exact own_cell I1 hf e) F hr hb r (q _ (plus_of I1 fun y c e => ⟨I1.freeC y c e, fun o g => g⟩))
end
end CK

/-! CK: a lambda known by what it does wherever it is called; its call by a local name, what it raises going on. -/
namespace CK
open PySem L2 PyProof.Rows LamX NdefX
/-- what a lambda without arguments does, wherever it is called -/
def Work (P : Program) (w : World) (K : PySem.W.Frag) (mg : Str → Option Value) (base : Heap) (k : Nat) (f : Addr) (H : Hp) (Q : VK) (E : XK) : Prop :=
  (∃ u, H f = some (.ext u) ∧ ∀ h, u h → PySem.W.FnAt f h) ∧ ∀ (A : Around) (outer : List Env) (s : Shared), Room k A → Env0 P w K mg base A outer s H → codeAny (model P w) A (.call (.ref f) ⟨[], []⟩) (CR (L2N.CX P w) outer P w H s Q E) s
section
variable {X : Cx} {W : WX} {k i : Nat} {a : Str} {p1 p2 : Pos}
/-- called by the name of a slot -/
def tWork (X : Cx) (k i : Nat) (W : WX) : TE := fun σ H Q => ∃ f, σ[i]? = some (some (.ref f)) ∧ Work X.prog X.w X.K X.mg X.base k f H Q fun c d H' => W c d σ H'
theorem pe_work (tk : L2N.Takes X W) (hr : Room k X.A) (hN : X.N[i]? = some a) (hv : Vis X.env.scope a) (hd : (a == ("__debug__" : Str)) = false := by decide) (hcd : (a == ("__classdict__" : Str)) = false := by decide) :
    PE X (.Call (.Name a p1) [] [] p2) (tWork X k i W) := by
  refine ⟨fun pins s σ H Q I h => ?_⟩
  obtain ⟨f, hs, ⟨F, hF, hu⟩, hw⟩ := h
  refine wpAny_Call_Name_kw (thn ((pe_var (pos := p1) (i := i) hN hv hd hcd).run pins s σ H (fun v H1 => v = .ref f ∧ H1 = H) I ⟨.ref f, hs, rfl, rfl⟩) fun u s1 ⟨v, H1, I1, r1, q1⟩ => ?_)
  obtain ⟨ev, eH⟩ := q1
  subst ev
  subst eH
  obtain rfl : u = Value.ref f := r1
  obtain ⟨ho, _, _⟩ := I1.hok f _ hF
  refine PySem.W.callWith_F0 (hu _ ho) ?_
  refine wpAny_call (codeAny_mono (hw X.A X.stack s1 hr I1.env0) fun r s' hq => ?_)
  cases r with
  | error e => exact tk e s' (L2N.XE.of_call I1 (fun cls d H' h => h) hq)
  | ok fl =>
    cases fl with
    | ret u => exact I1.after hq
    | next => exact False.elim hq
    | brk => exact False.elim hq
    | cont => exact False.elim hq
end
section
variable {P : Program} {w : World} {K : PySem.W.Frag} {mg : Str → Option Value} {base : Heap}
theorem work_lam {N fr : List Str} {F : LF} {f : Addr} {H : Hp} {E : XK} {ws : List (Option V)} {k : Nat} {tb : TE} {Q : VK}
    (S : NScope N [] fr F.scope) (hf : H f = some (LamO f F)) (hc : H F.c = some (CodeO F.c F.qual)) (hbind : ∀ pm ctv, bindArgs (PySem.W.kla_fn "<lambda>" F.qual F.params F.body F.scope F.cl pm (.ref F.c) ctv) ⟨[], []⟩ = pure [])
    (C : Cap H F.cl fr ws) (nf : f ∉ capC F.cl) (nc : F.c ∉ capC F.cl)
    (hbody : ∀ (A : Around) (outer : List Env) (s : Shared), Room k (A.deeper (envF F.nf f s.heap.objs.size)) → PE (ncx (L2N.CX P w) P w K mg base N F.nf f A outer s (ctH (capC F.cl) H) (bkE (capC F.cl) H E)) F.body tb) (h : tb (startF N [] ws) (ctH (capC F.cl) H) (bkQ (capC F.cl) H Q)) : Work P w K mg base (k + 1) f H Q E :=
  ⟨⟨_, hf, fun h ⟨pm, ctv, ho⟩ => ⟨_, _, _, _, ho⟩⟩, fun A outer s hr e0 => lam_callC (k := k) (us := []) (vs := []) (tb := tb) S hr e0 hf hc hbind .nil rfl C nf nc (hbody A outer s (hr.deeper _)) h⟩
end
end CK

/-! CK: the call of pe_ownP within a comprehension's block, and the comprehension whose tests are all refused. -/
namespace CK
open PySem L2 PyProof.Rows LamX NdefX
section
variable {X : Cx} {pins : List (Addr × Obj)} {σ : L2.St} {H : Hp} {s : Shared}
/-- the call in the block: the maker's cells are told -/
def tOwnB (X : Cx) (vs : List Nat) (σ : L2.St) (sp : Sp) (ta : TA) : TE := fun τ G Q => wipe τ vs = wipe σ vs ∧ tOwnP X sp ta τ G Q
theorem pe_ownB {scope : Scope} {ce : Env} {fp : List Addr} {own : List (Str × Nat)} {k : Nat} {x : Str} {p pos : Pos} {e : Expr} {es : List Expr} {ta : TA} {ps : List Str} {sp : Sp} (I : Inv X pins σ H s) (hf : ∀ x c, X.env.cells.lookup x = some c → X.fn x = true) (hfp : ∀ b ∈ fp, FpOk X pins H b)
    (ix : ∀ p ∈ own, X.N[p.2]? = some p.1) (hown : ∀ p ∈ own, ¬ (X.env.scope.names.lookup p.1 = some .cell ∨ X.env.scope.names.lookup p.1 = some .free)) (O : OwnS X.prog X.w X.K X.mg X.base k x ps sp) (hr : Room k X.A) (ha : PA (X.blk s H scope ce fp) (e :: es) ta) (hg : Gl (X.blk s H scope ce fp) x)
    (hdb : (x == ("__debug__" : Str)) = false) (he : starEach (e :: es) ce = (false, eval e ce) :: starEach es ce) (hpl : (backTo pos (starEach es ce)).any (·.1) = false) : PE (X.blk s H scope ce fp) (.Call (.Name x p) (e :: es) [] pos) (tOwnB X (own.map (·.2)) σ sp ta) := by
  obtain ⟨f, fd, F, hm, hk, hb⟩ := O.ex
  refine ⟨fun pz s' τ G Q J h => ?_⟩
  obtain ⟨ew, h⟩ := h
  refine wpAny_Call_Name_kw (ld_glob J hg hm ?_ hdb)
  refine PySem.W.callWith_K (h₀ := X.base) J.ok.mod.kin hk (thn (ha.run pos pz s' τ G _ J h) fun us s1 ⟨vs, G1, J1, r, q⟩ => ⟨J1.kIn, ?_⟩) he hpl
  refine run_plus J1 (fun c m => by obtain ⟨y, e⟩ := capC_mem.mp m; exact (blk_cell I hf hfp J1 e).1) F hr hb r (q _ ?_)
  have P := plus_of I (H' := G1) (s' := s1) fun y c e => ⟨(blk_cell I hf hfp J1 e).1.no, (blk_cell I hf hfp J1 e).2⟩
  refine ⟨P.off, P.no, P.at', P.inj, P.has, fun i y v e1 e2 e3 => P.val i y v e1 ?_ e3⟩
  have ni : i ∉ own.map (·.2) := fun m => by
    obtain ⟨p, hp, rfl⟩ := List.mem_map.mp m
    have z := ix p hp
    rw [e1] at z
    exact hown p hp (Option.some.inj z ▸ e3)
  have z : (wipe τ (own.map (·.2)))[i]? = some (some v) := by rw [wipe_out ni]; exact e2
  rw [ew] at z
  exact (wipe_some z).1
end
/-- [_ for _ in .. if not f(..)]: nothing is left -/
theorem pe_lcNot {X : Cx} {elt tg iter : Expr} {scope : Scope} {own : List (Str × Nat)} {pos pos1 pos2 p : Pos} {wi : TI} {g : TG} {k : Nat} {x : Str} {e : Expr} {es : List Expr} {ta : TA} {ps : List Str} {sp : Sp} (calm : X.calm = true) (nd : X.N.Nodup) (pit : PI X tg iter wi) (bok : BlkOk X.N X.env.scope scope own)
    (hf : ∀ x c, X.env.cells.lookup x = some c → X.fn x = true) (hown : ∀ p ∈ own, ¬ (X.env.scope.names.lookup p.1 = some .cell ∨ X.env.scope.names.lookup p.1 = some .free)) (O : OwnS X.prog X.w X.K X.mg X.base k x ps sp) (hr : Room k X.A)
    (pgo : ∀ (s : Shared) (H : Hp) (C : Addr) (cl : List (Str × Addr)) (fp : List Addr), PG (X.blk s H scope (compEnvC scope cl C X.env) fp) tg g)
    (ha : ∀ (s : Shared) (H : Hp) (C : Addr) (cl : List (Str × Addr)) (fp : List Addr), PA (X.blk s H scope (compEnvC scope cl C X.env) fp) (e :: es) ta)
    (hg : ∀ (s : Shared) (H : Hp) (C : Addr) (cl : List (Str × Addr)) (fp : List Addr), Gl (X.blk s H scope (compEnvC scope cl C X.env) fp) x := by intros; rfl)
    (hdb : (x == ("__debug__" : Str)) = false := by decide) (he : ∀ ce : Env, starEach (e :: es) ce = (false, eval e ce) :: starEach es ce := by intros; rfl) (hpl : ∀ ce : Env, (backTo pos2 (starEach es ce)).any (·.1) = false := by intros; rfl)
    (fold : ∀ x, foldedSetIterable iter X.env x = pure x := by intro _; rfl) :
    PE X (.ListComp elt [⟨tg, iter, [.UnaryOp .Not (.Call (.Name x p) (e :: es) [] pos2) pos1], 0⟩] scope pos) (tNo wi g (tNot (tB (tOwnP X sp ta))) (own.map (·.2))) :=
  pe_lcNo calm nd pit bok pgo (fun pins σ s H C cl fp I hfp s' H' σ' pins' R ew J h =>
    (pts_one (pt_not (pt_val (pe_ownB I hf hfp bok.ix hown O hr (ha s H C cl fp) (hg s H C cl fp) hdb (he _) (hpl _))))).run pins' s' σ' H' R J ⟨ew, h⟩) fold
end CK

/-! CK: isinstance of a caught exception, with a dict of its own or without. -/
namespace CK
open PySem L2 PyProof.Rows
section
open PySem.W PySem.Calls
variable {K : PySem.W.Frag} {D x : Addr} {ob : Obj}
theorem find_classO {od : Option Obj} (C : ExcC K D) : findObj K D od "__class__" = some (.bind (.builtin "getset_descriptor.__get__") (.builtin "object.__class__")) := by
  have h0 := C.hd
  obtain ⟨cd, e0, _⟩ := any_some h0
  have e0 : clsIn K D = some cd := e0
  unfold findObj
  rw [e0, Option.bind_some, C.ha, Option.bind_some]
  simp [C.hn, C.ht]
theorem get_classO {prog : Program} {w : World} {A : Around} {E : Value → Shared → Prop} {s : Shared} {R : Option Value → Shared → Prop} {od : Option Obj} (C : ExcC K D) (kin : K.In s.heap) (at' : InstAt s.heap x ob D od) (q : R (some (.ref D)) { s with toks := s.toks + 1 }) : wpAny (model prog w) A (getAttr? (.ref x) "__class__") R E s := by
  have lf := looks_find (M := model prog w) kin at' (find_classO C)
  obtain ⟨h, gs, dr, t, os⟩ := s
  have ty := at'.type (M := model prog w)
  have a1 := looks_findIn (M := model prog w) kin C.hg
  have a2 := looks_findIn (M := model prog w) kin C.hk
  have isE : Looks (model prog w) h (isInstance (.ref x) (.type "BaseException")) true := ty.andThen (looks_subIn kin C.hs)
  have n2 : (Value.builtin "BaseException.__getattribute__" == Value.builtin "object.__getattribute__") = false := by decide +kernel
  unfold getAttr? getAttrBy? getAttrBy
  refine wpAny_bind (wpAny_mkText (wpAny_bind (wpAny_attempt (wpAny_holding (wpAny_bind (ty.at (wpAny_bind (a1.at ?_))))))))
  show wpAny _ _ (if (onTheHeap (Value.ref D) && (Value.builtin "BaseException.__getattribute__" == Value.builtin "object.__getattribute__")) = true then _ else _) _ _ _
  rw [n2, Bool.and_false, if_neg (by decide)]
  unfold getAttrByItsOwn hookBefore
  refine wpAny_bind ?_
  rw [if_pos (by rfl)]
  refine a2.at (wpAny_bind (wpAny_attempt (wpAny_holding ?_)))
  unfold callGetattribute
  rw [show (false && onTheHeap (Value.builtin "BaseException.__getattribute__")) = false from rfl, if_neg (by decide)]
  unfold boundAndCalled
  rw [PySem.F.excAttr_ValueError.ga.bind (.ref x)]
  refine wpAny_bind (wpAny_pure (wpAny_call (codeAny_call_builtin PySem.F.excAttr_ValueError.ga.plain PySem.F.entry_bexc_ga ?_)))
  refine @check_slot (model prog w) _ _ ⟨h, gs, dr, t + 1, os⟩ "BaseException.__getattribute__" "BaseException" "__getattribute__" (.ref x) [.str "__class__" t] [] _ (by kernel_rfl) (by kernel_rfl) isE (PySem.F.args_bexc_ga (.ref x) (.str "__class__" t)) ?_
  unfold Builtin.«object.__getattribute__»
  refine wpAny_bind (wpAny_of_eq (a := ((Value.ref x : Value), [Value.str "__class__" t])) (by first | rfl | (simp only [slotArgs]; rfl)) (wpAny_bind (wpAny_pure (wpAny_bind (ty.at (wpAny_bind (lf.at ?_)))))))
  show wpAny _ _ (holding [Value.builtin "object.__class__"] (call (.builtin "getset_descriptor.__get__") [.builtin "object.__class__", .ref x, .ref D]) >>= ret) _ _ _
  refine wpAny_bind (wpAny_holding (wpAny_call (class_get (s := ⟨h, gs, dr, t + 1, os⟩) (ox := ob) (od := od) kin at' C.hm (wpAny_pure ?_))))
  show wpAny _ _ (handedOut (.ref D)) _ _ _
  rw [handedOut_of (v := .ref D) rfl]
  first
    | exact wpAny_pure (wpAny_pure q)
    | exact wpAny_pure q
    | exact wpAny_pure (wpAny_bind (wpAny_pure (wpAny_pure q)))
theorem kitO (C : ExcC K D) : KitX K (.ref x) (.ref D) fun h => ∃ od, InstAt h x ob D od := by
  have z := C.hd
  obtain ⟨cd, e0, _⟩ := any_some z
  have e0 : clsIn K D = some cd := e0
  have there : ∃ k d c sl, K.lookup D = some (⟨k, d, .cls c, sl⟩ : Obj) := by
    unfold clsIn at e0
    split at e0
    · exact ⟨_, _, _, _, by assumption⟩
    · cases e0
  obtain ⟨ck, cd', cc, csl, e1⟩ := there
  refine ⟨fun _ _ _ ⟨od, a⟩ => a.type, fun M h kin _ A' Q' E' s' kp q => ?_, fun h tp dd its n sl kin htp => ?_, fun {_ _ _ _ _ _} kin ⟨od, a⟩ q => get_classO C kin a q⟩
  · unfold isType loadHead
    have there := kp _ _ (kin _ _ e1)
    exact wpAny_bind (wpAny_loadPart there (wpAny_pure q))
  · refine Bool.eq_false_iff.mpr fun q => ?_
    obtain rfl : D = tp := Value.ref.inj (beq_iff_eq.mp q)
    rw [kin _ _ e1] at htp
    cases htp
end
/-- isinstance(e, c), e the caught exception; its dict, if it has one, is known -/
def rIsO (K : PySem.W.Frag) (D a : Addr) (d : Option Addr) : List V → Hp → VK → Prop := fun xs H Q => ∃ (c : V) (cv : Value) (b : Bool), xs = [.ref a, c] ∧ (∀ u, RelV c u → u = cv) ∧ PySem.W.kitOne K (.ref D) cv = some b ∧ (∀ dd, d = some dd → ∃ fs, H dd = some (.xd fs)) ∧ Q (.bl b) H
theorem call_isO {X : Cx} {a D : Addr} {d : Option Addr} {oe : Obj} {pn : List (Addr × Obj)} (C : ExcC X.K D) (hz : L2N.Zn (.ref D) d oe) (hf : ∃ vs, oe.data = .fields vs) : CallR (X.suite a ((a, oe) :: pn)) (.builtin "isinstance") (rIsO X.K D a d) := by
  intro pz s τ G xs us Q I r h
  obtain ⟨c, cv, b, rfl, hcv, e, hd, q⟩ := h
  obtain ⟨here, _⟩ := I.pin (a, oe) (List.mem_append.mpr (.inl List.mem_cons_self))
  obtain ⟨fv, ef⟩ := hf
  have J : ∃ od, PySem.W.InstAt s.heap a oe D od := by
    cases d with
    | none => exact ⟨none, here, hz.1, by unfold PySem.W.notCls; rw [ef] <;> rfl, by rw [hz.2.1]; trivial⟩
    | some dd =>
      obtain ⟨fs, e1⟩ := hd dd rfl
      obtain ⟨mA, hns, _⟩ : ObjOk X.prog X.w G s.heap dd (.xd fs) := I.hok dd _ e1
      obtain ⟨od, ho, _⟩ := lookIn_ns hns
      exact ⟨some od, here, hz.1, by unfold PySem.W.notCls; rw [ef] <;> rfl, by rw [hz.2.1]; exact ho⟩
  cases r with
  | cons r1 r2 =>
    cases r2 with
    | cons r2 r3 =>
      cases r3
      cases r1
      have ec := hcv _ r2
      subst ec
      exact PySem.W.kia_one (kitO C) I.kIn J e (fun z => nomatch z) fun tk => ⟨.bl b, G, I.kept (t' := tk) fun _ _ z => z, rfl, q⟩
end CK

/-! CK: the call of an own def that may raise. -/
namespace CK
open PySem L2 PyProof.Rows
structure OwnX (P : Program) (w : World) (K : PySem.W.Frag) (mg : Str → Option Value) (base : Heap) (k : Nat) (x : Str) (ps : List Str) (sp : Sp) : Prop where
  ex : ∃ f fd, FnOk P w K mg base (L2N.CX P w) k f fd ps sp ∧ mg x = some (.ref f) ∧ PySem.W.keepIn K (.ref f) = true ∧ Binds K fd ps []
/-- what it lets out is what is wanted here -/
def tOwnW (sp : Sp) (W : WX) (ta : TA) : TE := fun σ H Q => ta σ H fun vs H1 => sp vs H1 Q fun c d H' => W c d σ H'
section
variable {X : Cx} {W : WX} {k : Nat} {x m : Str} {p pos : Pos} {e o : Expr} {es : List Expr} {ta : TA} {ps : List Str} {sp : Sp}
/-- the callee runs -/
theorem run_fnW {pins : List (Addr × Obj)} {σ : L2.St} {H : Hp} {s : Shared} {Q : VK} {us : List Value} {vs : List V} {f : Addr} {fd : FuncData} (tk : L2N.Takes X W) (F : FnOk X.prog X.w X.K X.mg X.base (L2N.CX X.prog X.w) k f fd ps sp) (hr : Room k X.A) (hb : Binds X.K fd ps [])
    (I : Inv X pins σ H s) (r : Vals vs us) (h : sp vs H Q fun c d H' => W c d σ H') : wpAny (model X.prog X.w) X.A (call (.ref f) us) (EP X pins σ Q) X.xe s := by
  have hl : us.length = ps.length := by rw [← r.length]; exact F.len _ _ _ _ h
  have hbt := hb s us I.kIn (by simpa using hl)
  refine wpAny_call (codeAny_mono (F.run X.A X.stack s H ⟨us, []⟩ us vs Q _ hr I.env0 (by simpa using hbt) r h) fun q s' hq => ?_)
  cases q with
  | error u => exact tk u s' (L2N.XE.of_call I (fun _ _ _ z => z) hq)
  | ok fl =>
    cases fl with
    | ret u => exact I.after hq
    | next => exact False.elim hq
    | brk => exact False.elim hq
    | cont => exact False.elim hq
theorem pe_ownW (tk : L2N.Takes X W) (O : OwnX X.prog X.w X.K X.mg X.base k x ps sp) (hr : Room k X.A) (ha : PA X (e :: es) ta) (hg : Gl X x := by rfl)
    (hdb : (x == ("__debug__" : Str)) = false := by decide) (he : starEach (e :: es) X.env = (false, eval e X.env) :: starEach es X.env := by rfl) (hpl : (backTo pos (starEach es X.env)).any (·.1) = false := by rfl) :
    PE X (.Call (.Name x p) (e :: es) [] pos) (tOwnW sp W ta) := by
  obtain ⟨f, fd, F, hm, hk, hb⟩ := O.ex
  refine ⟨fun pins s σ H Q I h => ?_⟩
  refine wpAny_Call_Name_kw (ld_glob I hg hm ?_ hdb)
  exact PySem.W.callWith_K (h₀ := X.base) I.ok.mod.kin hk (thn (ha.run pos pins s σ H _ I h) fun us s1 ⟨vs, H1, I1, r, q⟩ => ⟨I1.kIn, run_fnW tk F hr hb I1 r q⟩) he hpl
end
end CK

/-! CK: the maker's told cells are what its lambdas have captured; so their calls. -/
namespace CK
open PySem L2 PyProof.Rows LamX NdefX
/-- the values of slots -/
def slots (σ : L2.St) (js : List Nat) : List (Option V) := js.map fun j => (σ[j]?).join
section
variable {X : Cx} {σ : L2.St} {H G : Hp} {scope : Scope} {fr : List Str} {js : List Nat}
theorem cap_of_plus (P : Plus X σ H G) (hfree : ∀ y ∈ scope.names, y.2 = .free → X.env.scope.names.lookup y.1 = some .cell ∨ X.env.scope.names.lookup y.1 = some .free) (hfr : ∀ y ∈ fr, (y, NameKind.free) ∈ scope.names) (hjs : js.map (fun j => X.N[j]?) = fr.map some) :
    Cap G (cloFrom X.env.cells scope.names []) fr (slots σ js) := by
  have hc : ∀ y ∈ scope.names, y.2 = .free → ∃ c, X.env.cells.lookup y.1 = some c := fun y hy e => P.has _ (hfree y hy e)
  have hlen : js.length = fr.length := by simpa using congrArg List.length hjs
  refine ⟨by unfold slots; rw [List.length_map, hlen], fun y c e => P.at' y c (clo_cm hc e), fun x y c e1 e2 => P.inj x y c (clo_cm hc e1) (clo_cm hc e2), fun i y e => ?_⟩
  have hy := hfr y (List.mem_of_getElem? e)
  obtain ⟨c, ec⟩ := hc (y, .free) hy rfl
  obtain ⟨o, v, q, d⟩ := P.at' y c ec
  by_cases hw : ∃ v', (slots σ js)[i]? = some (some v')
  · obtain ⟨v', hv⟩ := hw
    have hv0 := hv
    unfold slots at hv
    rw [List.getElem?_map] at hv
    cases ej : js[i]? with
    | none => rw [ej] at hv; cases hv
    | some j =>
      rw [ej] at hv
      have hj : X.N[j]? = some y := by
        have z := congrArg (fun l => l[i]?) hjs
        simp only [List.getElem?_map, ej, e, Option.map_some] at z
        exact Option.some.inj z
      have hs : σ[j]? = some (some v') := by
        have hv : (σ[j]?).join = some v' := Option.some.inj hv
        cases q : σ[j]? with
        | none => rw [q] at hv; cases hv
        | some w => rw [q] at hv; exact congrArg some hv
      obtain ⟨c2, o2, u, e1, e2, e3, e4⟩ := P.val j y v' hj hs (hfree (y, .free) hy rfl)
      exact ⟨c2, o2, clo_has hc hy e1, e2, fun w hw => by rw [hv0] at hw; cases hw; exact ⟨u, e4, e3⟩⟩
  · exact ⟨c, o, clo_has hc hy ec, q, fun v' hv => absurd ⟨v', hv⟩ hw⟩
theorem cap_sub (P : Plus X σ H G) (hfree : ∀ y ∈ scope.names, y.2 = .free → X.env.scope.names.lookup y.1 = some .cell ∨ X.env.scope.names.lookup y.1 = some .free) {c : Addr} (m : c ∈ capC (cloFrom X.env.cells scope.names [])) : c ∈ capC X.env.cells := by
  obtain ⟨y, e⟩ := capC_mem.mp m
  exact capC_mem.mpr ⟨y, clo_cm (fun y hy e => P.has _ (hfree y hy e)) e⟩
/-- a lambda of the maker's, its cells told -/
theorem work_plus {P : Program} {w : World} {K : PySem.W.Frag} {mg : Str → Option Value} {base : Heap} {N : List Str} {F : LF} {f : Addr} {E : XK} {k : Nat} {tb : TE} {Q : VK} (P0 : Plus X σ H G) (ecl : F.cl = cloFrom X.env.cells F.scope.names []) (S : NScope N [] fr F.scope)
    (hfree : ∀ y ∈ F.scope.names, y.2 = .free → X.env.scope.names.lookup y.1 = some .cell ∨ X.env.scope.names.lookup y.1 = some .free) (hfr : ∀ y ∈ fr, (y, NameKind.free) ∈ F.scope.names) (hjs : js.map (fun j => X.N[j]?) = fr.map some)
    (hf : H f = some (LamO f F)) (hc : H F.c = some (CodeO F.c F.qual)) (hbind : ∀ pm ctv, bindArgs (PySem.W.kla_fn "<lambda>" F.qual F.params F.body F.scope F.cl pm (.ref F.c) ctv) ⟨[], []⟩ = pure [])
    (hbody : ∀ (A : Around) (outer : List Env) (s : Shared), Room k (A.deeper (envF F.nf f s.heap.objs.size)) → PE (ncx (L2N.CX P w) P w K mg base N F.nf f A outer s (ctH (capC F.cl) G) (bkE (capC F.cl) G E)) F.body tb) (h : tb (startF N [] (slots σ js)) (ctH (capC F.cl) G) (bkQ (capC F.cl) G Q)) :
    Work P w K mg base (k + 1) f G Q E := by
  have old : ∀ b o, H b = some o → b ∉ capC X.env.cells := fun b o q m => by rw [P0.no b m] at q; cases q
  refine work_lam S ((P0.off f (old f _ hf)).trans hf) ((P0.off _ (old _ _ hc)).trans hc) hbind (ws := slots σ js) ?_ (fun m => ?_) (fun m => ?_) hbody h
  · rw [ecl]; exact cap_of_plus P0 hfree hfr hjs
  · rw [ecl] at m; exact old f _ hf (cap_sub P0 hfree m)
  · rw [ecl] at m; exact old _ _ hc (cap_sub P0 hfree m)
end
end CK

/-! CK: defs that raise exceptions whose own context is None; such an exception with an own __init__ made. -/
namespace CK
open PySem L2 PyProof.Rows
section
variable {P : Program} {w : World} {K : PySem.W.Frag} {mg : Str → Option Value} {base : Heap}
theorem okN {x qual : Str} {st : Stmt} {f : Addr} {fd : FuncData} {N ps : List Str} {k : Nat} {sp : Sp} (D : Fun K x qual st f fd) (S : FnScope N ps (defScope st)) (ln : ∀ us G R U, sp us G R U → us.length = ps.length)
    (bd : ∀ (cv : Value) (B : Around) (out : List Env) (t : Shared) (G : Hp) (us : List V) (R : VK) (U : XK), Room k (B.deeper (envOfC qual (defScope st) t.heap.objs.size f cv)) → sp us G R U →
      ∃ y, PSs (cxOf (L2N.CX P w) P w K mg base N qual (defScope st) f cv B out t G U) (defBody st) y ∧ y { nx := fun _ H' => R .non H', rt := R } (L2.start N us) G) : FnOk P w K mg base (L2N.CX P w) (k + 1) f fd ps sp := by
  obtain ⟨c1, c2, c3, c4, c5, c6, c7, c8, c9, rfl, e1, e2⟩ := D.ex
  exact fn_of e1 e2 S ln fun B out t G us R U r z => bd c7 B out t G us R U r z
end
section
variable {X : Cx} {C : Addr}
theorem pmk_oexN {e : Expr} {ta : TA} {x : Str} {fI : Addr} {k : Nat} {fd : FuncData} {ps : List Str} {sp : Sp} {p pos : Pos} (T : OexC X.K C) (h1 : PySem.W.findIn X.K (.ref C) "__init__" = some (some (.ref fI))) (h2 : PySem.W.typeIn X.K (.ref fI) = some (.type "function")) (F : FnOk X.prog X.w X.K X.mg X.base CX0 k fI fd ps sp) (r : Room (k + 1) X.A)
    (hb : Binds X.K fd ps []) (hg : Gl X x) (hm : X.mg x = some (.ref C)) (ha : PA X [e] ta) (hdb : (x == ("__debug__" : Str)) = false) (he : starEach [e] X.env = (false, eval e X.env) :: starEach [] X.env) (hpl : (backTo pos (starEach [] X.env)).any (·.1) = false) :
    L2N.PMk X (.Call (.Name x p) [e] [] pos) (tMkO C sp [] ta) := by
  intro pz t σ H Q I h
  obtain ⟨c0, c1, c2, c3, bm, c5, c6, c7, c8, c9, d0, d1, d2, d3, d5, hC, hbm⟩ := T.cls
  refine wpAny_Call_Name_kw (ld_glob I hg hm ?_ hdb)
  refine PySem.W.callWith_K (h₀ := X.base) I.ok.mod.kin T.kC (thn (ha.run pos pz t σ H _ I h) fun us t1 ⟨vs, H1, I1, r1, hz, q1⟩ => ⟨I1.kIn, ?_⟩) he hpl
  show wpAny _ _ (call (.ref C) us) _ _ _
  obtain ⟨hp, gs, dr, tk, os⟩ := t1
  have up : hp.objs.size ≤ hp.objs.size + 1 := Nat.le_succ _
  have hq := q1 (hp.objs.size + 1) (I1.hok.fresh up)
  have kp : ∀ b o, hp.get? b = some o → ((hp.push (PySem.W.kdv_tup us)).push (PySem.HandSPX.excO C hp.objs.size)).get? b = some o := fun b o z => Heap.get?_push_of_some _ (Heap.get?_push_of_some _ z)
  have here : ((hp.push (PySem.W.kdv_tup us)).push (PySem.HandSPX.excO C hp.objs.size)).get? (hp.objs.size + 1) = some (PySem.HandSPX.excO C hp.objs.size) := by heap_get
  have J := I1.laid (t' := tk) (a := hp.objs.size + 1) (o := exo (hp.objs.size + 1) C none) (h' := (hp.push (PySem.W.kdv_tup us)).push (PySem.HandSPX.excO C hp.objs.size)) kp up (exo_ok here)
  have rr : Vals (V.ref (hp.objs.size + 1) :: (vs ++ [])) (Value.ref (hp.objs.size + 1) :: us) := .cons rfl (by rw [List.append_nil]; exact r1)
  have hl : (Value.ref (hp.objs.size + 1) :: us).length = ps.length := by rw [← rr.length]; exact F.len _ _ _ _ hq
  have small : us.length ≤ sizeLine := by rw [← Paired.length r1, sizeLine_eq]; omega
  have hbt := hb _ (Value.ref (hp.objs.size + 1) :: us) J.kIn (by simpa using hl)
  refine wpAny_call (PySem.HandSPX.call_own PySem.F.excBase_ValueError (fun Y => PySem.HandSPX.refsVE_contains Y bm hbm) (I1.kIn _ _ hC) (PySem.W.looks_findIn I1.kIn h1) (fun self => PySem.W.bind_fn I1.kIn self h2) small
    (codeAny_mono (F.run _ X.stack _ _ ⟨Value.ref (hp.objs.size + 1) :: us, []⟩ _ _ _ (fun _ _ _ => False) (r.make C us []) (J.env0.make C us []) (by simpa using hbt) rr hq) fun q s' z => ?_))
  cases q with
  | error u => exact z.elim
  | ok fl =>
    cases fl with
    | ret u =>
      obtain ⟨v, G2, o2, b2, un2, k2, rv, ev, d, fs, f1, f2, f3, q2⟩ := z
      subst ev
      obtain ⟨g2, s2, w2, n2, o3⟩ := s'
      refine ⟨rv, ?_⟩
      obtain ⟨t0, G, J2, kG, ge, hoe, na⟩ := mk_end0 (d2 := w2) (t2 := n2) I1 up kp un2 k2 o2 b2 f1 f2 f3
      exact ⟨_, _, _, ⟨G, s2, w2, n2, o3⟩, _, .ref C, some d, rfl, J2, kG, ge, hoe, ⟨rfl, rfl, fun vs e => by cases e; rfl⟩, rfl, rfl, na, rfl, b2, raises_own T.exC T.tyC, q2⟩
    | next => exact z.elim
    | brk => exact z.elim
    | cont => exact z.elim
end
end CK

/-! CK: a list's iterator ends within an except suite. -/
namespace CK
open PySem PySem.Spec PyProof.Rows L2 HotX
section
variable {prog : Program} {w : World} {A : Around} {E : Value → Shared → Prop} {s : Shared}
theorem list_end_hot {it lst x1 : Addr} {n : Nat} {vals : Array Value} {R : Option Value → Shared → Prop} (hot : HotAt A x1 s.heap) (at' : s.heap.IsListIter it lst n) (is : s.heap.IsList lst vals) (none' : vals[n]? = none)
    (q : ∀ h', Heap.ExtBut it s.heap h' → R none { s with heap := h' }) : wpAny (model prog w) A (pyNext (.ref it)) R E s := by
  obtain ⟨oi, i1, i2, i3⟩ := id at'
  obtain ⟨ol, l1, _, nl, l2⟩ := is
  obtain ⟨hh, o1, vs1, g1, d1, c1⟩ := hot
  have apart : x1 ≠ it := fun z => by
    rw [z, i1] at g1
    cases g1
    rw [i3] at d1
    cases d1
    cases c1
  unfold pyNext
  refine wpAny_bind (wpAny_attempt (wpAny_callSpecial?_slot (name := Str.ofString "__next__") at'.typeIs slot_listiter_next (wpAny_call_entry slot_listiter_next at'.typeIs entry_listiter_next ?_ (args_listiter_next _))))
  show wpAny _ _ (field (.ref it) 0 >>= _) _ _ s
  refine wpAny_bind (wpAny_field i1 i3 (x := .ref lst) rfl ?_)
  show wpAny _ _ (if (Value.ref lst == Value.none) = true then _ else _) _ _ s
  rw [if_neg (by exact Bool.false_ne_true)]
  show wpAny _ _ (field (.ref it) 1 >>= _) _ _ s
  refine wpAny_bind (wpAny_field i1 i3 (x := .int n 0) rfl ?_)
  show wpAny _ _ (seqItems? (.ref lst) >>= _) _ _ s
  refine wpAny_bind (wpAny_seqItems l1 l2 ?_)
  simp only [Int.toNat_natCast, none']
  refine wpAny_bind (wpAny_rule (wpAny_bind (wpAny_setField i1 i3 (by simp) ?_)))
  show wpAny _ _ (newExc (.type "StopIteration") [] >>= _) _ _ _
  refine wpAny_bind ?_
  simp only [newExc, newTuple]
  refine wpAny_bind (wpAny_newObj_type ?_ (by size_fits))
  refine wpAny_bind (m := firstArgMember _ _) (wpAny_of_eq (a := Value.none) (by first | (simp only [firstArgMember]; rfl) | rfl) (wpAny_newObj_type ?_ (by size_fits)))
  have g2 : (s.heap.update it (Obj.mapFields (·.setIfInBounds 0 .none))).get? x1 = some o1 := (Heap.get?_update_other s.heap _ apart.symm).trans g1
  refine raiseNew_hot ⟨hh, o1, vs1, Heap.get?_push_of_some _ (Heap.get?_push_of_some _ g2), d1, c1⟩ (Nat.ne_of_lt (Heap.lt_size (Heap.get?_push_of_some _ g2))) (Heap.get?_push_size _ rfl) rfl (by first | (simp; done) | (simp; omega)) ?_
  refine wpAny_bind (wpAny_isInstance (T := "StopIteration") (b := true) ⟨_, Heap.get?_update_self _ (Heap.get?_push_size _ rfl) rfl, rfl⟩ isSubtype_stop (wpAny_pure (q _ fun b o hb e => ?_)))
  have e2 : (s.heap.update it (Obj.mapFields (·.setIfInBounds 0 .none))).get? b = some o := (Heap.get?_update_other s.heap _ (Ne.symm hb)).trans e
  rw [Heap.get?_update_other _ _ (Nat.ne_of_gt (Heap.lt_size (Heap.get?_push_of_some _ e2)))]
  exact Heap.get?_push_of_some _ (Heap.get?_push_of_some _ e2)
end
end CK

/-! CK: a list comprehension over a list, within an except suite. -/
namespace CK
open PySem PySem.Spec PyProof.Rows L2 HotX L2H
/-- [r x for x in xs], nothing else happens -/
def tHotL (tl : TE) (g : TG) (te : TE) (vs : List Nat) : TE := fun σ H Q => tl σ H fun x H1 => ∃ (a : Addr) (xs : List V) (r : V → V), x = .ref a ∧ H1 a = some (.lst xs) ∧ xs.length < sizeLine ∧ ∀ D, H1 D = none →
  (∀ (k : Nat) (y : V) (G : Hp), xs[k]? = some y → G = upd H1 D (.lst ((xs.take k).map r)) → g y (wipe σ vs) G fun σ2 G2 => wipe σ2 vs = wipe σ vs ∧ G2 = G ∧ te σ2 G fun z G3 => z = r y ∧ G3 = G) ∧ Q (.ref D) (upd H1 D (.lst (xs.map r)))
theorem pe_lcHot {X : Cx} {elt l : Expr} {tg : Expr} {scope : Scope} {own : List (Str × Nat)} {pos : Pos} {tl : TE} {g : TG} {te : TE} (hc : HotC X) (hN : X.N.Nodup) (pel : PE X l tl) (bo : BlkOk X.N X.env.scope scope own)
    (hg : ∀ (s : Shared) (H : Hp) (C : Addr) (cl : List (Str × Addr)) (fp : List Addr), PG (X.blk s H scope (compEnvC scope cl C X.env) fp) tg g)
    (he : ∀ (s : Shared) (H : Hp) (C : Addr) (cl : List (Str × Addr)) (fp : List Addr), PE (X.blk s H scope (compEnvC scope cl C X.env) fp) elt te) (hs : ∀ x, foldedSetIterable l X.env x = pure x := by intro _; rfl) :
    PE X (.ListComp elt [⟨tg, l, [], 0⟩] scope pos) (tHotL tl g te (own.map (·.2))) := by
  refine ⟨fun pz s σ H R J h => ?_⟩
  rw [eval_ListComp]
  have fre : ∀ y ∈ scope.names, y.2 = .free → ∃ c, X.env.cells.lookup y.1 = some c := fun y hy e => by
    rcases bo.free y hy e with k | k
    · exact J.ok.has _ (.inl k)
    · exact J.ok.has _ (.inr k)
  refine wpAny_comprehension_free (use := none) rfl hs (closure_ok fre) bo.kind (fun y hy e => by rw [bo.uniq y hy, e])
    (thn (pel.run pz s σ H _ J h) fun xv u1 ⟨x, Ga, J1, r1, q1⟩ => ?_)
  obtain ⟨a, vs, r, e, hx, fits, kq⟩ := q1
  subst e
  cases r1
  obtain ⟨ws, rvs, p, hz⟩ := J1.list (SqL.of hx)
  apply wpAny_pyIter_list p.isList
  generalize hit : u1.heap.objs.size = it
  generalize hs2 : ({ u1 with heap := u1.heap.push _ } : Shared) = u2
  have J2 : Inv X pz σ Ga u2 := by
    rw [← hs2]
    exact J1.kept (t' := u1.toks) fun b o e => Heap.get?_push_of_some _ e
  have Tn := turn_list (P := X.prog) (w := X.w) (K := X.K) (tg := tg) a it
  have at2 : u2.heap.IsListIter it a 0 := by
    rw [← hs2, ← hit]
    exact ⟨_, (Heap.get?_push_size _ rfl), rfl, rfl⟩
  have fo2 : ∀ b ∈ [it], FpOk X pz Ga b := fun b hb => by
    have e : b = u1.heap.objs.size := by rw [hit]; simpa using hb
    subst e
    exact J1.fpOk (Nat.le_refl _) (J1.hok.fresh (Nat.le_refl _))
  obtain ⟨p1, ⟨hh1, v1, d1, c1⟩, hp1⟩ := hc
  have P1 := J2.pin p1 (List.mem_append_left _ hp1)
  refine wpAny_newObj_type (newEnv_comp ?_) (show 0 ≤ sizeLine by decide)
  generalize hnw : u2.heap.objs.size = nw
  have nwn : Ga nw = none := J2.hok.fresh (Nat.le_of_eq hnw)
  obtain ⟨step, qend⟩ := kq nw nwn
  -- the new list
  generalize hu3 : ({ u2 with heap := u2.heap.push { cls := .type "list", data := .seq ([] : List Value).toArray } } : Shared) = u3
  have J3 : Inv X pz σ (upd Ga nw (.lst [])) u3 := by
    rw [← hu3]
    refine J2.laid (t' := u2.toks) (fun b o e => Heap.get?_push_of_some _ e) (Nat.le_of_eq hnw) ⟨Nat.zero_le _, [], 0, .nil, ?_⟩
    rw [← hnw]
    exact (Heap.get?_push_size _ rfl)
  have hp3 : u3.heap = u2.heap.push { cls := .type "list", data := .seq ([] : List Value).toArray } := by rw [← hu3]
  have low : ∀ b ∈ [it], b < u2.heap.objs.size := fun b hb => by
    obtain ⟨o, e, _⟩ := Tn.obj _ _ at2 b hb
    exact Heap.lt_size e
  have fo3 : ∀ b ∈ [it], FpOk X pz (upd Ga nw (.lst [])) b ∧ b < u3.heap.objs.size := fun b hb => by
    have less := low b hb
    refine ⟨⟨?_, (fo2 b hb).2⟩, by rw [hp3, Heap.size_push]; exact Nat.lt_succ_of_lt less⟩
    rw [upd_ne (by rw [← hnw]; exact Nat.ne_of_lt less)]
    exact (fo2 b hb).1
  have at3 : u3.heap.IsListIter it a 0 := Tn.keep _ _ _ at2 fun b _ o e => by rw [hp3]; exact Heap.get?_push_of_some _ e
  have J4 := block_start J3 bo hN fo3
  have pg := hg u3 (upd Ga nw (.lst [])) u3.heap.objs.size (cellsFrom (u3.heap.objs.size + 1) scope.names (cloFrom X.env.cells scope.names [])) [it]
  have pe := he u3 (upd Ga nw (.lst [])) u3.heap.objs.size (cellsFrom (u3.heap.objs.size + 1) scope.names (cloFrom X.env.cells scope.names [])) [it]
  have P3 : u3.heap.get? p1.1 = some p1.2 := by rw [hp3]; exact Heap.get?_push_of_some _ P1.1
  have nD : p1.1 ≠ nw := fun zz => by have y := Heap.lt_size P1.1; rw [zz, ← hnw] at y; exact Nat.lt_irrefl _ y
  have N3 : (upd Ga nw (.lst [])) p1.1 = none := by rw [upd_ne nD]; exact P1.2.1
  have nit : p1.1 ∉ [it] := fun zz => (fo2 p1.1 zz).2.2.2.2.2 p1 (List.mem_append_left _ hp1) rfl
  have nfr : p1.1 ∉ frs X.stack := fun hm => (List.mem_cons.mp (J2.stkSub p1.1 hm)).elim P1.2.2.1 P1.2.2.2.1
  have ha : Ga a = some (.lst vs) := hx
  have nDa : a ≠ nw := ne_of_none ha nwn
  show codeAny _ _ (.compStart (.ListComp elt [⟨tg, l, [], 0⟩] scope pos) 0 (.ref it) (.ref nw) (compEnvC scope (cellsFrom (u3.heap.objs.size + 1) scope.names (cloFrom X.env.cells scope.names [])) u3.heap.objs.size X.env)) (compPost (model X.prog X.w) X.A X.xe none (EP X pz σ R) (.ref nw) u3.heap.objs.size) { u3 with heap := pushCells (u3.heap.push { cls := .type "dict", data := .dict #[] }) scope.names }
  generalize hbe : compEnvC scope (cellsFrom (u3.heap.objs.size + 1) scope.names (cloFrom X.env.cells scope.names [])) u3.heap.objs.size X.env = be at J4 pg pe ⊢
  have bL : be.locals = u3.heap.objs.size := by subst hbe; rfl
  have nfr2 : ∀ b ∈ [it], (upd Ga nw (.lst [])) b = none := fun b hb => (fo3 b hb).1.1
  generalize hu4 : ({ u3 with heap := pushCells (u3.heap.push { cls := .type "dict", data := .dict #[] }) scope.names } : Shared) = u4 at J4 ⊢
  have at4 : u4.heap.IsListIter it a 0 := Tn.keep _ _ _ at3 fun b _ o e => by rw [← hu4]; exact pushCells_keeps _ _ _ _ (Heap.get?_push_of_some _ e)
  have sta : ∀ {σ' : L2.St} {H' : Hp} {s' : Shared}, Inv (X.blk u3 (upd Ga nw (.lst [])) scope be [it]) [] σ' H' s' → (∀ b ∈ [it], H' b = none) → ∀ b ∈ [it], FpOk (X.blk u3 (upd Ga nw (.lst [])) scope be [it]) [] H' b := fun {σ' H' s'} J' hns b hb =>
    ⟨hns b hb, (J'.ok.exf b hb).1, J'.ok.exfs b hb, .inl hb, fun x c e => (J'.ok.exf b hb).2 x c e, fun p hp => absurd (show p ∈ ([] : List (Addr × Obj)) ++ [] from hp) (by simp)⟩
  have lstG : ∀ k, (upd Ga nw (.lst ((vs.take k).map r))) a = some (.lst vs) := fun k => by rw [upd_ne nDa]; exact ha
  have lp : codeAny (model X.prog X.w) X.A (.compLoop (.ListComp elt [⟨tg, l, [], 0⟩] scope pos) 0 (.ref it) (.ref nw) be) (compPost (model X.prog X.w) X.A X.xe none (EP X pz σ R) (.ref nw) u3.heap.objs.size) u4 := by
    refine compLoop_any (fun n s' => ∃ i H', Inv (X.blk u3 (upd Ga nw (.lst [])) scope be [it]) [] (wipe σ (own.map (·.2))) H' s' ∧ s'.heap.IsListIter it a i ∧ (∀ b ∈ [it], H' b = none) ∧ i + n = vs.length ∧ H' = upd Ga nw (.lst ((vs.take i).map r))) ?_ vs.length ⟨0, _, J4, at4, nfr2, Nat.zero_add _, rfl⟩
    rintro n u5 ⟨i, Gi, J5, at5, n5, en, eH⟩
    have hq5 : SqL X.K Gi a vs := SqL.of (by rw [eH]; exact lstG i)
    obtain ⟨its5, rv5, p5, hz5⟩ := J5.list hq5
    have g5 : u5.heap.get? p1.1 = some p1.2 := J5.base.keep p1.1 p1.2 P3 N3 nfr nit
    have lt5 := rv5.length
    obtain ⟨f0, f1, f2', f3', f4, f5⟩ := sta J5 n5 it (by simp)
    cases n with
    | zero =>
      refine thnF (Q := fun r u6 => r = none ∧ Inv (X.blk u3 (upd Ga nw (.lst [])) scope be [it]) [] (wipe σ (own.map (·.2))) Gi u6) (list_end_hot ⟨hh1, p1.2, v1, g5, d1, c1⟩ at5 p5.isList (by simp; omega) fun h' eb => ⟨rfl, J5.turned (t' := u5.toks) (fun b o hb e => eb b o hb e) f0 f1 f3' f4 f5⟩) fun rr u6 ⟨hr, J6⟩ => ?_
      subst hr
      have J7 : Inv X pz σ Gi u6 := J3.call' (ch := [it]) J6.os J6.base J6.hok J6.bare fun b hb => ⟨(fo3 b hb).1.2.2.2.1, (fo3 b hb).1.2.1, (fo3 b hb).1.2.2.2.2.1, (fo3 b hb).1.2.2.2.2.2⟩
      have nB : Gi u3.heap.objs.size = none := by
        have zz : Gi be.locals = none := J6.free
        rw [bL] at zz
        exact zz
      obtain ⟨m, hns, _⟩ := J6.loc
      have hns : u6.heap.Ns be.locals m := hns
      rw [bL] at hns
      refine ⟨m, hns, fun h'' sb => ?_⟩
      obtain ⟨f0, f1, fo2, fo3, f4, f5⟩ := J3.fpOk (H' := Gi) (Nat.le_refl _) nB
      refine ⟨.ref nw, Gi, J7.turned (t' := u6.toks) (fun b o hb e => (sb.2 b hb).trans e) f0 f1 fo3 f4 f5, rfl, ?_⟩
      have ei : i = vs.length := by omega
      rw [eH, ei, List.take_length]
      exact qend
    | succ n =>
      have less : i < vs.length := by omega
      obtain ⟨u, hu, ru⟩ := rv5.get (List.getElem?_eq_getElem less)
      refine wpAny_pyNext_list_item at5 p5.isList (x := u) (by simpa using hu) fun h' st' sb => ?_
      have J6 : Inv (X.blk u3 (upd Ga nw (.lst [])) scope be [it]) [] (wipe σ (own.map (·.2))) Gi { u5 with heap := h' } := J5.turned (t' := u5.toks) (fun b o hb e => (sb.2 b hb).trans e) f0 f1 f3' f4 f5
      obtain ⟨o, e, c, d⟩ := id st'
      refine go_of (s := { u5 with heap := h' }) e c d (by decide) ?_
      have I7' := J6.pinned (sta J6 n5) (Tn.obj _ _ st')
      obtain he5 := step i vs[i] Gi (List.getElem?_eq_getElem less) eH
      refine thnF (pg.run _ { u5 with heap := h' } _ Gi vs[i] u _ I7' ru he5) fun _ u8 ⟨σ8, Gt, J8, hw8, eG, q8⟩ => ?_
      subst eG
      refine thnF ((pts_nil (X := X.blk u3 (upd Ga nw (.lst [])) scope be [it])).run _ u8 σ8 Gt (fun b G => b = true ∧ G = Gt) J8 ⟨rfl, rfl⟩) fun b u9 ⟨Gu, J9, eb, e9⟩ => ?_
      subst eb
      subst e9
      simp only [if_true]
      refine thnF (pe.run _ u9 σ8 Gu _ J9 q8) fun zz u10 ⟨yv, Gv, J10, r10, ey, e10⟩ => ?_
      subst ey
      subst e10
      have nw10 : Gv nw = some (.lst ((vs.take i).map r)) := by rw [eH]; exact upd_same
      refine app_ok (X := X.blk u3 (upd Ga nw (.lst [])) scope be [it]) J10 nw10 (by rw [List.length_map, List.length_take]; omega) r10 fun u11 J11 => ?_
      have pin' : ∀ b ∈ [it], ∀ o, h'.get? b = some o → u11.heap.get? b = some o ∧ (upd Gv nw (.lst ((vs.take i).map r ++ [r vs[i]]))) b = none := fun b hb o e =>
        let zz := J11.pin (b, o) (List.mem_append_right _ (List.mem_append_right _ (mem_pinsAt (h := h') hb e)))
        ⟨zz.1, zz.2.1⟩
      have pel : (wipe σ (own.map (·.2))).length = σ8.length := by rw [← hw8, wipe_length]
      refine ⟨n, Nat.lt_succ_self _, i + 1, _, (J11.unpinned (pins := [])).weak pel (fun j v e => ?_), Tn.keep _ _ _ st' fun b hb o e => (pin' b hb o e).1, fun b hb => ?_, by omega, ?_⟩
      · rw [← hw8] at e
        exact (wipe_some e).1
      · obtain ⟨o, e, _⟩ := Tn.obj _ _ st' b hb
        exact (pin' b hb o e).2
      · have et : vs.take (i + 1) = vs.take i ++ [vs[i]] := by simp
        rw [eH, et, List.map_append, List.map_cons, List.map_nil, upd_upd]
  exact codeAny_compStart_list lp (Tn.self X.A 0 _ _ _ at4 lp)
end CK

/-! CK: a def that hands back what its cells' lambdas need: at its return its cells are told. -/
namespace CK
open PySem L2 PyProof.Rows LamX NdefX
theorem execs_snoc' {M : Model} {A : Around} {env : Env} {b : List Stmt} {R : Flow → Shared → Prop} {E : Value → Shared → Prop} {Γ : Ctx} (hΓ : Γ.In A) : ∀ (l : List Stmt) (p : Pos) (s : Shared), Sem.wp M Γ (execs l env) (fun f _ s' => match f with | .next => wpAny M A (execs b env) R E s' | f => R f s') (fun e _ s' => E e s') p s →
    Sem.wp M Γ (execs (l ++ b) env) (fun f _ s' => R f s') (fun e _ s' => E e s') p s
  | [], p, s, z => by
    have e : execs [] env = pure .next := by rw [execs]
    rw [e, Sem.wp_pure'] at z
    exact z Γ p hΓ
  | st :: l, p, s, z => by
    rw [execs_cons, Sem.wp_bind'] at z
    rw [List.cons_append, execs_cons, Sem.wp_bind']
    refine Sem.wp_mono M Γ _ (fun f p' s' h' => ?_) (fun _ _ _ h' => h') _ _ z
    cases f with
    | next => exact execs_snoc' hΓ l p' s' h'
    | brk => exact h'
    | cont => exact h'
    | ret v => exact h'
theorem execs_snoc {M : Model} {A : Around} {env : Env} {b : List Stmt} {R : Flow → Shared → Prop} {E : Value → Shared → Prop} {l : List Stmt} {s : Shared} (h : wpAny M A (execs l env) (fun f s' => match f with | .next => wpAny M A (execs b env) R E s' | f => R f s') E s) : wpAny M A (execs (l ++ b) env) R E s := fun Γ p hΓ => execs_snoc' hΓ l p s (h Γ p hΓ)
section
variable {X : Cx} {pins : List (Addr × Obj)} {σ : L2.St} {H : Hp} {s : Shared}
/-- what a def's end asks, the cells told -/
theorem ce_cells {v : V} {u : Value} {Q : VK} (I : Inv X pins σ H s) (hx : X.ex = []) (hfs : X.fs = frs X.outer) (hf : ∀ x c, X.env.cells.lookup x = some c → X.fn x = true) (rv : RelV v u) (q : Q v (plusH s.heap (capC X.env.cells) H)) : L2.CE X.outer X.prog X.w X.H_0 X.s_0 Q u s := by
  have hc : ∀ c ∈ capC X.env.cells, OwnCell X H s c ∧ X.s_0.heap.objs.size ≤ c := fun c m => by
    obtain ⟨y, e⟩ := capC_mem.mp m
    exact ⟨own_cell I hf e, I.ok.cab y c (hf y c e) e⟩
  have out : ∀ y v, H y = some v → plusH s.heap (capC X.env.cells) H y = some v := fun y v q => by
    rw [plus_out fun z => ?_]; exact q
    rw [(hc y z).1.no] at q; cases q
  have un : Un X.fs [] X.H_0 H X.s_0.heap s.heap := by
    have z := I.base
    rw [hx] at z
    exact z
  refine ⟨v, _, I.os, I.bare, ⟨fun b o g n nf ne => ?_, fun b o g n nf ne => ?_, fun b o g n ne => ?_, fun b o g ne => un.there b o g ne, fun b xs q => out b _ (un.tups b xs q), fun b o u q => out b _ (un.frzs b o u q), fun b ps q => ?_⟩, fun b u q => ?_, rv, q⟩
  · exact un.keep b o g n (by rw [hfs]; exact nf) ne
  · exact un.slot b o g n (by rw [hfs]; exact nf) ne
  · rw [plus_out fun m => absurd (Nat.lt_of_lt_of_le (Heap.lt_size g) (hc b m).2) (Nat.lt_irrefl _)]
    exact un.free b o g n ne
  · obtain ⟨more, e⟩ := un.tbls b ps q
    exact ⟨more, out b _ e⟩
  · by_cases m : b ∈ capC X.env.cells
    · obtain ⟨o, v, g, _⟩ := (hc b m).1.at'
      rw [plus_in m g] at q
      cases q
      exact xo_ok g
    · rw [plus_out m] at q
      exact (I.hok b u q).stay (fun d v _ q => q) (fun d q => out d _ q) fun d xs q => out d _ q
end
/-- what the top has written of a def, its code object known -/
structure FunV (K : PySem.W.Frag) (x qual : Str) (st : Stmt) (cdv : Value) (f : Addr) (fd : FuncData) : Prop where
  ex : ∃ (oc : Value) (od : Option Addr) (kV doc pm : Value) (an : Option Addr) (ct : Value) (osl : Array (Option Value)),
    fd = (PySem.W.fnOf x qual (defArgs st) (defBody st) (defScope st) .none kV doc pm an cdv ct) ∧ K.lookup f = some ⟨oc, od, .func fd, osl⟩ ∧ (PySem.W.codeIn K cdv qual = true)
theorem FunV.ok {P : Program} {w : World} {K : PySem.W.Frag} {mg : Str → Option Value} {base : Heap} {x qual : Str} {st : Stmt} {f : Addr} {fd : FuncData} {N ps : List Str} {k : Nat} {sp : Sp} {cdv : Value} (F : FunV K x qual st cdv f fd) (S : FnScope N ps (defScope st)) (len : ∀ vs H Q E, sp vs H Q E → vs.length = ps.length)
    (bd : ∀ (B : Around) (out : List Env) (t : Shared) (G : Hp) (us : List V) (R : VK) (U : XK), Room k (B.deeper (envOfC qual (defScope st) t.heap.objs.size f cdv)) → sp us G R U →
      ∃ y, PSs (cxOf CX0 P w K mg base N qual (defScope st) f cdv B out t G U).nox (defBody st) y ∧ y { nx := fun _ G' => R .non G', rt := R } (L2.start N us) G) : FnOk P w K mg base CX0 (k + 1) f fd ps sp := by
  obtain ⟨oc, od, kV, doc, pm, an, ct, osl, rfl, lk, hcd⟩ := F.ex
  refine fn_of lk hcd S len fun B out t G us R U r z => ?_
  obtain ⟨y, h1, h2⟩ := bd B out t G us R U r z
  exact ⟨y, h1.nox, h2⟩
/-- a def whose last row hands a slot back: what it hands back is judged with its cells told -/
theorem fn_plus {P : Program} {w : World} {K : PySem.W.Frag} {mg : Str → Option Value} {base : Heap} {x qual : Str} {st : Stmt} {f : Addr} {fd : FuncData} {N ps : List Str} {k i : Nat} {a : Str} {p1 p2 : Pos} {init : List Stmt} {sp : Sp} {cdv : Value} (F : FunV K x qual st cdv f fd) (Sc : FnScope N ps (defScope st)) (len : ∀ vs H Q E, sp vs H Q E → vs.length = ps.length)
    (hlast : defBody st = init ++ [.Return (some (.Name a p1)) p2]) (hN : N[i]? = some a) (hv : Vis (defScope st) a)
    (hbody : ∀ (A : Around) (outer : List Env) (s : Shared) (H : Hp) (vs : List V) (Q : VK) (E : XK), Room k (A.deeper (envOfC qual (defScope st) s.heap.objs.size f cdv)) → sp vs H Q E →
      ∃ t, PSs (cxOf CX0 P w K mg base N qual (defScope st) f cdv A outer s H E).nox init t ∧ t { nx := fun σ Hz => ∃ v, σ[i]? = some (some v) ∧ ∀ G, Plus (cxOf CX0 P w K mg base N qual (defScope st) f cdv A outer s H E) σ Hz G → Q v G, rt := fun _ _ => False } (L2.start N vs) H)
    (hd : (a == ("__debug__" : Str)) = false := by decide) (hcd : (a == ("__classdict__" : Str)) = false := by decide) : FnOk P w K mg base CX0 (k + 1) f fd ps sp := by
  obtain ⟨oc, od, kV, doc, pm, an, ct, osl, rfl, lk, hcd'⟩ := F.ex
  refine ⟨len, fun A outer s H args as vs Q E hr env0 bnd r hs0 => ?_⟩
  have ell := len _ _ _ _ hs0
  have Kin : K.In s.heap := env0.mod.kin.keeps fun b o e => (env0.bs b o e).1
  have lm : s.heap.NoLimit := env0.mod.nolimit.keeps fun b o e => (env0.bs b o e).1
  have hk : ∀ x0 ∈ ps.zip as, (defScope st).names.lookup x0.1 = some .local ∨ ((defScope st).names.lookup x0.1 = some .cell ∧ ((cellsFrom (s.heap.objs.size + 1) (defScope st).names []).lookup x0.1).isSome = true) := fun ⟨n, v⟩ hy => by
    rcases Sc.par n (List.of_mem_zip hy).1 with q | q
    · exact .inl q
    · exact .inr ⟨q, (PySem.W.cellsFrom_some _ _ _ (.inl q))⟩
  refine codeAny_call_function hr.depth (Kin _ _ lk) rfl Sc.co Sc.gen rfl (PySem.W.codeRec_of Kin hcd') (bnd _ _ _ _ ?_)
  refine wpAny_newFunctionEnv_cells Sc.kind hk fun env he sa x => ?_
  subst he
  refine ⟨lm.keeps x.toInCall.keep, codeAny_func ?_⟩
  obtain ⟨t, hpp, hqq⟩ := hbody A outer s H vs Q E (hr.deeper _) hs0
  have I : Inv (cxOf CX0 P w K mg base N qual (defScope st) f cdv A outer s H E) [] (start N vs) H sa := inv_start Sc hr.hd env0 ell r x
  rw [hlast]
  refine execs_snoc (wpAny_mono (hpp.nox.run [] sa (start N vs) H _ I hqq) (fun fl sz hx => ?_) fun e sz hx => hx)
  cases fl with
  | ret u =>
    obtain ⟨v, σz, Hz, I2, rv, q⟩ := hx
    exact q.elim
  | next =>
    obtain ⟨σz, Hz, I2, v, hv', q⟩ := hx
    refine wpAny_execs_cons (wpAny_Return_some (wpAny_mono ((pe_var (X := cxOf CX0 P w K mg base N qual (defScope st) f cdv A outer s H E) (pos := p1) (i := i) hN hv hd hcd).run [] sz σz Hz (fun x0 H2 => x0 = v ∧ H2 = Hz) I2 ⟨v, hv', rfl, rfl⟩) (fun u sb hu => ?_) fun _ _ z => z))
    obtain ⟨x0, H2, I3, rv, ey, eH⟩ := hu
    subst ey
    subst eH
    exact ce_cells I3 rfl rfl (fun _ _ _ => rfl) rv (q _ (plus_of I3 fun x0 c e => ⟨I3.freeC x0 c e, fun o g => g⟩))
  | brk =>
    obtain ⟨_, _, _, q⟩ := hx
    exact False.elim q
  | cont =>
    obtain ⟨_, _, _, q⟩ := hx
    exact False.elim q
end CK

/-! CK: a lambda that is known by its text and by what its cells hold. -/
namespace CK
open PySem L2 PyProof.Rows LamX NdefX
def lamP : Expr → Arguments
  | .Lambda a _ _ _ => a
  | _ => ⟨[], [], none, [], [], none, []⟩
def lamB : Expr → Expr
  | .Lambda _ b _ _ => b
  | e => e
def lamS : Expr → Scope
  | .Lambda _ _ s _ => s
  | _ => default
structure LamK (H : Hp) (f : Addr) (e : Expr) (fr : List Str) (ws : List (Option V)) : Prop where
  ex : ∃ F, H f = some (LamO f F) ∧ H F.c = some (CodeO F.c F.qual) ∧ F.params = lamP e ∧ F.body = lamB e ∧ F.scope = lamS e ∧ Cap H F.cl fr ws ∧ f ∉ capC F.cl ∧ F.c ∉ capC F.cl
theorem lamO_tbl {f : Addr} {F : LF} {ps : Array Value} : LamO f F ≠ .tbl ps := fun z => by cases z
theorem xo_tbl {o : Obj} {c : Addr} {ps : Array Value} : XO o c ≠ .tbl ps := fun z => by cases z
theorem LamK.ext {H H' : Hp} {f : Addr} {e : Expr} {fr : List Str} {ws : List (Option V)} (L : LamK H f e fr ws) (h : ExtN H H') : LamK H' f e fr ws := by
  obtain ⟨F, h1, h2, h3, h4, h5, C, h6, h7⟩ := L.ex
  exact ⟨F, h _ _ h1 (fun ps => lamO_tbl), h _ _ h2 (fun ps => codeO_ne ps), h3, h4, h5, ⟨C.len, fun y c e => (by obtain ⟨o, v, q, d⟩ := C.all y c e; exact ⟨o, v, h _ _ q (fun ps => xo_tbl), d⟩), C.inj, fun i y e => (by obtain ⟨c, o, e1, q, k⟩ := C.has i y e; exact ⟨c, o, e1, h _ _ q (fun ps => xo_tbl), k⟩)⟩, h6, h7⟩
theorem LamK.same {H H' : Hp} {f : Addr} {e : Expr} {fr : List Str} {ws : List (Option V)} (L : LamK H f e fr ws) (h : Same H H') : LamK H' f e fr ws := L.ext fun b o q _ => h b o q
/-- made, its cells not told yet -/
structure LmAt (cells : List (Str × Addr)) (H : Hp) (f : Addr) (e : Expr) : Prop where
  ex : ∃ F, H f = some (LamO f F) ∧ H F.c = some (CodeO F.c F.qual) ∧ F.params = lamP e ∧ F.body = lamB e ∧ F.scope = lamS e ∧ F.cl = cloFrom cells (lamS e).names []
theorem LmAt.ext {cells : List (Str × Addr)} {H H' : Hp} {f : Addr} {e : Expr} (L : LmAt cells H f e) (h : ExtN H H') : LmAt cells H' f e := by
  obtain ⟨F, h1, h2, k⟩ := L.ex
  exact ⟨F, h _ _ h1 (fun ps => lamO_tbl), h _ _ h2 (fun ps => codeO_ne ps), k⟩
theorem LmAt.up {cells : List (Str × Addr)} {H : Hp} {f a : Addr} {e : Expr} {xs : List V} {o : HO} (L : LmAt cells H f e) (ha : H a = some (.lst xs)) : LmAt cells (upd H a o) f e := by
  obtain ⟨F, h1, h2, k⟩ := L.ex
  have n1 : f ≠ a := fun z => by rw [z, ha] at h1; cases h1
  have n2 : F.c ≠ a := fun z => by rw [z, ha] at h2; unfold CodeO at h2; cases h2
  exact ⟨F, by rw [upd_ne n1]; exact h1, by rw [upd_ne n2]; exact h2, k⟩
/-- made in the frame X, its cells told -/
theorem lamK_plus {X : Cx} {σ : L2.St} {H G : Hp} {e : Expr} {fr : List Str} {js : List Nat} {F : LF} {f : Addr} (P0 : Plus X σ H G) (hp : F.params = lamP e) (hb : F.body = lamB e) (hs : F.scope = lamS e) (ecl : F.cl = cloFrom X.env.cells (lamS e).names [])
    (hfree : ∀ y ∈ (lamS e).names, y.2 = .free → X.env.scope.names.lookup y.1 = some .cell ∨ X.env.scope.names.lookup y.1 = some .free) (hfr : ∀ y ∈ fr, (y, NameKind.free) ∈ (lamS e).names) (hjs : js.map (fun j => X.N[j]?) = fr.map some)
    (hf : H f = some (LamO f F)) (hc : H F.c = some (CodeO F.c F.qual)) : LamK G f e fr (slots σ js) := by
  have old : ∀ b o, H b = some o → b ∉ capC X.env.cells := fun b o q m => by rw [P0.no b m] at q; cases q
  refine ⟨F, (P0.off f (old f _ hf)).trans hf, (P0.off _ (old _ _ hc)).trans hc, hp, hb, hs, ?_, fun m => ?_, fun m => ?_⟩
  · rw [ecl]; exact cap_of_plus P0 hfree hfr hjs
  · rw [ecl] at m; exact old f _ hf (cap_sub P0 hfree m)
  · rw [ecl] at m; exact old _ _ hc (cap_sub P0 hfree m)
theorem LmAt.known {X : Cx} {σ : L2.St} {H G : Hp} {e : Expr} {fr : List Str} {js : List Nat} {f : Addr} (L : LmAt X.env.cells H f e) (P0 : Plus X σ H G)
    (hfree : ∀ y ∈ (lamS e).names, y.2 = .free → X.env.scope.names.lookup y.1 = some .cell ∨ X.env.scope.names.lookup y.1 = some .free) (hfr : ∀ y ∈ fr, (y, NameKind.free) ∈ (lamS e).names) (hjs : js.map (fun j => X.N[j]?) = fr.map some) : LamK G f e fr (slots σ js) := by
  obtain ⟨F, h1, h2, h3, h4, h5, h6⟩ := L.ex
  exact lamK_plus P0 h3 h4 h5 h6 hfree hfr hjs h1 h2
/-- what it does -/
theorem LamK.work {P : Program} {w : World} {K : PySem.W.Frag} {mg : Str → Option Value} {base : Heap} {H : Hp} {f : Addr} {e : Expr} {N fr : List Str} {ws : List (Option V)} {k : Nat} {tb : XK → TE} {Q : VK} {E : XK} (L : LamK H f e fr ws) (S : NScope N [] fr (lamS e))
    (hbind : ∀ qual cl pm c ctv, bindArgs (PySem.W.kla_fn "<lambda>" qual (lamP e) (lamB e) (lamS e) cl pm c ctv) ⟨[], []⟩ = pure [])
    (hbody : ∀ (qual : Str) (cl : List (Str × Addr)) (c : Addr) (A : Around) (outer : List Env) (s : Shared) (G : Hp) (U : XK), Room k (A.deeper (envF ⟨"<lambda>", qual, lamP e, [], lamS e, cl, c⟩ f s.heap.objs.size)) → PE (ncx (L2N.CX P w) P w K mg base N ⟨"<lambda>", qual, lamP e, [], lamS e, cl, c⟩ f A outer s G U) (lamB e) (tb U))
    (h : ∀ cs, (∀ c ∈ cs, ∃ o, H c = some (XO o c)) → tb (bkE cs H E) (startF N [] ws) (ctH cs H) (bkQ cs H Q)) : Work P w K mg base (k + 1) f H Q E := by
  obtain ⟨⟨qual, pr, bd, sc, cl, c⟩, h1, h2, rfl, rfl, rfl, C, h6, h7⟩ := L.ex
  exact work_lam (tb := tb (bkE (capC cl) H E)) S h1 h2 (fun pm ctv => hbind qual cl pm _ ctv) C h6 h7 (fun A outer s hr => hbody qual cl c A outer s _ _ hr) (h _ C.exact)
theorem Plus.same {X : Cx} {σ : L2.St} {H G : Hp} (P0 : Plus X σ H G) : Same H G := fun b o q => (P0.off b fun m => by rw [P0.no b m] at q; cases q).trans q
theorem Plus.nox {X : Cx} {σ : L2.St} {H G : Hp} (P0 : Plus X σ H G) : Plus X.nox σ H G := ⟨P0.off, P0.no, P0.at', P0.inj, P0.has, P0.val⟩
end CK

/-! CK: a lambda with one default: made, known, called without arguments. -/
namespace CK
open PySem L2 PyProof.Rows LamX NdefX
/-- the function object, its defaults' tuple at T -/
def lamAtD (f : Addr) (F : LF) (T : Addr) (h : Heap) : Prop := ∃ doc pm ctv, h.get? f = some (PySem.W.kdv_obj "<lambda>" F.qual F.params (.expr F.body) F.scope F.cl (.ref T) doc pm F.c ctv)
def LamOD (f : Addr) (F : LF) (T : Addr) : HO := .ext (lamAtD f F T)
theorem lamOD_tbl {f T : Addr} {F : LF} {ps : Array Value} : LamOD f F T ≠ .tbl ps := fun z => by cases z
section
variable {X : Cx} {pins : List (Addr × Obj)} {σ : L2.St} {H : Hp} {s : Shared}
theorem inv_lamD {F : LF} {T : Addr} {doc pm ctv : Value} {tk : Nat} (I : Inv X pins σ H s) :
    Inv X pins σ (upd H s.heap.objs.size (LamOD s.heap.objs.size F T)) { s with heap := s.heap.push (PySem.W.kdv_obj "<lambda>" F.qual F.params (.expr F.body) F.scope F.cl (.ref T) doc pm F.c ctv), toks := tk } := by
  have at' : (s.heap.push (PySem.W.kdv_obj "<lambda>" F.qual F.params (.expr F.body) F.scope F.cl (.ref T) doc pm F.c ctv)).get? s.heap.objs.size = some (PySem.W.kdv_obj "<lambda>" F.qual F.params (.expr F.body) F.scope F.cl (.ref T) doc pm F.c ctv) := Heap.get?_push_size _ rfl
  refine I.laid (fun b u q => Heap.get?_push_of_some _ q) (Nat.le_refl _) ⟨⟨doc, pm, ctv, at'⟩, ⟨_, at'⟩, ?_⟩
  rintro g1 g2 ⟨z1, z2, z3, z⟩ st
  exact ⟨z1, z2, z3, st _ z⟩
/-- the reading: the default's value, its tuple, the lambda -/
def tLmD (TT : List NTab) (te : TE) (mk : Addr → LF) : TE := fun σ H Q => te σ H fun v H0 => TabsN TT H0 ∧ ∀ (f c' T : Addr) (H1 : Hp), ExtN H0 H1 → (∀ b, H1 b = none → H0 b = none) → TabsN TT H1 → H1 T = some (.tup [v]) → H1 f = some (LamOD f (mk c') T) → H1 c' = some (CodeO c' (mk c').qual) → Q (.ref f) H1
theorem pe_lmD {TT : List NTab} {nm : Nat → Nat → Str} {c P : Addr} {params : Arguments} {body dflt : Expr} {te : TE} {scope : Scope} {pos : Pos} (TB : TabB X.base X.mg c P) (hcode : X.env.code = .ref c) (hm : (P, nm) ∈ TT) (hn : nm pos.line pos.col = X.env.qual ++ "<lambda>") (hu : ∀ p ∈ TT, p.1 = P → p.2 = nm)
    (hfree : ∀ y ∈ scope.names, y.2 = .free → X.env.scope.names.lookup y.1 = some .cell ∨ X.env.scope.names.lookup y.1 = some .free) (he : PE X dflt te) (hdef : defaultsOf params X.env = ([eval dflt X.env], [])) :
    PE X (.Lambda params body scope pos) (tLmD TT te fun c' => ⟨X.env.qual ++ "<lambda>", params, body, scope, cloFrom X.env.cells scope.names [], c'⟩) := by
  refine ⟨fun pins s σ H Q I h => ?_⟩
  have e0 : eval (.Lambda params body scope pos) X.env = (do let dv ← evalAll [eval dflt X.env]; let kdv ← holding dv (evalAllOpt []); makeFunction "<lambda>" (X.env.qual ++ "<lambda>") params (.expr body) scope X.env dv kdv [] pos pos.line) := by
    rw [show eval (.Lambda params body scope pos) X.env = (do let (d, kd) := defaultsOf params X.env; let dv ← evalAll d; let kdv ← holding dv (evalAllOpt kd); makeFunction "<lambda>" (X.env.qual ++ "<lambda>") params (.expr body) scope X.env dv kdv [] pos pos.line) from rfl, hdef]
  rw [e0]
  refine wpAny_bind (wpAny_evalAll_cons (thn (he.run pins s σ H _ I h) fun u s1 ⟨v, H0, I0, r0, hT, kq⟩ => ?_))
  refine wpAny_evalAll_nil (wpAny_bind (wpAny_holding (wpAny_pure ?_)))
  rw [makeFunction_eq]
  simp only [List.zip_nil_right, List.filterMap_nil, List.isEmpty_nil, if_true, pure_bind, List.isEmpty_cons, Bool.false_eq_true, if_false]
  refine wpAny_bind (wpAny_newTextTuple ?_)
  have nT0 : H0 s1.heap.objs.size = none := I0.hok.fresh (Nat.le_refl _)
  have IT : Inv X pins σ (upd H0 s1.heap.objs.size (.tup [v])) { s1 with heap := s1.heap.push (PySem.W.kdv_tup [u]) } :=
    I0.laid (t' := s1.toks) (fun b o q => Heap.get?_push_of_some _ q) (Nat.le_refl _) ⟨(show 1 ≤ sizeLine by rw [sizeLine_eq]; decide), [u], .cons r0 .nil, _, Heap.get?_push_size _ rfl, rfl, 0, rfl⟩
  have eT : (upd H0 s1.heap.objs.size (.tup [v])) s1.heap.objs.size = some (.tup [v]) := upd_same
  have sT : ∀ b o, H0 b = some o → (upd H0 s1.heap.objs.size (.tup [v])) b = some o := fun b o q => by rw [upd_ne (ne_of_none q nT0)]; exact q
  have nT : ∀ b, (upd H0 s1.heap.objs.size (.tup [v])) b = none → H0 b = none := fun b q => upd_none q
  have hT := hT.ext sT
  generalize upd H0 s1.heap.objs.size (.tup [v]) = G at *
  generalize s1.heap.objs.size = T at *
  generalize ({ s1 with heap := s1.heap.push (PySem.W.kdv_tup [u]) } : Shared) = s2 at *
  have has : ∀ y ∈ scope.names, y.2 = .free → ∃ a, X.env.cells.lookup y.1 = some a := fun y hy e => by
    rcases hfree y hy e with z | z
    · exact IT.ok.has _ (.inl z)
    · exact IT.ok.has _ (.inr z)
  obtain ⟨ps, hP, tri, told⟩ := hT _ hm
  have bt := TB.bm.keeps IT.bk
  have there := IT.hok P _ hP
  have glob := IT.mod.glob.keeps IT.bk
  have hd := TB.code.keeps IT.bk
  match ec : codeAmong pos ps.toList with
  | none =>
    refine PySem.W.kdv_makeTail (closure_ok has) IT.ok.glob glob hcode hd there tri ec TB.gP bt fun c' ctv doc g tk ext low high rec tab => ?_
    obtain ⟨c2, oc, vs, t, q1, q2, q3, q4⟩ := rec
    obtain rfl : c' = c2 := Value.ref.inj q1
    have J := inv_table (t' := tk) IT hP (fun b o n e => ext b o n e) tab low ⟨oc, vs, t, q2, q3, q4⟩
    have nc : G c' = none := IT.hok.fresh low
    have L := inv_lamD (F := ⟨X.env.qual ++ "<lambda>", params, body, scope, cloFrom X.env.cells scope.names [], c'⟩) (T := T) (doc := doc) (pm := (X.mg "__name__").getD .none) (ctv := ctv) (tk := tk) J
    have nf := J.hok.fresh (Nat.le_refl g.objs.size)
    have nP : P ≠ c' := ne_of_none hP nc
    have keep : ∀ b o, G b = some o → (∀ ps, o ≠ .tbl ps) → (upd (upd (upd G P (.tbl (ps ++ #[rawInt pos.line, rawInt pos.col, .ref c']))) c' (CodeO c' (X.env.qual ++ "<lambda>"))) g.objs.size (LamOD g.objs.size ⟨X.env.qual ++ "<lambda>", params, body, scope, cloFrom X.env.cells scope.names [], c'⟩ T)) b = some o := fun b o e no => by
      have n1 : b ≠ P := fun z => by rw [z, hP] at e; exact no ps (Option.some.inj e).symm
      have n2 : b ≠ c' := ne_of_none e nc
      have e2 : (upd (upd G P (.tbl (ps ++ #[rawInt pos.line, rawInt pos.col, .ref c']))) c' (CodeO c' (X.env.qual ++ "<lambda>"))) b = some o := by rw [upd_ne n2, upd_ne n1]; exact e
      rw [upd_ne (ne_of_none e2 nf)]
      exact e2
    refine ⟨.ref g.objs.size, _, L, rfl, kq g.objs.size c' T _ (fun b o e no => keep b o (sT b o e) no) (fun b e => nT b (upd_none (upd_none (upd_none e)))) ?_ (keep _ _ eT fun _ z => by cases z) upd_same ?_⟩
    · exact (tabs_grow hT hu hP nc hn).ext fun b o e => by rw [upd_ne (ne_of_none e nf)]; exact e
    · rw [upd_ne (Nat.ne_of_lt high)]
      exact upd_same
  | some cv =>
    obtain ⟨c', rfl, hco⟩ := told pos cv ec
    have hco : G c' = some (CodeO c' (nm pos.line pos.col)) := hco
    rw [hn] at hco
    refine PySem.W.kdv_makeTailHit (closure_ok has) IT.ok.glob glob hcode hd there tri ec bt fun ctv doc g tk keep low => ?_
    have J : Inv X pins σ G { s2 with heap := g, toks := tk } := IT.kept keep
    have nf : G g.objs.size = none := J.hok.fresh (Nat.le_refl _)
    have L := inv_lamD (F := ⟨X.env.qual ++ "<lambda>", params, body, scope, cloFrom X.env.cells scope.names [], c'⟩) (T := T) (doc := doc) (pm := (X.mg "__name__").getD .none) (ctv := ctv) (tk := tk) J
    have keepG : ∀ b o, G b = some o → (upd G g.objs.size (LamOD g.objs.size ⟨X.env.qual ++ "<lambda>", params, body, scope, cloFrom X.env.cells scope.names [], c'⟩ T)) b = some o := fun b o e => by rw [upd_ne (ne_of_none e nf)]; exact e
    exact ⟨.ref g.objs.size, _, L, rfl, kq g.objs.size c' T _ (fun b o e _ => keepG b o (sT b o e)) (fun b e => nT b (upd_none e)) (hT.ext keepG) (keepG _ _ eT) upd_same (keepG _ _ hco)⟩
end
/-- such a lambda called without arguments -/
theorem lam_callD {CX : CXT} {P : Program} {w : World} {K : PySem.W.Frag} {mg : Str → Option Value} {base : Heap} {N fr : List Str} {a : Str} {F : LF} {f T : Addr} {v : V} {A : Around} {outer : List Env} {s : Shared} {H : Hp} {E : XK} {ws : List (Option V)} {k : Nat} {tb : TE} {Q : VK}
    (S : NScope N [a] fr F.scope) (hr : Room (k + 1) A) (e0 : Env0 P w K mg base A outer s H) (hf : H f = some (LamOD f F T)) (hT : H T = some (.tup [v])) (hc : H F.c = some (CodeO F.c F.qual))
    (hbind : ∀ doc pm ctv, ∃ j, bindArgs (PySem.W.kdv_fn "<lambda>" F.qual F.params (.expr F.body) F.scope F.cl (.ref T) doc pm (.ref F.c) ctv) ⟨[], []⟩ = seqItems? (.ref T) >>= j ∧ ∀ u, j (some #[u]) = pure [(a, u)])
    (C : CellsAt F.cl fr ws s.heap H) (hbody : PE (ncx CX P w K mg base N F.nf f A outer s H E) F.body tb) (h : tb (startF N [v] ws) H Q) :
    codeAny (model P w) A (.call (.ref f) ⟨[], []⟩) (CR CX outer P w H s Q E) s := by
  obtain ⟨⟨doc, pm, ctv, ho⟩, _, _⟩ := e0.hok f _ hf
  obtain ⟨_, its, rv, ⟨ot, h1, h2, n, h3⟩⟩ := (show ObjOk P w H s.heap T (.tup [v]) from e0.hok T _ hT)
  cases rv with
  | cons r0 rv =>
  cases rv
  rename_i u
  obtain ⟨j, b1, b2⟩ := hbind doc pm ctv
  apply PySem.W.kla_callFunE hr.depth ho rfl S.co S.gen rfl (codeO_at e0.hok hc)
  rw [b1]
  refine wpAny_bind (wpAny_seqItems h1 h3 ?_)
  rw [show ([u].toArray : Array Value) = #[u] from rfl, b2]
  have r : Vals [v] [u] := .cons r0 .nil
  have loc : ∀ y ∈ [(a, u)], F.scope.names.lookup y.1 = some .local := fun y hy => by
    rw [List.mem_singleton.mp hy]
    exact S.par a List.mem_cons_self
  have lim : s.heap.NoLimit := e0.mod.nolimit.keeps fun b o e => (e0.bs b o e).1
  refine wpAny_pure (wpAny_newFunctionEnv S.nocell loc (fun g hns sb => ⟨lim.fresh _ sb, ?_⟩) S.kind)
  have kp : ∀ b o, s.heap.get? b = some o → g.get? b = some o := fun b o e => sb.extBut b o (Nat.ne_of_lt (Heap.lt_size e)) (Heap.get?_push_of_some _ e)
  have J := inv_startN (CX := CX) (K := K) (mg := mg) (base := base) (F := F.nf) (f := f) (E := E) (ps := [a]) (us := [u]) (tk := s.toks + 1) S hr.hd e0 rfl r C hns kp
  apply PySem.W.kla_codeExpr
  refine wpAny_mono (hbody.run [] _ _ H Q J h) (fun x s' hq => ?_) fun e s' hq => hq
  obtain ⟨y, H', J', rx, q⟩ := hq
  exact ⟨y, H', J'.os, J'.bare, J'.base, J'.hok, rx, q⟩
theorem work_lamD {P : Program} {w : World} {K : PySem.W.Frag} {mg : Str → Option Value} {base : Heap} {N fr : List Str} {a : Str} {F : LF} {f T : Addr} {v : V} {H : Hp} {E : XK} {ws : List (Option V)} {k : Nat} {tb : TE} {Q : VK}
    (S : NScope N [a] fr F.scope) (hf : H f = some (LamOD f F T)) (hT : H T = some (.tup [v])) (hc : H F.c = some (CodeO F.c F.qual))
    (hbind : ∀ doc pm ctv, ∃ j, bindArgs (PySem.W.kdv_fn "<lambda>" F.qual F.params (.expr F.body) F.scope F.cl (.ref T) doc pm (.ref F.c) ctv) ⟨[], []⟩ = seqItems? (.ref T) >>= j ∧ ∀ u, j (some #[u]) = pure [(a, u)])
    (C : Cap H F.cl fr ws) (nf : f ∉ capC F.cl) (nT : T ∉ capC F.cl) (nc : F.c ∉ capC F.cl)
    (hbody : ∀ (A : Around) (outer : List Env) (s : Shared), Room k (A.deeper (envF F.nf f s.heap.objs.size)) → PE (ncx (L2N.CX P w) P w K mg base N F.nf f A outer s (ctH (capC F.cl) H) (bkE (capC F.cl) H E)) F.body tb) (h : tb (startF N [v] ws) (ctH (capC F.cl) H) (bkQ (capC F.cl) H Q)) : Work P w K mg base (k + 1) f H Q E := by
  refine ⟨⟨_, hf, fun g ⟨doc, pm, ctv, ho⟩ => ⟨_, _, _, _, ho⟩⟩, fun A outer s hr e0 => ?_⟩
  have e1 := env_cut e0 C.exact
  have hf1 : ctH (capC F.cl) H f = some (LamOD f F T) := by rw [ctH_out nf]; exact hf
  have hT1 : ctH (capC F.cl) H T = some (.tup [v]) := by rw [ctH_out nT]; exact hT
  have hc1 : ctH (capC F.cl) H F.c = some (CodeO F.c F.qual) := by rw [ctH_out nc]; exact hc
  exact codeAny_mono (lam_callD (CX := L2N.CX P w) (tb := tb) (E := bkE (capC F.cl) H E) S hr e1 hf1 hT1 hc1 hbind (C.cells e0.hok) (hbody A outer s (hr.deeper _)) h) fun r s' q => cr_cut e0 C.exact q
/-- known by its text, its default and what its cells hold -/
structure LamKD (H : Hp) (f : Addr) (e : Expr) (v : V) (fr : List Str) (ws : List (Option V)) : Prop where
  ex : ∃ F T, H f = some (LamOD f F T) ∧ H T = some (.tup [v]) ∧ H F.c = some (CodeO F.c F.qual) ∧ F.params = lamP e ∧ F.body = lamB e ∧ F.scope = lamS e ∧ Cap H F.cl fr ws ∧ f ∉ capC F.cl ∧ F.c ∉ capC F.cl ∧ T ∉ capC F.cl
structure LmAtD (cells : List (Str × Addr)) (H : Hp) (f : Addr) (e : Expr) (v : V) : Prop where
  ex : ∃ F T, H f = some (LamOD f F T) ∧ H T = some (.tup [v]) ∧ H F.c = some (CodeO F.c F.qual) ∧ F.params = lamP e ∧ F.body = lamB e ∧ F.scope = lamS e ∧ F.cl = cloFrom cells (lamS e).names []
theorem LmAtD.ext {cells : List (Str × Addr)} {H H' : Hp} {f : Addr} {e : Expr} {v : V} (L : LmAtD cells H f e v) (h : ExtN H H') : LmAtD cells H' f e v := by
  obtain ⟨F, T, h1, h2, h3, k⟩ := L.ex
  exact ⟨F, T, h _ _ h1 (fun ps => lamOD_tbl), h _ _ h2 (fun ps z => by cases z), h _ _ h3 (fun ps => codeO_ne ps), k⟩
theorem LmAtD.known {X : Cx} {σ : L2.St} {H G : Hp} {e : Expr} {v : V} {fr : List Str} {js : List Nat} {f : Addr} (L : LmAtD X.env.cells H f e v) (P0 : Plus X σ H G)
    (hfree : ∀ y ∈ (lamS e).names, y.2 = .free → X.env.scope.names.lookup y.1 = some .cell ∨ X.env.scope.names.lookup y.1 = some .free) (hfr : ∀ y ∈ fr, (y, NameKind.free) ∈ (lamS e).names) (hjs : js.map (fun j => X.N[j]?) = fr.map some) : LamKD G f e v fr (slots σ js) := by
  obtain ⟨F, T, h1, h2, h3, h4, h5, h6, h7⟩ := L.ex
  have old : ∀ b o, H b = some o → b ∉ capC X.env.cells := fun b o q m => by rw [P0.no b m] at q; cases q
  refine ⟨F, T, P0.same _ _ h1, P0.same _ _ h2, P0.same _ _ h3, h4, h5, h6, ?_, fun m => ?_, fun m => ?_, fun m => ?_⟩
  · rw [h7]; exact cap_of_plus P0 hfree hfr hjs
  · rw [h7] at m; exact old f _ h1 (cap_sub P0 hfree m)
  · rw [h7] at m; exact old _ _ h3 (cap_sub P0 hfree m)
  · rw [h7] at m; exact old _ _ h2 (cap_sub P0 hfree m)
theorem LamKD.work {P : Program} {w : World} {K : PySem.W.Frag} {mg : Str → Option Value} {base : Heap} {H : Hp} {f : Addr} {e : Expr} {v : V} {a : Str} {N fr : List Str} {ws : List (Option V)} {k : Nat} {tb : XK → TE} {Q : VK} {E : XK} (L : LamKD H f e v fr ws) (S : NScope N [a] fr (lamS e))
    (hbind : ∀ qual cl T doc pm c ctv, ∃ j, bindArgs (PySem.W.kdv_fn "<lambda>" qual (lamP e) (.expr (lamB e)) (lamS e) cl (.ref T) doc pm c ctv) ⟨[], []⟩ = seqItems? (.ref T) >>= j ∧ ∀ u, j (some #[u]) = pure [(a, u)])
    (hbody : ∀ (qual : Str) (cl : List (Str × Addr)) (c : Addr) (A : Around) (outer : List Env) (s : Shared) (G : Hp) (U : XK), Room k (A.deeper (envF ⟨"<lambda>", qual, lamP e, [], lamS e, cl, c⟩ f s.heap.objs.size)) → PE (ncx (L2N.CX P w) P w K mg base N ⟨"<lambda>", qual, lamP e, [], lamS e, cl, c⟩ f A outer s G U) (lamB e) (tb U))
    (h : ∀ cs, (∀ c ∈ cs, ∃ o, H c = some (XO o c)) → tb (bkE cs H E) (startF N [v] ws) (ctH cs H) (bkQ cs H Q)) : Work P w K mg base (k + 1) f H Q E := by
  obtain ⟨⟨qual, pr, bd, sc, cl, c⟩, T, h1, hT, h2, rfl, rfl, rfl, C, h6, h7, h8⟩ := L.ex
  exact work_lamD (tb := tb (bkE (capC cl) H E)) S h1 hT h2 (fun doc pm ctv => hbind qual cl T doc pm _ ctv) C h6 h8 h7 (fun A outer s hr => hbody qual cl c A outer s _ _ hr) (h _ C.exact)
end CK

namespace CK
open PySem L2 PyProof.Rows
def top (i : Nat) : Stmt := PySem.Challenge.pw_looseshelf_k01_what_is_none.main.body.getD i (.Pass ⟨0, 0, 0, 0⟩)
/-- what the top has left -/
structure Txt (K : PySem.W.Frag) (mg : Str → Option Value) (cc : Nat → Addr) : Prop where
  n_abs : mg "abs" = none
  n_all : mg "all" = none
  n_bool : mg "bool" = none
  n_dict : mg "dict" = none
  n_enumerate : mg "enumerate" = none
  n_int : mg "int" = none
  n_isinstance : mg "isinstance" = none
  n_len : mg "len" = none
  n_list : mg "list" = none
  n_max : mg "max" = none
  n_min : mg "min" = none
  n_range : mg "range" = none
  n_str : mg "str" = none
  n_sum : mg "sum" = none
  n_tuple : mg "tuple" = none
  n_zip : mg "zip" = none
  cl : Cls K (cc 0)
  f_places : NoAttr K (cc 0) "places"
  f_ranked : NoAttr K (cc 0) "ranked"
  f_rule : NoAttr K (cc 0) "rule"
  f_total : NoAttr K (cc 0) "total"
  f_wide : NoAttr K (cc 0) "wide"
  x_MOST_PLACES : ∃ t, mg "MOST_PLACES" = some (.int 6 t)
  x_MOST_DEEDS : ∃ t, mg "MOST_DEEDS" = some (.int 12 t)
  x_RULES : ∃ aT, mg "RULES" = some (.ref aT) ∧ ∀ H, SqT K H aT [.str (Tx [110, 101, 97, 114]), .str (Tx [108, 101, 102, 116]), .str (Tx [101, 118, 101, 110])]
section
variable {P : Program} {w : World} {K : PySem.W.Frag} {mg : Str → Option Value} {base : Heap} {cc : Nat → Addr}
abbrev s_inserted : Stmt := top 10
theorem sc_inserted : FnScope ["places", "rank", "at"] ["places", "rank", "at"] (defScope s_inserted) := ⟨rfl, rfl, rfl, by decide +kernel, rfl, by decide +kernel, by decide +kernel⟩
def b_inserted : CP := (cRet (cBin fAdd (cBin fAdd (cSl (cVar 0) pNo (pYes (cVar 1))) (cLst (cCons (cVar 2) cNil))) (cSl (cVar 0) (pYes (cVar 1)) pNo)))
def c_inserted : List CV → CH → Option (CV × CH) := cDef 3 3 b_inserted
theorem ok_inserted {f : Addr} {fd : FuncData} (F : Fun K "inserted" "inserted" s_inserted f fd) (T : Txt K mg cc) : FnOk P w K mg base CX0 1 f fd ["places", "rank", "at"] (spOf cc c_inserted) := by
  refine def_ok (N := ["places", "rank", "at"]) (ps := ["places", "rank", "at"]) (b := b_inserted) F sc_inserted fun cdv A outer s H E hr => ?_
  exact (kss_one (ks_ret (ke_add (ke_add (ke_slice (kv 0) kp_no (kp_yes (kv 1))) (ke_lst (ka_cons (kv 2) ka_nil))) (ke_slice (kv 0) (kp_yes (kv 1)) kp_no))))

abbrev s_laid_evenly : Stmt := top 11
theorem sc_laid_evenly : FnScope ["wide", "many", "rank"] ["wide", "many"] (defScope s_laid_evenly) := ⟨rfl, rfl, rfl, by decide +kernel, rfl, by decide +kernel, by decide +kernel⟩
def b_laid_evenly : CP := (cRet (cLc 200 (ciR1 (cCons (cVar 1) cNil)) (.nm 2) cYes (cBin (fIntC cDivOk fun i j => i / j) (cBin fMul (cVar 2) (cVar 0)) (cVar 1)) [2]))
def c_laid_evenly : List CV → CH → Option (CV × CH) := cDef 2 3 b_laid_evenly
theorem ok_laid_evenly {f : Addr} {fd : FuncData} (F : Fun K "laid_evenly" "laid_evenly" s_laid_evenly f fd) (T : Txt K mg cc) : FnOk P w K mg base CX0 1 f fd ["wide", "many"] (spOf cc c_laid_evenly) := by
  refine def_ok (N := ["wide", "many", "rank"]) (ps := ["wide", "many"]) (b := b_laid_evenly) F sc_laid_evenly fun cdv A outer s H E hr => ?_
  exact (kss_one (ks_ret (ke_lc (own := [("rank", 2)]) 200 (.nm 2) rfl sc_laid_evenly.nd (ki_range1 rfl T.n_range (ka_cons (kv 1) ka_nil)) (blkOk_by (N := ["wide", "many", "rank"]) (sc := defScope s_laid_evenly) (by decide +kernel)) (fun _ _ _ _ _ => pg_name (i := 2) sc_laid_evenly.nd rfl (Or.inl rfl)) (fun _ _ _ _ _ => kts_nil) (fun _ _ _ _ _ => (ke_div (ke_mul (kv 2) (kv 0)) (kv 1))))))

abbrev s_free_ahead : Stmt := top 12
theorem sc_free_ahead : FnScope ["places", "low", "free", "at"] ["places", "low"] (defScope s_free_ahead) := ⟨rfl, rfl, rfl, by decide +kernel, rfl, by decide +kernel, by decide +kernel⟩
def b_free_ahead : CP := (cSeq (cAsg (cLc 200 (ciR1 (cCons (cVar 1) cNil)) (.nm 3) (cTst (cBin (fIn true) (cVar 3) (cVar 0))) (cVar 3) [3]) (cgN 2))
    (cRet (cIfE (cTru (cVar 2)) (cBin fIx (cVar 2) (cUn fNeg (cC (.int 1)))) (cC .non))))
def c_free_ahead : List CV → CH → Option (CV × CH) := cDef 2 4 b_free_ahead
theorem ok_free_ahead {f : Addr} {fd : FuncData} (F : Fun K "free_ahead" "free_ahead" s_free_ahead f fd) (T : Txt K mg cc) : FnOk P w K mg base CX0 1 f fd ["places", "low"] (spOf cc c_free_ahead) := by
  refine def_ok (N := ["places", "low", "free", "at"]) (ps := ["places", "low"]) (b := b_free_ahead) F sc_free_ahead fun cdv A outer s H E hr => ?_
  exact (kss_cons (ks_setLc (i := 2) (own := [("at", 3)]) 200 (.nm 3) rfl sc_free_ahead.nd rfl rfl (sw_true rfl rfl rfl (by decide +kernel)) (ki_range1 rfl T.n_range (ka_cons (kv 1) ka_nil)) (blkOk_by (N := ["places", "low", "free", "at"]) (sc := defScope s_free_ahead) (by decide +kernel)) (fun _ _ _ _ _ => pg_name (i := 3) sc_free_ahead.nd rfl (Or.inl rfl)) (fun _ _ _ _ _ => kts_one (kt_notIn (kv 3) (kv 0))) (fun _ _ _ _ _ => (kv 3)))
    (kss_one (ks_ret (ke_if (kt_tru (kv 2)) (ke_ix (kv 2) (ke_neg ke_int)) ke_non))))

abbrev s_free_behind : Stmt := top 13
theorem sc_free_behind : FnScope ["wide", "places", "high", "free", "at"] ["wide", "places", "high"] (defScope s_free_behind) := ⟨rfl, rfl, rfl, by decide +kernel, rfl, by decide +kernel, by decide +kernel⟩
def b_free_behind : CP := (cSeq (cAsg (cLc 200 (ciR2 (cCons (cBin fAdd (cVar 2) (cC (.int 1))) (cCons (cVar 0) cNil))) (.nm 4) (cTst (cBin (fIn true) (cVar 4) (cVar 1))) (cVar 4) [4]) (cgN 3))
    (cRet (cIfE (cTru (cVar 3)) (cBin fIx (cVar 3) (cC (.int 0))) (cC .non))))
def c_free_behind : List CV → CH → Option (CV × CH) := cDef 3 5 b_free_behind
theorem ok_free_behind {f : Addr} {fd : FuncData} (F : Fun K "free_behind" "free_behind" s_free_behind f fd) (T : Txt K mg cc) : FnOk P w K mg base CX0 1 f fd ["wide", "places", "high"] (spOf cc c_free_behind) := by
  refine def_ok (N := ["wide", "places", "high", "free", "at"]) (ps := ["wide", "places", "high"]) (b := b_free_behind) F sc_free_behind fun cdv A outer s H E hr => ?_
  exact (kss_cons (ks_setLc (i := 3) (own := [("at", 4)]) 200 (.nm 4) rfl sc_free_behind.nd rfl rfl (sw_true rfl rfl rfl (by decide +kernel)) (ki_range2 rfl T.n_range (ka_cons (ke_add (kv 2) ke_int) (ka_cons (kv 0) ka_nil))) (blkOk_by (N := ["wide", "places", "high", "free", "at"]) (sc := defScope s_free_behind) (by decide +kernel)) (fun _ _ _ _ _ => pg_name (i := 4) sc_free_behind.nd rfl (Or.inl rfl)) (fun _ _ _ _ _ => kts_one (kt_notIn (kv 4) (kv 1))) (fun _ _ _ _ _ => (kv 4)))
    (kss_one (ks_ret (ke_if (kt_tru (kv 3)) (ke_ix (kv 3) ke_int) ke_non))))

abbrev s_is_taken_ahead : Stmt := top 14
theorem sc_is_taken_ahead : FnScope ["rule", "low", "high", "ahead", "behind"] ["rule", "low", "high", "ahead", "behind"] (defScope s_is_taken_ahead) := ⟨rfl, rfl, rfl, by decide +kernel, rfl, by decide +kernel, by decide +kernel⟩
def b_is_taken_ahead : CP := (cSeq (cIf (cTst (cBin fIsN (cVar 3) (cC .non))) (cRet (cC (.bl false))) cSkip)
    (cSeq (cIf (cOr (cTst (cBin fIsN (cVar 4) (cC .non))) (cTst (cBin fEq (cVar 0) (cC (.str [108, 101, 102, 116]))))) (cRet (cC (.bl true))) cSkip)
    (cRet (cBin fLe (cBin (fInt2 fun i j => i - j) (cVar 1) (cVar 3)) (cBin (fInt2 fun i j => i - j) (cVar 4) (cVar 2))))))
def c_is_taken_ahead : List CV → CH → Option (CV × CH) := cDef 5 5 b_is_taken_ahead
theorem ok_is_taken_ahead {f : Addr} {fd : FuncData} (F : Fun K "is_taken_ahead" "is_taken_ahead" s_is_taken_ahead f fd) (T : Txt K mg cc) : FnOk P w K mg base CX0 1 f fd ["rule", "low", "high", "ahead", "behind"] (spOf cc c_is_taken_ahead) := by
  refine def_ok (N := ["rule", "low", "high", "ahead", "behind"]) (ps := ["rule", "low", "high", "ahead", "behind"]) (b := b_is_taken_ahead) F sc_is_taken_ahead fun cdv A outer s H E hr => ?_
  exact (kss_cons (ks_if (kt_isN (kv 3) ke_non) (kss_one (ks_ret ke_bl)) kss_nil)
    (kss_cons (ks_if (PW.pt (kw_or (kt_isN (kv 4) ke_non) (kw_or1 (kt_eq (kv 0) (ke_str [108, 101, 102, 116] (by decide +kernel)))))) (kss_one (ks_ret ke_bl)) kss_nil)
    (kss_one (ks_ret (ke_le (ke_sub (kv 1) (kv 3)) (ke_sub (kv 4) (kv 2)))))))

abbrev s_count_moved : Stmt := top 15
theorem sc_count_moved : FnScope ["places", "laid", "rank", "others", "was", "now"] ["places", "laid", "rank"] (defScope s_count_moved) := ⟨rfl, rfl, rfl, by decide +kernel, rfl, by decide +kernel, by decide +kernel⟩
def b_count_moved : CP := (cSeq (cAsg (cBin fAdd (cSl (cVar 1) pNo (pYes (cVar 2))) (cSl (cVar 1) (pYes (cBin fAdd (cVar 2) (cC (.int 1)))) pNo)) (cgN 3))
    (cRet (cCb fLen (cCons (cLc 200 (ciZ (cCons (cVar 0) (cCons (cVar 3) cNil))) (.tp [4, 5]) (cTst (cBin fNe (cVar 4) (cVar 5))) (cVar 4) [4, 5]) cNil))))
def c_count_moved : List CV → CH → Option (CV × CH) := cDef 3 6 b_count_moved
theorem ok_count_moved {f : Addr} {fd : FuncData} (F : Fun K "count_moved" "count_moved" s_count_moved f fd) (T : Txt K mg cc) : FnOk P w K mg base CX0 1 f fd ["places", "laid", "rank"] (spOf cc c_count_moved) := by
  refine def_ok (N := ["places", "laid", "rank", "others", "was", "now"]) (ps := ["places", "laid", "rank"]) (b := b_count_moved) F sc_count_moved fun cdv A outer s H E hr => ?_
  exact (kss_cons (ks_set (i := 3) sc_count_moved.nd rfl (by first | exact Or.inl rfl | exact Or.inr rfl) (ke_add (ke_slice (kv 1) kp_no (kp_yes (kv 2))) (ke_slice (kv 1) (kp_yes (ke_add (kv 2) ke_int)) kp_no)))
    (kss_one (ks_ret (ke_len rfl T.n_len (ka_cons (ke_lc (own := [("was", 4), ("now", 5)]) 200 (.tp [4, 5]) rfl sc_count_moved.nd (ki_zip rfl T.n_zip (ka_cons (kv 0) (ka_cons (kv 3) ka_nil))) (blkOk_by (N := ["places", "laid", "rank", "others", "was", "now"]) (sc := defScope s_count_moved) (by decide +kernel)) (fun _ _ _ _ _ => pg_tup rfl (pgs_cons (pg_name (i := 4) sc_count_moved.nd rfl (Or.inl rfl)) (pgs_cons (pg_name (i := 5) sc_count_moved.nd rfl (Or.inl rfl)) (pgs_nil)))) (fun _ _ _ _ _ => kts_one (kt_ne (kv 4) (kv 5))) (fun _ _ _ _ _ => (kv 4))) ka_nil)))))

abbrev s_with_new_one : Stmt := top 9
theorem sc_with_new_one : FnScope ["rule", "wide", "places", "rank", "low", "high", "ahead", "behind", "at"] ["rule", "wide", "places", "rank"] (defScope s_with_new_one) := ⟨rfl, rfl, rfl, by decide +kernel, rfl, by decide +kernel, by decide +kernel⟩
def b_with_new_one : CP := (cSeq (cAsg (cIfE (cTst (cBin fGt (cVar 3) (cC (.int 0)))) (cBin fIx (cVar 2) (cBin (fInt2 fun i j => i - j) (cVar 3) (cC (.int 1)))) (cUn fNeg (cC (.int 1)))) (cgN 4))
    (cSeq (cAsg (cIfE (cTst (cBin fLt (cVar 3) (cCb fLen (cCons (cVar 2) cNil)))) (cBin fIx (cVar 2) (cVar 3)) (cVar 1)) (cgN 5))
    (cSeq (cIf (cTst (cBin fGt (cBin (fInt2 fun i j => i - j) (cVar 5) (cVar 4)) (cC (.int 1)))) (cRet (cCb c_inserted (cCons (cVar 2) (cCons (cVar 3) (cCons (cBin (fIntC cDivOk fun i j => i / j) (cBin fAdd (cVar 4) (cVar 5)) (cC (.int 2))) cNil))))) cSkip)
    (cSeq (cIf (cTst (cBin fEq (cVar 0) (cC (.str [101, 118, 101, 110])))) (cRet (cCb c_laid_evenly (cCons (cVar 1) (cCons (cBin fAdd (cCb fLen (cCons (cVar 2) cNil)) (cC (.int 1))) cNil)))) cSkip)
    (cSeq (cAsg (cCb c_free_ahead (cCons (cVar 2) (cCons (cVar 4) cNil))) (cgN 6))
    (cSeq (cAsg (cCb c_free_behind (cCons (cVar 1) (cCons (cVar 2) (cCons (cVar 5) cNil)))) (cgN 7))
    (cSeq (cIf (cTru (cCb c_is_taken_ahead (cCons (cVar 0) (cCons (cVar 4) (cCons (cVar 5) (cCons (cVar 6) (cCons (cVar 7) cNil))))))) (cRet (cCb c_inserted (cCons (cLc 200 (ciL (cVar 2)) (.nm 8) cYes (cIfE (cTst (cChain fLt fLe (cVar 6) (cVar 8) (cVar 4))) (cBin (fInt2 fun i j => i - j) (cVar 8) (cC (.int 1))) (cVar 8)) [8]) (cCons (cVar 3) (cCons (cVar 4) cNil))))) cSkip)
    (cRet (cCb c_inserted (cCons (cLc 200 (ciL (cVar 2)) (.nm 8) cYes (cIfE (cTst (cChain fLe fLt (cVar 5) (cVar 8) (cVar 7))) (cBin fAdd (cVar 8) (cC (.int 1))) (cVar 8)) [8]) (cCons (cVar 3) (cCons (cVar 5) cNil))))))))))))
def c_with_new_one : List CV → CH → Option (CV × CH) := cDef 4 9 b_with_new_one
theorem ok_with_new_one {f : Addr} {fd : FuncData} (F : Fun K "with_new_one" "with_new_one" s_with_new_one f fd) (T : Txt K mg cc) (O_inserted : Own P w K mg base cc 1 "inserted" ["places", "rank", "at"] c_inserted) (O_laid_evenly : Own P w K mg base cc 1 "laid_evenly" ["wide", "many"] c_laid_evenly) (O_free_ahead : Own P w K mg base cc 1 "free_ahead" ["places", "low"] c_free_ahead) (O_free_behind : Own P w K mg base cc 1 "free_behind" ["wide", "places", "high"] c_free_behind) (O_is_taken_ahead : Own P w K mg base cc 1 "is_taken_ahead" ["rule", "low", "high", "ahead", "behind"] c_is_taken_ahead) : FnOk P w K mg base CX0 2 f fd ["rule", "wide", "places", "rank"] (spOf cc c_with_new_one) := by
  refine def_ok (N := ["rule", "wide", "places", "rank", "low", "high", "ahead", "behind", "at"]) (ps := ["rule", "wide", "places", "rank"]) (b := b_with_new_one) F sc_with_new_one fun cdv A outer s H E hr => ?_
  exact (kss_cons (ks_set (i := 4) sc_with_new_one.nd rfl (by first | exact Or.inl rfl | exact Or.inr rfl) (ke_if (kt_gt (kv 3) ke_int) (ke_ix (kv 2) (ke_sub (kv 3) ke_int)) (ke_neg ke_int)))
    (kss_cons (ks_set (i := 5) sc_with_new_one.nd rfl (by first | exact Or.inl rfl | exact Or.inr rfl) (ke_if (kt_lt (kv 3) (ke_len rfl T.n_len (ka_cons (kv 2) ka_nil))) (ke_ix (kv 2) (kv 3)) (kv 1)))
    (kss_cons (ks_if (kt_gt (ke_sub (kv 5) (kv 4)) ke_int) (kss_one (ks_ret (ke_own O_inserted (hr.mono (by decide)) (ka_cons (kv 2) (ka_cons (kv 3) (ka_cons (ke_div (ke_add (kv 4) (kv 5)) ke_int) ka_nil)))))) kss_nil)
    (kss_cons (ks_if (kt_eq (kv 0) (ke_str [101, 118, 101, 110] (by decide +kernel))) (kss_one (ks_ret (ke_own O_laid_evenly (hr.mono (by decide)) (ka_cons (kv 1) (ka_cons (ke_add (ke_len rfl T.n_len (ka_cons (kv 2) ka_nil)) ke_int) ka_nil))))) kss_nil)
    (kss_cons (ks_set (i := 6) sc_with_new_one.nd rfl (by first | exact Or.inl rfl | exact Or.inr rfl) (ke_own O_free_ahead (hr.mono (by decide)) (ka_cons (kv 2) (ka_cons (kv 4) ka_nil))))
    (kss_cons (ks_set (i := 7) sc_with_new_one.nd rfl (by first | exact Or.inl rfl | exact Or.inr rfl) (ke_own O_free_behind (hr.mono (by decide)) (ka_cons (kv 1) (ka_cons (kv 2) (ka_cons (kv 5) ka_nil)))))
    (kss_cons (ks_if (kt_tru (ke_own O_is_taken_ahead (hr.mono (by decide)) (ka_cons (kv 0) (ka_cons (kv 4) (ka_cons (kv 5) (ka_cons (kv 6) (ka_cons (kv 7) ka_nil))))))) (kss_one (ks_ret (ke_own O_inserted (hr.mono (by decide)) (ka_cons (ke_lc (own := [("at", 8)]) 200 (.nm 8) rfl sc_with_new_one.nd (ki_list (kv 2)) (blkOk_by (N := ["rule", "wide", "places", "rank", "low", "high", "ahead", "behind", "at"]) (sc := defScope s_with_new_one) (by decide +kernel)) (fun _ _ _ _ _ => pg_name (i := 8) sc_with_new_one.nd rfl (Or.inl rfl)) (fun _ _ _ _ _ => kts_nil) (fun _ _ _ _ _ => (ke_if (kt_chain m_lt m_le (kv 6) (kv 8) (kv 4)) (ke_sub (kv 8) ke_int) (kv 8)))) (ka_cons (kv 3) (ka_cons (kv 4) ka_nil)))))) kss_nil)
    (kss_one (ks_ret (ke_own O_inserted (hr.mono (by decide)) (ka_cons (ke_lc (own := [("at", 8)]) 200 (.nm 8) rfl sc_with_new_one.nd (ki_list (kv 2)) (blkOk_by (N := ["rule", "wide", "places", "rank", "low", "high", "ahead", "behind", "at"]) (sc := defScope s_with_new_one) (by decide +kernel)) (fun _ _ _ _ _ => pg_name (i := 8) sc_with_new_one.nd rfl (Or.inl rfl)) (fun _ _ _ _ _ => kts_nil) (fun _ _ _ _ _ => (ke_if (kt_chain m_le m_lt (kv 5) (kv 8) (kv 7)) (ke_add (kv 8) ke_int) (kv 8)))) (ka_cons (kv 3) (ka_cons (kv 5) ka_nil)))))))))))))

abbrev s_check_rule : Stmt := top 21
theorem sc_check_rule : FnScope ["rule"] ["rule"] (defScope s_check_rule) := ⟨rfl, rfl, rfl, by decide +kernel, rfl, by decide +kernel, by decide +kernel⟩
def b_check_rule : CP := (cIf (cTst (cUn (fNotInC [.str [110, 101, 97, 114], .str [108, 101, 102, 116], .str [101, 118, 101, 110]]) (cVar 0))) cNever cSkip)
def c_check_rule : List CV → CH → Option (CV × CH) := cDef 1 1 b_check_rule
theorem ok_check_rule {f : Addr} {fd : FuncData} (F : Fun K "check_rule" "check_rule" s_check_rule f fd) (T : Txt K mg cc) : FnOk P w K mg base CX0 1 f fd ["rule"] (spOf cc c_check_rule) := by
  refine def_ok (N := ["rule"]) (ps := ["rule"]) (b := b_check_rule) F sc_check_rule fun cdv A outer s H E hr => ?_
  obtain ⟨_, m_RULES, t_RULES⟩ := T.x_RULES
  exact (kss_one (ks_if (kt_notInK (kv 0) rfl m_RULES t_RULES (fun _ => (.cons rfl (.cons rfl (.cons rfl .nil))))) (kss_one ks_never) kss_nil))

abbrev s_check_width : Stmt := top 22
theorem sc_check_width : FnScope ["wide"] ["wide"] (defScope s_check_width) := ⟨rfl, rfl, rfl, by decide +kernel, rfl, by decide +kernel, by decide +kernel⟩
def b_check_width : CP := (cIf (cNot (cTst (cChain fLe fLe (cC (.int 1)) (cVar 0) (cC (.int (6)))))) cNever cSkip)
def c_check_width : List CV → CH → Option (CV × CH) := cDef 1 1 b_check_width
theorem ok_check_width {f : Addr} {fd : FuncData} (F : Fun K "check_width" "check_width" s_check_width f fd) (T : Txt K mg cc) : FnOk P w K mg base CX0 1 f fd ["wide"] (spOf cc c_check_width) := by
  refine def_ok (N := ["wide"]) (ps := ["wide"]) (b := b_check_width) F sc_check_width fun cdv A outer s H E hr => ?_
  obtain ⟨_, m_MOST_PLACES⟩ := T.x_MOST_PLACES
  exact (kss_one (ks_if (kt_not (kt_chain m_le m_le ke_int (kv 0) (ke_glob (v := .int (6)) (y := .int (6)) (fun _ => rfl) rfl m_MOST_PLACES ⟨_, rfl⟩))) (kss_one ks_never) kss_nil))

abbrev s_check_pattern : Stmt := top 23
theorem sc_check_pattern : FnScope ["pattern", "at", "sign"] ["pattern"] (defScope s_check_pattern) := ⟨rfl, rfl, rfl, by decide +kernel, rfl, by decide +kernel, by decide +kernel⟩
def b_check_pattern : CP := (cSeq (cIf (cTst (cBin fEq (cVar 0) (cC (.str [])))) cNever cSkip)
    (cFor 200 (ciE (cCons (cVar 0) cNil)) (cgTup 2 (cgCons (cgN 1) (cgCons (cgN 2) cgNil))) (cIf (cOr (cTst (cBin fEq (cVar 1) (cC (.int (6))))) (cTst (cBin (fIn true) (cVar 2) (cTup (cCons (cC (.str [48])) (cCons (cC (.str [49])) cNil)))))) cNever cSkip)))
def c_check_pattern : List CV → CH → Option (CV × CH) := cDef 1 3 b_check_pattern
theorem ok_check_pattern {f : Addr} {fd : FuncData} (F : Fun K "check_pattern" "check_pattern" s_check_pattern f fd) (T : Txt K mg cc) : FnOk P w K mg base CX0 1 f fd ["pattern"] (spOf cc c_check_pattern) := by
  refine def_ok (N := ["pattern", "at", "sign"]) (ps := ["pattern"]) (b := b_check_pattern) F sc_check_pattern fun cdv A outer s H E hr => ?_
  obtain ⟨_, m_MOST_PLACES⟩ := T.x_MOST_PLACES
  exact (kss_cons (ks_if (kt_eq (kv 0) (ke_str [] (by decide +kernel))) (kss_one ks_never) kss_nil)
    (kss_one (ks_for 200 PassesOwn.never rfl (ki_enum rfl T.n_enumerate (ka_cons (kv 0) ka_nil)) (kg_tup rfl (kgs_cons (kg_name (i := 1) sc_check_pattern.nd rfl (by first | exact Or.inl rfl | exact Or.inr rfl)) (kgs_cons (kg_name (i := 2) sc_check_pattern.nd rfl (by first | exact Or.inl rfl | exact Or.inr rfl)) kgs_nil))) (kss_one (ks_if (PW.pt (kw_or (kt_eq (kv 1) (ke_glob (v := .int (6)) (y := .int (6)) (fun _ => rfl) rfl m_MOST_PLACES ⟨_, rfl⟩)) (kw_or1 (kt_notIn (kv 2) (ke_tup (ka_cons (ke_str [48] (by decide +kernel)) (ka_cons (ke_str [49] (by decide +kernel)) ka_nil))))))) (kss_one ks_never) kss_nil)))))

abbrev s_places_of : Stmt := top 24
theorem sc_places_of : FnScope ["pattern", "at", "sign"] ["pattern"] (defScope s_places_of) := ⟨rfl, rfl, rfl, by decide +kernel, rfl, by decide +kernel, by decide +kernel⟩
def b_places_of : CP := (cRet (cLc 200 (ciE (cCons (cVar 0) cNil)) (.tp [1, 2]) (cTst (cBin fEq (cVar 2) (cC (.str [49])))) (cVar 1) [1, 2]))
def c_places_of : List CV → CH → Option (CV × CH) := cDef 1 3 b_places_of
theorem ok_places_of {f : Addr} {fd : FuncData} (F : Fun K "places_of" "places_of" s_places_of f fd) (T : Txt K mg cc) : FnOk P w K mg base CX0 1 f fd ["pattern"] (spOf cc c_places_of) := by
  refine def_ok (N := ["pattern", "at", "sign"]) (ps := ["pattern"]) (b := b_places_of) F sc_places_of fun cdv A outer s H E hr => ?_
  exact (kss_one (ks_ret (ke_lc (own := [("at", 1), ("sign", 2)]) 200 (.tp [1, 2]) rfl sc_places_of.nd (ki_enum rfl T.n_enumerate (ka_cons (kv 0) ka_nil)) (blkOk_by (N := ["pattern", "at", "sign"]) (sc := defScope s_places_of) (by decide +kernel)) (fun _ _ _ _ _ => pg_tup rfl (pgs_cons (pg_name (i := 1) sc_places_of.nd rfl (Or.inl rfl)) (pgs_cons (pg_name (i := 2) sc_places_of.nd rfl (Or.inl rfl)) (pgs_nil)))) (fun _ _ _ _ _ => kts_one (kt_eq (kv 2) (ke_str [49] (by decide +kernel)))) (fun _ _ _ _ _ => (kv 1)))))

abbrev s_pattern_of : Stmt := top 25
theorem sc_pattern_of : FnScope ["wide", "places", "at"] ["wide", "places"] (defScope s_pattern_of) := ⟨rfl, rfl, rfl, by decide +kernel, rfl, by decide +kernel, by decide +kernel⟩
def b_pattern_of : CP := (cRet (cMt isS mJoin (cC (.str [])) (cCons (cLc 200 (ciR1 (cCons (cVar 0) cNil)) (.nm 2) cYes (cIfE (cTst (cBin (fIn false) (cVar 2) (cVar 1))) (cC (.str [49])) (cC (.str [48]))) [2]) cNil)))
def c_pattern_of : List CV → CH → Option (CV × CH) := cDef 2 3 b_pattern_of
theorem ok_pattern_of {f : Addr} {fd : FuncData} (F : Fun K "pattern_of" "pattern_of" s_pattern_of f fd) (T : Txt K mg cc) : FnOk P w K mg base CX0 1 f fd ["wide", "places"] (spOf cc c_pattern_of) := by
  refine def_ok (N := ["wide", "places", "at"]) (ps := ["wide", "places"]) (b := b_pattern_of) F sc_pattern_of fun cdv A outer s H E hr => ?_
  exact (kss_one (ks_ret (ke_join (ke_str [] (by decide +kernel)) (ka_cons (ke_lc (own := [("at", 2)]) 200 (.nm 2) rfl sc_pattern_of.nd (ki_range1 rfl T.n_range (ka_cons (kv 0) ka_nil)) (blkOk_by (N := ["wide", "places", "at"]) (sc := defScope s_pattern_of) (by decide +kernel)) (fun _ _ _ _ _ => pg_name (i := 2) sc_pattern_of.nd rfl (Or.inl rfl)) (fun _ _ _ _ _ => kts_nil) (fun _ _ _ _ _ => (ke_if (kt_in (kv 2) (kv 1)) (ke_str [49] (by decide +kernel)) (ke_str [48] (by decide +kernel))))) ka_nil))))

abbrev s_can_be_done : Stmt := top 26
theorem sc_can_be_done : FnScope ["wide", "many", "deed", "what", "rank"] ["wide", "many", "deed"] (defScope s_can_be_done) := ⟨rfl, rfl, rfl, by decide +kernel, rfl, by decide +kernel, by decide +kernel⟩
def b_can_be_done : CP := (cSeq (cAsg (cVar 2) (cgTup 2 (cgCons (cgN 3) (cgCons (cgN 4) cgNil))))
    (cSeq (cIf (cTst (cBin fEq (cVar 3) (cC (.str [112, 117, 116])))) (cRet (cChain3 fLe fLe fLt (cC (.int 0)) (cVar 4) (cVar 1) (cVar 0))) cSkip)
    (cRet (cAndV (cBin fEq (cVar 3) (cC (.str [116, 97, 107, 101]))) (cChain fLe fLt (cC (.int 0)) (cVar 4) (cVar 1))))))
def c_can_be_done : List CV → CH → Option (CV × CH) := cDef 3 5 b_can_be_done
theorem ok_can_be_done {f : Addr} {fd : FuncData} (F : Fun K "can_be_done" "can_be_done" s_can_be_done f fd) (T : Txt K mg cc) : FnOk P w K mg base CX0 1 f fd ["wide", "many", "deed"] (spOf cc c_can_be_done) := by
  refine def_ok (N := ["wide", "many", "deed", "what", "rank"]) (ps := ["wide", "many", "deed"]) (b := b_can_be_done) F sc_can_be_done fun cdv A outer s H E hr => ?_
  exact (kss_cons (ks_asg (kv 2) (kg_tup rfl (kgs_cons (kg_name (i := 3) sc_can_be_done.nd rfl (by first | exact Or.inl rfl | exact Or.inr rfl)) (kgs_cons (kg_name (i := 4) sc_can_be_done.nd rfl (by first | exact Or.inl rfl | exact Or.inr rfl)) kgs_nil))))
    (kss_cons (ks_if (kt_eq (kv 3) (ke_str [112, 117, 116] (by decide +kernel))) (kss_one (ks_ret (ke_chain3 m_le m_le m_lt ke_int (kv 4) (kv 1) (kv 0)))) kss_nil)
    (kss_one (ks_ret (ke_and (ke_eq (kv 3) (ke_str [116, 97, 107, 101] (by decide +kernel))) (ke_one (ke_chain m_le m_lt ke_int (kv 4) (kv 1))))))))

abbrev s_after_deed : Stmt := top 27
theorem sc_after_deed : FnScope ["rule", "wide", "places", "deed", "what", "rank", "laid"] ["rule", "wide", "places", "deed"] (defScope s_after_deed) := ⟨rfl, rfl, rfl, by decide +kernel, rfl, by decide +kernel, by decide +kernel⟩
def b_after_deed : CP := (cSeq (cAsg (cVar 3) (cgTup 2 (cgCons (cgN 4) (cgCons (cgN 5) cgNil))))
    (cSeq (cIf (cTst (cBin fEq (cVar 4) (cC (.str [116, 97, 107, 101])))) (cRet (cTup (cCons (cC (.int 0)) (cCons (cBin fAdd (cSl (cVar 2) pNo (pYes (cVar 5))) (cSl (cVar 2) (pYes (cBin fAdd (cVar 5) (cC (.int 1)))) pNo)) cNil)))) cSkip)
    (cSeq (cAsg (cCb c_with_new_one (cCons (cVar 0) (cCons (cVar 1) (cCons (cVar 2) (cCons (cVar 5) cNil))))) (cgN 6))
    (cRet (cTup (cCons (cCb c_count_moved (cCons (cVar 2) (cCons (cVar 6) (cCons (cVar 5) cNil)))) (cCons (cVar 6) cNil)))))))
def c_after_deed : List CV → CH → Option (CV × CH) := cDef 4 7 b_after_deed
theorem ok_after_deed {f : Addr} {fd : FuncData} (F : Fun K "after_deed" "after_deed" s_after_deed f fd) (T : Txt K mg cc) (O_with_new_one : Own P w K mg base cc 2 "with_new_one" ["rule", "wide", "places", "rank"] c_with_new_one) (O_count_moved : Own P w K mg base cc 1 "count_moved" ["places", "laid", "rank"] c_count_moved) : FnOk P w K mg base CX0 3 f fd ["rule", "wide", "places", "deed"] (spOf cc c_after_deed) := by
  refine def_ok (N := ["rule", "wide", "places", "deed", "what", "rank", "laid"]) (ps := ["rule", "wide", "places", "deed"]) (b := b_after_deed) F sc_after_deed fun cdv A outer s H E hr => ?_
  exact (kss_cons (ks_asg (kv 3) (kg_tup rfl (kgs_cons (kg_name (i := 4) sc_after_deed.nd rfl (by first | exact Or.inl rfl | exact Or.inr rfl)) (kgs_cons (kg_name (i := 5) sc_after_deed.nd rfl (by first | exact Or.inl rfl | exact Or.inr rfl)) kgs_nil))))
    (kss_cons (ks_if (kt_eq (kv 4) (ke_str [116, 97, 107, 101] (by decide +kernel))) (kss_one (ks_ret (ke_tup (ka_cons ke_int (ka_cons (ke_add (ke_slice (kv 2) kp_no (kp_yes (kv 5))) (ke_slice (kv 2) (kp_yes (ke_add (kv 5) ke_int)) kp_no)) ka_nil))))) kss_nil)
    (kss_cons (ks_set (i := 6) sc_after_deed.nd rfl (by first | exact Or.inl rfl | exact Or.inr rfl) (ke_own O_with_new_one (hr.mono (by decide)) (ka_cons (kv 0) (ka_cons (kv 1) (ka_cons (kv 2) (ka_cons (kv 5) ka_nil))))))
    (kss_one (ks_ret (ke_tup (ka_cons (ke_own O_count_moved (hr.mono (by decide)) (ka_cons (kv 2) (ka_cons (kv 6) (ka_cons (kv 5) ka_nil)))) (ka_cons (kv 6) ka_nil))))))))

abbrev s_done : Stmt := top 19
theorem sc_done : FnScope ["rule", "pattern", "deed", "wide", "places", "moves", "laid"] ["rule", "pattern", "deed"] (defScope s_done) := ⟨rfl, rfl, rfl, by decide +kernel, rfl, by decide +kernel, by decide +kernel⟩
def b_done : CP := (cSeq (cDrop (cCb c_check_rule (cCons (cVar 0) cNil)))
    (cSeq (cDrop (cCb c_check_pattern (cCons (cVar 1) cNil)))
    (cSeq (cAsg (cCb fLen (cCons (cVar 1) cNil)) (cgN 3))
    (cSeq (cAsg (cCb c_places_of (cCons (cVar 1) cNil)) (cgN 4))
    (cSeq (cIf (cNot (cTru (cCb c_can_be_done (cCons (cVar 3) (cCons (cCb fLen (cCons (cVar 4) cNil)) (cCons (cVar 2) cNil)))))) cNever cSkip)
    (cSeq (cAsg (cCb c_after_deed (cCons (cVar 0) (cCons (cVar 3) (cCons (cVar 4) (cCons (cVar 2) cNil))))) (cgTup 2 (cgCons (cgN 5) (cgCons (cgN 6) cgNil))))
    (cRet (cTup (cCons (cVar 5) (cCons (cCb c_pattern_of (cCons (cVar 3) (cCons (cVar 6) cNil))) cNil))))))))))
def c_done : List CV → CH → Option (CV × CH) := cDef 3 7 b_done
theorem ok_done {f : Addr} {fd : FuncData} (F : Fun K "done" "done" s_done f fd) (T : Txt K mg cc) (O_check_rule : Own P w K mg base cc 1 "check_rule" ["rule"] c_check_rule) (O_check_pattern : Own P w K mg base cc 1 "check_pattern" ["pattern"] c_check_pattern) (O_places_of : Own P w K mg base cc 1 "places_of" ["pattern"] c_places_of) (O_pattern_of : Own P w K mg base cc 1 "pattern_of" ["wide", "places"] c_pattern_of) (O_can_be_done : Own P w K mg base cc 1 "can_be_done" ["wide", "many", "deed"] c_can_be_done) (O_after_deed : Own P w K mg base cc 3 "after_deed" ["rule", "wide", "places", "deed"] c_after_deed) : FnOk P w K mg base CX0 4 f fd ["rule", "pattern", "deed"] (spOf cc c_done) := by
  refine def_ok (N := ["rule", "pattern", "deed", "wide", "places", "moves", "laid"]) (ps := ["rule", "pattern", "deed"]) (b := b_done) F sc_done fun cdv A outer s H E hr => ?_
  exact (kss_cons (ks_expr (ke_own O_check_rule (hr.mono (by decide)) (ka_cons (kv 0) ka_nil)))
    (kss_cons (ks_expr (ke_own O_check_pattern (hr.mono (by decide)) (ka_cons (kv 1) ka_nil)))
    (kss_cons (ks_set (i := 3) sc_done.nd rfl (by first | exact Or.inl rfl | exact Or.inr rfl) (ke_len rfl T.n_len (ka_cons (kv 1) ka_nil)))
    (kss_cons (ks_set (i := 4) sc_done.nd rfl (by first | exact Or.inl rfl | exact Or.inr rfl) (ke_own O_places_of (hr.mono (by decide)) (ka_cons (kv 1) ka_nil)))
    (kss_cons (ks_if (kt_not (kt_tru (ke_own O_can_be_done (hr.mono (by decide)) (ka_cons (kv 3) (ka_cons (ke_len rfl T.n_len (ka_cons (kv 4) ka_nil)) (ka_cons (kv 2) ka_nil)))))) (kss_one ks_never) kss_nil)
    (kss_cons (ks_asg (ke_own O_after_deed (hr.mono (by decide)) (ka_cons (kv 0) (ka_cons (kv 3) (ka_cons (kv 4) (ka_cons (kv 2) ka_nil))))) (kg_tup rfl (kgs_cons (kg_name (i := 5) sc_done.nd rfl (by first | exact Or.inl rfl | exact Or.inr rfl)) (kgs_cons (kg_name (i := 6) sc_done.nd rfl (by first | exact Or.inl rfl | exact Or.inr rfl)) kgs_nil))))
    (kss_one (ks_ret (ke_tup (ka_cons (kv 5) (ka_cons (ke_own O_pattern_of (hr.mono (by decide)) (ka_cons (kv 3) (ka_cons (kv 6) ka_nil))) ka_nil)))))))))))

abbrev s_Shelf___init__ : Stmt := inClass (top 51) 0
theorem sc_Shelf___init__ : FnScope ["self", "rule", "wide"] ["self", "rule", "wide"] (defScope s_Shelf___init__) := ⟨rfl, rfl, rfl, by decide +kernel, rfl, by decide +kernel, by decide +kernel⟩
def b_Shelf___init__ : CP := (cSeq (cDrop (cCb c_check_rule (cCons (cVar 1) cNil)))
    (cSeq (cDrop (cCb c_check_width (cCons (cVar 2) cNil)))
    (cSeq (cSetF 0 [114, 117, 108, 101] (cVar 0) (cVar 1))
    (cSeq (cSetF 0 [119, 105, 100, 101] (cVar 0) (cVar 2))
    (cSeq (cSetF 0 [114, 97, 110, 107, 101, 100] (cVar 0) (cLst cNil))
    (cSeq (cSetF 0 [112, 108, 97, 99, 101, 115] (cVar 0) (cLst cNil))
    (cSetF 0 [116, 111, 116, 97, 108] (cVar 0) (cC (.int 0)))))))))
def c_Shelf___init__ : List CV → CH → Option (CV × CH) := cDef 3 3 b_Shelf___init__
theorem ok_Shelf___init__ {f : Addr} {fd : FuncData} (F : Fun K "__init__" "Shelf.__init__" s_Shelf___init__ f fd) (T : Txt K mg cc) (O_check_rule : Own P w K mg base cc 1 "check_rule" ["rule"] c_check_rule) (O_check_width : Own P w K mg base cc 1 "check_width" ["wide"] c_check_width) : FnOk P w K mg base CX0 2 f fd ["self", "rule", "wide"] (spOf cc c_Shelf___init__) := by
  refine def_ok (N := ["self", "rule", "wide"]) (ps := ["self", "rule", "wide"]) (b := b_Shelf___init__) F sc_Shelf___init__ fun cdv A outer s H E hr => ?_
  exact (kss_cons (ks_expr (ke_own O_check_rule (hr.mono (by decide)) (ka_cons (kv 1) ka_nil)))
    (kss_cons (ks_expr (ke_own O_check_width (hr.mono (by decide)) (ka_cons (kv 2) ka_nil)))
    (kss_cons (ks_fld (kv 0) (kv 1) T.cl T.f_rule)
    (kss_cons (ks_fld (kv 0) (kv 2) T.cl T.f_wide)
    (kss_cons (ks_fld (kv 0) (ke_lst ka_nil) T.cl T.f_ranked)
    (kss_cons (ks_fld (kv 0) (ke_lst ka_nil) T.cl T.f_places)
    (kss_one (ks_fld (kv 0) ke_int T.cl T.f_total))))))))

abbrev s_Shelf_put_in : Stmt := inClass (top 51) 1
theorem sc_Shelf_put_in : FnScope ["self", "key", "rank", "other", "deed", "moves"] ["self", "key"] (defScope s_Shelf_put_in) := ⟨rfl, rfl, rfl, by decide +kernel, rfl, by decide +kernel, by decide +kernel⟩
def b_Shelf_put_in : CP := (cSeq (cIf (cTst (cBin (fIn false) (cVar 1) (cFld 0 [114, 97, 110, 107, 101, 100] (cVar 0)))) cNever cSkip)
    (cSeq (cAsg (cCb fLen (cCons (cLc 200 (ciL (cFld 0 [114, 97, 110, 107, 101, 100] (cVar 0))) (.nm 3) (cTst (cBin fLt (cVar 3) (cVar 1))) (cVar 3) [3]) cNil)) (cgN 2))
    (cSeq (cAsg (cTup (cCons (cC (.str [112, 117, 116])) (cCons (cVar 2) cNil))) (cgN 4))
    (cSeq (cIf (cNot (cTru (cCb c_can_be_done (cCons (cFld 0 [119, 105, 100, 101] (cVar 0)) (cCons (cCb fLen (cCons (cFld 0 [112, 108, 97, 99, 101, 115] (cVar 0)) cNil)) (cCons (cVar 4) cNil)))))) cNever cSkip)
    (cSeq (cAsg (cCb c_after_deed (cCons (cFld 0 [114, 117, 108, 101] (cVar 0)) (cCons (cFld 0 [119, 105, 100, 101] (cVar 0)) (cCons (cFld 0 [112, 108, 97, 99, 101, 115] (cVar 0)) (cCons (cVar 4) cNil))))) (cgTup 2 (cgCons (cgN 5) (cgCons (cgFld 0 [112, 108, 97, 99, 101, 115] (cVar 0)) cgNil))))
    (cSeq (cDrop (cMt isL mInsert (cFld 0 [114, 97, 110, 107, 101, 100] (cVar 0)) (cCons (cVar 2) (cCons (cVar 1) cNil))))
    (cSeq (cAugF 0 [116, 111, 116, 97, 108] (cVar 0) (cVar 5))
    (cRet (cVar 5)))))))))
def c_Shelf_put_in : List CV → CH → Option (CV × CH) := cDef 2 6 b_Shelf_put_in
theorem ok_Shelf_put_in {f : Addr} {fd : FuncData} (F : Fun K "put_in" "Shelf.put_in" s_Shelf_put_in f fd) (T : Txt K mg cc) (O_can_be_done : Own P w K mg base cc 1 "can_be_done" ["wide", "many", "deed"] c_can_be_done) (O_after_deed : Own P w K mg base cc 3 "after_deed" ["rule", "wide", "places", "deed"] c_after_deed) : FnOk P w K mg base CX0 4 f fd ["self", "key"] (spOf cc c_Shelf_put_in) := by
  refine def_ok (N := ["self", "key", "rank", "other", "deed", "moves"]) (ps := ["self", "key"]) (b := b_Shelf_put_in) F sc_Shelf_put_in fun cdv A outer s H E hr => ?_
  exact (kss_cons (ks_if (kt_in (kv 1) (ke_fld (kv 0) T.cl T.f_ranked)) (kss_one ks_never) kss_nil)
    (kss_cons (ks_set (i := 2) sc_Shelf_put_in.nd rfl (by first | exact Or.inl rfl | exact Or.inr rfl) (ke_len rfl T.n_len (ka_cons (ke_lc (own := [("other", 3)]) 200 (.nm 3) rfl sc_Shelf_put_in.nd (ki_list (ke_fld (kv 0) T.cl T.f_ranked)) (blkOk_by (N := ["self", "key", "rank", "other", "deed", "moves"]) (sc := defScope s_Shelf_put_in) (by decide +kernel)) (fun _ _ _ _ _ => pg_name (i := 3) sc_Shelf_put_in.nd rfl (Or.inl rfl)) (fun _ _ _ _ _ => kts_one (kt_lt (kv 3) (kv 1))) (fun _ _ _ _ _ => (kv 3))) ka_nil)))
    (kss_cons (ks_set (i := 4) sc_Shelf_put_in.nd rfl (by first | exact Or.inl rfl | exact Or.inr rfl) (ke_tup (ka_cons (ke_str [112, 117, 116] (by decide +kernel)) (ka_cons (kv 2) ka_nil))))
    (kss_cons (ks_if (kt_not (kt_tru (ke_own O_can_be_done (hr.mono (by decide)) (ka_cons (ke_fld (kv 0) T.cl T.f_wide) (ka_cons (ke_len rfl T.n_len (ka_cons (ke_fld (kv 0) T.cl T.f_places) ka_nil)) (ka_cons (kv 4) ka_nil)))))) (kss_one ks_never) kss_nil)
    (kss_cons (ks_asg (ke_own O_after_deed (hr.mono (by decide)) (ka_cons (ke_fld (kv 0) T.cl T.f_rule) (ka_cons (ke_fld (kv 0) T.cl T.f_wide) (ka_cons (ke_fld (kv 0) T.cl T.f_places) (ka_cons (kv 4) ka_nil))))) (kg_tup rfl (kgs_cons (kg_name (i := 5) sc_Shelf_put_in.nd rfl (by first | exact Or.inl rfl | exact Or.inr rfl)) (kgs_cons (kg_fld (kv 0) T.cl T.f_places) kgs_nil))))
    (kss_cons (ks_expr (ke_insert (ke_fld (kv 0) T.cl T.f_ranked) (ka_cons (kv 2) (ka_cons (kv 1) ka_nil))))
    (kss_cons (ks_augF (kv 0) (kv 5) T.cl T.f_total)
    (kss_one (ks_ret (kv 5))))))))))

abbrev s_Shelf_take_out : Stmt := inClass (top 51) 2
theorem sc_Shelf_take_out : FnScope ["self", "key", "rank"] ["self", "key"] (defScope s_Shelf_take_out) := ⟨rfl, rfl, rfl, by decide +kernel, rfl, by decide +kernel, by decide +kernel⟩
def b_Shelf_take_out : CP := (cSeq (cIf (cTst (cBin (fIn true) (cVar 1) (cFld 0 [114, 97, 110, 107, 101, 100] (cVar 0)))) cNever cSkip)
    (cSeq (cAsg (cMt isL mIndex (cFld 0 [114, 97, 110, 107, 101, 100] (cVar 0)) (cCons (cVar 1) cNil)) (cgN 2))
    (cSeq (cDel (cFld 0 [114, 97, 110, 107, 101, 100] (cVar 0)) (cVar 2))
    (cDel (cFld 0 [112, 108, 97, 99, 101, 115] (cVar 0)) (cVar 2)))))
def c_Shelf_take_out : List CV → CH → Option (CV × CH) := cDef 2 3 b_Shelf_take_out
theorem ok_Shelf_take_out {f : Addr} {fd : FuncData} (F : Fun K "take_out" "Shelf.take_out" s_Shelf_take_out f fd) (T : Txt K mg cc) : FnOk P w K mg base CX0 1 f fd ["self", "key"] (spOf cc c_Shelf_take_out) := by
  refine def_ok (N := ["self", "key", "rank"]) (ps := ["self", "key"]) (b := b_Shelf_take_out) F sc_Shelf_take_out fun cdv A outer s H E hr => ?_
  exact (kss_cons (ks_if (kt_notIn (kv 1) (ke_fld (kv 0) T.cl T.f_ranked)) (kss_one ks_never) kss_nil)
    (kss_cons (ks_set (i := 2) sc_Shelf_take_out.nd rfl (by first | exact Or.inl rfl | exact Or.inr rfl) (ke_index (ke_fld (kv 0) T.cl T.f_ranked) (ka_cons (kv 1) ka_nil)))
    (kss_cons (ks_del (ke_fld (kv 0) T.cl T.f_ranked) (kv 2))
    (kss_one (ks_del (ke_fld (kv 0) T.cl T.f_places) (kv 2))))))

abbrev s_Shelf_standing : Stmt := inClass (top 51) 3
theorem sc_Shelf_standing : FnScope ["self", "row", "at", "key"] ["self"] (defScope s_Shelf_standing) := ⟨rfl, rfl, rfl, by decide +kernel, rfl, by decide +kernel, by decide +kernel⟩
def b_Shelf_standing : CP := (cSeq (cAsg (cBin fMul (cLst (cCons (cC .non) cNil)) (cFld 0 [119, 105, 100, 101] (cVar 0))) (cgN 1))
    (cSeq (cFor 200 (ciZ (cCons (cFld 0 [112, 108, 97, 99, 101, 115] (cVar 0)) (cCons (cFld 0 [114, 97, 110, 107, 101, 100] (cVar 0)) cNil))) (cgTup 2 (cgCons (cgN 2) (cgCons (cgN 3) cgNil))) (cAsg (cVar 3) (cgIx (cVar 1) (cVar 2))))
    (cRet (cVar 1))))
def c_Shelf_standing : List CV → CH → Option (CV × CH) := cDef 1 4 b_Shelf_standing
theorem ok_Shelf_standing {f : Addr} {fd : FuncData} (F : Fun K "standing" "Shelf.standing" s_Shelf_standing f fd) (T : Txt K mg cc) : FnOk P w K mg base CX0 1 f fd ["self"] (spOf cc c_Shelf_standing) := by
  refine def_ok (N := ["self", "row", "at", "key"]) (ps := ["self"]) (b := b_Shelf_standing) F sc_Shelf_standing fun cdv A outer s H E hr => ?_
  exact (kss_cons (ks_set (i := 1) sc_Shelf_standing.nd rfl (by first | exact Or.inl rfl | exact Or.inr rfl) (ke_mul (ke_lst (ka_cons ke_non ka_nil)) (ke_fld (kv 0) T.cl T.f_wide)))
    (kss_cons (ks_for 200 PassesOwn.never rfl (ki_zip rfl T.n_zip (ka_cons (ke_fld (kv 0) T.cl T.f_places) (ka_cons (ke_fld (kv 0) T.cl T.f_ranked) ka_nil))) (kg_tup rfl (kgs_cons (kg_name (i := 2) sc_Shelf_standing.nd rfl (by first | exact Or.inl rfl | exact Or.inr rfl)) (kgs_cons (kg_name (i := 3) sc_Shelf_standing.nd rfl (by first | exact Or.inl rfl | exact Or.inr rfl)) kgs_nil))) (kss_one (ks_asg (kv 3) (kg_ix (kv 1) (kv 2)))))
    (kss_one (ks_ret (kv 1)))))

abbrev s_Shelf_moved : Stmt := inClass (top 51) 4
theorem sc_Shelf_moved : FnScope ["self"] ["self"] (defScope s_Shelf_moved) := ⟨rfl, rfl, rfl, by decide +kernel, rfl, by decide +kernel, by decide +kernel⟩
def b_Shelf_moved : CP := (cRet (cFld 0 [116, 111, 116, 97, 108] (cVar 0)))
def c_Shelf_moved : List CV → CH → Option (CV × CH) := cDef 1 1 b_Shelf_moved
theorem ok_Shelf_moved {f : Addr} {fd : FuncData} (F : Fun K "moved" "Shelf.moved" s_Shelf_moved f fd) (T : Txt K mg cc) : FnOk P w K mg base CX0 1 f fd ["self"] (spOf cc c_Shelf_moved) := by
  refine def_ok (N := ["self"]) (ps := ["self"]) (b := b_Shelf_moved) F sc_Shelf_moved fun cdv A outer s H E hr => ?_
  exact (kss_one (ks_ret (ke_fld (kv 0) T.cl T.f_total)))

abbrev s__law_put : Stmt := top 58
theorem sc__law_put : FnScope ["_law_rule_here", "_law_row_here", "_law_rank", "_law_new", "_law_wide", "_law_places", "_law_at", "_law_low", "_law_high", "_law_found", "_law_things", "_law_k", "_law_left", "_law_right", "_law_is_less"] ["_law_rule_here", "_law_row_here", "_law_rank", "_law_new"] (defScope s__law_put) := ⟨rfl, rfl, rfl, by decide +kernel, rfl, by decide +kernel, by decide +kernel⟩
def b__law_put : CP := (cSeq (cAsg (cCb fLen (cCons (cVar 1) cNil)) (cgN 4))
    (cSeq (cAsg (cLc 200 (ciR1 (cCons (cVar 4) cNil)) (.nm 6) (cTst (cBin fNotN (cBin fIx (cVar 1) (cVar 6)) (cC .non))) (cVar 6) [6]) (cgN 5))
    (cSeq (cAsg (cBin fIx (cBin fAdd (cLst (cCons (cUn fNeg (cC (.int 1))) cNil)) (cVar 5)) (cVar 2)) (cgN 7))
    (cSeq (cAsg (cBin fIx (cBin fAdd (cVar 5) (cLst (cCons (cVar 4) cNil))) (cVar 2)) (cgN 8))
    (cSeq (cAsg (cCb fListOf (cCons (cVar 1) cNil)) (cgN 9))
    (cSeq (cIf (cTst (cBin fGt (cVar 8) (cBin fAdd (cVar 7) (cC (.int 1))))) (cSeq (cAsg (cVar 3) (cgIx (cVar 9) (cBin (fIntC cDivOk fun i j => i / j) (cBin fAdd (cVar 7) (cVar 8)) (cC (.int 2)))))
    (cRet (cVar 9))) cSkip)
    (cSeq (cIf (cTst (cBin fEq (cVar 0) (cC (.str [101, 118, 101, 110])))) (cSeq (cAsg (cLc 200 (ciL (cVar 5)) (.nm 6) cYes (cBin fIx (cVar 1) (cVar 6)) [6]) (cgN 10))
    (cSeq (cDrop (cMt isL mInsert (cVar 10) (cCons (cVar 2) (cCons (cVar 3) cNil))))
    (cSeq (cAsg (cBin fMul (cLst (cCons (cC .non) cNil)) (cVar 4)) (cgN 9))
    (cSeq (cFor 200 (ciR1 (cCons (cCb fLen (cCons (cVar 10) cNil)) cNil)) (cgN 11) (cAsg (cBin fIx (cVar 10) (cVar 11)) (cgIx (cVar 9) (cBin (fIntC cDivOk fun i j => i / j) (cBin fMul (cVar 11) (cVar 4)) (cCb fLen (cCons (cVar 10) cNil))))))
    (cRet (cVar 9)))))) cSkip)
    (cSeq (cAsg (cVar 7) (cgN 12))
    (cSeq (whileGo (cAnd (cTst (cBin fGe (cVar 12) (cC (.int 0)))) (cTst (cBin fNotN (cBin fIx (cVar 1) (cVar 12)) (cC .non)))) (cAsg (cBin (fInt2 fun i j => i - j) (cVar 12) (cC (.int 1))) (cgN 12)) 200)
    (cSeq (cAsg (cVar 8) (cgN 13))
    (cSeq (whileGo (cAnd (cTst (cBin fLt (cVar 13) (cVar 4))) (cTst (cBin fNotN (cBin fIx (cVar 1) (cVar 13)) (cC .non)))) (cAsg (cBin fAdd (cVar 13) (cC (.int 1))) (cgN 13)) 200)
    (cSeq (cAsg (cOrV (cBin fEq (cVar 13) (cVar 4)) (cBin fLe (cBin (fInt2 fun i j => i - j) (cVar 7) (cVar 12)) (cBin (fInt2 fun i j => i - j) (cVar 13) (cVar 8)))) (cgN 14))
    (cSeq (cIf (cAnd (cTst (cBin fGe (cVar 12) (cC (.int 0)))) (cOr (cTru (cVar 14)) (cTst (cBin fEq (cVar 0) (cC (.str [108, 101, 102, 116])))))) (cSeq (cDrop (cMt isL mPop (cVar 9) (cCons (cVar 12) cNil)))
    (cSeq (cDrop (cMt isL mInsert (cVar 9) (cCons (cVar 7) (cCons (cVar 3) cNil))))
    (cRet (cVar 9)))) cSkip)
    (cSeq (cDrop (cMt isL mPop (cVar 9) (cCons (cVar 13) cNil)))
    (cSeq (cDrop (cMt isL mInsert (cVar 9) (cCons (cVar 8) (cCons (cVar 3) cNil))))
    (cRet (cVar 9)))))))))))))))))
def c__law_put : List CV → CH → Option (CV × CH) := cDef 4 15 b__law_put
theorem ok__law_put {f : Addr} {fd : FuncData} (F : Fun K "_law_put" "_law_put" s__law_put f fd) (T : Txt K mg cc) : FnOk P w K mg base CX0 1 f fd ["_law_rule_here", "_law_row_here", "_law_rank", "_law_new"] (spOf cc c__law_put) := by
  refine def_ok (N := ["_law_rule_here", "_law_row_here", "_law_rank", "_law_new", "_law_wide", "_law_places", "_law_at", "_law_low", "_law_high", "_law_found", "_law_things", "_law_k", "_law_left", "_law_right", "_law_is_less"]) (ps := ["_law_rule_here", "_law_row_here", "_law_rank", "_law_new"]) (b := b__law_put) F sc__law_put fun cdv A outer s H E hr => ?_
  exact (kss_cons (ks_set (i := 4) sc__law_put.nd rfl (by first | exact Or.inl rfl | exact Or.inr rfl) (ke_len rfl T.n_len (ka_cons (kv 1) ka_nil)))
    (kss_cons (ks_setLc (i := 5) (own := [("_law_at", 6)]) 200 (.nm 6) rfl sc__law_put.nd rfl rfl (sw_true rfl rfl rfl (by decide +kernel)) (ki_range1 rfl T.n_range (ka_cons (kv 4) ka_nil)) (blkOk_by (N := ["_law_rule_here", "_law_row_here", "_law_rank", "_law_new", "_law_wide", "_law_places", "_law_at", "_law_low", "_law_high", "_law_found", "_law_things", "_law_k", "_law_left", "_law_right", "_law_is_less"]) (sc := defScope s__law_put) (by decide +kernel)) (fun _ _ _ _ _ => pg_name (i := 6) sc__law_put.nd rfl (Or.inl rfl)) (fun _ _ _ _ _ => kts_one (kt_notN (ke_ix (kv 1) (kv 6)) ke_non)) (fun _ _ _ _ _ => (kv 6)))
    (kss_cons (ks_set (i := 7) sc__law_put.nd rfl (by first | exact Or.inl rfl | exact Or.inr rfl) (ke_ix (ke_add (ke_lst (ka_cons (ke_neg ke_int) ka_nil)) (kv 5)) (kv 2)))
    (kss_cons (ks_set (i := 8) sc__law_put.nd rfl (by first | exact Or.inl rfl | exact Or.inr rfl) (ke_ix (ke_add (kv 5) (ke_lst (ka_cons (kv 4) ka_nil))) (kv 2)))
    (kss_cons (ks_set (i := 9) sc__law_put.nd rfl (by first | exact Or.inl rfl | exact Or.inr rfl) (ke_listOf rfl T.n_list (ka_cons (kv 1) ka_nil)))
    (kss_cons (ks_if (kt_gt (kv 8) (ke_add (kv 7) ke_int)) (kss_cons (ks_asg (kv 3) (kg_ix (kv 9) (ke_div (ke_add (kv 7) (kv 8)) ke_int)))
    (kss_one (ks_ret (kv 9)))) kss_nil)
    (kss_cons (ks_if (kt_eq (kv 0) (ke_str [101, 118, 101, 110] (by decide +kernel))) (kss_cons (ks_setLc (i := 10) (own := [("_law_at", 6)]) 200 (.nm 6) rfl sc__law_put.nd rfl rfl (sw_true rfl rfl rfl (by decide +kernel)) (ki_list (kv 5)) (blkOk_by (N := ["_law_rule_here", "_law_row_here", "_law_rank", "_law_new", "_law_wide", "_law_places", "_law_at", "_law_low", "_law_high", "_law_found", "_law_things", "_law_k", "_law_left", "_law_right", "_law_is_less"]) (sc := defScope s__law_put) (by decide +kernel)) (fun _ _ _ _ _ => pg_name (i := 6) sc__law_put.nd rfl (Or.inl rfl)) (fun _ _ _ _ _ => kts_nil) (fun _ _ _ _ _ => (ke_ix (kv 1) (kv 6))))
    (kss_cons (ks_expr (ke_insert (kv 10) (ka_cons (kv 2) (ka_cons (kv 3) ka_nil))))
    (kss_cons (ks_set (i := 9) sc__law_put.nd rfl (by first | exact Or.inl rfl | exact Or.inr rfl) (ke_mul (ke_lst (ka_cons ke_non ka_nil)) (kv 4)))
    (kss_cons (ks_for 200 PassesOwn.never rfl (ki_range1 rfl T.n_range (ka_cons (ke_len rfl T.n_len (ka_cons (kv 10) ka_nil)) ka_nil)) (kg_name (i := 11) sc__law_put.nd rfl (by first | exact Or.inl rfl | exact Or.inr rfl)) (kss_one (ks_asg (ke_ix (kv 10) (kv 11)) (kg_ix (kv 9) (ke_div (ke_mul (kv 11) (kv 4)) (ke_len rfl T.n_len (ka_cons (kv 10) ka_nil)))))))
    (kss_one (ks_ret (kv 9))))))) kss_nil)
    (kss_cons (ks_set (i := 12) sc__law_put.nd rfl (by first | exact Or.inl rfl | exact Or.inr rfl) (kv 7))
    (kss_cons (ks_while 200 PassesOwn.never (PW.pt (kw_and (kt_ge (kv 12) ke_int) (kw_and1 (kt_notN (ke_ix (kv 1) (kv 12)) ke_non)))) (kss_one (ks_set (i := 12) sc__law_put.nd rfl (by first | exact Or.inl rfl | exact Or.inr rfl) (ke_sub (kv 12) ke_int))))
    (kss_cons (ks_set (i := 13) sc__law_put.nd rfl (by first | exact Or.inl rfl | exact Or.inr rfl) (kv 8))
    (kss_cons (ks_while 200 PassesOwn.never (PW.pt (kw_and (kt_lt (kv 13) (kv 4)) (kw_and1 (kt_notN (ke_ix (kv 1) (kv 13)) ke_non)))) (kss_one (ks_set (i := 13) sc__law_put.nd rfl (by first | exact Or.inl rfl | exact Or.inr rfl) (ke_add (kv 13) ke_int))))
    (kss_cons (ks_set (i := 14) sc__law_put.nd rfl (by first | exact Or.inl rfl | exact Or.inr rfl) (ke_or (ke_eq (kv 13) (kv 4)) (ke_one (ke_le (ke_sub (kv 7) (kv 12)) (ke_sub (kv 13) (kv 8))))))
    (kss_cons (ks_if (PW.pt (kw_and (kt_ge (kv 12) ke_int) (kw_and1 (PW.pt (kw_or (kt_tru (kv 14)) (kw_or1 (kt_eq (kv 0) (ke_str [108, 101, 102, 116] (by decide +kernel))))))))) (kss_cons (ks_expr (ke_popAt (kv 9) (ka_cons (kv 12) ka_nil)))
    (kss_cons (ks_expr (ke_insert (kv 9) (ka_cons (kv 7) (ka_cons (kv 3) ka_nil))))
    (kss_one (ks_ret (kv 9))))) kss_nil)
    (kss_cons (ks_expr (ke_popAt (kv 9) (ka_cons (kv 13) ka_nil)))
    (kss_cons (ks_expr (ke_insert (kv 9) (ka_cons (kv 8) (ka_cons (kv 3) ka_nil))))
    (kss_one (ks_ret (kv 9))))))))))))))))))

abbrev s__law_take : Stmt := top 59
theorem sc__law_take : FnScope ["_law_row_here", "_law_rank", "_law_places", "_law_at"] ["_law_row_here", "_law_rank"] (defScope s__law_take) := ⟨rfl, rfl, rfl, by decide +kernel, rfl, by decide +kernel, by decide +kernel⟩
def b__law_take : CP := (cSeq (cAsg (cLc 200 (ciR1 (cCons (cCb fLen (cCons (cVar 0) cNil)) cNil)) (.nm 3) (cTst (cBin fNotN (cBin fIx (cVar 0) (cVar 3)) (cC .non))) (cVar 3) [3]) (cgN 2))
    (cRet (cBin fAdd (cBin fAdd (cSl (cVar 0) pNo (pYes (cBin fIx (cVar 2) (cVar 1)))) (cLst (cCons (cC .non) cNil))) (cSl (cVar 0) (pYes (cBin fAdd (cBin fIx (cVar 2) (cVar 1)) (cC (.int 1)))) pNo))))
def c__law_take : List CV → CH → Option (CV × CH) := cDef 2 4 b__law_take
theorem ok__law_take {f : Addr} {fd : FuncData} (F : Fun K "_law_take" "_law_take" s__law_take f fd) (T : Txt K mg cc) : FnOk P w K mg base CX0 1 f fd ["_law_row_here", "_law_rank"] (spOf cc c__law_take) := by
  refine def_ok (N := ["_law_row_here", "_law_rank", "_law_places", "_law_at"]) (ps := ["_law_row_here", "_law_rank"]) (b := b__law_take) F sc__law_take fun cdv A outer s H E hr => ?_
  exact (kss_cons (ks_setLc (i := 2) (own := [("_law_at", 3)]) 200 (.nm 3) rfl sc__law_take.nd rfl rfl (sw_true rfl rfl rfl (by decide +kernel)) (ki_range1 rfl T.n_range (ka_cons (ke_len rfl T.n_len (ka_cons (kv 0) ka_nil)) ka_nil)) (blkOk_by (N := ["_law_row_here", "_law_rank", "_law_places", "_law_at"]) (sc := defScope s__law_take) (by decide +kernel)) (fun _ _ _ _ _ => pg_name (i := 3) sc__law_take.nd rfl (Or.inl rfl)) (fun _ _ _ _ _ => kts_one (kt_notN (ke_ix (kv 0) (kv 3)) ke_non)) (fun _ _ _ _ _ => (kv 3)))
    (kss_one (ks_ret (ke_add (ke_add (ke_slice (kv 0) kp_no (kp_yes (ke_ix (kv 2) (kv 1)))) (ke_lst (ka_cons ke_non ka_nil))) (ke_slice (kv 0) (kp_yes (ke_add (ke_ix (kv 2) (kv 1)) ke_int)) kp_no)))))

abbrev s__law_moves : Stmt := top 60
theorem sc__law_moves : FnScope ["_law_row_here", "_law_other", "_law_some", "_law_thing"] ["_law_row_here", "_law_other"] (defScope s__law_moves) := ⟨rfl, rfl, rfl, by decide +kernel, rfl, by decide +kernel, by decide +kernel⟩
def b__law_moves : CP := (cSeq (cAsg (cLc 200 (ciL (cVar 0)) (.nm 3) (cAnd (cTst (cBin fNotN (cVar 3) (cC .non))) (cTst (cBin (fIn false) (cVar 3) (cVar 1)))) (cVar 3) [3]) (cgN 2))
    (cRet (cCb fLen (cCons (cLc 200 (ciL (cVar 2)) (.nm 3) (cTst (cBin fNe (cMt isL mIndex (cVar 1) (cCons (cVar 3) cNil)) (cMt isL mIndex (cVar 0) (cCons (cVar 3) cNil)))) (cVar 3) [3]) cNil))))
def c__law_moves : List CV → CH → Option (CV × CH) := cDef 2 4 b__law_moves
theorem ok__law_moves {f : Addr} {fd : FuncData} (F : Fun K "_law_moves" "_law_moves" s__law_moves f fd) (T : Txt K mg cc) : FnOk P w K mg base CX0 1 f fd ["_law_row_here", "_law_other"] (spOf cc c__law_moves) := by
  refine def_ok (N := ["_law_row_here", "_law_other", "_law_some", "_law_thing"]) (ps := ["_law_row_here", "_law_other"]) (b := b__law_moves) F sc__law_moves fun cdv A outer s H E hr => ?_
  exact (kss_cons (ks_setLc (i := 2) (own := [("_law_thing", 3)]) 200 (.nm 3) rfl sc__law_moves.nd rfl rfl (sw_true rfl rfl rfl (by decide +kernel)) (ki_list (kv 0)) (blkOk_by (N := ["_law_row_here", "_law_other", "_law_some", "_law_thing"]) (sc := defScope s__law_moves) (by decide +kernel)) (fun _ _ _ _ _ => pg_name (i := 3) sc__law_moves.nd rfl (Or.inl rfl)) (fun _ _ _ _ _ => kts_one (PW.pt (kw_and (kt_notN (kv 3) ke_non) (kw_and1 (kt_in (kv 3) (kv 1)))))) (fun _ _ _ _ _ => (kv 3)))
    (kss_one (ks_ret (ke_len rfl T.n_len (ka_cons (ke_lc (own := [("_law_thing", 3)]) 200 (.nm 3) rfl sc__law_moves.nd (ki_list (kv 2)) (blkOk_by (N := ["_law_row_here", "_law_other", "_law_some", "_law_thing"]) (sc := defScope s__law_moves) (by decide +kernel)) (fun _ _ _ _ _ => pg_name (i := 3) sc__law_moves.nd rfl (Or.inl rfl)) (fun _ _ _ _ _ => kts_one (kt_ne (ke_index (kv 1) (ka_cons (kv 3) ka_nil)) (ke_index (kv 0) (ka_cons (kv 3) ka_nil)))) (fun _ _ _ _ _ => (kv 3))) ka_nil)))))

abbrev s__law_pattern : Stmt := top 61
theorem sc__law_pattern : FnScope ["_law_row_here", "_law_thing"] ["_law_row_here"] (defScope s__law_pattern) := ⟨rfl, rfl, rfl, by decide +kernel, rfl, by decide +kernel, by decide +kernel⟩
def b__law_pattern : CP := (cRet (cMt isS mJoin (cC (.str [])) (cCons (cLc 200 (ciL (cVar 0)) (.nm 1) cYes (cBin fIx (cC (.str [48, 49])) (cCb fIntOf (cCons (cBin fNotN (cVar 1) (cC .non)) cNil))) [1]) cNil)))
def c__law_pattern : List CV → CH → Option (CV × CH) := cDef 1 2 b__law_pattern
theorem ok__law_pattern {f : Addr} {fd : FuncData} (F : Fun K "_law_pattern" "_law_pattern" s__law_pattern f fd) (T : Txt K mg cc) : FnOk P w K mg base CX0 1 f fd ["_law_row_here"] (spOf cc c__law_pattern) := by
  refine def_ok (N := ["_law_row_here", "_law_thing"]) (ps := ["_law_row_here"]) (b := b__law_pattern) F sc__law_pattern fun cdv A outer s H E hr => ?_
  exact (kss_one (ks_ret (ke_join (ke_str [] (by decide +kernel)) (ka_cons (ke_lc (own := [("_law_thing", 1)]) 200 (.nm 1) rfl sc__law_pattern.nd (ki_list (kv 0)) (blkOk_by (N := ["_law_row_here", "_law_thing"]) (sc := defScope s__law_pattern) (by decide +kernel)) (fun _ _ _ _ _ => pg_name (i := 1) sc__law_pattern.nd rfl (Or.inl rfl)) (fun _ _ _ _ _ => kts_nil) (fun _ _ _ _ _ => (ke_ix (ke_str [48, 49] (by decide +kernel)) (ke_intOf rfl T.n_int (ka_cons (ke_notN (kv 1) ke_non) ka_nil))))) ka_nil))))

abbrev s__law_row : Stmt := top 62
theorem sc__law_row : FnScope ["_law_pattern_here", "_law_at"] ["_law_pattern_here"] (defScope s__law_row) := ⟨rfl, rfl, rfl, by decide +kernel, rfl, by decide +kernel, by decide +kernel⟩
def b__law_row : CP := (cRet (cLc 200 (ciR1 (cCons (cCb fLen (cCons (cVar 0) cNil)) cNil)) (.nm 1) cYes (cIfE (cTst (cBin fEq (cBin fIx (cVar 0) (cVar 1)) (cC (.str [49])))) (cVar 1) (cC .non)) [1]))
def c__law_row : List CV → CH → Option (CV × CH) := cDef 1 2 b__law_row
theorem ok__law_row {f : Addr} {fd : FuncData} (F : Fun K "_law_row" "_law_row" s__law_row f fd) (T : Txt K mg cc) : FnOk P w K mg base CX0 1 f fd ["_law_pattern_here"] (spOf cc c__law_row) := by
  refine def_ok (N := ["_law_pattern_here", "_law_at"]) (ps := ["_law_pattern_here"]) (b := b__law_row) F sc__law_row fun cdv A outer s H E hr => ?_
  exact (kss_one (ks_ret (ke_lc (own := [("_law_at", 1)]) 200 (.nm 1) rfl sc__law_row.nd (ki_range1 rfl T.n_range (ka_cons (ke_len rfl T.n_len (ka_cons (kv 0) ka_nil)) ka_nil)) (blkOk_by (N := ["_law_pattern_here", "_law_at"]) (sc := defScope s__law_row) (by decide +kernel)) (fun _ _ _ _ _ => pg_name (i := 1) sc__law_row.nd rfl (Or.inl rfl)) (fun _ _ _ _ _ => kts_nil) (fun _ _ _ _ _ => (ke_if (kt_eq (ke_ix (kv 0) (kv 1)) (ke_str [49] (by decide +kernel))) (kv 1) ke_non)))))

abbrev s__law_step : Stmt := top 63
theorem sc__law_step : FnScope ["_law_rule_here", "_law_pattern_here", "_law_deed", "_law_row_here", "_law_other"] ["_law_rule_here", "_law_pattern_here", "_law_deed"] (defScope s__law_step) := ⟨rfl, rfl, rfl, by decide +kernel, rfl, by decide +kernel, by decide +kernel⟩
def b__law_step : CP := (cSeq (cAsg (cCb c__law_row (cCons (cVar 1) cNil)) (cgN 3))
    (cSeq (cIf (cTst (cBin fEq (cBin fIx (cVar 2) (cC (.int 0))) (cC (.str [116, 97, 107, 101])))) (cRet (cTup (cCons (cC (.int 0)) (cCons (cCb c__law_pattern (cCons (cCb c__law_take (cCons (cVar 3) (cCons (cBin fIx (cVar 2) (cC (.int 1))) cNil))) cNil)) cNil)))) cSkip)
    (cSeq (cAsg (cCb c__law_put (cCons (cVar 0) (cCons (cVar 3) (cCons (cBin fIx (cVar 2) (cC (.int 1))) (cCons (cC (.int 99)) cNil))))) (cgN 4))
    (cRet (cTup (cCons (cCb c__law_moves (cCons (cVar 3) (cCons (cVar 4) cNil))) (cCons (cCb c__law_pattern (cCons (cVar 4) cNil)) cNil)))))))
def c__law_step : List CV → CH → Option (CV × CH) := cDef 3 5 b__law_step
theorem ok__law_step {f : Addr} {fd : FuncData} (F : Fun K "_law_step" "_law_step" s__law_step f fd) (T : Txt K mg cc) (O__law_put : Own P w K mg base cc 1 "_law_put" ["_law_rule_here", "_law_row_here", "_law_rank", "_law_new"] c__law_put) (O__law_take : Own P w K mg base cc 1 "_law_take" ["_law_row_here", "_law_rank"] c__law_take) (O__law_moves : Own P w K mg base cc 1 "_law_moves" ["_law_row_here", "_law_other"] c__law_moves) (O__law_pattern : Own P w K mg base cc 1 "_law_pattern" ["_law_row_here"] c__law_pattern) (O__law_row : Own P w K mg base cc 1 "_law_row" ["_law_pattern_here"] c__law_row) : FnOk P w K mg base CX0 2 f fd ["_law_rule_here", "_law_pattern_here", "_law_deed"] (spOf cc c__law_step) := by
  refine def_ok (N := ["_law_rule_here", "_law_pattern_here", "_law_deed", "_law_row_here", "_law_other"]) (ps := ["_law_rule_here", "_law_pattern_here", "_law_deed"]) (b := b__law_step) F sc__law_step fun cdv A outer s H E hr => ?_
  exact (kss_cons (ks_set (i := 3) sc__law_step.nd rfl (by first | exact Or.inl rfl | exact Or.inr rfl) (ke_own O__law_row (hr.mono (by decide)) (ka_cons (kv 1) ka_nil)))
    (kss_cons (ks_if (kt_eq (ke_ix (kv 2) ke_int) (ke_str [116, 97, 107, 101] (by decide +kernel))) (kss_one (ks_ret (ke_tup (ka_cons ke_int (ka_cons (ke_own O__law_pattern (hr.mono (by decide)) (ka_cons (ke_own O__law_take (hr.mono (by decide)) (ka_cons (kv 3) (ka_cons (ke_ix (kv 2) ke_int) ka_nil))) ka_nil)) ka_nil))))) kss_nil)
    (kss_cons (ks_set (i := 4) sc__law_step.nd rfl (by first | exact Or.inl rfl | exact Or.inr rfl) (ke_own O__law_put (hr.mono (by decide)) (ka_cons (kv 0) (ka_cons (kv 3) (ka_cons (ke_ix (kv 2) ke_int) (ka_cons ke_int ka_nil))))))
    (kss_one (ks_ret (ke_tup (ka_cons (ke_own O__law_moves (hr.mono (by decide)) (ka_cons (kv 3) (ka_cons (kv 4) ka_nil))) (ka_cons (ke_own O__law_pattern (hr.mono (by decide)) (ka_cons (kv 4) ka_nil)) ka_nil))))))))
end
end CK

namespace CK
open PySem L2 PyProof.Rows
/-! a shelf and the deeds, for each pattern of at most six places: what is run -/
def bits : Nat → List (List Nat)
  | 0 => [[]]
  | n + 1 => (bits n).map (48 :: ·) ++ (bits n).map (49 :: ·)
def rules : List (List Nat) := [[110, 101, 97, 114], [108, 101, 102, 116], [101, 118, 101, 110]]
def many : List Nat → Nat
  | [] => 0
  | 49 :: r => many r + 1
  | _ :: r => many r
def plFrom : Nat → List Nat → List Int
  | _, [] => []
  | i, 49 :: r => (i : Int) :: plFrom (i + 1) r
  | i, _ :: r => plFrom (i + 1) r
/-- the taken places -/
def pl (p : List Nat) : List Int := plFrom 0 p
def isBits : List Nat → Bool
  | [] => true
  | 48 :: r => isBits r
  | 49 :: r => isBits r
  | _ :: _ => false
/-- things on a pattern -/
def fill {α : Type} (z : α) : List Nat → List α → List α
  | [], _ => []
  | 49 :: r, k :: ks => k :: fill z r ks
  | 49 :: r, [] => z :: fill z r []
  | _ :: r, ks => z :: fill z r ks
def lab (n : Nat) : List CV := (List.range n).map CV.key
def patOf : List CV → List Nat
  | [] => []
  | .non :: r => 48 :: patOf r
  | _ :: r => 49 :: patOf r
/-- the fields -/
def shO (r : List Nat) (n : Nat) (b c : Nat) (t : CV) : CO := .ins 0 [([114, 117, 108, 101], .str r), ([119, 105, 100, 101], .int n), ([114, 97, 110, 107, 101, 100], .ref b), ([112, 108, 97, 99, 101, 115], .ref c), ([116, 111, 116, 97, 108], t)]
def plO (p : List Nat) : CO := .lst ((pl p).map CV.int)
def rowO (p : List Nat) (ks : List CV) : CO := .lst (fill .non p ks)
def shH (r p : List Nat) (ks : List CV) : List CO := [shO r p.length 1 2 (.off 0), .lst ks, plO p]
/-- structural equality of objects -/
def fseq : List (List Nat × CV) → List (List Nat × CV) → Bool
  | [], [] => true
  | (a, x) :: as, (b, y) :: bs => (a == b && cveq x y) && fseq as bs
  | _, _ => false
theorem fseq_eq : ∀ {a b : List (List Nat × CV)}, fseq a b = true → a = b
  | [], [], _ => rfl
  | (a, x) :: as, (b, y) :: bs, h => by
    have h : ((a == b && cveq x y) && fseq as bs) = true := h
    rw [Bool.and_eq_true, Bool.and_eq_true] at h
    rw [eq_of_beq h.1.1, cveq_eq h.1.2, fseq_eq h.2]
  | [], _ :: _, h => absurd h Bool.false_ne_true
  | _ :: _, [], h => absurd h Bool.false_ne_true
def oeq : CO → CO → Bool
  | .lst a, .lst b => cvseq a b
  | .tup a, .tup b => cvseq a b
  | .ins c a, .ins d b => Nat.beq c d && fseq a b
  | _, _ => false
theorem oeq_eq {a b : CO} (h : oeq a b = true) : a = b := by
  cases a with
  | lst a => cases b with
    | lst b => rw [cvseq_eq (show cvseq a b = true from h)]
    | tup _ => cases h
    | ins _ _ => cases h
  | tup a => cases b with
    | lst _ => cases h
    | tup b => rw [cvseq_eq (show cvseq a b = true from h)]
    | ins _ _ => cases h
  | ins c a => cases b with
    | lst _ => cases h
    | tup _ => cases h
    | ins d b =>
      have h : (Nat.beq c d && fseq a b) = true := h
      rw [Bool.and_eq_true] at h
      rw [Nat.eq_of_beq_eq_true h.1, fseq_eq h.2]
def at_ (h : CH) (n : Nat) (o : CO) : Bool := match h.get n with
  | some o' => oeq o o'
  | none => false
theorem at_get {h : CH} {n : Nat} {o : CO} (e : at_ h n o = true) : h.get n = some o := by
  unfold at_ at e
  split at e
  · rename_i o' q
    rw [oeq_eq e, q]
  · cases e
/-- a list told, new or not; what must stand, with its places -/
def rdL (os : List CO) : Option (CV × CH) → Option (List CV)
  | some (.ref n, h) => (match h.get n with
    | some (.lst xs) => (match kept h 0 os && Nat.ble os.length n with | true => some xs | false => none)
    | _ => none)
  | _ => none
theorem rdL_some {os : List CO} {o : Option (CV × CH)} {xs : List CV} (e : rdL os o = some xs) : ∃ n h, o = some (.ref n, h) ∧ h.get n = some (.lst xs) ∧ kept h 0 os = true ∧ os.length ≤ n := by
  unfold rdL at e
  split at e
  · split at e
    · split at e
      · rename_i hk
        rw [Bool.and_eq_true] at hk
        cases e
        exact ⟨_, _, rfl, by assumption, hk.1, Nat.le_of_ble_eq_true hk.2⟩
      · cases e
    · cases e
  · cases e
def rdI (os : List CO) : Option (CV × CH) → Option Int
  | some (.int i, h) => (match kept h 0 os with | true => some i | false => none)
  | _ => none
theorem rdI_some {os : List CO} {o : Option (CV × CH)} {i : Int} (e : rdI os o = some i) : ∃ h, o = some (.int i, h) ∧ kept h 0 os = true := by
  unfold rdI at e
  split at e
  · split at e
    · rename_i hk
      cases e
      exact ⟨_, rfl, hk⟩
    · cases e
  · cases e
/-- the answer m; the shelf as it must stand behind it -/
def isPut (m : Int) (r p : List Nat) (ks : List CV) : Option (CV × CH) → Bool
  | some (.int i, h) => i == m && (match h.get 0 with
    | some (.ins c [_, _, _, (k, .ref x), f]) => at_ h 0 (shO r p.length 1 x (.off m)) && (at_ h 1 (.lst ks) && (at_ h x (plO p) && !Nat.beq x 1))
    | _ => false)
  | _ => false
theorem isPut_some {m : Int} {r p : List Nat} {ks : List CV} {o : Option (CV × CH)} (e : isPut m r p ks o = true) : ∃ h x, o = some (.int m, h) ∧ h.get 0 = some (shO r p.length 1 x (.off m)) ∧ h.get 1 = some (.lst ks) ∧ h.get x = some (plO p) ∧ x ≠ 1 := by
  unfold isPut at e
  split at e
  · rw [Bool.and_eq_true] at e
    obtain ⟨e0, e⟩ := e
    cases eq_of_beq e0
    split at e
    · simp only [Bool.and_eq_true] at e
      exact ⟨_, _, rfl, at_get e.1, at_get e.2.1, at_get e.2.2.1, fun z => by have q := e.2.2.2; rw [z] at q; cases q⟩
    · cases e
  · cases e
/-- the shelf as it must stand behind an answer None -/
def isTook (r p : List Nat) (ks : List CV) : Option (CV × CH) → Bool
  | some (.non, h) => at_ h 0 (shO r p.length 1 2 (.off 0)) && (at_ h 1 (.lst ks) && at_ h 2 (plO p))
  | _ => false
theorem isTook_some {r p : List Nat} {ks : List CV} {o : Option (CV × CH)} (e : isTook r p ks o = true) : ∃ h, o = some (.non, h) ∧ h.get 0 = some (shO r p.length 1 2 (.off 0)) ∧ h.get 1 = some (.lst ks) ∧ h.get 2 = some (plO p) := by
  unfold isTook at e
  split at e
  · rw [Bool.and_eq_true, Bool.and_eq_true] at e
    exact ⟨_, rfl, at_get e.1, at_get e.2.1, at_get e.2.2⟩
  · cases e
def isStand (r p : List Nat) (ks : List CV) : Option (CV × CH) → Bool
  | some (.ref n, h) => at_ h n (rowO p ks) && (Nat.ble 3 n && (at_ h 0 (shO r p.length 1 2 (.off 0)) && (at_ h 1 (.lst ks) && at_ h 2 (plO p))))
  | _ => false
theorem isStand_some {r p : List Nat} {ks : List CV} {o : Option (CV × CH)} (e : isStand r p ks o = true) : ∃ n h, o = some (.ref n, h) ∧ 3 ≤ n ∧ h.get n = some (rowO p ks) ∧ h.get 0 = some (shO r p.length 1 2 (.off 0)) ∧ h.get 1 = some (.lst ks) ∧ h.get 2 = some (plO p) := by
  unfold isStand at e
  split at e
  · simp only [Bool.and_eq_true] at e
    exact ⟨_, _, rfl, Nat.le_of_ble_eq_true e.2.1, at_get e.1, at_get e.2.2.1, at_get e.2.2.2.1, at_get e.2.2.2.2⟩
  · cases e
def word : Bool → List Nat
  | true => [112, 117, 116]
  | false => [116, 97, 107, 101]
abbrev Deed := Bool × Nat
def deeds (p : List Nat) : List Deed := (List.range (many p)).map (fun r => (false, r)) ++ (match Nat.blt (many p) p.length with | true => (List.range (many p + 1)).map (fun r => (true, r)) | false => [])
def dT (d : Deed) : CO := .tup [.str (word d.1), .int d.2]
def intsC : List CV → Option (List Int)
  | [] => some []
  | .int i :: r => (match intsC r with | some l => some (i :: l) | none => none)
  | _ :: _ => none
theorem intsC_some : ∀ {xs : List CV} {l : List Int}, intsC xs = some l → xs = l.map CV.int
  | [], _, e => by cases e; rfl
  | .int i :: r, l, e => by
    unfold intsC at e
    split at e
    · rename_i q eq
      cases e
      rw [intsC_some eq]; rfl
    · cases e
  | .non :: _, _, e => by cases e
  | .bl _ :: _, _, e => by cases e
  | .str _ :: _, _, e => by cases e
  | .ref _ :: _, _, e => by cases e
  | .ty _ :: _, _, e => by cases e
  | .key _ :: _, _, e => by cases e
  | .off _ :: _, _, e => by cases e
  | .opq :: _, _, e => by cases e
/-- a pair of a number and a new list of ints -/
def rdTL (os : List CO) : Option (CV × CH) → Option (Int × List Int)
  | some (.ref n, h) => (match h.get n with
    | some (.tup [.int m, .ref k]) => (match h.get k with
      | some (.lst xs) => (match intsC xs with
        | some l => (match kept h 0 os with | true => some (m, l) | false => none)
        | none => none)
      | _ => none)
    | _ => none)
  | _ => none
theorem rdTL_some {os : List CO} {o : Option (CV × CH)} {m : Int} {l : List Int} (e : rdTL os o = some (m, l)) : ∃ n k h, o = some (.ref n, h) ∧ h.get n = some (.tup [.int m, .ref k]) ∧ h.get k = some (.lst (l.map CV.int)) ∧ kept h 0 os = true := by
  unfold rdTL at e
  split at e
  · split at e
    · split at e
      · split at e
        · split at e
          · rename_i hk
            cases e
            refine ⟨_, _, _, rfl, by assumption, ?_, hk⟩
            rw [← intsC_some (by assumption)]
            assumption
          · cases e
        · cases e
      · cases e
    · cases e
  · cases e
def isT (os : List CO) : Option (CV × CH) → Bool
  | some (.bl true, h) => kept h 0 os
  | _ => false
theorem isT_some {os : List CO} {o : Option (CV × CH)} (e : isT os o = true) : ∃ h, o = some (.bl true, h) ∧ kept h 0 os = true := by
  unfold isT at e
  split at e
  · exact ⟨_, rfl, e⟩
  · cases e
def isN (os : List CO) : Option (CV × CH) → Bool
  | some (.non, h) => kept h 0 os
  | _ => false
theorem isN_some {os : List CO} {o : Option (CV × CH)} (e : isN os o = true) : ∃ h, o = some (.non, h) ∧ kept h 0 os = true := by
  unfold isN at e
  split at e
  · exact ⟨_, rfl, e⟩
  · cases e
def isStr (os : List CO) (t : List Nat) : Option (CV × CH) → Bool
  | some (.str s, h) => s == t && kept h 0 os
  | _ => false
theorem isStr_some {os : List CO} {t : List Nat} {o : Option (CV × CH)} (e : isStr os t o = true) : ∃ h, o = some (.str t, h) ∧ kept h 0 os = true := by
  unfold isStr at e
  split at e
  · rw [Bool.and_eq_true] at e
    rw [eq_of_beq e.1]
    exact ⟨_, rfl, e.2⟩
  · cases e
def ileq : List Int → List Int → Bool
  | [], [] => true
  | a :: as, b :: bs => a == b && ileq as bs
  | _, _ => false
theorem ileq_eq : ∀ {a b : List Int}, ileq a b = true → a = b
  | [], [], _ => rfl
  | a :: as, b :: bs, h => by
    have h : (a == b && ileq as bs) = true := h
    rw [Bool.and_eq_true] at h
    rw [eq_of_beq h.1, ileq_eq h.2]
  | [], _ :: _, h => absurd h Bool.false_ne_true
  | _ :: _, [], h => absurd h Bool.false_ne_true
def runPut (r p : List Nat) (j : Nat) := c_Shelf_put_in [.ref 0, .key j] (CH.of (shH r p ((lab (many p + 1)).eraseIdx j)))
def runTake (r p : List Nat) (i : Nat) := c_Shelf_take_out [.ref 0, .key i] (CH.of (shH r p (lab (many p))))
def runStand (r p : List Nat) := c_Shelf_standing [.ref 0] (CH.of (shH r p (lab (many p))))
def plL (p : List Nat) : CO := plO p
def runCan (p : List Nat) (d : Deed) := c_can_be_done [.int p.length, .int (many p), .ref 0] (CH.of [dT d])
def runAfter (r p : List Nat) (d : Deed) := c_after_deed [.str r, .int p.length, .ref 0, .ref 1] (CH.of [plL p, dT d])
def mem1 (i : Int) : List Int → Bool
  | [] => false
  | j :: r => match i == j with | true => true | false => mem1 i r
def patF : Nat → Nat → List Int → List Nat
  | 0, _, _ => []
  | n + 1, i, l => (match mem1 (i : Int) l with | true => 49 | false => 48) :: patF n (i + 1) l
/-- what a deed does, as the places behind tell it -/
def ansA (r p : List Nat) (d : Deed) : Option (Int × List Nat) := match rdTL [plL p, dT d] (runAfter r p d) with
  | some (m, l) => (match ileq l (pl (patF p.length 0 l)) with
    | true => some (m, patF p.length 0 l)
    | false => none)
  | none => none
def goodS (r p : List Nat) (d : Deed) (m : Int) (q : List Nat) : Bool := match d.1 with
  | true => Nat.beq (many q) (many p + 1) && isPut m r q (lab (many p + 1)) (runPut r p d.2)
  | false => Nat.beq (many q + 1) (many p) && (m == 0 && isTook r q ((lab (many p)).eraseIdx d.2) (runTake r p d.2))
def goodD (r p : List Nat) (d : Deed) : Bool := isT [dT d] (runCan p d) && (match ansA r p d with
  | some (m, q) => Nat.beq q.length p.length && (isBits q && goodS r p d m q)
  | none => false)
/-- a pair of a number and a text, what was there kept -/
def rdTS (os : List CO) : Option (CV × CH) → Option (Int × List Nat)
  | some (.ref n, h) => (match h.get n with
    | some (.tup [.int m, .str s]) => (match kept h 0 os with | true => some (m, s) | false => none)
    | _ => none)
  | _ => none
theorem rdTS_some {os : List CO} {o : Option (CV × CH)} {m : Int} {s : List Nat} (e : rdTS os o = some (m, s)) : ∃ n h, o = some (.ref n, h) ∧ h.get n = some (.tup [.int m, .str s]) ∧ kept h 0 os = true := by
  unfold rdTS at e
  split at e
  · split at e
    · split at e
      · rename_i hk
        cases e
        exact ⟨_, _, rfl, by assumption, hk⟩
      · cases e
    · cases e
  · cases e
def runStep (r p : List Nat) (d : Deed) := c__law_step [.str r, .str p, .ref 0] (CH.of [dT d])
/-- a new list of just these numbers, what was there kept -/
def isIL (os : List CO) (l : List Int) : Option (CV × CH) → Bool
  | some (.ref n, h) => at_ h n (.lst (l.map CV.int)) && kept h 0 os
  | _ => false
theorem isIL_some {os : List CO} {l : List Int} {o : Option (CV × CH)} (e : isIL os l o = true) : ∃ n h, o = some (.ref n, h) ∧ h.get n = some (.lst (l.map CV.int)) ∧ kept h 0 os = true := by
  unfold isIL at e
  split at e
  · rw [Bool.and_eq_true] at e
    exact ⟨_, _, rfl, at_get e.1, e.2⟩
  · cases e
/-- the law's own step tells the same -/
def goodL (r p : List Nat) (d : Deed) : Bool := match ansA r p d, rdTS [dT d] (runStep r p d) with
  | some (m, q), some (m', q') => m == m' && q == q'
  | _, _ => false
def goodP (p : List Nat) : Bool := rules.all (fun r => isStand r p (lab (many p)) (runStand r p) && (deeds p).all (fun d => goodD r p d && goodL r p d)) && (isIL [] (pl p) (c_places_of [.str p] (CH.of [])) && isStr [plL p] p (c_pattern_of [.int p.length, .ref 0] (CH.of [plL p])))
def goodR (r : List Nat) : Bool := isN [] (c_check_rule [.str r] (CH.of []))
def goodW (n : Nat) : Bool := isN [] (c_check_width [.int n] (CH.of []))
/-- a new shelf -/
def runMake (r : List Nat) (n : Nat) := c_Shelf___init__ [.ref 0, .str r, .int n] (CH.of [.ins 0 []])
def isMade (r : List Nat) (n : Nat) : Option (CV × CH) → Bool
  | some (.non, h) => at_ h 0 (shO r n 1 2 (.int 0)) && (at_ h 1 (.lst []) && at_ h 2 (.lst []))
  | _ => false
theorem isMade_some {r : List Nat} {n : Nat} {o : Option (CV × CH)} (e : isMade r n o = true) : ∃ h, o = some (.non, h) ∧ h.get 0 = some (shO r n 1 2 (.int 0)) ∧ h.get 1 = some (.lst []) ∧ h.get 2 = some (.lst []) := by
  unfold isMade at e
  split at e
  · simp only [Bool.and_eq_true] at e
    exact ⟨_, rfl, at_get e.1, at_get e.2.1, at_get e.2.2⟩
  · cases e
def goodM (n : Nat) : Bool := rules.all fun r => isMade r n (runMake r n)
end CK

namespace CK
theorem g3_small : ((bits 1).all goodP && (bits 2).all goodP && (bits 3).all goodP && ([1,2,3,4,5,6] : List Nat).all goodM) = true := by decide +kernel
theorem gp_r : rules.all goodR = true := by decide +kernel
theorem gp_w : ([1, 2, 3, 4, 5, 6] : List Nat).all goodW = true := by decide +kernel
theorem g6_15 : (((bits 6).drop 60).take 4).all goodP = true := by decide +kernel
theorem g6_11 : (((bits 6).drop 44).take 4).all goodP = true := by decide +kernel
theorem g6_7 : (((bits 6).drop 28).take 4).all goodP = true := by decide +kernel
theorem g6_3 : (((bits 6).drop 12).take 4).all goodP = true := by decide +kernel
theorem g5_7 : (((bits 5).drop 28).take 4).all goodP = true := by decide +kernel
theorem g5_3 : (((bits 5).drop 12).take 4).all goodP = true := by decide +kernel
theorem g4_3 : (((bits 4).drop 12).take 4).all goodP = true := by decide +kernel
end CK

namespace CK
theorem g6_14 : (((bits 6).drop 56).take 4).all goodP = true := by decide +kernel
theorem g6_10 : (((bits 6).drop 40).take 4).all goodP = true := by decide +kernel
theorem g6_6 : (((bits 6).drop 24).take 4).all goodP = true := by decide +kernel
theorem g6_2 : (((bits 6).drop 8).take 4).all goodP = true := by decide +kernel
theorem g5_6 : (((bits 5).drop 24).take 4).all goodP = true := by decide +kernel
theorem g5_2 : (((bits 5).drop 8).take 4).all goodP = true := by decide +kernel
theorem g4_2 : (((bits 4).drop 8).take 4).all goodP = true := by decide +kernel
end CK

namespace CK
theorem g6_13 : (((bits 6).drop 52).take 4).all goodP = true := by decide +kernel
theorem g6_9 : (((bits 6).drop 36).take 4).all goodP = true := by decide +kernel
theorem g6_5 : (((bits 6).drop 20).take 4).all goodP = true := by decide +kernel
theorem g6_1 : (((bits 6).drop 4).take 4).all goodP = true := by decide +kernel
theorem g5_5 : (((bits 5).drop 20).take 4).all goodP = true := by decide +kernel
theorem g5_1 : (((bits 5).drop 4).take 4).all goodP = true := by decide +kernel
theorem g4_1 : (((bits 4).drop 4).take 4).all goodP = true := by decide +kernel
end CK

namespace CK
theorem g6_12 : (((bits 6).drop 48).take 4).all goodP = true := by decide +kernel
theorem g6_8 : (((bits 6).drop 32).take 4).all goodP = true := by decide +kernel
theorem g6_4 : (((bits 6).drop 16).take 4).all goodP = true := by decide +kernel
theorem g6_0 : (((bits 6).drop 0).take 4).all goodP = true := by decide +kernel
theorem g5_4 : (((bits 5).drop 16).take 4).all goodP = true := by decide +kernel
theorem g5_0 : (((bits 5).drop 0).take 4).all goodP = true := by decide +kernel
theorem g4_0 : (((bits 4).drop 0).take 4).all goodP = true := by decide +kernel
end CK

namespace CK
open PySem L2 PyProof.Rows
/-! shelves in the abstract heap -/
def flds (r : List Nat) (n : Nat) (b c : Addr) (t : Int) : List (Str × V) := [(Tx [114, 117, 108, 101], .str (Tx r)), (Tx [119, 105, 100, 101], .int n), (Tx [114, 97, 110, 107, 101, 100], .ref b), (Tx [112, 108, 97, 99, 101, 115], .ref c), (Tx [116, 111, 116, 97, 108], .int t)]
structure Sh (C : Addr) (H : Hp) (a b c : Addr) (r p : List Nat) (ks : List Int) (t : Int) : Prop where
  o : ∃ dx, H a = some (.ins C dx (flds r p.length b c t))
  k : H b = some (.lst (ks.map V.int))
  p : H c = some (.lst ((pl p).map V.int))
theorem rf_flds {η : Em} {r : List Nat} {n nb nc : Nat} {b c : Addr} {tv : CV} {t : Int} (eb : η.as[nb]? = some b) (ec : η.as[nc]? = some c) (rt : RV η tv (.int t)) :
    RF η [([114, 117, 108, 101], .str r), ([119, 105, 100, 101], .int n), ([114, 97, 110, 107, 101, 100], .ref nb), ([112, 108, 97, 99, 101, 115], .ref nc), ([116, 111, 116, 97, 108], tv)] (flds r n b c t) :=
  .cons ⟨rfl, rfl⟩ (.cons ⟨rfl, rfl⟩ (.cons ⟨rfl, b, eb, rfl⟩ (.cons ⟨rfl, c, ec, rfl⟩ (.cons ⟨rfl, rt⟩ .nil))))
theorem RF.fn {η : Em} : ∀ {fs : List (List Nat × CV)} {xs ys : List (Str × V)}, RF η fs xs → RF η fs ys → xs = ys
  | _, _, _, .nil, .nil => rfl
  | _, _, _, .cons (b := x) a s, .cons (b := y) b t => by
    obtain ⟨x1, x2⟩ := x
    obtain ⟨y1, y2⟩ := y
    have e1 : x1 = y1 := a.1.trans b.1.symm
    have e2 : x2 = y2 := RV.fn a.2 b.2
    rw [e1, e2, RF.fn s t]
theorem keys_rv {η : Em} : ∀ ls : List Nat, RVs η (ls.map CV.key) ((ls.map η.k).map V.int)
  | [] => .nil
  | l :: ls => .cons rfl (keys_rv ls)
theorem fill_no {α : Type} {z : α} {c : Nat} (hc : c ≠ 49) (p : List Nat) (xs : List α) : fill z (c :: p) xs = z :: fill z p xs := by cases xs <;> simp [fill, hc]
theorem fill_rv {η : Em} : ∀ {p : List Nat} {xs : List CV} {ys : List V}, RVs η xs ys → RVs η (fill .non p xs) (fill .non p ys)
  | [], _, _, _ => .nil
  | c :: p, xs, ys, r => by
    by_cases hc : c = 49
    · subst hc
      cases r with
      | nil => exact .cons rfl (fill_rv .nil)
      | cons q rs => exact .cons q (fill_rv rs)
    · rw [fill_no hc, fill_no hc]
      exact .cons rfl (fill_rv r)
theorem top_of : ∀ ks : List Int, ∃ B : Int, ∀ x ∈ ks, x < B
  | [] => ⟨0, fun _ h => by cases h⟩
  | k :: ks => by
    obtain ⟨B, hB⟩ := top_of ks
    refine ⟨max (k + 1) B, fun x hx => ?_⟩
    rcases List.mem_cons.mp hx with rfl | hx
    · omega
    · have := hB x hx; omega
/-- the labels' ints -/
theorem kap {ks : List Int} (so : ks.Pairwise (· < ·)) : ∃ κ : Nat → Int, (∀ i j, i < j → κ i < κ j) ∧ ks = (List.range ks.length).map κ := by
  obtain ⟨B, hB⟩ := top_of ks
  refine ⟨fun i => if h : i < ks.length then ks[i] else B + i, fun i j hij => ?_, ?_⟩
  · show (if h : i < ks.length then ks[i] else B + i) < (if h : j < ks.length then ks[j] else B + j)
    by_cases hj : j < ks.length
    · rw [dif_pos hj, dif_pos (Nat.lt_trans hij hj)]
      exact List.pairwise_iff_getElem.mp so i j _ hj hij
    · rw [dif_neg hj]
      by_cases hi : i < ks.length
      · rw [dif_pos hi]
        have := hB ks[i] (List.getElem_mem hi)
        omega
      · rw [dif_neg hi]; omega
  · apply List.ext_getElem
    · simp
    · intro i h1 h2
      simp [h1]
theorem map_er {α β : Type} (f : α → β) : ∀ (l : List α) (j : Nat), (l.map f).eraseIdx j = (l.eraseIdx j).map f
  | [], _ => rfl
  | _ :: _, 0 => rfl
  | a :: l, j + 1 => by
    show f a :: (l.map f).eraseIdx j = f a :: (l.eraseIdx j).map f
    rw [map_er f l j]
/-- a new one finds its place -/
theorem put_sorted {x : Int} : ∀ {ks : List Int}, ks.Pairwise (· < ·) → x ∉ ks → ∃ (ks' : List Int) (j : Nat), ks'.Pairwise (· < ·) ∧ j < ks'.length ∧ ks'[j]? = some x ∧ ks'.eraseIdx j = ks ∧ ks'.length = ks.length + 1 ∧ ∀ y ∈ ks', y = x ∨ y ∈ ks
  | [], _, _ => ⟨[x], 0, by simp, by simp, rfl, rfl, rfl, fun y h => .inl (by simpa using h)⟩
  | k :: ks, so, ni => by
    have so' := List.pairwise_cons.mp so
    by_cases hx : x < k
    · refine ⟨x :: k :: ks, 0, List.pairwise_cons.mpr ⟨fun y hy => ?_, so⟩, by simp, rfl, rfl, rfl, fun y hy => List.mem_cons.mp hy⟩
      rcases List.mem_cons.mp hy with rfl | hy
      · exact hx
      · have := so'.1 y hy; omega
    · have hk : k < x := by
        have : x ≠ k := fun z => ni (by rw [z]; exact List.mem_cons_self)
        omega
      obtain ⟨ks', j, s1, hj, e1, e2, e3, m⟩ := put_sorted so'.2 (fun z => ni (List.mem_cons_of_mem _ z))
      refine ⟨k :: ks', j + 1, List.pairwise_cons.mpr ⟨fun y hy => ?_, s1⟩, by simp [hj], e1, by show k :: ks'.eraseIdx j = _; rw [e2], by simp [e3], fun y hy => ?_⟩
      · rcases m y hy with rfl | h
        · exact hk
        · exact so'.1 y h
      · rcases List.mem_cons.mp hy with rfl | h
        · exact .inr List.mem_cons_self
        · rcases m y h with rfl | h
          · exact .inl rfl
          · exact .inr (List.mem_cons_of_mem _ h)
theorem sh_hr {C a b c : Addr} {H : Hp} {r p : List Nat} {ks : List Int} {t : Int} {κ : Nat → Int} {labs : List CV} (mo : ∀ i j, i < j → κ i < κ j) (s : Sh C H a b c r p ks t) (nbc : b ≠ c) (rv : RVs ⟨κ, fun _ => C, [a, b, c], t⟩ labs (ks.map V.int)) :
    HR (fun _ => C) ⟨κ, fun _ => C, [a, b, c], t⟩ (CH.of (shH r p labs)) H := by
  obtain ⟨dx, ha⟩ := s.o
  have nab : a ≠ b := fun z => by have := s.k; rw [← z, ha] at this; cases this
  have nac : a ≠ c := fun z => by have := s.p; rw [← z, ha] at this; cases this
  refine HR.of mo (by simp [nab, nac, nbc]) rfl fun n x o e1 e2 => ?_
  match n, e1, e2 with
  | 0, e1, e2 =>
    cases e1; cases e2
    exact ⟨_, ha, dx, _, rfl, rf_flds rfl rfl (by show V.int t = V.int (t + 0); rw [Int.add_zero])⟩
  | 1, e1, e2 => cases e1; cases e2; exact ⟨_, s.k, _, rfl, rv⟩
  | 2, e1, e2 => cases e1; cases e2; exact ⟨_, s.p, _, rfl, ints_rv _⟩
  | n + 3, e1, _ => simp at e1
theorem sh_of {C a b : Addr} {η : Em} {h : CH} {H : Hp} {r p : List Nat} {ks : List Int} {t : Int} {labs : List CV} {x : Nat} {tv : CV} (R : HR (fun _ => C) η h H) (e0 : h.get 0 = some (shO r p.length 1 x tv)) (e1 : h.get 1 = some (.lst labs)) (ex : h.get x = some (plO p))
    (ea : η.as[0]? = some a) (eb : η.as[1]? = some b) (rv : RVs η labs (ks.map V.int)) (rt : RV η tv (.int t)) : ∃ c, η.as[x]? = some c ∧ Sh C H a b c r p ks t := by
  obtain ⟨c, O, ec, hc, rc⟩ := R.at ex
  obtain ⟨ys, eO, ry⟩ := (show RO η (.lst ((pl p).map CV.int)) O from rc)
  obtain ⟨dx, zs, ha, rf⟩ := R.ins (show h.get 0 = some (.ins 0 _) from e0) ea
  obtain ⟨us, hb, ru⟩ := R.lst e1 eb
  refine ⟨c, ec, ⟨dx, ?_⟩, ?_, ?_⟩
  · rw [ha, RF.fn rf (rf_flds eb ec rt)]
  · rw [hb, RVs.fn ru rv]
  · rw [hc, eO, rv_ints ry]
theorem lab_rv {η : Em} {ks : List Int} (e : ks = (List.range ks.length).map η.k) : RVs η (lab ks.length) (ks.map V.int) := by
  have q := keys_rv (η := η) (List.range ks.length)
  rw [← e] at q
  exact q
theorem labX_rv {η : Em} {ks : List Int} (e : ks = (List.range ks.length).map η.k) (j : Nat) : RVs η ((lab ks.length).eraseIdx j) ((ks.eraseIdx j).map V.int) := by
  have q := keys_rv (η := η) ((List.range ks.length).eraseIdx j)
  have e2 : ks.eraseIdx j = ((List.range ks.length).eraseIdx j).map η.k := by rw [← map_er, ← e]
  unfold lab
  rw [map_er, e2]
  exact q
end CK

namespace CK
open PySem L2 PyProof.Rows
theorem bits_mem : ∀ {p : List Nat}, isBits p = true → p ∈ bits p.length
  | [], _ => List.mem_singleton.mpr rfl
  | 48 :: r, h => List.mem_append_left _ (List.mem_map.mpr ⟨r, bits_mem (p := r) h, rfl⟩)
  | 49 :: r, h => List.mem_append_right _ (List.mem_map.mpr ⟨r, bits_mem (p := r) h, rfl⟩)
theorem of_bits {n : Nat} {f : List Nat → Bool} (h : (bits n).all f = true) {p : List Nat} (hb : isBits p = true) (hl : p.length = n) : f p = true := List.all_eq_true.mp h p (by rw [← hl]; exact bits_mem hb)
theorem all4 {α : Type} {f : α → Bool} {l : List α} {k : Nat} (a : ((l.drop k).take 4).all f = true) (b : (l.drop (k + 4)).all f = true) : (l.drop k).all f = true := by
  have e : l.drop k = (l.drop k).take 4 ++ l.drop (k + 4) := by
    rw [← List.drop_drop]
    exact (List.take_append_drop 4 _).symm
  rw [e, List.all_append, a, b]
  rfl
theorem g3_4 : (bits 4).all goodP = true := all4 (k := 0) g4_0 (all4 (k := 4) g4_1 (all4 (k := 8) g4_2 (all4 (k := 12) g4_3 rfl)))
theorem g3_5 : (bits 5).all goodP = true := all4 (k := 0) g5_0 (all4 (k := 4) g5_1 (all4 (k := 8) g5_2 (all4 (k := 12) g5_3 (all4 (k := 16) g5_4 (all4 (k := 20) g5_5 (all4 (k := 24) g5_6 (all4 (k := 28) g5_7 rfl)))))))
theorem g3_6 : (bits 6).all goodP = true := all4 (k := 0) g6_0 (all4 (k := 4) g6_1 (all4 (k := 8) g6_2 (all4 (k := 12) g6_3 (all4 (k := 16) g6_4 (all4 (k := 20) g6_5 (all4 (k := 24) g6_6 (all4 (k := 28) g6_7 (all4 (k := 32) g6_8 (all4 (k := 36) g6_9 (all4 (k := 40) g6_10 (all4 (k := 44) g6_11 (all4 (k := 48) g6_12 (all4 (k := 52) g6_13 (all4 (k := 56) g6_14 (all4 (k := 60) g6_15 rfl)))))))))))))))
theorem goodP_all {p : List Nat} (hb : isBits p = true) (h1 : 1 ≤ p.length) (h6 : p.length ≤ 6) : goodP p = true := by
  have hl : p.length = 1 ∨ p.length = 2 ∨ p.length = 3 ∨ p.length = 4 ∨ p.length = 5 ∨ p.length = 6 := by omega
  have g := g3_small
  simp only [Bool.and_eq_true] at g
  rcases hl with hl | hl | hl | hl | hl | hl
  · exact of_bits g.1.1.1 hb hl
  · exact of_bits g.1.1.2 hb hl
  · exact of_bits g.1.2 hb hl
  · exact of_bits g3_4 hb hl
  · exact of_bits g3_5 hb hl
  · exact of_bits g3_6 hb hl
def step1 (w n : Nat) (d : Deed) : Option Nat := match d.1 with
  | true => if d.2 ≤ n ∧ n < w then some (n + 1) else none
  | false => if d.2 < n then some (n - 1) else none
def cnt (w : Nat) : Nat → List Deed → Option Nat
  | n, [] => some n
  | n, d :: ds => match step1 w n d with
    | some m => cnt w m ds
    | none => none
theorem cnt_snoc {w : Nat} {d : Deed} {m' : Nat} : ∀ {ds : List Deed} {n m : Nat}, cnt w n ds = some m → step1 w m d = some m' → cnt w n (ds ++ [d]) = some m'
  | [], n, m, h, s => by
    cases h
    show (match step1 w n d with | some m => cnt w m [] | none => none) = some m'
    rw [s]
    rfl
  | e :: ds, n, m, h, s => by
    show (match step1 w n e with | some m => cnt w m (ds ++ [d]) | none => none) = some m'
    have h : (match step1 w n e with | some m => cnt w m ds | none => none) = some m := h
    cases q : step1 w n e with
    | none => rw [q] at h; cases h
    | some k =>
      rw [q] at h
      exact cnt_snoc h s
theorem cnt_take {w : Nat} : ∀ {ds : List Deed} {n m i : Nat} {d : Deed}, cnt w n ds = some m → ds[i]? = some d → ∃ k k', cnt w n (ds.take i) = some k ∧ step1 w k d = some k'
  | e :: ds, n, m, i, d, h, g => by
    have h : (match step1 w n e with | some m => cnt w m ds | none => none) = some m := h
    cases q : step1 w n e with
    | none => rw [q] at h; cases h
    | some k =>
      rw [q] at h
      cases i with
      | zero => cases g; exact ⟨n, k, rfl, q⟩
      | succ i =>
        obtain ⟨a, b, h1, h2⟩ := cnt_take (i := i) h (by simpa using g)
        refine ⟨a, b, ?_, h2⟩
        show (match step1 w n e with | some m => cnt w m (ds.take i) | none => none) = some a
        rw [q]
        exact h1
structure Good (r p : List Nat) (d : Deed) (m : Int) (q : List Nat) : Prop where
  after : rdTL [plL p, dT d] (runAfter r p d) = some (m, pl q)
  can : isT [dT d] (runCan p d) = true
  law : rdTS [dT d] (runStep r p d) = some (m, q)
  len : q.length = p.length
  bits : isBits q = true
  cnt : step1 p.length (many p) d = some (many q)
  put : d.1 = true → isPut m r q (lab (many p + 1)) (runPut r p d.2) = true ∧ many q = many p + 1
  tk : d.1 = false → m = 0 ∧ isTook r q ((lab (many p)).eraseIdx d.2) (runTake r p d.2) = true ∧ many q + 1 = many p
theorem many_le : ∀ p : List Nat, many p ≤ p.length
  | [] => Nat.le_refl _
  | x :: r => by
    have := many_le r
    unfold many
    split
    · rename_i e; cases e
    · rename_i e; cases e; simp; omega
    · rename_i e; cases e; simp; omega
theorem deed_mem {p : List Nat} {d : Deed} {k : Nat} (h : step1 p.length (many p) d = some k) : d ∈ deeds p := by
  obtain ⟨b, r⟩ := d
  unfold deeds
  cases b with
  | true =>
    have h : (if r ≤ many p ∧ many p < p.length then some (many p + 1) else none) = some k := h
    split at h
    · rename_i hc
      have e : Nat.blt (many p) p.length = true := Nat.ble_eq_true_of_le (show many p + 1 ≤ p.length by omega)
      rw [e]
      exact List.mem_append_right _ (List.mem_map.mpr ⟨r, List.mem_range.mpr (by omega), rfl⟩)
    · cases h
  | false =>
    have h : (if r < many p then some (many p - 1) else none) = some k := h
    split at h
    · rename_i hc
      exact List.mem_append_left _ (List.mem_map.mpr ⟨r, List.mem_range.mpr hc, rfl⟩)
    · cases h
theorem good_of {r p : List Nat} {d : Deed} {k : Nat} (hr : r ∈ rules) (hb : isBits p = true) (h1 : 1 ≤ p.length) (h6 : p.length ≤ 6) (hd : step1 p.length (many p) d = some k) : ∃ m q, ansA r p d = some (m, q) ∧ Good r p d m q := by
  have g := goodP_all hb h1 h6
  unfold goodP at g
  rw [Bool.and_eq_true] at g
  have g1 := List.all_eq_true.mp g.1 r hr
  rw [Bool.and_eq_true] at g1
  have g1 := List.all_eq_true.mp g1.2 d (deed_mem hd)
  rw [Bool.and_eq_true] at g1
  obtain ⟨g1, gL⟩ := g1
  unfold goodD at g1
  rw [Bool.and_eq_true] at g1
  obtain ⟨gc, gs⟩ := g1
  cases es : ansA r p d with
  | none => rw [es] at gs; cases gs
  | some mq =>
    obtain ⟨m, q⟩ := mq
    rw [es] at gs
    simp only [Bool.and_eq_true] at gs
    obtain ⟨gl, gi, gm⟩ := gs
    have ga : rdTL [plL p, dT d] (runAfter r p d) = some (m, pl q) := by
      unfold ansA at es
      split at es
      · rename_i m' l e
        split at es
        · rename_i ei
          cases es
          rw [e]
          exact congrArg (fun u => some (m, u)) (ileq_eq ei)
        · cases es
      · cases es
    obtain ⟨b, n⟩ := d
    unfold goodS at gm
    refine ⟨m, q, rfl, ga, gc, ?_, Nat.eq_of_beq_eq_true gl, gi, ?_, ?_, ?_⟩
    · unfold goodL at gL
      rw [es] at gL
      split at gL
      · rename_i m0 q0 m1 q1 ea e2
        cases ea
        rw [Bool.and_eq_true] at gL
        rw [e2, eq_of_beq gL.1, eq_of_beq gL.2]
      · cases gL
    · cases b with
      | true =>
        have gm : (Nat.beq (many q) (many p + 1) && isPut m r q (lab (many p + 1)) (runPut r p n)) = true := gm
        rw [Bool.and_eq_true] at gm
        have gm := Nat.eq_of_beq_eq_true gm.1
        have hd : (if n ≤ many p ∧ many p < p.length then some (many p + 1) else none) = some k := hd
        show (if n ≤ many p ∧ many p < p.length then some (many p + 1) else none) = some (many q)
        split at hd
        · rename_i hc; rw [if_pos hc, gm]
        · cases hd
      | false =>
        have gm : (Nat.beq (many q + 1) (many p) && (m == 0 && isTook r q ((lab (many p)).eraseIdx n) (runTake r p n))) = true := gm
        rw [Bool.and_eq_true] at gm
        have gm := Nat.eq_of_beq_eq_true gm.1
        have hd : (if n < many p then some (many p - 1) else none) = some k := hd
        show (if n < many p then some (many p - 1) else none) = some (many q)
        split at hd
        · rename_i hc; rw [if_pos hc]; congr 1; omega
        · cases hd
    · intro eb
      cases (show b = true from eb)
      have gm : (Nat.beq (many q) (many p + 1) && isPut m r q (lab (many p + 1)) (runPut r p n)) = true := gm
      rw [Bool.and_eq_true] at gm
      exact ⟨gm.2, Nat.eq_of_beq_eq_true gm.1⟩
    · intro eb
      cases (show b = false from eb)
      have gm : (Nat.beq (many q + 1) (many p) && (m == 0 && isTook r q ((lab (many p)).eraseIdx n) (runTake r p n))) = true := gm
      rw [Bool.and_eq_true, Bool.and_eq_true] at gm
      exact ⟨eq_of_beq gm.2.1, gm.2.2, Nat.eq_of_beq_eq_true gm.1⟩
/-- what a step tells -/
def stepM (r p : List Nat) (d : Deed) : Int × List Nat := (ansA r p d).getD (0, [])
theorem good_step {r p : List Nat} {d : Deed} {k : Nat} (hr : r ∈ rules) (hb : isBits p = true) (h1 : 1 ≤ p.length) (h6 : p.length ≤ 6) (hd : step1 p.length (many p) d = some k) : Good r p d (stepM r p d).1 (stepM r p d).2 := by
  obtain ⟨m, q, e1, g⟩ := good_of hr hb h1 h6 hd
  have e : stepM r p d = (m, q) := by unfold stepM; rw [e1]; rfl
  rw [e]
  exact g
/-- many steps -/
def runM (r : List Nat) : List Nat → List Deed → List Int × List Nat
  | p, [] => ([], p)
  | p, d :: ds => ((stepM r p d).1 :: (runM r (stepM r p d).2 ds).1, (runM r (stepM r p d).2 ds).2)
theorem runM_snoc (r : List Nat) (d : Deed) : ∀ (ds : List Deed) (p : List Nat), runM r p (ds ++ [d]) = ((runM r p ds).1 ++ [(stepM r (runM r p ds).2 d).1], (stepM r (runM r p ds).2 d).2)
  | [], p => rfl
  | e :: ds, p => by
    show ((stepM r p e).1 :: (runM r (stepM r p e).2 (ds ++ [d])).1, (runM r (stepM r p e).2 (ds ++ [d])).2) = _
    rw [runM_snoc r d ds]
    rfl
theorem runM_len (r : List Nat) : ∀ (ds : List Deed) (p : List Nat), (runM r p ds).1.length = ds.length
  | [], _ => rfl
  | d :: ds, p => by
    show (runM r (stepM r p d).2 ds).1.length + 1 = _
    rw [runM_len r ds]
    rfl
def zeros (w : Nat) : List Nat := List.replicate w 48
theorem zeros_ok : ∀ w : Nat, isBits (zeros w) = true ∧ many (zeros w) = 0 ∧ (zeros w).length = w
  | 0 => ⟨rfl, rfl, rfl⟩
  | w + 1 => by
    obtain ⟨a, b, c⟩ := zeros_ok w
    exact ⟨a, b, by unfold zeros; rw [List.length_replicate]⟩
theorem plFrom_zeros : ∀ (w i : Nat), plFrom i (zeros w) = []
  | 0, _ => rfl
  | w + 1, i => plFrom_zeros w (i + 1)
/-- the state behind some deeds that can be done -/
theorem run_state {r : List Nat} {w : Nat} (hr : r ∈ rules) (h1 : 1 ≤ w) (h6 : w ≤ 6) : ∀ (ds : List Deed) {p : List Nat} {k : Nat}, isBits p = true → p.length = w → cnt w (many p) ds = some k →
    isBits (runM r p ds).2 = true ∧ (runM r p ds).2.length = w ∧ many (runM r p ds).2 = k
  | [], p, k, hb, hl, hc => by cases hc; exact ⟨hb, hl, rfl⟩
  | d :: ds, p, k, hb, hl, hc => by
    have hc : (match step1 w (many p) d with | some m => cnt w m ds | none => none) = some k := hc
    cases q : step1 w (many p) d with
    | none => rw [q] at hc; cases hc
    | some m =>
      rw [q] at hc
      have g := good_step hr hb (by omega) (by omega) (by rw [hl]; exact q)
      have gc := g.cnt
      rw [hl, q] at gc
      cases gc
      exact run_state hr h1 h6 ds g.bits (g.len.trans hl) hc
section
variable {p : List Nat} (hb : isBits p = true) (h1 : 1 ≤ p.length) (h6 : p.length ≤ 6)
include hb h1 h6
theorem stand_of {r : List Nat} (hr : r ∈ rules) : isStand r p (lab (many p)) (runStand r p) = true := by
  have g := goodP_all hb h1 h6
  unfold goodP at g
  rw [Bool.and_eq_true] at g
  have g := List.all_eq_true.mp g.1 r hr
  rw [Bool.and_eq_true] at g
  exact g.1
theorem places_good : ∃ n h', c_places_of [.str p] (CH.of []) = some (.ref n, h') ∧ h'.get n = some (.lst ((pl p).map CV.int)) ∧ kept h' 0 [] = true := by
  have g := goodP_all hb h1 h6
  unfold goodP at g
  simp only [Bool.and_eq_true] at g
  exact isIL_some g.2.1
theorem pattern_good : ∃ h', c_pattern_of [.int p.length, .ref 0] (CH.of [plL p]) = some (.str p, h') ∧ kept h' 0 [plL p] = true := by
  have g := goodP_all hb h1 h6
  unfold goodP at g
  simp only [Bool.and_eq_true] at g
  exact isStr_some g.2.2
end
/-- all but some stay -/
def Frm (l : List Addr) (H H' : Hp) : Prop := ∀ y o, y ∉ l → H y = some o → H' y = some o
section
variable {C a b c : Addr} {r p : List Nat} {t : Int} {H : Hp} {Q : VK} {E : XK}
theorem kget {ks : List Int} {κ : Nat → Int} (e : ks = (List.range ks.length).map κ) {j : Nat} {x : Int} (h : ks[j]? = some x) : κ j = x := by
  have hj : j < ks.length := (List.getElem?_eq_some_iff.mp h).1
  rw [e, List.getElem?_map, List.getElem?_range hj] at h
  exact Option.some.inj h
theorem put_call {j : Nat} {m x : Int} {q : List Nat} {ks : List Int} (gpt : isPut m r q (lab (many p + 1)) (runPut r p j) = true) (gln : q.length = p.length) (so : ks.Pairwise (· < ·)) (kl : ks.length = many p + 1) (ej : ks[j]? = some x) (s : Sh C H a b c r p (ks.eraseIdx j) t) (nbc : b ≠ c)
    (k : ∀ H' c', Sh C H' a b c' r q ks (t + m) → b ≠ c' → (c' = c ∨ H c' = none) → Frm [a, b, c] H H' → Q (.int m) H') : spOf (fun _ => C) c_Shelf_put_in [.ref a, .int x] H Q E := by
  obtain ⟨κ, mo, ek⟩ := kap so
  have rvx := labX_rv (η := ⟨κ, fun _ => C, [a, b, c], t⟩) (ks := ks) ek j
  rw [kl] at rvx
  have hr := sh_hr mo s nbc rvx
  obtain ⟨h', x', e, e0, e1, ex, hx⟩ := isPut_some gpt
  have e : c_Shelf_put_in [.ref 0, .key j] (CH.of (shH r p ((lab (many p + 1)).eraseIdx j))) = some (.int m, h') := e
  have rk : RV ⟨κ, fun _ => C, [a, b, c], t⟩ (.key j) (.int x) := by show V.int x = V.int (κ j); rw [kget ek ej]
  refine ⟨_, _, _, .cons (rvR (n := 0) rfl) (.cons rk .nil), hr, _, _, e, fun η' H' v' S R rv => ?_⟩
  cases (show v' = .int m from rv)
  have ek' : ks = (List.range ks.length).map η'.k := by rw [S.le.k]; exact ek
  have rl := lab_rv (η := η') ek'
  rw [kl] at rl
  have eb : η'.as[1]? = some b := S.le.get rfl
  obtain ⟨c', ec, s'⟩ := sh_of (a := a) (b := b) (t := t + m) R (by rw [gln] at *; exact e0) e1 ex (S.le.get rfl) eb rl (by show V.int (t + m) = V.int (η'.t + m); rw [S.le.t])
  refine k H' c' s' (fun z => hx ?_) ?_ (fun y o ny hy => S.fr y o ny hy)
  · exact nd_ix R.nd ec (by rw [← z]; exact eb)
  · by_cases m1 : c' ∈ [a, b, c]
    · have nb : c' ≠ b := fun z => hx (nd_ix R.nd ec (by rw [z]; exact eb))
      obtain ⟨dx, ho⟩ := s'.o
      have na : c' ≠ a := fun z => by have := s'.p; rw [z, ho] at this; cases this
      rcases List.mem_cons.mp m1 with z | m1
      · exact absurd z na
      · rcases List.mem_cons.mp m1 with z | m1
        · exact absurd z nb
        · exact .inl (by simpa using m1)
    · exact .inr (S.nw c' (List.mem_of_getElem? ec) m1)
theorem take_call {i : Nat} {x : Int} {q : List Nat} {ks : List Int} (gtk : isTook r q ((lab (many p)).eraseIdx i) (runTake r p i) = true) (gln : q.length = p.length) (so : ks.Pairwise (· < ·)) (kl : ks.length = many p) (ei : ks[i]? = some x) (s : Sh C H a b c r p ks t) (nbc : b ≠ c)
    (k : ∀ H', Sh C H' a b c r q (ks.eraseIdx i) t → Frm [a, b, c] H H' → Q .non H') : spOf (fun _ => C) c_Shelf_take_out [.ref a, .int x] H Q E := by
  obtain ⟨κ, mo, ek⟩ := kap so
  have rvl := lab_rv (η := ⟨κ, fun _ => C, [a, b, c], t⟩) (ks := ks) ek
  rw [kl] at rvl
  have hr := sh_hr mo s nbc rvl
  obtain ⟨h', e, e0, e1, ex⟩ := isTook_some gtk
  have e : c_Shelf_take_out [.ref 0, .key i] (CH.of (shH r p (lab (many p)))) = some (.non, h') := e
  have rk : RV ⟨κ, fun _ => C, [a, b, c], t⟩ (.key i) (.int x) := by show V.int x = V.int (κ i); rw [kget ek ei]
  refine ⟨_, _, _, .cons (rvR (n := 0) rfl) (.cons rk .nil), hr, _, _, e, fun η' H' v' S R rv => ?_⟩
  cases (show v' = .non from rv)
  have ek' : ks = (List.range ks.length).map η'.k := by rw [S.le.k]; exact ek
  have rl := labX_rv (η := η') ek' i
  rw [kl] at rl
  obtain ⟨c', ec, s'⟩ := sh_of (a := a) (b := b) (t := t) R (by rw [gln] at *; exact e0) e1 ex (S.le.get rfl) (S.le.get rfl) rl (by show V.int t = V.int (η'.t + 0); rw [S.le.t, Int.add_zero])
  have e2 : η'.as[2]? = some c := S.le.get rfl
  rw [e2] at ec
  cases ec
  exact k H' s' fun y o ny hy => S.fr y o ny hy
def rowV (p : List Nat) (ks : List Int) : List V := fill .non p (ks.map V.int)
theorem stand_call {ks : List Int} (hr0 : r ∈ rules) (hb : isBits p = true) (h1 : 1 ≤ p.length) (h6 : p.length ≤ 6) (so : ks.Pairwise (· < ·)) (kl : ks.length = many p) (s : Sh C H a b c r p ks t) (nbc : b ≠ c)
    (k : ∀ H' D, Sh C H' a b c r p ks t → H' D = some (.lst (rowV p ks)) → H D = none → Frm [a, b, c] H H' → Q (.ref D) H') : spOf (fun _ => C) c_Shelf_standing [.ref a] H Q E := by
  obtain ⟨κ, mo, ek⟩ := kap so
  have rvl := lab_rv (η := ⟨κ, fun _ => C, [a, b, c], t⟩) (ks := ks) ek
  rw [kl] at rvl
  have hr := sh_hr mo s nbc rvl
  obtain ⟨n, h', e, hn, en, e0, e1, ex⟩ := isStand_some (stand_of hb h1 h6 hr0)
  refine ⟨_, _, _, .cons (rvR (n := 0) rfl) .nil, hr, _, _, e, fun η' H' v' S R rv => ?_⟩
  obtain ⟨D, eD, rfl⟩ := rv
  have ek' : ks = (List.range ks.length).map η'.k := by rw [S.le.k]; exact ek
  have rl := lab_rv (η := η') ek'
  rw [kl] at rl
  obtain ⟨c', ec, s'⟩ := sh_of (a := a) (b := b) (t := t) R e0 e1 ex (S.le.get rfl) (S.le.get rfl) rl (by show V.int t = V.int (η'.t + 0); rw [S.le.t, Int.add_zero])
  have e2 : η'.as[2]? = some c := S.le.get rfl
  have e2' := e2
  rw [ec] at e2
  cases e2
  obtain ⟨ys, hD, ry⟩ := R.lst en eD
  refine k H' D s' (by rw [hD, RVs.fn ry (fill_rv rl)]; rfl) (S.nw D (List.mem_of_getElem? eD) fun z => ?_) fun y o ny hy => S.fr y o ny hy
  obtain ⟨i, hi⟩ := List.getElem?_of_mem z
  have hi3 : i < 3 := (List.getElem?_eq_some_iff.mp hi).1
  have := nd_ix R.nd eD (S.le.get hi)
  omega
theorem moved_call {ks : List Int} {labs : List CV} {κ : Nat → Int} (mo : ∀ i j, i < j → κ i < κ j) (rv : RVs ⟨κ, fun _ => C, [a, b, c], t⟩ labs (ks.map V.int)) (s : Sh C H a b c r p ks t) (nbc : b ≠ c)
    (k : ∀ H', Sh C H' a b c r p ks t → Frm [a, b, c] H H' → Q (.int t) H') : spOf (fun _ => C) c_Shelf_moved [.ref a] H Q E := by
  have hr := sh_hr mo s nbc rv
  refine ⟨_, _, _, .cons (rvR (n := 0) rfl) .nil, hr, .off 0, CH.of (shH r p labs), by rfl, fun η' H' v' S R rv' => ?_⟩
  have rv' : v' = .int (η'.t + 0) := rv'
  rw [S.le.t, Int.add_zero] at rv'
  subst rv'
  obtain ⟨c', ec, s'⟩ := sh_of (a := a) (b := b) (t := t) (labs := labs) (x := 2) (tv := .off 0) R (by rw [CH.of_get]; rfl) (by rw [CH.of_get]; rfl) (by rw [CH.of_get]; rfl) (S.le.get rfl) (S.le.get rfl) (RVs.mono S.le rv) (by show V.int t = V.int (η'.t + 0); rw [S.le.t, Int.add_zero])
  have e2 : η'.as[2]? = some c := S.le.get rfl
  rw [e2] at ec
  cases ec
  exact k H' s' fun y o ny hy => S.fr y o ny hy
end
end CK

namespace CK
open PySem L2 PyProof.Rows
section
variable {P : Program} {w : World} {K : PySem.W.Frag} {mg : Str → Option Value} {base : Heap} {cc : Nat → Addr}
/-- the draws' list: two numbers, then more -/
def Dice (ns : List Int) : Prop := 2 ≤ ns.length ∧ ns.length ≤ 1000
def DiceAt (H : Hp) (a : Addr) : Prop := ∃ ns, Dice ns ∧ H a = some (.lst (ns.map V.int))
abbrev s__law_off : Stmt := top 54
theorem sc__law_off : FnScope ["_law_d", "_law_most", "_law_found"] ["_law_d", "_law_most"] (defScope s__law_off) := ⟨rfl, rfl, rfl, by decide +kernel, rfl, by decide +kernel, by decide +kernel⟩
def spOff : Sp := fun vs H Q _ => ∃ a m ns, vs = [.ref a, .int m] ∧ 0 < m ∧ m < 1073741824 ∧ Dice ns ∧ H a = some (.lst (ns.map V.int)) ∧ ∀ r ns', 0 ≤ r → r < m → Dice ns' → Q (.int r) (upd H a (.lst (ns'.map V.int)))
theorem ix_rd {H : Hp} {Q : VK} {a : Addr} {xs : List V} {i : Int} {j : Nat} {v : V} (h : H a = some (.lst xs)) (e : i = (j : Int)) (g : xs[j]? = some v) (q : Q v H) : rIxL K (.ref a) (.int i) H Q := ⟨a, xs, i, v, rfl, rfl, SqL.of h, at_of e g, q⟩
theorem upd_id {H : Hp} {a : Addr} {o : HO} (h : H a = some o) : upd H a o = H := by
  funext b
  unfold upd
  split
  · rename_i e; rw [e, h]
  · rfl
theorem mod_lt' {r m : Int} (h : 0 < m) : 0 ≤ r % m ∧ r % m < m := ⟨Int.emod_nonneg _ (by omega), Int.emod_lt_of_pos _ h⟩
theorem ok_off {f : Addr} {fd : FuncData} (F : Fun K "_law_off" "_law_off" s__law_off f fd) (T : Txt K mg cc) : FnOk P w K mg base CX0 1 f fd ["_law_d", "_law_most"] spOff := by
  refine F.ok sc__law_off (fun vs H Q E h => ?_) (fun cdv A outer s H vs Q E hr h => ?_)
  · obtain ⟨a, m, ns, rfl, _⟩ := h
    rfl
  · obtain ⟨a, m, ns, rfl, hm, hm2, hd, ha, kq⟩ := h
    have nd := sc__law_off.nd
    refine ⟨_, pss_cons (ps_if (PW.pt (pw_and (pt_cmpR op_eq (pe_ix (r := rIxL K) ix_list (pv 0) pe_int (fun _ _ => rfl)) pe_int (nomark _)) (pw_and1 (pt_cmpR op_gt (pe_callB call_len_seq (by rfl) T.n_len boot_len (pa_cons (pv 0) pa_nil)) pe_int (nomark _)))))
        (pss_one (ps_asg (pe_bm PySem.F.plainAttrs_list PySem.F.slot_list_pop PySem.F.type_list_pop mt_popAt (pv 0) (pa_cons pe_int pa_nil)) (pg_sub (pv 0) pe_int set_list))) pss_nil)
      (pss_cons (ps_if (pt_cmpR op_gt (pe_ix (r := rIxL K) ix_list (pv 0) pe_int (fun _ _ => rfl)) pe_int (nomark _))
        (pss_cons (ps_set (i := 2) nd rfl (Or.inl rfl) (pe_op op_mod (pe_ix (r := rIxL K) ix_list (pv 0) pe_int (fun _ _ => rfl)) (pv 1)))
        (pss_cons (ps_asg (pe_op op_fdiv (pe_ix (r := rIxL K) ix_list (pv 0) pe_int (fun _ _ => rfl)) (pv 1)) (pg_sub (pv 0) pe_int set_list))
        (pss_one (ps_ret (pv 2))))) pss_nil)
      (pss_cons (ps_asg (pe_op op_mod (pe_op op_add (pe_op op_mul (pe_ix (r := rIxL K) ix_list (pv 0) pe_int (fun _ _ => rfl)) pe_int) pe_int) pe_int) (pg_sub (pv 0) pe_int set_list))
      (pss_one (ps_ret (pe_op op_mod (pe_op op_fdiv (pe_ix (r := rIxL K) ix_list (pv 0) pe_int (fun _ _ => rfl)) pe_int) (pv 1)))))), ?_⟩
    -- the part behind the first if, at any list
    have part : ∀ (ns1 : List Int) (H1 : Hp), Dice ns1 → H1 a = some (.lst (ns1.map V.int)) → (∀ r ns', 0 ≤ r → r < m → Dice ns' → Q (.int r) (upd H1 a (.lst (ns'.map V.int)))) →
        tSeq (tIfS (tTest (tOp (rI0 fun i j => V.bl (decide (j < i))) (tOp (rIxL K) (tVar 0) (tC (.int 1))) (tC (.int 0))))
          (tSeq (tAsg (tOp (rI (fun _ j => 0 < j) fun i j => V.int (i % j)) (tOp (rIxL K) (tVar 0) (tC (.int 1))) (tVar 1)) (gName 2))
          (tSeq (tAsg (tOp (rI CDiv fun i j => V.int (i / j)) (tOp (rIxL K) (tVar 0) (tC (.int 1))) (tVar 1)) (gSub (tVar 0) (tC (.int 1)) rSetL)) (tRet (tVar 2)))) tNext)
        (tSeq (tAsg (tOp (rI (fun _ j => 0 < j) fun i j => V.int (i % j)) (tOp (rI0 fun i j => V.int (i + j)) (tOp (rI CMul fun i j => V.int (i * j)) (tOp (rIxL K) (tVar 0) (tC (.int 0))) (tC (.int 48271))) (tC (.int 11))) (tC (.int 2147483647))) (gSub (tVar 0) (tC (.int 0)) rSetL))
          (tRet (tOp (rI (fun _ j => 0 < j) fun i j => V.int (i % j)) (tOp (rI CDiv fun i j => V.int (i / j)) (tOp (rIxL K) (tVar 0) (tC (.int 0))) (tC (.int 64))) (tVar 1)))) { nx := fun _ H' => Q .non H', rt := Q } [some (.ref a), some (.int m), none] H1 := by
      intro ns1 H1 hd1 h1 k1
      obtain ⟨x, y, zs, rfl⟩ : ∃ x y zs, ns1 = x :: y :: zs := by
        match ns1, hd1 with
        | x :: y :: zs, _ => exact ⟨x, y, zs, rfl⟩
        | [_], h => exact absurd h.1 (by simp)
        | [], h => exact absurd h.1 (by simp)
      refine ⟨_, rfl, a, _, _, _, rfl, rfl, SqL.of h1, at_of (j := 1) rfl rfl, _, _, rfl, rfl, _, rfl, ?_⟩
      refine ite2 (fun hy => ?_) (fun hy => ?_)
      · refine ⟨_, rfl, a, _, _, _, rfl, rfl, SqL.of h1, at_of (j := 1) rfl rfl, _, rfl, _, _, rfl, rfl, hm, ?_⟩
        refine ⟨_, rfl, a, _, _, _, rfl, rfl, SqL.of h1, at_of (j := 1) rfl rfl, _, rfl, _, _, rfl, rfl, ⟨hm, hm2⟩, ?_⟩
        refine ⟨_, rfl, a, _, 1, 1, rfl, rfl, h1, ?_, ?_⟩
        · unfold ixN
          rw [if_pos (by decide), if_pos (by rw [List.length_map, List.length_cons, List.length_cons]; omega)]
          rfl
        · exact ⟨_, rfl, k1 _ (x :: (y / m) :: zs) (mod_lt' hm).1 (mod_lt' hm).2 ⟨by simp, by have := hd1.2; simpa using this⟩⟩
      · refine ⟨_, rfl, a, _, _, _, rfl, rfl, SqL.of h1, at_of (j := 0) rfl rfl, _, _, rfl, rfl, .inr ⟨by decide, by decide⟩, _, _, rfl, rfl, _, _, rfl, rfl, (show (0 : Int) < 2147483647 by decide), ?_⟩
        refine ⟨_, rfl, a, _, 0, 0, rfl, rfl, h1, ?_, ?_⟩
        · unfold ixN
          rw [if_pos (by decide), if_pos (by rw [List.length_map, List.length_cons, List.length_cons]; omega)]
          rfl
        · refine ⟨_, rfl, a, _, _, _, rfl, rfl, SqL.of upd_same, at_of (j := 0) rfl rfl, _, _, rfl, rfl, ⟨by decide, by decide⟩, _, rfl, _, _, rfl, rfl, hm, ?_⟩
          exact k1 _ (((x * 48271 + 11) % 2147483647) :: y :: zs) (mod_lt' hm).1 (mod_lt' hm).2 ⟨by simp, by have := hd1.2; simpa using this⟩
    obtain ⟨x, y, zs, rfl⟩ : ∃ x y zs, ns = x :: y :: zs := by
      match ns, hd with
      | x :: y :: zs, _ => exact ⟨x, y, zs, rfl⟩
      | [_], h => exact absurd h.1 (by simp)
      | [], h => exact absurd h.1 (by simp)
    refine ⟨_, rfl, a, _, _, _, rfl, rfl, SqL.of ha, at_of (j := 1) rfl rfl, rfl, _, rfl, ?_⟩
    refine ite2 (fun hy => ?_) (fun hy => iteF ?_)
    · refine ⟨_, rfl, a, _, rfl, .inl (SqL.of ha), _, _, rfl, rfl, _, rfl, ?_⟩
      refine ite2 (fun hl => ?_) (fun hl => part _ H hd ha kq)
      cases zs with
      | nil => exact absurd (show (2 : Int) < ((2 : Nat) : Int) from of_decide_eq_true hl) (by decide)
      | cons z zs =>
        refine ⟨_, rfl, .inl ⟨rfl, _, SqL.of ha⟩, a, _, 2, 2, .int z, rfl, rfl, ha, by decide, by decide, ?_, rfl, ?_⟩
        · rw [seqIndex_of (by decide) (by rw [List.length_map, List.length_cons, List.length_cons, List.length_cons]; omega)]
          rfl
        · refine ⟨_, rfl, a, _, 1, 1, rfl, rfl, upd_same, ?_, ?_⟩
          · unfold ixN
            rw [if_pos (by decide), if_pos (by show (1 : Int) < ((((x :: y :: z :: zs).map V.int).eraseIdx 2).length : Nat); show (1 : Int) < ((zs.map V.int).length + 1 + 1 : Nat); omega)]
            rfl
          · rw [upd_upd]
            have hd1 : Dice (x :: z :: zs) := ⟨by simp, by have := hd.2; simp at this ⊢; omega⟩
            refine part (x :: z :: zs) _ hd1 upd_same fun r ns' h1 h2 h3 => ?_
            rw [upd_upd]
            exact kq r ns' h1 h2 h3
    · exact part _ H hd ha kq
end
end CK

namespace CK
open PySem L2 PyProof.Rows
section
variable {P : Program} {w : World} {K : PySem.W.Frag} {mg : Str → Option Value} {base : Heap} {cc : Nat → Addr}
/-- all but a stays -/
def But (a : Addr) (H H' : Hp) : Prop := ∀ b o, b ≠ a → H b = some o → H' b = some o
theorem But.trans {a : Addr} {H H1 H2 : Hp} (x : But a H H1) (y : But a H1 H2) : But a H H2 := fun b o n e => y b o n (x b o n e)
theorem But.refl (a : Addr) (H : Hp) : But a H H := fun _ _ _ e => e
theorem But.upd {a : Addr} {H : Hp} {o : HO} : But a H (L2.upd H a o) := fun b u n e => by rw [upd_ne n]; exact e
theorem But.same {a : Addr} {H H' : Hp} (s : Same H H') : But a H H' := fun b o _ e => s b o e
theorem But.new {a p : Addr} {H H' : Hp} {o : HO} (x : But a H H') (hp : H' p = none) : But a H (L2.upd H' p o) := fun b u n e => by
  have q := x b u n e
  rw [upd_ne (ne_of_none q hp)]
  exact q
theorem Same.new' {H H' : Hp} {p : Addr} {o : HO} (s : Same H H') (hp : H' p = none) : Same H (L2.upd H' p o) := fun b u e => by
  have q := s b u e
  rw [upd_ne (ne_of_none q hp)]
  exact q
def spDraw : Sp := fun vs H Q _ => ∃ a m, vs = [.ref a, .int m] ∧ 0 < m ∧ m < 1073741824 ∧ DiceAt H a ∧ ∀ r H', 0 ≤ r → r < m → DiceAt H' a → But a H H' → Q (.int r) H'
theorem draw_of {k : Nat} (O : OwnS P w K mg base k "_law_off" ["_law_d", "_law_most"] spOff) : OwnS P w K mg base k "_law_off" ["_law_d", "_law_most"] spDraw := by
  obtain ⟨f, fd, F, hm, hk, hb⟩ := O.ex
  refine ⟨f, fd, F.imp fun vs H Q E h => ?_, hm, hk, hb⟩
  obtain ⟨a, m, ev, h1, h2, ⟨ns, hd, ha⟩, k⟩ := h
  exact ⟨a, m, ns, ev, h1, h2, hd, ha, fun r ns' r0 rm hd' => k r _ r0 rm ⟨ns', hd', upd_same⟩ But.upd⟩
/-! ### the draws' list -/
abbrev s__law_dice : Stmt := top 53
theorem sc__law_dice : FnScope ["_law_script", "_law_k", "_law_found", "_law_cell"] ["_law_script", "_law_k"] (defScope s__law_dice) := ⟨rfl, rfl, rfl, by decide +kernel, rfl, by decide +kernel, by decide +kernel⟩
def spDice (K : PySem.W.Frag) : Sp := fun vs H Q _ => ∃ (a : Addr) (ns : List Int) (k : Int), vs = [.ref a, .int k] ∧ SqL K H a (ns.map V.int) ∧ ns.length ≤ 63 ∧ ∀ H' p, Same H H' → H p = none → DiceAt H' p → Q (.ref p) H'
theorem boot_abs' : bootBuiltins "abs" = some (.builtin "abs") := by decide +kernel
theorem ints_get {ns : List Int} {i : Nat} {x : V} (h : (ns.map V.int)[i]? = some x) : ∃ z, ns[i]? = some z ∧ x = .int z := by
  rw [List.getElem?_map] at h
  cases e : ns[i]? with
  | none => rw [e] at h; cases h
  | some z => rw [e] at h; exact ⟨z, rfl, (Option.some.inj h).symm⟩
theorem ok_dice {f : Addr} {fd : FuncData} (F : Fun K "_law_dice" "_law_dice" s__law_dice f fd) (T : Txt K mg cc) : FnOk P w K mg base CX0 1 f fd ["_law_script", "_law_k"] (spDice K) := by
  refine F.ok sc__law_dice (fun vs H Q E h => ?_) (fun cdv A outer s H vs Q E hr h => ?_)
  · obtain ⟨a, ns, k, rfl, _⟩ := h
    rfl
  · obtain ⟨a, ns, k, rfl, hS, hlen, kq⟩ := h
    have nd := sc__law_dice.nd
    refine ⟨_, pss_cons (ps_set (i := 2) nd rfl (Or.inl rfl) (pv 1))
      (pss_cons (ps_for PassesOwn.never rfl (pi_list (pv 0)) (pg_name (i := 3) nd rfl (Or.inl rfl))
        (pss_one (ps_set (i := 2) nd rfl (Or.inl rfl) (pe_op op_mod (pe_op op_add (pe_op op_mul (pv 2) pe_int) (pe_callB call_abs (by rfl) T.n_abs boot_abs' (pa_cons (pv 3) pa_nil))) pe_int))))
      (pss_one (ps_ret (pe_op op_cat (pe_lst (pa_cons (pv 2) (pa_cons pe_int pa_nil))) (pe_lc (own := [("_law_cell", 3)]) (g := gName 3) rfl nd (pi_list (pv 0)) (blkOk_by (N := ["_law_script", "_law_k", "_law_found", "_law_cell"]) (sc := defScope s__law_dice) (by decide +kernel))
        (fun _ _ _ _ _ => pg_name (i := 3) nd rfl (Or.inl rfl)) (fun _ _ _ _ _ => pts_one (pt_cmpR op_ge (pv 3) (pe_op op_pow pe_int pe_int) (nomark _))) (fun _ _ _ _ _ => pv 3)))))), ?_⟩
    refine ⟨_, rfl, ?_⟩
    refine ⟨_, rfl, a, rfl, ⟨_, hS⟩, for_list (K := K) (a := a) (xs := ns.map V.int) (fun i σ H' => ∃ (z : Int) (c : Option V), σ = [some (.ref a), some (.int k), some (.int z), c] ∧ H' = H) ⟨k, none, rfl, rfl⟩ (fun i σ H' _ ⟨_, _, _, e⟩ => by rw [e]; exact hS) ?_ ?_⟩
    · rintro i x σ H' hi ⟨z, c, rfl, rfl⟩
      obtain ⟨u, hu, rfl⟩ := ints_get hi
      refine ⟨_, rfl, _, _, rfl, rfl, .inr ⟨by decide, by decide⟩, _, rfl, u, rfl, _, _, rfl, rfl, _, _, rfl, rfl, (show (0 : Int) < 2147483647 by decide), ?_⟩
      exact ⟨_, _, rfl, rfl⟩
    · rintro σ H' ⟨z, c, rfl, rfl⟩
      refine ⟨_, rfl, (show 2 ≤ sizeLine by decide), fun p hp => ?_⟩
      have s1 : Same H' (upd H' p (.lst [.int z, .int 0])) := Same.new' (Same.refl H') hp
      refine ⟨_, rfl, a, rfl, ⟨_, s1.seq hS⟩, fun D hD => lc_list (K := K) (a := a) (xs := ns.map V.int) (g := gName 3) (fun i H1 => Same (upd H' p (.lst [.int z, .int 0])) H1 ∧ ∃ ms : List Int, ms.length ≤ i ∧ H1 D = some (.lst (ms.map V.int)))
        ⟨Same.new' (Same.refl _) hD, [], Nat.le_refl _, upd_same⟩ (fun i H1 _ ⟨s2, _⟩ => (s1.trans s2).seq hS) ?_ ?_⟩
      · rintro i x H1 hi ⟨s2, ms, hl, hD1⟩
        obtain ⟨u, hu, rfl⟩ := ints_get hi
        have hi' : i < ns.length := (List.getElem?_eq_some_iff.mp hu).1
        refine ⟨rfl, _, rfl, _, _, rfl, rfl, ⟨by decide, by decide, by decide⟩, _, _, rfl, rfl, _, rfl, ?_⟩
        refine ite2 (fun hc => ?_) (fun hc => ?_)
        · refine ⟨_, rfl, _, hD1, by rw [List.length_map, sizeLine_eq]; omega, fun b o e => ?_, ms ++ [u], by rw [List.length_append, List.length_singleton]; omega, by rw [upd_same, List.map_append]; rfl⟩
          rw [upd_ne (ne_of_none e hD)]
          exact s2 b o e
        · exact ⟨s2, ms, by omega, hD1⟩
      · rintro H1 ⟨s2, ms, hl, hD1⟩
        rw [List.length_map] at hl
        have hp1 : H1 p = some (.lst [.int z, .int 0]) := s2 _ _ upd_same
        refine ⟨p, D, _, _, rfl, rfl, hp1, hD1, ?_, fun q hq => ?_⟩
        · rw [List.length_map, sizeLine_eq]
          show 2 + ms.length ≤ 16777216
          omega
        · have sq := s1.trans s2
          refine kq _ q (Same.new' sq hq) (sq.free hq) ⟨z :: 0 :: ms, ⟨by simp, by simp; omega⟩, by rw [upd_same]; rfl⟩
/-! ### a rule -/
abbrev s__law_rule : Stmt := top 57
theorem sc__law_rule : FnScope ["_law_d"] ["_law_d"] (defScope s__law_rule) := ⟨rfl, rfl, rfl, by decide +kernel, rfl, by decide +kernel, by decide +kernel⟩
def ruleS : Nat → Str
  | 0 => "near" | 1 => "left" | _ => "even"
def spRule : Sp := fun vs H Q _ => ∃ a, vs = [.ref a] ∧ DiceAt H a ∧ ∀ (r : Nat) H', r < 3 → DiceAt H' a → But a H H' → Q (.str (ruleS r)) H'
theorem ok_rule {f : Addr} {fd : FuncData} (F : Fun K "_law_rule" "_law_rule" s__law_rule f fd) (T : Txt K mg cc) (O : OwnS P w K mg base 1 "_law_off" ["_law_d", "_law_most"] spDraw) : FnOk P w K mg base CX0 2 f fd ["_law_d"] spRule := by
  refine F.ok sc__law_rule (fun vs H Q E h => ?_) (fun cdv A outer s H vs Q E hr h => ?_)
  · obtain ⟨a, rfl, _⟩ := h
    rfl
  · obtain ⟨a, rfl, hd, kq⟩ := h
    refine ⟨_, pss_one (ps_ret (pe_ix (r := rIxL K) ix_list (pe_lst (pa_cons pe_str (pa_cons pe_str (pa_cons pe_str pa_nil)))) (pe_own O hr (pa_cons (pv 0) (pa_cons pe_int pa_nil))) (fun _ _ => rfl))), ?_⟩
    refine ⟨(show 3 ≤ sizeLine by decide), fun p hp => ?_⟩
    obtain ⟨ns, hn, ha⟩ := hd
    have nap : a ≠ p := ne_of_none ha hp
    refine ⟨_, rfl, a, 3, rfl, by decide, by decide, ⟨ns, hn, by rw [upd_ne nap]; exact ha⟩, fun r H' r0 r3 hd' hb => ?_⟩
    obtain ⟨j, rfl⟩ : ∃ j : Nat, r = (j : Int) := ⟨r.toNat, by omega⟩
    have hp' : H' p = some (.lst [.str "near", .str "left", .str "even"]) := hb p _ (Ne.symm nap) upd_same
    have hb' : But a H H' := (But.new (But.refl a H) hp).trans hb
    have hj : j < 3 := by omega
    refine ⟨p, _, _, .str (ruleS j), rfl, rfl, SqL.of hp', at_of (j := j) rfl ?_, kq j H' hj hd' hb'⟩
    match j, hj with
    | 0, _ => rfl
    | 1, _ => rfl
    | 2, _ => rfl
end
end CK

namespace CK
open PySem L2 PyProof.Rows
theorem zeros_len (n : Nat) : (zeros n).length = n := List.length_replicate
theorem zeros_plF : ∀ n i, plFrom i (zeros n) = [] := plFrom_zeros
theorem zeros_fill {α : Type} {z : α} : ∀ n, fill z (zeros n) [] = List.replicate n z
  | 0 => rfl
  | n + 1 => by
    show fill z (48 :: zeros n) [] = z :: List.replicate n z
    rw [fill_no (by decide), zeros_fill n]
theorem make_call {C x dx : Addr} {r : List Nat} {n : Nat} {i : Int} {H : Hp} {Q : VK} {E : XK} (hi : i = (n : Nat)) (hr0 : r ∈ rules) (h1 : 1 ≤ n) (h6 : n ≤ 6) (hx : H x = some (.ins C dx []))
    (k : ∀ H' b c, Sh C H' x b c r (zeros n) [] 0 → H b = none → H c = none → b ≠ c → Frm [x] H H' → Q .non H') : spOf (fun _ => C) c_Shelf___init__ [.ref x, .str (Tx r), .int i] H Q E := by
  subst hi
  have hr : HR (fun _ => C) ⟨k0, fun _ => C, [x], 0⟩ (CH.of [.ins 0 []]) H := HR.one hx ⟨dx, [], rfl, .nil⟩
  have g := g3_small
  simp only [Bool.and_eq_true] at g
  have gm : goodM n = true := List.all_eq_true.mp g.2 n (by
    have : n = 1 ∨ n = 2 ∨ n = 3 ∨ n = 4 ∨ n = 5 ∨ n = 6 := by omega
    rcases this with rfl | rfl | rfl | rfl | rfl | rfl <;> simp)
  obtain ⟨h', e, e0, e1, e2⟩ := isMade_some (List.all_eq_true.mp gm r hr0)
  have e : c_Shelf___init__ [.ref 0, .str r, .int n] (CH.of [.ins 0 []]) = some (.non, h') := e
  refine ⟨_, _, _, .cons (rvR (n := 0) rfl) (.cons (rvS r) (.cons (rvI _) .nil)), hr, _, _, e, fun η' H' v' S R rv => ?_⟩
  cases (show v' = .non from rv)
  have ea : η'.as[0]? = some x := S.le.get rfl
  obtain ⟨b, O, eb, hb, rb⟩ := R.at e1
  obtain ⟨c, O', ec, hc, rc⟩ := R.at e2
  obtain ⟨ys, eO, ry⟩ := (show RO η' (.lst []) O from rb)
  obtain ⟨zs, eO', rz⟩ := (show RO η' (.lst []) O' from rc)
  cases ry
  cases rz
  obtain ⟨dx', us, ha, rf⟩ := R.ins (show h'.get 0 = some (.ins 0 _) from e0) ea
  have nw : ∀ {i : Nat} {y : Addr}, 0 < i → η'.as[i]? = some y → H y = none := fun {i y} hi ey => S.nw y (List.mem_of_getElem? ey) fun m => by
    have hm : y = x := by simpa using m
    subst hm
    have := nd_ix R.nd ey ea
    omega
  refine k H' b c ⟨⟨dx', ?_⟩, by rw [hb, eO]; rfl, by rw [hc, eO']; show _ = some (HO.lst ((plFrom 0 (zeros n)).map V.int)); rw [zeros_plF]; rfl⟩ (nw (by decide) eb) (nw (by decide) ec) (fun z => ?_) (fun y o ny hy => S.fr y o ny hy)
  · rw [ha, RF.fn rf (rf_flds (t := 0) eb ec rfl), zeros_len]
  · have := nd_ix R.nd eb (by rw [z]; exact ec)
    omega
theorem ruleS_in (i : Nat) (h : i < 3) : ∃ r, r ∈ rules ∧ ruleS i = Tx r := by
  match i, h with
  | 0, _ => exact ⟨[110, 101, 97, 114], by decide, by decide +kernel⟩
  | 1, _ => exact ⟨[108, 101, 102, 116], by decide, by decide +kernel⟩
  | 2, _ => exact ⟨[101, 118, 101, 110], by decide, by decide +kernel⟩
def spRuleT : Sp := fun vs H Q _ => ∃ a, vs = [.ref a] ∧ DiceAt H a ∧ ∀ r H', r ∈ rules → DiceAt H' a → But a H H' → Q (.str (Tx r)) H'
theorem rule_of {P : Program} {w : World} {K : PySem.W.Frag} {mg : Str → Option Value} {base : Heap} {k : Nat} (O : OwnS P w K mg base k "_law_rule" ["_law_d"] spRule) : OwnS P w K mg base k "_law_rule" ["_law_d"] spRuleT := by
  obtain ⟨f, fd, F, hm, hk, hb⟩ := O.ex
  refine ⟨f, fd, F.imp fun vs H Q E h => ?_, hm, hk, hb⟩
  obtain ⟨a, ev, h1, k⟩ := h
  refine ⟨a, ev, h1, fun r H' hr d b => ?_⟩
  obtain ⟨q, hq, e⟩ := ruleS_in r hr
  rw [e]
  exact k q H' hq d b
theorem upd_keep {H : Hp} {p y : Addr} {v o : HO} (hp : H p = none) (e : H y = some o) : (L2.upd H p v) y = some o := by rw [upd_ne (ne_of_none e hp)]; exact e
theorem none_of {H H' : Hp} {y : Addr} (f : ∀ o, H y = some o → H' y = some o) (e : H' y = none) : H y = none := by
  cases q : H y with
  | none => rfl
  | some o => rw [f o q] at e; cases e
theorem rep_flat {α : Type} {v : α} : ∀ n, (List.replicate n [v]).flatten = List.replicate n v
  | 0 => rfl
  | n + 1 => by rw [List.replicate_succ, List.flatten_cons, rep_flat n]; rfl
theorem dp_ints {K : PySem.W.Frag} {H : Hp} : ∀ ks : List Int, DpAll K H (ks.map V.int) (ks.map PyData.int)
  | [] => .nil
  | k :: ks => .cons (.int k) (dp_ints ks)
theorem lay_ints : ∀ ks : List Int, PyData.canLayAll0 (ks.map PyData.int) = true
  | [] => by simp [PyData.canLayAll0]
  | k :: ks => by simp [PyData.canLayAll0, PyData.canLay0, lay_ints ks]
theorem depth_ints : ∀ ks : List Int, PyData.depthAll (ks.map PyData.int) ≤ 5
  | [] => by simp [PyData.depthAll]
  | k :: ks => by
    have := depth_ints ks
    simp [PyData.depthAll, PyData.depth]
    omega
theorem shaped_ints (ks : List Int) : SeqAt.shaped (.list (ks.map PyData.int)) = true := by
  have a := lay_ints ks
  have b := depth_ints ks
  simp [SeqAt.shaped, PyData.canLay0, PyData.depth, a]
  omega
theorem many_no {c : Nat} (hc : c ≠ 49) (p : List Nat) : many (c :: p) = many p := by simp [many, hc]
theorem inV_mem {x : Int} {ks : List Int} (h : x ∈ ks) : inV (.int x) (ks.map V.int) = true := by
  unfold inV
  rw [List.any_eq_true]
  exact ⟨.int x, List.mem_map.mpr ⟨x, h, rfl⟩, by show (x == x) = true; exact beq_self_eq_true x⟩
theorem flat_ints : ∀ ks : List Int, (ks.map V.int).all flatV = true
  | [] => rfl
  | k :: ks => by rw [List.map_cons, List.all_cons, flat_ints ks]; rfl
theorem row_all {P : V → Prop} (h0 : P .non) (hi : ∀ i, P (.int i)) : ∀ (p : List Nat) (ks : List Int), ∀ v ∈ rowV p ks, P v
  | [], ks, v, hv => by cases ks <;> cases hv
  | c :: p, ks, v, hv => by
    by_cases hc : c = 49
    · subst hc
      cases ks with
      | nil =>
        rcases List.mem_cons.mp (show v ∈ V.non :: fill V.non p [] from hv) with rfl | m
        · exact h0
        · exact row_all h0 hi p [] v m
      | cons k ks =>
        rcases List.mem_cons.mp (show v ∈ V.int k :: fill V.non p (ks.map V.int) from hv) with rfl | m
        · exact hi k
        · exact row_all h0 hi p ks v m
    · have hv : v ∈ fill V.non (c :: p) (ks.map V.int) := hv
      rw [fill_no hc] at hv
      rcases List.mem_cons.mp hv with rfl | m
      · exact h0
      · exact row_all h0 hi p ks v m
theorem row_flat (p : List Nat) (ks : List Int) : (rowV p ks).all flatV = true := List.all_eq_true.mpr (row_all (P := fun v => flatV v = true) rfl (fun _ => rfl) p ks)
theorem fill_len {α : Type} {z : α} : ∀ (p : List Nat) (ks : List α), (fill z p ks).length = p.length
  | [], ks => by cases ks <;> rfl
  | c :: p, ks => by
    by_cases hc : c = 49
    · subst hc
      cases ks with
      | nil => show (fill z p []).length + 1 = _; rw [fill_len p []]; rfl
      | cons k ks => show (fill z p ks).length + 1 = _; rw [fill_len p ks]; rfl
    · rw [fill_no hc, List.length_cons, fill_len p ks, List.length_cons]
theorem DiceAt.frm {H H' : Hp} {d : Addr} (h : DiceAt H d) (f : ∀ o, H d = some o → H' d = some o) : DiceAt H' d := let ⟨ns, a, b⟩ := h; ⟨ns, a, f _ b⟩
theorem Sh.frm {C a b c : Addr} {H H' : Hp} {r p : List Nat} {ks : List Int} {t : Int} (s : Sh C H a b c r p ks t) (f : ∀ x ∈ [a, b, c], ∀ o, H x = some o → H' x = some o) : Sh C H' a b c r p ks t := by
  obtain ⟨dx, ho⟩ := s.o
  exact ⟨⟨dx, f a (by simp) _ ho⟩, f b (by simp) _ s.k, f c (by simp) _ s.p⟩
theorem new_at {cc : Nat → Addr} {η η' : Em} {h' : CH} {H H' : Hp} {n : Nat} {D : Addr} (S : Stp η H η' H') (R : HR cc η' h' H') (e : η'.as[n]? = some D) (hn : η.as.length ≤ n) : H D = none := S.nw D (List.mem_of_getElem? e) fun m => by
  obtain ⟨i, hi⟩ := List.getElem?_of_mem m
  have hl : i < η.as.length := (List.getElem?_eq_some_iff.mp hi).1
  have := nd_ix R.nd e (S.le.get hi)
  omega
theorem flds_no {r : List Nat} {n : Nat} {b c : Addr} {t : Int} {x : Str} (h : (x == Tx [114, 117, 108, 101]) = false ∧ (x == Tx [119, 105, 100, 101]) = false ∧ (x == Tx [114, 97, 110, 107, 101, 100]) = false ∧ (x == Tx [112, 108, 97, 99, 101, 115]) = false ∧ (x == Tx [116, 111, 116, 97, 108]) = false := by decide +kernel) : (flds r n b c t).lookup x = none := by
  obtain ⟨h1, h2, h3, h4, h5⟩ := h
  simp [flds, List.lookup, h1, h2, h3, h4, h5]
theorem moved_call' {C a b c : Addr} {r p : List Nat} {ks : List Int} {t : Int} {H : Hp} {Q : VK} {E : XK} (so : ks.Pairwise (· < ·)) (s : Sh C H a b c r p ks t) (nbc : b ≠ c)
    (k : ∀ H', Sh C H' a b c r p ks t → Frm [a, b, c] H H' → Q (.int t) H') : spOf (fun _ => C) c_Shelf_moved [.ref a] H Q E := by
  obtain ⟨κ, mo, ek⟩ := kap so
  exact moved_call mo (lab_rv (η := ⟨κ, fun _ => C, [a, b, c], t⟩) ek) s nbc k

end CK

namespace CK
open PySem L2 PyProof.Rows
/-! ### deeds that can be done -/
def wd : Bool → Str
  | true => "put"
  | false => "take"
theorem wd_eq (b : Bool) : wd b = Tx (word b) := by cases b <;> decide +kernel
def Tups (H : Hp) (as : List Addr) (ds : List Deed) : Prop := Paired (fun t (d : Deed) => H t = some (.tup [.str (wd d.1), .int d.2])) as ds
/-- the tuples stay -/
def TS (H H' : Hp) : Prop := ∀ t xs, H t = some (.tup xs) → H' t = some (.tup xs)
theorem Tups.mono {H H' : Hp} (s : TS H H') {as : List Addr} {ds : List Deed} (t : Tups H as ds) : Tups H' as ds := Paired.mapP t fun _ _ q => s _ _ q
theorem TS.same {H H' : Hp} (s : Same H H') : TS H H' := fun t xs e => s t _ e
theorem TS.but {a : Addr} {H H' : Hp} {l : List V} (ha : H a = some (.lst l)) (b : But a H H') : TS H H' := fun t xs e => b t _ (fun z => by rw [z, ha] at e; cases e) e
theorem TS.put {a : Addr} {H : Hp} {l : List V} {o : HO} (ha : H a = some (.lst l)) : TS H (L2.upd H a o) := TS.but ha But.upd
theorem TS.trans {H H1 H2 : Hp} (x : TS H H1) (y : TS H1 H2) : TS H H2 := fun t xs e => y t xs (x t xs e)
section
variable {P : Program} {w : World} {K : PySem.W.Frag} {mg : Str → Option Value} {base : Heap} {cc : Nat → Addr}
abbrev s__law_drawn : Stmt := top 64
theorem sc__law_drawn : FnScope ["_law_d", "_law_wide", "_law_most", "_law_many", "_law_found", "_law_turn", "_law_is_put"] ["_law_d", "_law_wide", "_law_most"] (defScope s__law_drawn) := ⟨rfl, rfl, rfl, by decide +kernel, rfl, by decide +kernel, by decide +kernel⟩
def spDrawn : Sp := fun vs H Q _ => ∃ (a : Addr) (w m : Nat), vs = [.ref a, .int w, .int m] ∧ 1 ≤ w ∧ w ≤ 6 ∧ m ≤ 1000 ∧ DiceAt H a ∧ ∀ H' p ds as n, DiceAt H' a → But a H H' → H p = none → p ≠ a → cnt w 0 ds = some n → H' p = some (.lst (as.map V.ref)) → Tups H' as ds → ds.length ≤ m → Q (.ref p) H'
theorem isput_rd {a : Addr} {n w : Nat} {σ : L2.St} {H : Hp} {k : VK} (h0 : σ[0]? = some (some (.ref a))) (h1 : σ[1]? = some (some (.int w))) (h3 : σ[3]? = some (some (.int n))) (hw : 1 ≤ w) (hd : DiceAt H a)
    (hk : ∀ b H3, DiceAt H3 a → But a H H3 → (b = true → n < w) → (b = false → 0 < n) → k (.bl b) H3) :
    tOrV (tOp rEq (tVar 3) (tC (.int 0))) (tAndV (tOp (rI0 fun i j => .bl (decide (i < j))) (tVar 3) (tVar 1)) (tOp (rI0 fun i j => .bl (decide (j < i))) (tOwn spDraw (tCons (tVar 0) (tCons (tC (.int 3)) tNil))) (tC (.int 0)))) σ H k := by
  refine ⟨_, h3, rfl, _, rfl, ite2 (fun c => ?_) (fun c => ?_)⟩
  · have e : (V.int n) = V.int 0 := of_decide_eq_true c
    have e : (n : Int) = 0 := V.int.inj e
    exact hk true H hd (But.refl a H) (fun _ => by omega) (fun z => by cases z)
  · have ne : ¬ (n : Int) = 0 := fun z => c (decide_eq_true (by rw [z]))
    refine ⟨_, h3, _, h1, _, _, rfl, rfl, _, rfl, ite2 (fun c2 => ?_) (fun c2 => ?_)⟩
    · have lt : (n : Int) < w := of_decide_eq_true c2
      refine ⟨_, h0, a, 3, rfl, by decide, by decide, hd, fun r H' r0 r3 hd' hb => ⟨_, _, rfl, rfl, ?_⟩⟩
      exact hk _ H' hd' hb (fun _ => by omega) (fun _ => by omega)
    · have lt : ¬ (n : Int) < w := fun z => c2 (decide_eq_true z)
      exact hk false H hd (But.refl a H) (fun z => by cases z) (fun _ => by omega)
def InvDr (a F : Addr) (w' m : Nat) (H : Hp) (i : Nat) (σ : L2.St) (H2 : Hp) : Prop := ∃ (n : Nat) (ds : List Deed) (as : List Addr) (t ip : Option V), σ = [some (.ref a), some (.int w'), some (.int m), some (.int n), some (.ref F), t, ip] ∧ cnt w' 0 ds = some n ∧ n ≤ w' ∧ ds.length = i ∧ DiceAt H2 a ∧ H2 F = some (.lst (as.map V.ref)) ∧ Tups H2 as ds ∧ But a H H2
theorem more_dr {a F : Addr} {w' m : Nat} {H H3 H5 : Hp} {i n n' : Nat} {ds : List Deed} {as : List Addr} {tt ip : Option V} {d : Deed} {T5 : Addr} (na : a ≠ F) (hF : H F = none) (hc : cnt w' 0 ds = some n) (hl : ds.length = i) (hF3 : H3 F = some (.lst (as.map V.ref))) (ht3 : Tups H3 as ds) (hb03 : But a H H3) (hd3 : DiceAt H3 a)
    (hs : step1 w' n d = some n') (hn' : n' ≤ w') (hd5 : DiceAt H5 a) (hb5 : But a H3 H5) (hT : H5 T5 = none) :
    InvDr a F w' m H (i + 1) [some (.ref a), some (.int w'), some (.int m), some (.int n'), some (.ref F), tt, ip] (upd (upd H5 T5 (.tup [.str (wd d.1), .int d.2])) F (.lst (as.map V.ref ++ [.ref T5]))) := by
  have hF5 : H5 F = some (.lst (as.map V.ref)) := hb5 F _ (Ne.symm na) hF3
  obtain ⟨l3, _, ha3⟩ := id hd3
  obtain ⟨ns, hdn, ha5⟩ := hd5
  have nTF : T5 ≠ F := fun z => by rw [z, hF5] at hT; cases hT
  have nTa : a ≠ T5 := ne_of_none ha5 hT
  have ts : TS H5 (upd (upd H5 T5 (.tup [.str (wd d.1), .int d.2])) F (.lst (as.map V.ref ++ [.ref T5]))) := fun t xs e => by
    rw [upd_ne (fun z => by rw [z, hF5] at e; cases e), upd_ne (ne_of_none e hT)]
    exact e
  refine ⟨n', ds ++ [d], as ++ [T5], tt, ip, rfl, cnt_snoc hc hs, hn', by rw [List.length_append, hl]; rfl, ⟨ns, hdn, by rw [upd_ne na, upd_ne nTa]; exact ha5⟩, by rw [upd_same, List.map_append]; rfl, ?_, fun b o hb e => ?_⟩
  · refine Pd.app (Tups.mono ts (Tups.mono (TS.but ha3 hb5) ht3)) (.cons ?_ .nil)
    rw [upd_ne nTF, upd_same]
  · have e5 := hb5 b o hb (hb03 b o hb e)
    rw [upd_ne (ne_of_none e hF), upd_ne (ne_of_none e5 hT)]
    exact e5
theorem ok_drawn {f : Addr} {fd : FuncData} (F : Fun K "_law_drawn" "_law_drawn" s__law_drawn f fd) (T : Txt K mg cc) (O : OwnS P w K mg base 1 "_law_off" ["_law_d", "_law_most"] spDraw) : FnOk P w K mg base CX0 2 f fd ["_law_d", "_law_wide", "_law_most"] spDrawn := by
  refine F.ok sc__law_drawn (fun vs H Q E h => ?_) (fun cdv A outer s H vs Q E hr h => ?_)
  · obtain ⟨a, w, m, rfl, _⟩ := h
    rfl
  · obtain ⟨a, w', m, rfl, hw1, hw6, hm, hd, kq⟩ := h
    have nd := sc__law_drawn.nd
    refine ⟨_, pss_cons (ps_set (i := 3) nd rfl (Or.inl rfl) pe_int)
      (pss_cons (ps_set (i := 4) nd rfl (Or.inl rfl) (pe_lst pa_nil))
      (pss_cons (ps_for PassesOwn.never rfl (pi_range1 (by rfl) T.n_range (pa_cons (pe_own O hr (pa_cons (pv 0) (pa_cons (pe_op op_add (pv 2) pe_int) pa_nil))) pa_nil)) (pg_name (i := 5) nd rfl (Or.inl rfl))
        (pss_cons (ps_set (i := 6) nd rfl (Or.inl rfl) (pe_or (pe_cmpR op_eq (pv 3) pe_int (nomark _)) (pe_one (pe_and (pe_cmpR op_lt (pv 3) (pv 1) (nomark _)) (pe_one (pe_cmpR op_gt (pe_own O hr (pa_cons (pv 0) (pa_cons pe_int pa_nil))) pe_int (nomark _)))))))
        (pss_one (ps_if (pt_val (pv 6))
          (pss_cons (ps_expr (pe_bm PySem.F.plainAttrs_list PySem.F.slot_list_append PySem.F.type_list_append mt_append (pv 4) (pa_cons (pe_tup (pa_cons pe_str (pa_cons (pe_ix (r := rIxL K) ix_list (pe_lst (pa_cons pe_int (pa_cons (pv 3) (pa_cons (pe_own O hr (pa_cons (pv 0) (pa_cons (pe_op op_add (pv 3) pe_int) pa_nil))) pa_nil)))) (pe_own O hr (pa_cons (pv 0) (pa_cons pe_int pa_nil))) (fun _ _ => rfl)) pa_nil))) pa_nil)))
          (pss_one (ps_set (i := 3) nd rfl (Or.inl rfl) (pe_op op_add (pv 3) pe_int))))
          (pss_cons (ps_expr (pe_bm PySem.F.plainAttrs_list PySem.F.slot_list_append PySem.F.type_list_append mt_append (pv 4) (pa_cons (pe_tup (pa_cons pe_str (pa_cons (pe_own O hr (pa_cons (pv 0) (pa_cons (pv 3) pa_nil))) pa_nil))) pa_nil)))
          (pss_one (ps_set (i := 3) nd rfl (Or.inl rfl) (pe_op op_sub (pv 3) pe_int))))))))
      (pss_one (ps_ret (pv 4))))), ?_⟩
    refine ⟨(show 0 ≤ sizeLine by decide), fun F hF => ?_⟩
    have na : a ≠ F := by obtain ⟨_, _, e⟩ := hd; exact ne_of_none e hF
    have hd0 : DiceAt (upd H F (.lst [])) a := by obtain ⟨ns, h1, h2⟩ := hd; exact ⟨ns, h1, by rw [upd_ne na]; exact h2⟩
    refine ⟨_, rfl, _, rfl, _, _, rfl, rfl, a, _, rfl, by omega, by omega, hd0, fun r H1 r0 rm hd1 hb1 => ⟨r, rfl, by omega, by omega, ?_⟩⟩
    refine for_range (lo := 0) (n := r.toNat) (InvDr a F w' m H)
      ⟨0, [], [], none, none, rfl, rfl, Nat.zero_le _, rfl, hd1, hb1 F _ (Ne.symm na) upd_same, .nil, (But.new (But.refl a H) hF).trans hb1⟩ ?_ ?_
    · rintro i σ H2 hi ⟨n, ds, as, t, ip, rfl, hc, hn, hl, hd2, hF2, ht, hb2⟩
      refine isput_rd (a := a) (n := n) (w := w') rfl rfl rfl hw1 hd2 fun b H3 hd3 hb3 hput htake => ?_
      have hF3 : H3 F = some (.lst (as.map V.ref)) := hb3 F _ (Ne.symm na) hF2
      obtain ⟨l2, _, ha2⟩ := id hd2
      have ht3 : Tups H3 as ds := ht.mono (TS.but ha2 hb3)
      have hb03 : But a H H3 := hb2.trans hb3
      have hlen : as.length = ds.length := ht.length
      cases b with
      | true =>
        have hlt := hput rfl
        refine ⟨_, rfl, _, rfl, iteT ?_⟩
        -- found.append(("put", [0, many, draw][draw]))
        refine ⟨_, rfl, .inl ⟨rfl, _, SqL.of hF3⟩, ?_⟩
        refine ⟨_, rfl, _, rfl, _, rfl, _, _, rfl, rfl, a, _, rfl, by omega, by omega, hd3, fun r1 H4 q0 qm hd4 hb4 => ⟨(show 3 ≤ sizeLine by decide), fun L hL => ?_⟩⟩
        obtain ⟨j1, rfl⟩ : ∃ j : Nat, r1 = (j : Int) := ⟨r1.toNat, by omega⟩
        obtain ⟨ns4, hn4, ha4⟩ := hd4
        have naL : a ≠ L := ne_of_none ha4 hL
        refine ⟨_, rfl, a, 3, rfl, by decide, by decide, ⟨ns4, hn4, by rw [upd_ne naL]; exact ha4⟩, fun r2 H5 z0 z3 hd5 hb5 => ?_⟩
        obtain ⟨j2, rfl⟩ : ∃ j : Nat, r2 = (j : Int) := ⟨r2.toNat, by omega⟩
        have hL5 : H5 L = some (.lst [.int 0, .int n, .int j1]) := hb5 L _ (Ne.symm naL) upd_same
        obtain ⟨jv, hjv, hjn⟩ : ∃ jv : Nat, ([.int 0, .int n, .int j1] : List V)[j2]? = some (.int jv) ∧ jv ≤ n := by
          have hj : j2 < 3 := by omega
          match j2, hj with
          | 0, _ => exact ⟨0, rfl, Nat.zero_le _⟩
          | 1, _ => exact ⟨n, rfl, Nat.le_refl _⟩
          | 2, _ => exact ⟨j1, rfl, by omega⟩
        have hb35 : But a H3 H5 := (But.new hb4 hL).trans hb5
        refine ⟨L, _, _, .int jv, rfl, rfl, SqL.of hL5, at_of (j := j2) rfl hjv, (show 2 ≤ sizeLine by decide), fun T5 hT5 => ?_⟩
        have hF5 : H5 F = some (.lst (as.map V.ref)) := hb35 F _ (Ne.symm na) hF3
        have nF : F ≠ T5 := ne_of_none hF5 hT5
        refine ⟨F, _, _, rfl, rfl, by rw [upd_ne nF]; exact hF5, by rw [List.length_map, sizeLine_eq]; omega, ?_⟩
        refine ⟨_, rfl, _, _, rfl, rfl, ?_⟩
        exact more_dr (d := (true, jv)) (n' := n + 1) na hF hc hl hF3 ht3 hb03 hd3 (by show (if jv ≤ n ∧ n < w' then some (n + 1) else none) = _; rw [if_pos ⟨hjn, hlt⟩]) (by omega) hd5 hb35 hT5
      | false =>
        have hlt := htake rfl
        refine ⟨_, rfl, _, rfl, iteF ?_⟩
        refine ⟨_, rfl, .inl ⟨rfl, _, SqL.of hF3⟩, ?_⟩
        refine ⟨_, rfl, _, rfl, a, _, rfl, by omega, by omega, hd3, fun r1 H4 q0 qm hd4 hb4 => ⟨(show 2 ≤ sizeLine by decide), fun T5 hT5 => ?_⟩⟩
        have hF4 : H4 F = some (.lst (as.map V.ref)) := hb4 F _ (Ne.symm na) hF3
        obtain ⟨j, rfl⟩ : ∃ j : Nat, r1 = (j : Int) := ⟨r1.toNat, by omega⟩
        have nF : F ≠ T5 := ne_of_none hF4 hT5
        refine ⟨F, _, _, rfl, rfl, by rw [upd_ne nF]; exact hF4, by rw [List.length_map, sizeLine_eq]; omega, ?_⟩
        refine ⟨_, rfl, _, _, rfl, rfl, ?_⟩
        have e : ((n - 1 : Nat) : Int) = ((n : Nat) : Int) - 1 := by omega
        have fin := more_dr (m := m) (tt := some (.int (0 + (i : Nat)))) (ip := some (.bl false)) (d := (false, j)) (n' := n - 1) na hF hc hl hF3 ht3 hb03 hd3 (by show (if j < n then some (n - 1) else none) = _; rw [if_pos (by omega)]) (by omega) hd4 hb4 hT5
        rw [e] at fin
        exact fin
    · rintro σ H2 ⟨n, ds, as, t, ip, rfl, hc, hn, hl, hd2, hF2, ht, hb2⟩
      exact ⟨_, rfl, kq H2 F ds as n hd2 hb2 hF (Ne.symm na) hc hF2 ht (by omega)⟩
end
end CK

namespace CK
open PySem L2 PyProof.Rows
theorem dT_ro {η : Em} (d : Deed) : RO η (dT d) (.tup [.str (wd d.1), .int d.2]) := ⟨_, rfl, .cons (by rw [wd_eq]; rfl) (.cons rfl .nil)⟩
theorem ints_ro {η : Em} (l : List Int) : RO η (.lst (l.map CV.int)) (.lst (l.map V.int)) := ⟨_, rfl, ints_rv l⟩
section
variable {P : Program} {w : World} {K : PySem.W.Frag} {mg : Str → Option Value} {base : Heap} {cc : Nat → Addr}
abbrev s_played : Stmt := top 20
theorem sc_played : FnScope ["rule", "wide", "deeds", "told", "places", "number", "deed", "moves"] ["rule", "wide", "deeds"] (defScope s_played) := ⟨rfl, rfl, rfl, by decide +kernel, rfl, by decide +kernel, by decide +kernel⟩
def spPlayed : Sp := fun vs H Q _ => ∃ (r : List Nat) (wd' : Nat) (a : Addr) (ds : List Deed) (as : List Addr) (n : Nat), vs = [.str (Tx r), .int wd', .ref a] ∧ r ∈ rules ∧ 1 ≤ wd' ∧ wd' ≤ 6 ∧ cnt wd' 0 ds = some n ∧ H a = some (.lst (as.map V.ref)) ∧ Tups H as ds ∧ ds.length ≤ 1000 ∧
  ∀ H' p To, Same H H' → H p = none → H' p = some (.tup [.ref To, .str (Tx (runM r (zeros wd') ds).2)]) → H' To = some (.lst ((runM r (zeros wd') ds).1.map V.int)) → H To = none → Q (.ref p) H'
theorem goodR_of {r : List Nat} (h : r ∈ rules) : ∃ h', c_check_rule [.str r] (CH.of []) = some (.non, h') ∧ kept h' 0 [] = true := isN_some (List.all_eq_true.mp gp_r r h)
theorem goodW_of {n : Nat} (h1 : 1 ≤ n) (h6 : n ≤ 6) : ∃ h', c_check_width [.int n] (CH.of []) = some (.non, h') ∧ kept h' 0 [] = true := isN_some (List.all_eq_true.mp gp_w n (by
  have : n = 1 ∨ n = 2 ∨ n = 3 ∨ n = 4 ∨ n = 5 ∨ n = 6 := by omega
  rcases this with rfl | rfl | rfl | rfl | rfl | rfl <;> decide))
theorem plFrom_len : ∀ (p : List Nat) (i : Nat), (plFrom i p).length = many p
  | [], _ => rfl
  | x :: r, i => by
    by_cases h : x = 49
    · subst h
      show (plFrom (i + 1) r).length + 1 = many r + 1
      rw [plFrom_len r]
    · have e1 : plFrom i (x :: r) = plFrom (i + 1) r := by simp [plFrom, h]
      have e2 : many (x :: r) = many r := by simp [many, h]
      rw [e1, e2, plFrom_len r]
theorem pl_len (p : List Nat) : (pl p).length = many p := plFrom_len p 0
/-- behind i deeds -/
def InvPl (r : List Nat) (wd' : Nat) (a : Addr) (ds : List Deed) (H : Hp) (i : Nat) (σ : L2.St) (H2 : Hp) : Prop := ∃ (To Pl : Addr) (x y z : Option V), σ = [some (.str (Tx r)), some (.int wd'), some (.ref a), some (.ref To), some (.ref Pl), x, y, z] ∧ Same H H2 ∧
  H2 To = some (.lst ((runM r (zeros wd') (ds.take i)).1.map V.int)) ∧ H2 Pl = some (.lst ((pl (runM r (zeros wd') (ds.take i)).2).map V.int)) ∧ To ≠ Pl ∧ H To = none
theorem take_succ' {α : Type} {l : List α} {i : Nat} {x : α} (h : l[i]? = some x) : l.take (i + 1) = l.take i ++ [x] := by
  obtain ⟨hl, e⟩ := List.getElem?_eq_some_iff.mp h
  rw [List.take_succ_eq_append_getElem hl, e]
theorem ok_played {f : Addr} {fd : FuncData} (F : Fun K "played" "played" s_played f fd) (T : Txt K mg cc) (OR : Own P w K mg base cc 1 "check_rule" ["rule"] c_check_rule) (OW : Own P w K mg base cc 1 "check_width" ["wide"] c_check_width)
    (OC : Own P w K mg base cc 1 "can_be_done" ["wide", "many", "deed"] c_can_be_done) (OA : Own P w K mg base cc 3 "after_deed" ["rule", "wide", "places", "deed"] c_after_deed) (OP : Own P w K mg base cc 1 "pattern_of" ["wide", "places"] c_pattern_of) : FnOk P w K mg base CX0 4 f fd ["rule", "wide", "deeds"] spPlayed := by
  refine F.ok sc_played (fun vs H Q E h => ?_) (fun cdv A outer s H vs Q E hr h => ?_)
  · obtain ⟨r, w', a, ds, as, n, rfl, _⟩ := h
    rfl
  · obtain ⟨r, wd', a, ds, as, n, rfl, hrr, h1, h6, hc, ha, ht, hlen, kq⟩ := h
    have nd := sc_played.nd
    have hr1 : Room 1 _ := hr.mono (by decide)
    refine ⟨_, pss_cons (ps_expr (pe_own OR hr1 (pa_cons (pv 0) pa_nil)))
      (pss_cons (ps_expr (pe_own OW hr1 (pa_cons (pv 1) pa_nil)))
      (pss_cons (ps_set (i := 3) nd rfl (Or.inl rfl) (pe_lst pa_nil))
      (pss_cons (ps_set (i := 4) nd rfl (Or.inl rfl) (pe_lst pa_nil))
      (pss_cons (ps_for PassesOwn.never rfl (pi_enum (by rfl) T.n_enumerate (pa_cons (pv 2) pa_nil)) (pg_tup rfl (pgs_cons (pg_name (i := 5) nd rfl (Or.inl rfl)) (pgs_cons (pg_name (i := 6) nd rfl (Or.inl rfl)) pgs_nil)))
        (pss_cons (ps_if (pt_not (pt_val (pe_own OC hr1 (pa_cons (pv 1) (pa_cons (pe_callB call_len_seq (by rfl) T.n_len boot_len (pa_cons (pv 4) pa_nil)) (pa_cons (pv 6) pa_nil)))))) (pss_one ps_never) pss_nil)
        (pss_cons (ps_asg (pe_own OA hr (pa_cons (pv 0) (pa_cons (pv 1) (pa_cons (pv 4) (pa_cons (pv 6) pa_nil))))) (pg_tup rfl (pgs_cons (pg_name (i := 7) nd rfl (Or.inl rfl)) (pgs_cons (pg_name (i := 4) nd rfl (Or.inl rfl)) pgs_nil))))
        (pss_one (ps_expr (pe_bm PySem.F.plainAttrs_list PySem.F.slot_list_append PySem.F.type_list_append mt_append (pv 3) (pa_cons (pv 7) pa_nil)))))))
      (pss_one (ps_ret (pe_tup (pa_cons (pv 3) (pa_cons (pe_own OP hr1 (pa_cons (pv 1) (pa_cons (pv 4) pa_nil))) pa_nil))))))))), ?_⟩
    -- check_rule(rule)
    obtain ⟨hR, eR, kR⟩ := goodR_of hrr
    refine ⟨_, rfl, sp_keeps (cc := cc) (E := E0) HR.nil (.cons (rvS r) .nil) eR kR fun η1 H1 v1 s1 _ R1 rv1 => ?_⟩
    obtain ⟨hW, eW, kW⟩ := goodW_of h1 h6
    refine ⟨_, rfl, sp_keeps (cc := cc) (E := E0) HR.nil (.cons (rvI _) .nil) eW kW fun η2 H2 v2 s2 _ R2 rv2 => ?_⟩
    have s12 : Same H H2 := s1.trans s2
    refine ⟨(show 0 ≤ sizeLine by decide), fun To hTo => ⟨(show 0 ≤ sizeLine by decide), fun Pl hPl => ?_⟩⟩
    have sT : Same H (upd H2 To (.lst [])) := Same.new' s12 hTo
    have sP : Same H (upd (upd H2 To (.lst [])) Pl (.lst [])) := Same.new' sT hPl
    have nTP : To ≠ Pl := ne_of_none upd_same hPl
    refine ⟨_, rfl, a, _, rfl, SqL.of (sP _ _ ha), ?_⟩
    refine for_enum (K := K) (a := a) (xs := as.map V.ref) (InvPl r wd' a ds H) ⟨To, Pl, none, none, none, rfl, sP, by rw [upd_ne nTP]; exact upd_same, ?_, nTP, s12.free hTo⟩ (fun i σ H3 _ ⟨_, _, _, _, _, _, s3, _⟩ => SqL.of (s3 _ _ ha)) ?_ ?_
    · show upd (upd H2 To (.lst [])) Pl (.lst []) Pl = some (.lst ((pl (zeros wd')).map V.int))
      rw [show pl (zeros wd') = [] from plFrom_zeros wd' 0]
      exact upd_same
    · rintro i x σ H3 T3 hx ⟨To, Pl, x5, x6, x7, rfl, s3, hTo, hPl, nTP, hTo0⟩ hT3
      obtain ⟨t, hti, rfl⟩ : ∃ t, as[i]? = some t ∧ x = V.ref t := by
        rw [List.getElem?_map] at hx
        cases e : as[i]? with
        | none => rw [e] at hx; cases hx
        | some t => rw [e] at hx; exact ⟨t, rfl, (Option.some.inj hx).symm⟩
      obtain ⟨d, hdi, htd⟩ := Pd.get ht hti
      obtain ⟨k, k', hk, hk'⟩ := cnt_take hc hdi
      obtain ⟨zb, zm, zl⟩ := zeros_ok wd'
      obtain ⟨pb, pll, pm⟩ := run_state hrr h1 h6 (ds.take i) zb zl (by rw [zm]; exact hk)
      generalize hp : (runM r (zeros wd') (ds.take i)).2 = p at *
      have g := good_step (d := d) hrr pb (by omega) (by omega) (by rw [pll, pm]; exact hk')
      have s4 : Same H3 (upd H3 T3 (.tup [.int (i : Nat), .ref t])) := Same.new' (Same.refl _) hT3
      generalize hH4 : upd H3 T3 (.tup [.int (i : Nat), .ref t]) = H4 at s4
      have hT4 : H4 T3 = some (.tup [.int (i : Nat), .ref t]) := by rw [← hH4]; exact upd_same
      refine ⟨T3, _, rfl, SqT.of hT4, rfl, _, _, rfl, _, _, rfl, rfl, ?_⟩
      have hPl4 := s4 _ _ hPl
      have ht4 : H4 t = some (.tup [.str (wd d.1), .int d.2]) := s4 _ _ (s3 _ _ htd)
      have nPt : Pl ≠ t := ne_of hPl4 ht4 (by intro z; cases z)
      have hr4 : HR cc ⟨k0, cc, [t], 0⟩ (CH.of [dT d]) H4 := HR.one ht4 (dT_ro d)
      -- can it be done
      obtain ⟨hC, eC, kC⟩ := isT_some g.can
      have eC : c_can_be_done [.int p.length, .int (many p), .ref 0] (CH.of [dT d]) = some (.bl true, hC) := eC
      refine ⟨_, rfl, _, rfl, Pl, _, rfl, .inl (SqL.of hPl4), _, rfl, sp_keeps (cc := cc) (E := E0) hr4 (.cons (by rw [← pll]; exact rvI _) (.cons (by rw [List.length_map, pl_len]; exact rvI _) (.cons (rvR (n := 0) rfl) .nil))) eC kC fun η5 H5 v5 s5 _ R5 rv5 => ⟨true, rv5, iteF ?_⟩⟩
      have hPl5 := s5 _ _ hPl4
      have ht5 := s5 _ _ ht4
      have hr5 : HR cc ⟨k0, cc, [Pl, t], 0⟩ (CH.of [plL p, dT d]) H5 := HR.two nPt hPl5 ht5 (ints_ro _) (dT_ro d)
      obtain ⟨nA, kA, hA, eA, gA, gL, kkA⟩ := rdTL_some g.after
      have eA : c_after_deed [.str r, .int p.length, .ref 0, .ref 1] (CH.of [plL p, dT d]) = some (.ref nA, hA) := eA
      refine ⟨_, rfl, _, rfl, _, rfl, _, rfl, sp_keeps (cc := cc) (E := E0) hr5 (.cons (rvS r) (.cons (by rw [← pll]; exact rvI _) (.cons (rvR (n := 0) rfl) (.cons (rvR (n := 1) rfl) .nil)))) eA kkA fun η6 H6 v6 s6 S6 R6 rv6 => ?_⟩
      obtain ⟨T6, eT6, rfl⟩ := rv6
      obtain ⟨ys, hT6, rys⟩ := R6.tup gA eT6
      cases rys with
      | cons ry1 rys =>
      cases rys with
      | cons ry2 rys =>
      cases rys
      obtain rfl := (show _ = V.int _ from ry1)
      obtain ⟨Pk, ePk, rfl⟩ := ry2
      obtain ⟨ys2, hPk, rys2⟩ := R6.lst gL ePk
      rw [rv_ints rys2] at hPk
      refine ⟨T6, _, rfl, SqT.of hT6, rfl, _, _, rfl, _, _, rfl, rfl, ?_⟩
      have s36 : Same H3 H6 := (s4.trans s5).trans s6
      have hTo6 := s36 _ _ hTo
      have hTo5 := s5 _ _ (s4 _ _ hTo)
      have nTt : To ≠ t := ne_of hTo5 ht5 (by intro z; cases z)
      have nTk : To ≠ Pk := fun z => by
        have m6 : Pk ∈ η6.as := List.mem_of_getElem? ePk
        by_cases m5 : Pk ∈ ([Pl, t] : List Addr)
        · rw [← z] at m5
          rcases List.mem_cons.mp m5 with e | m5
          · exact nTP e
          · exact nTt (by simpa using m5)
        · have := S6.nw Pk m6 m5
          rw [← z, hTo5] at this
          cases this
      have hi1000 : i < 1000 := Nat.lt_of_lt_of_le (List.getElem?_eq_some_iff.mp hdi).1 hlen
      refine ⟨_, rfl, .inl ⟨rfl, _, SqL.of hTo6⟩, _, rfl, To, _, _, rfl, rfl, hTo6, ?_, ?_⟩
      · rw [List.length_map, runM_len, sizeLine_eq, List.length_take]; omega
      · have e1 := runM_snoc r d (ds.take i) (zeros wd')
        rw [← take_succ' hdi, hp] at e1
        refine ⟨To, Pk, _, _, _, rfl, fun b o e => ?_, ?_, ?_, nTk, hTo0⟩
        · rw [upd_ne (ne_of_none e hTo0)]
          exact s36 _ _ (s3 _ _ e)
        · rw [upd_same, e1, List.map_append]; rfl
        · rw [upd_ne (Ne.symm nTk), e1]; exact hPk
    · rintro σ H3 ⟨To, Pl, x5, x6, x7, rfl, s3, hTo, hPl, nTP, hTo0⟩
      have el : as.length = ds.length := ht.length
      rw [List.length_map, el, List.take_length] at hTo hPl
      obtain ⟨zb, zm, zl⟩ := zeros_ok wd'
      obtain ⟨pb, pll, pm⟩ := run_state hrr h1 h6 ds zb zl (by rw [zm]; exact hc)
      obtain ⟨hP, eP, kP⟩ := pattern_good pb (by omega) (by omega)
      refine ⟨_, rfl, _, rfl, _, rfl, sp_keeps (cc := cc) (E := E0) (HR.one hPl (ints_ro _)) (.cons (by rw [pll]; exact rvI _) (.cons (rvR (n := 0) rfl) .nil)) eP kP fun η4 H4 v4 s4 _ R4 rv4 => ⟨(show 2 ≤ sizeLine by decide), fun p hp => ?_⟩⟩
      obtain rfl := (show v4 = V.str _ from rv4)
      have s34 := s3.trans s4
      exact kq _ p To (Same.new' s34 hp) (s34.free hp) upd_same (by rw [upd_ne (ne_of_none (s4 _ _ hTo) hp)]; exact s4 _ _ hTo) hTo0
end
end CK

/-! what the checks of the program refuse -/
namespace CK
open PySem L2 PyProof.Rows
/-- an own exception class without own __init__ -/
structure ExS (K : PySem.W.Frag) (mg : Str → Option Value) (x : Str) (C : Addr) : Prop where
  g : mg x = some (.ref C)
  q : PySem.W.excIn K C [.type "ValueError", .type "Exception", .type "BaseException", .type "object"] "ValueError.__new__" = true
  k : PySem.W.keepIn K (.ref C) = true
  b : PySem.W.subIn K (.ref C) (.type "BaseException") = some true
  t : PySem.W.typeIn K (.ref C) = some (.type "type")
theorem ite_of {b : Bool} {A B : Prop} (h1 : b = true → A) (h2 : b = false → B) : if b = true then A else B := by
  cases b with
  | true => exact h1 rfl
  | false => exact h2 rfl
theorem in_texts (s : Str) (l : List Str) : inV (.str s) (l.map V.str) = true ↔ s ∈ l := by
  unfold inV
  rw [List.any_map, List.any_eq_true]
  constructor
  · rintro ⟨x, m, e⟩
    have e : eqV (.str x) (.str s) = true := e
    have : x = s := by simpa [eqV] using e
    exact this ▸ m
  · intro m
    exact ⟨s, m, by show eqV (.str s) (.str s) = true; simp [eqV]⟩
section
variable {P : Program} {w : World} {K : PySem.W.Frag} {mg : Str → Option Value} {base : Heap} {cc : Nat → Addr} {C : Addr}
/-- refused, or let go; nothing made -/
def spChk (good : List V → Option Prop) (C : Addr) : Sp := fun vs H Q E => ∃ p, good vs = some p ∧ (p → Q .non H) ∧ (¬ p → E (.ref C) none H)
def gRule : List V → Option Prop
  | [.str s] => some (s = Tx [110, 101, 97, 114] ∨ s = Tx [108, 101, 102, 116] ∨ s = Tx [101, 118, 101, 110])
  | _ => none
theorem okx_check_rule {f : Addr} {fd : FuncData} (F : Fun K "check_rule" "check_rule" s_check_rule f fd) (T : Txt K mg cc) (X : ExS K mg "BadRule" C) : FnOk P w K mg base (L2N.CX P w) 1 f fd ["rule"] (spChk gRule C) := by
  obtain ⟨aT, m_RULES, t_RULES⟩ := T.x_RULES
  refine okN F sc_check_rule (fun vs H Q E h => ?_) fun cdv A outer s H vs Q E hr h => ?_
  · obtain ⟨p, e, _⟩ := h
    unfold gRule at e
    split at e
    · rfl
    · cases e
  · obtain ⟨p, e, hy, hn⟩ := h
    unfold gRule at e
    split at e
    · rename_i s0
      cases e
      refine ⟨_, pss_one (ps_if (pt_cmpR op_notIn_seq (pv 0) (pe_glob (v := .ref aT) rfl m_RULES rfl) (by rfl)) (pss_one (L2N.ps_raise rfl (L2N.takes_of rfl rfl rfl rfl) (L2N.pmk_own PySem.F.excBase_ValueError X.q X.g X.k (raises_own X.b X.t) rfl))) pss_nil), ?_⟩
      refine ⟨_, rfl, aT, _, rfl, .inr (t_RULES _), rfl, rfl, ?_⟩
      refine ⟨_, rfl, ?_⟩
      have hin := in_texts s0 [Tx [110, 101, 97, 114], Tx [108, 101, 102, 116], Tx [101, 118, 101, 110]]
      simp only [List.map_cons, List.map_nil, List.mem_cons, List.not_mem_nil, or_false] at hin
      rw [if_pos rfl]
      by_cases hp : s0 = Tx [110, 101, 97, 114] ∨ s0 = Tx [108, 101, 102, 116] ∨ s0 = Tx [101, 118, 101, 110]
      · rw [hin.mpr hp]
        exact hy hp
      · rw [Bool.eq_false_iff.mpr fun z => hp (hin.mp z)]
        exact hn hp
    · cases e
def gWide : List V → Option Prop
  | [.int n] => some (1 ≤ n ∧ n ≤ 6)
  | _ => none
theorem okx_check_width {f : Addr} {fd : FuncData} (F : Fun K "check_width" "check_width" s_check_width f fd) (T : Txt K mg cc) (X : ExS K mg "BadWidth" C) : FnOk P w K mg base (L2N.CX P w) 1 f fd ["wide"] (spChk gWide C) := by
  obtain ⟨_, m_MOST⟩ := T.x_MOST_PLACES
  refine okN F sc_check_width (fun vs H Q E h => ?_) fun cdv A outer s H vs Q E hr h => ?_
  · obtain ⟨p, e, _⟩ := h
    unfold gWide at e
    split at e
    · rfl
    · cases e
  · obtain ⟨p, e, hy, hn⟩ := h
    unfold gWide at e
    split at e
    · rename_i n
      cases e
      refine ⟨_, pss_one (ps_if (pt_not (pt_chain op_le op_le pe_int (pv 0) (pe_glob (v := .int 6) rfl m_MOST ⟨_, rfl⟩))) (pss_one (L2N.ps_raise rfl (L2N.takes_of rfl rfl rfl rfl) (L2N.pmk_own PySem.F.excBase_ValueError X.q X.g X.k (raises_own X.b X.t) rfl))) pss_nil), ?_⟩
      refine ⟨_, rfl, 1, n, rfl, rfl, _, rfl, ?_⟩
      by_cases h1 : 1 ≤ n
      · rw [if_pos (by simpa using h1)]
        refine ⟨n, 6, rfl, rfl, _, rfl, ?_⟩
        exact ite_of (fun z => hn fun y => by simp only [Bool.not_eq_true', decide_eq_false_iff_not] at z; exact z y.2) (fun z => hy ⟨h1, by simpa using z⟩)
      · rw [if_neg (by simpa using h1)]
        exact ⟨false, rfl, ite_of (b := !false) (fun _ => hn fun z => h1 z.1) (fun z => Bool.noConfusion z)⟩
    · cases e
abbrev s_check_part : Stmt := top 47
theorem sc_check_part : FnScope ["moves", "deeds"] ["moves", "deeds"] (defScope s_check_part) := ⟨rfl, rfl, rfl, by decide +kernel, rfl, by decide +kernel, by decide +kernel⟩
def gPart : List V → Option Prop
  | [.int m, .int d] => some (0 ≤ m ∧ 1 ≤ d)
  | _ => none
theorem okx_check_part {f : Addr} {fd : FuncData} (F : Fun K "check_part" "check_part" s_check_part f fd) (X : ExS K mg "BadNumber" C) : FnOk P w K mg base (L2N.CX P w) 1 f fd ["moves", "deeds"] (spChk gPart C) := by
  refine okN F sc_check_part (fun vs H Q E h => ?_) fun cdv A outer s H vs Q E hr h => ?_
  · obtain ⟨p, e, _⟩ := h
    unfold gPart at e
    split at e
    · rfl
    · cases e
  · obtain ⟨p, e, hy, hn⟩ := h
    unfold gPart at e
    split at e
    · rename_i m d
      cases e
      refine ⟨_, pss_cons (ps_if (pt_cmpR op_lt (pv 0) pe_int (nomark _)) (pss_one (L2N.ps_raise rfl (L2N.takes_of rfl rfl rfl rfl) (L2N.pmk_own PySem.F.excBase_ValueError X.q X.g X.k (raises_own X.b X.t) rfl))) pss_nil)
        (pss_one (ps_if (pt_cmpR op_lt (pv 1) pe_int (nomark _)) (pss_one (L2N.ps_raise rfl (L2N.takes_of rfl rfl rfl rfl) (L2N.pmk_own PySem.F.excBase_ValueError X.q X.g X.k (raises_own X.b X.t) rfl))) pss_nil)), ?_⟩
      refine ⟨_, rfl, m, 0, rfl, rfl, _, rfl, ?_⟩
      refine ite_of (fun z => hn fun y => by have z := of_decide_eq_true z; omega) fun z => ?_
      have z := of_decide_eq_false z
      refine ⟨_, rfl, d, 1, rfl, rfl, _, rfl, ?_⟩
      refine ite_of (fun z => hn fun y => by have z := of_decide_eq_true z; omega) fun z2 => ?_
      have z2 := of_decide_eq_false z2
      exact hy ⟨by omega, by omega⟩
    · cases e
end
end CK

/-! which deeds can be done, told of any -/
namespace CK
open PySem L2 PyProof.Rows
def canB (w m : Int) (s : List Nat) (r : Int) : Bool := if s == [112, 117, 116] then decide (0 ≤ r) && (decide (r ≤ m) && decide (m < w)) else (s == [116, 97, 107, 101]) && (decide (0 ≤ r) && decide (r < m))
theorem kept_one (s : List Nat) (r : Int) : kept (CH.of [.tup [.str s, .int r]]) 0 [.tup [.str s, .int r]] = true := by
  show (coeq (.tup [.str s, .int r]) (.tup [.str s, .int r]) && true) = true
  simp [coeq, cvseq, cveq]
theorem can_eq (w m r : Int) (s : List Nat) : ∃ h', c_can_be_done [.int w, .int m, .ref 0] (CH.of [.tup [.str s, .int r]]) = some (.bl (canB w m s r), h') ∧ kept h' 0 [.tup [.str s, .int r]] = true := by
  refine ⟨CH.of [.tup [.str s, .int r]], ?_, kept_one s r⟩
  unfold canB
  have e0 : cstart 5 [.int w, .int m, .ref 0] = [some (.int w), some (.int m), some (.ref 0), none, none] := rfl
  have e1 : (CH.of [.tup [.str s, .int r]]).get 0 = some (.tup [.str s, .int r]) := rfl
  simp only [c_can_be_done, b_can_be_done, cDef, cSeq, cIf, cAsg, cRet, cTst, cBin, cChain, cChain3, cAndV, fEq, fLe, fLt, fOrd, cVar, cC, cgTup, cgCons, cgN, cgNil, ceq, e0, e1, List.length_cons, List.length_nil, List.getElem?_cons_succ, List.getElem?_cons_zero, List.set_cons_succ, List.set_cons_zero, if_true, cSkip]
  generalize (s == [112, 117, 116]) = b1
  cases b1 with
  | true =>
    generalize decide (0 ≤ r) = d1
    generalize decide (r ≤ m) = d2
    generalize decide (m < w) = d3
    cases d1 <;> cases d2 <;> rfl
  | false =>
    simp only [List.getElem?_cons_succ, List.getElem?_cons_zero]
    generalize (s == [116, 97, 107, 101]) = b2
    generalize decide (0 ≤ r) = d1
    generalize decide (r < m) = d2
    cases b2 <;> cases d1 <;> cases d2 <;> rfl
end CK

/-! the two exceptions that tell a number -/
namespace CK
open PySem L2 PyProof.Rows
abbrev s_BadPattern___init__ : Stmt := inClass (top 4) 0
abbrev s_BadDeed___init__ : Stmt := inClass (top 5) 0
theorem sc_BadPattern___init__ : FnScope ["self", "at"] ["self", "at"] (defScope s_BadPattern___init__) := ⟨rfl, rfl, rfl, by decide +kernel, rfl, by decide +kernel, by decide +kernel⟩
theorem sc_BadDeed___init__ : FnScope ["self", "number"] ["self", "number"] (defScope s_BadDeed___init__) := ⟨rfl, rfl, rfl, by decide +kernel, rfl, by decide +kernel, by decide +kernel⟩
/-- an own class over ShelfError that keeps one field -/
structure ExF (K : PySem.W.Frag) (mg : Str → Option Value) (x fl : Str) (C : Addr) : Prop where
  g : mg x = some (.ref C)
  o : OexC K C
  no : PySem.W.findIn K (.ref C) fl = some none
/-- the base as it is called -/
structure ExB (K : PySem.W.Frag) (mg : Str → Option Value) (CS : Addr) (mc : Value) : Prop where
  g : mg "ShelfError" = some (.ref CS)
  s : PySem.W.specialIn K (.ref CS) "__getattribute__" = some (some (.builtin "type.__getattribute__"))
  r : PySem.W.readsIn K CS mc = true
  i : PySem.W.findCls K (.ref CS) mc "__init__" = some (.val (.builtin "ValueError.__init__"))
def spXI (C : Addr) (fl : Str) : Sp := fun vs H Q _ => ∃ (a : Addr) (n : Nat), vs = [.ref a, .int n] ∧ n ≤ 100 ∧ H a = some (exo a C none) ∧ ∀ d, H d = none → d ≠ a → Q .non (upd (upd H d (exd d [(fl, .int n)])) a (exo a C (some d)))
section
variable {P : Program} {w : World} {K : PySem.W.Frag} {mg : Str → Option Value} {base : Heap} {cc : Nat → Addr} {C CS : Addr} {mc : Value}
theorem len_at : ∀ n : Fin 101, ((Str.empty ++ ("no pattern, as its sign " : Str)) ++ (toString ((n.val : Nat) : Int) : Str)).length ≤ sizeLine ∧ (((Str.empty ++ ("no pattern, as its sign " : Str)) ++ (toString ((n.val : Nat) : Int) : Str)) ++ (" shows" : Str)).length ≤ sizeLine ∧ (((n.val : Nat) : Int)).natAbs.log2 < 1920 := by decide +kernel
theorem ok_BadPattern {f : Addr} {fd : FuncData} (F : Fun K "__init__" "BadPattern.__init__" s_BadPattern___init__ f fd) (X : ExF K mg "BadPattern" "at" C) (B : ExB K mg CS mc) : FnOk P w K mg base CX0 1 f fd ["self", "at"] (spXI C "at") := by
  refine F.ok sc_BadPattern___init__ (fun vs H Q E h => ?_) fun cdv A outer s H vs Q E hr h => ?_
  · obtain ⟨a, n, rfl, _⟩ := h
    rfl
  · obtain ⟨a, n, rfl, hn, ha, kq⟩ := h
    refine ⟨_, pss_cons (ps_expr (pe_baseInit rfl B.g B.s B.r B.i (pa_cons (pv 0) (pa_cons (pe_joined (.cons pe_str (.cons (pe_fmt (pv 1)) (.cons pe_str .nil)))) pa_nil)))) (pss_one (ps_ost (pv 0) (pv 1))), ?_⟩
    obtain ⟨l1, l2, l3⟩ := len_at ⟨n, by omega⟩
    refine ⟨_, rfl, ⟨_, rfl, by decide +kernel, _, rfl, .inr ⟨n, rfl, l3, _, rfl, l1, _, rfl, l2, ?_⟩⟩⟩
    exact ⟨a, C, _, rfl, (show 1 ≤ 1000 by decide), X.o, ha, _, rfl, _, rfl, a, C, rfl, X.o, X.no, .inl ⟨ha, fun d hd hn => kq d hd hn⟩⟩
theorem len_no : ∀ n : Fin 101, ((Str.empty ++ ("deed " : Str)) ++ (toString ((n.val : Nat) : Int) : Str)).length ≤ sizeLine ∧ (((Str.empty ++ ("deed " : Str)) ++ (toString ((n.val : Nat) : Int) : Str)) ++ (" can't be done" : Str)).length ≤ sizeLine ∧ (((n.val : Nat) : Int)).natAbs.log2 < 1920 := by decide +kernel
theorem ok_BadDeed {f : Addr} {fd : FuncData} (F : Fun K "__init__" "BadDeed.__init__" s_BadDeed___init__ f fd) (X : ExF K mg "BadDeed" "number" C) (B : ExB K mg CS mc) : FnOk P w K mg base CX0 1 f fd ["self", "number"] (spXI C "number") := by
  refine F.ok sc_BadDeed___init__ (fun vs H Q E h => ?_) fun cdv A outer s H vs Q E hr h => ?_
  · obtain ⟨a, n, rfl, _⟩ := h
    rfl
  · obtain ⟨a, n, rfl, hn, ha, kq⟩ := h
    refine ⟨_, pss_cons (ps_expr (pe_baseInit rfl B.g B.s B.r B.i (pa_cons (pv 0) (pa_cons (pe_joined (.cons pe_str (.cons (pe_fmt (pv 1)) (.cons pe_str .nil)))) pa_nil)))) (pss_one (ps_ost (pv 0) (pv 1))), ?_⟩
    obtain ⟨l1, l2, l3⟩ := len_no ⟨n, by omega⟩
    refine ⟨_, rfl, ⟨_, rfl, by decide +kernel, _, rfl, .inr ⟨n, rfl, l3, _, rfl, l1, _, rfl, l2, ?_⟩⟩⟩
    exact ⟨a, C, _, rfl, (show 1 ≤ 1000 by decide), X.o, ha, _, rfl, _, rfl, a, C, rfl, X.o, X.no, .inl ⟨ha, fun d hd hn => kq d hd hn⟩⟩
end
end CK

/-! an exception with a number made -/
namespace CK
open PySem L2 PyProof.Rows
structure ExN (P : Program) (w : World) (K : PySem.W.Frag) (mg : Str → Option Value) (base : Heap) (x fl : Str) (C : Addr) : Prop where
  c : ExF K mg x fl C
  ex : ∃ fI fd, PySem.W.findIn K (.ref C) "__init__" = some (some (.ref fI)) ∧ PySem.W.typeIn K (.ref fI) = some (.type "function") ∧ FnOk P w K mg base CX0 1 fI fd ["self", fl] (spXI C fl) ∧ Binds K fd ["self", fl] []
theorem made_eq {H : Hp} {a d : Addr} {u v x z : HO} (ha : H a = none) (hda : d ≠ a) : upd (del (upd (upd (upd H a u) d v) a x) a) d z = upd H d z := by
  funext b
  by_cases h1 : b = d
  · subst h1; rw [upd_same, upd_same]
  · rw [upd_ne h1, upd_ne h1]
    by_cases h2 : b = a
    · subst h2; rw [del_same, ha]
    · rw [del_ne h2, upd_ne h2, upd_ne h1, upd_ne h2]
/-- C(n) -/
def tNum (C : Addr) (fl : Str) (te : TE) : L2.St → Hp → XK → Prop := fun σ H Q => te σ H fun v H1 => ∃ n : Nat, v = .int n ∧ n ≤ 100 ∧ ∀ d, H1 d = none → Q (.ref C) (some d) (upd H1 d (.xd [(fl, .int n)]))
theorem pmk_num {X : Cx} {x fl : Str} {C : Addr} {e : Expr} {te : TE} {p pos : Pos} (N : ExN X.prog X.w X.K X.mg X.base x fl C) (hr : Room 2 X.A) (ha : PA X [e] (tCons te tNil)) (mono : ∀ σ H Q Q', (∀ v H, Q v H → Q' v H) → te σ H Q → te σ H Q') (hg : Gl X x) (hdb : (x == ("__debug__" : Str)) = false := by decide)
    (hst : starEach [e] X.env = (false, eval e X.env) :: starEach [] X.env := by rfl) (hpl : (backTo pos (starEach [] X.env)).any (·.1) = false := by rfl) : L2N.PMk X (.Call (.Name x p) [e] [] pos) (tNum C fl te) := fun pins s σ H Q I h => by
  obtain ⟨fI, fd, h1, h2, F, hb⟩ := N.ex
  refine pmk_oexN (ta := tCons te tNil) N.c.o h1 h2 F hr hb hg N.c.g ha hdb hst hpl pins s σ H Q I ?_
  refine mono _ _ _ _ (fun v H1 q => ?_) h
  obtain ⟨n, rfl, hn, k⟩ := q
  refine ⟨(show 1 ≤ 1000 by decide), fun a ha => ⟨a, n, rfl, hn, upd_same, fun d hd hda => ⟨rfl, d, [(fl, .int n)], upd_same, by rw [upd_ne hda, upd_same], by rw [upd_ne hda] at hd; exact hd, ?_⟩⟩⟩
  rw [upd_ne hda] at hd
  rw [made_eq ha hda]
  exact k d hd
theorem mono_var {i : Nat} : ∀ (σ : L2.St) (H : Hp) (Q Q' : VK), (∀ v H, Q v H → Q' v H) → tVar i σ H Q → tVar i σ H Q' := fun σ H Q Q' k ⟨v, e, q⟩ => ⟨v, e, k _ _ q⟩
theorem mono_c {c : V} : ∀ (σ : L2.St) (H : Hp) (Q Q' : VK), (∀ v H, Q v H → Q' v H) → tC c σ H Q → tC c σ H Q' := fun σ H Q Q' k q => k _ _ q
end CK

/-! what check_pattern refuses -/
namespace CK
open PySem L2 PyProof.Rows
def badFrom : Nat → List Nat → Option Nat
  | _, [] => none
  | i, c :: r => if i = 6 ∨ ¬ (c = 48 ∨ c = 49) then some i else badFrom (i + 1) r
def badAt : List Nat → Option Nat
  | [] => some 0
  | p => badFrom 0 p
def spPat (C : Addr) : Sp := fun vs H Q E => ∃ p : List Nat, vs = [.str (Tx p)] ∧ (badAt p = none → ∀ H', Same H H' → Q .non H') ∧ ∀ i, badAt p = some i → ∀ H' d, Same H H' → H' d = none → E (.ref C) (some d) (upd H' d (.xd [("at", .int (i : Nat))]))
theorem tx_nil {p : List Nat} (h : Tx p = ("" : Str)) : p = [] := by
  have := congrArg (fun s : Str => s.cps.toList) h
  have e : p = (Str.ofString "").cps.toList := by simpa [Tx] using this
  exact e.trans rfl
theorem sign_in (c : Nat) : inV (.str ⟨#[c]⟩) [.str (Str.ofString "0"), .str (Str.ofString "1")] = true ↔ (c = 48 ∨ c = 49) := by
  have z := in_texts (Tx [c]) [Tx [48], Tx [49]]
  have e : inV (.str ⟨#[c]⟩) [.str (Str.ofString "0"), .str (Str.ofString "1")] = inV (.str (Tx [c])) ([Tx [48], Tx [49]].map V.str) := rfl
  rw [e, z]
  have k : ∀ a b : Nat, Tx [a] = Tx [b] ↔ a = b := fun a b => ⟨fun h => by have := congrArg (fun s : Str => s.cps.toList) h; simpa [Tx] using this, fun h => by rw [h]⟩
  simp only [List.mem_cons, List.not_mem_nil, or_false, k]
theorem tx_size (p : List Nat) : (Tx p).cps.size = p.length := rfl
theorem tx_get (p : List Nat) (i : Nat) : (Tx p).cps[i]? = p[i]? := by simp [Tx]
section
variable {P : Program} {w : World} {K : PySem.W.Frag} {mg : Str → Option Value} {base : Heap} {cc : Nat → Addr} {C : Addr}
theorem okx_check_pattern {f : Addr} {fd : FuncData} (F : Fun K "check_pattern" "check_pattern" s_check_pattern f fd) (T : Txt K mg cc) (X : ExN P w K mg base "BadPattern" "at" C) : FnOk P w K mg base (L2N.CX P w) 3 f fd ["pattern"] (spPat C) := by
  obtain ⟨_, m_MOST⟩ := T.x_MOST_PLACES
  refine okN F sc_check_pattern (fun vs H Q E h => ?_) fun cdv A outer s H vs Q E hr h => ?_
  · obtain ⟨p, rfl, _⟩ := h
    rfl
  · obtain ⟨p, rfl, hy, hn⟩ := h
    have nd := sc_check_pattern.nd
    refine ⟨_, pss_cons (ps_if (pt_cmpR op_eq (pv 0) pe_str (nomark _)) (pss_one (L2N.ps_raise rfl (L2N.takes_of rfl rfl rfl rfl) (pmk_num X hr (pa_cons pe_int pa_nil) mono_c rfl))) pss_nil)
      (pss_one (ps_for (passes_of rfl) rfl (pi_enumS (by rfl) T.n_enumerate (pa_cons (pv 0) pa_nil)) (pg_tup rfl (pgs_cons (pg_name (i := 1) nd rfl (Or.inl rfl)) (pgs_cons (pg_name (i := 2) nd rfl (Or.inl rfl)) pgs_nil)))
        (pss_one (ps_if (PW.pt (pw_or (pt_cmpR op_eq (pv 1) (pe_glob (v := .int 6) rfl m_MOST ⟨_, rfl⟩) (nomark _)) (pw_or1 (pt_cmpR op_notIn_seq (pv 2) (pe_tup (pa_cons pe_str (pa_cons pe_str pa_nil))) (by rfl)))))
          (pss_one (L2N.ps_raise rfl (L2N.takes_of rfl rfl rfl rfl) (pmk_num X hr (pa_cons (pv 1) pa_nil) mono_var rfl))) pss_nil)))), ?_⟩
    refine ⟨_, rfl, rfl, _, rfl, ite_of (fun z => ?_) fun z => ?_⟩
    · have z := of_decide_eq_true z
      have e : p = [] := tx_nil (V.str.inj z)
      subst e
      exact ⟨0, rfl, by decide, fun d hd => hn 0 rfl H d (Same.refl H) hd⟩
    · have z := of_decide_eq_false z
      have ne : p ≠ [] := fun e => z (by rw [e]; rfl)
      have eb : badAt p = badFrom 0 p := by
        cases p with
        | nil => exact absurd rfl ne
        | cons c r => rfl
      refine ⟨_, rfl, _, rfl, fun i m σ H' => m = p.length - i ∧ i ≤ p.length ∧ i ≤ 6 ∧ badFrom 0 p = badFrom i (p.drop i) ∧ Same H H' ∧ ∃ x y, σ = [some (.str (Tx p)), x, y], ⟨p.length, rfl, Nat.zero_le _, by decide, rfl, Same.refl H, none, none, rfl⟩, ?_⟩
      rintro i m σ H' ⟨rfl, hi, h6, hb, s1, x, y, rfl⟩
      by_cases hlt : i < p.length
      · refine .inr ⟨by show i < (Tx p).cps.size; rw [tx_size]; exact hlt, fun σ' H2 => i + 1 ≤ 6 ∧ badFrom 0 p = badFrom (i + 1) (p.drop (i + 1)) ∧ Same H H2 ∧ ∃ x y, σ' = [some (.str (Tx p)), x, y], fun σ' H2 ⟨a1, a2, a3, a4⟩ => ⟨p.length - (i + 1), by omega, rfl, hlt, a1, a2, a3, a4⟩, fun v H2 y => ?_⟩
        obtain ⟨T2, c, rfl, hT, rfl, hc⟩ := y
        have hc : p[i]? = some c := by rw [tx_get] at hc; exact hc
        have ed : p.drop i = c :: p.drop (i + 1) := by
          obtain ⟨hl, e⟩ := List.getElem?_eq_some_iff.mp hc
          rw [← e]; exact List.drop_eq_getElem_cons hl
        have s2 : Same H (upd H' T2 (.tup [.int (i : Nat), .str ⟨#[c]⟩])) := Same.new' s1 hT
        rw [ed] at hb
        have hb : badFrom 0 p = if i = 6 ∨ ¬ (c = 48 ∨ c = 49) then some i else badFrom (i + 1) (p.drop (i + 1)) := hb
        generalize hH2 : upd H' T2 (.tup [.int (i : Nat), .str ⟨#[c]⟩]) = H2 at *
        have hT2 : H2 T2 = some (.tup [.int (i : Nat), .str ⟨#[c]⟩]) := by rw [← hH2]; exact upd_same
        refine ⟨T2, _, rfl, SqT.of hT2, rfl, _, _, rfl, _, _, rfl, rfl, ?_⟩
        have bad : (i = 6 ∨ ¬ (c = 48 ∨ c = 49)) → ∀ H3, Same H H3 → ∀ d, H3 d = none → E (.ref C) (some d) (upd H3 d (.xd [("at", .int (i : Nat))])) := fun hz H3 s3 d hd => hn i (by rw [eb, hb, if_pos hz]) H3 d s3 hd
        refine ⟨_, rfl, rfl, _, rfl, ite_of (fun z => ?_) fun z => ?_⟩
        · have z : i = 6 := by
            have z := V.int.inj (of_decide_eq_true z)
            omega
          exact ite_of (b := true) (fun _ => ⟨_, rfl, i, rfl, by omega, fun d hd => bad (.inl z) H2 s2 d hd⟩) (fun z => Bool.noConfusion z)
        · have z : i ≠ 6 := fun e => of_decide_eq_false z (by rw [e]; rfl)
          refine ⟨_, rfl, (show 2 ≤ sizeLine by decide), fun a ha => ⟨a, _, rfl, .inr (SqT.of upd_same), rfl, rfl, _, rfl, ?_⟩⟩
          have s3 := Same.new' (o := .tup [.str ("0" : Str), .str ("1" : Str)]) s2 ha
          refine ite_of (fun y => ?_) fun y => ?_
          · rw [if_pos rfl, Bool.not_eq_true'] at y
            refine ⟨_, rfl, i, rfl, by omega, fun d hd => bad (.inr fun e => ?_) _ s3 d hd⟩
            have := (sign_in c).mpr e
            rw [y] at this
            cases this
          · rw [if_pos rfl, Bool.not_eq_false'] at y
            exact ⟨by omega, hb.trans (if_neg fun e => e.elim z fun k => k ((sign_in c).mp y)), s3, _, _, rfl⟩
      · have ei : i = p.length := by omega
        refine .inl ⟨by show (Tx p).cps.size ≤ i; rw [tx_size]; omega, hy ?_ H' s1⟩
        rw [eb, hb, ei, List.drop_length]
        rfl
end
end CK

/-! what done refuses -/
namespace CK
open PySem L2 PyProof.Rows
theorem bad_none : ∀ (p : List Nat) (i : Nat), isBits p = true → i + p.length ≤ 6 → badFrom i p = none
  | [], _, _, _ => rfl
  | c :: r, i, hb, hl => by
    have hc : (c = 48 ∨ c = 49) ∧ isBits r = true := by
      unfold isBits at hb
      split at hb
      · rename_i e; cases e
      · rename_i e; cases e; exact ⟨.inl rfl, hb⟩
      · rename_i e; cases e; exact ⟨.inr rfl, hb⟩
      · cases hb
    have hl : i + (r.length + 1) ≤ 6 := hl
    show (if i = 6 ∨ ¬ (c = 48 ∨ c = 49) then some i else badFrom (i + 1) r) = none
    rw [if_neg fun z => z.elim (by omega) fun k => k hc.1]
    exact bad_none r (i + 1) hc.2 (by omega)
theorem badAt_none {p : List Nat} (hb : isBits p = true) (h1 : 1 ≤ p.length) (h6 : p.length ≤ 6) : badAt p = none := by
  cases p with
  | nil => exact absurd h1 (by decide)
  | cons c r => exact bad_none _ 0 hb (by omega)
def okRule (s : Str) : Prop := s = Tx [110, 101, 97, 114] ∨ s = Tx [108, 101, 102, 116] ∨ s = Tx [101, 118, 101, 110]
/-- raised: C, its own number n kept under fl; what was there is there -/
def Rz (H : Hp) (E : XK) (C : Addr) (fl : Str) (n : Nat) : Prop := ∀ H' d, Same H H' → H' d = none → E (.ref C) (some d) (upd H' d (.xd [(fl, .int n)]))
def spDoneX (CR CP CD : Addr) : Sp := fun vs H _ E => ∃ (r : Str) (p : List Nat) (a : Addr) (s : List Nat) (k : Int), vs = [.str r, .str (Tx p), .ref a] ∧ H a = some (.tup [.str (Tx s), .int k]) ∧
  ((¬ okRule r ∧ E (.ref CR) none H) ∨ (okRule r ∧ ∃ i, badAt p = some i ∧ Rz H E CP "at" i) ∨ (okRule r ∧ isBits p = true ∧ 1 ≤ p.length ∧ p.length ≤ 6 ∧ canB p.length (many p) s k = false ∧ Rz H E CD "number" 0))
theorem deed_ro {η : Em} (s : List Nat) (k : Int) : RO η (.tup [.str s, .int k]) (.tup [.str (Tx s), .int k]) := ⟨_, rfl, .cons (rvS s) (.cons (rvI k) .nil)⟩
section
variable {P : Program} {w : World} {K : PySem.W.Frag} {mg : Str → Option Value} {base : Heap} {cc : Nat → Addr} {CR CP CD : Addr}
theorem okx_done {f : Addr} {fd : FuncData} (F : Fun K "done" "done" s_done f fd) (T : Txt K mg cc) (OR : OwnX P w K mg base 1 "check_rule" ["rule"] (spChk gRule CR)) (OP : OwnX P w K mg base 3 "check_pattern" ["pattern"] (spPat CP)) (XD : ExN P w K mg base "BadDeed" "number" CD)
    (OL : Own P w K mg base cc 1 "places_of" ["pattern"] c_places_of) (OC : Own P w K mg base cc 1 "can_be_done" ["wide", "many", "deed"] c_can_be_done) (OA : Own P w K mg base cc 3 "after_deed" ["rule", "wide", "places", "deed"] c_after_deed) (OT : Own P w K mg base cc 1 "pattern_of" ["wide", "places"] c_pattern_of) :
    FnOk P w K mg base (L2N.CX P w) 4 f fd ["rule", "pattern", "deed"] (spDoneX CR CP CD) := by
  refine okN F sc_done (fun vs H Q E h => ?_) fun cdv A outer s H vs Q E hr h => ?_
  · obtain ⟨r, p, a, s, k, rfl, _⟩ := h
    rfl
  · obtain ⟨r, p, a, sg, k, rfl, ha, h⟩ := h
    have nd := sc_done.nd
    have hr1 : Room 1 _ := hr.mono (by decide)
    refine ⟨_, pss_cons (ps_expr (pe_ownW (L2N.takes_of rfl rfl rfl rfl) OR hr1 (pa_cons (pv 0) pa_nil)))
      (pss_cons (ps_expr (pe_ownW (L2N.takes_of rfl rfl rfl rfl) OP hr (pa_cons (pv 1) pa_nil)))
      (pss_cons (ps_set (i := 3) nd rfl (Or.inl rfl) (pe_callB call_len_str (by rfl) T.n_len boot_len (pa_cons (pv 1) pa_nil)))
      (pss_cons (ps_set (i := 4) nd rfl (Or.inl rfl) (pe_own OL hr1 (pa_cons (pv 1) pa_nil)))
      (pss_cons (ps_if (pt_not (pt_val (pe_own OC hr1 (pa_cons (pv 3) (pa_cons (pe_callB call_len_seq (by rfl) T.n_len boot_len (pa_cons (pv 4) pa_nil)) (pa_cons (pv 2) pa_nil)))))) (pss_one (L2N.ps_raise rfl (L2N.takes_of rfl rfl rfl rfl) (pmk_num XD (hr.mono (by decide)) (pa_cons pe_int pa_nil) mono_c rfl))) pss_nil)
      (pss_cons (ps_asg (pe_own OA hr (pa_cons (pv 0) (pa_cons (pv 3) (pa_cons (pv 4) (pa_cons (pv 2) pa_nil))))) (pg_tup rfl (pgs_cons (pg_name (i := 5) nd rfl (Or.inl rfl)) (pgs_cons (pg_name (i := 6) nd rfl (Or.inl rfl)) pgs_nil))))
      (pss_one (ps_ret (pe_tup (pa_cons (pv 5) (pa_cons (pe_own OT hr1 (pa_cons (pv 3) (pa_cons (pv 6) pa_nil))) pa_nil)))))))))), ?_⟩
    refine ⟨_, rfl, okRule r, rfl, fun hR => ?_, fun hR => ?_⟩
    · rcases h with ⟨z, _⟩ | ⟨_, i, hi, q⟩ | ⟨_, hb, h1, h6, hc, q⟩
      · exact absurd hR z
      · refine ⟨_, rfl, p, rfl, fun z => (by rw [hi] at z; cases z), fun i' e H' d s1 hd => ?_⟩
        rw [hi] at e
        cases e
        exact q H' d s1 hd
      · refine ⟨_, rfl, p, rfl, fun _ H1 s1 => ?_, fun i' e => (by rw [badAt_none hb h1 h6] at e; cases e)⟩
        refine ⟨_, rfl, Tx p, rfl, (show p.length ≤ sizeLine by rw [sizeLine_eq]; omega), ?_⟩
        obtain ⟨nL, hL', eL, gL, kL⟩ := places_good hb h1 h6
        refine ⟨_, rfl, sp_keeps (cc := cc) (E := E0) HR.nil (.cons (rvS p) .nil) eL kL fun η2 H2 v2 s2 _ R2 rv2 => ?_⟩
        obtain ⟨L, eL2, rfl⟩ := rv2
        obtain ⟨ys, hL, rys⟩ := R2.lst gL eL2
        rw [rv_ints rys] at hL
        have hA := s2 _ _ (s1 _ _ ha)
        obtain ⟨hC, eC, kC⟩ := can_eq p.length (many p) k sg
        rw [hc] at eC
        refine ⟨_, rfl, _, rfl, L, _, rfl, .inl (SqL.of hL), _, rfl, sp_keeps (cc := cc) (E := E0) (HR.one hA (deed_ro sg k)) (.cons (rvI _) (.cons (by rw [List.length_map, pl_len]; exact rvI _) (.cons (rvR (n := 0) rfl) .nil))) eC kC fun η3 H3 v3 s3 _ R3 rv3 => ⟨false, rv3, ite_of (b := !false) (fun _ => ?_) (fun z => Bool.noConfusion z)⟩⟩
        exact ⟨0, rfl, by decide, fun d hd => q H3 d ((s1.trans s2).trans s3) hd⟩
    · rcases h with ⟨_, q⟩ | ⟨z, _⟩ | ⟨z, _⟩
      · exact q
      · exact absurd z hR
      · exact absurd z hR
end
end CK

/-! what worst and purse refuse, and shows -/
namespace CK
open PySem L2 PyProof.Rows
def okWide (n : Int) : Prop := 1 ≤ n ∧ n ≤ 6
def spRW (CR CW : Addr) : Sp := fun vs H _ E => ∃ (r : Str) (n : Int), vs = [.str r, .int n] ∧ ((¬ okRule r ∧ E (.ref CR) none H) ∨ (okRule r ∧ ¬ okWide n ∧ E (.ref CW) none H))
def spShowsX (CR CW CN : Addr) : Sp := fun vs H _ E => ∃ (r : Str) (n m d : Int) (x : V), vs = [.str r, .int n, .int m, .int d, x] ∧ ((¬ okRule r ∧ E (.ref CR) none H) ∨ (okRule r ∧ ¬ okWide n ∧ E (.ref CW) none H) ∨ (okRule r ∧ okWide n ∧ ¬ (0 ≤ m ∧ 1 ≤ d) ∧ E (.ref CN) none H))
abbrev s_worst : Stmt := top 36
abbrev s_purse : Stmt := top 45
abbrev s_shows : Stmt := top 46
theorem sc_worst : FnScope ["rule", "wide", "moves", "deeds", "around", "coins", "step"] ["rule", "wide"] (defScope s_worst) := ⟨rfl, rfl, rfl, by decide +kernel, rfl, by decide +kernel, by decide +kernel⟩
theorem sc_purse : FnScope ["rule", "wide", "moves", "deeds", "around", "coins"] ["rule", "wide"] (defScope s_purse) := ⟨rfl, rfl, rfl, by decide +kernel, rfl, by decide +kernel, by decide +kernel⟩
theorem sc_shows : FnScope ["rule", "wide", "moves", "deeds", "told", "coins", "pattern", "many", "step"] ["rule", "wide", "moves", "deeds", "told"] (defScope s_shows) := ⟨rfl, rfl, rfl, by decide +kernel, rfl, by decide +kernel, by decide +kernel⟩
section
variable {P : Program} {w : World} {K : PySem.W.Frag} {mg : Str → Option Value} {base : Heap} {cc : Nat → Addr} {CR CW CN : Addr}
theorem okx_worst {f : Addr} {fd : FuncData} (F : Fun K "worst" "worst" s_worst f fd) (OR : OwnX P w K mg base 1 "check_rule" ["rule"] (spChk gRule CR)) (OW : OwnX P w K mg base 1 "check_width" ["wide"] (spChk gWide CW)) : FnOk P w K mg base (L2N.CX P w) 2 f fd ["rule", "wide"] (spRW CR CW) := by
  refine okN F sc_worst (fun vs H Q E h => ?_) fun cdv A outer s H vs Q E hr h => ?_
  · obtain ⟨r, n, rfl, _⟩ := h
    rfl
  · obtain ⟨r, n, rfl, h⟩ := h
    refine ⟨_, pss_cons (ps_expr (pe_ownW (L2N.takes_of rfl rfl rfl rfl) OR hr (pa_cons (pv 0) pa_nil))) (pss_cons (ps_expr (pe_ownW (L2N.takes_of rfl rfl rfl rfl) OW hr (pa_cons (pv 1) pa_nil))) pss_never), ?_⟩
    refine ⟨_, rfl, okRule r, rfl, fun hR => ⟨_, rfl, okWide n, rfl, fun hW => ?_, fun hW => ?_⟩, fun hR => ?_⟩
    · exact (h.elim (fun z => z.1 hR) fun z => z.2.1 hW).elim
    · exact h.elim (fun z => absurd hR z.1) fun z => z.2.2
    · exact h.elim (fun z => z.2) fun z => absurd z.1 hR
theorem okx_purse {f : Addr} {fd : FuncData} (F : Fun K "purse" "purse" s_purse f fd) (OR : OwnX P w K mg base 1 "check_rule" ["rule"] (spChk gRule CR)) (OW : OwnX P w K mg base 1 "check_width" ["wide"] (spChk gWide CW)) : FnOk P w K mg base (L2N.CX P w) 2 f fd ["rule", "wide"] (spRW CR CW) := by
  refine okN F sc_purse (fun vs H Q E h => ?_) fun cdv A outer s H vs Q E hr h => ?_
  · obtain ⟨r, n, rfl, _⟩ := h
    rfl
  · obtain ⟨r, n, rfl, h⟩ := h
    refine ⟨_, pss_cons (ps_expr (pe_ownW (L2N.takes_of rfl rfl rfl rfl) OR hr (pa_cons (pv 0) pa_nil))) (pss_cons (ps_expr (pe_ownW (L2N.takes_of rfl rfl rfl rfl) OW hr (pa_cons (pv 1) pa_nil))) pss_never), ?_⟩
    refine ⟨_, rfl, okRule r, rfl, fun hR => ⟨_, rfl, okWide n, rfl, fun hW => ?_, fun hW => ?_⟩, fun hR => ?_⟩
    · exact (h.elim (fun z => z.1 hR) fun z => z.2.1 hW).elim
    · exact h.elim (fun z => absurd hR z.1) fun z => z.2.2
    · exact h.elim (fun z => z.2) fun z => absurd z.1 hR
theorem okx_shows {f : Addr} {fd : FuncData} (F : Fun K "shows" "shows" s_shows f fd) (OR : OwnX P w K mg base 1 "check_rule" ["rule"] (spChk gRule CR)) (OW : OwnX P w K mg base 1 "check_width" ["wide"] (spChk gWide CW)) (ON : OwnX P w K mg base 1 "check_part" ["moves", "deeds"] (spChk gPart CN)) : FnOk P w K mg base (L2N.CX P w) 2 f fd ["rule", "wide", "moves", "deeds", "told"] (spShowsX CR CW CN) := by
  refine okN F sc_shows (fun vs H Q E h => ?_) fun cdv A outer s H vs Q E hr h => ?_
  · obtain ⟨r, n, m, d, x, rfl, _⟩ := h
    rfl
  · obtain ⟨r, n, m, d, x, rfl, h⟩ := h
    refine ⟨_, pss_cons (ps_expr (pe_ownW (L2N.takes_of rfl rfl rfl rfl) OR hr (pa_cons (pv 0) pa_nil))) (pss_cons (ps_expr (pe_ownW (L2N.takes_of rfl rfl rfl rfl) OW hr (pa_cons (pv 1) pa_nil))) (pss_cons (ps_expr (pe_ownW (L2N.takes_of rfl rfl rfl rfl) ON hr (pa_cons (pv 2) (pa_cons (pv 3) pa_nil)))) pss_never)), ?_⟩
    refine ⟨_, rfl, okRule r, rfl, fun hR => ⟨_, rfl, okWide n, rfl, fun hW => ⟨_, rfl, _, rfl, 0 ≤ m ∧ 1 ≤ d, rfl, fun hN => ?_, fun hN => ?_⟩, fun hW => ?_⟩, fun hR => ?_⟩
    · rcases h with z | z | z
      · exact absurd hR z.1
      · exact absurd hW z.2.1
      · exact absurd hN z.2.2.1
    · rcases h with z | z | z
      · exact absurd hR z.1
      · exact absurd hW z.2.1
      · exact z.2.2.2
    · rcases h with z | z | z
      · exact absurd hR z.1
      · exact z.2.2
      · exact absurd z.2.1 hW
    · rcases h with z | z | z
      · exact z.2
      · exact absurd z.1 hR
      · exact absurd z.1 hR
end
end CK

/-! what fewest refuses -/
namespace CK
open PySem L2 PyProof.Rows
/-- the first deed that can't be done, or is one too many -/
def firstBad (w : Int) : Int → Nat → List (List Nat × Int) → Option Nat
  | _, _, [] => none
  | m, i, (s, k) :: r => if i = 12 ∨ canB w m s k = false then some i else firstBad w (m + (if s = [112, 117, 116] then 1 else -1)) (i + 1) r
/-- deeds as they lie in the heap -/
def DeedsAt (H : Hp) (as : List Addr) (ds : List (List Nat × Int)) : Prop := as.length = ds.length ∧ ∀ (i : Nat) (t : Addr) (d : List Nat × Int), as[i]? = some t → ds[i]? = some d → H t = some (.tup [.str (Tx d.1), .int d.2])
theorem isPut_text (s : List Nat) : decide (V.str (Tx s) = V.str (Str.ofString "put")) = decide (s = [112, 117, 116]) := by
  have e : (Str.ofString "put") = Tx [112, 117, 116] := rfl
  rw [e]
  refine decide_eq_decide.mpr ⟨fun h => ?_, fun h => by rw [h]⟩
  have := congrArg (fun z : Str => z.cps.toList) (V.str.inj h)
  simpa [Tx] using this
def spChkX (C : Addr) : Sp := fun vs H _ E => ∃ (w : Int) (a : Addr) (as : List Addr) (ds : List (List Nat × Int)) (i : Nat), vs = [.int w, .ref a] ∧ H a = some (.lst (as.map V.ref)) ∧ DeedsAt H as ds ∧ firstBad w 0 0 ds = some i ∧ Rz H E C "number" i
abbrev s_check_deeds : Stmt := top 31
abbrev s_fewest : Stmt := top 30
theorem sc_check_deeds : FnScope ["wide", "deeds", "many", "number", "deed"] ["wide", "deeds"] (defScope s_check_deeds) := ⟨rfl, rfl, rfl, by decide +kernel, rfl, by decide +kernel, by decide +kernel⟩
theorem sc_fewest : FnScope ["wide", "deeds", "best", "deed"] ["wide", "deeds"] (defScope s_fewest) := ⟨rfl, rfl, rfl, by decide +kernel, rfl, by decide +kernel, by decide +kernel⟩
section
variable {P : Program} {w : World} {K : PySem.W.Frag} {mg : Str → Option Value} {base : Heap} {cc : Nat → Addr} {CD CW : Addr}
theorem okx_check_deeds {f : Addr} {fd : FuncData} (F : Fun K "check_deeds" "check_deeds" s_check_deeds f fd) (T : Txt K mg cc) (OC : Own P w K mg base cc 1 "can_be_done" ["wide", "many", "deed"] c_can_be_done) (XD : ExN P w K mg base "BadDeed" "number" CD) : FnOk P w K mg base (L2N.CX P w) 3 f fd ["wide", "deeds"] (spChkX CD) := by
  refine okN F sc_check_deeds (fun vs H Q E h => ?_) (fun cdv A outer s H vs Q E hr h => ?_)
  · obtain ⟨_, _, _, _, _, rfl, _⟩ := h
    rfl
  · obtain ⟨w, a, as, ds, j, rfl, ha, ⟨hlen, ht⟩, hj, q⟩ := h
    have nd := sc_check_deeds.nd
    obtain ⟨tMD, hMD⟩ := T.x_MOST_DEEDS
    refine ⟨_, (pss_cons (ps_set (i := 2) nd rfl (Or.inl rfl) pe_int)
      (pss_one (ps_for (passes_of rfl) rfl (pi_enum (by rfl) T.n_enumerate (pa_cons (pv 1) pa_nil)) (pg_tup rfl (pgs_cons (pg_name (i := 3) nd rfl (Or.inl rfl)) (pgs_cons (pg_name (i := 4) nd rfl (Or.inl rfl)) pgs_nil)))
      (pss_cons (ps_if (PW.pt (pw_or (pt_cmpR op_eq (pv 3) (pe_glob (v := .int 12) (by rfl) hMD ⟨_, rfl⟩) (nomark _)) (pw_or1 (pt_not (pt_val (pe_own OC (hr.mono (by decide)) (pa_cons (pv 0) (pa_cons (pv 2) (pa_cons (pv 4) pa_nil))))))))) (pss_one (L2N.ps_raise rfl (L2N.takes_of rfl rfl rfl rfl) (pmk_num XD hr (pa_cons (pv 3) pa_nil) mono_var rfl))) pss_nil)
      (pss_one (ps_aug (i := 2) nd rfl (Or.inl rfl) (pe_ifExp (pt_cmpR op_eq (pe_ix (r := rIxT K) ix_tup (pv 4) pe_int (fun _ _ => rfl)) pe_str (nomark _)) pe_int (pe_un un_neg pe_int)) ip_add)))))), ?_⟩
    refine ⟨_, rfl, a, _, rfl, SqL.of ha, ?_⟩
    refine for_enum (K := K) (a := a) (xs := as.map V.ref) (fun i σ H' => ∃ (k : Int) (x3 x4 : Option V), σ = [some (.int w), some (.ref a), some (.int k), x3, x4] ∧ Same H H' ∧ i ≤ 12 ∧ firstBad w 0 0 ds = firstBad w k i (ds.drop i)) ⟨0, none, none, rfl, Same.refl _, by decide, rfl⟩ (fun i σ H' _ ⟨_, _, _, _, s, _⟩ => SqL.of (s _ _ ha)) ?_ ?_
    · rintro i x σ H3 T3 hx ⟨k, x3, x4, rfl, s3, h12, hb⟩ hT3
      obtain ⟨t, hti, rfl⟩ : ∃ t, as[i]? = some t ∧ x = V.ref t := by
        rw [List.getElem?_map] at hx
        cases e : as[i]? with
        | none => rw [e] at hx; cases hx
        | some t => rw [e] at hx; exact ⟨t, rfl, (Option.some.inj hx).symm⟩
      have hi : i < ds.length := by rw [← hlen]; exact (List.getElem?_eq_some_iff.mp hti).1
      obtain ⟨⟨sg, kk⟩, hdi⟩ : ∃ d, ds[i]? = some d := ⟨_, List.getElem?_eq_getElem hi⟩
      have htd := ht i t _ hti hdi
      have ed : ds.drop i = (sg, kk) :: ds.drop (i + 1) := by
        obtain ⟨hl, e⟩ := List.getElem?_eq_some_iff.mp hdi
        rw [← e]; exact List.drop_eq_getElem_cons hl
      rw [ed] at hb
      have hb : firstBad w 0 0 ds = if i = 12 ∨ canB w k sg kk = false then some i else firstBad w (k + (if sg = [112, 117, 116] then 1 else -1)) (i + 1) (ds.drop (i + 1)) := hb
      have bad : (i = 12 ∨ canB w k sg kk = false) → ∀ H3, Same H H3 → ∀ d, H3 d = none → E (.ref CD) (some d) (upd H3 d (.xd [("number", .int (i : Nat))])) := fun hz H3 s3 d hd => by
        rw [if_pos hz, hj] at hb
        cases hb
        exact q H3 d s3 hd
      have s4 : Same H (upd H3 T3 (.tup [.int (i : Nat), .ref t])) := Same.new' s3 hT3
      have eT : (upd H3 T3 (.tup [.int (i : Nat), .ref t])) T3 = some (.tup [.int (i : Nat), .ref t]) := upd_same
      generalize upd H3 T3 (.tup [.int (i : Nat), .ref t]) = H4 at *
      have ht4 := s4 _ _ htd
      refine ⟨T3, _, rfl, SqT.of eT, rfl, _, _, rfl, _, _, rfl, rfl, ?_⟩
      refine ⟨_, rfl, rfl, _, rfl, ite_of (fun z => ?_) fun z => ?_⟩
      · have z : i = 12 := by
          have z := V.int.inj (of_decide_eq_true z)
          omega
        exact ite_of (b := true) (fun _ => ⟨_, rfl, i, rfl, by omega, fun d hd => bad (.inl z) H4 s4 d hd⟩) (fun z => Bool.noConfusion z)
      · have z : i ≠ 12 := fun e => of_decide_eq_false z (by rw [e]; rfl)
        obtain ⟨hC, eC, kC⟩ := can_eq w k kk sg
        refine ⟨_, rfl, _, rfl, _, rfl, sp_keeps (cc := cc) (E := E0) (HR.one ht4 (deed_ro sg kk)) (.cons (rvI _) (.cons (rvI _) (.cons (rvR (n := 0) rfl) .nil))) eC kC fun η5 H5 v5 s5 _ R5 rv5 => ⟨_, rv5, ite_of (fun y => ?_) fun y => ?_⟩⟩
        · rw [Bool.not_eq_true'] at y
          exact ⟨_, rfl, i, rfl, by omega, fun d hd => bad (.inr y) H5 (s4.trans s5) d hd⟩
        · rw [Bool.not_eq_false'] at y
          have ht5 := s5 _ _ ht4
          rw [if_neg (by rintro (e | e); exact z e; rw [y] at e; cases e)] at hb
          refine ⟨_, rfl, _, rfl, t, _, _, _, rfl, rfl, SqT.of ht5, at_of (j := 0) rfl rfl, rfl, _, rfl, ite_of (fun u => ?_) fun u => ?_⟩
          · have u : sg = [112, 117, 116] := by rw [isPut_text] at u; exact of_decide_eq_true u
            rw [if_pos u] at hb
            exact ⟨_, _, rfl, rfl, ⟨k + 1, some (.int (i : Nat)), some (.ref t), rfl, s4.trans s5, by omega, hb⟩⟩
          · have u : sg ≠ [112, 117, 116] := by rw [isPut_text] at u; exact of_decide_eq_false u
            rw [if_neg u] at hb
            exact ⟨_, rfl, _, _, rfl, rfl, ⟨k + -1, some (.int (i : Nat)), some (.ref t), rfl, s4.trans s5, by omega, hb⟩⟩
    · rintro σ H3 ⟨k, x3, x4, rfl, s3, _, hb⟩
      rw [List.length_map, hlen, List.drop_length, hj] at hb
      cases hb
end
end CK

/-! what fewest and played refuse -/
namespace CK
open PySem L2 PyProof.Rows
def spFewX (CW CD : Addr) : Sp := fun vs H Q E => ∃ (w : Int) (a : Addr), vs = [.int w, .ref a] ∧ ((¬ okWide w ∧ E (.ref CW) none H) ∨ (okWide w ∧ spChkX CD [.int w, .ref a] H Q E))
section
variable {P : Program} {w : World} {K : PySem.W.Frag} {mg : Str → Option Value} {base : Heap} {cc : Nat → Addr} {CR CD CW : Addr}
theorem okx_fewest {f : Addr} {fd : FuncData} (F : Fun K "fewest" "fewest" s_fewest f fd) (OW : OwnX P w K mg base 1 "check_width" ["wide"] (spChk gWide CW)) (OD : OwnX P w K mg base 3 "check_deeds" ["wide", "deeds"] (spChkX CD)) : FnOk P w K mg base (L2N.CX P w) 4 f fd ["wide", "deeds"] (spFewX CW CD) := by
  refine okN F sc_fewest (fun vs H Q E h => ?_) fun cdv A outer s H vs Q E hr h => ?_
  · obtain ⟨n, a, rfl, _⟩ := h
    rfl
  · obtain ⟨n, a, rfl, h⟩ := h
    refine ⟨_, pss_cons (ps_expr (pe_ownW (L2N.takes_of rfl rfl rfl rfl) OW (hr.mono (by decide)) (pa_cons (pv 0) pa_nil))) (pss_cons (ps_expr (pe_ownW (L2N.takes_of rfl rfl rfl rfl) OD hr (pa_cons (pv 0) (pa_cons (pv 1) pa_nil)))) pss_never), ?_⟩
    refine ⟨_, rfl, okWide n, rfl, fun hW => ?_, fun hW => ?_⟩
    · rcases h with z | z
      · exact absurd hW z.1
      · obtain ⟨w', a', as, ds, i, e, r⟩ := z.2
        exact ⟨_, rfl, _, rfl, w', a', as, ds, i, e, r⟩
    · exact h.elim (fun z => z.2) fun z => absurd z.1 hW
end
end CK

/-! what played refuses -/
namespace CK
open PySem L2 PyProof.Rows
def spPlayX (CR CW CD : Addr) : Sp := fun vs H _ E => ∃ (r : Str) (w : Int) (a : Addr), vs = [.str r, .int w, .ref a] ∧ ((¬ okRule r ∧ E (.ref CR) none H) ∨ (okRule r ∧ ¬ okWide w ∧ E (.ref CW) none H) ∨
  (∃ (r' : List Nat) (wd' : Nat) (ds : List Deed) (as rest : List Addr) (t0 : Addr) (n : Nat) (sg : List Nat) (kk : Int), r = Tx r' ∧ w = (wd' : Int) ∧ r' ∈ rules ∧ 1 ≤ wd' ∧ wd' ≤ 6 ∧ cnt wd' 0 ds = some n ∧ H a = some (.lst ((as ++ t0 :: rest).map V.ref)) ∧ Tups H as ds ∧ ds.length ≤ 100 ∧ H t0 = some (.tup [.str (Tx sg), .int kk]) ∧ canB wd' n sg kk = false ∧ Rz H E CD "number" ds.length))
theorem rule_ok : ∀ r : List Nat, r ∈ rules → okRule (Tx r) := fun r h => by
  unfold rules at h
  simp only [List.mem_cons, List.not_mem_nil, or_false] at h
  rcases h with e | e | e
  · exact .inl (by rw [e])
  · exact .inr (.inl (by rw [e]))
  · exact .inr (.inr (by rw [e]))
section
variable {P : Program} {w : World} {K : PySem.W.Frag} {mg : Str → Option Value} {base : Heap} {cc : Nat → Addr} {CR CD CW : Addr}
theorem okx_played {f : Addr} {fd : FuncData} (F : Fun K "played" "played" s_played f fd) (T : Txt K mg cc) (OR : OwnX P w K mg base 1 "check_rule" ["rule"] (spChk gRule CR)) (OW : OwnX P w K mg base 1 "check_width" ["wide"] (spChk gWide CW)) (XD : ExN P w K mg base "BadDeed" "number" CD)
    (OC : Own P w K mg base cc 1 "can_be_done" ["wide", "many", "deed"] c_can_be_done) (OA : Own P w K mg base cc 3 "after_deed" ["rule", "wide", "places", "deed"] c_after_deed) : FnOk P w K mg base (L2N.CX P w) 4 f fd ["rule", "wide", "deeds"] (spPlayX CR CW CD) := by
  refine okN F sc_played (fun vs H Q E h => ?_) (fun cdv A outer s H vs Q E hr h => ?_)
  · obtain ⟨r, w', a, rfl, _⟩ := h
    rfl
  · obtain ⟨r0, w0, a, rfl, h⟩ := h
    have nd := sc_played.nd
    have hr1 : Room 1 _ := hr.mono (by decide)
    refine ⟨_, pss_cons (ps_expr (pe_ownW (L2N.takes_of rfl rfl rfl rfl) OR hr1 (pa_cons (pv 0) pa_nil)))
      (pss_cons (ps_expr (pe_ownW (L2N.takes_of rfl rfl rfl rfl) OW hr1 (pa_cons (pv 1) pa_nil)))
      (pss_cons (ps_set (i := 3) nd rfl (Or.inl rfl) (pe_lst pa_nil))
      (pss_cons (ps_set (i := 4) nd rfl (Or.inl rfl) (pe_lst pa_nil))
      (pss_cons (ps_for (passes_of rfl) rfl (pi_enum (by rfl) T.n_enumerate (pa_cons (pv 2) pa_nil)) (pg_tup rfl (pgs_cons (pg_name (i := 5) nd rfl (Or.inl rfl)) (pgs_cons (pg_name (i := 6) nd rfl (Or.inl rfl)) pgs_nil)))
        (pss_cons (ps_if (pt_not (pt_val (pe_own OC hr1 (pa_cons (pv 1) (pa_cons (pe_callB call_len_seq (by rfl) T.n_len boot_len (pa_cons (pv 4) pa_nil)) (pa_cons (pv 6) pa_nil)))))) (pss_one (L2N.ps_raise rfl (L2N.takes_of rfl rfl rfl rfl) (pmk_num XD (hr.mono (by decide)) (pa_cons (pv 5) pa_nil) mono_var rfl))) pss_nil)
        (pss_cons (ps_asg (pe_own OA hr (pa_cons (pv 0) (pa_cons (pv 1) (pa_cons (pv 4) (pa_cons (pv 6) pa_nil))))) (pg_tup rfl (pgs_cons (pg_name (i := 7) nd rfl (Or.inl rfl)) (pgs_cons (pg_name (i := 4) nd rfl (Or.inl rfl)) pgs_nil))))
        (pss_one (ps_expr (pe_bm PySem.F.plainAttrs_list PySem.F.slot_list_append PySem.F.type_list_append mt_append (pv 3) (pa_cons (pv 7) pa_nil)))))))
      pss_never)))), ?_⟩
    refine ⟨_, rfl, okRule r0, rfl, fun hR => ⟨_, rfl, okWide w0, rfl, fun hW => ?_, fun hW => ?_⟩, fun hR => ?_⟩
    rotate_left
    · rcases h with z | z | ⟨r, wd', ds, as, rest, t0, n, sg, kk, e1, e2, hrr, h1, h6, _⟩
      · exact absurd hR z.1
      · exact z.2.2
      · exact absurd (show 1 ≤ w0 ∧ w0 ≤ 6 by omega) hW
    · rcases h with z | z | ⟨r, wd', ds, as, rest, t0, n, sg, kk, e1, e2, hrr, h1, h6, _⟩
      · exact z.2
      · exact absurd z.1 hR
      · exact absurd (e1 ▸ rule_ok r hrr) hR
    rcases h with z | z | ⟨r, wd', ds, as, rest, t0, n, sg, kk, rfl, rfl, hrr, h1, h6, hc, ha, ht, hlen, ht0, hcan, q⟩
    · exact absurd hR z.1
    · exact absurd hW z.2.1
    have hlen : ds.length ≤ 1000 := by omega
    have el : as.length = ds.length := ht.length
    have s12 : Same H H := Same.refl H
    refine ⟨(show 0 ≤ sizeLine by decide), fun To hTo => ⟨(show 0 ≤ sizeLine by decide), fun Pl hPl => ?_⟩⟩
    have sT : Same H (upd H To (.lst [])) := Same.new' s12 hTo
    have sP : Same H (upd (upd H To (.lst [])) Pl (.lst [])) := Same.new' sT hPl
    have nTP : To ≠ Pl := ne_of_none upd_same hPl
    refine ⟨_, rfl, a, _, rfl, SqL.of (sP _ _ ha), ?_⟩
    refine for_enum (K := K) (a := a) (xs := (as ++ t0 :: rest).map V.ref) (fun i σ H' => i ≤ ds.length ∧ InvPl r wd' a ds H i σ H') ⟨Nat.zero_le _, To, Pl, none, none, none, rfl, sP, by rw [upd_ne nTP]; exact upd_same, ?_, nTP, s12.free hTo⟩ (fun i σ H3 _ ⟨_, _, _, _, _, _, _, s3, _⟩ => SqL.of (s3 _ _ ha)) ?_ ?_
    · show upd (upd H To (.lst [])) Pl (.lst []) Pl = some (.lst ((pl (zeros wd')).map V.int))
      rw [show pl (zeros wd') = [] from plFrom_zeros wd' 0]
      exact upd_same
    · rintro i x σ H3 T3 hx ⟨hil, To, Pl, x5, x6, x7, rfl, s3, hTo, hPl, nTP, hTo0⟩ hT3
      obtain ⟨t, hti, rfl⟩ : ∃ t, (as ++ t0 :: rest)[i]? = some t ∧ x = V.ref t := by
        rw [List.getElem?_map] at hx
        cases e : (as ++ t0 :: rest)[i]? with
        | none => rw [e] at hx; cases hx
        | some t => rw [e] at hx; exact ⟨t, rfl, (Option.some.inj hx).symm⟩
      by_cases hlt : i < ds.length
      · rw [List.getElem?_append_left (by omega)] at hti
        obtain ⟨d, hdi, htd⟩ := Pd.get ht hti
        obtain ⟨k, k', hk, hk'⟩ := cnt_take hc hdi
        obtain ⟨zb, zm, zl⟩ := zeros_ok wd'
        obtain ⟨pb, pll, pm⟩ := run_state hrr h1 h6 (ds.take i) zb zl (by rw [zm]; exact hk)
        generalize hp : (runM r (zeros wd') (ds.take i)).2 = p at *
        have g := good_step (d := d) hrr pb (by omega) (by omega) (by rw [pll, pm]; exact hk')
        have s4 : Same H3 (upd H3 T3 (.tup [.int (i : Nat), .ref t])) := Same.new' (Same.refl _) hT3
        generalize hH4 : upd H3 T3 (.tup [.int (i : Nat), .ref t]) = H4 at s4
        have hT4 : H4 T3 = some (.tup [.int (i : Nat), .ref t]) := by rw [← hH4]; exact upd_same
        refine ⟨T3, _, rfl, SqT.of hT4, rfl, _, _, rfl, _, _, rfl, rfl, ?_⟩
        have hPl4 := s4 _ _ hPl
        have ht4 : H4 t = some (.tup [.str (wd d.1), .int d.2]) := s4 _ _ (s3 _ _ htd)
        have nPt : Pl ≠ t := ne_of hPl4 ht4 (by intro z; cases z)
        have hr4 : HR cc ⟨k0, cc, [t], 0⟩ (CH.of [dT d]) H4 := HR.one ht4 (dT_ro d)
        -- can it be done
        obtain ⟨hC, eC, kC⟩ := isT_some g.can
        have eC : c_can_be_done [.int p.length, .int (many p), .ref 0] (CH.of [dT d]) = some (.bl true, hC) := eC
        refine ⟨_, rfl, _, rfl, Pl, _, rfl, .inl (SqL.of hPl4), _, rfl, sp_keeps (cc := cc) (E := E0) hr4 (.cons (by rw [← pll]; exact rvI _) (.cons (by rw [List.length_map, pl_len]; exact rvI _) (.cons (rvR (n := 0) rfl) .nil))) eC kC fun η5 H5 v5 s5 _ R5 rv5 => ⟨true, rv5, iteF ?_⟩⟩
        have hPl5 := s5 _ _ hPl4
        have ht5 := s5 _ _ ht4
        have hr5 : HR cc ⟨k0, cc, [Pl, t], 0⟩ (CH.of [plL p, dT d]) H5 := HR.two nPt hPl5 ht5 (ints_ro _) (dT_ro d)
        obtain ⟨nA, kA, hA, eA, gA, gL, kkA⟩ := rdTL_some g.after
        have eA : c_after_deed [.str r, .int p.length, .ref 0, .ref 1] (CH.of [plL p, dT d]) = some (.ref nA, hA) := eA
        refine ⟨_, rfl, _, rfl, _, rfl, _, rfl, sp_keeps (cc := cc) (E := E0) hr5 (.cons (rvS r) (.cons (by rw [← pll]; exact rvI _) (.cons (rvR (n := 0) rfl) (.cons (rvR (n := 1) rfl) .nil)))) eA kkA fun η6 H6 v6 s6 S6 R6 rv6 => ?_⟩
        obtain ⟨T6, eT6, rfl⟩ := rv6
        obtain ⟨ys, hT6, rys⟩ := R6.tup gA eT6
        cases rys with
        | cons ry1 rys =>
        cases rys with
        | cons ry2 rys =>
        cases rys
        obtain rfl := (show _ = V.int _ from ry1)
        obtain ⟨Pk, ePk, rfl⟩ := ry2
        obtain ⟨ys2, hPk, rys2⟩ := R6.lst gL ePk
        rw [rv_ints rys2] at hPk
        refine ⟨T6, _, rfl, SqT.of hT6, rfl, _, _, rfl, _, _, rfl, rfl, ?_⟩
        have s36 : Same H3 H6 := (s4.trans s5).trans s6
        have hTo6 := s36 _ _ hTo
        have hTo5 := s5 _ _ (s4 _ _ hTo)
        have nTt : To ≠ t := ne_of hTo5 ht5 (by intro z; cases z)
        have nTk : To ≠ Pk := fun z => by
          have m6 : Pk ∈ η6.as := List.mem_of_getElem? ePk
          by_cases m5 : Pk ∈ ([Pl, t] : List Addr)
          · rw [← z] at m5
            rcases List.mem_cons.mp m5 with e | m5
            · exact nTP e
            · exact nTt (by simpa using m5)
          · have := S6.nw Pk m6 m5
            rw [← z, hTo5] at this
            cases this
        have hi1000 : i < 1000 := Nat.lt_of_lt_of_le (List.getElem?_eq_some_iff.mp hdi).1 hlen
        refine ⟨_, rfl, .inl ⟨rfl, _, SqL.of hTo6⟩, _, rfl, To, _, _, rfl, rfl, hTo6, ?_, ?_⟩
        · rw [List.length_map, runM_len, sizeLine_eq, List.length_take]; omega
        · have e1 := runM_snoc r d (ds.take i) (zeros wd')
          rw [← take_succ' hdi, hp] at e1
          refine ⟨(List.getElem?_eq_some_iff.mp hdi).1, To, Pk, _, _, _, rfl, fun b o e => ?_, ?_, ?_, nTk, hTo0⟩
          · rw [upd_ne (ne_of_none e hTo0)]
            exact s36 _ _ (s3 _ _ e)
          · rw [upd_same, e1, List.map_append]; rfl
          · rw [upd_ne (Ne.symm nTk), e1]; exact hPk

      · have ei : i = ds.length := by omega
        have e0 : t = t0 := by
          rw [ei, ← el, List.getElem?_append_right (Nat.le_refl _), Nat.sub_self] at hti
          exact (Option.some.inj hti).symm
        subst e0
        obtain ⟨zb, zm, zl⟩ := zeros_ok wd'
        obtain ⟨pb, pll, pm⟩ := run_state hrr h1 h6 ds zb zl (by rw [zm]; exact hc)
        rw [ei, List.take_length] at hTo hPl
        generalize hp : (runM r (zeros wd') ds).2 = p at *
        have s4 : Same H3 (upd H3 T3 (.tup [.int (i : Nat), .ref t])) := Same.new' (Same.refl _) hT3
        generalize hH4 : upd H3 T3 (.tup [.int (i : Nat), .ref t]) = H4 at s4
        have hT4 : H4 T3 = some (.tup [.int (i : Nat), .ref t]) := by rw [← hH4]; exact upd_same
        refine ⟨T3, _, rfl, SqT.of hT4, rfl, _, _, rfl, _, _, rfl, rfl, ?_⟩
        have hPl4 := s4 _ _ hPl
        have ht4 := s4 _ _ (s3 _ _ ht0)
        obtain ⟨hC, eC, kC⟩ := can_eq wd' n kk sg
        rw [hcan] at eC
        refine ⟨_, rfl, _, rfl, Pl, _, rfl, .inl (SqL.of hPl4), _, rfl, sp_keeps (cc := cc) (E := E0) (HR.one ht4 (deed_ro sg kk)) (.cons (rvI _) (.cons (by rw [List.length_map, pl_len, pm]; exact rvI _) (.cons (rvR (n := 0) rfl) .nil))) eC kC fun η5 H5 v5 s5 _ R5 rv5 => ⟨false, rv5, ite_of (b := !false) (fun _ => ?_) (fun z => Bool.noConfusion z)⟩⟩
        exact ⟨_, rfl, i, rfl, by omega, fun d hd => ei ▸ q H5 d ((s3.trans s4).trans s5) hd⟩
    · rintro σ H3 ⟨hil, _⟩
      rw [List.length_map, List.length_append, el, List.length_cons] at hil
      omega
end
end CK

/-! what the making of a shelf refuses -/
namespace CK
open PySem L2 PyProof.Rows
def spMakeX (CR CW : Addr) : Sp := fun vs H _ E => ∃ (x : V) (r : Str) (n : Int), vs = [x, .str r, .int n] ∧ ((¬ okRule r ∧ E (.ref CR) none H) ∨ (okRule r ∧ ¬ okWide n ∧ E (.ref CW) none H))
section
variable {P : Program} {w : World} {K : PySem.W.Frag} {mg : Str → Option Value} {base : Heap} {cc : Nat → Addr} {CR CW : Addr}
theorem okx_make {f : Addr} {fd : FuncData} (F : Fun K "__init__" "Shelf.__init__" s_Shelf___init__ f fd) (OR : OwnX P w K mg base 1 "check_rule" ["rule"] (spChk gRule CR)) (OW : OwnX P w K mg base 1 "check_width" ["wide"] (spChk gWide CW)) : FnOk P w K mg base (L2N.CX P w) 2 f fd ["self", "rule", "wide"] (spMakeX CR CW) := by
  refine okN F sc_Shelf___init__ (fun vs H Q E h => ?_) fun cdv A outer s H vs Q E hr h => ?_
  · obtain ⟨x, r, n, rfl, _⟩ := h
    rfl
  · obtain ⟨x, r, n, rfl, h⟩ := h
    refine ⟨_, pss_cons (ps_expr (pe_ownW (L2N.takes_of rfl rfl rfl rfl) OR hr (pa_cons (pv 1) pa_nil))) (pss_cons (ps_expr (pe_ownW (L2N.takes_of rfl rfl rfl rfl) OW hr (pa_cons (pv 2) pa_nil))) pss_never), ?_⟩
    refine ⟨_, rfl, okRule r, rfl, fun hR => ⟨_, rfl, okWide n, rfl, fun hW => ?_, fun hW => ?_⟩, fun hR => ?_⟩
    · exact (h.elim (fun z => z.1 hR) fun z => z.2.1 hW).elim
    · exact h.elim (fun z => absurd hR z.1) fun z => z.2.2
    · exact h.elim (fun z => z.2) fun z => absurd z.1 hR
end
end CK

/-! a key that stands there, or not -/
namespace CK
open PySem L2 PyProof.Rows
theorem ints_flat (ks : List Int) : (ks.map V.int).all flatV = true := by
  rw [List.all_map, List.all_eq_true]
  intro x _
  rfl
theorem in_ints (k : Int) (ks : List Int) : inV (.int k) (ks.map V.int) = true ↔ k ∈ ks := by
  unfold inV
  rw [List.any_map, List.any_eq_true]
  constructor
  · rintro ⟨x, m, e⟩
    have e : (x == k) = true := e
    exact eq_of_beq e ▸ m
  · intro m
    exact ⟨k, m, beq_self_eq_true k⟩
section
variable {P : Program} {w : World} {K : PySem.W.Frag} {mg : Str → Option Value} {base : Heap} {cc : Nat → Addr} {C0 CK : Addr}
def spTakeX (CS CK : Addr) : Sp := fun vs H _ E => ∃ (a b c : Addr) (r p : List Nat) (ks : List Int) (t k : Int), vs = [.ref a, .int k] ∧ Sh CS H a b c r p ks t ∧ k ∉ ks ∧ E (.ref CK) none H
def spPutKX (CS CK : Addr) : Sp := fun vs H _ E => ∃ (a b c : Addr) (r p : List Nat) (ks : List Int) (t k : Int), vs = [.ref a, .int k] ∧ Sh CS H a b c r p ks t ∧ k ∈ ks ∧ E (.ref CK) none H
theorem okx_take {f : Addr} {fd : FuncData} (F : Fun K "take_out" "Shelf.take_out" s_Shelf_take_out f fd) (T : Txt K mg cc) (X : ExS K mg "BadKey" CK) : FnOk P w K mg base (L2N.CX P w) 1 f fd ["self", "key"] (spTakeX (cc 0) CK) := by
  refine okN F sc_Shelf_take_out (fun vs H Q E h => ?_) fun cdv A outer s H vs Q E hr h => ?_
  · obtain ⟨_, _, _, _, _, _, _, _, rfl, _⟩ := h
    rfl
  · obtain ⟨a, b, c, r, p, ks, t, k, rfl, ⟨⟨dx, ho⟩, hk, hp⟩, hn, q⟩ := h
    refine ⟨_, pss_cons (ps_if (pt_cmpR op_notIn_seq (pv 1) (pe_fld (pv 0) rfl) (by with_unfolding_all rfl)) (pss_one (L2N.ps_raise rfl (L2N.takes_of rfl rfl rfl rfl) (L2N.pmk_own PySem.F.excBase_ValueError X.q X.g X.k (raises_own X.b X.t) rfl))) pss_nil) pss_never, ?_⟩
    refine ⟨_, rfl, _, rfl, a, _, dx, _, _, rfl, ho, T.cl, T.f_ranked, rfl, b, _, rfl, .inl (SqL.of hk), rfl, ints_flat ks, _, rfl, ite_of (fun _ => q) fun z => ?_⟩
    rw [if_pos rfl, Bool.not_eq_false'] at z
    exact absurd ((in_ints k ks).mp z) hn
theorem okx_put_key {f : Addr} {fd : FuncData} (F : Fun K "put_in" "Shelf.put_in" s_Shelf_put_in f fd) (T : Txt K mg cc) (X : ExS K mg "BadKey" CK) : FnOk P w K mg base (L2N.CX P w) 1 f fd ["self", "key"] (spPutKX (cc 0) CK) := by
  refine okN F sc_Shelf_put_in (fun vs H Q E h => ?_) fun cdv A outer s H vs Q E hr h => ?_
  · obtain ⟨_, _, _, _, _, _, _, _, rfl, _⟩ := h
    rfl
  · obtain ⟨a, b, c, r, p, ks, t, k, rfl, ⟨⟨dx, ho⟩, hk, hp⟩, hn, q⟩ := h
    refine ⟨_, pss_cons (ps_if (pt_cmpR op_in_seq (pv 1) (pe_fld (pv 0) rfl) (by with_unfolding_all rfl)) (pss_one (L2N.ps_raise rfl (L2N.takes_of rfl rfl rfl rfl) (L2N.pmk_own PySem.F.excBase_ValueError X.q X.g X.k (raises_own X.b X.t) rfl))) pss_nil) pss_never, ?_⟩
    refine ⟨_, rfl, _, rfl, a, _, dx, _, _, rfl, ho, T.cl, T.f_ranked, rfl, b, _, rfl, .inl (SqL.of hk), rfl, ints_flat ks, _, rfl, ite_of (fun _ => q) fun z => ?_⟩
    rw [if_neg (by decide)] at z
    rw [(in_ints k ks).mpr hn] at z
    cases z
end
end CK

/-! a key put in on a full shelf -/
namespace CK
open PySem L2 PyProof.Rows
section
variable {P : Program} {w : World} {K : PySem.W.Frag} {mg : Str → Option Value} {base : Heap} {cc : Nat → Addr} {CD : Addr}
def spPutDX (CS CD : Addr) : Sp := fun vs H _ E => ∃ (a b c : Addr) (r p : List Nat) (ks : List Int) (t k : Int), vs = [.ref a, .int k] ∧ Sh CS H a b c r p ks t ∧ k ∉ ks ∧ ks.length ≤ 6 ∧ p.length ≤ 6 ∧ many p = p.length ∧ Rz H E CD "number" 0
theorem put_full (w r : Int) : canB w w [112, 117, 116] r = false := by
  unfold canB
  simp
theorem okx_put_full {f : Addr} {fd : FuncData} (F : Fun K "put_in" "Shelf.put_in" s_Shelf_put_in f fd) (T : Txt K mg cc) (XD : ExN P w K mg base "BadDeed" "number" CD) (OC : Own P w K mg base cc 1 "can_be_done" ["wide", "many", "deed"] c_can_be_done) : FnOk P w K mg base (L2N.CX P w) 3 f fd ["self", "key"] (spPutDX (cc 0) CD) := by
  refine okN F sc_Shelf_put_in (fun vs H Q E h => ?_) fun cdv A outer s H vs Q E hr h => ?_
  · obtain ⟨_, _, _, _, _, _, _, _, rfl, _⟩ := h
    rfl
  · obtain ⟨a, b, c, r, p, ks, t, k, rfl, ⟨⟨dx, ho⟩, hk, hp⟩, hn, h6, hw6, hm, q⟩ := h
    have nd := sc_Shelf_put_in.nd
    refine ⟨_, pss_cons (ps_if (pt_cmpR op_in_seq (pv 1) (pe_fld (pv 0) rfl) (by with_unfolding_all rfl)) pss_never pss_nil)
      (pss_cons (ps_set (i := 2) nd rfl (Or.inl rfl) (pe_callB call_len_seq (by rfl) T.n_len boot_len (pa_cons (pe_lc (own := [("other", 3)]) (g := gName 3) rfl nd (pi_list (pe_fld (pv 0) rfl)) (blkOk_by (N := ["self", "key", "rank", "other", "deed", "moves"]) (sc := defScope s_Shelf_put_in) (by decide +kernel)) (fun _ _ _ _ _ => pg_name (i := 3) nd rfl (Or.inl rfl)) (fun _ _ _ _ _ => pts_one (pt_cmpR op_lt (pv 3) (pv 1) (nomark _))) (fun _ _ _ _ _ => pv 3)) pa_nil)))
      (pss_cons (ps_set (i := 4) nd rfl (Or.inl rfl) (pe_tup (pa_cons pe_str (pa_cons (pv 2) pa_nil))))
      (pss_cons (ps_if (pt_not (pt_val (pe_own OC (hr.mono (by decide)) (pa_cons (pe_fld (pv 0) rfl) (pa_cons (pe_callB call_len_seq (by rfl) T.n_len boot_len (pa_cons (pe_fld (pv 0) rfl) pa_nil)) (pa_cons (pv 4) pa_nil)))))) (pss_one (L2N.ps_raise rfl (L2N.takes_of rfl rfl rfl rfl) (pmk_num XD (hr.mono (by decide)) (pa_cons pe_int pa_nil) mono_c rfl))) pss_nil) pss_never))), ?_⟩
    refine ⟨_, rfl, _, rfl, a, _, dx, _, _, rfl, ho, T.cl, T.f_ranked, rfl, b, _, rfl, .inl (SqL.of hk), rfl, ints_flat ks, _, rfl, ite_of (fun z => ?_) fun _ => ?_⟩
    · rw [if_neg (by decide)] at z
      exact absurd ((in_ints k ks).mp z) hn
    · refine ⟨_, rfl, a, _, dx, _, _, rfl, ho, T.cl, T.f_ranked, rfl, b, rfl, ⟨_, SqL.of hk⟩, fun D hD => ?_⟩
      refine lc_list (K := K) (a := b) (xs := ks.map V.int) (fun i G => ∃ acc : List V, G = upd H D (.lst acc) ∧ acc.length ≤ i) ⟨[], rfl, Nat.le_refl _⟩ (fun i G _ ⟨acc, e, _⟩ => ?_) (fun i x G hx ⟨acc, e, ha⟩ => ?_) fun G ⟨acc, e, ha⟩ => ?_
      · rw [e]
        exact SqL.of (upd_keep hD hk)
      · have hi : i < ks.length := by have := (List.getElem?_eq_some_iff.mp hx).1; simpa using this
        rw [List.getElem?_map, List.getElem?_eq_getElem hi] at hx
        cases hx
        subst e
        refine ⟨rfl, _, rfl, _, rfl, ?_⟩
        refine ⟨_, _, rfl, rfl, _, rfl, ite_of (fun _ => ⟨_, rfl, acc, upd_same, (show acc.length < sizeLine by rw [sizeLine_eq]; omega), acc ++ [.int ks[i]], upd_upd, by rw [List.length_append]; simp; omega⟩) (fun _ => ⟨acc, rfl, by omega⟩)⟩
      · subst e
        refine ⟨D, _, rfl, .inl (SqL.of upd_same), ?_⟩
        refine ⟨_, rfl, (show 2 ≤ sizeLine by rw [sizeLine_eq]; decide), fun dd hdd => ?_⟩
        have ho1 := upd_keep (v := .tup [.str "put", .int acc.length]) hdd (upd_keep (v := .lst acc) hD ho)
        have hp1 := upd_keep (v := .tup [.str "put", .int acc.length]) hdd (upd_keep (v := .lst acc) hD hp)
        obtain ⟨hC, eC, kC⟩ := can_eq p.length (many p) acc.length [112, 117, 116]
        rw [hm] at eC
        rw [put_full] at eC
        have es : (Tx [112, 117, 116]) = Str.ofString "put" := by decide +kernel
        refine ⟨_, rfl, a, _, dx, _, _, rfl, ho1, T.cl, T.f_wide, rfl, _, rfl, a, _, dx, _, _, rfl, ho1, T.cl, T.f_places, rfl, c, _, rfl, .inl (SqL.of hp1), _, rfl, ?_⟩
        have hL : (List.map V.int (pl p)).length = p.length := by rw [List.length_map, pl_len, hm]
        have hdR : (upd (upd H D (.lst acc)) dd (.tup [.str "put", .int acc.length])) dd = some (.tup [.str (Tx [112, 117, 116]), .int acc.length]) := by rw [es]; exact upd_same
        rw [hL]
        refine sp_keeps (cc := cc) (E := E0) (HR.one hdR (deed_ro [112, 117, 116] acc.length)) (.cons (rvI _) (.cons (rvI _) (.cons (rvR (n := 0) rfl) .nil))) eC kC fun η3 H3 v3 s3 _ R3 rv3 => ⟨false, rv3, ite_of (b := !false) (fun _ => ?_) (fun z => Bool.noConfusion z)⟩
        refine ⟨0, rfl, by decide, fun d hd => q H3 d (fun y o hy => s3 y o (upd_keep hdd (upd_keep hD hy))) hd⟩
end
end CK

/-! the law's judgement of two whole numbers, also where an exception is handled -/
namespace CK
open PySem L2 PyProof.Rows L2H
section
variable {P : Program} {w : World} {K : PySem.W.Frag} {mg : Str → Option Value} {base : Heap} {cc : Nat → Addr}
theorem okH {CX : CXT} {x qual : Str} {st : Stmt} {f : Addr} {fd : FuncData} {N ps : List Str} {k : Nat} {sp : Sp} (D : Fun K x qual st f fd) (S : FnScope N ps (defScope st)) (ln : ∀ us G R U, sp us G R U → us.length = ps.length)
    (bd : ∀ (cv : Value) (B : Around) (out : List Env) (t : Shared) (G : Hp) (us : List V) (R : VK) (U : XK) (p : Addr × Obj), RoomH k (B.deeper (envOfC qual (defScope st) t.heap.objs.size f cv)) → sp us G R U →
      ∃ y, PSs (cxH CX P w K mg base N qual (defScope st) f cv B out t G U p) (defBody st) y ∧ y { nx := fun _ H' => R .non H', rt := R } (L2.start N us) G) : FnH P w K mg base CX (k + 1) f fd ps sp := by
  obtain ⟨c1, c2, c3, c4, c5, c6, c7, c8, c9, rfl, e1, e2⟩ := D.ex
  exact fn_ofH e1 e2 S ln fun B out t G us R U p _ r z => bd c7 B out t G us R U p r z
abbrev s__law_alike : Stmt := top 55
theorem sc__law_alike : FnScope ["_law_found", "_law_due", "_law_k"] ["_law_found", "_law_due"] (defScope s__law_alike) := ⟨rfl, rfl, rfl, by decide +kernel, rfl, by decide +kernel, by decide +kernel⟩
def spAlike : Sp := fun vs H Q _ => ∃ n m : Int, vs = [.int n, .int m] ∧ Q (.bl (decide (n = m))) H
theorem ite_no {b : Bool} {A B : Prop} (h : b = false) (k : B) : if b = true then A else B := by
  rw [if_neg (by rw [h]; decide)]; exact k
theorem ite_yes {b : Bool} {A B : Prop} (h : b = true) (k : A) : if b = true then A else B := by
  rw [if_pos h]; exact k
theorem isi_int (H : Hp) (n : Int) : TyX K H (.int n) (.type "int") := .base (.int n)
theorem okh_alike {f : Addr} {fd : FuncData} (F : Fun K "_law_alike" "_law_alike" s__law_alike f fd) (T : Txt K mg cc) : FnH P w K mg base CX0 1 f fd ["_law_found", "_law_due"] spAlike := by
  refine okH F sc__law_alike (fun vs H Q E h => ?_) fun cdv A outer s H vs Q E p hr h => ?_
  · obtain ⟨n, m, rfl, _⟩ := h
    rfl
  · obtain ⟨n, m, rfl, q⟩ := h
    refine ⟨_, pss_cons (ps_if (pt_cmpR op_isN (pv 1) pe_non (nomark _)) pss_never pss_nil)
      (pss_cons (ps_if (pt_val (pe_callB call_isi (by rfl) T.n_isinstance boot_isinstance (pa_cons (pv 1) (pa_cons (pe_bltn (v := .ty "bool") (by rfl) T.n_bool (by rfl) rfl) pa_nil)))) pss_never pss_nil)
      (pss_cons (ps_if (pt_val (pe_callB call_isi (by rfl) T.n_isinstance boot_isinstance (pa_cons (pv 1) (pa_cons (pe_bltn (v := .ty "int") (by rfl) T.n_int (by rfl) rfl) pa_nil))))
        (pss_one (ps_ret (pe_and (pe_callB call_isi (by rfl) T.n_isinstance boot_isinstance (pa_cons (pv 0) (pa_cons (pe_bltn (v := .ty "int") (by rfl) T.n_int (by rfl) rfl) pa_nil)))
          (pe_and (pe_not (pe_callB call_isi (by rfl) T.n_isinstance boot_isinstance (pa_cons (pv 0) (pa_cons (pe_bltn (v := .ty "bool") (by rfl) T.n_bool (by rfl) rfl) pa_nil)))) (pe_one (pe_cmpR op_eq (pv 0) (pv 1) (nomark _))))))) pss_nil) pss_never)), ?_⟩
    refine ⟨_, rfl, rfl, _, rfl, ite_no (by simp) ?_⟩
    refine ⟨_, rfl, _, _, _, _, false, rfl, .ty "bool", isi_int H m, kit_ty (by decide +kernel), false, rfl, ite_no rfl ?_⟩
    refine ⟨_, rfl, _, _, _, _, true, rfl, .ty "int", isi_int H m, kit_ty (by decide +kernel), true, rfl, ite_yes rfl ?_⟩
    refine ⟨_, rfl, _, _, _, _, true, rfl, .ty "int", isi_int H n, kit_ty (by decide +kernel), true, rfl, ite_yes rfl ?_⟩
    refine ⟨_, rfl, _, _, _, _, false, rfl, .ty "bool", isi_int H n, kit_ty (by decide +kernel), false, rfl, true, rfl, ite_yes rfl ?_⟩
    refine ⟨_, rfl, _, rfl, rfl, ?_⟩
    have e : decide (V.int n = V.int m) = decide (n = m) := by
      by_cases z : n = m
      · subst z; simp
      · simp [z]
    rw [e]
    exact q
end
end CK

/-! the law's judgement of what a work raises -/
namespace CK
open PySem L2 PyProof.Rows L2H
structure OwnH (P : Program) (w : World) (K : PySem.W.Frag) (mg : Str → Option Value) (base : Heap) (k : Nat) (x : Str) (ps : List Str) (sp : Sp) : Prop where
  ex : ∃ f fd, FnH P w K mg base CX0 k f fd ps sp ∧ mg x = some (.ref f) ∧ PySem.W.keepIn K (.ref f) = true ∧ Binds K fd ps []
/-- the six kinds: their classes' names and the law's words -/
def wdR : Nat → Str
  | 0 => "width" | 1 => "rule" | 2 => "pattern" | 3 => "deed" | 4 => "key" | _ => "number"
def wordsV : List V := [.str "width", .str "rule", .str "pattern", .str "deed", .str "key", .str "number"]
def kindsV (i : Nat) : List V := [.bl (i == 0), .bl (i == 1), .bl (i == 2), .bl (i == 3), .bl (i == 4), .bl (i == 5)]
def kindsD (i : Nat) : List PyData := [.bool (i == 0), .bool (i == 1), .bool (i == 2), .bool (i == 3), .bool (i == 4), .bool (i == 5)]
theorem six {p : Nat → Prop} (h : ∀ i : Fin 6, p i) (i : Nat) (hi : i < 6) : p i := h ⟨i, hi⟩
theorem words_kinds (i : Nat) (hi : i < 6) : (wordsV.map fun y => V.bl (decide (V.str (wdR i) = y))) = kindsV i := six (p := fun i => (wordsV.map fun y => V.bl (decide (V.str (wdR i) = y))) = kindsV i) (by decide +kernel) i hi
structure Excs (K : PySem.W.Frag) (mg : Str → Option Value) (CS : Addr) (C : Nat → Addr) : Prop where
  mS : mg "ShelfError" = some (.ref CS)
  m0 : mg "BadWidth" = some (.ref (C 0))
  m1 : mg "BadRule" = some (.ref (C 1))
  m2 : mg "BadPattern" = some (.ref (C 2))
  m3 : mg "BadDeed" = some (.ref (C 3))
  m4 : mg "BadKey" = some (.ref (C 4))
  m5 : mg "BadNumber" = some (.ref (C 5))
  nV : mg "ValueError" = none
  ex : ∀ i, i < 6 → ExcC K (C i)
  em : ∀ i, i < 6 → PySem.W.exmOne K (.ref (C i)) (.ref CS) = some true
  kit : ∀ i j, i < 6 → j < 6 → PySem.W.kitOne K (.ref (C i)) (.ref (C j)) = some (i == j)
  kV : ∀ i, i < 6 → PySem.W.kitOne K (.ref (C i)) (.type "ValueError") = some true
  x2 : XfC K (C 2)
  x3 : XfC K (C 3)
  a2 : PySem.W.findIn K (.ref (C 2)) "at" = some none
  a3 : PySem.W.findIn K (.ref (C 3)) "number" = some none
/-- what the word i and the value v tell of an exception -/
structure Tells (C : Nat → Addr) (i : Nat) (v : Int) (cls : Value) (d : Option Addr) (H : Hp) : Prop where
  c : cls = .ref (C i)
  a : i = 2 → ∃ dd fs, d = some dd ∧ H dd = some (.xd fs) ∧ fs.lookup ("at" : Str) = some (.int v)
  n : i = 3 → ∃ dd fs, d = some dd ∧ H dd = some (.xd fs) ∧ fs.lookup ("number" : Str) = some (.int v)
  d : ∀ dd, d = some dd → ∃ fs, H dd = some (.xd fs)
theorem pss_go {X : Cx} {sts : List Stmt} {pins : List (Addr × Obj)} {s : Shared} {σ : L2.St} {H : Hp} {D : Ends} (I : Inv X pins σ H s) (h : ∃ t, PSs X sts t ∧ t D σ H) : wpAny (model X.prog X.w) X.A (execs sts X.env) (SP X pins D) X.xe s := by
  obtain ⟨t, a, b⟩ := h
  exact a.run pins s σ H D I b
theorem same_upd {H : Hp} {p : Addr} {o : HO} (h : H p = none) : Same H (upd H p o) := fun b u e => upd_keep h e
theorem kinds_dp {K : PySem.W.Frag} {H : Hp} (i : Nat) : DpAll K H (kindsV i) (kindsD i) := .cons (.bl _) (.cons (.bl _) (.cons (.bl _) (.cons (.bl _) (.cons (.bl _) (.cons (.bl _) .nil)))))
theorem kinds_eq (i : Nat) (hi : i < 6) : SeqAt.shaped (.list (kindsD i)) = true ∧ PyData.eqv (.list (kindsD i)) (.list (kindsD i)) = true := six (p := fun i => SeqAt.shaped (.list (kindsD i)) = true ∧ PyData.eqv (.list (kindsD i)) (.list (kindsD i)) = true) (by decide +kernel) i hi
theorem wd_pat (i : Nat) (hi : i < 6) : decide (V.str (wdR i) = V.str "pattern") = (i == 2) := six (p := fun i => decide (V.str (wdR i) = V.str "pattern") = (i == 2)) (by decide +kernel) i hi
theorem wd_deed (i : Nat) (hi : i < 6) : decide (V.str (wdR i) = V.str "deed") = (i == 3) := six (p := fun i => decide (V.str (wdR i) = V.str "deed") = (i == 3)) (by decide +kernel) i hi
theorem Work.imp {P : Program} {w : World} {K : PySem.W.Frag} {mg : Str → Option Value} {base : Heap} {k : Nat} {f : Addr} {H : Hp} {Q Q' : VK} {E E' : XK} (h : Work P w K mg base k f H Q E) (hQ : ∀ v G, Q v G → Q' v G) (hE : ∀ c d G, E c d G → E' c d G) : Work P w K mg base k f H Q' E' := by
  refine ⟨h.1, fun A outer s r e => codeAny_mono (h.2 A outer s r e) fun q s' z => ?_⟩
  cases q with
  | error u =>
    obtain ⟨a, B, G, c, d, e1, e2, e3, e4, e5, e6, e7, e8⟩ := z
    exact ⟨a, B, G, c, d, e1, e2, e3, e4, e5, e6, e7, hE _ _ _ e8⟩
  | ok fl =>
    cases fl with
    | ret u =>
      obtain ⟨v, G, e1, e2, e3, e4, e5, e6⟩ := z
      exact ⟨v, G, e1, e2, e3, e4, e5, hQ _ _ e6⟩
    | next => exact z
    | brk => exact z
    | cont => exact z
section
variable {P : Program} {w : World} {K : PySem.W.Frag} {mg : Str → Option Value} {base : Heap} {cc : Nat → Addr} {CS : Addr} {C : Nat → Addr}
abbrev s__law_refused : Stmt := top 56
abbrev NR : List Str := ["_law_work", "_law_word", "_law_value", "e", "_law_kinds", "_law_words", "_law_one"]
theorem sc__law_refused : FnScope NR ["_law_work", "_law_word", "_law_value"] (defScope s__law_refused) := ⟨rfl, rfl, rfl, by decide +kernel, rfl, by decide +kernel, by decide +kernel⟩
/-- the work f is refused so -/
def spRef (P : Program) (w : World) (K : PySem.W.Frag) (mg : Str → Option Value) (base : Heap) (C : Nat → Addr) (k : Nat) : Sp := fun vs H Q _ => ∃ (f : Addr) (i : Nat) (v : Int), vs = [.ref f, .str (wdR i), .int v] ∧ i < 6 ∧
  Work P w K mg base k f H (fun _ _ => False) fun c d H1 => Tells C i v c d H1 ∧ ∀ H2, Same H1 H2 → Q (.bl true) H2
def tsR (C : Nat → Addr) (a : Addr) (cls : Value) (d : Option Addr) : L2.TS := fun D σ H => ∃ (f : Addr) (i : Nat) (v : Int), i < 6 ∧ σ = [some (.ref f), some (.str (wdR i)), some (.int v), some (.ref a), none, none, none] ∧ Tells C i v cls d H ∧ ∀ H2, Same H H2 → D.rt (.bl true) H2
theorem ok_refused {fA0 : Addr} {fd : FuncData} (F : Fun K "_law_refused" "_law_refused" s__law_refused fA0 fd) (T : Txt K mg cc) (Z : Excs K mg CS C) (OA : OwnH P w K mg base 1 "_law_alike" ["_law_found", "_law_due"] spAlike) : FnOk P w K mg base CX0 6 fA0 fd ["_law_work", "_law_word", "_law_value"] (spRef P w K mg base C 5) := by
  obtain ⟨fA, fdA, FA, mA, kA, bA⟩ := OA.ex
  refine F.ok sc__law_refused (fun vs H Q E h => ?_) fun cdv A outer s H vs Q E hr h => ?_
  · obtain ⟨f, i, v, rfl, _⟩ := h
    rfl
  · obtain ⟨f, i, v, rfl, hi, hw⟩ := h
    have nd := sc__law_refused.nd
    refine ⟨_, pss_cons (L2N.ps_try_as (i := 3) (Wout := fun _ _ _ _ => False) (ts := tsR C) (tb := fun W => tSeq (tDrop (tWork (cxOf CX0 P w K mg base NR "_law_refused" (defScope s__law_refused) fA0 cdv A outer s H E) 5 0 W)) tNext) rfl rfl nd rfl rfl (c := .ref CS) ⟨rfl, by decide, .inl Z.mS⟩ (fun _ _ ⟨_, _, _, _, _, _, _, _, _, _, _, _, _, _, _, _, z⟩ => z.elim) (fun W pn xe tk po => pss_cons (ps_expr (pe_work tk hr rfl (Or.inl rfl))) pss_nil) (fun a oe cls d pn hz hf => ?_)) (pss_one (ps_ret pe_bl)), ?_⟩
    · refine ⟨fun pins s1 σ H1 D I h => ?_⟩
      obtain ⟨f1, i, v, hi, rfl, tl, q⟩ := h
      obtain rfl := tl.c
      have hrA : RoomH 1 ((cxOf CX0 P w K mg base NR "_law_refused" (defScope s__law_refused) fA0 cdv A outer s H E).suite a ((a, oe) :: pn)).A := ⟨(hr.mono (show 1 ≤ 5 by decide)).dp, (hr.mono (show 1 ≤ 5 by decide)).un⟩
      have hot : HotC ((cxOf CX0 P w K mg base NR "_law_refused" (defScope s__law_refused) fA0 cdv A outer s H E).suite a ((a, oe) :: pn)) := by
        obtain ⟨vs, hd⟩ := hf
        exact ⟨(a, oe), ⟨rfl, vs, hd, hz.2.2 vs hd⟩, List.mem_cons_self⟩
      have hIs : CallR ((cxOf CX0 P w K mg base NR "_law_refused" (defScope s__law_refused) fA0 cdv A outer s H E).suite a ((a, oe) :: pn)) (.builtin "isinstance") (rIsO K (C i) a d) := call_isO (Z.ex i hi) hz hf
      have hu : ((cxOf CX0 P w K mg base NR "_law_refused" (defScope s__law_refused) fA0 cdv A outer s H E).suite a ((a, oe) :: pn)).A.units + 64 < cLine := by
        have := hrA.un
        omega
      refine pss_go I ⟨_, (pss_cons (ps_set (i := 4) nd rfl (Or.inl rfl) (pe_lst (pa_cons (pe_callB hIs (by rfl) T.n_isinstance boot_isinstance (pa_cons (pv 3) (pa_cons (pe_glob (v := .ref (C 0)) (by rfl) Z.m0 rfl) pa_nil))) (pa_cons (pe_callB hIs (by rfl) T.n_isinstance boot_isinstance (pa_cons (pv 3) (pa_cons (pe_glob (v := .ref (C 1)) (by rfl) Z.m1 rfl) pa_nil))) (pa_cons (pe_callB hIs (by rfl) T.n_isinstance boot_isinstance (pa_cons (pv 3) (pa_cons (pe_glob (v := .ref (C 2)) (by rfl) Z.m2 rfl) pa_nil))) (pa_cons (pe_callB hIs (by rfl) T.n_isinstance boot_isinstance (pa_cons (pv 3) (pa_cons (pe_glob (v := .ref (C 3)) (by rfl) Z.m3 rfl) pa_nil))) pa_nil))))))
        (pss_cons (ps_set (i := 4) nd rfl (Or.inl rfl) (pe_op op_cat (pv 4) (pe_lst (pa_cons (pe_callB hIs (by rfl) T.n_isinstance boot_isinstance (pa_cons (pv 3) (pa_cons (pe_glob (v := .ref (C 4)) (by rfl) Z.m4 rfl) pa_nil))) (pa_cons (pe_callB hIs (by rfl) T.n_isinstance boot_isinstance (pa_cons (pv 3) (pa_cons (pe_glob (v := .ref (C 5)) (by rfl) Z.m5 rfl) pa_nil))) pa_nil)))))
        (pss_cons (ps_set (i := 5) nd rfl (Or.inl rfl) (pe_lst (pa_cons pe_str (pa_cons pe_str (pa_cons pe_str (pa_cons pe_str (pa_cons pe_str (pa_cons pe_str pa_nil))))))))
        (pss_cons (ps_if (PW.pt (pw_or (pt_not (pt_val (pe_callB hIs (by rfl) T.n_isinstance boot_isinstance (pa_cons (pv 3) (pa_cons (pe_bltn (v := .ty "ValueError") (by rfl) Z.nV (by rfl) rfl) pa_nil))))) (pw_or1 (pt_cmpR (op_neD hu) (pv 4) (pe_lcHot (own := [("_law_one", 6)]) (g := gName 6) hot nd (pv 5) (blkOk_by (N := NR) (sc := defScope s__law_refused) (by decide +kernel)) (fun _ _ _ _ _ => pg_name (i := 6) nd rfl (Or.inl rfl)) (fun _ _ _ _ _ => pe_cmpR op_eq (pv 1) (pv 6) (nomark _))) (by with_unfolding_all rfl))))) (pss_one (ps_ret pe_bl)) pss_nil)
        (pss_cons (ps_if (pt_cmpR op_eq (pv 1) pe_str (nomark _)) (pss_one (ps_ret (pe_callH (E := fun _ => E0) FA hrA hot (by rfl) mA kA bA (fun σ _ _ _ _ _ _ h => h.elim) (pa_cons (pe_xf Z.x2 Z.a2 hz.zc hf (pv 3)) (pa_cons (pv 2) pa_nil))))) pss_nil)
        (pss_one (ps_ret (pe_or (pe_cmpR op_ne (pv 1) pe_str (nomark _)) (pe_one (pe_callH (E := fun _ => E0) FA hrA hot (by rfl) mA kA bA (fun σ _ _ _ _ _ _ h => h.elim) (pa_cons (pe_xf Z.x3 Z.a3 hz.zc hf (pv 3)) (pa_cons (pv 2) pa_nil)))))))))))), ?_⟩
      refine ⟨_, rfl, _, _, _, rfl, fun _ r => r, Z.kit i 0 hi (by decide), tl.d, _, rfl, _, _, _, rfl, fun _ r => r, Z.kit i 1 hi (by decide), tl.d, _, rfl, _, _, _, rfl, fun _ r => r, Z.kit i 2 hi (by decide), tl.d, _, rfl, _, _, _, rfl, fun _ r => r, Z.kit i 3 hi (by decide), tl.d, (show 4 ≤ sizeLine by rw [sizeLine_eq]; decide), fun l1 n1 => ?_⟩
      have s1 := same_upd (o := .lst [.bl (i == 0), .bl (i == 1), .bl (i == 2), .bl (i == 3)]) n1
      have d1 : ∀ dd, d = some dd → ∃ fs, (upd H1 l1 (.lst [.bl (i == 0), .bl (i == 1), .bl (i == 2), .bl (i == 3)])) dd = some (.xd fs) := fun dd e => by
        obtain ⟨fs, q⟩ := tl.d dd e
        exact ⟨fs, s1 _ _ q⟩
      refine ⟨_, rfl, _, rfl, _, _, _, rfl, fun _ r => r, Z.kit i 4 hi (by decide), d1, _, rfl, _, _, _, rfl, fun _ r => r, Z.kit i 5 hi (by decide), d1, (show 2 ≤ sizeLine by rw [sizeLine_eq]; decide), fun l2 n2 => ?_⟩
      have s2 := s1.trans (same_upd (o := .lst [.bl (i == 4), .bl (i == 5)]) n2)
      refine ⟨l1, l2, _, _, rfl, rfl, upd_keep n2 upd_same, upd_same, (show 6 ≤ sizeLine by rw [sizeLine_eq]; decide), fun l3 n3 => ?_⟩
      have s3 := s2.trans (same_upd (o := .lst (kindsV i)) n3)
      refine ⟨(show 6 ≤ sizeLine by rw [sizeLine_eq]; decide), fun l4 n4 => ?_⟩
      have s4 := s3.trans (same_upd (o := .lst wordsV) n4)
      have d4 : ∀ dd, d = some dd → ∃ fs, (upd (upd (upd (upd H1 l1 (.lst [.bl (i == 0), .bl (i == 1), .bl (i == 2), .bl (i == 3)])) l2 (.lst [.bl (i == 4), .bl (i == 5)])) l3 (.lst (kindsV i))) l4 (.lst wordsV)) dd = some (.xd fs) := fun dd e => by
        obtain ⟨fs, q⟩ := tl.d dd e
        exact ⟨fs, s4 _ _ q⟩
      refine ⟨_, rfl, _, _, _, rfl, fun _ r => r, Z.kV i hi, d4, _, rfl, ite_no rfl ?_⟩
      refine ⟨_, rfl, _, rfl, l4, wordsV, fun y => .bl (decide (V.str (wdR i) = y)), rfl, upd_same, (show 6 < sizeLine by rw [sizeLine_eq]; decide), fun l5 n5 => ⟨fun k y G hy eG => ?_, ?_⟩⟩
      · refine ⟨rfl, rfl, _, rfl, _, rfl, ?_, rfl, rfl⟩
        have hm : y ∈ wordsV := List.mem_of_getElem? hy
        simp only [wordsV, List.mem_cons, List.not_mem_nil, or_false] at hm
        rcases hm with rfl | rfl | rfl | rfl | rfl | rfl <;> rfl
      · have s5 := s4.trans (same_upd (o := .lst (wordsV.map fun y => V.bl (decide (V.str (wdR i) = y)))) n5)
        refine ⟨.list (kindsD i), .list (kindsD i), .lst (SqL.of (upd_keep n5 (upd_keep n4 upd_same))) (kinds_dp i), .lst (SqL.of (by rw [← words_kinds i hi]; exact upd_same)) (kinds_dp i), (kinds_eq i hi).1, (kinds_eq i hi).1, _, rfl, ite_no (by rw [(kinds_eq i hi).2]; rfl) ?_⟩
        refine ⟨_, rfl, rfl, _, rfl, ?_⟩
        rw [wd_pat i hi]
        refine ite_of (fun e2 => ?_) fun e2 => ?_
        · obtain ⟨dd, fs, ed, hx, lk⟩ := tl.a (eq_of_beq e2)
          refine ⟨_, rfl, rfl, (by rw [eq_of_beq e2]), dd, fs, .int v, ed, s5 _ _ hx, lk, _, rfl, v, v, rfl, ?_⟩
          rw [decide_eq_true rfl]
          exact q _ s5
        · refine ⟨_, rfl, rfl, _, rfl, ?_⟩
          rw [wd_deed i hi]
          refine ite_of (fun e3 => q _ s5) fun e3 => ?_
          have e3 : (i == 3) = true := by
            cases z : (i == 3) with
            | true => rfl
            | false => rw [z] at e3; cases e3
          obtain ⟨dd, fs, ed, hx, lk⟩ := tl.n (eq_of_beq e3)
          refine ⟨_, rfl, rfl, (by rw [eq_of_beq e3]), dd, fs, .int v, ed, s5 _ _ hx, lk, _, rfl, v, v, rfl, ?_⟩
          rw [decide_eq_true rfl]
          exact q _ s5
    · refine ⟨f, rfl, hw.imp (fun v G z => z.elim) fun c d G ⟨tl, q⟩ => ⟨true, by rw [tl.c]; exact Z.em i hi, fun _ a na => ⟨f, i, v, hi, rfl, tl, q⟩, fun z => by cases z⟩⟩
end
end CK

/-! the law's works -/
namespace CK
open PySem L2 PyProof.Rows LamX NdefX
def nmL : Nat → Nat → Str := fun l _ => if l ≤ 395 then "_law_shelf.<locals>.<lambda>" else if l ≤ 402 then "_law_works.<locals>.<lambda>" else if l ≤ 412 then "_law_is_found.<locals>.<lambda>" else "law.<locals>.<lambda>"
def lmOk (e : Expr) (st : Stmt) : Prop := ∀ y ∈ (lamS e).names, y.2 = .free → (defScope st).names.lookup y.1 = some .cell ∨ (defScope st).names.lookup y.1 = some .free
instance {e : Expr} {st : Stmt} : Decidable (lmOk e st) := by unfold lmOk; infer_instance
abbrev s__law_works : Stmt := top 68
theorem sc__law_works : FnScope ["_law_rule_here", "_law_wide", "_law_works_here"] ["_law_rule_here", "_law_wide"] (defScope s__law_works) := ⟨rfl, rfl, rfl, by decide +kernel, rfl, by decide +kernel, by decide +kernel⟩
/-- the lambda of a row -/
def lamIn : Stmt → Expr
  | .Assign _ (.List (e :: _) _) _ => e
  | .Expr (.Call _ (e :: _) _ _) _ => e
  | _ => .Constant .none 0 default
def lw (j : Nat) : Expr := match (defBody s__law_works)[j]? with
  | some st => lamIn st
  | none => .Constant .none 0 default
abbrev WN : List Str := ["_law_rule_here", "_law_wide"]
/-- what is known of the table behind a row -/
structure Grown (TT : List NTab) (H H' : Hp) : Prop where
  e : ExtN H H'
  n : ∀ b, H' b = none → H b = none
  t : TabsN TT H'
theorem Grown.refl {TT : List NTab} {H : Hp} (t : TabsN TT H) : Grown TT H H := ⟨.refl H, fun _ h => h, t⟩
theorem Grown.same {TT : List NTab} {H H1 H2 : Hp} (g : Grown TT H H1) (s : Same H1 H2) : Grown TT H H2 := ⟨g.e.trans (.of s), fun b h => g.n b (none_of (s b) h), g.t.ext s⟩
theorem Grown.trans {TT : List NTab} {H H1 H2 : Hp} (g : Grown TT H H1) (s : Grown TT H1 H2) : Grown TT H H2 := ⟨g.e.trans s.e, fun b h => g.n b (s.n b h), s.t⟩
theorem tabs_up {TT : List NTab} {H : Hp} {a : Addr} {l l' : List V} (t : TabsN TT H) (ha : H a = some (.lst l)) : TabsN TT (upd H a (.lst l')) := fun p hp => by
  obtain ⟨ps, h1, h2, h3⟩ := t p hp
  have n1 : p.1 ≠ a := fun z => by rw [z, ha] at h1; cases h1
  refine ⟨ps, by rw [upd_ne n1]; exact h1, h2, fun pos cv hc => ?_⟩
  obtain ⟨c, e, q⟩ := h3 pos cv hc
  have n2 : c ≠ a := fun z => by rw [z, ha] at q; unfold CodeO at q; cases q
  exact ⟨c, e, by rw [upd_ne n2]; exact q⟩
theorem Grown.up {TT : List NTab} {H G : Hp} {L : Addr} {xs ys : List V} (g : Grown TT H G) (n : H L = none) (hL : G L = some (.lst xs)) : Grown TT H (upd G L (.lst ys)) := by
  refine ⟨fun b o q nt => ?_, fun b q => ?_, tabs_up g.t hL⟩
  · rw [upd_ne (ne_of_none q n)]; exact g.e b o q nt
  · exact g.n b (upd_none q)
def spWorks (TT : List NTab) : Sp := fun vs H Q _ => ∃ (r : Str) (n : Int), vs = [.str r, .int n] ∧ TabsN TT H ∧ ∀ H' L (fs : List Addr), Grown TT H H' → H L = none → H' L = some (.lst (fs.map V.ref)) → fs.length = 5 → (∀ j f, fs[j]? = some f → LamK H' f (lw j) WN [some (.str r), some (.int n)]) → Q (.ref L) H'
section
variable {P : Program} {w : World} {K : PySem.W.Frag} {mg : Str → Option Value} {base : Heap} {cc : Nat → Addr} {TT : List NTab}
theorem ok_works {c Pt : Addr} {f : Addr} {fd : FuncData} (F : FunV K "_law_works" "_law_works" s__law_works (.ref c) f fd) (TB : TabB base mg c Pt) (hm : (Pt, nmL) ∈ TT) (hu : ∀ p ∈ TT, p.2 = nmL) : FnOk P w K mg base CX0 1 f fd ["_law_rule_here", "_law_wide"] (spWorks TT) := by
  have hu' : ∀ p ∈ TT, p.1 = Pt → p.2 = nmL := fun p h _ => hu p h
  refine fn_plus (i := 2) (init := (defBody s__law_works).dropLast) F sc__law_works (fun vs H Q E h => ?_) rfl rfl (Or.inl rfl) fun A outer s H vs Q E hr h => ?_
  · obtain ⟨r, n, rfl, _⟩ := h
    rfl
  · obtain ⟨r, n, rfl, hT, k⟩ := h
    have nd := sc__law_works.nd
    refine ⟨_, (pss_cons (ps_set (i := 2) nd rfl (Or.inl rfl) (pe_lst (pa_cons (pe_lm (T := TT) (nm := nmL) TB rfl hm rfl hu' (show lmOk (lw 0) s__law_works by decide +kernel) rfl) pa_nil)))
      (pss_cons (ps_expr (pe_bm PySem.F.plainAttrs_list PySem.F.slot_list_append PySem.F.type_list_append mt_append (pv 2) (pa_cons (pe_lm (T := TT) (nm := nmL) TB rfl hm rfl hu' (show lmOk (lw 1) s__law_works by decide +kernel) rfl) pa_nil)))
      (pss_cons (ps_expr (pe_bm PySem.F.plainAttrs_list PySem.F.slot_list_append PySem.F.type_list_append mt_append (pv 2) (pa_cons (pe_lm (T := TT) (nm := nmL) TB rfl hm rfl hu' (show lmOk (lw 2) s__law_works by decide +kernel) rfl) pa_nil)))
      (pss_cons (ps_expr (pe_bm PySem.F.plainAttrs_list PySem.F.slot_list_append PySem.F.type_list_append mt_append (pv 2) (pa_cons (pe_lm (T := TT) (nm := nmL) TB rfl hm rfl hu' (show lmOk (lw 3) s__law_works by decide +kernel) rfl) pa_nil)))
      (pss_one (ps_expr (pe_bm PySem.F.plainAttrs_list PySem.F.slot_list_append PySem.F.type_list_append mt_append (pv 2) (pa_cons (pe_lm (T := TT) (nm := nmL) TB rfl hm rfl hu' (show lmOk (lw 4) s__law_works by decide +kernel) rfl) pa_nil)))))))), ?_⟩
    refine ⟨hT, fun f0 c0 H0 e0 n0 t0 z0 l0 k0 => ⟨(show 1 ≤ sizeLine by rw [sizeLine_eq]; decide), fun L hL => ?_⟩⟩
    have a0 : LmAt _ H0 f0 (lw 0) := ⟨_, l0, k0, rfl, rfl, rfl, rfl⟩
    have g0 : Grown TT H H0 := ⟨e0, n0, t0⟩
    have nL : H L = none := n0 L hL
    have g1 := g0.same (same_upd (o := .lst [.ref f0]) hL)
    have b0 := a0.ext (.of (same_upd (o := .lst [.ref f0]) hL))
    have hL1 : (upd H0 L (.lst [.ref f0])) L = some (.lst [.ref f0]) := upd_same
    generalize upd H0 L (.lst [.ref f0]) = G1 at *
    clear l0 k0 a0
    refine ⟨_, rfl, .inl ⟨rfl, _, SqL.of hL1⟩, g1.t, fun f1 c1 H1 e1 n1 t1 z1 l1 k1 => ⟨L, _, _, rfl, rfl, e1 _ _ hL1 (fun _ z => by cases z), (show 1 < sizeLine by rw [sizeLine_eq]; decide), ?_⟩⟩
    have hx1 := e1 _ _ hL1 (fun _ z => by cases z)
    have a1 : LmAt _ H1 f1 (lw 1) := ⟨_, l1, k1, rfl, rfl, rfl, rfl⟩
    have b1 := a1.up (o := .lst [.ref f0, .ref f1]) hx1
    have b0 := (b0.ext e1).up (o := .lst [.ref f0, .ref f1]) hx1
    have g2 := (g1.trans ⟨e1, n1, t1⟩).up (ys := [.ref f0, .ref f1]) nL hx1
    have hL2 : (upd H1 L (.lst [.ref f0, .ref f1])) L = some (.lst [.ref f0, .ref f1]) := upd_same
    generalize hG2 : upd H1 L (.lst [.ref f0, .ref f1]) = G2 at *
    rw [show upd H1 L (.lst ([.ref f0] ++ [.ref f1])) = G2 from hG2]
    clear l1 k1 a1 hG2
    refine ⟨_, rfl, .inl ⟨rfl, _, SqL.of hL2⟩, g2.t, fun f2 c2 H2 e2 n2 t2 z2 l2 k2 => ⟨L, _, _, rfl, rfl, e2 _ _ hL2 (fun _ z => by cases z), (show 2 < sizeLine by rw [sizeLine_eq]; decide), ?_⟩⟩
    have hx2 := e2 _ _ hL2 (fun _ z => by cases z)
    have a2 : LmAt _ H2 f2 (lw 2) := ⟨_, l2, k2, rfl, rfl, rfl, rfl⟩
    have b2 := a2.up (o := .lst [.ref f0, .ref f1, .ref f2]) hx2
    have b0 := (b0.ext e2).up (o := .lst [.ref f0, .ref f1, .ref f2]) hx2
    have b1 := (b1.ext e2).up (o := .lst [.ref f0, .ref f1, .ref f2]) hx2
    have g3 := (g2.trans ⟨e2, n2, t2⟩).up (ys := [.ref f0, .ref f1, .ref f2]) nL hx2
    have hL3 : (upd H2 L (.lst [.ref f0, .ref f1, .ref f2])) L = some (.lst [.ref f0, .ref f1, .ref f2]) := upd_same
    generalize hG3 : upd H2 L (.lst [.ref f0, .ref f1, .ref f2]) = G3 at *
    rw [show upd H2 L (.lst ([.ref f0, .ref f1] ++ [.ref f2])) = G3 from hG3]
    clear l2 k2 a2 hG3
    refine ⟨_, rfl, .inl ⟨rfl, _, SqL.of hL3⟩, g3.t, fun f3 c3 H3 e3 n3 t3 z3 l3 k3 => ⟨L, _, _, rfl, rfl, e3 _ _ hL3 (fun _ z => by cases z), (show 3 < sizeLine by rw [sizeLine_eq]; decide), ?_⟩⟩
    have hx3 := e3 _ _ hL3 (fun _ z => by cases z)
    have a3 : LmAt _ H3 f3 (lw 3) := ⟨_, l3, k3, rfl, rfl, rfl, rfl⟩
    have b3 := a3.up (o := .lst [.ref f0, .ref f1, .ref f2, .ref f3]) hx3
    have b0 := (b0.ext e3).up (o := .lst [.ref f0, .ref f1, .ref f2, .ref f3]) hx3
    have b1 := (b1.ext e3).up (o := .lst [.ref f0, .ref f1, .ref f2, .ref f3]) hx3
    have b2 := (b2.ext e3).up (o := .lst [.ref f0, .ref f1, .ref f2, .ref f3]) hx3
    have g4 := (g3.trans ⟨e3, n3, t3⟩).up (ys := [.ref f0, .ref f1, .ref f2, .ref f3]) nL hx3
    have hL4 : (upd H3 L (.lst [.ref f0, .ref f1, .ref f2, .ref f3])) L = some (.lst [.ref f0, .ref f1, .ref f2, .ref f3]) := upd_same
    generalize hG4 : upd H3 L (.lst [.ref f0, .ref f1, .ref f2, .ref f3]) = G4 at *
    rw [show upd H3 L (.lst ([.ref f0, .ref f1, .ref f2] ++ [.ref f3])) = G4 from hG4]
    clear l3 k3 a3 hG4
    refine ⟨_, rfl, .inl ⟨rfl, _, SqL.of hL4⟩, g4.t, fun f4 c4 H4 e4 n4 t4 z4 l4 k4 => ⟨L, _, _, rfl, rfl, e4 _ _ hL4 (fun _ z => by cases z), (show 4 < sizeLine by rw [sizeLine_eq]; decide), ?_⟩⟩
    have hx4 := e4 _ _ hL4 (fun _ z => by cases z)
    have a4 : LmAt _ H4 f4 (lw 4) := ⟨_, l4, k4, rfl, rfl, rfl, rfl⟩
    have b4 := a4.up (o := .lst [.ref f0, .ref f1, .ref f2, .ref f3, .ref f4]) hx4
    have b0 := (b0.ext e4).up (o := .lst [.ref f0, .ref f1, .ref f2, .ref f3, .ref f4]) hx4
    have b1 := (b1.ext e4).up (o := .lst [.ref f0, .ref f1, .ref f2, .ref f3, .ref f4]) hx4
    have b2 := (b2.ext e4).up (o := .lst [.ref f0, .ref f1, .ref f2, .ref f3, .ref f4]) hx4
    have b3 := (b3.ext e4).up (o := .lst [.ref f0, .ref f1, .ref f2, .ref f3, .ref f4]) hx4
    have g5 := (g4.trans ⟨e4, n4, t4⟩).up (ys := [.ref f0, .ref f1, .ref f2, .ref f3, .ref f4]) nL hx4
    have hL5 : (upd H4 L (.lst [.ref f0, .ref f1, .ref f2, .ref f3, .ref f4])) L = some (.lst [.ref f0, .ref f1, .ref f2, .ref f3, .ref f4]) := upd_same
    refine ⟨_, rfl, fun G P0 => k G L [f0, f1, f2, f3, f4] (g5.same P0.same) nL (P0.same _ _ hL5) rfl fun j f hj => ?_⟩
    match j, hj with
    | 0, hj => cases hj; exact b0.known (js := [0, 1]) (fr := WN) P0.nox (show lmOk (lw 0) s__law_works by decide +kernel) (by decide +kernel) rfl
    | 1, hj => cases hj; exact b1.known (js := [0, 1]) (fr := WN) P0.nox (show lmOk (lw 1) s__law_works by decide +kernel) (by decide +kernel) rfl
    | 2, hj => cases hj; exact b2.known (js := [0, 1]) (fr := WN) P0.nox (show lmOk (lw 2) s__law_works by decide +kernel) (by decide +kernel) rfl
    | 3, hj => cases hj; exact b3.known (js := [0, 1]) (fr := WN) P0.nox (show lmOk (lw 3) s__law_works by decide +kernel) (by decide +kernel) rfl
    | 4, hj => cases hj; exact b4.known (js := [0, 1]) (fr := WN) P0.nox (show lmOk (lw 4) s__law_works by decide +kernel) (by decide +kernel) rfl
    | j + 5, hj => simp at hj
end
end CK

/-! what the law's works raise -/
namespace CK
open PySem L2 PyProof.Rows LamX NdefX
section
variable {P : Program} {w : World} {K : PySem.W.Frag} {mg : Str → Option Value} {base : Heap} {cc : Nat → Addr} {C : Nat → Addr}
/-- what the works call -/
structure Xs (P : Program) (w : World) (K : PySem.W.Frag) (mg : Str → Option Value) (base : Heap) (cc : Nat → Addr) (C : Nat → Addr) : Prop where
  play : OwnX P w K mg base 4 "played" ["rule", "wide", "deeds"] (spPlayX (C 1) (C 0) (C 3))
  worst : OwnX P w K mg base 2 "worst" ["rule", "wide"] (spRW (C 1) (C 0))
  purse : OwnX P w K mg base 2 "purse" ["rule", "wide"] (spRW (C 1) (C 0))
  shows : OwnX P w K mg base 2 "shows" ["rule", "wide", "moves", "deeds", "told"] (spShowsX (C 1) (C 0) (C 5))
  done : OwnX P w K mg base 4 "done" ["rule", "pattern", "deed"] (spDoneX (C 1) (C 2) (C 3))
  few : OwnX P w K mg base 4 "fewest" ["wide", "deeds"] (spFewX (C 0) (C 3))
  make : ∃ fI fd, Mk K (cc 0) fI ∧ FnOk P w K mg base (L2N.CX P w) 2 fI fd ["self", "rule", "wide"] (spMakeX (C 1) (C 0)) ∧ mg "Shelf" = some (.ref (cc 0)) ∧ Binds K fd ["self", "rule", "wide"] []
  put : ∃ f fd, Meth K (cc 0) "put_in" f ∧ FnOk P w K mg base (L2N.CX P w) 1 f fd ["self", "key"] (spPutKX (cc 0) (C 4)) ∧ FnOk P w K mg base (L2N.CX P w) 3 f fd ["self", "key"] (spPutDX (cc 0) (C 3)) ∧ Binds K fd ["self", "key"] []
  take : ∃ f fd, Meth K (cc 0) "take_out" f ∧ FnOk P w K mg base (L2N.CX P w) 1 f fd ["self", "key"] (spTakeX (cc 0) (C 4)) ∧ Binds K fd ["self", "key"] []
/-- the work is refused as word i and value v ask; what was there is there -/
def WkOk (P : Program) (w : World) (K : PySem.W.Frag) (mg : Str → Option Value) (base : Heap) (C : Nat → Addr) (i : Nat) (v : Int) (f : Addr) (G : Hp) : Prop :=
  ∀ R : Hp → Prop, (∀ H2, Same G H2 → R H2) → Work P w K mg base 5 f G (fun _ _ => False) fun c d H1 => Tells C i v c d H1 ∧ ∀ H2, Same H1 H2 → R H2
def wkE (C : Nat → Addr) (i : Nat) (v : Int) (R : Hp → Prop) : XK := fun c d H1 => Tells C i v c d H1 ∧ ∀ H2, Same H1 H2 → R H2
theorem same_rs {cs : List Addr} {G G' : Hp} (s : Same (ctH cs G) G') : Same G (rsH cs G G') := fun b o q => by
  by_cases m : b ∈ cs
  · rw [rsH_in m]; exact q
  · rw [rsH_out m]; exact s b o (by rw [ctH_out m]; exact q)
theorem end_none {cs : List Addr} {G G' : Hp} {i : Nat} {v : Int} {R : Hp → Prop} (hi : i ≠ 2 ∧ i ≠ 3) (hR : ∀ H2, Same G H2 → R H2) (s : Same (ctH cs G) G') : bkE cs G (wkE C i v R) (.ref (C i)) none G' := fun _ =>
  ⟨⟨rfl, fun z => absurd z hi.1, fun z => absurd z hi.2, fun dd z => by cases z⟩, fun H2 s2 => hR H2 ((same_rs s).trans s2)⟩
theorem end_num {cs : List Addr} {G G' : Hp} {i n : Nat} {fl : Str} {d : Addr} {R : Hp → Prop} (hi : (i = 2 ∧ fl = "at") ∨ (i = 3 ∧ fl = "number")) (hR : ∀ H2, Same G H2 → R H2) (s : Same (ctH cs G) G') (hd : G' d = none) : bkE cs G (wkE C i n R) (.ref (C i)) (some d) (upd G' d (.xd [(fl, .int n)])) := fun nn => by
  have hm : d ∉ cs := fun m => by
    have z := nn d m
    rw [upd_same] at z; cases z
  have he : rsH cs G (upd G' d (.xd [(fl, .int n)])) d = some (.xd [(fl, .int n)]) := by rw [rsH_out hm, upd_same]
  have lk : ([(fl, V.int n)] : List (Str × V)).lookup fl = some (.int n) := by simp
  refine ⟨⟨rfl, fun z => ?_, fun z => ?_, fun dd z => by cases z; exact ⟨_, he⟩⟩, fun H2 s2 => hR H2 ((same_rs (s.trans (same_upd hd))).trans s2)⟩
  · rcases hi with ⟨_, rfl⟩ | ⟨z', _⟩
    · exact ⟨d, _, rfl, he, lk⟩
    · rw [z] at z'; cases z'
  · rcases hi with ⟨z', _⟩ | ⟨_, rfl⟩
    · rw [z] at z'; cases z'
    · exact ⟨d, _, rfl, he, lk⟩
/-- the law's own use of it -/
theorem ref_use {X : Cx} {σ : L2.St} {H G : Hp} {f : Addr} {i : Nat} {v : Int} {Q : VK} (P0 : Plus X σ H G) (hi : i < 6) (hw : WkOk P w K mg base C i v f G) (hQ : ∀ H3, Same H H3 → Q (.bl true) H3) :
    spRef P w K mg base C 5 [.ref f, .str (wdR i), .int v] G (fun u H2 => (∀ c ∈ capC X.env.cells, H2 c = G c) ∧ Q u (ctH (capC X.env.cells) H2)) E0 := by
  refine ⟨f, i, v, rfl, hi, hw (fun H2 => (∀ c ∈ capC X.env.cells, H2 c = G c) ∧ Q (.bl true) (ctH (capC X.env.cells) H2)) fun H2 s => ⟨fun c m => ?_, hQ _ fun b o q => ?_⟩⟩
  · obtain ⟨y, e⟩ := capC_mem.mp m
    obtain ⟨o, u, q, _⟩ := P0.at' y c e
    rw [s _ _ q, q]
  · have m : b ∉ capC X.env.cells := fun m => by rw [P0.no b m] at q; cases q
    rw [ctH_out m]
    exact s _ _ (P0.same _ _ q)
theorem sc_lw (j : Nat) (h : j < 5) : NScope WN [] WN (lamS (lw j)) := nscope_by (by
  match j, h with
  | 0, _ => decide +kernel
  | 1, _ => decide +kernel
  | 2, _ => decide +kernel
  | 3, _ => decide +kernel
  | 4, _ => decide +kernel)
theorem work0 (Z : Xs P w K mg base cc C) {G : Hp} {f : Addr} {r : Str} {n : Int} {i : Nat} (L : LamK G f (lw 0) WN [some (.str r), some (.int n)]) (h : (i = 1 ∧ ¬ okRule r) ∨ (i = 0 ∧ okRule r ∧ ¬ okWide n)) (v : Int) : WkOk P w K mg base C i v f G := fun R hR => by
  refine L.work (sc_lw 0 (by decide)) (fun _ _ _ _ _ => rfl) (fun qual cl c A outer s G U hr => pe_ownW (L2N.takes_of rfl rfl rfl rfl) Z.play hr (pa_cons (pv 0) (pa_cons (pv 1) (pa_cons (pe_lst (pa_cons (pe_tup (pa_cons pe_str (pa_cons pe_int pa_nil))) pa_nil)) pa_nil))) (hg := by rfl)) fun cs hcs => ?_
  refine ⟨_, rfl, _, rfl, (show 2 ≤ sizeLine by rw [sizeLine_eq]; decide), fun t nt => ⟨(show 1 ≤ sizeLine by rw [sizeLine_eq]; decide), fun a na => ?_⟩⟩
  have sm := (same_upd (o := .tup [.str "x", .int 0]) nt).trans (same_upd (o := .lst [.ref t]) na)
  rcases h with ⟨rfl, h⟩ | ⟨rfl, h1, h2⟩
  · exact ⟨r, n, a, rfl, .inl ⟨h, end_none (by decide) hR sm⟩⟩
  · exact ⟨r, n, a, rfl, .inr <| .inl ⟨h1, h2, end_none (by decide) hR sm⟩⟩
theorem work1 (Z : Xs P w K mg base cc C) {G : Hp} {f : Addr} {r : Str} {n : Int} {i : Nat} (L : LamK G f (lw 1) WN [some (.str r), some (.int n)]) (h : (i = 1 ∧ ¬ okRule r) ∨ (i = 0 ∧ okRule r ∧ ¬ okWide n)) (v : Int) : WkOk P w K mg base C i v f G := fun R hR => by
  obtain ⟨fI, fd, M, FI, mS, bI⟩ := Z.make
  refine L.work (sc_lw 1 (by decide)) (fun _ _ _ _ _ => rfl) (fun qual cl c A outer s G U hr => pe_make (E := U) M FI (hr.mono (by decide)) (by rfl) mS bI .nil (L2N.passes_call (L2N.takes_of rfl rfl rfl rfl) (fun _ _ _ _ h => h)) (pa_cons (pv 0) (pa_cons (pv 1) pa_nil))) fun cs hcs => ?_
  refine ⟨_, rfl, _, rfl, fun x dx nx nd ne => ?_⟩
  have sm : Same (ctH cs G) (upd (upd (ctH cs G) dx (.own x)) x (.ins (cc 0) dx [])) := (same_upd nd).trans (same_upd (by rw [upd_ne (Ne.symm ne)]; exact nx))
  rcases h with ⟨rfl, h⟩ | ⟨rfl, h1, h2⟩
  · exact ⟨.ref x, r, n, rfl, .inl ⟨h, end_none (by decide) hR sm⟩⟩
  · exact ⟨.ref x, r, n, rfl, .inr ⟨h1, h2, end_none (by decide) hR sm⟩⟩
theorem work2 (Z : Xs P w K mg base cc C) {G : Hp} {f : Addr} {r : Str} {n : Int} {i : Nat} (L : LamK G f (lw 2) WN [some (.str r), some (.int n)]) (h : (i = 1 ∧ ¬ okRule r) ∨ (i = 0 ∧ okRule r ∧ ¬ okWide n)) (v : Int) : WkOk P w K mg base C i v f G := fun R hR => by
  refine L.work (sc_lw 2 (by decide)) (fun _ _ _ _ _ => rfl) (fun qual cl c A outer s G U hr => pe_ownW (L2N.takes_of rfl rfl rfl rfl) Z.worst (hr.mono (by decide)) (pa_cons (pv 0) (pa_cons (pv 1) pa_nil)) (hg := by rfl)) fun cs hcs => ?_
  refine ⟨_, rfl, _, rfl, ?_⟩
  rcases h with ⟨rfl, h⟩ | ⟨rfl, h1, h2⟩
  · exact ⟨r, n, rfl, .inl ⟨h, end_none (by decide) hR (Same.refl _)⟩⟩
  · exact ⟨r, n, rfl, .inr ⟨h1, h2, end_none (by decide) hR (Same.refl _)⟩⟩
theorem work3 (Z : Xs P w K mg base cc C) {G : Hp} {f : Addr} {r : Str} {n : Int} {i : Nat} (L : LamK G f (lw 3) WN [some (.str r), some (.int n)]) (h : (i = 1 ∧ ¬ okRule r) ∨ (i = 0 ∧ okRule r ∧ ¬ okWide n)) (v : Int) : WkOk P w K mg base C i v f G := fun R hR => by
  refine L.work (sc_lw 3 (by decide)) (fun _ _ _ _ _ => rfl) (fun qual cl c A outer s G U hr => pe_ownW (L2N.takes_of rfl rfl rfl rfl) Z.purse (hr.mono (by decide)) (pa_cons (pv 0) (pa_cons (pv 1) pa_nil)) (hg := by rfl)) fun cs hcs => ?_
  refine ⟨_, rfl, _, rfl, ?_⟩
  rcases h with ⟨rfl, h⟩ | ⟨rfl, h1, h2⟩
  · exact ⟨r, n, rfl, .inl ⟨h, end_none (by decide) hR (Same.refl _)⟩⟩
  · exact ⟨r, n, rfl, .inr ⟨h1, h2, end_none (by decide) hR (Same.refl _)⟩⟩
theorem work4 (Z : Xs P w K mg base cc C) {G : Hp} {f : Addr} {r : Str} {n : Int} {i : Nat} (L : LamK G f (lw 4) WN [some (.str r), some (.int n)]) (h : (i = 1 ∧ ¬ okRule r) ∨ (i = 0 ∧ okRule r ∧ ¬ okWide n)) (v : Int) : WkOk P w K mg base C i v f G := fun R hR => by
  refine L.work (sc_lw 4 (by decide)) (fun _ _ _ _ _ => rfl) (fun qual cl c A outer s G U hr => pe_ownW (L2N.takes_of rfl rfl rfl rfl) Z.shows (hr.mono (by decide)) (pa_cons (pv 0) (pa_cons (pv 1) (pa_cons (pe_un un_neg pe_int) (pa_cons pe_int (pa_cons (pe_lst pa_nil) pa_nil))))) (hg := by rfl)) fun cs hcs => ?_
  refine ⟨_, rfl, _, rfl, _, rfl, (show 0 ≤ sizeLine by rw [sizeLine_eq]; decide), fun a na => ?_⟩
  have sm := same_upd (o := .lst []) na
  rcases h with ⟨rfl, h⟩ | ⟨rfl, h1, h2⟩
  · exact ⟨r, n, -1, 0, .ref a, rfl, .inl ⟨h, end_none (by decide) hR sm⟩⟩
  · exact ⟨r, n, -1, 0, .ref a, rfl, .inr <| .inl ⟨h1, h2, end_none (by decide) hR sm⟩⟩
end
end CK

/-! what the law's own lambdas raise -/
namespace CK
open PySem L2 PyProof.Rows LamX NdefX
abbrev s_law : Stmt := top 70
abbrev s__law_is_found : Stmt := top 69
abbrev s__law_shelf : Stmt := top 67
/-- the first lambda of an expression, of a row -/
def lamE : Expr → Expr
  | .BinOp _ _ (.List (e :: _) _) _ => e
  | .UnaryOp _ (.Call _ (e :: _) _ _) _ => e
  | .BoolOp _ (.UnaryOp _ (.Call _ (e :: _) _ _) _ :: _) _ => e
  | .List (e :: _) _ => e
  | .Call _ (e :: _) _ _ => e
  | e => e
def lamR : Option Stmt → Expr
  | some (.Assign _ e _) => lamE e
  | some (.If e _ _ _) => lamE e
  | some (.Expr e _) => lamE e
  | _ => .Constant .none 0 default
def ll (j : Nat) : Expr := lamR (defBody s_law)[j]?
def li (j : Nat) : Expr := lamR (defBody s__law_is_found)[j]?
def ls (j : Nat) : Expr := lamR (defBody s__law_shelf)[j]?
theorem ct_keep {cs : List Addr} {G : Hp} {a : Addr} {u : HO} (hcs : ∀ c ∈ cs, ∃ o, G c = some (XO o c)) (ha : G a = some u) (nx : ∀ o, u ≠ XO o a) : ctH cs G a = some u := by
  rw [ctH_out fun m => ?_]
  · exact ha
  · obtain ⟨o, q⟩ := hcs a m
    rw [ha] at q
    exact nx o (Option.some.inj q)
theorem ct_lst {cs : List Addr} {G : Hp} {a : Addr} {xs : List V} (hcs : ∀ c ∈ cs, ∃ o, G c = some (XO o c)) (ha : G a = some (.lst xs)) : ctH cs G a = some (.lst xs) := ct_keep hcs ha fun o z => by cases z
theorem ct_tup {cs : List Addr} {G : Hp} {a : Addr} {xs : List V} (hcs : ∀ c ∈ cs, ∃ o, G c = some (XO o c)) (ha : G a = some (.tup xs)) : ctH cs G a = some (.tup xs) := ct_keep hcs ha fun o z => by cases z
section
variable {P : Program} {w : World} {K : PySem.W.Frag} {mg : Str → Option Value} {base : Heap} {cc : Nat → Addr} {C : Nat → Addr}
theorem workL9 (Z : Xs P w K mg base cc C) {G : Hp} {f : Addr} {r : Str} {p : List Nat} {a : Addr} {sg : List Nat} {k : Int} (L : LamK G f (ll 9) ["_law_none", "_law_bad", "_law_deed"] [some (.str r), some (.str (Tx p)), some (.ref a)]) (ha : G a = some (.tup [.str (Tx sg), .int k])) (h : ¬ okRule r) : WkOk P w K mg base C 1 0 f G := fun R hR => by
  refine L.work (N := ["_law_none", "_law_bad", "_law_deed"]) (nscope_by (by decide +kernel)) (fun _ _ _ _ _ => rfl) (fun qual cl c A outer s G U hr => pe_ownW (L2N.takes_of rfl rfl rfl rfl) Z.done hr (pa_cons (pv 0) (pa_cons (pv 1) (pa_cons (pv 2) pa_nil))) (hg := by rfl)) fun cs hcs => ?_
  exact ⟨_, rfl, _, rfl, _, rfl, r, p, a, sg, k, rfl, ct_tup hcs ha, .inl ⟨h, end_none (by decide) hR (Same.refl _)⟩⟩
theorem workL13 (Z : Xs P w K mg base cc C) {G : Hp} {f : Addr} {r : Str} {p : List Nat} {a : Addr} {sg : List Nat} {k : Int} {n : Nat} (L : LamK G f (ll 13) ["_law_rule_here", "_law_bad", "_law_deed"] [some (.str r), some (.str (Tx p)), some (.ref a)]) (ha : G a = some (.tup [.str (Tx sg), .int k])) (h : okRule r) (hp : badAt p = some n) : WkOk P w K mg base C 2 n f G := fun R hR => by
  refine L.work (N := ["_law_rule_here", "_law_bad", "_law_deed"]) (nscope_by (by decide +kernel)) (fun _ _ _ _ _ => rfl) (fun qual cl c A outer s G U hr => pe_ownW (L2N.takes_of rfl rfl rfl rfl) Z.done hr (pa_cons (pv 0) (pa_cons (pv 1) (pa_cons (pv 2) pa_nil))) (hg := by rfl)) fun cs hcs => ?_
  exact ⟨_, rfl, _, rfl, _, rfl, r, p, a, sg, k, rfl, ct_tup hcs ha, .inr <| .inl ⟨h, n, hp, fun H1 d s1 hd => end_num (.inl ⟨rfl, rfl⟩) hR s1 hd⟩⟩
theorem workL14 (Z : Xs P w K mg base cc C) {G : Hp} {f : Addr} {r : Str} {p : List Nat} {a : Addr} {sg : List Nat} {k : Int} (L : LamK G f (ll 14) ["_law_rule_here", "_law_pattern_here", "_law_deed"] [some (.str r), some (.str (Tx p)), some (.ref a)]) (ha : G a = some (.tup [.str (Tx sg), .int k])) (h : okRule r) (hb : isBits p = true) (h1 : 1 ≤ p.length) (h6 : p.length ≤ 6) (hc : canB p.length (many p) sg k = false) : WkOk P w K mg base C 3 0 f G := fun R hR => by
  refine L.work (N := ["_law_rule_here", "_law_pattern_here", "_law_deed"]) (nscope_by (by decide +kernel)) (fun _ _ _ _ _ => rfl) (fun qual cl c A outer s G U hr => pe_ownW (L2N.takes_of rfl rfl rfl rfl) Z.done hr (pa_cons (pv 0) (pa_cons (pv 1) (pa_cons (pv 2) pa_nil))) (hg := by rfl)) fun cs hcs => ?_
  exact ⟨_, rfl, _, rfl, _, rfl, r, p, a, sg, k, rfl, ct_tup hcs ha, .inr <| .inr ⟨h, hb, h1, h6, hc, fun H1 d s1 hd => end_num (n := 0) (.inr ⟨rfl, rfl⟩) hR s1 hd⟩⟩
theorem workL11 (Z : Xs P w K mg base cc C) {G : Hp} {f : Addr} {n : Int} (L : LamK G f (ll 11) ["_law_wide"] [some (.int n)]) (h : ¬ okWide n) : WkOk P w K mg base C 0 0 f G := fun R hR => by
  refine L.work (N := ["_law_wide"]) (nscope_by (by decide +kernel)) (fun _ _ _ _ _ => rfl) (fun qual cl c A outer s G U hr => pe_ownW (L2N.takes_of rfl rfl rfl rfl) Z.few hr (pa_cons (pv 0) (pa_cons (pe_lst (pa_cons (pe_tup (pa_cons pe_str (pa_cons pe_int pa_nil))) pa_nil)) pa_nil)) (hg := by rfl)) fun cs hcs => ?_
  refine ⟨_, rfl, (show 2 ≤ sizeLine by rw [sizeLine_eq]; decide), fun t nt => ⟨(show 1 ≤ sizeLine by rw [sizeLine_eq]; decide), fun a na => ?_⟩⟩
  have sm := (same_upd (o := .tup [.str "x", .int 0]) nt).trans (same_upd (o := .lst [.ref t]) na)
  exact ⟨n, a, rfl, .inl ⟨h, end_none (by decide) hR sm⟩⟩
theorem workL16 (Z : Xs P w K mg base cc C) {G : Hp} {f : Addr} {w0 : Int} {a : Addr} {as : List Addr} {ds : List (List Nat × Int)} {n : Nat} (L : LamK G f (ll 16) ["_law_good", "_law_long"] [some (.int w0), some (.ref a)]) (hw : okWide w0) (ha : G a = some (.lst (as.map V.ref))) (hd : DeedsAt G as ds) (hb : firstBad w0 0 0 ds = some n) : WkOk P w K mg base C 3 n f G := fun R hR => by
  refine L.work (N := ["_law_good", "_law_long"]) (nscope_by (by decide +kernel)) (fun _ _ _ _ _ => rfl) (fun qual cl c A outer s G U hr => pe_ownW (L2N.takes_of rfl rfl rfl rfl) Z.few hr (pa_cons (pv 0) (pa_cons (pv 1) pa_nil)) (hg := by rfl)) fun cs hcs => ?_
  refine ⟨_, rfl, _, rfl, w0, a, rfl, .inr ⟨hw, w0, a, as, ds, n, rfl, ct_lst hcs ha, ⟨hd.1, fun i t d h1 h2 => ct_tup hcs (hd.2 i t d h1 h2)⟩, hb, fun H1 d s1 hd => end_num (.inr ⟨rfl, rfl⟩) hR s1 hd⟩⟩
theorem workI6 (Z : Xs P w K mg base cc C) {G : Hp} {f : Addr} {w0 : Int} {a : Addr} {as : List Addr} {ds : List (List Nat × Int)} {n : Nat} (L : LamK G f (li 6) ["_law_good", "_law_deeds"] [some (.int w0), some (.ref a)]) (hw : okWide w0) (ha : G a = some (.lst (as.map V.ref))) (hd : DeedsAt G as ds) (hb : firstBad w0 0 0 ds = some n) : WkOk P w K mg base C 3 n f G := fun R hR => by
  refine L.work (N := ["_law_good", "_law_deeds"]) (nscope_by (by decide +kernel)) (fun _ _ _ _ _ => rfl) (fun qual cl c A outer s G U hr => pe_ownW (L2N.takes_of rfl rfl rfl rfl) Z.few hr (pa_cons (pv 0) (pa_cons (pv 1) pa_nil)) (hg := by rfl)) fun cs hcs => ?_
  refine ⟨_, rfl, _, rfl, w0, a, rfl, .inr ⟨hw, w0, a, as, ds, n, rfl, ct_lst hcs ha, ⟨hd.1, fun i t d h1 h2 => ct_tup hcs (hd.2 i t d h1 h2)⟩, hb, fun H1 d s1 hd => end_num (.inr ⟨rfl, rfl⟩) hR s1 hd⟩⟩
theorem workI5 (Z : Xs P w K mg base cc C) {G : Hp} {f : Addr} {r : List Nat} {w0 : Nat} {a t0 : Addr} {as rest : List Addr} {ds : List Deed} {n : Nat} {sg : List Nat} {k : Int} (L : LamK G f (li 5) ["_law_rule_here", "_law_good", "_law_deeds"] [some (.str (Tx r)), some (.int w0), some (.ref a)]) (hr0 : r ∈ rules) (h1 : 1 ≤ w0) (h6 : w0 ≤ 6) (hc : cnt w0 0 ds = some n) (ha : G a = some (.lst ((as ++ t0 :: rest).map V.ref))) (ht : Tups G as ds) (hl : ds.length ≤ 100) (h0 : G t0 = some (.tup [.str (Tx sg), .int k])) (hb : canB w0 n sg k = false) : WkOk P w K mg base C 3 ds.length f G := fun R hR => by
  refine L.work (N := ["_law_rule_here", "_law_good", "_law_deeds"]) (nscope_by (by decide +kernel)) (fun _ _ _ _ _ => rfl) (fun qual cl c A outer s G U hr => pe_ownW (L2N.takes_of rfl rfl rfl rfl) Z.play hr (pa_cons (pv 0) (pa_cons (pv 1) (pa_cons (pv 2) pa_nil))) (hg := by rfl)) fun cs hcs => ?_
  refine ⟨_, rfl, _, rfl, _, rfl, Tx r, w0, a, rfl, .inr <| .inr ⟨r, w0, ds, as, rest, t0, n, sg, k, rfl, rfl, hr0, h1, h6, hc, ct_lst hcs ha, Paired.mapP ht fun _ _ q => ct_tup hcs q, hl, ct_tup hcs h0, hb, fun H1 d s1 hd => end_num (.inr ⟨rfl, rfl⟩) hR s1 hd⟩⟩
theorem workL17 (Z : Xs P w K mg base cc C) {G : Hp} {f : Addr} {r : Str} {n m : Int} (L : LamK G f (ll 17) ["_law_rule_here", "_law_good", "_law_far"] [some (.str r), some (.int n), some (.int m)]) (h1 : okRule r) (h2 : okWide n) (h3 : 0 ≤ m) : WkOk P w K mg base C 5 0 f G := fun R hR => by
  refine L.work (N := ["_law_rule_here", "_law_good", "_law_far"]) (nscope_by (by decide +kernel)) (fun _ _ _ _ _ => rfl) (fun qual cl c A outer s G U hr => pe_ownW (L2N.takes_of rfl rfl rfl rfl) Z.shows (hr.mono (by decide)) (pa_cons (pv 0) (pa_cons (pv 1) (pa_cons (pe_op op_sub (pe_un un_neg pe_int) (pv 2)) (pa_cons pe_int (pa_cons (pe_lst pa_nil) pa_nil))))) (hg := by rfl)) fun cs hcs => ?_
  refine ⟨_, rfl, _, rfl, _, rfl, _, rfl, _, _, rfl, rfl, (show 0 ≤ sizeLine by rw [sizeLine_eq]; decide), fun a na => ?_⟩
  exact ⟨r, n, -1 - m, 1, .ref a, rfl, .inr <| .inr ⟨h1, h2, fun z => by omega, end_none (by decide) hR (same_upd (o := .lst []) na)⟩⟩
end
end CK

/-! patterns that are none, deeds that can't be done: drawn -/
namespace CK
open PySem L2 PyProof.Rows LamX NdefX
def ctOk (p : List Nat) : Bool := Txt.count (Tx p) "1" == (many p : Int)
theorem ct1 : ((bits 1).all ctOk && ((bits 2).all ctOk && ((bits 3).all ctOk && ((bits 4).all ctOk && ((bits 5).all ctOk && (bits 6).all ctOk))))) = true := by decide +kernel
theorem count_many {p : List Nat} (hb : isBits p = true) (h1 : 1 ≤ p.length) (h6 : p.length ≤ 6) : (Txt.count (Tx p) "1" : Int) = many p := by
  have hl : p.length = 1 ∨ p.length = 2 ∨ p.length = 3 ∨ p.length = 4 ∨ p.length = 5 ∨ p.length = 6 := by omega
  have g := ct1
  simp only [Bool.and_eq_true] at g
  refine eq_of_beq (a := (Txt.count (Tx p) "1" : Int)) ?_
  rcases hl with hl | hl | hl | hl | hl | hl
  · exact of_bits g.1 hb hl
  · exact of_bits g.2.1 hb hl
  · exact of_bits g.2.2.1 hb hl
  · exact of_bits g.2.2.2.1 hb hl
  · exact of_bits g.2.2.2.2.1 hb hl
  · exact of_bits g.2.2.2.2.2 hb hl
theorem tx_app (a b : List Nat) : Tx a ++ Tx b = Tx (a ++ b) := by
  show (⟨a.toArray ++ b.toArray⟩ : Str) = ⟨(a ++ b).toArray⟩
  rw [List.append_toArray]
theorem tx_len (a : List Nat) : (Tx a).length = a.length := by
  show (a.toArray).size = a.length
  simp
theorem cutS_lo (p : List Nat) (r : Nat) : cutS (Tx p) none (some (r : Int)) = Tx (p.take r) := by
  unfold cutS
  rw [tx_len, HT.sIx_none, HT.sIx_nat, Nat.sub_zero, List.drop_zero]
  show (⟨(List.take (min r p.length) p).toArray⟩ : Str) = ⟨(p.take r).toArray⟩
  by_cases h : r ≤ p.length
  · rw [Nat.min_eq_left h]
  · rw [Nat.min_eq_right (by omega), List.take_length, List.take_of_length_le (by omega)]
theorem cutS_hi (p : List Nat) (r : Nat) : cutS (Tx p) (some (r : Int)) none = Tx (p.drop r) := by
  unfold cutS
  rw [tx_len, HT.sIx_none, HT.sIx_nat]
  show (⟨((p.drop (min r p.length)).take (p.length - min r p.length)).toArray⟩ : Str) = ⟨(p.drop r).toArray⟩
  by_cases h : r ≤ p.length
  · rw [Nat.min_eq_left h, List.take_of_length_le (by rw [List.length_drop]; exact Nat.le_refl _)]
  · rw [Nat.min_eq_right (by omega), List.drop_length, List.drop_eq_nil_of_le (by omega)]; simp
theorem bits_cons {c : Nat} {r : List Nat} (hb : isBits (c :: r) = true) : (c = 48 ∨ c = 49) ∧ isBits r = true := by
  unfold isBits at hb
  split at hb
  · rename_i e; cases e
  · rename_i e; cases e; exact ⟨.inl rfl, hb⟩
  · rename_i e; cases e; exact ⟨.inr rfl, hb⟩
  · cases hb
theorem bad_app : ∀ (p q : List Nat) (i : Nat), isBits p = true → i + p.length ≤ 6 → badFrom i (p ++ q) = badFrom (i + p.length) q
  | [], q, i, _, _ => rfl
  | c :: r, q, i, hb, hl => by
    obtain ⟨hc, hr⟩ := bits_cons hb
    have hl : i + (r.length + 1) ≤ 6 := hl
    show (if i = 6 ∨ ¬ (c = 48 ∨ c = 49) then some i else badFrom (i + 1) (r ++ q)) = badFrom (i + (r.length + 1)) q
    rw [if_neg fun z => z.elim (by omega) fun k => k hc, bad_app r q (i + 1) hr (by omega)]
    congr 1
    omega
theorem badAt_ne {l : List Nat} (h : l ≠ []) : badAt l = badFrom 0 l := by
  cases l with
  | nil => exact absurd rfl h
  | cons c r => rfl
theorem badAt_long {p : List Nat} (hb : isBits p = true) (h6 : p.length ≤ 6) : badAt (p ++ [48, 48, 48, 48, 48, 48, 48]) = some 6 := by
  rw [badAt_ne (by simp), bad_app p _ 0 hb (by omega), Nat.zero_add]
  have : p.length = 0 ∨ p.length = 1 ∨ p.length = 2 ∨ p.length = 3 ∨ p.length = 4 ∨ p.length = 5 ∨ p.length = 6 := by omega
  rcases this with h | h | h | h | h | h | h <;> rw [h] <;> rfl
theorem bits_take : ∀ {p : List Nat} (r : Nat), isBits p = true → isBits (p.take r) = true
  | [], r, _ => by rw [List.take_nil]; rfl
  | c :: p, 0, _ => rfl
  | c :: p, r + 1, hb => by
    obtain ⟨hc, hr⟩ := bits_cons hb
    have := bits_take r hr
    rw [List.take_succ_cons]
    rcases hc with rfl | rfl <;> exact this
theorem badAt_in {p : List Nat} {r c : Nat} (hb : isBits p = true) (h6 : p.length ≤ 6) (hr : r ≤ p.length) (hc : ¬ (c = 48 ∨ c = 49)) : badAt (p.take r ++ (c :: p.drop r)) = some r := by
  have hl : (p.take r).length = r := by rw [List.length_take]; omega
  rw [badAt_ne (by simp), bad_app _ _ 0 (bits_take r hb) (by omega), Nat.zero_add, hl]
  show (if r = 6 ∨ ¬ (c = 48 ∨ c = 49) then some r else _) = some r
  rw [if_pos (.inr hc)]
theorem DiceAt.new {H : Hp} {a p : Addr} {o : HO} (d : DiceAt H a) (n : H p = none) : DiceAt (upd H p o) a := by
  obtain ⟨ns, h1, h2⟩ := d
  exact ⟨ns, h1, upd_keep n h2⟩
theorem But.none {H H' : Hp} {a t : Addr} (b : But a H H') (d : DiceAt H' a) (n : H' t = none) : H t = none := by
  cases e : H t with
  | none => rfl
  | some o =>
    have nt : t ≠ a := fun z => by obtain ⟨_, _, q⟩ := d; rw [z, q] at n; cases n
    rw [b t o nt e] at n
    cases n
section
variable {P : Program} {w : World} {K : PySem.W.Frag} {mg : Str → Option Value} {base : Heap} {cc : Nat → Addr}
abbrev s__law_bad_pattern : Stmt := top 65
abbrev s__law_bad_deed : Stmt := top 66
theorem sc__law_bad_pattern : FnScope ["_law_d", "_law_pattern_here", "_law_at"] ["_law_d", "_law_pattern_here"] (defScope s__law_bad_pattern) := ⟨rfl, rfl, rfl, by decide +kernel, rfl, by decide +kernel, by decide +kernel⟩
theorem sc__law_bad_deed : FnScope ["_law_d", "_law_pattern_here", "_law_many", "_law_far", "_law_some"] ["_law_d", "_law_pattern_here"] (defScope s__law_bad_deed) := ⟨rfl, rfl, rfl, by decide +kernel, rfl, by decide +kernel, by decide +kernel⟩
def spBadP : Sp := fun vs H Q _ => ∃ (a : Addr) (p : List Nat), vs = [.ref a, .str (Tx p)] ∧ DiceAt H a ∧ isBits p = true ∧ 1 ≤ p.length ∧ p.length ≤ 6 ∧ ∀ H' t q n, DiceAt H' a → But a H H' → H t = none → H' t = some (.tup [.str (Tx q), .int (n : Nat)]) → badAt q = some n → Q (.ref t) H'
def spBadD : Sp := fun vs H Q _ => ∃ (a : Addr) (p : List Nat), vs = [.ref a, .str (Tx p)] ∧ DiceAt H a ∧ isBits p = true ∧ 1 ≤ p.length ∧ p.length ≤ 6 ∧ ∀ H' t s k, DiceAt H' a → But a H H' → H t = none → H' t = some (.tup [.str (Tx s), .int k]) → canB p.length (many p) s k = false → Q (.ref t) H'
theorem ok_bad_pattern {f : Addr} {fd : FuncData} (F : Fun K "_law_bad_pattern" "_law_bad_pattern" s__law_bad_pattern f fd) (T : Txt K mg cc) (O : OwnS P w K mg base 1 "_law_off" ["_law_d", "_law_most"] spDraw) : FnOk P w K mg base CX0 2 f fd ["_law_d", "_law_pattern_here"] spBadP := by
  refine F.ok sc__law_bad_pattern (fun vs H Q E h => ?_) (fun cdv A outer s H vs Q E hr h => ?_)
  · obtain ⟨a, p, rfl, _⟩ := h
    rfl
  · obtain ⟨a, p, rfl, hd, hb, h1, h6, kq⟩ := h
    have nd := sc__law_bad_pattern.nd
    refine ⟨_, pss_cons (ps_set (i := 2) nd rfl (Or.inl rfl) (pe_own O hr (pa_cons (pv 0) (pa_cons (pe_op op_add (pe_callB call_len_str (by rfl) T.n_len boot_len (pa_cons (pv 1) pa_nil)) pe_int) pa_nil))))
      (pss_cons (ps_if (pt_cmpR op_eq (pe_own O hr (pa_cons (pv 0) (pa_cons pe_int pa_nil))) pe_int (nomark _)) (pss_one (ps_ret (pe_ix (r := rIxL K) ix_list (pe_lst (pa_cons (pe_tup (pa_cons pe_str (pa_cons pe_int pa_nil))) (pa_cons (pe_tup (pa_cons (pe_op op_add_str (pv 1) pe_str) (pa_cons pe_int pa_nil))) pa_nil))) (pe_own O hr (pa_cons (pv 0) (pa_cons pe_int pa_nil))) (fun _ _ => rfl)))) pss_nil)
      (pss_one (ps_ret (pe_tup (pa_cons (pe_op op_add_str (pe_op op_add_str (pe_slice sl_str (pv 1) po_none (po_some (pv 2))) (pe_ix (r := rIxS) ix_str pe_str (pe_own O hr (pa_cons (pv 0) (pa_cons pe_int pa_nil))) (fun _ _ => rfl))) (pe_slice sl_str (pv 1) (po_some (pv 2)) po_none)) (pa_cons (pv 2) pa_nil)))))), ?_⟩
    refine ⟨_, rfl, _, rfl, Tx p, rfl, (by rw [tx_len, sizeLine_eq]; omega), _, _, rfl, rfl, a, _, rfl, by rw [tx_len]; omega, by rw [tx_len]; omega, hd, fun r H1 r0 rm d1 b1 => ?_⟩
    obtain ⟨m, rfl⟩ : ∃ m : Nat, r = (m : Int) := ⟨r.toNat, by omega⟩
    rw [tx_len] at rm
    have hm : m ≤ p.length := by omega
    refine ⟨_, rfl, a, 3, rfl, by decide, by decide, d1, fun r2 H2 r20 r2m d2 b2 => ⟨rfl, _, rfl, ite_of (fun _ => ?_) fun _ => ?_⟩⟩
    · refine ⟨(show 2 ≤ sizeLine by rw [sizeLine_eq]; decide), fun t1 n1 => ⟨_, rfl, _, _, rfl, rfl, (by rw [tx_len, sizeLine_eq]; show p.length + 7 ≤ _; omega), (show 2 ≤ sizeLine by rw [sizeLine_eq]; decide), fun t2 n2 => ⟨(show 2 ≤ sizeLine by rw [sizeLine_eq]; decide), fun L nL => ?_⟩⟩⟩
      have e7 : Tx p ++ (Str.ofString "0000000") = Tx (p ++ [48, 48, 48, 48, 48, 48, 48]) := by
        rw [show (Str.ofString "0000000") = Tx [48, 48, 48, 48, 48, 48, 48] by decide +kernel, tx_app]
      have b12 := b1.trans b2
      have x1 : (upd H2 t1 (.tup [.str "", .int 0])) t1 = some (.tup [.str (Tx []), .int 0]) := upd_same
      have d3 := d2.new (o := .tup [.str "", .int 0]) n1
      have b3 := b12.new (o := .tup [.str "", .int 0]) n1
      have z1 := b12.none d2 n1
      generalize upd H2 t1 (.tup [.str "", .int 0]) = H3 at *
      have x2 : (upd H3 t2 (.tup [.str (Tx p ++ Str.ofString "0000000"), .int 6])) t2 = some (.tup [.str (Tx (p ++ [48, 48, 48, 48, 48, 48, 48])), .int 6]) := by rw [upd_same, e7]
      have x1 := upd_keep (v := .tup [.str (Tx p ++ Str.ofString "0000000"), .int 6]) n2 x1
      have d4 := d3.new (o := .tup [.str (Tx p ++ Str.ofString "0000000"), .int 6]) n2
      have b4 := b3.new (o := .tup [.str (Tx p ++ Str.ofString "0000000"), .int 6]) n2
      have z2 := b3.none d3 n2
      generalize upd H3 t2 (.tup [.str (Tx p ++ Str.ofString "0000000"), .int 6]) = H4 at *
      have xL : (upd H4 L (.lst [.ref t1, .ref t2])) L = some (.lst [.ref t1, .ref t2]) := upd_same
      have x1 := upd_keep (v := .lst [.ref t1, .ref t2]) nL x1
      have x2 := upd_keep (v := .lst [.ref t1, .ref t2]) nL x2
      have d5 := d4.new (o := .lst [.ref t1, .ref t2]) nL
      have b5 := b4.new (o := .lst [.ref t1, .ref t2]) nL
      have zL := b4.none d4 nL
      generalize upd H4 L (.lst [.ref t1, .ref t2]) = H5 at *
      refine ⟨_, rfl, a, 2, rfl, by decide, by decide, d5, fun r3 H6 r30 r3m d6 b6 => ?_⟩
      have nLa : ∀ t o, H5 t = some (.tup o) → t ≠ a := fun t o e z => by obtain ⟨_, _, q⟩ := d5; rw [z, q] at e; cases e
      have nL2 : L ≠ a := fun z => by obtain ⟨_, _, q⟩ := hd; rw [z, q] at zL; cases zL
      have xL := b6 _ _ nL2 xL
      have x1 := b6 _ _ (nLa _ _ x1) x1
      have x2 := b6 _ _ (nLa _ _ x2) x2
      have hr3 : r3 = 0 ∨ r3 = 1 := by omega
      rcases hr3 with rfl | rfl
      · exact ⟨L, _, 0, .ref t1, rfl, rfl, SqL.of xL, rfl, kq H6 t1 [] 0 d6 (b5.trans b6) z1 x1 rfl⟩
      · exact ⟨L, _, 1, .ref t2, rfl, rfl, SqL.of xL, rfl, kq H6 t2 _ 6 d6 (b5.trans b6) z2 x2 (badAt_long hb h6)⟩
    · refine ⟨_, rfl, _, rfl, _, rfl, Tx p, rfl, (by rw [tx_len, sizeLine_eq]; omega), ?_⟩
      rw [cutS_lo]
      refine ⟨_, rfl, a, 4, rfl, by decide, by decide, d2, fun r3 H3 r30 r3m d3 b3 => ?_⟩
      obtain ⟨c, ec, hc⟩ : ∃ c : Nat, atI (Str.ofString "2x _").cps.toList r3 = some c ∧ ¬ (c = 48 ∨ c = 49) := by
        have h4 : r3 = 0 ∨ r3 = 1 ∨ r3 = 2 ∨ r3 = 3 := by omega
        rcases h4 with rfl | rfl | rfl | rfl
        · exact ⟨50, by decide +kernel, by decide⟩
        · exact ⟨120, by decide +kernel, by decide⟩
        · exact ⟨32, by decide +kernel, by decide⟩
        · exact ⟨95, by decide +kernel, by decide⟩
      have l1 : (Tx (p.take m)).length ≤ 6 := by rw [tx_len, List.length_take]; omega
      have ex : Tx (p.take m) ++ (⟨#[c]⟩ : Str) = Tx (p.take m ++ [c]) := tx_app (p.take m) [c]
      refine ⟨_, r3, c, rfl, rfl, (show 4 ≤ sizeLine by rw [sizeLine_eq]; decide), ec, _, _, rfl, rfl, (by rw [sizeLine_eq]; show _ + 1 ≤ _; omega), ?_⟩
      refine ⟨_, rfl, _, rfl, _, rfl, Tx p, rfl, (by rw [tx_len, sizeLine_eq]; omega), ?_⟩
      rw [ex, cutS_hi]
      have l2 : (Tx (p.take m ++ [c])).length ≤ 7 := by rw [tx_len, List.length_append, List.length_take]; simp; omega
      have l3 : (Tx (p.drop m)).length ≤ 6 := by rw [tx_len, List.length_drop]; omega
      refine ⟨_, _, rfl, rfl, (by rw [sizeLine_eq]; omega), _, rfl, (show 2 ≤ sizeLine by rw [sizeLine_eq]; decide), fun t nt => ?_⟩
      rw [tx_app, List.append_assoc]
      have b13 := (b1.trans b2).trans b3
      exact kq _ t _ m (d3.new nt) (b13.new nt) (b13.none d3 nt) upd_same (badAt_in hb h6 hm hc)
/-- deeds that can't be done, one behind the other -/
structure Bads (H0 H : Hp) (a : Addr) (w m : Int) (ts : List Addr) : Prop where
  d : DiceAt H a
  b : But a H0 H
  t : ∀ t ∈ ts, ∃ s k, H t = some (.tup [.str (Tx s), .int k]) ∧ canB w m s k = false ∧ H0 t = none
theorem Bads.new {H0 H : Hp} {a t : Addr} {w m k : Int} {ts : List Addr} {x : Str} (B : Bads H0 H a w m ts) (n : H t = none) (s : List Nat) (hx : x = Tx s) (hc : canB w m s k = false) : Bads H0 (upd H t (.tup [.str x, .int k])) a w m (ts ++ [t]) := by
  refine ⟨B.d.new n, B.b.new n, fun y hy => ?_⟩
  rcases List.mem_append.mp hy with q | q
  · obtain ⟨s, k, h1, h2⟩ := B.t y q
    exact ⟨s, k, upd_keep n h1, h2⟩
  · rw [List.mem_singleton.mp q, hx]
    exact ⟨s, k, upd_same, hc, B.b.none B.d n⟩
theorem Bads.same {H0 H H' : Hp} {a : Addr} {w m : Int} {ts : List Addr} (B : Bads H0 H a w m ts) (q : Same H H') : Bads H0 H' a w m ts :=
  ⟨B.d.frm (q a), B.b.trans (.same q), fun t h => by obtain ⟨s, k, h1, h2⟩ := B.t t h; exact ⟨s, k, q _ _ h1, h2⟩⟩
theorem Bads.but {H0 H H' : Hp} {a : Addr} {w m : Int} {ts : List Addr} (B : Bads H0 H a w m ts) (d : DiceAt H' a) (b : But a H H') : Bads H0 H' a w m ts :=
  ⟨d, B.b.trans b, fun t h => by
    obtain ⟨s, k, h1, h2⟩ := B.t t h
    exact ⟨s, k, b _ _ (fun z => by obtain ⟨_, _, e⟩ := B.d; rw [z, e] at h1; cases h1) h1, h2⟩⟩
theorem can_take {w m k : Int} (h : ¬ (0 ≤ k ∧ k < m)) : canB w m [116, 97, 107, 101] k = false := by
  unfold canB
  rw [if_neg (by decide)]
  by_cases h1 : 0 ≤ k
  · have h2 : ¬ k < m := fun z => h ⟨h1, z⟩
    simp [h2]
  · simp [h1]
theorem can_put {w m k : Int} (h : ¬ (0 ≤ k ∧ k ≤ m)) : canB w m [112, 117, 116] k = false := by
  unfold canB
  rw [if_pos (by decide)]
  by_cases h1 : 0 ≤ k
  · have h2 : ¬ k ≤ m := fun z => h ⟨h1, z⟩
    simp [h2]
  · simp [h1]
theorem ok_bad_deed {f : Addr} {fd : FuncData} (F : Fun K "_law_bad_deed" "_law_bad_deed" s__law_bad_deed f fd) (T : Txt K mg cc) (O : OwnS P w K mg base 1 "_law_off" ["_law_d", "_law_most"] spDraw) : FnOk P w K mg base CX0 2 f fd ["_law_d", "_law_pattern_here"] spBadD := by
  refine F.ok sc__law_bad_deed (fun vs H Q E h => ?_) (fun cdv A outer s H vs Q E hr h => ?_)
  · obtain ⟨a, p, rfl, _⟩ := h
    rfl
  · obtain ⟨a, p, rfl, hd, hb, h1, h6, kq⟩ := h
    have nd := sc__law_bad_deed.nd
    refine ⟨_, pss_cons (ps_set (i := 2) nd rfl (Or.inl rfl) (pe_bm PySem.F.plainAttrs_str PySem.F.slot_str_count PySem.F.type_str_count mt_count (pv 1) (pa_cons pe_str pa_nil)))
      (pss_cons (ps_set (i := 3) nd rfl (Or.inl rfl) (pe_op op_add (pe_op op_add (pv 2) pe_int) (pe_own O hr (pa_cons (pv 0) (pa_cons (pe_op op_pow pe_int pe_int) pa_nil)))))
      (pss_cons (ps_set (i := 4) nd rfl (Or.inl rfl) (pe_lst (pa_cons (pe_tup (pa_cons pe_str (pa_cons (pv 2) pa_nil))) (pa_cons (pe_tup (pa_cons pe_str (pa_cons (pe_un un_neg pe_int) pa_nil))) (pa_cons (pe_tup (pa_cons pe_str (pa_cons (pv 3) pa_nil))) (pa_cons (pe_tup (pa_cons pe_str (pa_cons (pv 3) pa_nil))) (pa_cons (pe_tup (pa_cons pe_str (pa_cons (pe_un un_neg pe_int) pa_nil))) (pa_cons (pe_tup (pa_cons pe_str (pa_cons pe_int pa_nil))) (pa_cons (pe_tup (pa_cons pe_str (pa_cons pe_int pa_nil))) pa_nil)))))))))
      (pss_cons (ps_if (pt_cmpR op_eq (pv 2) (pe_callB call_len_str (by rfl) T.n_len boot_len (pa_cons (pv 1) pa_nil)) (nomark _)) (pss_one (ps_set (i := 4) nd rfl (Or.inl rfl) (pe_op op_cat (pv 4) (pe_lst (pa_cons (pe_tup (pa_cons pe_str (pa_cons pe_int pa_nil))) (pa_cons (pe_tup (pa_cons pe_str (pa_cons (pv 2) pa_nil))) pa_nil)))))) pss_nil)
      (pss_one (ps_ret (pe_ix (r := rIxL K) ix_list (pv 4) (pe_own O hr (pa_cons (pv 0) (pa_cons (pe_callB call_len_seq (by rfl) T.n_len boot_len (pa_cons (pv 4) pa_nil)) pa_nil))) (fun _ _ => rfl))))))), ?_⟩
    refine ⟨_, rfl, rfl, _, _, rfl, rfl, ?_⟩
    rw [count_many hb h1 h6]
    refine ⟨_, rfl, _, _, rfl, rfl, _, rfl, _, _, rfl, rfl, ⟨by decide, by decide, by decide⟩, a, _, rfl, by decide, by decide, hd, fun r H0 r0 rm d0 b0 => ⟨_, _, rfl, rfl, ?_⟩⟩
    have B0 : Bads H H0 a p.length (many p) [] := ⟨d0, b0, fun t h => by cases h⟩
    refine ⟨_, rfl, (show 2 ≤ sizeLine by rw [sizeLine_eq]; decide), fun t1 n1 => ?_⟩
    have B1 := B0.new (x := "take") n1 [116, 97, 107, 101] (by decide +kernel) (k := ((many p : Nat) : Int)) (can_take (by omega))
    generalize upd H0 t1 (.tup [.str "take", .int (((many p : Nat) : Int))]) = H1 at *
    refine ⟨_, rfl, (show 2 ≤ sizeLine by rw [sizeLine_eq]; decide), fun t2 n2 => ?_⟩
    have B2 := B1.new (x := "take") n2 [116, 97, 107, 101] (by decide +kernel) (k := (-1)) (can_take (by omega))
    generalize upd H1 t2 (.tup [.str "take", .int ((-1))]) = H2 at *
    refine ⟨_, rfl, (show 2 ≤ sizeLine by rw [sizeLine_eq]; decide), fun t3 n3 => ?_⟩
    have B3 := B2.new (x := "take") n3 [116, 97, 107, 101] (by decide +kernel) (k := ((many p : Nat) : Int) + 1 + r) (can_take (by omega))
    generalize upd H2 t3 (.tup [.str "take", .int (((many p : Nat) : Int) + 1 + r)]) = H3 at *
    refine ⟨_, rfl, (show 2 ≤ sizeLine by rw [sizeLine_eq]; decide), fun t4 n4 => ?_⟩
    have B4 := B3.new (x := "put") n4 [112, 117, 116] (by decide +kernel) (k := ((many p : Nat) : Int) + 1 + r) (can_put (by omega))
    generalize upd H3 t4 (.tup [.str "put", .int (((many p : Nat) : Int) + 1 + r)]) = H4 at *
    refine ⟨_, rfl, (show 2 ≤ sizeLine by rw [sizeLine_eq]; decide), fun t5 n5 => ?_⟩
    have B5 := B4.new (x := "put") n5 [112, 117, 116] (by decide +kernel) (k := (-1)) (can_put (by omega))
    generalize upd H4 t5 (.tup [.str "put", .int ((-1))]) = H5 at *
    refine ⟨(show 2 ≤ sizeLine by rw [sizeLine_eq]; decide), fun t6 n6 => ?_⟩
    have B6 := B5.new (x := "Put") n6 [80, 117, 116] (by decide +kernel) (k := 0) (rfl)
    generalize upd H5 t6 (.tup [.str "Put", .int (0)]) = H6 at *
    refine ⟨(show 2 ≤ sizeLine by rw [sizeLine_eq]; decide), fun t7 n7 => ?_⟩
    have B7 := B6.new (x := "") n7 [] (by decide +kernel) (k := 0) (rfl)
    generalize upd H6 t7 (.tup [.str "", .int (0)]) = H7 at *
    refine ⟨(show 7 ≤ sizeLine by rw [sizeLine_eq]; decide), fun L nL => ?_⟩
    have nLa : L ≠ a := fun z => by obtain ⟨_, _, q⟩ := B7.d; rw [z, q] at nL; cases nL
    have eL : (upd H7 L (.lst ([t1, t2, t3, t4, t5, t6, t7].map V.ref))) L = some (.lst ([t1, t2, t3, t4, t5, t6, t7].map V.ref)) := upd_same
    have C0 := B7.same (same_upd (o := .lst ([t1, t2, t3, t4, t5, t6, t7].map V.ref)) nL)
    have fin : ∀ (ts : List Addr) (G : Hp) (M : Addr) (σ : L2.St), Bads H G a p.length (many p) ts → M ≠ a → G M = some (.lst (ts.map V.ref)) → 1 ≤ ts.length → ts.length ≤ 9 → σ[0]? = some (some (.ref a)) → σ[4]? = some (some (.ref M)) →
        tRet (tOp (rIxL K) (tVar 4) (tOwn spDraw (tCons (tVar 0) (tCons (tCB (fun xs H Q => ∃ q ys, xs = [V.ref q] ∧ (SqL K H q ys ∨ SqT K H q ys) ∧ Q (V.int ys.length) H) (tCons (tVar 4) tNil)) tNil)))) { nx := fun _ H' => Q .non H', rt := Q } σ G := by
      intro ts G M σ B nM eM l1 l9 s0 s4
      refine ⟨_, s4, _, s0, _, s4, M, _, rfl, .inl (SqL.of eM), a, _, rfl, by rw [List.length_map]; omega, by rw [List.length_map]; omega, B.d, fun r2 G2 r20 r2m d2 b2 => ?_⟩
      rw [List.length_map] at r2m
      obtain ⟨m, rfl⟩ : ∃ m : Nat, r2 = (m : Int) := ⟨r2.toNat, by omega⟩
      have hm : m < ts.length := by omega
      have B2 := B.but d2 b2
      obtain ⟨s, k, e1, e2, e3⟩ := B2.t ts[m] (List.getElem_mem hm)
      exact ⟨M, _, m, .ref ts[m], rfl, rfl, SqL.of (b2 _ _ nM eM), atI_nat (by rw [List.getElem?_map, List.getElem?_eq_getElem hm]; rfl), kq G2 ts[m] s k B2.d B2.b e3 e1 e2⟩
    generalize hG : upd H7 L (.lst ([t1, t2, t3, t4, t5, t6, t7].map V.ref)) = G0 at *
    rw [show upd H7 L (.lst [.ref t1, .ref t2, .ref t3, .ref t4, .ref t5, .ref t6, .ref t7]) = G0 from hG]
    clear hG
    refine ⟨_, rfl, _, rfl, Tx p, rfl, (by rw [tx_len, sizeLine_eq]; omega), rfl, _, rfl, ite_of (fun z => ?_) fun z => ?_⟩
    · have em : ((many p : Nat) : Int) = (p.length : Nat) := by
        have z := of_decide_eq_true z
        rw [tx_len] at z
        exact V.int.inj z
      refine ⟨_, rfl, (show 2 ≤ sizeLine by rw [sizeLine_eq]; decide), fun t8 n8 => ?_⟩
      have C1 := C0.new (x := "put") n8 [112, 117, 116] (by decide +kernel) (k := 0) (by rw [em]; exact put_full _ _)
      have eL := upd_keep (v := .tup [.str "put", .int 0]) n8 eL
      generalize upd G0 t8 (.tup [.str "put", .int 0]) = G1 at *
      refine ⟨_, rfl, (show 2 ≤ sizeLine by rw [sizeLine_eq]; decide), fun t9 n9 => ?_⟩
      have C2 := C1.new (x := "put") n9 [112, 117, 116] (by decide +kernel) (k := ((many p : Nat) : Int)) (by rw [em]; exact put_full _ _)
      have eL := upd_keep (v := .tup [.str "put", .int ((many p : Nat) : Int)]) n9 eL
      generalize upd G1 t9 (.tup [.str "put", .int ((many p : Nat) : Int)]) = G2 at *
      refine ⟨(show 2 ≤ sizeLine by rw [sizeLine_eq]; decide), fun M nM => ?_⟩
      refine ⟨L, M, _, _, rfl, rfl, upd_keep nM eL, upd_same, (show 9 ≤ sizeLine by rw [sizeLine_eq]; decide), fun R nR => ?_⟩
      have C3 := (C2.same (same_upd (o := .lst [.ref t8, .ref t9]) nM))
      have nRa : R ≠ a := fun z => by obtain ⟨_, _, q⟩ := C3.d; rw [z, q] at nR; cases nR
      exact fin _ _ R _ (C3.same (same_upd nR)) nRa upd_same (by simp) (by simp) rfl rfl
    · exact fin _ _ L _ C0 nLa eL (by simp) (by simp) rfl rfl
end
end CK

/-! none of the works that isn't refused -/
namespace CK
open PySem L2 PyProof.Rows LamX NdefX
theorem lcNot_use {P : Program} {w : World} {K : PySem.W.Frag} {mg : Str → Option Value} {base : Heap} {C : Nat → Addr} {X : Cx} {σ : L2.St} {H1 : Hp} {Lw : Addr} {jw jx i : Nat} {v : Int} {fs : List Addr} {word : Str} {tv : TE} {Q : VK}
    (s0 : σ[jw]? = some (some (.ref Lw))) (hjx : jx < σ.length) (hL : H1 Lw = some (.lst (fs.map V.ref))) (hword : word = wdR i) (hi : i < 6) (htv : ∀ f G (k : VK), k (.int v) G → tv (σ.set jx (some (.ref f))) G k)
    (hw : ∀ f ∈ fs, ∀ G Hp', Same H1 G → Plus X (σ.set jx (some (.ref f))) G Hp' → WkOk P w K mg base C i v f Hp') (q : ∀ L H', Same H1 H' → H1 L = none → H' L = some (.lst []) → Q (.ref L) H') :
    tNo (iList X.K (tVar jw)) (gName jx) (tNot (tB (tOwnP X (spRef P w K mg base C 5) (tCons (tVar jx) (tCons (tC (.str word)) (tCons tv tNil)))))) [jx] σ H1 Q := by
  refine ⟨_, s0, Lw, rfl, ⟨_, SqL.of hL⟩, fun L nL => ⟨fun k m G => m = fs.length - k ∧ k ≤ fs.length ∧ Same (upd H1 L (.lst [])) G, ⟨_, rfl, Nat.zero_le _, Same.refl _⟩, fun k m G ⟨em, hk, s⟩ => ?_⟩⟩
  have hLG : SqL X.K G Lw (fs.map V.ref) := SqL.of (s _ _ (upd_keep nL hL))
  by_cases hlt : k < fs.length
  · refine .inr ⟨⟨_, .ref fs[k], hLG, by rw [List.getElem?_map, List.getElem?_eq_getElem hlt]; rfl⟩, fun x G1 ⟨e1, e2⟩ => ?_⟩
    subst e1
    have ex := e2 _ hLG
    rw [List.getElem?_map, List.getElem?_eq_getElem hlt] at ex
    obtain rfl : V.ref fs[k] = x := Option.some.inj ex
    have ew : (wipe σ [jx]).set jx (some (V.ref fs[k])) = σ.set jx (some (.ref fs[k])) := by
      show (σ.set jx none).set jx _ = _
      rw [List.set_set]
    show wipe ((wipe σ [jx]).set jx (some (V.ref fs[k]))) [jx] = wipe σ [jx] ∧ _
    rw [ew]
    refine ⟨by show (σ.set jx _).set jx none = σ.set jx none; rw [List.set_set], ?_⟩
    have hx : (σ.set jx (some (V.ref fs[k])))[jx]? = some (some (.ref fs[k])) := List.getElem?_set_self hjx
    refine ⟨_, hx, htv _ _ _ fun Hp' P0 => ?_⟩
    rw [hword]
    refine ref_use (Q := fun u H3 => ∃ c, u = V.bl c ∧ ((!c) = false ∧ ∃ m', m' < m ∧ (m' = fs.length - (k + 1) ∧ k + 1 ≤ fs.length ∧ Same (upd H1 L (HO.lst [])) H3))) P0 hi (hw _ (List.getElem_mem hlt) _ _ (fun b o e => s _ _ (upd_keep nL e)) P0) fun H3 s3 => ⟨true, rfl, rfl, fs.length - (k + 1), by omega, rfl, hlt, s.trans s3⟩
  · have ek : k = fs.length := by omega
    refine .inl ⟨⟨_, hLG, by rw [List.length_map]; omega⟩, q L G (fun b o e => s _ _ (upd_keep nL e)) nL (s _ _ upd_same)⟩
end CK

/-! a bad deed is found where it stands -/
namespace CK
open PySem L2 PyProof.Rows LamX NdefX
theorem cutV_lo (xs : List V) (r : Nat) : cutV xs none (some (r : Int)) = xs.take r := by
  unfold cutV
  rw [HT.sIx_none, HT.sIx_nat, Nat.sub_zero, List.drop_zero]
  by_cases h : r ≤ xs.length
  · rw [Nat.min_eq_left h]
  · rw [Nat.min_eq_right (by omega), List.take_length, List.take_of_length_le (by omega)]
theorem cutV_up (xs : List V) (r : Nat) : cutV xs (some (r : Int)) none = xs.drop r := by
  unfold cutV
  rw [HT.sIx_none, HT.sIx_nat]
  by_cases h : r ≤ xs.length
  · rw [Nat.min_eq_left h, List.take_of_length_le (by rw [List.length_drop]; exact Nat.le_refl _)]
  · rw [Nat.min_eq_right (by omega), List.drop_length, List.drop_eq_nil_of_le (by omega)]; simp
theorem op_mul_str {X : Cx} : OpR X (binaryOp .Mult) (fun x y H Q => ∃ z n, x = .str z ∧ y = .int n ∧ MulOk z n ∧ Q (.str (Txt.mul z n)) H) := by
  intro pins s σ H x y v u Q I rx ry h
  obtain ⟨z, n, rfl, rfl, hm, q⟩ := h
  obtain ⟨t, rfl⟩ := rx
  obtain ⟨t', rfl⟩ := ry
  exact SB.mul hm fun t' k => ⟨.str (Txt.mul z n), H, I.tok k, ⟨t', rfl⟩, q⟩
theorem zero_mul {w : Nat} (h1 : 1 ≤ w) (h6 : w ≤ 6) : MulOk "0" w ∧ Txt.mul "0" w = Tx (zeros w) := by
  have : w = 1 ∨ w = 2 ∨ w = 3 ∨ w = 4 ∨ w = 5 ∨ w = 6 := by omega
  unfold MulOk
  rcases this with rfl | rfl | rfl | rfl | rfl | rfl <;> decide +kernel
theorem cnt_pre {w : Nat} : ∀ {ds : List Deed} {n m0 : Nat} (i : Nat), cnt w n ds = some m0 → ∃ k, cnt w n (ds.take i) = some k
  | [], n, m0, i, h => ⟨n, by rw [List.take_nil]; rfl⟩
  | d :: ds, n, m0, 0, h => ⟨n, rfl⟩
  | d :: ds, n, m0, i + 1, h => by
    have h : (match step1 w n d with | some m => cnt w m ds | none => none) = some m0 := h
    cases q : step1 w n d with
    | none => rw [q] at h; cases h
    | some m =>
      rw [q] at h
      obtain ⟨k, e⟩ := cnt_pre i h
      refine ⟨k, ?_⟩
      show (match step1 w n d with | some m => cnt w m (ds.take i) | none => none) = some k
      rw [q]
      exact e
def dtx (d : Deed) : List Nat × Int := (word d.1, (d.2 : Int))
theorem can_step {w n m : Nat} {d : Deed} (h : step1 w n d = some m) : canB w n (word d.1) d.2 = true ∧ (n : Int) + (if word d.1 = [112, 117, 116] then 1 else -1) = m := by
  obtain ⟨b, r⟩ := d
  cases b with
  | true =>
    have h : (if r ≤ n ∧ n < w then some (n + 1) else none) = some m := h
    split at h
    · rename_i hc
      cases h
      refine ⟨?_, by rw [if_pos (show word (true, r).fst = [112, 117, 116] from rfl)]; omega⟩
      show canB w n [112, 117, 116] (r : Int) = true
      unfold canB
      rw [if_pos (by decide)]
      have h1 : (r : Int) ≤ n := by omega
      have h2 : (n : Int) < w := by omega
      simp [h1, h2]
    · cases h
  | false =>
    have h : (if r < n then some (n - 1) else none) = some m := h
    split at h
    · rename_i hc
      cases h
      refine ⟨?_, by rw [if_neg (show ¬ (word (false, r).fst = [112, 117, 116]) from (by decide : ¬ (word false = [112, 117, 116])))]; omega⟩
      show canB w n [116, 97, 107, 101] (r : Int) = true
      unfold canB
      rw [if_neg (by decide)]
      have h1 : (r : Int) < n := by omega
      simp [h1]
    · cases h
theorem first_pre {w : Nat} {rest : List (List Nat × Int)} : ∀ {ds : List Deed} {n k : Nat} (i : Nat), cnt w n ds = some k → i + ds.length ≤ 11 → firstBad w n i (ds.map dtx ++ rest) = firstBad w k (i + ds.length) rest
  | [], n, k, i, h, _ => by cases h; rfl
  | d :: ds, n, k, i, h, hl => by
    have h : (match step1 w n d with | some m => cnt w m ds | none => none) = some k := h
    have hl : i + (ds.length + 1) ≤ 11 := hl
    cases q : step1 w n d with
    | none => rw [q] at h; cases h
    | some m =>
      rw [q] at h
      obtain ⟨h1, h2⟩ := can_step q
      show (if i = 12 ∨ canB w n (word d.1) d.2 = false then some i else firstBad w ((n : Int) + (if word d.1 = [112, 117, 116] then 1 else -1)) (i + 1) (ds.map dtx ++ rest)) = firstBad w k (i + (ds.length + 1)) rest
      rw [if_neg fun z => z.elim (by omega) fun z => absurd z (by rw [h1]; decide), h2, first_pre (i + 1) h (by omega), show i + 1 + ds.length = i + (ds.length + 1) by omega]
theorem first_bad {w k i : Nat} {s : List Nat} {kk : Int} {rest : List (List Nat × Int)} (h : canB w k s kk = false) : firstBad w k i ((s, kk) :: rest) = some i := by
  show (if i = 12 ∨ canB w k s kk = false then some i else _) = some i
  rw [if_pos (.inr h)]
theorem deeds_tups {H : Hp} {as : List Addr} {ds : List Deed} (t : Tups H as ds) : DeedsAt H as (ds.map dtx) := by
  refine ⟨by rw [List.length_map]; exact t.length, fun i a d h1 h2 => ?_⟩
  obtain ⟨e, he, q⟩ := Pd.get t h1
  rw [List.getElem?_map, he] at h2
  obtain rfl := Option.some.inj h2
  rw [q, wd_eq]
  rfl
theorem deeds_app {H : Hp} {as bs : List Addr} {ds es : List (List Nat × Int)} (x : DeedsAt H as ds) (y : DeedsAt H bs es) : DeedsAt H (as ++ bs) (ds ++ es) := by
  refine ⟨by rw [List.length_append, List.length_append, x.1, y.1], fun i a d h1 h2 => ?_⟩
  by_cases h : i < as.length
  · rw [List.getElem?_append_left h] at h1
    rw [List.getElem?_append_left (by rw [← x.1]; exact h)] at h2
    exact x.2 i a d h1 h2
  · rw [List.getElem?_append_right (by omega)] at h1
    rw [List.getElem?_append_right (by rw [← x.1]; omega), ← x.1] at h2
    exact y.2 _ a d h1 h2
theorem deeds_one {H : Hp} {t : Addr} {s : List Nat} {k : Int} (h : H t = some (.tup [.str (Tx s), .int k])) : DeedsAt H [t] [(s, k)] := by
  refine ⟨rfl, fun i a d h1 h2 => ?_⟩
  match i, h1, h2 with
  | 0, h1, h2 => cases h1; cases h2; exact h
  | i + 1, h1, h2 => simp at h1
/-- all but the draws and the tables stays -/
structure GrB (TT : List NTab) (a : Addr) (H H' : Hp) : Prop where
  e : ∀ b o, b ≠ a → H b = some o → (∀ ps, o ≠ .tbl ps) → H' b = some o
  n : ∀ b, H' b = none → H b = none
  t : TabsN TT H'
  d : DiceAt H' a
theorem DiceAt.some {H : Hp} {a : Addr} (d : DiceAt H a) : ∃ xs, H a = some (.lst xs) := let ⟨ns, _, h⟩ := d; ⟨_, h⟩
theorem GrB.refl {TT : List NTab} {a : Addr} {H : Hp} (t : TabsN TT H) (d : DiceAt H a) : GrB TT a H H := ⟨fun _ _ _ h _ => h, fun _ h => h, t, d⟩
theorem GrB.same {TT : List NTab} {a : Addr} {H H1 H2 : Hp} (g : GrB TT a H H1) (s : Same H1 H2) : GrB TT a H H2 := ⟨fun b o n q k => s _ _ (g.e b o n q k), fun b h => g.n b (none_of (s b) h), g.t.ext s, g.d.frm (s a)⟩
theorem tabs_but {TT : List NTab} {a : Addr} {H H' : Hp} (t : TabsN TT H) (d : DiceAt H a) (b : But a H H') : TabsN TT H' := fun p hp => by
  obtain ⟨xs, ha⟩ := d.some
  obtain ⟨ps, h1, h2, h3⟩ := t p hp
  refine ⟨ps, b _ _ (fun z => by rw [z, ha] at h1; cases h1) h1, h2, fun pos cv hc => ?_⟩
  obtain ⟨c, e, q⟩ := h3 pos cv hc
  exact ⟨c, e, b _ _ (fun z => by rw [z, ha] at q; unfold CodeO at q; cases q) q⟩
theorem GrB.but {TT : List NTab} {a : Addr} {H H1 H2 : Hp} (g : GrB TT a H H1) (d : DiceAt H2 a) (b : But a H1 H2) : GrB TT a H H2 := ⟨fun y o n q k => b _ _ n (g.e y o n q k), fun y h => g.n y (b.none d h), tabs_but g.t g.d b, d⟩
theorem GrB.grown {TT : List NTab} {a : Addr} {H H1 H2 : Hp} (g : GrB TT a H H1) (s : Grown TT H1 H2) : GrB TT a H H2 := ⟨fun b o n q k => s.e _ _ (g.e b o n q k) k, fun b h => g.n b (s.n b h), s.t, let ⟨ns, h1, h2⟩ := g.d; ⟨ns, h1, s.e _ _ h2 fun _ z => by cases z⟩⟩
theorem GrB.up {TT : List NTab} {a L : Addr} {H G : Hp} {xs ys : List V} (g : GrB TT a H G) (n : H L = none) (na : L ≠ a) (hL : G L = some (.lst xs)) : GrB TT a H (upd G L (.lst ys)) :=
  ⟨fun b o nb q k => by rw [upd_ne (ne_of_none q n)]; exact g.e b o nb q k, fun b q => g.n b (upd_none q), tabs_up g.t hL, let ⟨ns, h1, h2⟩ := g.d; ⟨ns, h1, by rw [upd_ne (Ne.symm na)]; exact h2⟩⟩
theorem GrB.trans {TT : List NTab} {a : Addr} {H H1 H2 : Hp} (g : GrB TT a H H1) (s : GrB TT a H1 H2) : GrB TT a H H2 := ⟨fun b o n q k => s.e _ _ n (g.e b o n q k) k, fun b h => g.n b (s.n b h), s.t, s.d⟩
end CK

/-! a bad deed is found where it stands: the law's part -/
namespace CK
open PySem L2 PyProof.Rows LamX NdefX
theorem hr64 {k : Nat} {A : Around} (r : Room k A) : A.units + 64 < cLine := r.units
section
variable {P : Program} {w : World} {K : PySem.W.Frag} {mg : Str → Option Value} {base : Heap} {cc : Nat → Addr} {C : Nat → Addr} {TT : List NTab}
abbrev NI : List Str := ["_law_d", "_law_rule_here", "_law_good", "_law_deeds", "_law_place", "_law_here", "_law_one", "_law_works_here", "_law_work"]
theorem sc__law_is_found : FnScope NI ["_law_d", "_law_rule_here", "_law_good"] (defScope s__law_is_found) := ⟨rfl, rfl, rfl, by decide +kernel, rfl, by decide +kernel, by decide +kernel⟩
def spFound (TT : List NTab) : Sp := fun vs H Q _ => ∃ (a : Addr) (r : List Nat) (w0 : Nat), vs = [.ref a, .str (Tx r), .int w0] ∧ r ∈ rules ∧ 1 ≤ w0 ∧ w0 ≤ 6 ∧ DiceAt H a ∧ TabsN TT H ∧ ∀ H', GrB TT a H H' → Q (.bl true) H'
theorem ok_found {c Pt : Addr} {f : Addr} {fd : FuncData} (F : FunV K "_law_is_found" "_law_is_found" s__law_is_found (.ref c) f fd) (T : Txt K mg cc) (TB : TabB base mg c Pt) (hm : (Pt, nmL) ∈ TT) (hu : ∀ p ∈ TT, p.2 = nmL) (Z : Xs P w K mg base cc C)
    (OD : OwnS P w K mg base 2 "_law_drawn" ["_law_d", "_law_wide", "_law_most"] spDrawn) (OO : OwnS P w K mg base 1 "_law_off" ["_law_d", "_law_most"] spDraw) (OS : Own P w K mg base cc 2 "_law_step" ["_law_rule_here", "_law_pattern_here", "_law_deed"] c__law_step) (OB : OwnS P w K mg base 2 "_law_bad_deed" ["_law_d", "_law_pattern_here"] spBadD)
    (OR : OwnS P w K mg base 6 "_law_refused" ["_law_work", "_law_word", "_law_value"] (spRef P w K mg base C 5)) : FnOk P w K mg base CX0 7 f fd ["_law_d", "_law_rule_here", "_law_good"] (spFound TT) := by
  have hu' : ∀ p ∈ TT, p.1 = Pt → p.2 = nmL := fun p h _ => hu p h
  refine F.ok sc__law_is_found (fun vs H Q E h => ?_) fun A outer s H vs Q E hr h => ?_
  · obtain ⟨a, r, w0, rfl, _⟩ := h
    rfl
  · obtain ⟨a, r, w0, rfl, hr0, h1, h6, hd, hT, kq⟩ := h
    have nd := sc__law_is_found.nd
    have hr1 : Room 1 _ := hr.mono (by decide)
    have hr2 : Room 2 _ := hr.mono (by decide)
    refine ⟨_, (pss_cons (ps_set (i := 3) nd rfl (by first | exact Or.inl rfl | exact Or.inr rfl) (pe_own OD hr2 (pa_cons (pv 0) (pa_cons (pv 2) (pa_cons pe_int pa_nil)))))
      (pss_cons (ps_set (i := 4) nd rfl (by first | exact Or.inl rfl | exact Or.inr rfl) (pe_own OO hr1 (pa_cons (pv 0) (pa_cons (pe_op op_add (pe_callB call_len_seq (by rfl) T.n_len boot_len (pa_cons (pv 3) pa_nil)) pe_int) pa_nil))))
      (pss_cons (ps_set (i := 5) nd rfl (by first | exact Or.inl rfl | exact Or.inr rfl) (pe_op op_mul_str pe_str (pv 2)))
      (pss_cons (ps_for PassesOwn.never rfl (pi_list (pe_slice sl_list (pv 3) po_none (po_some (pv 4)))) (pg_name (i := 6) nd rfl (by first | exact Or.inl rfl | exact Or.inr rfl)) (pss_one (ps_set (i := 5) nd rfl (by first | exact Or.inl rfl | exact Or.inr rfl) (pe_ix (r := rIxT K) ix_tup (pe_own OS hr2 (pa_cons (pv 1) (pa_cons (pv 5) (pa_cons (pv 6) pa_nil)))) pe_int (fun _ _ => rfl)))))
      (pss_cons (ps_set (i := 3) nd rfl (by first | exact Or.inl rfl | exact Or.inr rfl) (pe_op op_cat (pe_op op_cat (pe_slice sl_list (pv 3) po_none (po_some (pv 4))) (pe_lst (pa_cons (pe_own OB hr2 (pa_cons (pv 0) (pa_cons (pv 5) pa_nil))) pa_nil))) (pe_slice sl_list (pv 3) (po_some (pv 4)) po_none)))
      (pss_cons (ps_set (i := 7) nd rfl (by first | exact Or.inl rfl | exact Or.inr rfl) (pe_lst (pa_cons (pe_lm (T := TT) (nm := nmL) TB rfl hm rfl hu' (show lmOk (li 5) s__law_is_found by decide +kernel) rfl) pa_nil)))
      (pss_cons (ps_expr (pe_bm PySem.F.plainAttrs_list PySem.F.slot_list_append PySem.F.type_list_append mt_append (pv 7) (pa_cons (pe_lm (T := TT) (nm := nmL) TB rfl hm rfl hu' (show lmOk (li 6) s__law_is_found by decide +kernel) rfl) pa_nil)))
      (pss_one (ps_ret (pe_cmpR (op_eqD (hr64 hr)) (pe_lcNot (own := [("_law_work", 8)]) (g := gName 8) rfl nd (pi_list (pv 7)) (blkOk_by (N := NI) (sc := defScope s__law_is_found) (by decide +kernel)) (fun _ _ _ => rfl) (show ∀ p ∈ [(("_law_work" : Str), 8)], ¬ ((defScope s__law_is_found).names.lookup p.1 = some .cell ∨ (defScope s__law_is_found).names.lookup p.1 = some .free) by decide +kernel) OR hr
        (fun _ _ _ _ _ => pg_name (i := 8) nd rfl (Or.inl rfl)) (fun _ _ _ _ _ => pa_cons (pv 8) (pa_cons pe_str (pa_cons (pv 4) pa_nil)))) (pe_lst pa_nil) (by with_unfolding_all rfl))))))))))), ?_⟩
    refine ⟨_, rfl, _, rfl, a, w0, 11, rfl, h1, h6, by decide, hd, fun H1 D0 ds as n d1 b1 z0 nD hc e1 t1 l1 => ?_⟩
    have el : as.length = ds.length := t1.length
    refine ⟨_, rfl, _, rfl, D0, _, rfl, .inl (SqL.of e1), _, _, rfl, rfl, a, _, rfl, by rw [List.length_map]; omega, by rw [List.length_map]; omega, d1, fun r2 H2 r20 r2m d2 b2 => ?_⟩
    obtain ⟨m, rfl⟩ : ∃ m : Nat, r2 = (m : Int) := ⟨r2.toNat, by omega⟩
    rw [List.length_map] at r2m
    have hm : m ≤ as.length := by omega
    obtain ⟨mok, emul⟩ := zero_mul h1 h6
    refine ⟨_, rfl, "0", w0, rfl, rfl, mok, ?_⟩
    rw [emul]
    obtain ⟨xs1, ha1⟩ := d1.some
    have e2 := b2 _ _ nD e1
    have t2 : Tups H2 as ds := t1.mono (TS.but ha1 b2)
    have g2 : GrB TT a H H2 := ((GrB.refl hT hd).but d1 b1).but d2 b2
    refine ⟨_, rfl, _, rfl, m, rfl, D0, _, rfl, SqL.of e2, fun S nS => ⟨S, rfl, ⟨_, SqL.of upd_same⟩, ?_⟩⟩
    rw [cutV_lo]
    obtain ⟨zb, zm, zl⟩ := zeros_ok w0
    obtain ⟨k1, hk1⟩ := cnt_pre m hc
    obtain ⟨pb, pll, pm⟩ := run_state hr0 h1 h6 (ds.take m) zb zl (by rw [zm]; exact hk1)
    have sS := same_upd (o := .lst ((as.map V.ref).take m)) nS
    have eS : (upd H2 S (.lst ((as.map V.ref).take m))) S = some (.lst ((as.map V.ref).take m)) := upd_same
    generalize upd H2 S (.lst ((as.map V.ref).take m)) = H3 at *
    have lS : ((as.map V.ref).take m).length = m := by rw [List.length_take, List.length_map]; omega
    refine for_list (K := K) (a := S) (xs := (as.map V.ref).take m) (fun k σ G => ∃ x, σ = [some (.ref a), some (.str (Tx r)), some (.int w0), some (.ref D0), some (.int m), some (.str (Tx (runM r (zeros w0) (ds.take k)).2)), x, none, none] ∧ Same H3 G) ⟨none, rfl, .refl _⟩ (fun k σ G _ ⟨_, _, s3⟩ => SqL.of (s3 _ _ eS)) ?_ ?_
    · rintro k x σ G hx ⟨y, rfl, s3⟩
      have hkm : k < m := by have := (List.getElem?_eq_some_iff.mp hx).1; omega
      rw [List.getElem?_take_of_lt hkm] at hx
      obtain ⟨t, hti, rfl⟩ : ∃ t, as[k]? = some t ∧ x = V.ref t := by
        rw [List.getElem?_map] at hx
        cases e : as[k]? with
        | none => rw [e] at hx; cases hx
        | some t => rw [e] at hx; exact ⟨t, rfl, (Option.some.inj hx).symm⟩
      obtain ⟨d, hdi, htd⟩ := Pd.get t2 hti
      obtain ⟨j, j', hj, hj'⟩ := cnt_take hc hdi
      obtain ⟨qb, qll, qm⟩ := run_state hr0 h1 h6 (ds.take k) zb zl (by rw [zm]; exact hj)
      rw [take_succ' hdi, runM_snoc]
      generalize hp : (runM r (zeros w0) (ds.take k)).2 = p at *
      have g := good_step hr0 qb (by omega) (by omega) (by rw [qm, qll]; exact hj')
      obtain ⟨nS', hS', eS', gS', kS'⟩ := rdTS_some g.law
      have eS' : c__law_step [.str r, .str p, .ref 0] (CH.of [dT d]) = some (.ref nS', hS') := eS'
      have htG := s3 _ _ (sS _ _ htd)
      have hr4 : HR cc ⟨k0, cc, [t], 0⟩ (CH.of [dT d]) G := HR.one htG (dT_ro d)
      refine ⟨_, rfl, _, rfl, _, rfl, sp_keeps (cc := cc) (E := E0) hr4 (.cons (rvS r) (.cons (rvS p) (.cons (rvR (n := 0) rfl) .nil))) eS' kS' fun η4 H4 v4 s4 _ R4 rv4 => ?_⟩
      obtain ⟨T4, eT4, rfl⟩ := rv4
      obtain ⟨ys, hT4, rys⟩ := R4.tup gS' eT4
      cases rys with
      | cons ry1 rys =>
      cases rys with
      | cons ry2 rys =>
      cases rys
      obtain rfl := (show _ = V.int _ from ry1)
      obtain rfl := (show _ = V.str _ from ry2)
      exact ⟨T4, _, 1, _, rfl, rfl, SqT.of hT4, rfl, some (.ref t), rfl, s3.trans s4⟩
    · rintro σ G ⟨y, rfl, s3⟩
      rw [lS]
      generalize hp : (runM r (zeros w0) (ds.take m)).2 = p at *
      have eDG := s3 _ _ (sS _ _ e2)
      have tG : Tups G as ds := (t2.mono (TS.same sS)).mono (TS.same s3)
      have gG := (g2.same sS).same s3
      refine ⟨_, rfl, _, rfl, m, rfl, D0, _, rfl, SqL.of eDG, fun S1 nS1 => ?_⟩
      rw [cutV_lo]
      have g3 := gG.same (same_upd (o := .lst ((as.map V.ref).take m)) nS1)
      have eD3 := upd_keep (v := .lst ((as.map V.ref).take m)) nS1 eDG
      have t3 := tG.mono (TS.same (same_upd (o := .lst ((as.map V.ref).take m)) nS1))
      have eS1 : (upd G S1 (.lst ((as.map V.ref).take m))) S1 = some (.lst ((as.map V.ref).take m)) := upd_same
      generalize upd G S1 (.lst ((as.map V.ref).take m)) = G3 at *
      obtain ⟨xs3, ha3⟩ := g3.d.some
      refine ⟨_, rfl, _, rfl, a, p, rfl, g3.d, pb, by omega, by omega, fun G4 t0 sg kk d4 b4 nt0 et0 hcan => ⟨(show 1 ≤ sizeLine by rw [sizeLine_eq]; decide), fun B nB => ?_⟩⟩
      have nS1a : S1 ≠ a := fun z => by
        obtain ⟨ys, hy⟩ := gG.d.some
        rw [z, hy] at nS1; cases nS1
      have g4 := g3.but d4 b4
      have eD4 := b4 _ _ nD eD3
      have t4 := t3.mono (TS.but ha3 b4)
      have eS4 := b4 _ _ nS1a eS1
      have sB := same_upd (o := .lst [.ref t0]) nB
      have eB : (upd G4 B (.lst [.ref t0])) B = some (.lst [.ref t0]) := upd_same
      have g5 := g4.same sB
      have eD5 := sB _ _ eD4
      have t5 := t4.mono (TS.same sB)
      have eS5 := sB _ _ eS4
      have et5 := sB _ _ et0
      generalize upd G4 B (.lst [.ref t0]) = G5 at *
      refine ⟨S1, B, _, _, rfl, rfl, eS5, eB, (by rw [sizeLine_eq, List.length_take, List.length_map]; show _ + 1 ≤ _; omega), fun M nM => ?_⟩
      have sM := same_upd (o := .lst ((as.map V.ref).take m ++ [.ref t0])) nM
      have eM : (upd G5 M (.lst ((as.map V.ref).take m ++ [.ref t0]))) M = some (.lst ((as.map V.ref).take m ++ [.ref t0])) := upd_same
      have g6 := g5.same sM
      have eD6 := sM _ _ eD5
      have t6 := t5.mono (TS.same sM)
      have et6 := sM _ _ et5
      generalize upd G5 M (.lst ((as.map V.ref).take m ++ [.ref t0])) = G6 at *
      refine ⟨_, rfl, _, rfl, m, rfl, D0, _, rfl, SqL.of eD6, fun S2 nS2 => ?_⟩
      rw [cutV_up]
      have sS2 := same_upd (o := .lst ((as.map V.ref).drop m)) nS2
      have eS2 : (upd G6 S2 (.lst ((as.map V.ref).drop m))) S2 = some (.lst ((as.map V.ref).drop m)) := upd_same
      have g7 := g6.same sS2
      have t7 := t6.mono (TS.same sS2)
      have et7 := sS2 _ _ et6
      have eM7 := sS2 _ _ eM
      generalize upd G6 S2 (.lst ((as.map V.ref).drop m)) = G7 at *
      refine ⟨M, S2, _, _, rfl, rfl, eM7, eS2, (by rw [sizeLine_eq, List.length_append, List.length_take, List.length_drop, List.length_map]; show _ + 1 + _ ≤ _; omega), fun D1 nD1 => ?_⟩
      have eAs : (as.map V.ref).take m ++ [.ref t0] ++ (as.map V.ref).drop m = (as.take m ++ t0 :: as.drop m).map V.ref := by
        rw [List.map_append, List.map_cons, List.map_take, List.map_drop, List.append_assoc]; rfl
      rw [eAs]
      have sD1 := same_upd (o := .lst ((as.take m ++ t0 :: as.drop m).map V.ref)) nD1
      have eD1 : (upd G7 D1 (.lst ((as.take m ++ t0 :: as.drop m).map V.ref))) D1 = some (.lst ((as.take m ++ t0 :: as.drop m).map V.ref)) := upd_same
      have g8 := g7.same sD1
      have t8 := t7.mono (TS.same sD1)
      have et8 := sD1 _ _ et7
      generalize upd G7 D1 (.lst ((as.take m ++ t0 :: as.drop m).map V.ref)) = G8 at *
      refine ⟨g8.t, fun f0 c0 J0 e0 n0 tt0 z0 l0 k0 => ⟨(show 1 ≤ sizeLine by rw [sizeLine_eq]; decide), fun Lw nLw => ?_⟩⟩
      have a0 : LmAt _ J0 f0 (li 5) := ⟨_, l0, k0, rfl, rfl, rfl, rfl⟩
      have g9 := g8.grown ⟨e0, n0, tt0⟩
      have nL8 : G8 Lw = none := n0 Lw nLw
      have nL : H Lw = none := g8.n Lw nL8
      have nLa : Lw ≠ a := fun z => by
        obtain ⟨ys, hy⟩ := g8.d.some
        rw [z, hy] at nL8; cases nL8
      have sL := same_upd (o := .lst [.ref f0]) nLw
      have eL : (upd J0 Lw (.lst [.ref f0])) Lw = some (.lst [.ref f0]) := upd_same
      have g10 := g9.same sL
      have b0 := a0.ext (.of sL)
      have x1 : ExtN G8 (upd J0 Lw (.lst [.ref f0])) := e0.trans (.of sL)
      generalize upd J0 Lw (.lst [.ref f0]) = J1 at *
      clear l0 k0 a0
      refine ⟨_, rfl, .inl ⟨rfl, _, SqL.of eL⟩, g10.t, fun f1 c1 J2 e1 n1 tt1 z1 l1 k1' => ⟨Lw, _, _, rfl, rfl, e1 _ _ eL (fun _ z => by cases z), (show 1 < sizeLine by rw [sizeLine_eq]; decide), ?_⟩⟩
      have hx := e1 _ _ eL (fun _ z => by cases z)
      have a1 : LmAt _ J2 f1 (li 6) := ⟨_, l1, k1', rfl, rfl, rfl, rfl⟩
      have b1 := a1.up (o := .lst [.ref f0, .ref f1]) hx
      have b0 := (b0.ext e1).up (o := .lst [.ref f0, .ref f1]) hx
      have g11 := (g10.grown ⟨e1, n1, tt1⟩).up (ys := [.ref f0, .ref f1]) nL nLa hx
      have x2 : ExtN G8 (upd J2 Lw (.lst [.ref f0, .ref f1])) := fun y o e k => by
        rw [upd_ne (ne_of_none e nL8)]
        exact e1 _ _ (x1 _ _ e k) k
      have eL2 : (upd J2 Lw (.lst [.ref f0, .ref f1])) Lw = some (.lst ([f0, f1].map V.ref)) := upd_same
      rw [show ([V.ref f0] ++ [V.ref f1]) = [V.ref f0, V.ref f1] from rfl]
      generalize upd J2 Lw (.lst [.ref f0, .ref f1]) = J3 at *
      clear l1 k1' a1
      have eD := x2 _ _ eD1 (fun _ z => by cases z)
      have et := x2 _ _ et8 (fun _ z => by cases z)
      have tJ : Tups J3 as ds := Paired.mapP t8 fun _ _ q => x2 _ _ q (fun _ z => by cases z)
      have lm : (ds.take m).length = m := by rw [List.length_take]; omega
      have hcan' : canB w0 k1 sg kk = false := by
        have z : many p = k1 := pm
        rw [pll, z] at hcan
        exact hcan
      dsimp only
      delta tRet tOp
      refine lcNot_use (X := (cxOf CX0 P w K mg base NI "_law_is_found" (defScope s__law_is_found) f (.ref c) A outer s H E).nox) (jw := 7) (jx := 8) (i := 3) (v := m) (fs := [f0, f1]) (Lw := Lw) (word := "deed") (tv := tVar 4) ?_ ?_ eL2 rfl (by decide) ?_ (fun f hf G Hp' s P0 => ?_) fun L H' s nL eL => ?_
      · rfl
      · show 8 < 9; decide
      · exact fun f G k q => ⟨_, rfl, q⟩
      · have sp := s.trans P0.same
        rcases List.mem_cons.mp hf with rfl | hf
        · have L0 := (b0.ext (.of s)).known (js := [1, 2, 3]) (fr := ["_law_rule_here", "_law_good", "_law_deeds"]) P0 (show lmOk (li 5) s__law_is_found by decide +kernel) (by decide +kernel) rfl
          have z := workI5 Z (n := k1) (as := as.take m) (rest := as.drop m) (t0 := t0) (ds := ds.take m) (sg := sg) (k := kk) L0 hr0 h1 h6 hk1 (sp _ _ eD) (Pd.take m (tJ.mono (TS.same sp))) (by omega) (sp _ _ et) hcan'
          rw [lm] at z
          exact z
        · obtain rfl := List.mem_singleton.mp hf
          have L1 := (b1.ext (.of s)).known (js := [2, 3]) (fr := ["_law_good", "_law_deeds"]) P0 (show lmOk (li 6) s__law_is_found by decide +kernel) (by decide +kernel) rfl
          have tp := tJ.mono (TS.same sp)
          refine workI6 Z (n := m) L1 ⟨by omega, by omega⟩ (sp _ _ eD) (deeds_app (deeds_tups (Pd.take m tp)) (deeds_app (deeds_one (sp _ _ et)) (deeds_tups (Pd.drop m tp)))) ?_
          exact (first_pre (w := w0) (n := 0) 0 hk1 (by omega)).trans (by rw [lm, Nat.zero_add]; exact first_bad hcan')
      · refine ⟨(show 0 ≤ sizeLine by rw [sizeLine_eq]; decide), fun E nE => ?_⟩
        have z := kq _ ((g11.same s).same (same_upd (o := .lst []) nE))
        exact ⟨.list [], .list [], .lst (SqL.of (upd_keep nE eL)) .nil, .lst (SqL.of upd_same) .nil, by decide +kernel, by decide +kernel, by rw [show PyData.eqv (.list []) (.list []) = true by decide +kernel]; exact z⟩
end
end CK

/-! a full shelf refuses -/
namespace CK
open PySem L2 PyProof.Rows LamX NdefX
structure MkS (P : Program) (w : World) (K : PySem.W.Frag) (mg : Str → Option Value) (base : Heap) (k : Nat) (C : Addr) (x : Str) (ps : List Str) (sp : Sp) : Prop where
  ex : ∃ fI fd, FnOk P w K mg base CX0 k fI fd ps sp ∧ Mk K C fI ∧ Binds K fd ps [] ∧ mg x = some (.ref C)
structure MethS (P : Program) (w : World) (K : PySem.W.Frag) (mg : Str → Option Value) (base : Heap) (k : Nat) (C : Addr) (m : Str) (ps : List Str) (sp : Sp) : Prop where
  ex : ∃ f fd, FnOk P w K mg base CX0 k f fd ps sp ∧ Meth K C m f ∧ Binds K fd ps []
section
variable {P : Program} {w : World} {K : PySem.W.Frag} {mg : Str → Option Value} {base : Heap} {S : Addr} {C : Nat → Addr}
/-- refused; only the draws have gone on -/
def WkD (P : Program) (w : World) (K : PySem.W.Frag) (mg : Str → Option Value) (base : Heap) (C : Nat → Addr) (d : Addr) (i : Nat) (f : Addr) (G : Hp) : Prop :=
  ∀ R : Hp → Prop, (∀ H2, But d G H2 → DiceAt H2 d → R H2) → Work P w K mg base 5 f G (fun _ _ => False) (wkE C i 0 R)
theorem dice_out {cs : List Addr} {G : Hp} {d : Addr} (hd : DiceAt G d) (hcs : ∀ c ∈ cs, ∃ o, G c = some (XO o c)) : d ∉ cs := fun m => by
  obtain ⟨o, q⟩ := hcs d m
  obtain ⟨_, _, e⟩ := hd
  rw [e] at q; cases q
theorem dice_ct {cs : List Addr} {G : Hp} {d : Addr} (hd : DiceAt G d) (hcs : ∀ c ∈ cs, ∃ o, G c = some (XO o c)) : DiceAt (ctH cs G) d := let ⟨ns, h, e⟩ := hd; ⟨ns, h, ct_lst hcs e⟩
theorem but_rs {cs : List Addr} {G G' : Hp} {d : Addr} (s : But d (ctH cs G) G') : But d G (rsH cs G G') := fun b o n q => by
  by_cases m : b ∈ cs
  · rw [rsH_in m]; exact q
  · rw [rsH_out m]; exact s b o n (by rw [ctH_out m]; exact q)
theorem end_noneD {cs : List Addr} {G G' : Hp} {d : Addr} {i : Nat} {v : Int} {R : Hp → Prop} (hi : i ≠ 2 ∧ i ≠ 3) (hR : ∀ H2, But d G H2 → DiceAt H2 d → R H2) (hd : d ∉ cs) (s : But d (ctH cs G) G') (d' : DiceAt G' d) : bkE cs G (wkE C i v R) (.ref (C i)) none G' := fun _ =>
  ⟨⟨rfl, fun z => absurd z hi.1, fun z => absurd z hi.2, fun dd z => by cases z⟩, fun H2 s2 => hR H2 ((but_rs s).trans (.same s2)) (DiceAt.frm (let ⟨ns, h, e⟩ := d'; ⟨ns, h, by rw [rsH_out hd]; exact e⟩) (s2 d))⟩
theorem end_numD {cs : List Addr} {G G' : Hp} {d dd : Addr} {R : Hp → Prop} (hR : ∀ H2, But d G H2 → DiceAt H2 d → R H2) (hd : d ∉ cs) (s : But d (ctH cs G) G') (d' : DiceAt G' d) (hdd : G' dd = none) : bkE cs G (wkE C 3 0 R) (.ref (C 3)) (some dd) (upd G' dd (.xd [("number", .int (0 : Nat))])) := fun nn => by
  have hm : dd ∉ cs := fun m => by
    have z := nn dd m
    rw [upd_same] at z; cases z
  have he : rsH cs G (upd G' dd (.xd [("number", .int (0 : Nat))])) dd = some (.xd [("number", .int (0 : Nat))]) := by rw [rsH_out hm, upd_same]
  refine ⟨⟨rfl, fun z => absurd z (by decide), fun _ => ⟨dd, _, rfl, he, by decide +kernel⟩, fun x z => by cases z; exact ⟨_, he⟩⟩, fun H2 s2 => hR H2 ((but_rs (s.trans (.same (same_upd hdd)))).trans (.same s2)) (DiceAt.frm ?_ (s2 d))⟩
  obtain ⟨ns, h, e⟩ := d'
  exact ⟨ns, h, by rw [rsH_out hd]; exact upd_keep hdd e⟩
theorem ref_useD {X : Cx} {σ : L2.St} {H G : Hp} {f d : Addr} {i : Nat} {Q : VK} (P0 : Plus X σ H G) (hd : DiceAt H d) (hi : i < 6) (hw : WkD P w K mg base C d i f G) (hQ : ∀ H3, But d H H3 → DiceAt H3 d → Q (.bl true) H3) :
    spRef P w K mg base C 5 [.ref f, .str (wdR i), .int 0] G (fun u H2 => (∀ c ∈ capC X.env.cells, H2 c = G c) ∧ Q u (ctH (capC X.env.cells) H2)) E0 := by
  have nd : d ∉ capC X.env.cells := fun m => by
    obtain ⟨xs, e⟩ := hd.some
    rw [P0.no d m] at e; cases e
  refine ⟨f, i, 0, rfl, hi, hw (fun H2 => (∀ c ∈ capC X.env.cells, H2 c = G c) ∧ Q (.bl true) (ctH (capC X.env.cells) H2)) fun H2 s d2 => ⟨fun c m => ?_, hQ _ (fun b o n q => ?_) ?_⟩⟩
  · obtain ⟨y, e⟩ := capC_mem.mp m
    obtain ⟨o, u, q, _⟩ := P0.at' y c e
    rw [s _ _ (fun z => nd (z ▸ m)) q, q]
  · have m : b ∉ capC X.env.cells := fun m => by rw [P0.no b m] at q; cases q
    rw [ctH_out m]
    exact s _ _ n (P0.same _ _ q)
  · obtain ⟨ns, h, e⟩ := d2
    exact ⟨ns, h, by rw [ctH_out nd]; exact e⟩
/-- the shelf's parts are not the draws -/
structure ShD (S : Addr) (H : Hp) (d a b c : Addr) (r p : List Nat) (ks : List Int) (t : Int) : Prop where
  s : Sh S H a b c r p ks t
  dc : DiceAt H d
  nb : b ≠ d
  nc : c ≠ d
theorem ShD.but {H H' : Hp} {d a b c : Addr} {r p : List Nat} {ks : List Int} {t : Int} (s : ShD S H d a b c r p ks t) (b' : But d H H') (d' : DiceAt H' d) : ShD S H' d a b c r p ks t := by
  refine ⟨s.s.frm fun x hx o e => b' x o (fun z => ?_) e, d', s.nb, s.nc⟩
  subst z
  obtain ⟨dx, ho⟩ := s.s.o
  rcases List.mem_cons.mp hx with rfl | hx
  · obtain ⟨_, _, q⟩ := s.dc; rw [q] at ho; cases ho
  · rcases List.mem_cons.mp hx with rfl | hx
    · exact s.nb rfl
    · exact s.nc (List.mem_singleton.mp hx).symm
theorem ShD.ct {cs : List Addr} {G : Hp} {d a b c : Addr} {r p : List Nat} {ks : List Int} {t : Int} (s : ShD S G d a b c r p ks t) (hcs : ∀ c ∈ cs, ∃ o, G c = some (XO o c)) : ShD S (ctH cs G) d a b c r p ks t := by
  obtain ⟨dx, ho⟩ := s.s.o
  exact ⟨⟨⟨dx, ct_keep hcs ho fun o z => by cases z⟩, ct_lst hcs s.s.k, ct_lst hcs s.s.p⟩, dice_ct s.dc hcs, s.nb, s.nc⟩
/-- the keys 0, 2, 4 .. -/
def evens (n : Nat) : List Int := (List.range n).map fun i : Nat => 2 * (i : Int)
theorem ev_mem {n : Nat} {x : Int} : x ∈ evens n ↔ ∃ i : Nat, i < n ∧ x = 2 * (i : Int) := by
  unfold evens
  rw [List.mem_map]
  exact ⟨fun ⟨i, h, e⟩ => ⟨i, List.mem_range.mp h, e.symm⟩, fun ⟨i, h, e⟩ => ⟨i, List.mem_range.mpr h, e.symm⟩⟩
theorem ev_len (n : Nat) : (evens n).length = n := by unfold evens; simp
theorem ev_succ (n : Nat) : evens (n + 1) = evens n ++ [2 * (n : Int)] := by unfold evens; rw [List.range_succ, List.map_append]; rfl
theorem ev_sorted (n : Nat) : (evens n).Pairwise (· < ·) := by
  unfold evens
  rw [List.pairwise_map]
  exact List.pairwise_lt_range.imp fun h => by omega
theorem workS3 (Z : Xs P w K mg base (fun _ => S) C) (T : Txt K mg (fun _ => S)) (OO : OwnS P w K mg base 1 "_law_off" ["_law_d", "_law_most"] spDraw) {G : Hp} {f d a b c : Addr} {r p : List Nat} {t : Int} {n : Nat} (L : LamK G f (ls 3) ["_law_d", "_law_shelf_here", "_law_wide"] [some (.ref d), some (.ref a), some (.int n)]) (s : ShD S G d a b c r p (evens n) t) (h1 : 1 ≤ n) (h6 : n ≤ 6) (hp : p.length = n) (hm : many p = n) : WkD P w K mg base C d 4 f G := fun R hR => by
  obtain ⟨fP, fdP, mP, FP, _, bP⟩ := Z.put
  refine L.work (N := ["_law_d", "_law_shelf_here", "_law_wide"]) (nscope_by (by decide +kernel)) (fun _ _ _ _ _ => rfl) (fun qual cl c A outer s G U hr => pe_meth (E := U) (pv 1) T.cl mP FP (hr.mono (by decide)) bP .nil (L2N.passes_call (L2N.takes_of rfl rfl rfl rfl) (fun _ _ _ _ h => h)) (pa_cons (pe_op op_mul pe_int (pe_own OO (hr.mono (by decide)) (pa_cons (pv 0) (pa_cons (pv 2) pa_nil)))) pa_nil)) fun cs hcs => ?_
  have s0 := s.ct hcs
  have nd := dice_out s.dc hcs
  obtain ⟨dx, ho⟩ := s0.s.o
  refine ⟨_, rfl, a, dx, _, rfl, ho, rfl, ?_⟩
  refine ⟨_, rfl, _, rfl, d, n, rfl, by omega, by omega, s0.dc, fun x H' x0 xn d' b' => ⟨_, _, rfl, rfl, .inl ⟨by decide, by decide⟩, ?_⟩⟩
  have s1 := s0.but b' d'
  refine ⟨a, b, c, r, p, evens n, t, 2 * x, rfl, s1.s, ev_mem.mpr ⟨x.toNat, by omega, by omega⟩, ?_⟩
  exact end_noneD (by decide) hR nd b' d'
theorem workS4 (Z : Xs P w K mg base (fun _ => S) C) (T : Txt K mg (fun _ => S)) (OO : OwnS P w K mg base 1 "_law_off" ["_law_d", "_law_most"] spDraw) {G : Hp} {f d a b c : Addr} {r p : List Nat} {t : Int} {n : Nat} (L : LamK G f (ls 4) ["_law_d", "_law_shelf_here", "_law_wide"] [some (.ref d), some (.ref a), some (.int n)]) (s : ShD S G d a b c r p (evens n) t) (h1 : 1 ≤ n) (h6 : n ≤ 6) (hp : p.length = n) (hm : many p = n) : WkD P w K mg base C d 3 f G := fun R hR => by
  obtain ⟨fP, fdP, mP, _, FP, bP⟩ := Z.put
  refine L.work (N := ["_law_d", "_law_shelf_here", "_law_wide"]) (nscope_by (by decide +kernel)) (fun _ _ _ _ _ => rfl) (fun qual cl c A outer s G U hr => pe_meth (E := U) (pv 1) T.cl mP FP (hr.mono (by decide)) bP .nil (L2N.passes_call (L2N.takes_of rfl rfl rfl rfl) (fun _ _ _ _ h => h)) (pa_cons (pe_op op_sub (pe_op op_mul pe_int (pe_own OO (hr.mono (by decide)) (pa_cons (pv 0) (pa_cons (pv 2) pa_nil)))) pe_int) pa_nil)) fun cs hcs => ?_
  have s0 := s.ct hcs
  have nd := dice_out s.dc hcs
  obtain ⟨dx, ho⟩ := s0.s.o
  refine ⟨_, rfl, a, dx, _, rfl, ho, rfl, ?_⟩
  refine ⟨_, rfl, _, rfl, d, n, rfl, by omega, by omega, s0.dc, fun x H' x0 xn d' b' => ⟨_, _, rfl, rfl, .inl ⟨by decide, by decide⟩, _, _, rfl, rfl, ?_⟩⟩
  have s1 := s0.but b' d'
  refine ⟨a, b, c, r, p, evens n, t, 2 * x - 1, rfl, s1.s, fun z => (by obtain ⟨i, _, e⟩ := ev_mem.mp z; omega), by rw [ev_len]; exact h6, by omega, by omega, fun H3 dd sm hdd => ?_⟩
  exact end_numD hR nd (b'.trans (.same sm)) (d'.frm (sm d)) hdd
theorem workS5 (Z : Xs P w K mg base (fun _ => S) C) (T : Txt K mg (fun _ => S)) (OO : OwnS P w K mg base 1 "_law_off" ["_law_d", "_law_most"] spDraw) {G : Hp} {f d a b c : Addr} {r p : List Nat} {t : Int} {n : Nat} (L : LamK G f (ls 5) ["_law_d", "_law_shelf_here", "_law_wide"] [some (.ref d), some (.ref a), some (.int n)]) (s : ShD S G d a b c r p (evens n) t) (h1 : 1 ≤ n) (h6 : n ≤ 6) (hp : p.length = n) (hm : many p = n) : WkD P w K mg base C d 4 f G := fun R hR => by
  obtain ⟨fP, fdP, mP, FP, bP⟩ := Z.take
  refine L.work (N := ["_law_d", "_law_shelf_here", "_law_wide"]) (nscope_by (by decide +kernel)) (fun _ _ _ _ _ => rfl) (fun qual cl c A outer s G U hr => pe_meth (E := U) (pv 1) T.cl mP FP (hr.mono (by decide)) bP .nil (L2N.passes_call (L2N.takes_of rfl rfl rfl rfl) (fun _ _ _ _ h => h)) (pa_cons (pe_op op_add (pe_op op_mul pe_int (pe_own OO (hr.mono (by decide)) (pa_cons (pv 0) (pa_cons (pv 2) pa_nil)))) pe_int) pa_nil)) fun cs hcs => ?_
  have s0 := s.ct hcs
  have nd := dice_out s.dc hcs
  obtain ⟨dx, ho⟩ := s0.s.o
  refine ⟨_, rfl, a, dx, _, rfl, ho, rfl, ?_⟩
  refine ⟨_, rfl, _, rfl, d, n, rfl, by omega, by omega, s0.dc, fun x H' x0 xn d' b' => ⟨_, _, rfl, rfl, .inl ⟨by decide, by decide⟩, _, _, rfl, rfl, ?_⟩⟩
  have s1 := s0.but b' d'
  refine ⟨a, b, c, r, p, evens n, t, 2 * x + 1, rfl, s1.s, fun z => (by obtain ⟨i, _, e⟩ := ev_mem.mp z; omega), ?_⟩
  exact end_noneD (by decide) hR nd b' d'
end
end CK

/-! a full shelf: the law's part -/
namespace CK
open PySem L2 PyProof.Rows LamX NdefX
section
variable {P : Program} {w : World} {K : PySem.W.Frag} {mg : Str → Option Value} {base : Heap} {S : Addr} {C : Nat → Addr} {TT : List NTab}
/-- if not refused(lambda, word, 0): only the draws go on -/
theorem ifD {X : Cx} {σ : L2.St} {H : Hp} {D : Ends} {mk : Addr → LF} {word : Str} {t u : L2.TS} (d : Addr) (i : Nat) (hword : word = wdR i) (hi : i < 6) (hT : TabsN TT H)
    (h : ∀ (f c' : Addr) (H1 : Hp), ExtN H H1 → (∀ b, H1 b = none → H b = none) → TabsN TT H1 → H1 f = some (LamO f (mk c')) → H1 c' = some (CodeO c' (mk c').qual) → DiceAt H1 d ∧ (∀ Hp', Plus X σ H1 Hp' → WkD P w K mg base C d i f Hp') ∧ ∀ H3, But d H1 H3 → DiceAt H3 d → u D σ H3) :
    tIfS (tNot (tB (tOwnP X (spRef P w K mg base C 5) (tCons (tLm TT mk) (tCons (tC (.str word)) (tCons (tC (.int 0)) tNil)))))) t u D σ H := by
  refine ⟨hT, fun f c' H1 e1 n1 t1 z1 l1 k1 Hp' P0 => ?_⟩
  obtain ⟨hd, hw, hQ⟩ := h f c' H1 e1 n1 t1 l1 k1
  rw [hword]
  exact ref_useD (Q := fun v H3 => ∃ c, v = V.bl c ∧ (if (!c) = true then t D σ H3 else u D σ H3)) P0 hd hi (hw Hp' P0) fun H3 b3 d3 => ⟨true, rfl, hQ H3 b3 d3⟩
/-- if not refused(lambda, word, value) -/
theorem ifS {X : Cx} {σ : L2.St} {H : Hp} {D : Ends} {mk : Addr → LF} {word : Str} {tv : TE} {t u : L2.TS} (i : Nat) (v : Int) (hword : word = wdR i) (hi : i < 6) (htv : ∀ G (k : VK), k (.int v) G → tv σ G k) (hT : TabsN TT H)
    (h : ∀ (f c' : Addr) (H1 : Hp), ExtN H H1 → (∀ b, H1 b = none → H b = none) → TabsN TT H1 → H1 f = some (LamO f (mk c')) → H1 c' = some (CodeO c' (mk c').qual) → (∀ Hp', Plus X σ H1 Hp' → WkOk P w K mg base C i v f Hp') ∧ ∀ H3, Same H1 H3 → u D σ H3) :
    tIfS (tNot (tB (tOwnP X (spRef P w K mg base C 5) (tCons (tLm TT mk) (tCons (tC (.str word)) (tCons tv tNil)))))) t u D σ H := by
  refine ⟨hT, fun f c' H1 e1 n1 t1 z1 l1 k1 => htv _ _ fun Hp' P0 => ?_⟩
  obtain ⟨hw, hQ⟩ := h f c' H1 e1 n1 t1 l1 k1
  rw [hword]
  exact ref_use (Q := fun v H3 => ∃ c, v = V.bl c ∧ (if (!c) = true then t D σ H3 else u D σ H3)) P0 hi (hw Hp' P0) fun H3 s3 => ⟨true, rfl, hQ H3 s3⟩
abbrev NS : List Str := ["_law_d", "_law_rule_here", "_law_wide", "_law_shelf_here", "_law_key", "_law_ahead"]
theorem sc__law_shelf : FnScope NS ["_law_d", "_law_rule_here", "_law_wide"] (defScope s__law_shelf) := ⟨rfl, rfl, rfl, by decide +kernel, rfl, by decide +kernel, by decide +kernel⟩
def spShelf (TT : List NTab) : Sp := fun vs H Q _ => ∃ (d : Addr) (r : List Nat) (n : Nat), vs = [.ref d, .str (Tx r), .int n] ∧ r ∈ rules ∧ 1 ≤ n ∧ n ≤ 6 ∧ DiceAt H d ∧ TabsN TT H ∧ ∀ H', Q (.bl true) H'
/-- the shelf is full, what stood there is known -/
structure Full (TT : List NTab) (S : Addr) (H : Hp) (d a b c : Addr) (r p : List Nat) (n : Nat) (t : Int) (A : Addr) : Prop where
  s : ShD S H d a b c r p (evens n) t
  t : TabsN TT H
  a : H A = some (.lst ((evens n).map V.int))
  na : A ≠ d
theorem Full.but {TT : List NTab} {S : Addr} {H H' : Hp} {d a b c : Addr} {r p : List Nat} {n : Nat} {t : Int} {A : Addr} (f : Full TT S H d a b c r p n t A) (b' : But d H H') (d' : DiceAt H' d) : Full TT S H' d a b c r p n t A := ⟨f.s.but b' d', tabs_but f.t f.s.dc b', b' _ _ f.na f.a, f.na⟩
theorem ShD.ext {S : Addr} {H H' : Hp} {d a b c : Addr} {r p : List Nat} {ks : List Int} {t : Int} (s : ShD S H d a b c r p ks t) (e : ExtN H H') : ShD S H' d a b c r p ks t := by
  obtain ⟨dx, ho⟩ := s.s.o
  refine ⟨⟨⟨dx, e _ _ ho (fun _ z => by cases z)⟩, e _ _ s.s.k (fun _ z => by cases z), e _ _ s.s.p (fun _ z => by cases z)⟩, ?_, s.nb, s.nc⟩
  obtain ⟨ns, h1, h2⟩ := s.dc
  exact ⟨ns, h1, e _ _ h2 (fun _ z => by cases z)⟩
theorem Full.ext {TT : List NTab} {S : Addr} {H H' : Hp} {d a b c : Addr} {r p : List Nat} {n : Nat} {t : Int} {A : Addr} (f : Full TT S H d a b c r p n t A) (e : ExtN H H') (t' : TabsN TT H') : Full TT S H' d a b c r p n t A := by
  obtain ⟨dx, ho⟩ := f.s.s.o
  refine ⟨⟨⟨⟨dx, e _ _ ho (fun _ z => by cases z)⟩, e _ _ f.s.s.k (fun _ z => by cases z), e _ _ f.s.s.p (fun _ z => by cases z)⟩, ?_, f.s.nb, f.s.nc⟩, t', e _ _ f.a (fun _ z => by cases z), f.na⟩
  obtain ⟨ns, h1, h2⟩ := f.s.dc
  exact ⟨ns, h1, e _ _ h2 (fun _ z => by cases z)⟩
theorem ev_eqv (n : Nat) (h1 : 1 ≤ n) (h6 : n ≤ 6) : PyData.eqv (.list ((evens n).map PyData.int)) (.list ((evens n).map PyData.int)) = true := by
  have : n = 1 ∨ n = 2 ∨ n = 3 ∨ n = 4 ∨ n = 5 ∨ n = 6 := by omega
  rcases this with rfl | rfl | rfl | rfl | rfl | rfl <;> decide +kernel
theorem no_none (ks : List Int) : inV .non (ks.map V.int) = false := by
  unfold inV
  rw [List.any_map, List.any_eq_false]
  intro x _ z
  cases z
theorem ones_fill {α : Type} {z : α} : ∀ {p : List Nat} {xs : List α}, isBits p = true → many p = p.length → xs.length = p.length → fill z p xs = xs
  | [], xs, _, _, h => by rw [List.length_eq_zero_iff.mp h]; cases xs <;> rfl
  | c :: p, xs, hb, hm, h => by
    obtain ⟨hc, hr⟩ := bits_cons hb
    rcases hc with rfl | rfl
    · have z : many (48 :: p) = many p := many_no (by decide) p
      have y := many_le p
      rw [z] at hm
      simp at hm
      omega
    · have z : many (49 :: p) = many p + 1 := rfl
      rw [z] at hm
      simp at hm
      cases xs with
      | nil => simp at h
      | cons x xs =>
        show x :: fill _ p xs = x :: xs
        rw [ones_fill hr hm (by simpa using h)]
theorem tabs_frm {TT : List NTab} {l : List Addr} {H H' : Hp} (t : TabsN TT H) (hl : ∀ y ∈ l, ∃ o, H y = some o ∧ (∀ ps, o ≠ .tbl ps) ∧ ∀ c q, o ≠ CodeO c q) (b : Frm l H H') : TabsN TT H' := fun p hp => by
  obtain ⟨ps, h1, h2, h3⟩ := t p hp
  refine ⟨ps, b _ _ (fun m => ?_) h1, h2, fun pos cv hc => ?_⟩
  · obtain ⟨o, q, n, _⟩ := hl _ m
    rw [h1] at q
    exact n ps (Option.some.inj q).symm
  · obtain ⟨c, e, q⟩ := h3 pos cv hc
    refine ⟨c, e, b _ _ (fun m => ?_) q⟩
    obtain ⟨o, q', _, n⟩ := hl _ m
    rw [q] at q'
    exact n _ _ (Option.some.inj q').symm
theorem sh_no {S : Addr} {H : Hp} {a b c : Addr} {r p : List Nat} {ks : List Int} {t : Int} (s : Sh S H a b c r p ks t) : ∀ y ∈ [a, b, c], ∃ o, H y = some o ∧ (∀ ps, o ≠ .tbl ps) ∧ ∀ c q, o ≠ CodeO c q := fun y hy => by
  obtain ⟨dx, ho⟩ := s.o
  rcases List.mem_cons.mp hy with rfl | hy
  · exact ⟨_, ho, fun ps z => (by cases z), fun c q z => (by unfold CodeO at z; cases z)⟩
  · rcases List.mem_cons.mp hy with rfl | hy
    · exact ⟨_, s.k, fun ps z => (by cases z), fun c q z => (by unfold CodeO at z; cases z)⟩
    · obtain rfl := List.mem_singleton.mp hy
      exact ⟨_, s.p, fun ps z => (by cases z), fun c q z => (by unfold CodeO at z; cases z)⟩
theorem shd_off {S : Addr} {H : Hp} {d a b c : Addr} {r p : List Nat} {ks : List Int} {t : Int} (s : ShD S H d a b c r p ks t) : d ∉ [a, b, c] := fun m => by
  obtain ⟨dx, ho⟩ := s.s.o
  rcases List.mem_cons.mp m with rfl | m
  · obtain ⟨_, _, q⟩ := s.dc; rw [q] at ho; cases ho
  · rcases List.mem_cons.mp m with rfl | m
    · exact s.nb rfl
    · exact s.nc (List.mem_singleton.mp m).symm
theorem ok_shelf {c Pt : Addr} {f : Addr} {fd : FuncData} (F : FunV K "_law_shelf" "_law_shelf" s__law_shelf (.ref c) f fd) (T : Txt K mg (fun _ => S)) (TB : TabB base mg c Pt) (hm : (Pt, nmL) ∈ TT) (hu : ∀ p ∈ TT, p.2 = nmL) (Z : Xs P w K mg base (fun _ => S) C)
    (OO : OwnS P w K mg base 1 "_law_off" ["_law_d", "_law_most"] spDraw) (OR : OwnS P w K mg base 6 "_law_refused" ["_law_work", "_law_word", "_law_value"] (spRef P w K mg base C 5))
    (MI : MkS P w K mg base 2 S "Shelf" ["self", "rule", "wide"] (spOf (fun _ => S) c_Shelf___init__)) (MP : MethS P w K mg base 4 S "put_in" ["self", "key"] (spOf (fun _ => S) c_Shelf_put_in)) (MS : MethS P w K mg base 1 S "standing" ["self"] (spOf (fun _ => S) c_Shelf_standing)) :
    FnOk P w K mg base CX0 7 f fd ["_law_d", "_law_rule_here", "_law_wide"] (spShelf TT) := by
  have hu' : ∀ p ∈ TT, p.1 = Pt → p.2 = nmL := fun p h _ => hu p h
  obtain ⟨fI, fdI, FI, M, bI, hC⟩ := MI.ex
  obtain ⟨fP, fdP, FP, mP, bP⟩ := MP.ex
  obtain ⟨fS, fdS, FS, mS, bS⟩ := MS.ex
  refine F.ok sc__law_shelf (fun vs H Q E h => ?_) fun A outer s H vs Q E hr h => ?_
  · obtain ⟨d, r, n, rfl, _⟩ := h
    rfl
  · obtain ⟨d, r, n, rfl, hr0, h1, h6, hd, hT, kq⟩ := h
    have nd := sc__law_shelf.nd
    have hf : ∀ x c', (cxOf CX0 P w K mg base NS "_law_shelf" (defScope s__law_shelf) f (.ref c) A outer s H E).nox.env.cells.lookup x = some c' → (cxOf CX0 P w K mg base NS "_law_shelf" (defScope s__law_shelf) f (.ref c) A outer s H E).nox.fn x = true := fun _ _ _ => rfl
    refine ⟨_, (pss_cons (ps_set (i := 3) nd rfl (by first | exact Or.inl rfl | exact Or.inr rfl) (pe_make M FI (hr.mono (by decide)) (by rfl) hC bI .nil pass0 (pa_cons (pv 1) (pa_cons (pv 2) pa_nil))))
      (pss_cons (ps_for PassesOwn.never rfl (pi_range1 (by rfl) T.n_range (pa_cons (pv 2) pa_nil)) (pg_name (i := 4) nd rfl (by first | exact Or.inl rfl | exact Or.inr rfl)) (pss_one (ps_expr (pe_meth (pv 3) T.cl mP FP (hr.mono (by decide)) bP .nil pass0 (pa_cons (pe_op op_mul (pv 4) pe_int) pa_nil)))))
      (pss_cons (ps_set (i := 5) nd rfl (by first | exact Or.inl rfl | exact Or.inr rfl) (pe_meth0 (pv 3) T.cl mS FS (hr.mono (by decide)) bS .nil pass0))
      (pss_cons (ps_if (pt_not (pt_val (pe_ownP hf OR hr (pa_cons (pe_lm (T := TT) (nm := nmL) TB rfl hm rfl hu' (show lmOk (ls 3) s__law_shelf by decide +kernel) rfl) (pa_cons pe_str (pa_cons pe_int pa_nil)))))) (pss_one (ps_ret pe_bl)) pss_nil)
      (pss_cons (ps_if (pt_not (pt_val (pe_ownP hf OR hr (pa_cons (pe_lm (T := TT) (nm := nmL) TB rfl hm rfl hu' (show lmOk (ls 4) s__law_shelf by decide +kernel) rfl) (pa_cons pe_str (pa_cons pe_int pa_nil)))))) (pss_one (ps_ret pe_bl)) pss_nil)
      (pss_cons (ps_if (pt_not (pt_val (pe_ownP hf OR hr (pa_cons (pe_lm (T := TT) (nm := nmL) TB rfl hm rfl hu' (show lmOk (ls 5) s__law_shelf by decide +kernel) rfl) (pa_cons pe_str (pa_cons pe_int pa_nil)))))) (pss_one (ps_ret pe_bl)) pss_nil)
      (pss_one (ps_ret (pe_and (pe_cmpR (op_eqD (hr64 hr)) (pe_meth0 (pv 3) T.cl mS FS (hr.mono (by decide)) bS .nil pass0) (pv 5) (by with_unfolding_all rfl)) (pe_one (pe_cmpR op_notIn_seq pe_non (pv 5) (by with_unfolding_all rfl)))))))))))), ?_⟩
    refine ⟨_, rfl, _, rfl, fun x dx nx ndx ne => ?_⟩
    have s1 : Same H (upd (upd H dx (.own x)) x (.ins S dx [])) := (same_upd ndx).trans (same_upd (by rw [upd_ne (Ne.symm ne)]; exact nx))
    have e5 : (upd (upd H dx (.own x)) x (.ins S dx [])) x = some (.ins S dx []) := upd_same
    generalize upd (upd H dx (.own x)) x (.ins S dx []) = G1 at *
    refine make_call (E := E0) rfl hr0 h1 h6 e5 fun G2 b c1 sh nb nc nbc fr => ⟨rfl, ?_⟩
    have s2 : Same H G2 := fun y o e => fr y o (by simp; exact ne_of_none e nx) (s1 y o e)
    have hd1 : DiceAt G1 d := hd.frm (s1 d)
    have hd2 : DiceAt G2 d := hd.frm (s2 d)
    have nbd : ∀ y, G1 y = none → y ≠ d := fun y e z => by
      obtain ⟨_, _, q⟩ := hd1
      rw [z, q] at e; cases e
    refine ⟨_, rfl, (n : Int), rfl, by omega, by omega, ?_⟩
    rw [Int.toNat_natCast]
    refine for_range (lo := 0) (n := n) (fun k σ G => ∃ p c2 t y, σ = [some (.ref d), some (.str (Tx r)), some (.int n), some (.ref x), y, none] ∧ ShD S G d x b c2 r p (evens k) t ∧ TabsN TT G ∧ isBits p = true ∧ p.length = n ∧ many p = k ∧ b ≠ c2)
      ⟨zeros n, c1, 0, none, rfl, ⟨sh, hd2, nbd _ nb, nbd _ nc⟩, hT.ext s2, (zeros_ok n).1, (zeros_ok n).2.2, (zeros_ok n).2.1, nbc⟩ ?_ ?_
    · rintro k σ G hk ⟨p, c2, t, y, rfl, sd, tG, pb, pl', pm, nbc2⟩
      obtain ⟨dx2, ho2⟩ := sd.s.o
      have g := good_step (r := r) (p := p) (d := (true, k)) hr0 pb (by omega) (by omega) (k := k + 1) (by
        show (if k ≤ many p ∧ many p < p.length then some (many p + 1) else none) = some (k + 1)
        rw [if_pos ⟨by omega, by omega⟩, pm])
      obtain ⟨gpt, gm⟩ := g.put rfl
      have e2 : ((0 : Int) + (k : Int)) * 2 = 2 * (k : Int) := by omega
      have ek : evens (k + 1) = evens k ++ [((0 : Int) + (k : Int)) * 2] := by rw [e2]; exact ev_succ k
      refine ⟨_, rfl, x, dx2, _, rfl, ho2, flds_no, _, rfl, _, _, rfl, rfl, .inr ⟨by decide, by decide⟩, ?_⟩
      refine put_call (E := E0) (ks := evens (k + 1)) (x := ((0 : Int) + (k : Int)) * 2) gpt g.len (ev_sorted (k + 1)) (by rw [ev_len, pm]) (by rw [ek, List.getElem?_append_right (by rw [ev_len]; exact Nat.le_refl _), ev_len, Nat.sub_self]; rfl) (by
        rw [ek, List.eraseIdx_append_of_length_le (by rw [ev_len]; exact Nat.le_refl _), ev_len, Nat.sub_self]
        show Sh S G x b c2 r p (evens k ++ []) t
        rw [List.append_nil]
        exact sd.s) nbc2 fun G' c3 sh3 nbc3 hc3 fr3 => ?_
      have off := shd_off sd
      have d3 : DiceAt G' d := sd.dc.frm fun o e => fr3 d o off e
      refine ⟨_, c3, _, _, rfl, ⟨sh3, d3, sd.nb, ?_⟩, tabs_frm tG (sh_no sd.s) fr3, g.bits, g.len.trans pl', by rw [gm, pm], nbc3⟩
      rcases hc3 with rfl | hc3
      · exact sd.nc
      · intro z
        obtain ⟨_, _, q⟩ := sd.dc
        rw [z, q] at hc3; cases hc3
    · rintro σ G ⟨p, c2, t, y, rfl, sd, tG, pb, pl', pm, nbc2⟩
      obtain ⟨dx2, ho2⟩ := sd.s.o
      refine ⟨_, rfl, x, dx2, _, rfl, ho2, flds_no, ?_⟩
      refine stand_call (E := E0) hr0 pb (by omega) (by omega) (ev_sorted n) (by rw [ev_len, pm]) sd.s nbc2 fun G3 A0 sh3 hA nA fr3 => ?_
      have off := shd_off sd
      have eR : rowV p (evens n) = (evens n).map V.int := ones_fill pb (by omega) (by rw [List.length_map, ev_len, pl'])
      rw [eR] at hA
      have Fu : Full TT S G3 d x b c2 r p n t A0 := ⟨⟨sh3, sd.dc.frm fun o e => fr3 d o off e, sd.nb, sd.nc⟩, tabs_frm tG (sh_no sd.s) fr3, hA, fun z => by
        obtain ⟨_, _, q⟩ := sd.dc
        rw [z, q] at nA; cases nA⟩
      refine ifD (TT := TT) d 4 rfl (by decide) Fu.t fun f3 c3 J3 e3 n3 t3 l3 k3 => ?_
      have a3 : LmAt _ J3 f3 (ls 3) := ⟨_, l3, k3, rfl, rfl, rfl, rfl⟩
      have E3 := Fu.ext e3 t3
      refine ⟨E3.s.dc, fun Hp' P0 => ?_, fun H3 b3 d3 => ?_⟩
      · exact workS3 Z T OO (a3.known (js := [0, 3, 2]) (fr := ["_law_d", "_law_shelf_here", "_law_wide"]) P0 (show lmOk (ls 3) s__law_shelf by decide +kernel) (by decide +kernel) rfl) (E3.s.ext (.of P0.same)) h1 h6 pl' pm
      have F3 := E3.but b3 d3
      refine ifD (TT := TT) d 3 rfl (by decide) F3.t fun f4 c4 J4 e4 n4 t4 l4 k4 => ?_
      have a4 : LmAt _ J4 f4 (ls 4) := ⟨_, l4, k4, rfl, rfl, rfl, rfl⟩
      have E4 := F3.ext e4 t4
      refine ⟨E4.s.dc, fun Hp' P0 => ?_, fun H4 b4 d4 => ?_⟩
      · exact workS4 Z T OO (a4.known (js := [0, 3, 2]) (fr := ["_law_d", "_law_shelf_here", "_law_wide"]) P0 (show lmOk (ls 4) s__law_shelf by decide +kernel) (by decide +kernel) rfl) (E4.s.ext (.of P0.same)) h1 h6 pl' pm
      have F4 := E4.but b4 d4
      refine ifD (TT := TT) d 4 rfl (by decide) F4.t fun f5 c5 J5 e5 n5 t5 l5 k5 => ?_
      have a5 : LmAt _ J5 f5 (ls 5) := ⟨_, l5, k5, rfl, rfl, rfl, rfl⟩
      have E5 := F4.ext e5 t5
      refine ⟨E5.s.dc, fun Hp' P0 => ?_, fun H5 b5 d5 => ?_⟩
      · exact workS5 Z T OO (a5.known (js := [0, 3, 2]) (fr := ["_law_d", "_law_shelf_here", "_law_wide"]) P0 (show lmOk (ls 5) s__law_shelf by decide +kernel) (by decide +kernel) rfl) (E5.s.ext (.of P0.same)) h1 h6 pl' pm
      have F5 := E5.but b5 d5
      obtain ⟨dx5, ho5⟩ := F5.s.s.o
      refine ⟨_, rfl, x, dx5, _, rfl, ho5, flds_no, ?_⟩
      refine stand_call (E := E0) hr0 pb (by omega) (by omega) (ev_sorted n) (by rw [ev_len, pm]) F5.s.s nbc2 fun G6 R sh6 hR nR fr6 => ?_
      rw [eR] at hR
      have hA6 := fr6 A0 _ (fun m => by obtain ⟨o, q, _⟩ := sh_no sd.s _ m; rw [nA] at q; cases q) F5.a
      refine ⟨_, rfl, _, _, .lst (SqL.of hR) (dp_ints _), .lst (SqL.of hA6) (dp_ints _), shaped_ints _, shaped_ints _, ?_⟩
      refine ⟨_, rfl, ite_yes (ev_eqv n h1 h6) ?_⟩
      refine ⟨_, rfl, A0, _, rfl, .inl (SqL.of hA6), rfl, ints_flat _, ?_⟩
      rw [if_pos rfl, no_none]
      exact kq _
end
end CK

/-! the lambda with a default -/
namespace CK
open PySem L2 PyProof.Rows LamX NdefX
def lam2 : Option Stmt → Expr
  | some (.Assign _ (.List (_ :: e :: _) _) _) => e
  | _ => .Constant .none 0 default
def ll2 : Expr := lam2 (defBody s_law)[17]?
section
variable {P : Program} {w : World} {K : PySem.W.Frag} {mg : Str → Option Value} {base : Heap} {cc : Nat → Addr} {C : Nat → Addr}
theorem workL17b (Z : Xs P w K mg base cc C) {G : Hp} {f : Addr} {r : Str} {n m : Int} (L : LamKD G f ll2 (.int 0) ["_law_rule_here", "_law_good", "_law_far"] [some (.str r), some (.int n), some (.int m)]) (h1 : okRule r) (h2 : okWide n) (h3 : 0 ≤ m) : WkOk P w K mg base C 5 0 f G := fun R hR => by
  refine L.work (a := "_law_a") (N := ["_law_a", "_law_rule_here", "_law_good", "_law_far"]) (nscope_by (by decide +kernel)) (fun _ _ _ _ _ _ _ => ⟨_, rfl, fun u => rfl⟩) (fun qual cl c A outer s G U hr => pe_ownW (L2N.takes_of rfl rfl rfl rfl) Z.shows (hr.mono (by decide)) (pa_cons (pv 1) (pa_cons (pv 2) (pa_cons pe_int (pa_cons (pe_op op_sub pe_int (pv 3)) (pa_cons (pe_lst pa_nil) pa_nil))))) (hg := by rfl)) fun cs hcs => ?_
  refine ⟨_, rfl, _, rfl, _, rfl, _, _, rfl, rfl, (show 0 ≤ sizeLine by rw [sizeLine_eq]; decide), fun a na => ?_⟩
  exact ⟨r, n, 0, 0 - m, .ref a, rfl, .inr <| .inr ⟨h1, h2, fun z => by omega, end_none (by decide) hR (same_upd (o := .lst []) na)⟩⟩
end
end CK

set_option maxHeartbeats 20000000
/-! the law -/
namespace CK
open PySem L2 PyProof.Rows LamX NdefX
theorem ones_join : ∀ p : List Nat, TL.joinL [] (p.map fun c => [c]) = p
  | [] => rfl
  | [c] => rfl
  | c :: d :: r => by
    show [c] ++ ([] ++ TL.joinL [] ((d :: r).map fun c => [c])) = _
    rw [ones_join (d :: r)]
    rfl
theorem join_bits (p : List Nat) : Txt.join "" (p.map fun c => Tx [c]) = Tx p := by
  have e : (p.map fun c => Tx [c]) = (p.map fun c => [c]).map Tx := by rw [List.map_map]; rfl
  rw [e, show ("" : Str) = Tx [] by decide +kernel, join_Tx, ones_join]
theorem ones_len : ∀ p : List Nat, ((p.map fun c => Tx [c]).map (·.length)).sum = p.length
  | [] => rfl
  | c :: r => by
    rw [List.map_cons, List.map_cons, List.sum_cons, ones_len r, List.length_cons]
    show 1 + _ = _
    omega
theorem isBits_snoc : ∀ {p : List Nat} {c : Nat}, isBits p = true → (c = 48 ∨ c = 49) → isBits (p ++ [c]) = true
  | [], c, _, hc => by rcases hc with rfl | rfl <;> rfl
  | x :: r, c, h, hc => by
    obtain ⟨hx, hr⟩ := bits_cons h
    have ih := isBits_snoc hr hc
    rcases hx with rfl | rfl
    · exact ih
    · exact ih
theorem bits_zero : ∀ {p : List Nat}, isBits p = true → many p = 0 → p = zeros p.length
  | [], _, _ => rfl
  | c :: p, hb, hm => by
    obtain ⟨hc, hr⟩ := bits_cons hb
    rcases hc with rfl | rfl
    · have z : many (48 :: p) = many p := many_no (by decide) p
      rw [z] at hm
      show 48 :: p = 48 :: zeros p.length
      rw [← bits_zero hr hm]
    · have z : many (49 :: p) = many p + 1 := rfl
      rw [z] at hm
      cases hm
section
variable {P : Program} {w : World} {K : PySem.W.Frag} {mg : Str → Option Value} {base : Heap} {S : Addr} {C : Nat → Addr} {TT : List NTab}
abbrev NL : List Str := ["_law_script", "_law_d", "_law_far", "_law_wide", "_law_none", "_law_rule_here", "_law_good", "_law_pattern_here", "_law_bad", "_law_at", "_law_deed", "_law_works_here", "_law_work", "_law_long"]
theorem sc_law : FnScope NL ["_law_script"] (defScope s_law) := ⟨rfl, rfl, rfl, by decide +kernel, rfl, by decide +kernel, by decide +kernel⟩
def longD : List Deed := (List.replicate 7 [(true, 0), (false, 0)]).flatten
def longA (p q : Addr) : List Addr := (List.replicate 7 [p, q]).flatten
theorem long_tups {H : Hp} {p q : Addr} (h1 : H p = some (.tup [.str "put", .int 0])) (h2 : H q = some (.tup [.str "take", .int 0])) : Tups H (longA p q) longD := by
  have z : Paired (fun t (d : Deed) => H t = some (.tup [.str (wd d.1), .int d.2])) [p, q] [(true, 0), (false, 0)] := .cons h1 (.cons h2 .nil)
  exact Pd.rep z 7
theorem long_cnt {n : Nat} (h1 : 1 ≤ n) (h6 : n ≤ 6) : cnt n 0 longD = some 0 := by
  have : n = 1 ∨ n = 2 ∨ n = 3 ∨ n = 4 ∨ n = 5 ∨ n = 6 := by omega
  rcases this with rfl | rfl | rfl | rfl | rfl | rfl <;> decide +kernel
theorem long_bad {n : Nat} (h1 : 1 ≤ n) (h6 : n ≤ 6) : firstBad n 0 0 (longD.map dtx) = some 12 := by
  have : n = 1 ∨ n = 2 ∨ n = 3 ∨ n = 4 ∨ n = 5 ∨ n = 6 := by omega
  rcases this with rfl | rfl | rfl | rfl | rfl | rfl <;> decide +kernel
theorem long_run {r : List Nat} {n : Nat} (hr : r ∈ rules) (h1 : 1 ≤ n) (h6 : n ≤ 6) : (runM r (zeros n) longD).2 = zeros n := by
  obtain ⟨zb, zm, zl⟩ := zeros_ok n
  obtain ⟨a, b, c⟩ := run_state hr h1 h6 longD zb zl (by rw [zm]; exact long_cnt h1 h6)
  have e := bits_zero a c
  rw [b] at e
  exact e
theorem worksAll (Z : Xs P w K mg base (fun _ => S) C) {G : Hp} {f : Addr} {r : Str} {n : Int} {i j : Nat} (hj : j < 5) (L : LamK G f (lw j) WN [some (.str r), some (.int n)]) (h : (i = 1 ∧ ¬ okRule r) ∨ (i = 0 ∧ okRule r ∧ ¬ okWide n)) (v : Int) : WkOk P w K mg base C i v f G :=
  match j, hj, L with
  | 0, _, L => work0 Z L h v
  | 1, _, L => work1 Z L h v
  | 2, _, L => work2 Z L h v
  | 3, _, L => work3 Z L h v
  | 4, _, L => work4 Z L h v
theorem GrB.tup {TT : List NTab} {a t : Addr} {H G : Hp} {xs : List V} (g : GrB TT a H G) (d : DiceAt H a) (e : H t = some (.tup xs)) : G t = some (.tup xs) := g.e t _ (fun z => by obtain ⟨_, _, q⟩ := d; rw [z, q] at e; cases e) e (fun _ z => by cases z)
/-- if not refused(lambda, word, value) or ..: the first part is not so -/
theorem ifSor {X : Cx} {σ : L2.St} {H : Hp} {D : Ends} {mk : Addr → LF} {word : Str} {tv : TE} {t u : L2.TS} {tt : L2.TT} (i : Nat) (v : Int) (hword : word = wdR i) (hi : i < 6) (htv : ∀ G (k : VK), k (.int v) G → tv σ G k) (hT : TabsN TT H)
    (h : ∀ (f c' : Addr) (H1 : Hp), ExtN H H1 → (∀ b, H1 b = none → H b = none) → TabsN TT H1 → H1 f = some (LamO f (mk c')) → H1 c' = some (CodeO c' (mk c').qual) → (∀ Hp', Plus X σ H1 Hp' → WkOk P w K mg base C i v f Hp') ∧ ∀ H3, Same H1 H3 → tt σ H3 fun b H4 => if b = true then t D σ H4 else u D σ H4) :
    tIfS (tOr (tNot (tB (tOwnP X (spRef P w K mg base C 5) (tCons (tLm TT mk) (tCons (tC (.str word)) (tCons tv tNil)))))) tt) t u D σ H := by
  refine ⟨hT, fun f c' H1 e1 n1 t1 z1 l1 k1 => htv _ _ fun Hp' P0 => ?_⟩
  obtain ⟨hw, hQ⟩ := h f c' H1 e1 n1 t1 l1 k1
  rw [hword]
  exact ref_use (Q := fun y H3 => ∃ c, y = V.bl c ∧ (if (!c) = true then (if true = true then t D σ H3 else u D σ H3) else tt σ H3 fun b H4 => if b = true then t D σ H4 else u D σ H4)) P0 hi (hw Hp' P0) fun H3 s3 => ⟨true, rfl, hQ H3 s3⟩
/-- if [work for work in works if not refused(work, word, v)] != [] -/
theorem ifN {X : Cx} {σ : L2.St} {H1 : Hp} {D : Ends} {Lw : Addr} {jw jx : Nat} {fs : List Addr} {word : Str} {tv : TE} {t u : L2.TS} (i : Nat) (v : Int)
    (s0 : σ[jw]? = some (some (.ref Lw))) (hjx : jx < σ.length) (hL : H1 Lw = some (.lst (fs.map V.ref))) (hword : word = wdR i) (hi : i < 6) (htv : ∀ f G (k : VK), k (.int v) G → tv (σ.set jx (some (.ref f))) G k)
    (hw : ∀ f ∈ fs, ∀ G Hp', Same H1 G → Plus X (σ.set jx (some (.ref f))) G Hp' → WkOk P w K mg base C i v f Hp') (q : ∀ H3, Same H1 H3 → u D σ H3) :
    tIfS (tTest (tOp (rNeD X.K) (tNo (iList X.K (tVar jw)) (gName jx) (tNot (tB (tOwnP X (spRef P w K mg base C 5) (tCons (tVar jx) (tCons (tC (.str word)) (tCons tv tNil)))))) [jx]) (tLst tNil))) t u D σ H1 := by
  delta tIfS tTest tOp
  refine lcNot_use s0 hjx hL hword hi htv hw fun L H' s nL eL => ?_
  refine ⟨(show 0 ≤ sizeLine by rw [sizeLine_eq]; decide), fun E nE => ?_⟩
  have z := q _ (s.trans (same_upd (o := .lst []) nE))
  refine ⟨.list [], .list [], .lst (SqL.of (upd_keep nE eL)) .nil, .lst (SqL.of upd_same) .nil, by decide +kernel, by decide +kernel, _, rfl, ?_⟩
  rw [show PyData.eqv (.list []) (.list []) = true by decide +kernel]
  exact ite_no rfl z
/-- between the law's rows -/
def tSt (TT : List NTab) : L2.TS := fun D σ H => ∃ (a0 d td : Addr) (m wv : Int) (no : Str) (r p qb : List Nat) (n : Nat) (sg : List Nat) (kk : Int) (x11 x12 x13 : Option V),
  σ = [some (.ref a0), some (.ref d), some (.int m), some (.int wv), some (.str no), some (.str (Tx r)), some (.int (p.length : Nat)), some (.str (Tx p)), some (.str (Tx qb)), some (.int (n : Nat)), some (.ref td), x11, x12, x13] ∧
  0 ≤ m ∧ ¬ okWide wv ∧ ¬ okRule no ∧ r ∈ rules ∧ isBits p = true ∧ 1 ≤ p.length ∧ p.length ≤ 6 ∧ badAt qb = some n ∧ canB p.length (many p) sg kk = false ∧ DiceAt H d ∧ TabsN TT H ∧ H td = some (.tup [.str (Tx sg), .int kk]) ∧ ∀ H', D.rt (.bl true) H'
def spLaw (K : PySem.W.Frag) (TT : List NTab) : Sp := fun vs H Q _ => ∃ (a : Addr) (ns : List Int), vs = [.ref a] ∧ SqL K H a (ns.map V.int) ∧ ns.length ≤ 63 ∧ TabsN TT H ∧ ∀ H', Q (.bl true) H'
theorem ok_law {c Pt : Addr} {f : Addr} {fd : FuncData} (F : FunV K "law" "law" s_law (.ref c) f fd) (T : Txt K mg (fun _ => S)) (TB : TabB base mg c Pt) (hm : (Pt, nmL) ∈ TT) (hu : ∀ p ∈ TT, p.2 = nmL) (Z : Xs P w K mg base (fun _ => S) C)
    (OD : OwnS P w K mg base 1 "_law_dice" ["_law_script", "_law_k"] (spDice K)) (OO : OwnS P w K mg base 1 "_law_off" ["_law_d", "_law_most"] spDraw) (OU : OwnS P w K mg base 2 "_law_rule" ["_law_d"] spRuleT) (OBP : OwnS P w K mg base 2 "_law_bad_pattern" ["_law_d", "_law_pattern_here"] spBadP) (OBD : OwnS P w K mg base 2 "_law_bad_deed" ["_law_d", "_law_pattern_here"] spBadD)
    (OW : OwnS P w K mg base 1 "_law_works" ["_law_rule_here", "_law_wide"] (spWorks TT)) (OR : OwnS P w K mg base 6 "_law_refused" ["_law_work", "_law_word", "_law_value"] (spRef P w K mg base C 5)) (OF : OwnS P w K mg base 7 "_law_is_found" ["_law_d", "_law_rule_here", "_law_good"] (spFound TT)) (OSh : OwnS P w K mg base 7 "_law_shelf" ["_law_d", "_law_rule_here", "_law_wide"] (spShelf TT))
    (OY : OwnS P w K mg base 4 "played" ["rule", "wide", "deeds"] spPlayed) : FnOk P w K mg base CX0 8 f fd ["_law_script"] (spLaw K TT) := by
  have hu' : ∀ p ∈ TT, p.1 = Pt → p.2 = nmL := fun p h _ => hu p h
  refine F.ok sc_law (fun vs H Q E h => ?_) fun A outer s H vs Q E hr h => ?_
  · obtain ⟨a, ns, rfl, _⟩ := h
    rfl
  · obtain ⟨a0, ns, rfl, hS, hlen, hT, kq⟩ := h
    have nd := sc_law.nd
    have r1 : Room 1 _ := hr.mono (by decide)
    have r2 : Room 2 _ := hr.mono (by decide)
    have r4 : Room 4 _ := hr.mono (by decide)
    have hr6 : Room 6 _ := hr.mono (by decide)
    have hr7 : Room 7 _ := hr
    have small : ∀ k : Nat, k ≤ 20 → k ≤ sizeLine := fun k h => by rw [sizeLine_eq]; omega
    have hf : ∀ x c', (cxOf CX0 P w K mg base NL "law" (defScope s_law) f (.ref c) A outer s H E).nox.env.cells.lookup x = some c' → (cxOf CX0 P w K mg base NL "law" (defScope s_law) f (.ref c) A outer s H E).nox.fn x = true := fun _ _ _ => rfl
    refine ⟨_, (pss_cons (ps_set (i := 1) nd rfl (by first | exact Or.inl rfl | exact Or.inr rfl) (pe_own OD r1 (pa_cons (pv 0) (pa_cons pe_int pa_nil))))
      (pss_cons (ps_set (i := 2) nd rfl (by first | exact Or.inl rfl | exact Or.inr rfl) (pe_callB (call_max2 rfl) (by rfl) T.n_max boot_maxQ (pa_cons pe_int (pa_cons (pe_op op_sub (pe_own OO r1 (pa_cons (pv 1) (pa_cons (pe_op op_pow pe_int pe_int) pa_nil))) pe_int) pa_nil))))
      (pss_cons (ps_set (i := 3) nd rfl (by first | exact Or.inl rfl | exact Or.inr rfl) (pe_ix (r := rIxL K) ix_list (pe_lst (pa_cons pe_int (pa_cons pe_int (pa_cons (pe_op op_sub (pe_un un_neg pe_int) (pv 2)) (pa_cons (pe_op op_add pe_int (pv 2)) pa_nil))))) (pe_own OO r1 (pa_cons (pv 1) (pa_cons pe_int pa_nil))) (fun _ _ => rfl)))
      (pss_cons (ps_set (i := 4) nd rfl (by first | exact Or.inl rfl | exact Or.inr rfl) (pe_ix (r := rIxL K) ix_list (pe_lst (pa_cons pe_str (pa_cons pe_str (pa_cons pe_str (pa_cons pe_str pa_nil))))) (pe_own OO r1 (pa_cons (pv 1) (pa_cons pe_int pa_nil))) (fun _ _ => rfl)))
      (pss_cons (ps_set (i := 5) nd rfl (by first | exact Or.inl rfl | exact Or.inr rfl) (pe_own OU r2 (pa_cons (pv 1) pa_nil)))
      (pss_cons (ps_set (i := 6) nd rfl (by first | exact Or.inl rfl | exact Or.inr rfl) (pe_op op_add pe_int (pe_own OO r1 (pa_cons (pv 1) (pa_cons pe_int pa_nil)))))
      (pss_cons (ps_set (i := 7) nd rfl (by first | exact Or.inl rfl | exact Or.inr rfl) (pe_bm PySem.F.plainAttrs_str PySem.F.slot_str_join PySem.F.type_str_join mt_join pe_str (pa_cons (pe_lc (own := [("_law_at", 9)]) (g := gName 9) (tt := tYes) rfl nd (pi_range1 (by rfl) T.n_range (pa_cons (pv 6) pa_nil)) (blkOk_by (N := NL) (sc := defScope s_law) (by decide +kernel)) (fun _ _ _ _ _ => pg_name (i := 9) nd rfl (Or.inl rfl)) (fun _ _ _ _ _ => pts_nil) (fun _ _ _ _ _ => pe_ix (r := rIxS) ix_str pe_str (pe_own OO r1 (pa_cons (pv 1) (pa_cons pe_int pa_nil))) (fun _ _ => rfl))) pa_nil)))
      (pss_cons (ps_asg (pe_own OBP r2 (pa_cons (pv 1) (pa_cons (pv 7) pa_nil))) (pg_tup rfl (pgs_cons (pg_name (i := 8) nd rfl (by first | exact Or.inl rfl | exact Or.inr rfl)) (pgs_cons (pg_name (i := 9) nd rfl (by first | exact Or.inl rfl | exact Or.inr rfl)) pgs_nil))))
      (pss_cons (ps_set (i := 10) nd rfl (by first | exact Or.inl rfl | exact Or.inr rfl) (pe_own OBD r2 (pa_cons (pv 1) (pa_cons (pv 7) pa_nil))))
      (pss_imp (t' := tSt TT) (pss_cons (ps_set (i := 11) nd rfl (by first | exact Or.inl rfl | exact Or.inr rfl) (pe_op op_cat (pe_own OW r1 (pa_cons (pv 4) (pa_cons (pv 3) pa_nil))) (pe_lst (pa_cons (pe_lm (T := TT) (nm := nmL) TB rfl hm rfl hu' (show lmOk (ll 9) s_law by decide +kernel) rfl) pa_nil))))
      (pss_cons (ps_if (pt_cmpR (op_neD (hr64 hr6)) (pe_lcNot (own := [("_law_work", 12)]) (g := gName 12) rfl nd (pi_list (pv 11)) (blkOk_by (N := NL) (sc := defScope s_law) (by decide +kernel)) hf (show ∀ p ∈ [(("_law_work" : Str), 12)], ¬ ((defScope s_law).names.lookup p.1 = some .cell ∨ (defScope s_law).names.lookup p.1 = some .free) by decide +kernel) OR hr6 (fun _ _ _ _ _ => pg_name (i := 12) nd rfl (Or.inl rfl)) (fun _ _ _ _ _ => pa_cons (pv 12) (pa_cons pe_str (pa_cons pe_int pa_nil)))) (pe_lst pa_nil) (by with_unfolding_all rfl)) (pss_one (ps_ret pe_bl)) pss_nil)
      (pss_imp (t' := tSt TT) (pss_cons (ps_set (i := 11) nd rfl (by first | exact Or.inl rfl | exact Or.inr rfl) (pe_op op_cat (pe_own OW r1 (pa_cons (pv 5) (pa_cons (pv 3) pa_nil))) (pe_lst (pa_cons (pe_lm (T := TT) (nm := nmL) TB rfl hm rfl hu' (show lmOk (ll 11) s_law by decide +kernel) rfl) pa_nil))))
      (pss_cons (ps_if (pt_cmpR (op_neD (hr64 hr6)) (pe_lcNot (own := [("_law_work", 12)]) (g := gName 12) rfl nd (pi_list (pv 11)) (blkOk_by (N := NL) (sc := defScope s_law) (by decide +kernel)) hf (show ∀ p ∈ [(("_law_work" : Str), 12)], ¬ ((defScope s_law).names.lookup p.1 = some .cell ∨ (defScope s_law).names.lookup p.1 = some .free) by decide +kernel) OR hr6 (fun _ _ _ _ _ => pg_name (i := 12) nd rfl (Or.inl rfl)) (fun _ _ _ _ _ => pa_cons (pv 12) (pa_cons pe_str (pa_cons pe_int pa_nil)))) (pe_lst pa_nil) (by with_unfolding_all rfl)) (pss_one (ps_ret pe_bl)) pss_nil)
      (pss_imp (t' := tSt TT) (pss_cons (ps_if (pt_not (pt_val (pe_ownP hf OR hr6 (pa_cons (pe_lm (T := TT) (nm := nmL) TB rfl hm rfl hu' (show lmOk (ll 13) s_law by decide +kernel) rfl) (pa_cons pe_str (pa_cons (pv 9) pa_nil)))))) (pss_one (ps_ret pe_bl)) pss_nil)
      (pss_imp (t' := tSt TT) (pss_cons (ps_if (PW.pt (pw_or (pt_not (pt_val (pe_ownP hf OR hr6 (pa_cons (pe_lm (T := TT) (nm := nmL) TB rfl hm rfl hu' (show lmOk (ll 14) s_law by decide +kernel) rfl) (pa_cons pe_str (pa_cons pe_int pa_nil)))))) (pw_or1 (pt_not (pt_val (pe_own OF hr7 (pa_cons (pv 1) (pa_cons (pv 5) (pa_cons (pv 6) pa_nil))))))))) (pss_one (ps_ret pe_bl)) pss_nil)
      (pss_imp (t' := tSt TT) (pss_cons (ps_set (i := 13) nd rfl (by first | exact Or.inl rfl | exact Or.inr rfl) (pe_op op_rep (pe_lst (pa_cons (pe_tup (pa_cons pe_str (pa_cons pe_int pa_nil))) (pa_cons (pe_tup (pa_cons pe_str (pa_cons pe_int pa_nil))) pa_nil))) pe_int))
      (pss_cons (ps_if (PW.pt (pw_or (pt_not (pt_val (pe_ownP hf OR hr6 (pa_cons (pe_lm (T := TT) (nm := nmL) TB rfl hm rfl hu' (show lmOk (ll 16) s_law by decide +kernel) rfl) (pa_cons pe_str (pa_cons pe_int pa_nil)))))) (pw_or1 (pt_cmpR op_ne (pe_ix (r := rIxT K) ix_tup (pe_own OY r4 (pa_cons (pv 5) (pa_cons (pv 6) (pa_cons (pv 13) pa_nil)))) pe_int (fun _ _ => rfl)) (pe_op op_mul_str pe_str (pv 6)) (nomark _))))) (pss_one (ps_ret pe_bl)) pss_nil)
      (pss_imp (t' := tSt TT) (pss_cons (ps_set (i := 11) nd rfl (by first | exact Or.inl rfl | exact Or.inr rfl) (pe_lst (pa_cons (pe_lm (T := TT) (nm := nmL) TB rfl hm rfl hu' (show lmOk (ll 17) s_law by decide +kernel) rfl) (pa_cons (pe_lmD (TT := TT) (nm := nmL) TB rfl hm rfl hu' (show lmOk ll2 s_law by decide +kernel) pe_int rfl) pa_nil))))
      (pss_cons (ps_if (pt_cmpR (op_neD (hr64 hr6)) (pe_lcNot (own := [("_law_work", 12)]) (g := gName 12) rfl nd (pi_list (pv 11)) (blkOk_by (N := NL) (sc := defScope s_law) (by decide +kernel)) hf (show ∀ p ∈ [(("_law_work" : Str), 12)], ¬ ((defScope s_law).names.lookup p.1 = some .cell ∨ (defScope s_law).names.lookup p.1 = some .free) by decide +kernel) OR hr6 (fun _ _ _ _ _ => pg_name (i := 12) nd rfl (Or.inl rfl)) (fun _ _ _ _ _ => pa_cons (pv 12) (pa_cons pe_str (pa_cons pe_int pa_nil)))) (pe_lst pa_nil) (by with_unfolding_all rfl)) (pss_one (ps_ret pe_bl)) pss_nil)
      (pss_one (ps_ret (pe_own OSh hr7 (pa_cons (pv 1) (pa_cons (pv 5) (pa_cons (pv 6) pa_nil)))))))) ?p17))) ?p15)) ?p14)) ?p13))) ?p11))) ?p9)))))))))), ?main⟩
    case main =>
      refine ⟨_, rfl, a0, ns, 0, rfl, hS, hlen, fun H1 d s1 nd0 d1 => ?_⟩
      have t1 := hT.ext s1
      -- how far
      refine ⟨_, rfl, _, _, rfl, rfl, ⟨by decide, by decide, by decide⟩, d, _, rfl, by decide, by decide, d1, fun x H2 x0 xm d2 b2 => ⟨_, _, rfl, rfl, 0, _, rfl, ?_⟩⟩
      have t2 := tabs_but t1 d1 b2
      have hfar : (0 : Int) ≤ (if (x - 500000 : Int) > 0 then x - 500000 else 0) := by split <;> omega
      generalize (if (x - 500000 : Int) > 0 then x - 500000 else 0) = m at *
      -- a width that is none
      refine ⟨_, rfl, _, rfl, _, _, rfl, rfl, _, rfl, _, _, rfl, rfl, (show 4 ≤ sizeLine by rw [sizeLine_eq]; decide), fun L1 nL1 => ?_⟩
      have d2' := d2.new (o := .lst [.int 0, .int 7, .int (-1 - m), .int (7 + m)]) nL1
      have t2' := t2.ext (same_upd (o := .lst [.int 0, .int 7, .int (-1 - m), .int (7 + m)]) nL1)
      have eL1 : (upd H2 L1 (.lst [.int 0, .int 7, .int (-1 - m), .int (7 + m)])) L1 = some (.lst [.int 0, .int 7, .int (-1 - m), .int (7 + m)]) := upd_same
      generalize upd H2 L1 (.lst [.int 0, .int 7, .int (-1 - m), .int (7 + m)]) = G2 at *
      refine ⟨_, rfl, d, 4, rfl, by decide, by decide, d2', fun y H3 y0 y4 d3 b3 => ?_⟩
      have t3 := tabs_but t2' d2' b3
      have nL1d : L1 ≠ d := fun z => by obtain ⟨_, _, q⟩ := d2; rw [z, q] at nL1; cases nL1
      obtain ⟨wv, hwv, ewv⟩ : ∃ wv : Int, ¬ okWide wv ∧ atI [V.int 0, V.int 7, V.int (-1 - m), V.int (7 + m)] y = some (.int wv) := by
        have h4 : y = 0 ∨ y = 1 ∨ y = 2 ∨ y = 3 := by omega
        rcases h4 with rfl | rfl | rfl | rfl
        · exact ⟨0, fun z => by have := z.1; omega, rfl⟩
        · exact ⟨7, fun z => by have := z.2; omega, rfl⟩
        · exact ⟨-1 - m, fun z => by have := z.1; omega, rfl⟩
        · exact ⟨7 + m, fun z => by have := z.2; omega, rfl⟩
      refine ⟨L1, _, y, .int wv, rfl, rfl, SqL.of (b3 _ _ nL1d eL1), ewv, ?_⟩
      -- a rule that is none
      refine ⟨(show 4 ≤ sizeLine by rw [sizeLine_eq]; decide), fun L2 nL2 => ?_⟩
      have d3' := d3.new (o := .lst [.str "", .str "Near", .str "nearest", .str "right"]) nL2
      have t3' := t3.ext (same_upd (o := .lst [.str "", .str "Near", .str "nearest", .str "right"]) nL2)
      have eL2 : (upd H3 L2 (.lst [.str "", .str "Near", .str "nearest", .str "right"])) L2 = some (.lst [.str "", .str "Near", .str "nearest", .str "right"]) := upd_same
      generalize upd H3 L2 (.lst [.str "", .str "Near", .str "nearest", .str "right"]) = G3 at *
      refine ⟨_, rfl, d, 4, rfl, by decide, by decide, d3', fun y' H4 y0' y4' d4 b4 => ?_⟩
      have t4 := tabs_but t3' d3' b4
      have nL2d : L2 ≠ d := fun z => by obtain ⟨_, _, q⟩ := d3; rw [z, q] at nL2; cases nL2
      obtain ⟨no, hno, eno⟩ : ∃ no : Str, ¬ okRule no ∧ atI [V.str "", V.str "Near", V.str "nearest", V.str "right"] y' = some (.str no) := by
        have h4 : y' = 0 ∨ y' = 1 ∨ y' = 2 ∨ y' = 3 := by omega
        rcases h4 with rfl | rfl | rfl | rfl
        · exact ⟨"", by unfold okRule; decide +kernel, rfl⟩
        · exact ⟨"Near", by unfold okRule; decide +kernel, rfl⟩
        · exact ⟨"nearest", by unfold okRule; decide +kernel, rfl⟩
        · exact ⟨"right", by unfold okRule; decide +kernel, rfl⟩
      refine ⟨L2, _, y', .str no, rfl, rfl, SqL.of (b4 _ _ nL2d eL2), eno, ?_⟩
      -- a rule, a width, a pattern
      refine ⟨_, rfl, d, rfl, d4, fun r H5 hr0 d5 b5 => ?_⟩
      have t5 := tabs_but t4 d4 b5
      refine ⟨_, rfl, d, 6, rfl, by decide, by decide, d5, fun q H6 q0 q6 d6 b6 => ⟨_, _, rfl, rfl, ?_⟩⟩
      have t6 := tabs_but t5 d5 b6
      obtain ⟨j, rfl⟩ : ∃ j : Nat, q = (j : Int) := ⟨q.toNat, by omega⟩
      refine ⟨rfl, _, rfl, 1 + (j : Int), rfl, by omega, by omega, fun D hD => ?_⟩
      have nD : d ≠ D := by obtain ⟨_, _, e⟩ := d6; exact ne_of_none e hD
      refine lc_range (lo := 0) (n := (1 + (j : Int)).toNat) (g := gName 9) (fun i H' => DiceAt H' d ∧ TabsN TT H' ∧ ∃ p, isBits p = true ∧ p.length = i ∧ H' D = some (.lst (p.map fun c => V.str (Tx [c])))) ⟨d6.new hD, t6.ext (same_upd hD), [], rfl, rfl, upd_same⟩ ?_ ?_
      · rintro i H7 hi7 ⟨d7, t7, p, pb, pl', hD7⟩
        refine ⟨rfl, yes_rd ?_⟩
        refine ⟨_, rfl, d, 2, rfl, by decide, by decide, d7, fun z H8 z0 z2 d8 b8 => ?_⟩
        have hD8 := b8 D _ (Ne.symm nD) hD7
        obtain ⟨c', hc, ec⟩ : ∃ c' : Nat, (c' = 48 ∨ c' = 49) ∧ atI ("01" : Str).cps.toList z = some c' := by
          have : z = 0 ∨ z = 1 := by omega
          rcases this with rfl | rfl
          · exact ⟨48, .inl rfl, by decide +kernel⟩
          · exact ⟨49, .inr rfl, by decide +kernel⟩
        refine ⟨_, _, c', rfl, rfl, (show ("01" : Str).length ≤ sizeLine by decide +kernel), ec, _, hD8, ?_, ?_, tabs_up (tabs_but t7 d7 b8) hD8, p ++ [c'], isBits_snoc pb hc, by rw [List.length_append, pl']; rfl, ?_⟩
        · rw [List.length_map, sizeLine_eq]; omega
        · obtain ⟨ms, hm', e⟩ := d8
          exact ⟨ms, hm', by rw [upd_ne nD]; exact e⟩
        · rw [upd_same, List.map_append]; rfl
      rintro H7 ⟨d7, t7, p, pb, pl', hD7⟩
      have hD7' : H7 D = some (.lst ((p.map fun c => Tx [c]).map V.str)) := by rw [hD7, List.map_map]; rfl
      refine ⟨"", D, p.map fun c => Tx [c], rfl, rfl, .inl (SqL.of hD7'), ?_, ?_⟩
      · rw [ones_len, List.length_map]
        show p.length + p.length * 0 ≤ 16777216
        omega
      rw [join_bits]
      have en : 1 + (j : Int) = (p.length : Nat) := by omega
      have h1 : 1 ≤ p.length := by omega
      have h6 : p.length ≤ 6 := by omega
      have ej : j = p.length - 1 := by omega
      have eq1 : some (some ((fun i j => V.int (i + j)) 1 (j : Int))) = some (some (V.int (p.length : Nat))) := congrArg (fun u => some (some (V.int u))) en
      generalize hg : ((fun i j => V.int (i + j)) (1 : Int) (j : Int)) = gv
      have eg : gv = V.int (p.length : Nat) := hg.symm.trans (congrArg V.int en)
      subst eg
      clear hg eq1
      -- a pattern that is none, a deed that can't be done
      refine ⟨_, rfl, _, rfl, d, p, rfl, d7, pb, h1, h6, fun H8 tb qb n d8 b8 ztb etb hbad => ?_⟩
      have t8 := tabs_but t7 d7 b8
      refine ⟨tb, _, rfl, SqT.of etb, rfl, _, _, rfl, _, _, rfl, rfl, ?_⟩
      refine ⟨_, rfl, _, rfl, d, p, rfl, d8, pb, h1, h6, fun H9 td sg kk d9 b9 ztd etd hcan => ?_⟩
      have t9 := tabs_but t8 d8 b9
      exact ⟨a0, d, td, m, wv, no, r, p, qb, n, sg, kk, none, none, none, rfl, hfar, hwv, hno, hr0, pb, h1, h6, hbad, hcan, d9, t9, etd, kq⟩
    case p9 =>
      rintro D σ H9 ⟨a0, d, td, m, wv, no, r, p, qb, n, sg, kk, x11, x12, x13, rfl, hfar, hwv, hno, hr0, pb, h1, h6, hbad, hcan, d9, t9, etd, kq⟩
      have okr : okRule (Tx r) := rule_ok r hr0
      have g9 := GrB.refl t9 d9
      -- works, one more
      refine ⟨_, rfl, _, rfl, no, wv, rfl, g9.t, fun Aa La fsa wa nLa eLa l5a hka => ?_⟩
      refine ⟨wa.t, fun fa ca Ba ea na tta za la ka => ⟨small 1 (by decide), fun Qa nQa => ⟨La, Qa, _, _, rfl, rfl, upd_keep nQa (ea _ _ eLa (fun _ z => by cases z)), upd_same, (by rw [List.length_map, l5a]; exact small 6 (by decide)), fun Ma nMa => ?_⟩⟩⟩
      have aa : LmAt _ Ba fa (ll 9) := ⟨_, la, ka, rfl, rfl, rfl, rfl⟩
      clear la ka
      have sa : Same Ba (upd (upd Ba Qa (.lst [.ref fa])) Ma (.lst (fsa.map V.ref ++ [.ref fa]))) := (same_upd nQa).trans (same_upd nMa)
      have eMa : (upd (upd Ba Qa (.lst [.ref fa])) Ma (.lst (fsa.map V.ref ++ [.ref fa]))) Ma = some (.lst ((fsa ++ [fa]).map V.ref)) := by rw [upd_same, List.map_append]; rfl
      have ga := ((g9.grown wa).grown ⟨ea, na, tta⟩).same sa
      have xa : ExtN Aa (upd (upd Ba Qa (.lst [.ref fa])) Ma (.lst (fsa.map V.ref ++ [.ref fa]))) := ea.trans (.of sa)
      generalize upd (upd Ba Qa (.lst [.ref fa])) Ma (.lst (fsa.map V.ref ++ [.ref fa])) = Ga at *
      refine ifN (X := ((cxOf CX0 P w K mg base NL "law" (defScope s_law) f (.ref c) A outer s H E).nox)) (fs := fsa ++ [fa]) (Lw := Ma) 1 0 ?_ ?_ eMa rfl (by decide) ?_ (fun f' hf' G' Hp' sG P0 => ?_) fun Ka sKa => ?_
      · rfl
      · show 12 < 14; decide
      · exact fun _ _ _ q => q
      · have sp := sG.trans P0.same
        rcases List.mem_append.mp hf' with hf' | hf'
        · obtain ⟨jj, hjj⟩ := List.getElem?_of_mem hf'
          have lt : jj < 5 := by have := (List.getElem?_eq_some_iff.mp hjj).1; omega
          exact worksAll Z lt (((hka jj f' hjj).ext xa).same sp) (.inl ⟨rfl, hno⟩) 0
        · obtain rfl := List.mem_singleton.mp hf'
          have L0 := (aa.ext (.of (sa.trans sG)))
          exact workL9 Z (L0.known (js := [4, 8, 10]) (fr := ["_law_none", "_law_bad", "_law_deed"]) P0 (show lmOk (ll 9) s_law by decide +kernel) (by decide +kernel) rfl) (sp _ _ (ga.tup d9 etd)) hno
      have ga' := ga.same sKa
      exact ⟨a0, d, td, m, wv, no, r, p, qb, n, sg, kk, _, _, _, rfl, hfar, hwv, hno, hr0, pb, h1, h6, hbad, hcan, ga'.d, ga'.t, ga'.tup d9 etd, kq⟩
    case p11 =>
      rintro D σ H9 ⟨a0, d, td, m, wv, no, r, p, qb, n, sg, kk, x11, x12, x13, rfl, hfar, hwv, hno, hr0, pb, h1, h6, hbad, hcan, d9, t9, etd, kq⟩
      have okr : okRule (Tx r) := rule_ok r hr0
      have g9 := GrB.refl t9 d9
      -- works, one more
      refine ⟨_, rfl, _, rfl, Tx r, wv, rfl, g9.t, fun Ab Lb fsb wb nLb eLb l5b hkb => ?_⟩
      refine ⟨wb.t, fun fb cb Bb eb nb ttb zb lb kb => ⟨small 1 (by decide), fun Qb nQb => ⟨Lb, Qb, _, _, rfl, rfl, upd_keep nQb (eb _ _ eLb (fun _ z => by cases z)), upd_same, (by rw [List.length_map, l5b]; exact small 6 (by decide)), fun Mb nMb => ?_⟩⟩⟩
      have ab : LmAt _ Bb fb (ll 11) := ⟨_, lb, kb, rfl, rfl, rfl, rfl⟩
      clear lb kb
      have sb : Same Bb (upd (upd Bb Qb (.lst [.ref fb])) Mb (.lst (fsb.map V.ref ++ [.ref fb]))) := (same_upd nQb).trans (same_upd nMb)
      have eMb : (upd (upd Bb Qb (.lst [.ref fb])) Mb (.lst (fsb.map V.ref ++ [.ref fb]))) Mb = some (.lst ((fsb ++ [fb]).map V.ref)) := by rw [upd_same, List.map_append]; rfl
      have gb := ((g9.grown wb).grown ⟨eb, nb, ttb⟩).same sb
      have xb : ExtN Ab (upd (upd Bb Qb (.lst [.ref fb])) Mb (.lst (fsb.map V.ref ++ [.ref fb]))) := eb.trans (.of sb)
      generalize upd (upd Bb Qb (.lst [.ref fb])) Mb (.lst (fsb.map V.ref ++ [.ref fb])) = Gb at *
      refine ifN (X := ((cxOf CX0 P w K mg base NL "law" (defScope s_law) f (.ref c) A outer s H E).nox)) (fs := fsb ++ [fb]) (Lw := Mb) 0 0 ?_ ?_ eMb rfl (by decide) ?_ (fun f' hf' G' Hp' sG P0 => ?_) fun Kb sKb => ?_
      · rfl
      · show 12 < 14; decide
      · exact fun _ _ _ q => q
      · have sp := sG.trans P0.same
        rcases List.mem_append.mp hf' with hf' | hf'
        · obtain ⟨jj, hjj⟩ := List.getElem?_of_mem hf'
          have lt : jj < 5 := by have := (List.getElem?_eq_some_iff.mp hjj).1; omega
          exact worksAll Z lt (((hkb jj f' hjj).ext xb).same sp) (.inr ⟨rfl, okr, hwv⟩) 0
        · obtain rfl := List.mem_singleton.mp hf'
          have L0 := (ab.ext (.of (sb.trans sG)))
          exact workL11 Z (L0.known (js := [3]) (fr := ["_law_wide"]) P0 (show lmOk (ll 11) s_law by decide +kernel) (by decide +kernel) rfl) hwv
      have gb' := gb.same sKb
      exact ⟨a0, d, td, m, wv, no, r, p, qb, n, sg, kk, _, _, _, rfl, hfar, hwv, hno, hr0, pb, h1, h6, hbad, hcan, gb'.d, gb'.t, gb'.tup d9 etd, kq⟩
    case p13 =>
      rintro D σ H9 ⟨a0, d, td, m, wv, no, r, p, qb, n, sg, kk, x11, x12, x13, rfl, hfar, hwv, hno, hr0, pb, h1, h6, hbad, hcan, d9, t9, etd, kq⟩
      have okr : okRule (Tx r) := rule_ok r hr0
      have g9 := GrB.refl t9 d9
      -- the pattern that is none
      refine ifS (TT := TT) 2 (n : Nat) rfl (by decide) (fun _ _ q => ⟨_, rfl, q⟩) g9.t fun f3 c3 G3 e3 n3 tt3 l3 k3 => ?_
      have a3 : LmAt _ G3 f3 (ll 13) := ⟨_, l3, k3, rfl, rfl, rfl, rfl⟩
      clear l3 k3
      have g3 := g9.grown ⟨e3, n3, tt3⟩
      refine ⟨fun Hp' P0 => workL13 Z (a3.known (js := [5, 8, 10]) (fr := ["_law_rule_here", "_law_bad", "_law_deed"]) P0 (show lmOk (ll 13) s_law by decide +kernel) (by decide +kernel) rfl) (P0.same _ _ (g3.tup d9 etd)) okr hbad, fun H3' s3' => ?_⟩
      have g3' := g3.same s3'
      exact ⟨a0, d, td, m, wv, no, r, p, qb, n, sg, kk, _, _, _, rfl, hfar, hwv, hno, hr0, pb, h1, h6, hbad, hcan, g3'.d, g3'.t, g3'.tup d9 etd, kq⟩
    case p14 =>
      rintro D σ H9 ⟨a0, d, td, m, wv, no, r, p, qb, n, sg, kk, x11, x12, x13, rfl, hfar, hwv, hno, hr0, pb, h1, h6, hbad, hcan, d9, t9, etd, kq⟩
      have okr : okRule (Tx r) := rule_ok r hr0
      have g9 := GrB.refl t9 d9
      -- the deed that can't be done, and where it stands
      refine ifSor (TT := TT) 3 0 rfl (by decide) (fun _ _ q => q) g9.t fun f4 c4 G4 e4 n4 tt4 l4 k4 => ?_
      have a4 : LmAt _ G4 f4 (ll 14) := ⟨_, l4, k4, rfl, rfl, rfl, rfl⟩
      clear l4 k4
      have g4 := g9.grown ⟨e4, n4, tt4⟩
      refine ⟨fun Hp' P0 => workL14 Z (a4.known (js := [5, 7, 10]) (fr := ["_law_rule_here", "_law_pattern_here", "_law_deed"]) P0 (show lmOk (ll 14) s_law by decide +kernel) (by decide +kernel) rfl) (P0.same _ _ (g4.tup d9 etd)) okr pb h1 h6 hcan, fun H4' s4' => ?_⟩
      have g4' := g4.same s4'
      refine ⟨_, rfl, _, rfl, _, rfl, d, r, p.length, rfl, hr0, h1, h6, g4'.d, g4'.t, fun H5' g5 => ⟨true, rfl, ite_no rfl ?_⟩⟩
      have g5' := g4'.trans g5
      exact ⟨a0, d, td, m, wv, no, r, p, qb, n, sg, kk, _, _, _, rfl, hfar, hwv, hno, hr0, pb, h1, h6, hbad, hcan, g5'.d, g5'.t, g5'.tup d9 etd, kq⟩
    case p15 =>
      rintro D σ H9 ⟨a0, d, td, m, wv, no, r, p, qb, n, sg, kk, x11, x12, x13, rfl, hfar, hwv, hno, hr0, pb, h1, h6, hbad, hcan, d9, t9, etd, kq⟩
      have okr : okRule (Tx r) := rule_ok r hr0
      have g9 := GrB.refl t9 d9
      -- too many deeds
      refine ⟨small 2 (by decide), fun p1 z1 => ⟨small 2 (by decide), fun p2 z2 => ⟨small 2 (by decide), fun L6 nL6 => ⟨L6, 7, _, rfl, rfl, upd_same, by decide, by decide, small 14 (by decide), fun M6 nM6 => ?_⟩⟩⟩⟩
      have s6 : Same H9 (upd (upd (upd (upd H9 p1 (.tup [.str "put", .int 0])) p2 (.tup [.str "take", .int 0])) L6 (.lst [.ref p1, .ref p2])) M6 (.lst (List.replicate (Int.toNat 7) [V.ref p1, V.ref p2]).flatten)) := (((same_upd z1).trans (same_upd z2)).trans (same_upd nL6)).trans (same_upd nM6)
      have ep1 : (upd (upd (upd (upd H9 p1 (.tup [.str "put", .int 0])) p2 (.tup [.str "take", .int 0])) L6 (.lst [.ref p1, .ref p2])) M6 (.lst (List.replicate (Int.toNat 7) [V.ref p1, V.ref p2]).flatten)) p1 = some (.tup [.str "put", .int 0]) := upd_keep nM6 (upd_keep nL6 (upd_keep z2 upd_same))
      have ep2 : (upd (upd (upd (upd H9 p1 (.tup [.str "put", .int 0])) p2 (.tup [.str "take", .int 0])) L6 (.lst [.ref p1, .ref p2])) M6 (.lst (List.replicate (Int.toNat 7) [V.ref p1, V.ref p2]).flatten)) p2 = some (.tup [.str "take", .int 0]) := upd_keep nM6 (upd_keep nL6 upd_same)
      have eM6 : (upd (upd (upd (upd H9 p1 (.tup [.str "put", .int 0])) p2 (.tup [.str "take", .int 0])) L6 (.lst [.ref p1, .ref p2])) M6 (.lst (List.replicate (Int.toNat 7) [V.ref p1, V.ref p2]).flatten)) M6 = some (.lst ((longA p1 p2).map V.ref)) := upd_same
      have g6 := g9.same s6
      generalize upd (upd (upd (upd H9 p1 (.tup [.str "put", .int 0])) p2 (.tup [.str "take", .int 0])) L6 (.lst [.ref p1, .ref p2])) M6 (.lst (List.replicate (Int.toNat 7) [V.ref p1, V.ref p2]).flatten) = G6 at *
      have tu6 := long_tups ep1 ep2
      refine ifSor (TT := TT) 3 ((12 : Nat) : Int) rfl (by decide) (fun _ _ q => q) g6.t fun f7 c7 G7 e7 n7 tt7 l7 k7 => ?_
      have a7 : LmAt _ G7 f7 (ll 16) := ⟨_, l7, k7, rfl, rfl, rfl, rfl⟩
      clear l7 k7
      have g7 := g6.grown ⟨e7, n7, tt7⟩
      have tu7 : Tups G7 (longA p1 p2) longD := Paired.mapP tu6 fun _ _ q => e7 _ _ q (fun _ z => by cases z)
      have eM7 := e7 _ _ eM6 (fun _ z => by cases z)
      refine ⟨fun Hp' P0 => workL16 Z (a7.known (js := [6, 13]) (fr := ["_law_good", "_law_long"]) P0 (show lmOk (ll 16) s_law by decide +kernel) (by decide +kernel) rfl) ⟨by omega, by omega⟩ (P0.same _ _ eM7) (deeds_tups (tu7.mono (TS.same P0.same))) (long_bad h1 h6), fun H7' s7' => ?_⟩
      have g7' := g7.same s7'
      obtain ⟨mok, emul⟩ := zero_mul h1 h6
      refine ⟨_, rfl, _, rfl, _, rfl, r, p.length, M6, longD, longA p1 p2, 0, rfl, hr0, h1, h6, long_cnt h1 h6, s7' _ _ eM7, tu7.mono (TS.same s7'), (show 14 ≤ 1000 by decide), fun H8 pp To s8 npp epp eTo nTo => ?_⟩
      refine ⟨pp, _, 1, _, rfl, rfl, SqT.of epp, rfl, _, rfl, "0", p.length, rfl, rfl, mok, rfl, _, rfl, ?_⟩
      rw [long_run hr0 h1 h6, emul, decide_eq_true rfl]
      refine ite_no rfl ?_
      have g8 := g7'.same s8
      exact ⟨a0, d, td, m, wv, no, r, p, qb, n, sg, kk, _, _, _, rfl, hfar, hwv, hno, hr0, pb, h1, h6, hbad, hcan, g8.d, g8.t, g8.tup d9 etd, kq⟩
    case p17 =>
      rintro D σ H9 ⟨a0, d, td, m, wv, no, r, p, qb, n, sg, kk, x11, x12, x13, rfl, hfar, hwv, hno, hr0, pb, h1, h6, hbad, hcan, d9, t9, etd, kq⟩
      have okr : okRule (Tx r) := rule_ok r hr0
      have g9 := GrB.refl t9 d9
      -- numbers
      refine ⟨g9.t, fun f9 c9 G9 e9 n9 tt9 z9 l9 k9 => ⟨tt9, fun fa ca Ta Ga ea na tta xa la ka => ⟨small 2 (by decide), fun Lz nLz => ?_⟩⟩⟩
      have a9 : LmAt _ G9 f9 (ll 17) := ⟨_, l9, k9, rfl, rfl, rfl, rfl⟩
      have aa : LmAtD _ Ga fa ll2 (.int 0) := ⟨_, Ta, la, xa, ka, rfl, rfl, rfl, rfl⟩
      clear l9 k9 la ka
      have gz := (((g9.grown ⟨e9, n9, tt9⟩).grown ⟨ea, na, tta⟩).same (same_upd (o := .lst [.ref f9, .ref fa]) nLz))
      have sz := same_upd (o := .lst [.ref f9, .ref fa]) nLz
      have eLz : (upd Ga Lz (.lst [.ref f9, .ref fa])) Lz = some (.lst ([f9, fa].map V.ref)) := upd_same
      generalize upd Ga Lz (.lst [.ref f9, .ref fa]) = Gz at *
      refine ifN (X := ((cxOf CX0 P w K mg base NL "law" (defScope s_law) f (.ref c) A outer s H E).nox)) (fs := [f9, fa]) (Lw := Lz) 5 0 ?_ ?_ eLz rfl (by decide) ?_ (fun f' hf' G' Hp' sG P0 => ?_) fun Kz sKz => ?_
      · rfl
      · show 12 < 14; decide
      · exact fun _ _ _ q => q
      · rcases List.mem_cons.mp hf' with rfl | hf'
        · have L0 := (a9.ext ea).ext (.of (sz.trans sG))
          exact workL17 Z (L0.known (js := [5, 6, 2]) (fr := ["_law_rule_here", "_law_good", "_law_far"]) P0 (show lmOk (ll 17) s_law by decide +kernel) (by decide +kernel) rfl) okr ⟨by omega, by omega⟩ hfar
        · obtain rfl := List.mem_singleton.mp hf'
          have L0 := aa.ext (.of (sz.trans sG))
          exact workL17b Z (L0.known (js := [5, 6, 2]) (fr := ["_law_rule_here", "_law_good", "_law_far"]) P0 (show lmOk (ll2) s_law by decide +kernel) (by decide +kernel) rfl) okr ⟨by omega, by omega⟩ hfar
      have gz' := gz.same sKz
      exact ⟨_, rfl, _, rfl, _, rfl, d, r, p.length, rfl, hr0, h1, h6, gz'.d, gz'.t, fun H' => kq H'⟩
end
end CK

set_option maxHeartbeats 8000000
namespace CK
open PySem L2 PyProof.Rows LamX NdefX
/-! ### what the top has written, and the end -/
/-- the table of a code object -/
def tabOf (K : PySem.W.Frag) (c : Addr) : Addr := match K.lookup c with
  | some ⟨_, _, .fields vs, _⟩ => (match (vs[11]? : Option Value) with | some (.ref P) => P | _ => 0)
  | _ => 0
/-- the six classes -/
def exC (a b c d e f : Addr) : Nat → Addr
  | 0 => a | 1 => b | 2 => c | 3 => d | 4 => e | _ => f
def exc1 (K : PySem.W.Frag) (D : Addr) : Bool :=
  decide (PySem.W.findIn K (.ref D) "__getattribute__" = some (some (.builtin "BaseException.__getattribute__"))) && (decide (PySem.W.findIn K (.ref D) "__getattr__" = some none) && (decide (PySem.W.subIn K (.ref D) (.type "BaseException") = some true) && (PySem.W.hasDictIn K D &&
  (decide (PySem.W.findIn K (.ref D) "__class__" = some (some (.builtin "object.__class__"))) && (decide (PySem.W.specialIn K (.builtin "object.__class__") "__get__" = some (some (.builtin "getset_descriptor.__get__"))) && (decide (PySem.W.takesIn K (.builtin "object.__class__") = some true) && decide (PySem.W.mroIn K D (.type "object") = some true)))))))
theorem exc1_ok {K : PySem.W.Frag} {D : Addr} (h : exc1 K D = true) : ExcC K D := by
  unfold exc1 at h
  simp only [Bool.and_eq_true, decide_eq_true_eq] at h
  obtain ⟨h1, h2, h3, h4, h5, h6, h7, h8⟩ := h
  exact ⟨h1, h2, h3, h4, h5, h6, h7, h8⟩
def excB (K : PySem.W.Frag) (CS : Addr) (c : Nat → Addr) : Bool := (List.range 6).all fun i => exc1 K (c i) && (decide (PySem.W.exmOne K (.ref (c i)) (.ref CS) = some true) && (decide (PySem.W.kitOne K (.ref (c i)) (.type "ValueError") = some true) && (List.range 6).all fun j => decide (PySem.W.kitOne K (.ref (c i)) (.ref (c j)) = some (i == j))))
theorem excB_at {K : PySem.W.Frag} {CS : Addr} {c : Nat → Addr} (h : excB K CS c = true) (i : Nat) (hi : i < 6) : ExcC K (c i) ∧ PySem.W.exmOne K (.ref (c i)) (.ref CS) = some true ∧ PySem.W.kitOne K (.ref (c i)) (.type "ValueError") = some true ∧ ∀ j, j < 6 → PySem.W.kitOne K (.ref (c i)) (.ref (c j)) = some (i == j) := by
  have z := List.all_eq_true.mp h i (List.mem_range.mpr hi)
  simp only [Bool.and_eq_true, decide_eq_true_eq] at z
  obtain ⟨z1, z2, z3, z4⟩ := z
  exact ⟨exc1_ok z1, z2, z3, fun j hj => of_decide_eq_true (List.all_eq_true.mp z4 j (List.mem_range.mpr hj))⟩
def exsB (K : PySem.W.Frag) (C : Addr) : Bool := PySem.W.excIn K C [.type "ValueError", .type "Exception", .type "BaseException", .type "object"] "ValueError.__new__" && (PySem.W.keepIn K (.ref C) && (decide (PySem.W.subIn K (.ref C) (.type "BaseException") = some true) && decide (PySem.W.typeIn K (.ref C) = some (.type "type"))))
theorem exs_ok {K : PySem.W.Frag} {mg : Str → Option Value} {x : Str} {C : Addr} (g : mg x = some (.ref C)) (h : exsB K C = true) : ExS K mg x C := by
  unfold exsB at h
  simp only [Bool.and_eq_true, decide_eq_true_eq] at h
  exact ⟨g, h.1, h.2.1, h.2.2.1, h.2.2.2⟩
def exfB (K : PySem.W.Frag) (C : Addr) (fl : Str) : Bool := decide (PySem.W.findIn K (.ref C) fl = some none) && (decide (PySem.W.findIn K (.ref C) "__setattr__" = some (some (.builtin "object.__setattr__"))) && (decide (PySem.W.subIn K (.ref C) (.type "BaseException") = some true) && (decide (PySem.W.typeIn K (.ref C) = some (.type "type")) && PySem.W.keepIn K (.ref C))))
def exbB (K : PySem.W.Frag) (C : Addr) : Bool := decide (PySem.W.specialIn K (.ref C) "__getattribute__" = some (some (.builtin "type.__getattribute__"))) && PySem.W.readsIn K C (.type "type")

theorem all_mk {l : PySem.W.OpenLaw} {w : World} {K : PySem.W.Frag} {h : Heap} {mg : Str → Option Value} {fa : Addr}
    {S eS e0 e1 e2 e3 e4 e5 : Addr} {cW cI cH cL : Addr} {ts : List Addr}
    {od0 an0 : Option Addr} {sl0 : Array (Option Value)} {oc0 kV0 dc0 pm0 cd0 ct0 : Value} {f0 : Addr}
    {od1 an1 : Option Addr} {sl1 : Array (Option Value)} {oc1 kV1 dc1 pm1 cd1 ct1 : Value} {f1 : Addr}
    {od2 an2 : Option Addr} {sl2 : Array (Option Value)} {oc2 kV2 dc2 pm2 cd2 ct2 : Value} {f2 : Addr}
    {od3 an3 : Option Addr} {sl3 : Array (Option Value)} {oc3 kV3 dc3 pm3 cd3 ct3 : Value} {f3 : Addr}
    {od4 an4 : Option Addr} {sl4 : Array (Option Value)} {oc4 kV4 dc4 pm4 cd4 ct4 : Value} {f4 : Addr}
    {od5 an5 : Option Addr} {sl5 : Array (Option Value)} {oc5 kV5 dc5 pm5 cd5 ct5 : Value} {f5 : Addr}
    {od6 an6 : Option Addr} {sl6 : Array (Option Value)} {oc6 kV6 dc6 pm6 cd6 ct6 : Value} {f6 : Addr}
    {od7 an7 : Option Addr} {sl7 : Array (Option Value)} {oc7 kV7 dc7 pm7 cd7 ct7 : Value} {f7 : Addr}
    {od8 an8 : Option Addr} {sl8 : Array (Option Value)} {oc8 kV8 dc8 pm8 cd8 ct8 : Value} {f8 : Addr}
    {od9 an9 : Option Addr} {sl9 : Array (Option Value)} {oc9 kV9 dc9 pm9 cd9 ct9 : Value} {f9 : Addr}
    {od10 an10 : Option Addr} {sl10 : Array (Option Value)} {oc10 kV10 dc10 pm10 cd10 ct10 : Value} {f10 : Addr}
    {od11 an11 : Option Addr} {sl11 : Array (Option Value)} {oc11 kV11 dc11 pm11 cd11 ct11 : Value} {f11 : Addr}
    {od12 an12 : Option Addr} {sl12 : Array (Option Value)} {oc12 kV12 dc12 pm12 cd12 ct12 : Value} {f12 : Addr}
    {od13 an13 : Option Addr} {sl13 : Array (Option Value)} {oc13 kV13 dc13 pm13 cd13 ct13 : Value} {f13 : Addr}
    {od14 an14 : Option Addr} {sl14 : Array (Option Value)} {oc14 kV14 dc14 pm14 cd14 ct14 : Value} {f14 : Addr}
    {od15 an15 : Option Addr} {sl15 : Array (Option Value)} {oc15 kV15 dc15 pm15 cd15 ct15 : Value} {f15 : Addr}
    {od16 an16 : Option Addr} {sl16 : Array (Option Value)} {oc16 kV16 dc16 pm16 cd16 ct16 : Value} {f16 : Addr}
    {od17 an17 : Option Addr} {sl17 : Array (Option Value)} {oc17 kV17 dc17 pm17 cd17 ct17 : Value} {f17 : Addr}
    {od18 an18 : Option Addr} {sl18 : Array (Option Value)} {oc18 kV18 dc18 pm18 cd18 ct18 : Value} {f18 : Addr}
    {od19 an19 : Option Addr} {sl19 : Array (Option Value)} {oc19 kV19 dc19 pm19 cd19 ct19 : Value} {f19 : Addr}
    {od20 an20 : Option Addr} {sl20 : Array (Option Value)} {oc20 kV20 dc20 pm20 cd20 ct20 : Value} {f20 : Addr}
    {od21 an21 : Option Addr} {sl21 : Array (Option Value)} {oc21 kV21 dc21 pm21 cd21 ct21 : Value} {f21 : Addr}
    {od22 an22 : Option Addr} {sl22 : Array (Option Value)} {oc22 kV22 dc22 pm22 cd22 ct22 : Value} {f22 : Addr}
    {od23 an23 : Option Addr} {sl23 : Array (Option Value)} {oc23 kV23 dc23 pm23 cd23 ct23 : Value} {f23 : Addr}
    {od24 an24 : Option Addr} {sl24 : Array (Option Value)} {oc24 kV24 dc24 pm24 cd24 ct24 : Value} {f24 : Addr}
    {od25 an25 : Option Addr} {sl25 : Array (Option Value)} {oc25 kV25 dc25 pm25 cd25 ct25 : Value} {f25 : Addr}
    {od26 an26 : Option Addr} {sl26 : Array (Option Value)} {oc26 kV26 dc26 pm26 cd26 ct26 : Value} {f26 : Addr}
    {od27 an27 : Option Addr} {sl27 : Array (Option Value)} {oc27 kV27 dc27 pm27 cd27 ct27 : Value} {f27 : Addr}
    {od28 an28 : Option Addr} {sl28 : Array (Option Value)} {oc28 kV28 dc28 pm28 cd28 ct28 : Value} {f28 : Addr}
    {od29 an29 : Option Addr} {sl29 : Array (Option Value)} {oc29 kV29 dc29 pm29 cd29 ct29 : Value} {f29 : Addr}
    {od30 an30 : Option Addr} {sl30 : Array (Option Value)} {oc30 kV30 dc30 pm30 cd30 ct30 : Value} {f30 : Addr}
    {od31 an31 : Option Addr} {sl31 : Array (Option Value)} {oc31 kV31 dc31 pm31 cd31 ct31 : Value} {f31 : Addr}
    {od32 an32 : Option Addr} {sl32 : Array (Option Value)} {oc32 kV32 dc32 pm32 cd32 ct32 : Value} {f32 : Addr}
    {od33 an33 : Option Addr} {sl33 : Array (Option Value)} {oc33 kV33 dc33 pm33 cd33 ct33 : Value} {f33 : Addr}
    {od34 an34 : Option Addr} {sl34 : Array (Option Value)} {oc34 kV34 dc34 pm34 cd34 ct34 : Value} {f34 : Addr}
    {od35 an35 : Option Addr} {sl35 : Array (Option Value)} {oc35 kV35 dc35 pm35 cd35 ct35 : Value} {f35 : Addr}
    {od36 an36 : Option Addr} {sl36 : Array (Option Value)} {oc36 kV36 dc36 pm36 cd36 ct36 : Value} {f36 : Addr}
    {od37 an37 : Option Addr} {sl37 : Array (Option Value)} {oc37 kV37 dc37 pm37 cd37 ct37 : Value} {f37 : Addr}
    {od38 an38 : Option Addr} {sl38 : Array (Option Value)} {oc38 kV38 dc38 pm38 cd38 ct38 : Value} {f38 : Addr}
    {od39 an39 : Option Addr} {sl39 : Array (Option Value)} {oc39 kV39 dc39 pm39 cd39 ct39 : Value} {f39 : Addr}
    {od40 an40 : Option Addr} {sl40 : Array (Option Value)} {oc40 kV40 dc40 pm40 cd40 ct40 : Value} {f40 : Addr}
    {od41 an41 : Option Addr} {sl41 : Array (Option Value)} {oc41 kV41 dc41 pm41 cd41 ct41 : Value} {f41 : Addr}
    {od42 an42 : Option Addr} {sl42 : Array (Option Value)} {oc42 kV42 dc42 pm42 ct42 : Value} {f42 : Addr}
    {od43 an43 : Option Addr} {sl43 : Array (Option Value)} {oc43 kV43 dc43 pm43 ct43 : Value} {f43 : Addr}
    {od44 an44 : Option Addr} {sl44 : Array (Option Value)} {oc44 kV44 dc44 pm44 ct44 : Value} {f44 : Addr}
    {od45 an45 : Option Addr} {sl45 : Array (Option Value)} {oc45 kV45 dc45 pm45 ct45 : Value} {f45 : Addr}
    {tMP tMD : Tok}
    {aR : Addr} {ddR : Option Addr} {nnR : Nat} {slR : Array (Option Value)} {tR0 tR1 tR2 : Tok}
    {nm2 q2 : Str} {N2 : Addr} {bs2 bm2 : List Value} {sn2 : List Str} {sub2 : List Value} {ab2 : Bool} {col2 : Option Bool} {dx2 : Option Addr} {m02 m12 m22 m32 m52 : Option Value}
    {nm3 q3 : Str} {N3 : Addr} {bs3 bm3 : List Value} {sn3 : List Str} {sub3 : List Value} {ab3 : Bool} {col3 : Option Bool} {dx3 : Option Addr} {m03 m13 m23 m33 m53 : Option Value}
    (X : K.In h) (G : h.Ns mainGlobals mg) (hfa : mg "law" = some (.ref fa)) (hts : ∀ P ∈ ts, h.get? P = some (PySem.W.tabObj #[]))
    (aS : PySem.W.nsIn K mainGlobals "Shelf" = some (some (.ref S)))
    (aeS : PySem.W.nsIn K mainGlobals "ShelfError" = some (some (.ref eS)))
    (ae0 : PySem.W.nsIn K mainGlobals "BadWidth" = some (some (.ref e0)))
    (ae1 : PySem.W.nsIn K mainGlobals "BadRule" = some (some (.ref e1)))
    (ae2 : PySem.W.nsIn K mainGlobals "BadPattern" = some (some (.ref e2)))
    (ae3 : PySem.W.nsIn K mainGlobals "BadDeed" = some (some (.ref e3)))
    (ae4 : PySem.W.nsIn K mainGlobals "BadKey" = some (some (.ref e4)))
    (ae5 : PySem.W.nsIn K mainGlobals "BadNumber" = some (some (.ref e5)))
    (a0 : PySem.W.nsIn K mainGlobals "inserted" = some (some (.ref f0)))
    (l0 : K.lookup f0 = some ⟨oc0, od0, .func (PySem.W.fnOf "inserted" "inserted" (defArgs s_inserted) (defBody s_inserted) (defScope s_inserted) .none kV0 dc0 pm0 an0 cd0 ct0), sl0⟩)
    (c0 : PySem.W.codeIn K cd0 "inserted" = true)
    (k0 : PySem.W.keepIn K (.ref f0) = true)
    (a1 : PySem.W.nsIn K mainGlobals "laid_evenly" = some (some (.ref f1)))
    (l1 : K.lookup f1 = some ⟨oc1, od1, .func (PySem.W.fnOf "laid_evenly" "laid_evenly" (defArgs s_laid_evenly) (defBody s_laid_evenly) (defScope s_laid_evenly) .none kV1 dc1 pm1 an1 cd1 ct1), sl1⟩)
    (c1 : PySem.W.codeIn K cd1 "laid_evenly" = true)
    (k1 : PySem.W.keepIn K (.ref f1) = true)
    (a2 : PySem.W.nsIn K mainGlobals "free_ahead" = some (some (.ref f2)))
    (l2 : K.lookup f2 = some ⟨oc2, od2, .func (PySem.W.fnOf "free_ahead" "free_ahead" (defArgs s_free_ahead) (defBody s_free_ahead) (defScope s_free_ahead) .none kV2 dc2 pm2 an2 cd2 ct2), sl2⟩)
    (c2 : PySem.W.codeIn K cd2 "free_ahead" = true)
    (k2 : PySem.W.keepIn K (.ref f2) = true)
    (a3 : PySem.W.nsIn K mainGlobals "free_behind" = some (some (.ref f3)))
    (l3 : K.lookup f3 = some ⟨oc3, od3, .func (PySem.W.fnOf "free_behind" "free_behind" (defArgs s_free_behind) (defBody s_free_behind) (defScope s_free_behind) .none kV3 dc3 pm3 an3 cd3 ct3), sl3⟩)
    (c3 : PySem.W.codeIn K cd3 "free_behind" = true)
    (k3 : PySem.W.keepIn K (.ref f3) = true)
    (a4 : PySem.W.nsIn K mainGlobals "is_taken_ahead" = some (some (.ref f4)))
    (l4 : K.lookup f4 = some ⟨oc4, od4, .func (PySem.W.fnOf "is_taken_ahead" "is_taken_ahead" (defArgs s_is_taken_ahead) (defBody s_is_taken_ahead) (defScope s_is_taken_ahead) .none kV4 dc4 pm4 an4 cd4 ct4), sl4⟩)
    (c4 : PySem.W.codeIn K cd4 "is_taken_ahead" = true)
    (k4 : PySem.W.keepIn K (.ref f4) = true)
    (a5 : PySem.W.nsIn K mainGlobals "count_moved" = some (some (.ref f5)))
    (l5 : K.lookup f5 = some ⟨oc5, od5, .func (PySem.W.fnOf "count_moved" "count_moved" (defArgs s_count_moved) (defBody s_count_moved) (defScope s_count_moved) .none kV5 dc5 pm5 an5 cd5 ct5), sl5⟩)
    (c5 : PySem.W.codeIn K cd5 "count_moved" = true)
    (k5 : PySem.W.keepIn K (.ref f5) = true)
    (a6 : PySem.W.nsIn K mainGlobals "with_new_one" = some (some (.ref f6)))
    (l6 : K.lookup f6 = some ⟨oc6, od6, .func (PySem.W.fnOf "with_new_one" "with_new_one" (defArgs s_with_new_one) (defBody s_with_new_one) (defScope s_with_new_one) .none kV6 dc6 pm6 an6 cd6 ct6), sl6⟩)
    (c6 : PySem.W.codeIn K cd6 "with_new_one" = true)
    (k6 : PySem.W.keepIn K (.ref f6) = true)
    (a7 : PySem.W.nsIn K mainGlobals "check_rule" = some (some (.ref f7)))
    (l7 : K.lookup f7 = some ⟨oc7, od7, .func (PySem.W.fnOf "check_rule" "check_rule" (defArgs s_check_rule) (defBody s_check_rule) (defScope s_check_rule) .none kV7 dc7 pm7 an7 cd7 ct7), sl7⟩)
    (c7 : PySem.W.codeIn K cd7 "check_rule" = true)
    (k7 : PySem.W.keepIn K (.ref f7) = true)
    (a8 : PySem.W.nsIn K mainGlobals "check_width" = some (some (.ref f8)))
    (l8 : K.lookup f8 = some ⟨oc8, od8, .func (PySem.W.fnOf "check_width" "check_width" (defArgs s_check_width) (defBody s_check_width) (defScope s_check_width) .none kV8 dc8 pm8 an8 cd8 ct8), sl8⟩)
    (c8 : PySem.W.codeIn K cd8 "check_width" = true)
    (k8 : PySem.W.keepIn K (.ref f8) = true)
    (a9 : PySem.W.nsIn K mainGlobals "check_pattern" = some (some (.ref f9)))
    (l9 : K.lookup f9 = some ⟨oc9, od9, .func (PySem.W.fnOf "check_pattern" "check_pattern" (defArgs s_check_pattern) (defBody s_check_pattern) (defScope s_check_pattern) .none kV9 dc9 pm9 an9 cd9 ct9), sl9⟩)
    (c9 : PySem.W.codeIn K cd9 "check_pattern" = true)
    (k9 : PySem.W.keepIn K (.ref f9) = true)
    (a10 : PySem.W.nsIn K mainGlobals "places_of" = some (some (.ref f10)))
    (l10 : K.lookup f10 = some ⟨oc10, od10, .func (PySem.W.fnOf "places_of" "places_of" (defArgs s_places_of) (defBody s_places_of) (defScope s_places_of) .none kV10 dc10 pm10 an10 cd10 ct10), sl10⟩)
    (c10 : PySem.W.codeIn K cd10 "places_of" = true)
    (k10 : PySem.W.keepIn K (.ref f10) = true)
    (a11 : PySem.W.nsIn K mainGlobals "pattern_of" = some (some (.ref f11)))
    (l11 : K.lookup f11 = some ⟨oc11, od11, .func (PySem.W.fnOf "pattern_of" "pattern_of" (defArgs s_pattern_of) (defBody s_pattern_of) (defScope s_pattern_of) .none kV11 dc11 pm11 an11 cd11 ct11), sl11⟩)
    (c11 : PySem.W.codeIn K cd11 "pattern_of" = true)
    (k11 : PySem.W.keepIn K (.ref f11) = true)
    (a12 : PySem.W.nsIn K mainGlobals "can_be_done" = some (some (.ref f12)))
    (l12 : K.lookup f12 = some ⟨oc12, od12, .func (PySem.W.fnOf "can_be_done" "can_be_done" (defArgs s_can_be_done) (defBody s_can_be_done) (defScope s_can_be_done) .none kV12 dc12 pm12 an12 cd12 ct12), sl12⟩)
    (c12 : PySem.W.codeIn K cd12 "can_be_done" = true)
    (k12 : PySem.W.keepIn K (.ref f12) = true)
    (a13 : PySem.W.nsIn K mainGlobals "after_deed" = some (some (.ref f13)))
    (l13 : K.lookup f13 = some ⟨oc13, od13, .func (PySem.W.fnOf "after_deed" "after_deed" (defArgs s_after_deed) (defBody s_after_deed) (defScope s_after_deed) .none kV13 dc13 pm13 an13 cd13 ct13), sl13⟩)
    (c13 : PySem.W.codeIn K cd13 "after_deed" = true)
    (k13 : PySem.W.keepIn K (.ref f13) = true)
    (a14 : PySem.W.nsIn K mainGlobals "done" = some (some (.ref f14)))
    (l14 : K.lookup f14 = some ⟨oc14, od14, .func (PySem.W.fnOf "done" "done" (defArgs s_done) (defBody s_done) (defScope s_done) .none kV14 dc14 pm14 an14 cd14 ct14), sl14⟩)
    (c14 : PySem.W.codeIn K cd14 "done" = true)
    (k14 : PySem.W.keepIn K (.ref f14) = true)
    (a15 : PySem.W.nsIn K mainGlobals "_law_put" = some (some (.ref f15)))
    (l15 : K.lookup f15 = some ⟨oc15, od15, .func (PySem.W.fnOf "_law_put" "_law_put" (defArgs s__law_put) (defBody s__law_put) (defScope s__law_put) .none kV15 dc15 pm15 an15 cd15 ct15), sl15⟩)
    (c15 : PySem.W.codeIn K cd15 "_law_put" = true)
    (k15 : PySem.W.keepIn K (.ref f15) = true)
    (a16 : PySem.W.nsIn K mainGlobals "_law_take" = some (some (.ref f16)))
    (l16 : K.lookup f16 = some ⟨oc16, od16, .func (PySem.W.fnOf "_law_take" "_law_take" (defArgs s__law_take) (defBody s__law_take) (defScope s__law_take) .none kV16 dc16 pm16 an16 cd16 ct16), sl16⟩)
    (c16 : PySem.W.codeIn K cd16 "_law_take" = true)
    (k16 : PySem.W.keepIn K (.ref f16) = true)
    (a17 : PySem.W.nsIn K mainGlobals "_law_moves" = some (some (.ref f17)))
    (l17 : K.lookup f17 = some ⟨oc17, od17, .func (PySem.W.fnOf "_law_moves" "_law_moves" (defArgs s__law_moves) (defBody s__law_moves) (defScope s__law_moves) .none kV17 dc17 pm17 an17 cd17 ct17), sl17⟩)
    (c17 : PySem.W.codeIn K cd17 "_law_moves" = true)
    (k17 : PySem.W.keepIn K (.ref f17) = true)
    (a18 : PySem.W.nsIn K mainGlobals "_law_pattern" = some (some (.ref f18)))
    (l18 : K.lookup f18 = some ⟨oc18, od18, .func (PySem.W.fnOf "_law_pattern" "_law_pattern" (defArgs s__law_pattern) (defBody s__law_pattern) (defScope s__law_pattern) .none kV18 dc18 pm18 an18 cd18 ct18), sl18⟩)
    (c18 : PySem.W.codeIn K cd18 "_law_pattern" = true)
    (k18 : PySem.W.keepIn K (.ref f18) = true)
    (a19 : PySem.W.nsIn K mainGlobals "_law_row" = some (some (.ref f19)))
    (l19 : K.lookup f19 = some ⟨oc19, od19, .func (PySem.W.fnOf "_law_row" "_law_row" (defArgs s__law_row) (defBody s__law_row) (defScope s__law_row) .none kV19 dc19 pm19 an19 cd19 ct19), sl19⟩)
    (c19 : PySem.W.codeIn K cd19 "_law_row" = true)
    (k19 : PySem.W.keepIn K (.ref f19) = true)
    (a20 : PySem.W.nsIn K mainGlobals "_law_step" = some (some (.ref f20)))
    (l20 : K.lookup f20 = some ⟨oc20, od20, .func (PySem.W.fnOf "_law_step" "_law_step" (defArgs s__law_step) (defBody s__law_step) (defScope s__law_step) .none kV20 dc20 pm20 an20 cd20 ct20), sl20⟩)
    (c20 : PySem.W.codeIn K cd20 "_law_step" = true)
    (k20 : PySem.W.keepIn K (.ref f20) = true)
    (a21 : PySem.W.nsIn K mainGlobals "played" = some (some (.ref f21)))
    (l21 : K.lookup f21 = some ⟨oc21, od21, .func (PySem.W.fnOf "played" "played" (defArgs s_played) (defBody s_played) (defScope s_played) .none kV21 dc21 pm21 an21 cd21 ct21), sl21⟩)
    (c21 : PySem.W.codeIn K cd21 "played" = true)
    (k21 : PySem.W.keepIn K (.ref f21) = true)
    (a22 : PySem.W.nsIn K mainGlobals "worst" = some (some (.ref f22)))
    (l22 : K.lookup f22 = some ⟨oc22, od22, .func (PySem.W.fnOf "worst" "worst" (defArgs s_worst) (defBody s_worst) (defScope s_worst) .none kV22 dc22 pm22 an22 cd22 ct22), sl22⟩)
    (c22 : PySem.W.codeIn K cd22 "worst" = true)
    (k22 : PySem.W.keepIn K (.ref f22) = true)
    (a23 : PySem.W.nsIn K mainGlobals "purse" = some (some (.ref f23)))
    (l23 : K.lookup f23 = some ⟨oc23, od23, .func (PySem.W.fnOf "purse" "purse" (defArgs s_purse) (defBody s_purse) (defScope s_purse) .none kV23 dc23 pm23 an23 cd23 ct23), sl23⟩)
    (c23 : PySem.W.codeIn K cd23 "purse" = true)
    (k23 : PySem.W.keepIn K (.ref f23) = true)
    (a24 : PySem.W.nsIn K mainGlobals "shows" = some (some (.ref f24)))
    (l24 : K.lookup f24 = some ⟨oc24, od24, .func (PySem.W.fnOf "shows" "shows" (defArgs s_shows) (defBody s_shows) (defScope s_shows) .none kV24 dc24 pm24 an24 cd24 ct24), sl24⟩)
    (c24 : PySem.W.codeIn K cd24 "shows" = true)
    (k24 : PySem.W.keepIn K (.ref f24) = true)
    (a25 : PySem.W.nsIn K mainGlobals "check_part" = some (some (.ref f25)))
    (l25 : K.lookup f25 = some ⟨oc25, od25, .func (PySem.W.fnOf "check_part" "check_part" (defArgs s_check_part) (defBody s_check_part) (defScope s_check_part) .none kV25 dc25 pm25 an25 cd25 ct25), sl25⟩)
    (c25 : PySem.W.codeIn K cd25 "check_part" = true)
    (k25 : PySem.W.keepIn K (.ref f25) = true)
    (a26 : PySem.W.nsIn K mainGlobals "fewest" = some (some (.ref f26)))
    (l26 : K.lookup f26 = some ⟨oc26, od26, .func (PySem.W.fnOf "fewest" "fewest" (defArgs s_fewest) (defBody s_fewest) (defScope s_fewest) .none kV26 dc26 pm26 an26 cd26 ct26), sl26⟩)
    (c26 : PySem.W.codeIn K cd26 "fewest" = true)
    (k26 : PySem.W.keepIn K (.ref f26) = true)
    (a27 : PySem.W.nsIn K mainGlobals "check_deeds" = some (some (.ref f27)))
    (l27 : K.lookup f27 = some ⟨oc27, od27, .func (PySem.W.fnOf "check_deeds" "check_deeds" (defArgs s_check_deeds) (defBody s_check_deeds) (defScope s_check_deeds) .none kV27 dc27 pm27 an27 cd27 ct27), sl27⟩)
    (c27 : PySem.W.codeIn K cd27 "check_deeds" = true)
    (k27 : PySem.W.keepIn K (.ref f27) = true)
    (a28 : PySem.W.findIn K (.ref S) "__init__" = some (some (.ref f28)))
    (i28 : PySem.W.isFn K (.ref f28) = true)
    (l28 : K.lookup f28 = some ⟨oc28, od28, .func (PySem.W.fnOf "__init__" "Shelf.__init__" (defArgs s_Shelf___init__) (defBody s_Shelf___init__) (defScope s_Shelf___init__) .none kV28 dc28 pm28 an28 cd28 ct28), sl28⟩)
    (c28 : PySem.W.codeIn K cd28 "Shelf.__init__" = true)
    (k28 : PySem.W.keepIn K (.ref f28) = true)
    (a29 : PySem.W.findIn K (.ref S) "put_in" = some (some (.ref f29)))
    (i29 : PySem.W.isFn K (.ref f29) = true)
    (l29 : K.lookup f29 = some ⟨oc29, od29, .func (PySem.W.fnOf "put_in" "Shelf.put_in" (defArgs s_Shelf_put_in) (defBody s_Shelf_put_in) (defScope s_Shelf_put_in) .none kV29 dc29 pm29 an29 cd29 ct29), sl29⟩)
    (c29 : PySem.W.codeIn K cd29 "Shelf.put_in" = true)
    (k29 : PySem.W.keepIn K (.ref f29) = true)
    (a30 : PySem.W.findIn K (.ref S) "take_out" = some (some (.ref f30)))
    (i30 : PySem.W.isFn K (.ref f30) = true)
    (l30 : K.lookup f30 = some ⟨oc30, od30, .func (PySem.W.fnOf "take_out" "Shelf.take_out" (defArgs s_Shelf_take_out) (defBody s_Shelf_take_out) (defScope s_Shelf_take_out) .none kV30 dc30 pm30 an30 cd30 ct30), sl30⟩)
    (c30 : PySem.W.codeIn K cd30 "Shelf.take_out" = true)
    (k30 : PySem.W.keepIn K (.ref f30) = true)
    (a31 : PySem.W.findIn K (.ref S) "standing" = some (some (.ref f31)))
    (i31 : PySem.W.isFn K (.ref f31) = true)
    (l31 : K.lookup f31 = some ⟨oc31, od31, .func (PySem.W.fnOf "standing" "Shelf.standing" (defArgs s_Shelf_standing) (defBody s_Shelf_standing) (defScope s_Shelf_standing) .none kV31 dc31 pm31 an31 cd31 ct31), sl31⟩)
    (c31 : PySem.W.codeIn K cd31 "Shelf.standing" = true)
    (k31 : PySem.W.keepIn K (.ref f31) = true)
    (a32 : PySem.W.findIn K (.ref e2) "__init__" = some (some (.ref f32)))
    (i32 : PySem.W.typeIn K (.ref f32) = some (.type "function"))
    (l32 : K.lookup f32 = some ⟨oc32, od32, .func (PySem.W.fnOf "__init__" "BadPattern.__init__" (defArgs s_BadPattern___init__) (defBody s_BadPattern___init__) (defScope s_BadPattern___init__) .none kV32 dc32 pm32 an32 cd32 ct32), sl32⟩)
    (c32 : PySem.W.codeIn K cd32 "BadPattern.__init__" = true)
    (k32 : PySem.W.keepIn K (.ref f32) = true)
    (a33 : PySem.W.findIn K (.ref e3) "__init__" = some (some (.ref f33)))
    (i33 : PySem.W.typeIn K (.ref f33) = some (.type "function"))
    (l33 : K.lookup f33 = some ⟨oc33, od33, .func (PySem.W.fnOf "__init__" "BadDeed.__init__" (defArgs s_BadDeed___init__) (defBody s_BadDeed___init__) (defScope s_BadDeed___init__) .none kV33 dc33 pm33 an33 cd33 ct33), sl33⟩)
    (c33 : PySem.W.codeIn K cd33 "BadDeed.__init__" = true)
    (k33 : PySem.W.keepIn K (.ref f33) = true)
    (a34 : PySem.W.nsIn K mainGlobals "_law_dice" = some (some (.ref f34)))
    (l34 : K.lookup f34 = some ⟨oc34, od34, .func (PySem.W.fnOf "_law_dice" "_law_dice" (defArgs s__law_dice) (defBody s__law_dice) (defScope s__law_dice) .none kV34 dc34 pm34 an34 cd34 ct34), sl34⟩)
    (c34 : PySem.W.codeIn K cd34 "_law_dice" = true)
    (k34 : PySem.W.keepIn K (.ref f34) = true)
    (a35 : PySem.W.nsIn K mainGlobals "_law_off" = some (some (.ref f35)))
    (l35 : K.lookup f35 = some ⟨oc35, od35, .func (PySem.W.fnOf "_law_off" "_law_off" (defArgs s__law_off) (defBody s__law_off) (defScope s__law_off) .none kV35 dc35 pm35 an35 cd35 ct35), sl35⟩)
    (c35 : PySem.W.codeIn K cd35 "_law_off" = true)
    (k35 : PySem.W.keepIn K (.ref f35) = true)
    (a36 : PySem.W.nsIn K mainGlobals "_law_rule" = some (some (.ref f36)))
    (l36 : K.lookup f36 = some ⟨oc36, od36, .func (PySem.W.fnOf "_law_rule" "_law_rule" (defArgs s__law_rule) (defBody s__law_rule) (defScope s__law_rule) .none kV36 dc36 pm36 an36 cd36 ct36), sl36⟩)
    (c36 : PySem.W.codeIn K cd36 "_law_rule" = true)
    (k36 : PySem.W.keepIn K (.ref f36) = true)
    (a37 : PySem.W.nsIn K mainGlobals "_law_drawn" = some (some (.ref f37)))
    (l37 : K.lookup f37 = some ⟨oc37, od37, .func (PySem.W.fnOf "_law_drawn" "_law_drawn" (defArgs s__law_drawn) (defBody s__law_drawn) (defScope s__law_drawn) .none kV37 dc37 pm37 an37 cd37 ct37), sl37⟩)
    (c37 : PySem.W.codeIn K cd37 "_law_drawn" = true)
    (k37 : PySem.W.keepIn K (.ref f37) = true)
    (a38 : PySem.W.nsIn K mainGlobals "_law_alike" = some (some (.ref f38)))
    (l38 : K.lookup f38 = some ⟨oc38, od38, .func (PySem.W.fnOf "_law_alike" "_law_alike" (defArgs s__law_alike) (defBody s__law_alike) (defScope s__law_alike) .none kV38 dc38 pm38 an38 cd38 ct38), sl38⟩)
    (c38 : PySem.W.codeIn K cd38 "_law_alike" = true)
    (k38 : PySem.W.keepIn K (.ref f38) = true)
    (a39 : PySem.W.nsIn K mainGlobals "_law_refused" = some (some (.ref f39)))
    (l39 : K.lookup f39 = some ⟨oc39, od39, .func (PySem.W.fnOf "_law_refused" "_law_refused" (defArgs s__law_refused) (defBody s__law_refused) (defScope s__law_refused) .none kV39 dc39 pm39 an39 cd39 ct39), sl39⟩)
    (c39 : PySem.W.codeIn K cd39 "_law_refused" = true)
    (k39 : PySem.W.keepIn K (.ref f39) = true)
    (a40 : PySem.W.nsIn K mainGlobals "_law_bad_pattern" = some (some (.ref f40)))
    (l40 : K.lookup f40 = some ⟨oc40, od40, .func (PySem.W.fnOf "_law_bad_pattern" "_law_bad_pattern" (defArgs s__law_bad_pattern) (defBody s__law_bad_pattern) (defScope s__law_bad_pattern) .none kV40 dc40 pm40 an40 cd40 ct40), sl40⟩)
    (c40 : PySem.W.codeIn K cd40 "_law_bad_pattern" = true)
    (k40 : PySem.W.keepIn K (.ref f40) = true)
    (a41 : PySem.W.nsIn K mainGlobals "_law_bad_deed" = some (some (.ref f41)))
    (l41 : K.lookup f41 = some ⟨oc41, od41, .func (PySem.W.fnOf "_law_bad_deed" "_law_bad_deed" (defArgs s__law_bad_deed) (defBody s__law_bad_deed) (defScope s__law_bad_deed) .none kV41 dc41 pm41 an41 cd41 ct41), sl41⟩)
    (c41 : PySem.W.codeIn K cd41 "_law_bad_deed" = true)
    (k41 : PySem.W.keepIn K (.ref f41) = true)
    (a42 : PySem.W.nsIn K mainGlobals "_law_works" = some (some (.ref f42)))
    (l42 : K.lookup f42 = some ⟨oc42, od42, .func (PySem.W.fnOf "_law_works" "_law_works" (defArgs s__law_works) (defBody s__law_works) (defScope s__law_works) .none kV42 dc42 pm42 an42 (.ref cW) ct42), sl42⟩)
    (c42 : PySem.W.codeIn K (.ref cW) "_law_works" = true)
    (k42 : PySem.W.keepIn K (.ref f42) = true)
    (a43 : PySem.W.nsIn K mainGlobals "_law_is_found" = some (some (.ref f43)))
    (l43 : K.lookup f43 = some ⟨oc43, od43, .func (PySem.W.fnOf "_law_is_found" "_law_is_found" (defArgs s__law_is_found) (defBody s__law_is_found) (defScope s__law_is_found) .none kV43 dc43 pm43 an43 (.ref cI) ct43), sl43⟩)
    (c43 : PySem.W.codeIn K (.ref cI) "_law_is_found" = true)
    (k43 : PySem.W.keepIn K (.ref f43) = true)
    (a44 : PySem.W.nsIn K mainGlobals "_law_shelf" = some (some (.ref f44)))
    (l44 : K.lookup f44 = some ⟨oc44, od44, .func (PySem.W.fnOf "_law_shelf" "_law_shelf" (defArgs s__law_shelf) (defBody s__law_shelf) (defScope s__law_shelf) .none kV44 dc44 pm44 an44 (.ref cH) ct44), sl44⟩)
    (c44 : PySem.W.codeIn K (.ref cH) "_law_shelf" = true)
    (k44 : PySem.W.keepIn K (.ref f44) = true)
    (a45 : PySem.W.nsIn K mainGlobals "law" = some (some (.ref f45)))
    (l45 : K.lookup f45 = some ⟨oc45, od45, .func (PySem.W.fnOf "law" "law" (defArgs s_law) (defBody s_law) (defScope s_law) .none kV45 dc45 pm45 an45 (.ref cL) ct45), sl45⟩)
    (c45 : PySem.W.codeIn K (.ref cL) "law" = true)
    (k45 : PySem.W.keepIn K (.ref f45) = true)
    (pg : PySem.W.plainGet K S Str.empty = true)
    (hd : PySem.W.hasDictIn K S = true)
    (po : PySem.W.plainOver K S = true)
    (sa : PySem.W.findIn K (.ref S) "__setattr__" = some (some (.builtin "object.__setattr__")))
    (mk : PySem.W.makesIn K S = true)
    (kc : PySem.W.keepIn K (.ref S) = true)
    (nf_places : PySem.W.findIn K (.ref S) "places" = some none)
    (nf_ranked : PySem.W.findIn K (.ref S) "ranked" = some none)
    (nf_rule : PySem.W.findIn K (.ref S) "rule" = some none)
    (nf_total : PySem.W.findIn K (.ref S) "total" = some none)
    (nf_wide : PySem.W.findIn K (.ref S) "wide" = some none)
    (n_abs : PySem.W.nsIn K mainGlobals "abs" = some none)
    (n_all : PySem.W.nsIn K mainGlobals "all" = some none)
    (n_bool : PySem.W.nsIn K mainGlobals "bool" = some none)
    (n_dict : PySem.W.nsIn K mainGlobals "dict" = some none)
    (n_enumerate : PySem.W.nsIn K mainGlobals "enumerate" = some none)
    (n_int : PySem.W.nsIn K mainGlobals "int" = some none)
    (n_isinstance : PySem.W.nsIn K mainGlobals "isinstance" = some none)
    (n_len : PySem.W.nsIn K mainGlobals "len" = some none)
    (n_list : PySem.W.nsIn K mainGlobals "list" = some none)
    (n_max : PySem.W.nsIn K mainGlobals "max" = some none)
    (n_min : PySem.W.nsIn K mainGlobals "min" = some none)
    (n_range : PySem.W.nsIn K mainGlobals "range" = some none)
    (n_str : PySem.W.nsIn K mainGlobals "str" = some none)
    (n_sum : PySem.W.nsIn K mainGlobals "sum" = some none)
    (n_tuple : PySem.W.nsIn K mainGlobals "tuple" = some none)
    (n_zip : PySem.W.nsIn K mainGlobals "zip" = some none)
    (n_ValueError : PySem.W.nsIn K mainGlobals "ValueError" = some none)
    (xMP : PySem.W.nsIn K mainGlobals "MOST_PLACES" = some (some (.int 6 tMP)))
    (xMD : PySem.W.nsIn K mainGlobals "MOST_DEEDS" = some (some (.int 12 tMD)))
    (xR : PySem.W.nsIn K mainGlobals "RULES" = some (some (.ref aR)))
    (yR : K.lookup aR = some ⟨.type "tuple", ddR, .seq #[.str "near" tR0, .str "left" tR1, .str "even" tR2] nnR, slR⟩)
    (xL2 : K.lookup e2 = some (excClassObj nm2 q2 e2 N2 bs2 bm2 true sn2 sub2 ab2 col2 dx2 m02 m12 m22 m32 m52 "ValueError.__new__"))
    (xL3 : K.lookup e3 = some (excClassObj nm3 q3 e3 N3 bs3 bm3 true sn3 sub3 ab3 col3 dx3 m03 m13 m23 m33 m53 "ValueError.__new__"))
    (rv2 : PySem.HandSPX.refsVE bm2 = true)
    (rv3 : PySem.HandSPX.refsVE bm3 = true)
    (zx : excB K eS (exC e0 e1 e2 e3 e4 e5) = true)
    (zs0 : exsB K e0 = true)
    (zs1 : exsB K e1 = true)
    (zs4 : exsB K e4 = true)
    (zs5 : exsB K e5 = true)
    (zf2 : exfB K e2 "at" = true)
    (zf3 : exfB K e3 "number" = true)
    (zb : exbB K eS = true)
    (zi : PySem.W.findCls K (.ref eS) (.type "type") "__init__" = some (.val (.builtin "ValueError.__init__")))
    (zx2 : xfB K e2 = true)
    (zx3 : xfB K e3 = true)
    (zhhW : PySem.W.codeHdIn K cW (tabOf K cW) = true)
    (zhhI : PySem.W.codeHdIn K cI (tabOf K cI) = true)
    (zhhH : PySem.W.codeHdIn K cH (tabOf K cH) = true)
    (zhhL : PySem.W.codeHdIn K cL (tabOf K cL) = true)
    (zhlW : K.lookup (tabOf K cW) = none)
    (zhlI : K.lookup (tabOf K cI) = none)
    (zhlH : K.lookup (tabOf K cH) = none)
    (zhlL : K.lookup (tabOf K cL) = none)
    (zhtW : ts.contains (tabOf K cW) = true)
    (zhtI : ts.contains (tabOf K cI) = true)
    (zhtH : ts.contains (tabOf K cH) = true)
    (zhtL : ts.contains (tabOf K cL) = true)
    : LamX.LawAtS l w K CX0 8 63 "_law_script" mg fa h := by
  have e := hfa.symm.trans (PySem.W.mg_of X G a45)
  cases e
  have T : Txt K mg (fun _ => S) := ⟨PySem.W.mg_none_of X G n_abs, PySem.W.mg_none_of X G n_all, PySem.W.mg_none_of X G n_bool, PySem.W.mg_none_of X G n_dict, PySem.W.mg_none_of X G n_enumerate, PySem.W.mg_none_of X G n_int, PySem.W.mg_none_of X G n_isinstance, PySem.W.mg_none_of X G n_len, PySem.W.mg_none_of X G n_list, PySem.W.mg_none_of X G n_max, PySem.W.mg_none_of X G n_min, PySem.W.mg_none_of X G n_range, PySem.W.mg_none_of X G n_str, PySem.W.mg_none_of X G n_sum, PySem.W.mg_none_of X G n_tuple, PySem.W.mg_none_of X G n_zip, ⟨pg, hd, po, sa⟩, nf_places, nf_ranked, nf_rule, nf_total, nf_wide, ⟨_, PySem.W.mg_of X G xMP⟩, ⟨_, PySem.W.mg_of X G xMD⟩, ⟨_, PySem.W.mg_of X G xR, fun H => .inr ⟨_, _, _, yR, rfl, rfl, by show 3 ≤ sizeLine; decide, .cons ⟨_, congrArg (fun z => Value.str z _) (by decide +kernel)⟩ (.cons ⟨_, congrArg (fun z => Value.str z _) (by decide +kernel)⟩ (.cons ⟨_, congrArg (fun z => Value.str z _) (by decide +kernel)⟩ .nil))⟩⟩⟩
  have F0 := fun_mk (st := s_inserted) l0 c0 k0
  have m0 := PySem.W.mg_of X G a0
  have b0 := F0.binds (ps := ["places", "rank", "at"]) fun _ _ _ _ _ _ us hl => match us, hl with | [_, _, _], _ => rfl
  have F1 := fun_mk (st := s_laid_evenly) l1 c1 k1
  have m1 := PySem.W.mg_of X G a1
  have b1 := F1.binds (ps := ["wide", "many"]) fun _ _ _ _ _ _ us hl => match us, hl with | [_, _], _ => rfl
  have F2 := fun_mk (st := s_free_ahead) l2 c2 k2
  have m2 := PySem.W.mg_of X G a2
  have b2 := F2.binds (ps := ["places", "low"]) fun _ _ _ _ _ _ us hl => match us, hl with | [_, _], _ => rfl
  have F3 := fun_mk (st := s_free_behind) l3 c3 k3
  have m3 := PySem.W.mg_of X G a3
  have b3 := F3.binds (ps := ["wide", "places", "high"]) fun _ _ _ _ _ _ us hl => match us, hl with | [_, _, _], _ => rfl
  have F4 := fun_mk (st := s_is_taken_ahead) l4 c4 k4
  have m4 := PySem.W.mg_of X G a4
  have b4 := F4.binds (ps := ["rule", "low", "high", "ahead", "behind"]) fun _ _ _ _ _ _ us hl => match us, hl with | [_, _, _, _, _], _ => rfl
  have F5 := fun_mk (st := s_count_moved) l5 c5 k5
  have m5 := PySem.W.mg_of X G a5
  have b5 := F5.binds (ps := ["places", "laid", "rank"]) fun _ _ _ _ _ _ us hl => match us, hl with | [_, _, _], _ => rfl
  have F6 := fun_mk (st := s_with_new_one) l6 c6 k6
  have m6 := PySem.W.mg_of X G a6
  have b6 := F6.binds (ps := ["rule", "wide", "places", "rank"]) fun _ _ _ _ _ _ us hl => match us, hl with | [_, _, _, _], _ => rfl
  have F7 := fun_mk (st := s_check_rule) l7 c7 k7
  have m7 := PySem.W.mg_of X G a7
  have b7 := F7.binds (ps := ["rule"]) fun _ _ _ _ _ _ us hl => match us, hl with | [_], _ => rfl
  have F8 := fun_mk (st := s_check_width) l8 c8 k8
  have m8 := PySem.W.mg_of X G a8
  have b8 := F8.binds (ps := ["wide"]) fun _ _ _ _ _ _ us hl => match us, hl with | [_], _ => rfl
  have F9 := fun_mk (st := s_check_pattern) l9 c9 k9
  have m9 := PySem.W.mg_of X G a9
  have b9 := F9.binds (ps := ["pattern"]) fun _ _ _ _ _ _ us hl => match us, hl with | [_], _ => rfl
  have F10 := fun_mk (st := s_places_of) l10 c10 k10
  have m10 := PySem.W.mg_of X G a10
  have b10 := F10.binds (ps := ["pattern"]) fun _ _ _ _ _ _ us hl => match us, hl with | [_], _ => rfl
  have F11 := fun_mk (st := s_pattern_of) l11 c11 k11
  have m11 := PySem.W.mg_of X G a11
  have b11 := F11.binds (ps := ["wide", "places"]) fun _ _ _ _ _ _ us hl => match us, hl with | [_, _], _ => rfl
  have F12 := fun_mk (st := s_can_be_done) l12 c12 k12
  have m12 := PySem.W.mg_of X G a12
  have b12 := F12.binds (ps := ["wide", "many", "deed"]) fun _ _ _ _ _ _ us hl => match us, hl with | [_, _, _], _ => rfl
  have F13 := fun_mk (st := s_after_deed) l13 c13 k13
  have m13 := PySem.W.mg_of X G a13
  have b13 := F13.binds (ps := ["rule", "wide", "places", "deed"]) fun _ _ _ _ _ _ us hl => match us, hl with | [_, _, _, _], _ => rfl
  have F14 := fun_mk (st := s_done) l14 c14 k14
  have m14 := PySem.W.mg_of X G a14
  have b14 := F14.binds (ps := ["rule", "pattern", "deed"]) fun _ _ _ _ _ _ us hl => match us, hl with | [_, _, _], _ => rfl
  have F15 := fun_mk (st := s__law_put) l15 c15 k15
  have m15 := PySem.W.mg_of X G a15
  have b15 := F15.binds (ps := ["_law_rule_here", "_law_row_here", "_law_rank", "_law_new"]) fun _ _ _ _ _ _ us hl => match us, hl with | [_, _, _, _], _ => rfl
  have F16 := fun_mk (st := s__law_take) l16 c16 k16
  have m16 := PySem.W.mg_of X G a16
  have b16 := F16.binds (ps := ["_law_row_here", "_law_rank"]) fun _ _ _ _ _ _ us hl => match us, hl with | [_, _], _ => rfl
  have F17 := fun_mk (st := s__law_moves) l17 c17 k17
  have m17 := PySem.W.mg_of X G a17
  have b17 := F17.binds (ps := ["_law_row_here", "_law_other"]) fun _ _ _ _ _ _ us hl => match us, hl with | [_, _], _ => rfl
  have F18 := fun_mk (st := s__law_pattern) l18 c18 k18
  have m18 := PySem.W.mg_of X G a18
  have b18 := F18.binds (ps := ["_law_row_here"]) fun _ _ _ _ _ _ us hl => match us, hl with | [_], _ => rfl
  have F19 := fun_mk (st := s__law_row) l19 c19 k19
  have m19 := PySem.W.mg_of X G a19
  have b19 := F19.binds (ps := ["_law_pattern_here"]) fun _ _ _ _ _ _ us hl => match us, hl with | [_], _ => rfl
  have F20 := fun_mk (st := s__law_step) l20 c20 k20
  have m20 := PySem.W.mg_of X G a20
  have b20 := F20.binds (ps := ["_law_rule_here", "_law_pattern_here", "_law_deed"]) fun _ _ _ _ _ _ us hl => match us, hl with | [_, _, _], _ => rfl
  have F21 := fun_mk (st := s_played) l21 c21 k21
  have m21 := PySem.W.mg_of X G a21
  have b21 := F21.binds (ps := ["rule", "wide", "deeds"]) fun _ _ _ _ _ _ us hl => match us, hl with | [_, _, _], _ => rfl
  have F22 := fun_mk (st := s_worst) l22 c22 k22
  have m22 := PySem.W.mg_of X G a22
  have b22 := F22.binds (ps := ["rule", "wide"]) fun _ _ _ _ _ _ us hl => match us, hl with | [_, _], _ => rfl
  have F23 := fun_mk (st := s_purse) l23 c23 k23
  have m23 := PySem.W.mg_of X G a23
  have b23 := F23.binds (ps := ["rule", "wide"]) fun _ _ _ _ _ _ us hl => match us, hl with | [_, _], _ => rfl
  have F24 := fun_mk (st := s_shows) l24 c24 k24
  have m24 := PySem.W.mg_of X G a24
  have b24 := F24.binds (ps := ["rule", "wide", "moves", "deeds", "told"]) fun _ _ _ _ _ _ us hl => match us, hl with | [_, _, _, _, _], _ => rfl
  have F25 := fun_mk (st := s_check_part) l25 c25 k25
  have m25 := PySem.W.mg_of X G a25
  have b25 := F25.binds (ps := ["moves", "deeds"]) fun _ _ _ _ _ _ us hl => match us, hl with | [_, _], _ => rfl
  have F26 := fun_mk (st := s_fewest) l26 c26 k26
  have m26 := PySem.W.mg_of X G a26
  have b26 := F26.binds (ps := ["wide", "deeds"]) fun _ _ _ _ _ _ us hl => match us, hl with | [_, _], _ => rfl
  have F27 := fun_mk (st := s_check_deeds) l27 c27 k27
  have m27 := PySem.W.mg_of X G a27
  have b27 := F27.binds (ps := ["wide", "deeds"]) fun _ _ _ _ _ _ us hl => match us, hl with | [_, _], _ => rfl
  have F28 := fun_mk (st := s_Shelf___init__) l28 c28 k28
  have b28 := F28.binds (ps := ["self", "rule", "wide"]) fun _ _ _ _ _ _ us hl => match us, hl with | [_, _, _], _ => rfl
  have F29 := fun_mk (st := s_Shelf_put_in) l29 c29 k29
  have b29 := F29.binds (ps := ["self", "key"]) fun _ _ _ _ _ _ us hl => match us, hl with | [_, _], _ => rfl
  have F30 := fun_mk (st := s_Shelf_take_out) l30 c30 k30
  have b30 := F30.binds (ps := ["self", "key"]) fun _ _ _ _ _ _ us hl => match us, hl with | [_, _], _ => rfl
  have F31 := fun_mk (st := s_Shelf_standing) l31 c31 k31
  have b31 := F31.binds (ps := ["self"]) fun _ _ _ _ _ _ us hl => match us, hl with | [_], _ => rfl
  have F32 := fun_mk (st := s_BadPattern___init__) l32 c32 k32
  have b32 := F32.binds (ps := ["self", "at"]) fun _ _ _ _ _ _ us hl => match us, hl with | [_, _], _ => rfl
  have F33 := fun_mk (st := s_BadDeed___init__) l33 c33 k33
  have b33 := F33.binds (ps := ["self", "number"]) fun _ _ _ _ _ _ us hl => match us, hl with | [_, _], _ => rfl
  have F34 := fun_mk (st := s__law_dice) l34 c34 k34
  have m34 := PySem.W.mg_of X G a34
  have b34 := F34.binds (ps := ["_law_script", "_law_k"]) fun _ _ _ _ _ _ us hl => match us, hl with | [_, _], _ => rfl
  have F35 := fun_mk (st := s__law_off) l35 c35 k35
  have m35 := PySem.W.mg_of X G a35
  have b35 := F35.binds (ps := ["_law_d", "_law_most"]) fun _ _ _ _ _ _ us hl => match us, hl with | [_, _], _ => rfl
  have F36 := fun_mk (st := s__law_rule) l36 c36 k36
  have m36 := PySem.W.mg_of X G a36
  have b36 := F36.binds (ps := ["_law_d"]) fun _ _ _ _ _ _ us hl => match us, hl with | [_], _ => rfl
  have F37 := fun_mk (st := s__law_drawn) l37 c37 k37
  have m37 := PySem.W.mg_of X G a37
  have b37 := F37.binds (ps := ["_law_d", "_law_wide", "_law_most"]) fun _ _ _ _ _ _ us hl => match us, hl with | [_, _, _], _ => rfl
  have F38 := fun_mk (st := s__law_alike) l38 c38 k38
  have m38 := PySem.W.mg_of X G a38
  have b38 := F38.binds (ps := ["_law_found", "_law_due"]) fun _ _ _ _ _ _ us hl => match us, hl with | [_, _], _ => rfl
  have F39 := fun_mk (st := s__law_refused) l39 c39 k39
  have m39 := PySem.W.mg_of X G a39
  have b39 := F39.binds (ps := ["_law_work", "_law_word", "_law_value"]) fun _ _ _ _ _ _ us hl => match us, hl with | [_, _, _], _ => rfl
  have F40 := fun_mk (st := s__law_bad_pattern) l40 c40 k40
  have m40 := PySem.W.mg_of X G a40
  have b40 := F40.binds (ps := ["_law_d", "_law_pattern_here"]) fun _ _ _ _ _ _ us hl => match us, hl with | [_, _], _ => rfl
  have F41 := fun_mk (st := s__law_bad_deed) l41 c41 k41
  have m41 := PySem.W.mg_of X G a41
  have b41 := F41.binds (ps := ["_law_d", "_law_pattern_here"]) fun _ _ _ _ _ _ us hl => match us, hl with | [_, _], _ => rfl
  have F42 := fun_mk (st := s__law_works) l42 c42 k42
  have V42 : FunV K "_law_works" "_law_works" s__law_works (.ref cW) f42 _ := ⟨_, _, _, _, _, _, _, _, rfl, l42, c42⟩
  have m42 := PySem.W.mg_of X G a42
  have b42 := F42.binds (ps := ["_law_rule_here", "_law_wide"]) fun _ _ _ _ _ _ us hl => match us, hl with | [_, _], _ => rfl
  have F43 := fun_mk (st := s__law_is_found) l43 c43 k43
  have V43 : FunV K "_law_is_found" "_law_is_found" s__law_is_found (.ref cI) f43 _ := ⟨_, _, _, _, _, _, _, _, rfl, l43, c43⟩
  have m43 := PySem.W.mg_of X G a43
  have b43 := F43.binds (ps := ["_law_d", "_law_rule_here", "_law_good"]) fun _ _ _ _ _ _ us hl => match us, hl with | [_, _, _], _ => rfl
  have F44 := fun_mk (st := s__law_shelf) l44 c44 k44
  have V44 : FunV K "_law_shelf" "_law_shelf" s__law_shelf (.ref cH) f44 _ := ⟨_, _, _, _, _, _, _, _, rfl, l44, c44⟩
  have m44 := PySem.W.mg_of X G a44
  have b44 := F44.binds (ps := ["_law_d", "_law_rule_here", "_law_wide"]) fun _ _ _ _ _ _ us hl => match us, hl with | [_, _, _], _ => rfl
  have F45 := fun_mk (st := s_law) l45 c45 k45
  have V45 : FunV K "law" "law" s_law (.ref cL) _ _ := ⟨_, _, _, _, _, _, _, _, rfl, l45, c45⟩
  have m45 := PySem.W.mg_of X G a45
  have b45 := F45.binds (ps := ["_law_script"]) fun _ _ _ _ _ _ us hl => match us, hl with | [_], _ => rfl
  have mS := PySem.W.mg_of X G aS
  have meS := PySem.W.mg_of X G aeS
  have me0 := PySem.W.mg_of X G ae0
  have me1 := PySem.W.mg_of X G ae1
  have me2 := PySem.W.mg_of X G ae2
  have me3 := PySem.W.mg_of X G ae3
  have me4 := PySem.W.mg_of X G ae4
  have me5 := PySem.W.mg_of X G ae5
  have ZZ : Excs K mg eS (exC e0 e1 e2 e3 e4 e5) := ⟨meS, me0, me1, me2, me3, me4, me5, PySem.W.mg_none_of X G n_ValueError, fun i hi => (excB_at zx i hi).1, fun i hi => (excB_at zx i hi).2.1, fun i j hi hj => (excB_at zx i hi).2.2.2 j hj, fun i hi => (excB_at zx i hi).2.2.1, xfB_ok zx2, xfB_ok zx3, (by unfold exfB at zf2; simp only [Bool.and_eq_true, decide_eq_true_eq] at zf2; exact zf2.1), (by unfold exfB at zf3; simp only [Bool.and_eq_true, decide_eq_true_eq] at zf3; exact zf3.1)⟩
  have S0 : ExS K mg "BadWidth" e0 := exs_ok me0 zs0
  have S1 : ExS K mg "BadRule" e1 := exs_ok me1 zs1
  have S4 : ExS K mg "BadKey" e4 := exs_ok me4 zs4
  have S5 : ExS K mg "BadNumber" e5 := exs_ok me5 zs5
  have BB : ExB K mg eS (.type "type") := by
    unfold exbB at zb
    simp only [Bool.and_eq_true, decide_eq_true_eq] at zb
    exact ⟨meS, zb.1, zb.2, zi⟩
  have XF2 : ExF K mg "BadPattern" "at" e2 := by
    unfold exfB at zf2
    simp only [Bool.and_eq_true, decide_eq_true_eq] at zf2
    exact ⟨me2, ⟨⟨_, _, _, _, _, _, _, _, _, _, _, _, _, _, _, xL2, rv2⟩, zf2.2.1, zf2.2.2.1, zf2.2.2.2.1, zf2.2.2.2.2⟩, zf2.1⟩
  have XF3 : ExF K mg "BadDeed" "number" e3 := by
    unfold exfB at zf3
    simp only [Bool.and_eq_true, decide_eq_true_eq] at zf3
    exact ⟨me3, ⟨⟨_, _, _, _, _, _, _, _, _, _, _, _, _, _, _, xL3, rv3⟩, zf3.2.1, zf3.2.2.1, zf3.2.2.2.1, zf3.2.2.2.2⟩, zf3.1⟩
  refine ⟨PySem.W.fnOf "law" "law" (defArgs s_law) (defBody s_law) (defScope s_law) .none kV45 dc45 pm45 an45 (.ref cL) ct45, [(cW, tabOf K cW), (cI, tabOf K cI), (cH, tabOf K cH), (cL, tabOf K cL)], spLaw K [(tabOf K cW, nmL), (tabOf K cI, nmL), (tabOf K cH, nmL), (tabOf K cL, nmL)], fun p hp => ?_, fun p hp => ?_, fun p hp => ?_, fun s v => .of_eq rfl, fun H a ns hn _ hT hS => ⟨a, ns, rfl, hS, hn, fun p hp => ?_, fun _ => rfl⟩, fun base _ _ TBs => ?_⟩
  · simp only [List.mem_cons, List.not_mem_nil, or_false] at hp
    rcases hp with rfl | rfl | rfl | rfl
    · exact hts _ (by simpa using zhtW)
    · exact hts _ (by simpa using zhtI)
    · exact hts _ (by simpa using zhtH)
    · exact hts _ (by simpa using zhtL)
  · simp only [List.mem_cons, List.not_mem_nil, or_false] at hp
    rcases hp with rfl | rfl | rfl | rfl
    · exact zhlW
    · exact zhlI
    · exact zhlH
    · exact zhlL
  · simp only [List.mem_cons, List.not_mem_nil, or_false] at hp
    rcases hp with rfl | rfl | rfl | rfl
    · exact PySem.W.codeHd_of_K X zhhW
    · exact PySem.W.codeHd_of_K X zhhI
    · exact PySem.W.codeHd_of_K X zhhH
    · exact PySem.W.codeHd_of_K X zhhL
  · simp only [List.mem_cons, List.not_mem_nil, or_false] at hp
    rcases hp with rfl | rfl | rfl | rfl
    · exact NdefX.TabN.nil (hT (cW, tabOf K cW) (by simp))
    · exact NdefX.TabN.nil (hT (cI, tabOf K cI) (by simp))
    · exact NdefX.TabN.nil (hT (cH, tabOf K cH) (by simp))
    · exact NdefX.TabN.nil (hT (cL, tabOf K cL) (by simp))
  have TBW : LamX.TabB base mg cW (tabOf K cW) := TBs (cW, tabOf K cW) (by simp)
  have TBI : LamX.TabB base mg cI (tabOf K cI) := TBs (cI, tabOf K cI) (by simp)
  have TBH : LamX.TabB base mg cH (tabOf K cH) := TBs (cH, tabOf K cH) (by simp)
  have TBL : LamX.TabB base mg cL (tabOf K cL) := TBs (cL, tabOf K cL) (by simp)
  have hu : ∀ p ∈ [(tabOf K cW, nmL), (tabOf K cI, nmL), (tabOf K cH, nmL), (tabOf K cL, nmL)], p.2 = nmL := fun p hp => by
    simp only [List.mem_cons, List.not_mem_nil, or_false] at hp
    rcases hp with rfl | rfl | rfl | rfl <;> rfl
  have O_inserted : OwnS l.prog w K mg base 1 "inserted" ["places", "rank", "at"] (spOf (fun _ => S) c_inserted) := ⟨f0, _, ok_inserted F0 T, m0, k0, b0⟩
  have O_laid_evenly : OwnS l.prog w K mg base 1 "laid_evenly" ["wide", "many"] (spOf (fun _ => S) c_laid_evenly) := ⟨f1, _, ok_laid_evenly F1 T, m1, k1, b1⟩
  have O_free_ahead : OwnS l.prog w K mg base 1 "free_ahead" ["places", "low"] (spOf (fun _ => S) c_free_ahead) := ⟨f2, _, ok_free_ahead F2 T, m2, k2, b2⟩
  have O_free_behind : OwnS l.prog w K mg base 1 "free_behind" ["wide", "places", "high"] (spOf (fun _ => S) c_free_behind) := ⟨f3, _, ok_free_behind F3 T, m3, k3, b3⟩
  have O_is_taken_ahead : OwnS l.prog w K mg base 1 "is_taken_ahead" ["rule", "low", "high", "ahead", "behind"] (spOf (fun _ => S) c_is_taken_ahead) := ⟨f4, _, ok_is_taken_ahead F4 T, m4, k4, b4⟩
  have O_count_moved : OwnS l.prog w K mg base 1 "count_moved" ["places", "laid", "rank"] (spOf (fun _ => S) c_count_moved) := ⟨f5, _, ok_count_moved F5 T, m5, k5, b5⟩
  have O_with_new_one : OwnS l.prog w K mg base 2 "with_new_one" ["rule", "wide", "places", "rank"] (spOf (fun _ => S) c_with_new_one) := ⟨f6, _, ok_with_new_one F6 T O_inserted O_laid_evenly O_free_ahead O_free_behind O_is_taken_ahead, m6, k6, b6⟩
  have O_check_rule : OwnS l.prog w K mg base 1 "check_rule" ["rule"] (spOf (fun _ => S) c_check_rule) := ⟨f7, _, ok_check_rule F7 T, m7, k7, b7⟩
  have O_check_width : OwnS l.prog w K mg base 1 "check_width" ["wide"] (spOf (fun _ => S) c_check_width) := ⟨f8, _, ok_check_width F8 T, m8, k8, b8⟩
  have O_places_of : OwnS l.prog w K mg base 1 "places_of" ["pattern"] (spOf (fun _ => S) c_places_of) := ⟨f10, _, ok_places_of F10 T, m10, k10, b10⟩
  have O_pattern_of : OwnS l.prog w K mg base 1 "pattern_of" ["wide", "places"] (spOf (fun _ => S) c_pattern_of) := ⟨f11, _, ok_pattern_of F11 T, m11, k11, b11⟩
  have O_can_be_done : OwnS l.prog w K mg base 1 "can_be_done" ["wide", "many", "deed"] (spOf (fun _ => S) c_can_be_done) := ⟨f12, _, ok_can_be_done F12 T, m12, k12, b12⟩
  have O_after_deed : OwnS l.prog w K mg base 3 "after_deed" ["rule", "wide", "places", "deed"] (spOf (fun _ => S) c_after_deed) := ⟨f13, _, ok_after_deed F13 T O_with_new_one O_count_moved, m13, k13, b13⟩
  have O__law_put : OwnS l.prog w K mg base 1 "_law_put" ["_law_rule_here", "_law_row_here", "_law_rank", "_law_new"] (spOf (fun _ => S) c__law_put) := ⟨f15, _, ok__law_put F15 T, m15, k15, b15⟩
  have O__law_take : OwnS l.prog w K mg base 1 "_law_take" ["_law_row_here", "_law_rank"] (spOf (fun _ => S) c__law_take) := ⟨f16, _, ok__law_take F16 T, m16, k16, b16⟩
  have O__law_moves : OwnS l.prog w K mg base 1 "_law_moves" ["_law_row_here", "_law_other"] (spOf (fun _ => S) c__law_moves) := ⟨f17, _, ok__law_moves F17 T, m17, k17, b17⟩
  have O__law_pattern : OwnS l.prog w K mg base 1 "_law_pattern" ["_law_row_here"] (spOf (fun _ => S) c__law_pattern) := ⟨f18, _, ok__law_pattern F18 T, m18, k18, b18⟩
  have O__law_row : OwnS l.prog w K mg base 1 "_law_row" ["_law_pattern_here"] (spOf (fun _ => S) c__law_row) := ⟨f19, _, ok__law_row F19 T, m19, k19, b19⟩
  have O__law_step : OwnS l.prog w K mg base 2 "_law_step" ["_law_rule_here", "_law_pattern_here", "_law_deed"] (spOf (fun _ => S) c__law_step) := ⟨f20, _, ok__law_step F20 T O__law_put O__law_take O__law_moves O__law_pattern O__law_row, m20, k20, b20⟩
  have O_played : OwnS l.prog w K mg base 4 "played" ["rule", "wide", "deeds"] (spPlayed) := ⟨f21, _, ok_played (cc := fun _ => S) F21 T O_check_rule O_check_width O_can_be_done O_after_deed O_pattern_of, m21, k21, b21⟩
  have N2 : ExN l.prog w K mg base "BadPattern" "at" e2 := ⟨XF2, f32, _, a32, i32, ok_BadPattern F32 XF2 BB, b32⟩
  have N3 : ExN l.prog w K mg base "BadDeed" "number" e3 := ⟨XF3, f33, _, a33, i33, ok_BadDeed F33 XF3 BB, b33⟩
  have X_check_rule : OwnX l.prog w K mg base 1 "check_rule" ["rule"] (spChk gRule e1) := ⟨f7, _, okx_check_rule F7 T S1, m7, k7, b7⟩
  have X_check_width : OwnX l.prog w K mg base 1 "check_width" ["wide"] (spChk gWide e0) := ⟨f8, _, okx_check_width F8 T S0, m8, k8, b8⟩
  have X_check_part : OwnX l.prog w K mg base 1 "check_part" ["moves", "deeds"] (spChk gPart e5) := ⟨f25, _, okx_check_part F25 S5, m25, k25, b25⟩
  have X_check_pattern : OwnX l.prog w K mg base 3 "check_pattern" ["pattern"] (spPat e2) := ⟨f9, _, okx_check_pattern F9 T N2, m9, k9, b9⟩
  have X_check_deeds : OwnX l.prog w K mg base 3 "check_deeds" ["wide", "deeds"] (spChkX e3) := ⟨f27, _, okx_check_deeds F27 T O_can_be_done N3, m27, k27, b27⟩
  have X_played : OwnX l.prog w K mg base 4 "played" ["rule", "wide", "deeds"] (spPlayX e1 e0 e3) := ⟨f21, _, okx_played F21 T X_check_rule X_check_width N3 O_can_be_done O_after_deed, m21, k21, b21⟩
  have X_worst : OwnX l.prog w K mg base 2 "worst" ["rule", "wide"] (spRW e1 e0) := ⟨f22, _, okx_worst F22 X_check_rule X_check_width, m22, k22, b22⟩
  have X_purse : OwnX l.prog w K mg base 2 "purse" ["rule", "wide"] (spRW e1 e0) := ⟨f23, _, okx_purse F23 X_check_rule X_check_width, m23, k23, b23⟩
  have X_shows : OwnX l.prog w K mg base 2 "shows" ["rule", "wide", "moves", "deeds", "told"] (spShowsX e1 e0 e5) := ⟨f24, _, okx_shows F24 X_check_rule X_check_width X_check_part, m24, k24, b24⟩
  have X_done : OwnX l.prog w K mg base 4 "done" ["rule", "pattern", "deed"] (spDoneX e1 e2 e3) := ⟨f14, _, okx_done F14 T X_check_rule X_check_pattern N3 O_places_of O_can_be_done O_after_deed O_pattern_of, m14, k14, b14⟩
  have X_fewest : OwnX l.prog w K mg base 4 "fewest" ["wide", "deeds"] (spFewX e0 e3) := ⟨f26, _, okx_fewest F26 X_check_width X_check_deeds, m26, k26, b26⟩
  have Z : Xs l.prog w K mg base (fun _ => S) (exC e0 e1 e2 e3 e4 e5) := ⟨X_played, X_worst, X_purse, X_shows, X_done, X_fewest, ⟨f28, _, ⟨mk, a28, i28, kc⟩, okx_make F28 X_check_rule X_check_width, mS, b28⟩, ⟨f29, _, ⟨a29, i29, k29⟩, okx_put_key F29 T S4, okx_put_full F29 T N3 O_can_be_done, b29⟩, ⟨f30, _, ⟨a30, i30, k30⟩, okx_take F30 T S4, b30⟩⟩
  have MI : MkS l.prog w K mg base 2 S "Shelf" ["self", "rule", "wide"] (spOf (fun _ => S) c_Shelf___init__) := ⟨f28, _, ok_Shelf___init__ F28 T O_check_rule O_check_width, ⟨mk, a28, i28, kc⟩, b28, mS⟩
  have MP : MethS l.prog w K mg base 4 S "put_in" ["self", "key"] (spOf (fun _ => S) c_Shelf_put_in) := ⟨f29, _, ok_Shelf_put_in F29 T O_can_be_done O_after_deed, ⟨a29, i29, k29⟩, b29⟩
  have MS : MethS l.prog w K mg base 1 S "standing" ["self"] (spOf (fun _ => S) c_Shelf_standing) := ⟨f31, _, ok_Shelf_standing F31 T, ⟨a31, i31, k31⟩, b31⟩
  have O__law_dice : OwnS l.prog w K mg base 1 "_law_dice" ["_law_script", "_law_k"] (spDice K) := ⟨f34, _, ok_dice F34 T, m34, k34, b34⟩
  have O__law_off : OwnS l.prog w K mg base 1 "_law_off" ["_law_d", "_law_most"] (spOff) := ⟨f35, _, ok_off F35 T, m35, k35, b35⟩
  have O__law_rule : OwnS l.prog w K mg base 2 "_law_rule" ["_law_d"] (spRule) := ⟨f36, _, ok_rule F36 T (draw_of O__law_off), m36, k36, b36⟩
  have O__law_drawn : OwnS l.prog w K mg base 2 "_law_drawn" ["_law_d", "_law_wide", "_law_most"] (spDrawn) := ⟨f37, _, ok_drawn F37 T (draw_of O__law_off), m37, k37, b37⟩
  have OA : OwnH l.prog w K mg base 1 "_law_alike" ["_law_found", "_law_due"] spAlike := ⟨f38, _, okh_alike F38 T, m38, k38, b38⟩
  have O__law_refused : OwnS l.prog w K mg base 6 "_law_refused" ["_law_work", "_law_word", "_law_value"] (spRef l.prog w K mg base (exC e0 e1 e2 e3 e4 e5) 5) := ⟨f39, _, ok_refused F39 T ZZ OA, m39, k39, b39⟩
  have O__law_bad_pattern : OwnS l.prog w K mg base 2 "_law_bad_pattern" ["_law_d", "_law_pattern_here"] (spBadP) := ⟨f40, _, ok_bad_pattern F40 T (draw_of O__law_off), m40, k40, b40⟩
  have O__law_bad_deed : OwnS l.prog w K mg base 2 "_law_bad_deed" ["_law_d", "_law_pattern_here"] (spBadD) := ⟨f41, _, ok_bad_deed F41 T (draw_of O__law_off), m41, k41, b41⟩
  have O__law_works : OwnS l.prog w K mg base 1 "_law_works" ["_law_rule_here", "_law_wide"] (spWorks [(tabOf K cW, nmL), (tabOf K cI, nmL), (tabOf K cH, nmL), (tabOf K cL, nmL)]) := ⟨f42, _, ok_works V42 TBW (by simp) hu, m42, k42, b42⟩
  have O__law_is_found : OwnS l.prog w K mg base 7 "_law_is_found" ["_law_d", "_law_rule_here", "_law_good"] (spFound [(tabOf K cW, nmL), (tabOf K cI, nmL), (tabOf K cH, nmL), (tabOf K cL, nmL)]) := ⟨f43, _, ok_found (cc := fun _ => S) V43 T TBI (by simp) hu Z O__law_drawn (draw_of O__law_off) O__law_step O__law_bad_deed O__law_refused, m43, k43, b43⟩
  have O__law_shelf : OwnS l.prog w K mg base 7 "_law_shelf" ["_law_d", "_law_rule_here", "_law_wide"] (spShelf [(tabOf K cW, nmL), (tabOf K cI, nmL), (tabOf K cH, nmL), (tabOf K cL, nmL)]) := ⟨f44, _, ok_shelf V44 T TBH (by simp) hu Z (draw_of O__law_off) O__law_refused MI MP MS, m44, k44, b44⟩
  exact ok_law V45 T TBL (by simp) hu Z O__law_dice (draw_of O__law_off) (rule_of O__law_rule) O__law_bad_pattern O__law_bad_deed O__law_works O__law_refused O__law_is_found O__law_shelf O_played
end CK
open PySem PySem.W PyProof.Rows
set_option maxRecDepth 100000 in
set_option maxHeartbeats 0 in
theorem PySem.Challenge.cw_looseshelf_k01_what_is_none_holds : PySem.Challenge.rw_looseshelf_k01_what_is_none.Holds := by
  w_on; o_law; k_head; (case hw => w_witness2)
  k_fill
  refine LamX.walk_ofTs (l := PySem.Challenge.rw_looseshelf_k01_what_is_none) (n := 63) (k := 8) (x := "_law_script") (CX := fun _ => L2.CX0) rfl (by decide) rfl ⟨rfl, by decide, by decide⟩ (fun w h Y => PySem.W.km_in_of Y) ?F fun _ _ _ _ _ z => z
  case F =>
    intro w mg fa h Y KX G hmg
    refine' CK.all_mk KX G hmg (PySem.W.km_tabs_of Y) ?aS ?aeS ?ae0 ?ae1 ?ae2 ?ae3 ?ae4 ?ae5 ?a0 ?l0 ?c0 ?k0 ?a1 ?l1 ?c1 ?k1 ?a2 ?l2 ?c2 ?k2 ?a3 ?l3 ?c3 ?k3 ?a4 ?l4 ?c4 ?k4 ?a5 ?l5 ?c5 ?k5 ?a6 ?l6 ?c6 ?k6 ?a7 ?l7 ?c7 ?k7 ?a8 ?l8 ?c8 ?k8 ?a9 ?l9 ?c9 ?k9 ?a10 ?l10 ?c10 ?k10 ?a11 ?l11 ?c11 ?k11 ?a12 ?l12 ?c12 ?k12 ?a13 ?l13 ?c13 ?k13 ?a14 ?l14 ?c14 ?k14 ?a15 ?l15 ?c15 ?k15 ?a16 ?l16 ?c16 ?k16 ?a17 ?l17 ?c17 ?k17 ?a18 ?l18 ?c18 ?k18 ?a19 ?l19 ?c19 ?k19 ?a20 ?l20 ?c20 ?k20 ?a21 ?l21 ?c21 ?k21 ?a22 ?l22 ?c22 ?k22 ?a23 ?l23 ?c23 ?k23 ?a24 ?l24 ?c24 ?k24 ?a25 ?l25 ?c25 ?k25 ?a26 ?l26 ?c26 ?k26 ?a27 ?l27 ?c27 ?k27 ?a28 ?i28 ?l28 ?c28 ?k28 ?a29 ?i29 ?l29 ?c29 ?k29 ?a30 ?i30 ?l30 ?c30 ?k30 ?a31 ?i31 ?l31 ?c31 ?k31 ?a32 ?i32 ?l32 ?c32 ?k32 ?a33 ?i33 ?l33 ?c33 ?k33 ?a34 ?l34 ?c34 ?k34 ?a35 ?l35 ?c35 ?k35 ?a36 ?l36 ?c36 ?k36 ?a37 ?l37 ?c37 ?k37 ?a38 ?l38 ?c38 ?k38 ?a39 ?l39 ?c39 ?k39 ?a40 ?l40 ?c40 ?k40 ?a41 ?l41 ?c41 ?k41 ?a42 ?l42 ?c42 ?k42 ?a43 ?l43 ?c43 ?k43 ?a44 ?l44 ?c44 ?k44 ?a45 ?l45 ?c45 ?k45 ?pg ?hd ?po ?sa ?mk ?kc ?nf_places ?nf_ranked ?nf_rule ?nf_total ?nf_wide ?n_abs ?n_all ?n_bool ?n_dict ?n_enumerate ?n_int ?n_isinstance ?n_len ?n_list ?n_max ?n_min ?n_range ?n_str ?n_sum ?n_tuple ?n_zip ?n_ValueError ?xMP ?xMD ?xR ?yR ?xL2 ?xL3 ?rv2 ?rv3 ?zx ?zs0 ?zs1 ?zs4 ?zs5 ?zf2 ?zf3 ?zb ?zi ?zx2 ?zx3 ?zhhW ?zhhI ?zhhH ?zhhL ?zhlW ?zhlI ?zhlH ?zhlL ?zhtW ?zhtI ?zhtH ?zhtL
    (case aS => k_is)
    (case aeS => k_is)
    (case ae0 => k_is)
    (case ae1 => k_is)
    (case ae2 => k_is)
    (case ae3 => k_is)
    (case ae4 => k_is)
    (case ae5 => k_is)
    (case a0 => k_is)
    (case l0 => k_is)
    (case c0 => k_is)
    (case k0 => k_is)
    (case a1 => k_is)
    (case l1 => k_is)
    (case c1 => k_is)
    (case k1 => k_is)
    (case a2 => k_is)
    (case l2 => k_is)
    (case c2 => k_is)
    (case k2 => k_is)
    (case a3 => k_is)
    (case l3 => k_is)
    (case c3 => k_is)
    (case k3 => k_is)
    (case a4 => k_is)
    (case l4 => k_is)
    (case c4 => k_is)
    (case k4 => k_is)
    (case a5 => k_is)
    (case l5 => k_is)
    (case c5 => k_is)
    (case k5 => k_is)
    (case a6 => k_is)
    (case l6 => k_is)
    (case c6 => k_is)
    (case k6 => k_is)
    (case a7 => k_is)
    (case l7 => k_is)
    (case c7 => k_is)
    (case k7 => k_is)
    (case a8 => k_is)
    (case l8 => k_is)
    (case c8 => k_is)
    (case k8 => k_is)
    (case a9 => k_is)
    (case l9 => k_is)
    (case c9 => k_is)
    (case k9 => k_is)
    (case a10 => k_is)
    (case l10 => k_is)
    (case c10 => k_is)
    (case k10 => k_is)
    (case a11 => k_is)
    (case l11 => k_is)
    (case c11 => k_is)
    (case k11 => k_is)
    (case a12 => k_is)
    (case l12 => k_is)
    (case c12 => k_is)
    (case k12 => k_is)
    (case a13 => k_is)
    (case l13 => k_is)
    (case c13 => k_is)
    (case k13 => k_is)
    (case a14 => k_is)
    (case l14 => k_is)
    (case c14 => k_is)
    (case k14 => k_is)
    (case a15 => k_is)
    (case l15 => k_is)
    (case c15 => k_is)
    (case k15 => k_is)
    (case a16 => k_is)
    (case l16 => k_is)
    (case c16 => k_is)
    (case k16 => k_is)
    (case a17 => k_is)
    (case l17 => k_is)
    (case c17 => k_is)
    (case k17 => k_is)
    (case a18 => k_is)
    (case l18 => k_is)
    (case c18 => k_is)
    (case k18 => k_is)
    (case a19 => k_is)
    (case l19 => k_is)
    (case c19 => k_is)
    (case k19 => k_is)
    (case a20 => k_is)
    (case l20 => k_is)
    (case c20 => k_is)
    (case k20 => k_is)
    (case a21 => k_is)
    (case l21 => k_is)
    (case c21 => k_is)
    (case k21 => k_is)
    (case a22 => k_is)
    (case l22 => k_is)
    (case c22 => k_is)
    (case k22 => k_is)
    (case a23 => k_is)
    (case l23 => k_is)
    (case c23 => k_is)
    (case k23 => k_is)
    (case a24 => k_is)
    (case l24 => k_is)
    (case c24 => k_is)
    (case k24 => k_is)
    (case a25 => k_is)
    (case l25 => k_is)
    (case c25 => k_is)
    (case k25 => k_is)
    (case a26 => k_is)
    (case l26 => k_is)
    (case c26 => k_is)
    (case k26 => k_is)
    (case a27 => k_is)
    (case l27 => k_is)
    (case c27 => k_is)
    (case k27 => k_is)
    (case a28 => k_is)
    (case i28 => k_is)
    (case l28 => k_is)
    (case c28 => k_is)
    (case k28 => k_is)
    (case a29 => k_is)
    (case i29 => k_is)
    (case l29 => k_is)
    (case c29 => k_is)
    (case k29 => k_is)
    (case a30 => k_is)
    (case i30 => k_is)
    (case l30 => k_is)
    (case c30 => k_is)
    (case k30 => k_is)
    (case a31 => k_is)
    (case i31 => k_is)
    (case l31 => k_is)
    (case c31 => k_is)
    (case k31 => k_is)
    (case a32 => k_is)
    (case i32 => k_is)
    (case l32 => k_is)
    (case c32 => k_is)
    (case k32 => k_is)
    (case a33 => k_is)
    (case i33 => k_is)
    (case l33 => k_is)
    (case c33 => k_is)
    (case k33 => k_is)
    (case a34 => k_is)
    (case l34 => k_is)
    (case c34 => k_is)
    (case k34 => k_is)
    (case a35 => k_is)
    (case l35 => k_is)
    (case c35 => k_is)
    (case k35 => k_is)
    (case a36 => k_is)
    (case l36 => k_is)
    (case c36 => k_is)
    (case k36 => k_is)
    (case a37 => k_is)
    (case l37 => k_is)
    (case c37 => k_is)
    (case k37 => k_is)
    (case a38 => k_is)
    (case l38 => k_is)
    (case c38 => k_is)
    (case k38 => k_is)
    (case a39 => k_is)
    (case l39 => k_is)
    (case c39 => k_is)
    (case k39 => k_is)
    (case a40 => k_is)
    (case l40 => k_is)
    (case c40 => k_is)
    (case k40 => k_is)
    (case a41 => k_is)
    (case l41 => k_is)
    (case c41 => k_is)
    (case k41 => k_is)
    (case a42 => k_is)
    (case l42 => k_is)
    (case c42 => k_is)
    (case k42 => k_is)
    (case a43 => k_is)
    (case l43 => k_is)
    (case c43 => k_is)
    (case k43 => k_is)
    (case a44 => k_is)
    (case l44 => k_is)
    (case c44 => k_is)
    (case k44 => k_is)
    (case a45 => k_is)
    (case l45 => k_is)
    (case c45 => k_is)
    (case k45 => k_is)
    (case pg => k_is)
    (case hd => k_is)
    (case po => k_is)
    (case sa => k_is)
    (case mk => k_is)
    (case kc => k_is)
    (case nf_places => k_is)
    (case nf_ranked => k_is)
    (case nf_rule => k_is)
    (case nf_total => k_is)
    (case nf_wide => k_is)
    (case n_abs => k_is)
    (case n_all => k_is)
    (case n_bool => k_is)
    (case n_dict => k_is)
    (case n_enumerate => k_is)
    (case n_int => k_is)
    (case n_isinstance => k_is)
    (case n_len => k_is)
    (case n_list => k_is)
    (case n_max => k_is)
    (case n_min => k_is)
    (case n_range => k_is)
    (case n_str => k_is)
    (case n_sum => k_is)
    (case n_tuple => k_is)
    (case n_zip => k_is)
    (case n_ValueError => k_is)
    (case xMP => k_is)
    (case xMD => k_is)
    (case xR => k_is)
    (case yR => k_is)
    (case xL2 => k_is)
    (case xL3 => k_is)
    (case rv2 => kernel_rfl)
    (case rv3 => kernel_rfl)
    (case zx => kernel_rfl)
    (case zs0 => kernel_rfl)
    (case zs1 => kernel_rfl)
    (case zs4 => kernel_rfl)
    (case zs5 => kernel_rfl)
    (case zf2 => kernel_rfl)
    (case zf3 => kernel_rfl)
    (case zb => kernel_rfl)
    (case zi => k_is)
    (case zx2 => kernel_rfl)
    (case zx3 => kernel_rfl)
    (case zhhW => kernel_rfl)
    (case zhhI => kernel_rfl)
    (case zhhH => kernel_rfl)
    (case zhhL => kernel_rfl)
    (case zhlW => kernel_rfl)
    (case zhlI => kernel_rfl)
    (case zhlH => kernel_rfl)
    (case zhlL => kernel_rfl)
    (case zhtW => kernel_rfl)
    (case zhtI => kernel_rfl)
    (case zhtH => kernel_rfl)
    (case zhtL => kernel_rfl)
