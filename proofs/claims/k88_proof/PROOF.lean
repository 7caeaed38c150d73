import PyProof.Rows.All
import Wide.All
import OpenK.AllK
import Wide.FinOn
import PyProof.EqAt
import PyProof.EqKinds
import PyProof.TupleCall
import HandS.ForExc
import HandS.Comp
import HandS.Iter
import HandS.Gcd
import HandS.Wide
import HandS.Evl
import HandS.Defaults
import HandS.ExcIs
import HandS.TupAny
import HandS.TupMul
import HandS.Walk
import HandS.Rev
import HandS.TupAny
import HandS.TupMul
import HandS.Style
import HandS.StrMore
import HandS.Text
import HandS.Codes
import HandS.Deep
import KE.GoesMore
import PyProof.ReprRoads
import PyProof.ReprLen
import PyProof.CallFns
import PyProof.Rows.RegStrFacts
import PySem.Challenge.RW_threadworth_k88_lines_and_words
set_option Elab.async false
set_option linter.all false
set_option maxRecDepth 100000
set_option maxHeartbeats 4000000
namespace T
open PySem PySem.Spec PyProof.Rows L2
/-! ### the mathematics of worlds and numbers -/
def primes : List Int := [2, 3, 5, 7, 11, 13, 17, 19, 23, 29, 31]
def isW (p d : Int) : Bool := if p = 0 then (if -20 ≤ d then decide (d ≤ 20) else false) else (if inV (.int p) (primes.map V.int) = true then (if 0 ≤ d then decide (d < p) else false) else false)
theorem inV_ints {p : Int} : ∀ {l : List Int}, inV (.int p) (l.map V.int) = true → p ∈ l
  | [], h => by cases h
  | x :: l, h => by
    have h1 : ((eqV (.int x) (.int p)) || inV (.int p) (l.map V.int)) = true := h
    rcases (Bool.or_eq_true _ _).mp h1 with h | h
    · have : x = p := of_decide_eq_true (show decide (x = p) = true by simpa [eqV] using h)
      rw [this]
      exact List.mem_cons_self
    · exact List.mem_cons_of_mem _ (inV_ints h)
theorem isW_prime {p d : Int} (h : isW p d = true) (hp : p ≠ 0) : p ∈ primes ∧ 0 ≤ d ∧ d < p := by
  unfold isW at h
  rw [if_neg hp] at h
  by_cases e : inV (.int p) (primes.map V.int) = true
  · rw [if_pos e] at h
    by_cases e2 : 0 ≤ d
    · rw [if_pos e2] at h
      exact ⟨inV_ints e, e2, of_decide_eq_true h⟩
    · rw [if_neg e2] at h
      cases h
  · rw [if_neg e] at h
    cases h
theorem prime_pos {p : Int} (h : p ∈ primes) : 2 ≤ p ∧ p ≤ 31 := by
  simp only [primes, List.mem_cons, List.not_mem_nil, or_false] at h
  omega
theorem inv_exN : ∀ p ∈ [2, 3, 5, 7, 11, 13, 17, 19, 23, 29, 31], ∀ r, r < p → r ≠ 0 → ∃ k, k < p ∧ (k * r) % p = 1 := by decide +kernel
theorem inv_ex {p : Int} (hp : p ∈ primes) {r : Int} (h0 : 0 ≤ r) (h1 : r < p) (hr : r ≠ 0) : ∃ k : Int, 1 ≤ k ∧ k < p ∧ k * r % p = 1 := by
  obtain ⟨n, rfl⟩ := Int.eq_ofNat_of_zero_le (show 0 ≤ p by have := prime_pos hp; omega)
  obtain ⟨m, rfl⟩ := Int.eq_ofNat_of_zero_le h0
  have hn : n ∈ [2, 3, 5, 7, 11, 13, 17, 19, 23, 29, 31] := by
    simp only [primes, List.mem_cons, List.not_mem_nil, or_false] at hp ⊢
    omega
  obtain ⟨k, hk, e⟩ := inv_exN n hn m (by omega) (by omega)
  refine ⟨(k : Int), ?_, by omega, ?_⟩
  · rcases Nat.eq_zero_or_pos k with z | z
    · subst z
      rw [Nat.zero_mul, Nat.zero_mod] at e
      cases e
    · omega
  · have : ((k * m % n : Nat) : Int) = ((1 : Nat) : Int) := by rw [e]
    rw [← Int.natCast_mul, ← Int.natCast_emod, e]
    rfl
/-- lowest terms -/
def gI (a b : Int) : Int := ((Nat.gcd a.natAbs b.natAbs : Nat) : Int)
def low (a b : Int) : Int × Int := if b < 0 then ((-a) / gI a b, (-b) / gI a b) else (a / gI a b, b / gI a b)
theorem gI_pos {a b : Int} (hb : b ≠ 0) : 0 < gI a b := by
  have : 0 < Nat.gcd a.natAbs b.natAbs := Nat.gcd_pos_of_pos_right _ (by omega)
  unfold gI
  omega
theorem gI_le {a b : Int} (hb : b ≠ 0) : gI a b ≤ b.natAbs := by
  have := Nat.gcd_le_right (m := a.natAbs) (n := b.natAbs) (by omega)
  unfold gI
  omega
theorem fdiv_negg (a g : Int) (hg : 0 ≤ g) : a.fdiv (-g) = (-a) / g := by
  rw [← Int.fdiv_eq_ediv_of_nonneg _ hg, ← Int.neg_fdiv_neg (-a) g, Int.neg_neg]
/-- the number a / b -/
def bad (p b : Int) : Prop := b = 0 ∨ (0 < p ∧ b % p = 0)
def IsNum (p a b x y : Int) : Prop := (0 < p ∧ y = 1 ∧ 0 ≤ x ∧ x < p ∧ (x * b - a) % p = 0) ∨ (¬ 0 < p ∧ (x, y) = low a b)
theorem inv_solves {p a b k : Int} (hp : 0 < p) (e : k * (b % p) % p = 1) (h1 : 1 < p) : ((a * k % p) * b - a) % p = 0 := by
  have e1 : (k * b) % p = 1 := by
    rw [Int.mul_emod, Int.emod_emod_of_dvd _ (Int.dvd_refl p), ← Int.mul_emod] at e
    exact e
  have d1 : p ∣ k * b - 1 := by
    apply Int.dvd_of_emod_eq_zero
    rw [Int.sub_emod, e1, Int.emod_eq_of_lt (by omega) h1]
    simp
  have d2 : p ∣ a * k - a * k % p := Int.dvd_self_sub_emod
  apply Int.emod_eq_zero_of_dvd
  have : (a * k % p) * b - a = a * (k * b - 1) - (a * k - a * k % p) * b := by
    rw [Int.mul_sub, Int.sub_mul, Int.mul_assoc]
    omega
  rw [this]
  exact Int.dvd_sub (Int.dvd_mul_of_dvd_right d1) (Int.dvd_mul_of_dvd_left d2)
theorem num_unique {p a b x y x' y' : Int} (hp : p = 0 ∨ p ∈ primes) (hb : ¬ bad p b) (h : IsNum p a b x y) (h' : IsNum p a b x' y') : x = x' ∧ y = y' := by
  rcases h with ⟨h0, e1, l1, u1, m1⟩ | ⟨h0, e1⟩
  · rcases h' with ⟨_, e2, l2, u2, m2⟩ | ⟨h0', _⟩
    · refine ⟨?_, e1.trans e2.symm⟩
      rcases hp with rfl | hp
      · omega
      · have hp2 := prime_pos hp
        have hbp : b % p ≠ 0 := fun z => hb (.inr ⟨h0, z⟩)
        obtain ⟨k, k1, k2, ek⟩ := inv_ex hp (Int.emod_nonneg b (by omega)) (Int.emod_lt_of_pos b h0) hbp
        have e1 : (k * b) % p = 1 := by
          rw [Int.mul_emod, Int.emod_emod_of_dvd _ (Int.dvd_refl p), ← Int.mul_emod] at ek
          exact ek
        have d1 : p ∣ k * b - 1 := by
          apply Int.dvd_of_emod_eq_zero
          rw [Int.sub_emod, e1, Int.emod_eq_of_lt (show (0:Int) ≤ 1 by omega) (show (1:Int) < p by omega)]
          simp
        have d2 : p ∣ (x * b - a) - (x' * b - a) := Int.dvd_sub (Int.dvd_of_emod_eq_zero m1) (Int.dvd_of_emod_eq_zero m2)
        have d3 : p ∣ x - x' := by
          have e : x - x' = k * ((x * b - a) - (x' * b - a)) - (x - x') * (k * b - 1) := by
            have e3 : (x * b - a) - (x' * b - a) = (x - x') * b := by
              rw [Int.sub_mul]
              omega
            rw [e3, Int.mul_sub, Int.mul_one, ← Int.mul_assoc, Int.mul_comm k (x - x'), Int.mul_assoc]
            omega
          rw [e]
          exact Int.dvd_sub (Int.dvd_mul_of_dvd_right d2) (Int.dvd_mul_of_dvd_right d1)
        obtain ⟨c, ec⟩ := d3
        have hc : c = 0 := by
          rcases Int.lt_trichotomy c 0 with z | z | z
          · have : p * c ≤ p * (-1) := Int.mul_le_mul_of_nonneg_left (by omega) (by omega)
            omega
          · exact z
          · have : p * 1 ≤ p * c := Int.mul_le_mul_of_nonneg_left (by omega) (by omega)
            omega
        rw [hc, Int.mul_zero] at ec
        omega
    · exact absurd h0 h0'
  · rcases h' with ⟨h0', _⟩ | ⟨_, e2⟩
    · exact absurd h0' h0
    · have := e1.trans e2.symm
      exact ⟨congrArg Prod.fst this, congrArg Prod.snd this⟩
end T

/-! ### defs that are called where nothing is being shown (no repr is under way): what the law's own def may know -/
namespace L2
open PySem PySem.Spec PyProof.Rows
structure FnG (P : Program) (w : World) (K : PySem.W.Frag) (mg : Str → Option Value) (base : Heap) (k : Nat) (f : Addr) (fd : FuncData) (ps : List Str) (sp : Sp) : Prop where
  len : ∀ vs H Q E, sp vs H Q E → vs.length = ps.length
  run : ∀ (A : Around) (outer : List Env) (s : Shared) (H : Hp) (args : Args) (us : List Value) (vs : List V) (Q : VK) (E : XK), A.guards = some [] → Room k A → Env0 P w K mg base A outer s H →
    BindsTo s fd args (ps.zip us) → Vals vs us → sp vs H Q E → codeAny (model P w) A (.call (.ref f) args) (CR CX0 outer P w H s Q E) s
theorem CE_of {P : Program} {w : World} {K : PySem.W.Frag} {mg : Str → Option Value} {base : Heap} {N : List Str} {qual : Str} {scope : Scope} {f : Addr} {cdv : Value} {A : Around} {outer : List Env} {s s' : Shared} {H H' : Hp} {E : XK} {Q : VK} {σ' : St} {v : V} {u : Value}
    (J : Inv (cxOf CX0 P w K mg base N qual scope f cdv A outer s H E) [] σ' H' s') (rv : RelV v u) (q : Q v H') : CE outer P w H s Q u s' := ⟨v, H', J.os, J.bare, J.base, J.hok, rv, q⟩
theorem Fun.okG {P : Program} {w : World} {K : PySem.W.Frag} {mg : Str → Option Value} {base : Heap} {x qual : Str} {st : Stmt} {f : Addr} {fd : FuncData} {N ps : List Str} {k : Nat} {sp : Sp} (F : Fun K x qual st f fd) (S : FnScope N ps (defScope st))
    (len : ∀ vs H Q E, sp vs H Q E → vs.length = ps.length)
    (hbody : ∀ (cdv : Value) (A : Around) (outer : List Env) (s : Shared) (H : Hp) (vs : List V) (Q : VK) (E : XK), (A.deeper (envOfC qual (defScope st) s.heap.objs.size f cdv)).guards = some [] →
      Room k (A.deeper (envOfC qual (defScope st) s.heap.objs.size f cdv)) → sp vs H Q E →
      ∃ t, PSs (cxOf CX0 P w K mg base N qual (defScope st) f cdv A outer s H E).nox (defBody st) t ∧ t { nx := fun _ H' => Q .non H', rt := Q } (start N vs) H) : FnG P w K mg base (k + 1) f fd ps sp := by
  obtain ⟨oc, od, kV, doc, pm, an, cdv, ct, osl, rfl, lk, hcd⟩ := F.ex
  refine ⟨len, fun A outer s H args us vs Q E hgu hr e0 hb r hsp => ?_⟩
  have keep := fun b o (e : base.get? b = some o) => (e0.bs b o e).1
  have inK : K.In s.heap := e0.mod.kin.keeps keep
  refine codeAny_call_function hr.depth (inK _ _ lk) rfl S.co S.gen rfl (PySem.W.codeRec_of inK hcd) (hb _ _ _ _ ?_)
  refine wpAny_newFunctionEnv_cells S.kind (fun ⟨n, v⟩ hy => ?_) fun env he s1 xx => ?_
  · exact (S.par n (List.of_mem_zip hy).1).elim .inl fun q => .inr ⟨q, PySem.W.cellsFrom_some _ _ _ (.inl q)⟩
  · subst he
    refine ⟨(e0.mod.nolimit.keeps keep).keeps xx.toInCall.keep, codeAny_func ?_⟩
    obtain ⟨t, ht, hq⟩ := hbody cdv A outer s H vs Q E hgu (hr.deeper _) hsp
    have I := inv_start (CX := CX0) (E := E) S hr.hd e0 (len _ _ _ _ hsp) r xx
    refine wpAny_mono (ht.nox.run [] s1 _ H _ I hq) (fun fl s' hs => ?_) fun e s' hs => hs
    rcases fl with _ | _ | _ | u
    · obtain ⟨σ', H', J, q⟩ := hs
      exact CE_of (v := V.non) (u := Value.none) J rfl q
    · exact hs.elim fun _ z => z.elim fun _ z => z.2.elim
    · exact hs.elim fun _ z => z.elim fun _ z => z.2.elim
    · obtain ⟨v, σ', H', J, rv, q⟩ := hs
      exact CE_of J rv q
end L2

namespace L2
open PySem PySem.Spec PyProof.Rows
/-- the law's def, called by the claim's caller: nothing is being shown there -/
theorem goes_at {P : Program} {w : World} {K : PySem.W.Frag} {mg mb : Str → Option Value} {k : Nat} {fa a : Addr} {fd : FuncData} {x : Str} {sp : Sp} {t : Shared} {vs : List Value} {xs : List V} {H : Hp}
    (KX : K.In t.heap) (hns : t.heap.Ns mainGlobals mg) (hb : t.heap.Ns builtinsNs mb) (hbb : ∀ y : Str, y ≠ "__name__" → mb y = bootBuiltins y) (hlim : t.heap.NoLimit) (hg : t.gens = #[])
    (ha : t.heap.get? a = some { cls := .type "list", data := .seq vs.toArray }) (hr : Room k callerA)
    (F : ∀ base : Heap, K.In base → base.Ns mainGlobals mg → FnG P w K mg base k fa fd [x] sp) (hbind : ∀ (s : Shared) (u : Value), BindsTo s fd ⟨[u], []⟩ [(x, u)])
    (hO : Only H) (hsp : sp [.ref a] H (fun v _ => v = .bl true) fun _ _ _ => False) (hok : HOk P w H t.heap) (hA : ∀ b, H b ≠ none → b = a) (hK : H a ≠ none → K.lookup a = none) :
    codeAny (model P w) callerA (.call (.ref fa) ⟨[.ref a], []⟩) (fun r s' => r = .ok (.ret (.bool true)) ∧ OldK t.heap s'.heap ∧ s'.os = t.os ∧ AllBare s'.gens) t := by
  have free : ∀ {b : Addr}, (H b ≠ none → False) → H b = none := fun {b} z => by
    rcases e : H b with _ | u
    · rfl
    · exact (z (by rw [e]; exact fun q => nomatch q)).elim
  have ns : ∀ {b : Addr} {m : Str → Option Value}, t.heap.Ns b m → (hidT t.heap H).Ns b m := fun {b m} z => by
    obtain ⟨o, es, ep, e, d, r⟩ := z
    refine ⟨o, es, ep, hidT_get e (free fun z => ?_), d, r⟩
    rw [hA b z, ha] at e
    cases e
    cases d
  have inB : K.In (hidT t.heap H) := fun b o e => hidT_get (KX b o e) (free fun z => by
    have eb := hA b z
    rw [eb] at z e
    rw [hK z] at e
    cases e)
  obtain ⟨mc, l1, l2⟩ := hlim
  have env : Env0 P w K mg (hidT t.heap H) callerA [] t H := ⟨rfl, ⟨inB, ns hns, ⟨mb, ns hb, hbb⟩, ⟨mc, ns l1, l2⟩⟩, fun b o e => of_hidT e, Nat.le_of_eq (hidT_size _ _), trivial, fun b hb => (nomatch hb), hok, .of_eq hg⟩
  refine codeAny_mono ((F _ inB (ns hns)).run callerA [] t H _ [.ref a] [.ref a] _ _ rfl hr env (hbind t (.ref a)) (.cons rfl .nil) hsp) fun r s' h => ?_
  rcases r with e | fl
  · exact (show False from h).elim
  · rcases fl with _ | _ | _ | u
    · exact (show False from h).elim
    · exact (show False from h).elim
    · exact (show False from h).elim
    · obtain ⟨v, H', os, bare, un, hok', rv, q⟩ := h
      obtain rfl : v = .bl true := q
      obtain rfl : u = Value.bool true := rv
      refine ⟨rfl, OldK.of_keep fun b o e => ?_, os, bare⟩
      rcases hO b with z | ⟨ob, ys, z⟩
      · exact un.keep b o e z (fun z => nomatch z) (fun z => nomatch z)
      · have e1 := (hok b _ z).1
        rw [e] at e1
        rw [Option.some.inj e1]
        exact (hok' b _ (un.frzs b ob _ z)).1
theorem walk_ofG {l : PySem.W.OpenLaw} {n k : Nat} {q : Program} {loose : List Str} {XP : (Str → Option Value) → Heap → Prop} {YP : World → Heap → Prop} {d : DefRec} {K : Params → PySem.W.Frag} {sp : World → Sp} {x : Str}
    (hn : l.most = some n) (hn2 : n ≤ sizeLine) (hdf : d.params.defaults = []) (hr : Room k callerA) (hY : ∀ (w : World) (h : Heap), YP w h → (K w.params).In h)
    (F : ∀ (w : World) (mg : Str → Option Value) (fa : Addr) (h : Heap), (K w.params).In h → h.Ns mainGlobals mg → mg d.name = some (.ref fa) →
      ∃ fd : FuncData, (∀ (s : Shared) (u : Value), BindsTo s fd ⟨[u], []⟩ [(x, u)]) ∧ ∀ base : Heap, (K w.params).In base → base.Ns mainGlobals mg → FnG l.prog w (K w.params) mg base k fa fd [x] (sp w))
    (hsp : ∀ (w : World) (H : Hp) (a : Addr) (ns : List Int), ns.length ≤ n → SqL (K w.params) H a (ns.map V.int) → sp w [.ref a] H (fun v _ => v = .bl true) fun _ _ _ => False) :
    PySem.W.WalkO q loose XP YP l.row.toRowW d [] (fun f vs => PySem.call f vs) := by
  refine Att.attach_call hn hdf fun w s₀ t mg mb fa o pm cd doc a vs ns G Y ho hd hcd hmg hobj hints hlen hg => ?_
  have KX := hY w _ Y
  obtain ⟨fd, hb, hF⟩ := F w mg fa _ KX G.T.g hmg
  have rv : Vals (ns.map V.int) vs := vals_ints hints
  have lv := hints.length
  rcases hk : (K w.params).lookup a with _ | oa
  · refine goes_at (xs := ns.map V.int) (H := fun b => if b = a then some (.frz { cls := .type "list", data := .seq vs.toArray } (.lst (ns.map V.int))) else none) KX G.T.g G.T.b G.T.builtins G.T.nolimit hg hobj hr hF hb
      (fun b => ?_) (hsp w _ a ns hlen (.inl (.inr ⟨_, if_pos rfl⟩))) (fun b u z => ?_) (fun b z => Decidable.byContradiction fun c => z (if_neg c)) fun _ => hk
    · by_cases c : b = a
      · exact .inr ⟨_, _, if_pos c⟩
      · exact .inl (if_neg c)
    · by_cases c : b = a
      · have z' := (if_pos c).symm.trans z
        cases z'
        subst c
        exact ⟨hobj, by rw [List.length_map]; omega, vs, _, rv, hobj⟩
      · have z' := (if_neg c).symm.trans z
        cases z'
  · have e := (KX a oa hk).symm.trans hobj
    cases e
    exact goes_at (xs := ns.map V.int) (H := fun _ => none) KX G.T.g G.T.b G.T.builtins G.T.nolimit hg hobj hr hF hb (fun _ => .inl rfl)
      (hsp w _ a ns hlen (.inr ⟨_, vs.toArray, _, hk, rfl, rfl, rfl, by rw [List.size_toArray]; omega, rv⟩)) (fun b u z => nomatch z) (fun b z => (z rfl).elim) fun z => (z rfl).elim
end L2

namespace L2
open PySem PySem.Spec PyProof.Rows
/-! ### repr(data), where nothing is being shown -/
mutual
def wt : PyData → Nat
  | .none => 4
  | .bool _ => 5
  | .int _ => 1921
  | .str x => (reprText x).length
  | .list xs => wtAll xs + 3
  | .tuple xs => wtAll xs + 3
  | .dict _ => 0
def wtAll : List PyData → Nat
  | [] => 0
  | x :: xs => wt x + 2 + wtAll xs
end
mutual
theorem shown_wt : ∀ d : PyData, d.showable = true → d.hasDict = false → d.shown.length ≤ wt d
  | .none, _, _ => by simp only [PyData.shown, wt]; decide +kernel
  | .bool b, _, _ => by cases b <;> simp only [PyData.shown, wt] <;> decide +kernel
  | .int i, h, _ => by
    simp only [PyData.shown, wt]
    exact int_text_len_1921 (by simpa [PyData.showable] using h)
  | .str x, _, _ => by simp only [PyData.shown, wt]; exact Nat.le_refl _
  | .list xs, h, h2 => by
    simp only [PyData.showable] at h
    simp only [PyData.hasDict] at h2
    simp only [PyData.shown, wt]
    have h3 := shown_wtAll xs h h2
    have h4 := listText_len_le (PyData.shownAll xs)
    omega
  | .tuple xs, h, h2 => by
    simp only [PyData.showable] at h
    simp only [PyData.hasDict] at h2
    simp only [PyData.shown, wt]
    have h3 := shown_wtAll xs h h2
    have h4 := tupleText_len_le (PyData.shownAll xs)
    omega
  | .dict _, _, h2 => by simp [PyData.hasDict] at h2
theorem shown_wtAll : ∀ xs : List PyData, PyData.showableAll xs = true → PyData.hasDictAll xs = false → ((PyData.shownAll xs).map (·.length)).sum + 2 * (PyData.shownAll xs).length ≤ wtAll xs
  | [], _, _ => by simp [PyData.shownAll, wtAll]
  | x :: xs, h, h2 => by
    simp only [PyData.showableAll, Bool.and_eq_true] at h
    simp only [PyData.hasDictAll, Bool.or_eq_false_iff] at h2
    have h3 := shown_wt x h.1 h2.1
    have h4 := shown_wtAll xs h.2 h2.2
    simp only [PyData.shownAll, wtAll, List.map_cons, List.sum_cons, List.length_cons]
    omega
end
def rReprD (K : PySem.W.Frag) : List V → Hp → VK → Prop := fun xs H Q => ∃ x d, xs = [x] ∧ Dp K H x d ∧ SeqAt.shaped d = true ∧ d.showable = true ∧ wt d ≤ sizeLine ∧ Q (.str d.shown) H
theorem cr_reprD {X : Cx} (hg : X.A.guards = some []) (hu : X.A.units + 65 < cLine) : CallR X (.builtin "repr") (rReprD X.K) := by
  intro pins s σ H vs us Q I r h
  obtain ⟨x, d, rfl, hd, hs, hw, hz, q⟩ := h
  cases r with
  | cons rv rn =>
    rename_i v us'
    cases rn
    have hs' : (d.canLay0 && decide (d.depth ≤ 64)) = true := hs
    rw [Bool.and_eq_true] at hs'
    have nd := PyData.hasDict_of_canLay d hs'.1
    have dep : d.depth ≤ 64 := of_decide_eq_true hs'.2
    have sz := Nat.le_trans (shown_wt d hw nd) hz
    obtain ⟨as, rd⟩ := Dp.reads I d x v hd rv
    have ref : ∀ a : Addr, v = .ref a → wpAny (model X.prog X.w) X.A (call (.builtin "repr") [v]) (EP X pins σ Q) X.xe s := fun a e => by
      subst e
      exact repr_of_reads' rd hw (PyData.noDict_hsm nd) hg (by omega) (fun _ _ e => e) (fun h' u tk hk => ⟨.str _, H, I.kept (t' := tk) hk, ⟨u, rfl⟩, q⟩) sz
    cases hd with
    | non =>
      cases rv
      exact PySem.P.repr_of_none ⟨.str _, H, I.tok _, ⟨_, rfl⟩, by simpa only [PyData.shown] using q⟩
    | bl b =>
      cases rv
      exact PySem.P.repr_of_bool ⟨.str _, H, I.tok _, ⟨_, rfl⟩, by simpa only [PyData.shown] using q⟩
    | int i =>
      obtain ⟨t, rfl⟩ := rv
      exact PySem.P.repr_of_int (by simpa [PyData.showable] using hw) ⟨.str _, H, I.tok _, ⟨_, rfl⟩, by simpa only [PyData.shown] using q⟩
    | str y =>
      obtain ⟨t, rfl⟩ := rv
      exact PySem.P.repr_of_str ⟨.str _, H, I.tok _, ⟨_, rfl⟩, by simpa only [PyData.shown] using q⟩ (by simpa only [PyData.shown] using sz)
    | lst _ _ => exact ref _ rv
    | tup _ _ => exact ref _ rv
end L2

namespace T
/-! ### fractions -/
theorem low_pos {a : Int} {n : Nat} (hn : n ≠ 0) : low a (n : Int) = ((Rat.divInt a (n : Int)).num, ((Rat.divInt a (n : Int)).den : Int)) := by
  have e : Rat.divInt a (n : Int) = Rat.normalize a n hn := by
    show mkRat a n = _
    rw [Rat.mkRat_def, dif_neg hn]
  rw [e, Rat.normalize_eq]
  unfold low gI
  rw [if_neg (by omega), Int.natAbs_natCast]
  show (_, _) = (_, (((n / a.natAbs.gcd n : Nat)) : Int))
  rw [Int.natCast_ediv]
theorem low_rat {a b : Int} (hb : b ≠ 0) : low a b = ((Rat.divInt a b).num, ((Rat.divInt a b).den : Int)) := by
  by_cases c : 0 < b
  · obtain ⟨n, rfl⟩ := Int.eq_ofNat_of_zero_le (Int.le_of_lt c)
    exact low_pos (by omega)
  · obtain ⟨n, hn⟩ := Int.eq_ofNat_of_zero_le (show 0 ≤ -b by omega)
    have e : Rat.divInt a b = Rat.divInt (-a) (n : Int) := (Rat.divInt_eq_divInt_iff hb (by omega)).mpr (by rw [← hn, Int.mul_neg, Int.neg_mul])
    rw [e, ← low_pos (by omega), ← hn]
    unfold low gI
    rw [if_pos (by omega), if_neg (by omega), Int.natAbs_neg, Int.natAbs_neg]
theorem low_congr {a b a' b' : Int} (hb : b ≠ 0) (hb' : b' ≠ 0) (h : a * b' = a' * b) : low a b = low a' b' := by
  rw [low_rat hb, low_rat hb', (Rat.divInt_eq_divInt_iff hb hb').mpr h]
theorem low_q {a b u v : Int} (hb : b ≠ 0) (h : (u, v) = low a b) : Rat.divInt u v = Rat.divInt a b ∧ 0 < v := by
  rw [low_rat hb] at h
  have e1 : u = (Rat.divInt a b).num := congrArg Prod.fst h
  have e2 : v = ((Rat.divInt a b).den : Int) := congrArg Prod.snd h
  rw [e1, e2]
  exact ⟨Rat.num_divInt_den _, by have := (Rat.divInt a b).den_pos; omega⟩
theorem low_cross {a b u v : Int} (hb : b ≠ 0) (h : (u, v) = low a b) : u * b = a * v ∧ 0 < v := by
  obtain ⟨h1, h2⟩ := low_q hb h
  exact ⟨(Rat.divInt_eq_divInt_iff (by omega) hb).mp h1, h2⟩
/-- a number times a number: the parts may be reduced ahead or behind -/
theorem num_step {p A B u v a b u' v' : Int} (hp : p = 0 ∨ p ∈ primes) (hB : p = 0 → B ≠ 0) (hb0 : p = 0 → b ≠ 0) (hb1 : p ≠ 0 → b = 1) (hB1 : p ≠ 0 → B = 1) (h : IsNum p A B u v) (h' : IsNum p (u * a) (v * b) u' v') : IsNum p (A * a) (B * b) u' v' := by
  by_cases c : p = 0
  · obtain ⟨_, e⟩ := h.resolve_left (fun z => by omega)
    obtain ⟨_, e'⟩ := h'.resolve_left (fun z => by omega)
    obtain ⟨x1, x2⟩ := low_cross (hB c) e
    refine .inr ⟨by omega, e'.trans (low_congr (Int.mul_ne_zero (by omega) (hb0 c)) (Int.mul_ne_zero (hB c) (hb0 c)) ?_)⟩
    calc u * a * (B * b) = u * B * (a * b) := by rw [Int.mul_assoc, Int.mul_assoc]; congr 1; rw [← Int.mul_assoc, ← Int.mul_assoc, Int.mul_comm a B]
      _ = A * v * (a * b) := by rw [x1]
      _ = A * a * (v * b) := by rw [Int.mul_assoc, Int.mul_assoc]; congr 1; rw [← Int.mul_assoc, ← Int.mul_assoc, Int.mul_comm v a]
  · have hp2 := prime_pos (hp.resolve_left c)
    obtain ⟨h0, e1, l1, u1, m1⟩ := h.resolve_right (fun z => by omega)
    obtain ⟨_, e2, l2, u2, m2⟩ := h'.resolve_right (fun z => by omega)
    refine .inl ⟨h0, e2, l2, u2, ?_⟩
    rw [hB1 c, hb1 c]
    rw [hB1 c, Int.mul_one] at m1
    rw [hb1 c, e1] at m2
    have d1 := Int.dvd_of_emod_eq_zero m1
    have d2 := Int.dvd_of_emod_eq_zero m2
    apply Int.emod_eq_zero_of_dvd
    have e : u' * (1 * 1) - A * a = (u' * (1 * 1) - u * a) + (u - A) * a := by
      rw [Int.sub_mul]
      omega
    rw [e]
    exact Int.dvd_add d2 (Int.dvd_mul_of_dvd_left d1)
theorem low_small {a b u v : Int} (h : (u, v) = low a b) : u.natAbs ≤ a.natAbs ∧ v.natAbs ≤ b.natAbs := by
  have e1 := congrArg Prod.fst h
  have e2 := congrArg Prod.snd h
  unfold low at e1 e2
  by_cases c : b < 0
  · rw [if_pos c] at e1 e2
    have f1 : u = (-a) / gI a b := e1
    have f2 : v = (-b) / gI a b := e2
    have g1 := Int.natAbs_ediv_le_natAbs (-a) (gI a b)
    have g2 := Int.natAbs_ediv_le_natAbs (-b) (gI a b)
    rw [f1, f2]
    omega
  · rw [if_neg c] at e1 e2
    have f1 : u = a / gI a b := e1
    have f2 : v = b / gI a b := e2
    have g1 := Int.natAbs_ediv_le_natAbs a (gI a b)
    have g2 := Int.natAbs_ediv_le_natAbs b (gI a b)
    rw [f1, f2]
    omega
theorem num_small {p a b u v : Int} (hp : p = 0 ∨ p ∈ primes) (h : IsNum p a b u v) (ha : a.natAbs < 2 ^ 199) (hb : b.natAbs < 2 ^ 199) : u.natAbs < 2 ^ 200 ∧ v.natAbs < 2 ^ 200 := by
  rcases h with ⟨h0, rfl, h1, h2, _⟩ | ⟨_, h⟩
  · have := prime_pos (hp.resolve_left (by omega))
    omega
  · have := low_small h
    omega
theorem isW_cases {p d : Int} (hw : isW p d = true) : (p = 0 ∨ p ∈ primes) ∧ d.natAbs ≤ 31 := by
  by_cases c : p = 0
  · refine ⟨.inl c, ?_⟩
    unfold isW at hw
    rw [if_pos c] at hw
    by_cases h1 : -20 ≤ d
    · rw [if_pos h1] at hw
      have := of_decide_eq_true hw
      omega
    · rw [if_neg h1] at hw
      cases hw
  · obtain ⟨h1, h2, h3⟩ := isW_prime hw c
    have := prime_pos h1
    exact ⟨.inr h1, by omega⟩
end T

namespace T
open PySem PySem.Spec PyProof.Rows L2
/-! ### lists of integers as polynomials -/
def co (l : List Int) (k : Nat) : Int := l.getD k 0
theorem co_ge {l : List Int} {k : Nat} (h : l.length ≤ k) : co l k = 0 := by
  unfold co
  rw [List.getD_eq_getElem?_getD, List.getElem?_eq_none h]
  rfl
theorem co_get {l : List Int} {k : Nat} (h : k < l.length) : l[k]? = some (co l k) := by
  unfold co
  rw [List.getD_eq_getElem?_getD, List.getElem?_eq_getElem h]
  rfl
theorem co_mem {l : List Int} {k : Nat} (h : k < l.length) : co l k ∈ l := by
  have e := co_get h
  exact List.mem_of_getElem? e
theorem at_co {l : List Int} {k : Nat} (h : k < l.length) : atI (l.map V.int) (k : Int) = some (.int (co l k)) := atI_nat (by rw [List.getElem?_map, co_get h]; rfl)
theorem at_end {l : List Int} (h : l ≠ []) : atI (l.map V.int) (-1) = some (.int (co l (l.length - 1))) := by
  have hl : 0 < l.length := List.length_pos_iff.mpr h
  have e : l.map V.int = (l.take (l.length - 1)).map V.int ++ [V.int (co l (l.length - 1))] := by
    have e1 : l = l.take (l.length - 1) ++ [co l (l.length - 1)] := by
      have := List.take_succ (l := l) (i := l.length - 1)
      rw [show l.length - 1 + 1 = l.length by omega, List.take_length, co_get (by omega)] at this
      exact this
    conv => lhs; rw [e1]
    rw [List.map_append]
    rfl
  rw [e]
  exact atI_last _ _
/-- no 0 at the end -/
def Pol (l : List Int) : Prop := l = [] ∨ co l (l.length - 1) ≠ 0
theorem pol_len {l m : List Int} (hm : Pol m) (h : ∀ k, co l k = co m k) : m.length ≤ l.length := by
  rcases hm with rfl | hm
  · exact Nat.zero_le _
  · rcases Nat.lt_or_ge l.length m.length with c | c
    · rw [← h, co_ge (by omega)] at hm
      exact absurd rfl hm
    · exact c
theorem pol_ext {l m : List Int} (hl : Pol l) (hm : Pol m) (h : ∀ k, co l k = co m k) : l = m := by
  have h1 := pol_len hm h
  have h2 := pol_len hl (fun k => (h k).symm)
  refine List.ext_getElem? fun k => ?_
  rcases Nat.lt_or_ge k l.length with c | c
  · rw [co_get c, co_get (by omega), h]
  · rw [List.getElem?_eq_none c, List.getElem?_eq_none (by omega)]
theorem co_take {l : List Int} {s k : Nat} (h : ∀ i, s ≤ i → co l i = 0) : co (l.take s) k = co l k := by
  rcases Nat.lt_or_ge k s with c | c
  · unfold co
    rw [List.getD_eq_getElem?_getD, List.getD_eq_getElem?_getD, List.getElem?_take_of_lt c]
  · rw [h k c, co_ge (by rw [List.length_take]; omega)]
theorem pol_take {l : List Int} {s : Nat} (hs : s ≤ l.length) (h : s = 0 ∨ co l (s - 1) ≠ 0) (hz : ∀ i, s ≤ i → co l i = 0) : Pol (l.take s) := by
  rcases h with rfl | h
  · exact .inl rfl
  · by_cases c : s = 0
    · rw [c]
      exact .inl rfl
    · refine .inr ?_
      rw [List.length_take, Nat.min_eq_left hs, co_take hz]
      exact h
theorem co_map {f : Int → Int} (h0 : f 0 = 0) (l : List Int) (k : Nat) : co (l.map f) k = f (co l k) := by
  rcases Nat.lt_or_ge k l.length with c | c
  · have := co_get c
    unfold co
    rw [List.getD_eq_getElem?_getD, List.getElem?_map, List.getD_eq_getElem?_getD, this]
    rfl
  · rw [co_ge (by rw [List.length_map]; omega), co_ge c, h0]
theorem co_set {l : List Int} {i : Nat} {v : Int} (k : Nat) (h : i < l.length) : co (l.set i v) k = if k = i then v else co l k := by
  unfold co
  rw [List.getD_eq_getElem?_getD, List.getElem?_set]
  by_cases c : i = k
  · rw [if_pos c, if_pos c.symm, if_pos (by omega)]
    rfl
  · rw [if_neg c, if_neg (fun z => c z.symm), List.getD_eq_getElem?_getD]
theorem co_zeros (n k : Nat) : co (List.replicate n 0) k = 0 := by
  unfold co
  rw [List.getD_eq_getElem?_getD, List.getElem?_replicate]
  split <;> rfl
theorem map_set (l : List Int) (i : Nat) (v : Int) : (l.map V.int).set i (V.int v) = (l.set i v).map V.int := List.map_set.symm
/-! the value -/
def ev (x : Int) : List Int → Int
  | [] => 0
  | a :: r => a + x * ev x r
theorem ev_append (x : Int) (l : List Int) (a : Int) : ev x (l ++ [a]) = ev x l + x ^ l.length * a := by
  induction l with
  | nil => show a + x * 0 = 0 + x ^ 0 * a; rw [Int.pow_zero]; grind
  | cons b r ih =>
    show b + x * ev x (r ++ [a]) = b + x * ev x r + x ^ (r.length + 1) * a
    rw [ih, Int.pow_succ]
    grind
theorem ev_take (x : Int) {l : List Int} {i : Nat} (h : i < l.length) : ev x (l.take (i + 1)) = ev x (l.take i) + co l i * x ^ i := by
  have e : l.take (i + 1) = l.take i ++ [co l i] := by rw [List.take_succ, co_get h]; rfl
  rw [e, ev_append, List.length_take, Nat.min_eq_left (by omega), Int.mul_comm]
theorem ev_drop (x : Int) {l : List Int} {i : Nat} (h : i < l.length) : ev x (l.drop i) = co l i + x * ev x (l.drop (i + 1)) := by
  rw [List.drop_eq_getElem_cons h]
  have := co_get h
  rw [List.getElem?_eq_getElem h] at this
  rw [Option.some.inj this]
  rfl
/-! the product: what is there behind i rows, and j entries of the next -/
def row (one other : List Int) (i k : Nat) : Int := if i ≤ k then co one i * co other (k - i) else 0
def conv (one other : List Int) : Nat → Nat → Int
  | 0, _ => 0
  | i + 1, k => conv one other i k + row one other i k
theorem conv_more (one other : List Int) (k : Nat) : ∀ i, one.length ≤ i → conv one other i k = conv one other one.length k
  | 0, h => by rw [show one.length = 0 by omega]
  | i + 1, h => by
    by_cases c : one.length = i + 1
    · rw [c]
    · show conv one other i k + row one other i k = _
      rw [conv_more one other k i (by omega)]
      unfold row
      rw [co_ge (l := one) (by omega)]
      split <;> simp
theorem conv_top (one other : List Int) {k : Nat} : ∀ i, i ≤ one.length → i + other.length ≤ k + 1 → conv one other i k = 0
  | 0, _, _ => rfl
  | i + 1, h, hk => by
    show conv one other i k + row one other i k = 0
    rw [conv_top one other i (by omega) (by omega)]
    unfold row
    rw [if_pos (by omega), co_ge (l := other) (by omega)]
    simp
theorem conv_zero (one : List Int) (k : Nat) : ∀ i, conv one [] i k = 0
  | 0 => rfl
  | i + 1 => by
    show conv one [] i k + row one [] i k = 0
    rw [conv_zero one k i]
    unfold row
    rw [show co [] (k - i) = 0 from co_ge (Nat.zero_le _)]
    split <;> simp
theorem rep0 : ∀ n : Nat, (List.replicate n [V.int 0]).flatten = (List.replicate n (0 : Int)).map V.int
  | 0 => rfl
  | n + 1 => by
    rw [List.replicate_succ, List.flatten_cons, rep0 n, List.replicate_succ, List.map_cons]
    rfl
theorem ixN_nat {n j : Nat} (h : j < n) : ixN n (j : Int) = some j := by
  unfold ixN
  rw [if_pos (by omega), if_pos (by omega)]
  rfl
end T

/-! ### enumerate over a tuple (the hand layer has it over a list) -/
namespace PySem
open Sem (wp)
open AutoSeq1 (wpAny_loadPart')
theorem new_enumT (t : Addr) (its : Array Value) (n : Nat) (dc : Option Addr) (sl : Array (Option Value)) :
    Meets (Builtin.«enumerate.__new__» ⟨[.type "enumerate", .ref t], []⟩) (fun _ R s => s.heap.get? t = some { cls := .type "tuple", dict := dc, data := .seq its n, slots := sl } ∧
      R (.ok (.ret (.ref (s.heap.push { cls := .type "tuple_iterator", data := .fields #[.ref t, .int 0 0] }).objs.size)))
        { s with heap := (s.heap.push { cls := .type "tuple_iterator", data := .fields #[.ref t, .int 0 0] }).push { cls := .type "enumerate", data := .fields #[.none, .bool false, .ref s.heap.objs.size, rawInt 0, .none, .none] } }) :=
  .of_wp fun prog w A R s both => by
    obtain ⟨hp, g, d, tk, os⟩ := s
    obtain ⟨ht, both⟩ := both
    have below := sub_enumerate
    have tup : Heap.IsTuple (Shared.heap ⟨hp, g, d, tk, os⟩) t its := ⟨_, ht, rfl, n, rfl⟩
    wp_walk using wpAny_loadPart' ht
    refine wpAny_stack_any fun _ => wpAny_pure ?_
    split
    · rename_i c _ _ _ _ _
      cases (c == Value.type "enumerate")
      · wp_walk using wpAny_loadPart' ht, wpAny_pyIter_tuple tup
        exact ⟨_, rfl, both⟩
      · wp_walk using wpAny_loadPart' ht, wpAny_pyIter_tuple tup
        exact ⟨_, rfl, both⟩
    · wp_walk using wpAny_loadPart' ht, wpAny_pyIter_tuple tup
      exact ⟨_, rfl, both⟩
section
variable {prog : Program} {w : World} {A : Around} {E : Value → Shared → Prop} {s : Shared}
theorem call_enumT {t : Addr} {its : Array Value} {Q : Value → Shared → Prop} (ht : s.heap.IsTuple t its)
    (q : ∀ h', IsEnum h' (s.heap.objs.size + 1) s.heap.objs.size 0 .none → h'.IsTupleIter s.heap.objs.size t 0 →
      (∀ b o, s.heap.get? b = some o → h'.get? b = some o) → Q (.ref (s.heap.objs.size + 1)) { s with heap := h' }) :
    wpAny (model prog w) A (call (.type "enumerate") [.ref t]) Q E s := by
  obtain ⟨⟨c, dc, da, sl⟩, ht, ec, n, ed⟩ := ht
  obtain rfl : c = .type "tuple" := ec
  obtain rfl : da = .seq its n := ed
  refine callType_new F.called_enumerate (by decide) (F.typeCall_enumerate_1 _) (F.newCall_enumerate_1 _) (fun ob => F.args_object_init_2 ob _) F.entry_enumerate_new (new_enumT t its n dc sl) ⟨ht, ?_⟩
  have sz : (s.heap.push { cls := .type "tuple_iterator", data := .fields #[.ref t, .int 0 0] }).objs.size = s.heap.objs.size + 1 := Heap.size_push ..
  show _ ∧ _
  rw [sz]
  have en : IsEnum ((s.heap.push { cls := .type "tuple_iterator", data := .fields #[.ref t, .int 0 0] }).push { cls := .type "enumerate", data := .fields #[.none, .bool false, .ref s.heap.objs.size, rawInt 0, .none, .none] })
      (s.heap.objs.size + 1) s.heap.objs.size 0 .none := by
    have z := Heap.get?_push_size (s.heap.push { cls := .type "tuple_iterator", data := .fields #[.ref t, .int 0 0] }) (o := { cls := .type "enumerate", data := .fields #[.none, .bool false, .ref s.heap.objs.size, rawInt 0, .none, .none] }) rfl
    rw [sz] at z
    exact z
  exact ⟨⟨_, en, rfl⟩, q _ en ⟨_, Heap.get?_push_of_some _ (Heap.get?_push_size _ rfl), rfl, rfl⟩ fun b o x => Heap.get?_push_of_some _ (Heap.get?_push_of_some _ x)⟩
end
end PySem
namespace L2
open PySem PySem.Spec PyProof.Rows
/-- the tuple at a, each item in a new pair behind its index -/
def IteT (K : PySem.W.Frag) (a : Addr) : It :=
  ⟨fun i H => ∃ (ys : List V) (y : V), SqT K H a ys ∧ ys[i]? = some y, fun i H v H' => ∃ p y, v = .ref p ∧ H p = none ∧ H' = upd H p (.tup [.int (i : Nat), y]) ∧ ∀ ys, SqT K H a ys → ys[i]? = some y,
    fun i H => ∃ ys : List V, SqT K H a ys ∧ ys.length = i⟩
theorem turn_enumT {P : Program} {w : World} {K : PySem.W.Frag} {elts : List Expr} {kk : Nat} {tp : Pos} (a e it : Addr) :
    Turn P w K (.Tuple elts kk tp) (IteT K a) [e, it] e (fun i h => (∃ old, IsEnum h e it ((i : Nat) : Int) old) ∧ h.IsTupleIter it a i ∧ (e ≠ it ∧ a ≠ it ∧ a ≠ e)) where
  mem := by simp
  obj := fun i h st b hb => by
    obtain ⟨⟨old, he⟩, ⟨o, ho, _, dd⟩, _⟩ := st
    rcases (show b = e ∨ b = it by simpa using hb) with rfl | rfl
    · exact ⟨_, he, fun v z => nomatch z⟩
    · exact ⟨o, ho, fun v z => by rw [dd] at z; exact nomatch z⟩
  keep := fun i h h' st k => by
    obtain ⟨⟨old, he⟩, ⟨o, ho, r⟩, ne⟩ := st
    exact ⟨⟨old, k e (by simp) _ he⟩, ⟨o, k it (by simp) _ ho, r⟩, ne⟩
  item := by
    intro X hP hw hK hc i pins s σ H E I hf st hg
    subst hP hw hK
    obtain ⟨⟨old, he⟩, hit, ne, nai, nae⟩ := st
    obtain ⟨ys, y, hq, hy⟩ := hg
    obtain ⟨its, rv, p, hz⟩ := I.tuple hq
    obtain ⟨u, hu, ru⟩ := rv.get hy
    have szE : e < s.heap.objs.size := Heap.lt_size he
    have szI : it < s.heap.objs.size := by
      obtain ⟨_, z, _⟩ := hit
      exact Heap.lt_size z
    have small : ∀ b ∈ [e, it], b < s.heap.objs.size := fun b hb => by
      rcases (show b = e ∨ b = it by simpa using hb) with rfl | rfl <;> assumption
    have D := Draws.tuple (prog := X.prog) (w := X.w) (A := X.A.in1) (I.ok.hd hc) it a nai its.toArray
    have hlt : i < its.toArray.size := by
      have := (List.getElem?_eq_some_iff.mp hu).1
      simpa using this
    refine wpAny_pyNext_enum_itemD D he ⟨hit, p⟩ hlt ne (by simp only [List.mem_cons, List.not_mem_nil, or_false, not_or]; exact ⟨ne, Ne.symm nae⟩) fun x h' tk hx ho st2 hT hsz hk => ?_
    obtain ⟨hit2, _⟩ := st2
    have ex : x = u := by
      have h2 : its.toArray[i]? = some u := by simpa using hu
      rw [h2] at hx
      exact (Option.some.inj hx).symm
    subst ex
    refine ⟨_, rfl, wpAny_letOwnedTupleGo_enum (s := { s with heap := h', toks := tk + 1 }) ho fun h'' he' sb => ?_⟩
    have hT2 : h''.get? s.heap.objs.size = some { cls := .type "tuple", data := .seq #[.int i tk, x] } := (sb.2 _ (Nat.ne_of_gt szE)).trans hT
    have okN : ObjOk X.prog X.w (upd H s.heap.objs.size (.tup [.int (i : Nat), y])) h'' s.heap.objs.size (.tup [.int (i : Nat), y]) :=
      ⟨by show 2 ≤ sizeLine; decide, [.int i tk, x], .cons ⟨_, rfl⟩ (.cons ru .nil), ⟨_, hT2, rfl, _, rfl⟩⟩
    have J : Inv X pins σ (upd H s.heap.objs.size (.tup [.int (i : Nat), y])) { s with heap := h'', toks := tk + 1 } :=
      I.turnedNew (ch := [e, it]) (fun b ob hb z => (sb.2 b (fun y => hb (by simp [y]))).trans (hk b ob (fun y => hb (by simp [y])) (fun y => hb (by simp [y])) z)) hf (Nat.le_refl _) okN
    refine ⟨.ref s.heap.objs.size, _, J, rfl, ⟨_, y, rfl, I.hok.fresh (Nat.le_refl _), rfl, fun zs hs => by rw [I.tuple_inj hs hq]; exact hy⟩, ⟨⟨x, ?_⟩, ?_, ne, nai, nae⟩, fun b hb => ?_⟩
    · rw [show ((i + 1 : Nat) : Int) = (i : Int) + 1 by omega]
      exact he'
    · obtain ⟨o, ho2, r⟩ := hit2
      exact ⟨o, (sb.2 it (Ne.symm ne)).trans ho2, r⟩
    · rw [upd_ne (Nat.ne_of_lt (small b hb))]
      exact (hf b hb).1
  done := by
    intro X hP hw hK hc i pins s σ H E I hf st hg
    subst hP hw hK
    obtain ⟨⟨old, he⟩, hit, ne, nai, nae⟩ := st
    obtain ⟨ys, hq, hle⟩ := hg
    obtain ⟨its, rv, p, hz⟩ := I.tuple hq
    have len : its.toArray.size = i := by
      have := rv.length
      simp
      omega
    obtain ⟨g0, g1, _, g3, g4, g5⟩ := hf it (by simp)
    rw [← len] at hit
    have D := Draws.tuple (prog := X.prog) (w := X.w) (A := X.A.in1) (I.ok.hd hc) it a nai its.toArray
    exact wpAny_pyNext_enum_endD D he ⟨hit, p⟩ fun h' eb => ⟨rfl, I.turned (t' := s.toks) (fun b o hb z => eb b o hb z) g0 g1 g3 g4 g5⟩
  self := fun A i s Q E st h => by
    obtain ⟨⟨_, he⟩, _⟩ := st
    exact wpAny_pyIter_enum he h
def iEnumT (K : PySem.W.Frag) (ta : TA) : TI := fun σ H R => ta σ H fun vs H1 => ∃ a ys, vs = [.ref a] ∧ SqT K H1 a ys ∧ R (IteT K a) H1
theorem pi_enumT {X : Cx} {e : Expr} {ta : TA} {p pos tp : Pos} {elts : List Expr} {kk : Nat} (hg : Gl X "enumerate") (hm : X.mg "enumerate" = none) (ha : PA X [e] ta) (hs : starEach [e] X.env = [(false, eval e X.env)] := by rfl) :
    PI X (.Tuple elts kk tp) (.Call (.Name "enumerate" p) [e] [] pos) (iEnumT X.K ta) := by
  refine ⟨fun pins s σ H R I h => Call_ (ld_blt I hg hm boot_enumerate (PyProof.Rows.callWith_type1 (thn (ha.run pos pins s σ H _ I h) fun us s1 ⟨vs, H1, I1, r1, q1⟩ => ?_) hs rfl))⟩
  obtain ⟨a, ys, rfl, hq, q⟩ := q1
  cases r1 with
  | cons r rr =>
    cases rr
    cases r
    obtain ⟨its, rv, p', hz⟩ := I1.tuple hq
    have hp' : s1.heap.IsTuple a its.toArray := p'
    have old : a < s1.heap.objs.size := by
      obtain ⟨o, ho, _⟩ := hp'
      exact Heap.lt_size ho
    refine call_enumT hp' fun h' he hit hk => wpAny_pyIter_enum he ?_
    refine ⟨s1.heap.objs.size + 1, [s1.heap.objs.size + 1, s1.heap.objs.size], _, _, H1, rfl, I1.kept (t' := s1.toks) hk, turn_enumT a (s1.heap.objs.size + 1) s1.heap.objs.size,
      ⟨⟨.none, he⟩, hit, Nat.succ_ne_self _, Nat.ne_of_lt old, Nat.ne_of_lt (Nat.lt_succ_of_lt old)⟩, fun b hb => ?_, q⟩
    have hle : s1.heap.objs.size ≤ b := by
      rcases (show b = s1.heap.objs.size + 1 ∨ b = s1.heap.objs.size by simpa using hb) with rfl | rfl
      · exact Nat.le_succ _
      · exact Nat.le_refl _
    exact I1.fpOk hle (I1.hok.fresh hle)
theorem walk_enumT {K : PySem.W.Frag} {a : Addr} {xs : List V} : Walk (IteT K a) xs.length (fun H => SqT K H a xs) (YPair (fun i => some (.int (i : Nat))) (fun i => xs[i]?)) :=
  ⟨fun i H hi h => ⟨xs, _, h, List.getElem?_eq_getElem hi⟩, fun H h => ⟨xs, h, rfl⟩, fun i H v H' hi h y => by
    obtain ⟨p, z, rfl, np, rfl, hz⟩ := y
    exact ⟨p, _, z, rfl, np, rfl, rfl, hz xs h⟩⟩
end L2

/-! ### f(e, .., k = v, ..) in a try -/
namespace L2
open PySem PySem.Spec PyProof.Rows
def tCallNS (n m : Nat) (sp : Sp) (gV : List V → List V → List V) (E : St → XK) (t tk : TA) : TE := fun σ H Q => t σ H fun vs H1 => tk σ H1 fun zs H2 => vs.length = n ∧ zs.length = m ∧ sp (gV vs zs) H2 Q (E σ)
section
variable {X : Cx} {CX : CXT} {k n : Nat} {f : Addr} {fd : FuncData} {ps ks : List Str} {sp : Sp} {E : St → XK} {x : Str} {p pos : Pos} {e : Expr} {es : List Expr} {kws : List Keyword} {t tk : TA} {g : List Value → List Value → List Value} {gV : List V → List V → List V}
theorem run_fnNS {pins : List (Addr × Obj)} {σ : St} {H : Hp} {s : Shared} {Q : VK} {us ws : List Value} {vs zs : List V} (F : FnOk X.prog X.w X.K X.mg X.base CX k f fd ps sp) (hr : Room k X.A) (hb : KBn X.K fd ps n ks g gV) (hx : PassesAt CX X σ (E σ))
    (I : Inv X pins σ H s) (r : Vals vs us) (rz : Vals zs ws) (l1 : vs.length = n) (l2 : zs.length = ks.length) (h : sp (gV vs zs) H Q (E σ)) : wpAny (model X.prog X.w) X.A (call (.ref f) us (ks.zip ws)) (EP X pins σ Q) X.xe s := by
  have r2 := hb.rel r rz
  refine wpAny_call (codeAny_mono (F.run X.A X.stack s H ⟨us, ks.zip ws⟩ (g us ws) (gV vs zs) Q (E σ) hr I.env0 (hb.to s us ws I.kIn (r.length.symm.trans l1) (rz.length.symm.trans l2)) r2 h) fun r s' hq => ?_)
  cases r with
  | error e => exact hx pins H s e s' I hq
  | ok fl =>
    cases fl with
    | ret u => exact I.after hq
    | next => exact False.elim hq
    | brk => exact False.elim hq
    | cont => exact False.elim hq
theorem pe_callNS (F : FnOk X.prog X.w X.K X.mg X.base CX k f fd ps sp) (hr : Room k X.A) (hg : Gl X x) (hm : X.mg x = some (.ref f)) (hk : PySem.W.keepIn X.K (.ref f) = true) (hb : KBn X.K fd ps n ks g gV) (hx : ∀ σ, PassesAt CX X σ (E σ))
    (ha : PA X (e :: es) t) (hkw : PK X kws tk) (hall : (backToKw pos (keywordEach kws X.env)).all (·.1.isSome) = true := by rfl) (hks : (backToKw pos (keywordEach kws X.env)).filterMap (·.1) = ks := by rfl)
    (hdb : (x == ("__debug__" : Str)) = false := by decide) (he : starEach (e :: es) X.env = (false, eval e X.env) :: starEach es X.env := by rfl)
    (hpl : ((backTo pos (starEach (e :: es) X.env)).any (·.1) || (backToKw pos (keywordEach kws X.env)).any (·.1.isNone)) = false := by rfl) :
    PE X (.Call (.Name x p) (e :: es) kws pos) (tCallNS n ks.length sp gV E t tk) := by
  refine ⟨fun pins s σ H Q I h => ?_⟩
  refine wpAny_Call_Name_kw (ld_glob I hg hm ?_ hdb)
  refine PySem.W.callWith_KW (h₀ := X.base) I.ok.mod.kin hk hall (thn (ha.run pos pins s σ H _ I h) fun us s1 ⟨vs, H1, I1, r, q⟩ => ?_) hpl he
  refine thn (hkw.run pos pins s1 σ H1 _ I1 q) fun ws s2 ⟨zs, H2, I2, rz, l1, l2, q2⟩ => ⟨I2.kIn, ?_⟩
  rw [hks]
  exact run_fnNS F hr hb (hx σ) I2 r rz l1 l2 q2
end
end L2

/-! ### tuple * n for n = 0 and n = 1 -/
namespace L2
open PySem PySem.Spec PyProof.Rows
theorem tuple_mulX (l : Addr) (items : Array Value) (n : Nat) (dd : Option Addr) (sl : Array (Option Value)) (x : Int) (u : Tok) (c0 : (decide (x < -(2 ^ 63)) || decide (x ≥ 2 ^ 63)) = false) (c1 : (items.isEmpty || x == 1) = true) :
    Meets (Builtin.«tuple.__mul__» ⟨[.ref l, .int x u], []⟩) (fun _ R s => s.heap.get? l = some { cls := .type "tuple", dict := dd, data := .seq items n, slots := sl } ∧ R (.ok (.ret (Value.ref l))) s) :=
  .of_wp fun prog w A R s h => by
    obtain ⟨hp, g, d, tk, os⟩ := s
    obtain ⟨hl, h⟩ := h
    have f1 := AutoSeq1.idx_int
    wp_walk using wpAny_loadPart' hl
    repeat (first
      | (refine wpAny_ite_false (decide_eq_false (by rw [c0]; exact Bool.false_ne_true)) ?_; wp_walk using wpAny_loadPart' hl)
      | (refine wpAny_ite_true (decide_eq_true c1) ?_; wp_walk using wpAny_loadPart' hl))
    exact ⟨_, rfl, h⟩
theorem tuple_mulZ (l : Addr) (items : Array Value) (n : Nat) (dd : Option Addr) (sl : Array (Option Value)) (x : Int) (u : Tok) (c0 : (decide (x < -(2 ^ 63)) || decide (x ≥ 2 ^ 63)) = false) (c1 : (items.isEmpty || x == 1) = false) (c2 : (decide (x ≤ 0) || items.isEmpty) = true) :
    Meets (Builtin.«tuple.__mul__» ⟨[.ref l, .int x u], []⟩) (fun _ R s => s.heap.get? l = some { cls := .type "tuple", dict := dd, data := .seq items n, slots := sl } ∧
      R (.ok (.ret (Value.ref s.heap.objs.size))) { s with heap := s.heap.push { cls := Value.type "tuple", data := Data.seq #[] }, toks := s.toks }) :=
  .of_wp fun prog w A R s h => by
    obtain ⟨hp, g, d, tk, os⟩ := s
    obtain ⟨hl, h⟩ := h
    have f1 := AutoSeq1.idx_int
    wp_walk using wpAny_loadPart' hl
    repeat (first
      | (refine wpAny_ite_false (decide_eq_false (by rw [c0]; exact Bool.false_ne_true)) ?_; wp_walk using wpAny_loadPart' hl)
      | (refine wpAny_ite_false (decide_eq_false (by rw [c1]; exact Bool.false_ne_true)) ?_; wp_walk using wpAny_loadPart' hl)
      | (refine wpAny_ite_true (decide_eq_true c2) ?_; wp_walk using wpAny_loadPart' hl))
    exact ⟨_, rfl, h⟩
def rRepA (K : PySem.W.Frag) : R2 := fun x y H Q => ∃ l k xs, x = .ref l ∧ y = .int k ∧ SqT K H l xs ∧ xs ≠ [] ∧ 0 ≤ k ∧ k ≤ 1000 ∧ xs.length ≤ 1000 ∧ (k = 1 → Q (.ref l) H) ∧ (k ≠ 1 → ∀ p, H p = none → Q (.ref p) (upd H p (.tup (List.replicate k.toNat xs).flatten)))
section
variable {X : Cx}
theorem op_repA : OpR X (binaryOp .Mult) (rRepA X.K) := by
  intro pins s σ H x y v u Q I rx ry h
  obtain ⟨l, k, xs, rfl, rfl, hT, hne, h1, h2, hz, q1, q⟩ := h
  by_cases big : 2 ≤ k
  · exact op_repT pins s σ H _ _ v u Q I rx ry ⟨l, k, xs, rfl, rfl, hT, hne, big, h2, hz, q (by omega)⟩
  cases rx
  obtain ⟨t, rfl⟩ := ry
  obtain ⟨its, r, ⟨⟨cls, dd, data, sl⟩, ho, hc, n, hd⟩, hs⟩ := I.tuple hT
  simp only at hc hd
  subst hc hd
  have hle : its.length = xs.length := r.length.symm
  have hn : its ≠ [] := fun e => hne (by
    rw [e] at hle
    exact List.eq_nil_of_length_eq_zero hle.symm)
  have hi : its.toArray.isEmpty = false := by
    cases its with
    | nil => exact absurd rfl hn
    | cons a b => rfl
  have c0 : (decide (k < -(2 ^ 63)) || decide (k ≥ 2 ^ 63)) = false := by
    rw [decide_eq_false (by omega), decide_eq_false (by omega)] <;> rfl
  by_cases one : k = 1
  · have c1 : (its.toArray.isEmpty || k == 1) = true := by
      rw [hi, Bool.false_or]
      exact beq_iff_eq.mpr one
    exact wpAny_binaryOp_repeat_ref (T := "tuple") (U := "int") (by decide) ⟨_, ho, rfl⟩ (fun s' => typeIs_int s' k t) noFill_tuple_mul F.fills_int_mul F.slot_int_rmul repeat_tuple F.slot_int_index.lookup
      (call_meets F.slot_int_rmul (typeIs_int s k t) F.entry_int_rmul (F.args_int_rmul_2 _ _) (int_rmul_tuple k t l its.toArray n dd sl)
        ⟨ho, rfl, ⟨_, ho, rfl⟩, call_meets F.slot_tuple_mul ⟨_, ho, rfl⟩ F.entry_tuple_mul (F.args_tuple_mul_2 _ _) (tuple_mulX l its.toArray n dd sl k t c0 c1) ⟨ho, ⟨.ref l, H, I, rfl, q1 one⟩⟩⟩)
  · have zero : k = 0 := by omega
    have c1 : (its.toArray.isEmpty || k == 1) = false := by
      rw [hi, Bool.false_or]
      exact beq_eq_false_iff_ne.mpr one
    have c2 : (decide (k ≤ 0) || its.toArray.isEmpty) = true := by
      rw [hi, Bool.or_false]
      exact decide_eq_true (by omega)
    refine wpAny_binaryOp_repeat_ref (T := "tuple") (U := "int") (by decide) ⟨_, ho, rfl⟩ (fun s' => typeIs_int s' k t) noFill_tuple_mul F.fills_int_mul F.slot_int_rmul repeat_tuple F.slot_int_index.lookup
      (call_meets F.slot_int_rmul (typeIs_int s k t) F.entry_int_rmul (F.args_int_rmul_2 _ _) (int_rmul_tuple k t l its.toArray n dd sl)
        ⟨ho, rfl, ⟨_, ho, rfl⟩, call_meets F.slot_tuple_mul ⟨_, ho, rfl⟩ F.entry_tuple_mul (F.args_tuple_mul_2 _ _) (tuple_mulZ l its.toArray n dd sl k t c0 c1 c2) ⟨ho, ?_⟩⟩)
    refine ⟨.ref s.heap.objs.size, _, I.laid (t' := s.toks) (o := .tup (List.replicate k.toNat xs).flatten) (fun b ob q => Heap.get?_push_of_some _ q) (Nat.le_refl _) ?_, rfl, q one _ (I.hok.fresh (Nat.le_refl _))⟩
    rw [zero]
    exact ⟨Nat.zero_le _, [], .nil, IsTup.new _ _⟩
end
end L2

namespace T
open PySem PySem.Spec PyProof.Rows L2
def SameBut (a : Addr) (H H' : Hp) : Prop := ∀ b o, b ≠ a → H b = some o → H' b = some o
theorem SameBut.refl (a : Addr) (H : Hp) : SameBut a H H := fun _ _ _ h => h
theorem SameBut.trans {a : Addr} {H H1 H2 : Hp} (x : SameBut a H H1) (y : SameBut a H1 H2) : SameBut a H H2 := fun b o n h => y b o n (x b o n h)
theorem SameBut.upd {a : Addr} {H : Hp} {o : HO} : SameBut a H (upd H a o) := fun b u n h => by rw [upd_ne n]; exact h
theorem SameBut.new {a p : Addr} {H : Hp} {o : HO} (h : H p = none) : SameBut a H (L2.upd H p o) := fun b u n e => by rw [upd_ne (ne_of_none e h)]; exact e
theorem Same.but {a : Addr} {H H' : Hp} (h : Same H H') : SameBut a H H' := fun b o _ e => h b o e
theorem same_upd {H : Hp} {p : Addr} {o : HO} (h : H p = none) : Same H (upd H p o) := fun b x e => by
  rw [upd_ne (ne_of_none e h)]
  exact e
theorem upd_self {H : Hp} {a : Addr} {o : HO} (h : H a = some o) : upd H a o = H := by
  funext b
  unfold upd
  by_cases e : b = a
  · rw [if_pos e, e, h]
  · rw [if_neg e]
theorem Same.mut {H H' : Hp} {p : Addr} {o : HO} (e : Same H H') (h : H p = none) : Same H (upd H' p o) := fun a u ha => by
  rw [upd_ne (ne_of_none ha h)]
  exact e a u ha
theorem map_int_get {ns : List Int} {i : Nat} {y : V} (hi : (ns.map V.int)[i]? = some y) : ∃ z, ns[i]? = some z ∧ y = V.int z := by
  rw [List.getElem?_map] at hi
  cases e : ns[i]? with
  | none =>
    rw [e] at hi
    cases hi
  | some z =>
    rw [e] at hi
    exact ⟨z, rfl, (Option.some.inj hi).symm⟩
theorem small_of {n : Nat} (h : n ≤ 100000) : n < sizeLine := Nat.lt_of_le_of_lt h (by decide)
structure ErrC (K : PySem.W.Frag) (mg : Str → Option Value) (x : Str) (C : Addr) : Prop where
  gc : mg x = some (.ref C)
  xC : PySem.W.excIn K C [.type "ValueError", .type "Exception", .type "BaseException", .type "object"] "ValueError.__new__" = true
  kc : PySem.W.keepIn K (.ref C) = true
  bc : PySem.W.subIn K (.ref C) (.type "BaseException") = some true
  tc : PySem.W.typeIn K (.ref C) = some (.type "type")
/-- a def whose defaults stand somewhere (called with all its arguments) -/
structure FunA (K : PySem.W.Frag) (x qual : Str) (st : Stmt) (f : Addr) (fd : FuncData) : Prop where
  ex : ∃ (oc : Value) (od : Option Addr) (dV kV doc pm : Value) (an : Option Addr) (cdv ct : Value) (osl : Array (Option Value)),
    fd = PySem.W.fnOf x qual (defArgs st) (defBody st) (defScope st) dV kV doc pm an cdv ct ∧ K.lookup f = some ⟨oc, od, .func fd, osl⟩ ∧ PySem.W.codeIn K cdv qual = true
  kp : PySem.W.keepIn K (.ref f) = true
section
variable {P : Program} {w : World} {K : PySem.W.Frag} {mg : Str → Option Value} {base : Heap}
theorem FunA.okX {x qual : Str} {st : Stmt} {f : Addr} {fd : FuncData} {N ps : List Str} {k : Nat} {sp : Sp} (F : FunA K x qual st f fd) (S : FnScope N ps (defScope st)) (len : ∀ vs H Q E, sp vs H Q E → vs.length = ps.length)
    (hbody : ∀ (cdv : Value) (A : Around) (outer : List Env) (s : Shared) (H : Hp) (vs : List V) (Q : VK) (E : XK), Room k (A.deeper (envOfC qual (defScope st) s.heap.objs.size f cdv)) → sp vs H Q E →
      ∃ t, PSs (cxOf (L2.CX P w) P w K mg base N qual (defScope st) f cdv A outer s H E) (defBody st) t ∧ t { nx := fun _ H' => Q .non H', rt := Q } (start N vs) H) : FnOk P w K mg base (L2.CX P w) (k + 1) f fd ps sp := by
  obtain ⟨oc, od, dV, kV, doc, pm, an, cdv, ct, osl, rfl, lk, hcd⟩ := F.ex
  exact fn_of lk hcd S len fun A outer s H vs Q E hr hsp => hbody cdv A outer s H vs Q E hr hsp
end
theorem if_pos_of {b : Bool} {A B : Prop} (h : b = true) (x : A) : if b = true then A else B := by
  rw [if_pos h]
  exact x
theorem if_neg_of {b : Bool} {A B : Prop} (h : ¬ b = true) (x : B) : if b = true then A else B := by
  rw [if_neg h]
  exact x
theorem sqT_same {K : PySem.W.Frag} {H H' : Hp} {a : Addr} {xs : List V} (e : Same H H') (h : SqT K H a xs) : SqT K H' a xs := by
  rcases h with (h | ⟨o, h⟩) | h
  · exact .inl (.inl (e _ _ h))
  · exact .inl (.inr ⟨o, e _ _ h⟩)
  · exact .inr h
section
variable {P : Program} {w : World} {K : PySem.W.Frag} {mg : Str → Option Value} {base : Heap}
theorem room64 {k : Nat} {A : Around} (hr : Room k A) : A.units + 64 < cLine := by have := hr.un; omega
theorem room65 {k : Nat} {A : Around} (hr : Room k A) : A.units + 65 < cLine := by have := hr.un; omega
theorem inV_primes {p : Int} : inV (.int p) [.int 2, .int 3, .int 5, .int 7, .int 11, .int 13, .int 17, .int 19, .int 23, .int 29, .int 31] = inV (.int p) (primes.map V.int) := rfl
end
theorem sqT_but {K : PySem.W.Frag} {H H' : Hp} {r a : Addr} {xs : List V} (e : SameBut r H H') (n : a ≠ r) (h : SqT K H a xs) : SqT K H' a xs := by
  rcases h with (h | ⟨o, h⟩) | h
  · exact .inl (.inl (e _ _ n h))
  · exact .inl (.inr ⟨o, e _ _ n h⟩)
  · exact .inr h
theorem at_tab {xs : List Int} {i : Int} (h0 : 0 ≤ i) (h1 : i < xs.length) : atI (xs.map V.int) i = some (.int (xs.getD i.toNat 0)) := by
  obtain ⟨n, rfl⟩ := Int.eq_ofNat_of_zero_le h0
  have hn : n < xs.length := by omega
  refine atI_nat ?_
  rw [List.getElem?_map, List.getElem?_eq_getElem hn, List.getD_eq_getElem?_getD, show ((n : Nat) : Int).toNat = n from rfl, List.getElem?_eq_getElem hn]
  rfl
theorem mod_lt8 (n : Int) {m : Int} (h : 0 < m) : 0 ≤ n % m ∧ n % m < m := ⟨Int.emod_nonneg _ (by omega), Int.emod_lt_of_pos _ h⟩
def wtab : List Int := [0, 0, 0, 2, 3, 5, 7, 31]
theorem wtab_in : ∀ k : Nat, k < 8 → wtab.getD k 0 = 0 ∨ (wtab.getD k 0 ≠ 0 ∧ inV (.int (wtab.getD k 0)) (primes.map V.int) = true ∧ 2 ≤ wtab.getD k 0) := by decide
/-! ### isinstance of the error that an except suite holds -/
def rIsE' (K : PySem.W.Frag) (cls : Value) (d : Option Addr) (a : Addr) : List V → Hp → VK → Prop := fun xs H Q => ∃ D : Addr, cls = .ref D ∧ d = none ∧ ExcC K D ∧ rIsE K D a xs H Q
theorem call_isE' {X : Cx} {a : Addr} {oe : Obj} {pn : List (Addr × Obj)} {cls : Value} {d : Option Addr} (hz : Zc cls d oe) (hf : ∃ vs, oe.data = .fields vs) : CallR (X.suite a ((a, oe) :: pn)) (.builtin "isinstance") (rIsE' X.K cls d a) := by
  intro pins s σ H xs us Q I r h
  obtain ⟨D, rfl, rfl, C, h⟩ := h
  exact call_isE C hz hf pins s σ H xs us Q I r h
theorem pe_indexK {X : Cx} {K : PySem.W.Frag} {o e : Expr} {to : TE} {t : TA} {apos cpos : Pos} (hK : X.K = K) (ho : PE X o to) (ha : PA X [e] t)
    (hb : attributeBase o "index" X.env (eval o X.env) = eval o X.env := by rfl)
    (hf : ((backTo cpos (starEach [e] X.env)).all (fun x => !x.1) && (backToKw cpos (keywordEach [] X.env)).all (fun x => x.1.isSome) && decide ([e].length + ([] : List Keyword).length + (if ([] : List Keyword).isEmpty then 0 else 1) < 30)) = true := by rfl)
    (hl : (apos.endLine == cpos.line) = true := by rfl) (hs : starEach [e] X.env = (false, eval e X.env) :: starEach [] X.env := by rfl) (hp : (backTo cpos (starEach [] X.env)).any (·.1) = false := by rfl) :
    PE X (.Call (.Attribute o "index" apos) [e] [] cpos) (tBM K "list" (rIndex K) to t) := by
  subst hK
  exact pe_bm PySem.F.plainAttrs_list PySem.F.slot_list_index PySem.F.type_list_index mt_index ho ha hb hf hl hs hp
/-! ### values without depth -/
inductive Val1 (H : Hp) : V → PyData → Prop
  | non : Val1 H .non .none
  | bl (b : Bool) : Val1 H (.bl b) (.bool b)
  | str (x : Str) : Val1 H (.str x) (.str x)
  | pair {t : Addr} {u v : Int} : H t = some (.tup [.int u, .int v]) → Val1 H (.ref t) (.tuple [.int u, .int v])
theorem Val1.dp {K : PySem.W.Frag} {H : Hp} {x : V} {d : PyData} (h : Val1 H x d) : Dp K H x d := by
  cases h with
  | non => exact .non
  | bl b => exact .bl b
  | str x => exact .str x
  | pair h => exact .tup (.inl (.inl h)) (.cons (.int _) (.cons (.int _) .nil))
theorem Val1.but {H H' : Hp} {D : Addr} {ys : List V} {x : V} {d : PyData} (s : SameBut D H H') (hD : H D = some (.lst ys)) (h : Val1 H x d) : Val1 H' x d := by
  cases h with
  | non => exact .non
  | bl b => exact .bl b
  | str x => exact .str x
  | pair h => exact .pair (s _ _ (ne_of h hD (fun z => nomatch z)) h)
theorem Val1.same {H H' : Hp} {x : V} {d : PyData} (s : Same H H') (h : Val1 H x d) : Val1 H' x d := by
  cases h with
  | non => exact .non
  | bl b => exact .bl b
  | str x => exact .str x
  | pair h => exact .pair (s _ _ h)
theorem vals1_dp {K : PySem.W.Frag} {H : Hp} : ∀ {xs : List V} {ds : List PyData}, Paired (Val1 H) xs ds → DpAll K H xs ds
  | _, _, .nil => .nil
  | _, _, .cons a b => .cons a.dp (vals1_dp b)
theorem paired_snoc {α β : Type} {F : α → β → Prop} {a : α} {b : β} (h : F a b) : ∀ {l : List α} {m : List β}, Paired F l m → Paired F (l ++ [a]) (m ++ [b])
  | _, _, .nil => .cons h .nil
  | _, _, .cons x y => .cons x (paired_snoc h y)

/-- the first def of a class -/
def inCls : Stmt → Stmt
  | .ClassDef _ _ _ body _ _ _ _ _ _ _ => body.getD 0 (.Pass ⟨0, 0, 0, 0⟩)
  | s => s
theorem pt_truthK {X : Cx} {K : PySem.W.Frag} {a : Expr} {ta : TE} (hK : X.K = K) (ha : PE X a ta) (he : ∀ whole, isTrue a X.env whole = (do let v ← whole; standAt a.pos; holding [v] (truthy v))) :
    PT X a (fun σ H Q => ta σ H fun x H' => ∃ k, TruV K x H' k ∧ Q k H') := by
  subst hK
  exact pt_truth ha he
theorem op_in_seqK {X : Cx} {K : PySem.W.Frag} (hK : X.K = K) : OpR X (compareOp .In) (rIn K false) := by
  subst hK
  exact op_in_seq
theorem op_notIn_seqK {X : Cx} {K : PySem.W.Frag} (hK : X.K = K) : OpR X (compareOp .NotIn) (rIn K true) := by
  subst hK
  exact op_notIn_seq
theorem pi_listK {X : Cx} {K : PySem.W.Frag} {tg e : Expr} {te : TE} (hK : X.K = K) (he : PE X e te) : PI X tg e (iList K te) := by
  subst hK
  exact pi_list he

def topS (i : Nat) : Stmt := PySem.Challenge.pw_threadworth_k88_lines_and_words.main.body.getD i (.Pass ⟨0, 0, 0, 0⟩)
abbrev s_words_of : Stmt := topS 4
theorem sc_words_of : FnScope ["line", "words", "word"] ["line"] (defScope s_words_of) := ⟨rfl, rfl, rfl, by decide +kernel, rfl, by decide +kernel, by decide +kernel⟩
abbrev s_is_word_ : Stmt := topS 5
theorem sc_is_word_ : FnScope ["word", "sign"] ["word"] (defScope s_is_word_) := ⟨rfl, rfl, rfl, by decide +kernel, rfl, by decide +kernel, by decide +kernel⟩
abbrev s_is_name : Stmt := topS 6
theorem sc_is_name : FnScope ["word", "sign"] ["word"] (defScope s_is_name) := ⟨rfl, rfl, rfl, by decide +kernel, rfl, by decide +kernel, by decide +kernel⟩
abbrev s_number_in : Stmt := topS 7
theorem sc_number_in : FnScope ["word"] ["word"] (defScope s_number_in) := ⟨rfl, rfl, rfl, by decide +kernel, rfl, by decide +kernel, by decide +kernel⟩
abbrev s_law_number : Stmt := topS 9
theorem sc_law_number : FnScope ["cell"] ["cell"] (defScope s_law_number) := ⟨rfl, rfl, rfl, by decide +kernel, rfl, by decide +kernel, by decide +kernel⟩
abbrev s_law_draws : Stmt := topS 10
theorem sc_law_draws : FnScope ["script", "draws", "cell", "rest", "k", "once", "twice"] ["script"] (defScope s_law_draws) := ⟨rfl, rfl, rfl, by decide +kernel, rfl, by decide +kernel, by decide +kernel⟩
abbrev s_law_next : Stmt := topS 11
theorem sc_law_next : FnScope ["draws"] ["draws"] (defScope s_law_next) := ⟨rfl, rfl, rfl, by decide +kernel, rfl, by decide +kernel, by decide +kernel⟩
abbrev s_law_text : Stmt := topS 12
theorem sc_law_text : FnScope ["draws", "most", "signs", "j"] ["draws", "most"] (defScope s_law_text) := ⟨rfl, rfl, rfl, by decide +kernel, rfl, by decide +kernel, by decide +kernel⟩
abbrev s_law_words : Stmt := topS 13
theorem sc_law_words : FnScope ["line", "words", "word", "sign"] ["line"] (defScope s_law_words) := ⟨rfl, rfl, rfl, by decide +kernel, rfl, by decide +kernel, by decide +kernel⟩
abbrev s_law_number_in : Stmt := topS 14
theorem sc_law_number_in : FnScope ["word", "number"] ["word"] (defScope s_law_number_in) := ⟨rfl, rfl, rfl, by decide +kernel, rfl, by decide +kernel, by decide +kernel⟩
abbrev s_law_is_name : Stmt := topS 15
theorem sc_law_is_name : FnScope ["word", "sign"] ["word"] (defScope s_law_is_name) := ⟨rfl, rfl, rfl, by decide +kernel, rfl, by decide +kernel, by decide +kernel⟩
abbrev s_law : Stmt := topS 16
theorem sc_law : FnScope ["script", "draws", "j", "line", "some", "word"] ["script"] (defScope s_law) := ⟨rfl, rfl, rfl, by decide +kernel, rfl, by decide +kernel, by decide +kernel⟩
structure SmL (n k : Nat) (D : PyData) : Prop where
  lay : D.canLay0 = true
  dep : D.depth ≤ n
  sho : D.showable = true
  wgt : wt D ≤ k
theorem smL_all {n k : Nat} : ∀ {ds : List PyData}, (∀ D ∈ ds, SmL n k D) → PyData.canLayAll0 ds = true ∧ PyData.depthAll ds ≤ n ∧ PyData.showableAll ds = true ∧ wtAll ds ≤ (k + 2) * ds.length
  | [], _ => ⟨by simp [PyData.canLayAll0], by simp [PyData.depthAll], by simp [PyData.showableAll], by simp [wtAll]⟩
  | D :: ds, h => by
    obtain ⟨h1, h2, h3, h4⟩ := smL_all (ds := ds) fun E hE => h E (List.mem_cons_of_mem _ hE)
    have g := h D List.mem_cons_self
    refine ⟨by simp [PyData.canLayAll0, g.lay, h1], ?_, by simp [PyData.showableAll, g.sho, h3], ?_⟩
    · simp only [PyData.depthAll]
      have := g.dep
      omega
    · simp only [wtAll, List.length_cons, Nat.mul_add]
      have := g.wgt
      omega
theorem smL_list {n k : Nat} {ds : List PyData} (h : ∀ D ∈ ds, SmL n k D) : SmL (n + 1) ((k + 2) * ds.length + 3) (.list ds) := by
  obtain ⟨h1, h2, h3, h4⟩ := smL_all h
  exact ⟨by simp [PyData.canLay0, h1], by simp only [PyData.depth]; omega, by simp [PyData.showable, h3], by simp only [wt]; omega⟩
theorem smL_tuple {n k : Nat} {ds : List PyData} (h : ∀ D ∈ ds, SmL n k D) : SmL (n + 1) ((k + 2) * ds.length + 3) (.tuple ds) := by
  obtain ⟨h1, h2, h3, h4⟩ := smL_all h
  exact ⟨by simp [PyData.canLay0, h1], by simp only [PyData.depth]; omega, by simp [PyData.showable, h3], by simp only [wt]; omega⟩
theorem SmL.shaped {n k : Nat} {D : PyData} (h : SmL n k D) (hn : n ≤ 64) : SeqAt.shaped D = true := by
  show (PyData.canLay0 D && decide (PyData.depth D ≤ 64)) = true
  rw [h.lay, decide_eq_true (Nat.le_trans h.dep hn)]
  rfl
theorem SmL.wide {n k : Nat} {D : PyData} (h : SmL n k D) (hk : k ≤ 16777216) : wt D ≤ sizeLine := by
  rw [sizeLine_eq]
  exact Nat.le_trans h.wgt hk
theorem small_log {i : Int} (h : i.natAbs < 2 ^ 200) : i.natAbs.log2 < 1920 := by
  by_cases e : i.natAbs = 0
  · rw [e]
    decide
  · exact (Nat.log2_lt e).mpr (Nat.lt_of_lt_of_le h (Nat.pow_le_pow_right (by decide) (by decide)))
theorem smL_int {i : Int} (h : i.natAbs < 2 ^ 200) : SmL 0 1921 (.int i) := ⟨by simp [PyData.canLay0], by simp [PyData.depth], by simp [PyData.showable, small_log h], by simp only [wt]; omega⟩
theorem smL_pair {u v : Int} (hu : u.natAbs < 2 ^ 200) (hv : v.natAbs < 2 ^ 200) : SmL 1 4000 (.tuple [.int u, .int v]) := by
  have h := smL_tuple (ds := [.int u, .int v]) (n := 0) (k := 1921) fun D hD => by
    rcases List.mem_cons.mp hD with rfl | hD
    · exact smL_int hu
    · rcases List.mem_cons.mp hD with rfl | hD
      · exact smL_int hv
      · cases hD
  exact ⟨h.lay, h.dep, h.sho, Nat.le_trans h.wgt (by show (1921 + 2) * 2 + 3 ≤ 4000; decide)⟩
theorem ok_n : PyData.strOk ("!n" : Str) = true := by decide +kernel
theorem ok_b : PyData.strOk ("!b" : Str) = true := by decide +kernel
theorem ok_w : PyData.strOk ("!w" : Str) = true := by decide +kernel
theorem rl_n : (reprText ("!n" : Str)).length = 4 := by decide +kernel
theorem rl_b : (reprText ("!b" : Str)).length = 4 := by decide +kernel
theorem rl_w : (reprText ("!w" : Str)).length = 4 := by decide +kernel
theorem smL_n : SmL 1 4000 (.str "!n") := ⟨by simp [PyData.canLay0, ok_n], by simp [PyData.depth], by simp [PyData.showable], by simp only [wt, rl_n]; omega⟩
theorem smL_b : SmL 1 4000 (.str "!b") := ⟨by simp [PyData.canLay0, ok_b], by simp [PyData.depth], by simp [PyData.showable], by simp only [wt, rl_b]; omega⟩
theorem smL_w : SmL 1 4000 (.str "!w") := ⟨by simp [PyData.canLay0, ok_w], by simp [PyData.depth], by simp [PyData.showable], by simp only [wt, rl_w]; omega⟩
theorem smL_non : SmL 1 4000 .none := ⟨by simp [PyData.canLay0], by simp [PyData.depth], by simp [PyData.showable], by simp only [wt]; omega⟩
theorem smL_bool (b : Bool) : SmL 1 4000 (.bool b) := ⟨by simp [PyData.canLay0], by simp [PyData.depth], by simp [PyData.showable], by simp only [wt]; omega⟩

section
variable {P : Program} {w : World} {K : PySem.W.Frag} {mg : Str → Option Value} {base : Heap}
/-! ### _law_number -/
def spPlain : Sp := fun vs H Q _ => ∃ n : Int, vs = [.int n] ∧ Q (.int (if n < 0 then -n else n)) H
theorem ok_plain {f : Addr} {fd : FuncData} (F : Fun K "_law_number" "_law_number" s_law_number f fd) : FnOk P w K mg base CX0 1 f fd ["cell"] spPlain := by
  refine F.ok sc_law_number (fun vs H Q E h => ?_) (fun cdv A outer s H vs Q E hr h => ?_)
  · obtain ⟨n, rfl, _⟩ := h
    rfl
  · obtain ⟨n, rfl, q⟩ := h
    refine ⟨_, (pss_cons (ps_if (pt_cmpR op_lt (pv 0) pe_int (nomark _)) (pss_one (ps_ret (pe_op op_sub pe_int (pv 0)))) pss_nil)
  (pss_one (ps_ret (pv 0))))
    , ?_⟩
    refine ⟨_, rfl, _, _, rfl, rfl, _, rfl, ite2 (fun e => ?_) (fun e => ?_)⟩
    · rw [if_pos (of_decide_eq_true e)] at q
      have q' : Q (.int (0 - n)) H := by
        rw [show (0 : Int) - n = -n by omega]
        exact q
      exact ⟨_, rfl, _, _, rfl, rfl, q'⟩
    · rw [if_neg (fun z => e (decide_eq_true z))] at q
      exact ⟨_, rfl, q⟩
end

section
variable {P : Program} {w : World} {K : PySem.W.Frag} {mg : Str → Option Value} {base : Heap}
/-! ### _law_next -/
def spNext : Sp := fun vs H Q _ => ∃ (a : Addr) (ds : List Int), vs = [.ref a] ∧ H a = some (.lst (ds.map V.int)) ∧ ∀ (n : Int) (ds' : List Int), Q (.int n) (upd H a (.lst (ds'.map V.int)))
theorem ok_next {f : Addr} {fd : FuncData} (F : Fun K "_law_next" "_law_next" s_law_next f fd) : FnOk P w K mg base CX0 1 f fd ["draws"] spNext := by
  refine F.ok sc_law_next (fun vs H Q E h => ?_) (fun cdv A outer s H vs Q E hr h => ?_)
  · obtain ⟨a, ds, rfl, _⟩ := h
    rfl
  · obtain ⟨a, ds, rfl, hL, q⟩ := h
    refine ⟨_, (pss_cons (ps_if (pt_truth (pv 0) (by intro _; rfl)) (pss_one (ps_ret (pe_bm0 PySem.F.plainAttrs_list PySem.F.slot_list_pop PySem.F.type_list_pop mt_pop (pv 0)))) pss_nil)
  (pss_one (ps_ret pe_int)))
    , ?_⟩
    refine ⟨_, rfl, _, .inl ⟨_, .inl (.inl hL), rfl⟩, ite2 (fun e => ?_) (fun e => ?_)⟩
    · have hn : ds ≠ [] := fun z => by subst z; cases e
      have hm : ds.map V.int = ds.dropLast.map V.int ++ [V.int (ds.getLast hn)] := by
        rw [← List.map_singleton, ← List.map_append, List.dropLast_concat_getLast]
      refine ⟨_, rfl, .inl ⟨rfl, _, .inl (.inl hL)⟩, a, _, .int (ds.getLast hn), rfl, rfl, hL, ?_, ?_⟩
      · rw [hm]; simp
      · rw [hm, List.dropLast_concat]
        exact q _ _
    · have := q 0 ds
      rw [upd_self hL] at this
      exact this
end

section
variable {P : Program} {w : World} {K : PySem.W.Frag} {mg : Str → Option Value} {base : Heap}
/-! ### _law_draws -/
def spDraws (K : PySem.W.Frag) : Sp := fun vs H Q _ => ∃ (a : Addr) (ns : List Int), vs = [.ref a] ∧ SqL K H a (ns.map V.int) ∧ ns.length ≤ 63 ∧
  ∀ H' r (ds : List Int), Same H H' → H r = none → H' r = some (.lst (ds.map V.int)) → Q (.ref r) H'
theorem ok_draws {f : Addr} {fd : FuncData} {a_law_number : Addr} {fd_law_number : FuncData} (F : Fun K "_law_draws" "_law_draws" s_law_draws f fd) (z_range : mg "range" = none) (z_int : mg "int" = none)
    (G_law_number : FnOk P w K mg base CX0 1 a_law_number fd_law_number ["cell"] spPlain) (g_law_number : mg "_law_number" = some (.ref a_law_number)) (k_law_number : PySem.W.keepIn K (.ref a_law_number) = true) (b_law_number : Binds K fd_law_number ["cell"] []) :
    FnOk P w K mg base CX0 2 f fd ["script"] (spDraws K) := by
  refine F.ok sc_law_draws (fun vs H Q E h => ?_) (fun cdv A outer s H vs Q E hr h => ?_)
  · obtain ⟨n, _, rfl, _⟩ := h
    rfl
  · obtain ⟨a, ns, rfl, hS, hlen, q⟩ := h
    refine ⟨_, (pss_cons (ps_set (i := 1) sc_law_draws.nd rfl (.inl rfl) (pe_lst pa_nil))
  (pss_cons (ps_for PassesOwn.never rfl (pi_list (pv 0)) (pg_name (i := 2) sc_law_draws.nd rfl (.inl rfl)) (pss_cons (ps_set (i := 3) sc_law_draws.nd rfl (.inl rfl) (pe_call G_law_number (hr.mono (by decide)) rfl g_law_number k_law_number b_law_number .nil pass0 (pa_cons (pv 2) pa_nil)))
  (pss_one (ps_if (pt_cmpR op_ge (pv 3) pe_int (nomark _)) (pss_one (ps_for PassesOwn.never rfl (pi_range1 rfl z_range (pa_cons pe_int pa_nil)) (pg_name (i := 4) sc_law_draws.nd rfl (.inl rfl)) (pss_cons (ps_if (pt_cmpR op_eq (pv 3) pe_int (nomark _)) (pss_one ps_break) pss_nil)
  (pss_cons (ps_expr (pe_bm PySem.F.plainAttrs_list PySem.F.slot_list_append PySem.F.type_list_append mt_append (pv 1) (pa_cons (pe_op op_mod (pe_callTy call_int1 (by rfl) z_int boot_int (pa_cons (pv 3) pa_nil)) pe_int) pa_nil)))
  (pss_one (ps_set (i := 3) sc_law_draws.nd rfl (.inl rfl) (pe_op op_fdiv (pv 3) pe_int))))))) (pss_cons (ps_set (i := 5) sc_law_draws.nd rfl (.inl rfl) (pe_op op_mod (pe_callTy call_int1 (by rfl) z_int boot_int (pa_cons (pe_op op_add (pe_op op_mul (pv 3) pe_int) pe_int) pa_nil)) pe_int))
  (pss_cons (ps_set (i := 6) sc_law_draws.nd rfl (.inl rfl) (pe_op op_mod (pe_callTy call_int1 (by rfl) z_int boot_int (pa_cons (pe_op op_add (pe_op op_mul (pv 5) pe_int) (pv 3)) pa_nil)) pe_int))
  (pss_one (ps_expr (pe_bm PySem.F.plainAttrs_list PySem.F.slot_list_extend PySem.F.type_list_extend mt_extend (pv 1) (pa_cons (pe_lst (pa_cons (pe_op op_mod (pe_callTy call_int1 (by rfl) z_int boot_int (pa_cons (pv 3) pa_nil)) pe_int) (pa_cons (pe_op op_mod (pe_callTy call_int1 (by rfl) z_int boot_int (pa_cons (pv 5) pa_nil)) pe_int) (pa_cons (pe_op op_mod (pe_callTy call_int1 (by rfl) z_int boot_int (pa_cons (pv 6) pa_nil)) pe_int) pa_nil)))) pa_nil))))))))))
  (pss_one (ps_ret (pv 1)))))
    , ?_⟩
    refine ⟨Nat.zero_le _, fun o no => ?_⟩
    have s1 : Same H (upd H o (.lst [])) := same_upd no
    refine ⟨.ref a, rfl, a, rfl, ⟨_, s1.seq hS⟩, for_list (K := K) (a := a) (xs := ns.map V.int) (fun i σ H' => ∃ v2 v3 v4 v5 v6 ds, σ = [some (.ref a), some (.ref o), v2, v3, v4, v5, v6] ∧ Same H H' ∧ H' o = some (.lst (ds.map V.int)) ∧ ds.length ≤ 60 * i)
      ⟨none, none, none, none, none, [], rfl, s1, upd_same, Nat.le_refl _⟩ (fun i σ H' _ ⟨_, _, _, _, _, _, _, sm, _⟩ => sm.seq hS) ?_ ?_⟩
    · rintro i y σ H1 hi ⟨v2, v3, v4, v5, v6, ds, rfl, sm, hL, hl⟩
      have hi63 : i < 63 := by
        have := (List.getElem?_eq_some_iff.mp hi).1
        rw [List.length_map] at this
        omega
      obtain ⟨z, hz, rfl⟩ := map_int_get hi
      refine ⟨_, rfl, z, rfl, ?_⟩
      generalize hr0 : (if z < 0 then -z else z) = r0
      have h0 : 0 ≤ r0 := by
        subst hr0
        split <;> omega
      refine ⟨_, rfl, _, _, rfl, rfl, _, rfl, ite2 (fun e => ?_) (fun e => ?_)⟩
      · refine ⟨60, rfl, by decide, by decide, for_range (lo := 0) (n := 60) (fun j σ H' => ∃ r v4 ds', σ = [some (.ref a), some (.ref o), some (.int z), some (.int r), v4, v5, v6] ∧ 0 ≤ r ∧ Same H H' ∧ H' o = some (.lst (ds'.map V.int)) ∧ ds'.length ≤ 60 * i + j)
          ⟨r0, v4, ds, rfl, h0, sm, hL, hl⟩ ?_ ?_⟩
        · rintro j σ H2 hj ⟨r, v4', ds', rfl, hr0', sm2, hL2, hl2⟩
          refine ⟨_, rfl, rfl, _, rfl, ite2 (fun e1 => ?_) (fun e1 => ?_)⟩
          · exact ⟨_, _, _, _, _, ds', rfl, sm2, hL2, by omega⟩
          · refine ⟨.ref o, rfl, .inl ⟨rfl, _, .inl (.inl hL2)⟩, .int r, rfl, .inl ⟨r, rfl, r, 1000, rfl, rfl, (show (0:Int) < 1000 by decide), o, _, _, rfl, rfl, hL2, ?_, ?_⟩⟩
            · rw [List.length_map]
              exact small_of (by omega)
            · refine ⟨_, rfl, r, 1000, rfl, rfl, ⟨by decide, by decide⟩, ?_⟩
              refine ⟨r / 1000, _, ds' ++ [r % 1000], rfl, by omega, Same.mut sm2 no, ?_, ?_⟩
              · rw [upd_same, List.map_append]
                rfl
              · rw [List.length_append]
                show ds'.length + 1 ≤ _
                omega
        · rintro σ H2 ⟨r, v4', ds', rfl, hr0', sm2, hL2, hl2⟩
          exact ⟨_, _, _, _, _, ds', rfl, sm2, hL2, by omega⟩
      · have c1 : CMul r0 48271 := .inr ⟨by decide, by decide⟩
        refine ⟨.int r0, rfl, r0, 48271, rfl, rfl, c1, _, 11, rfl, rfl, .inl ⟨_, rfl, _, 2147483647, rfl, rfl, (show (0:Int) < 2147483647 by decide), ?_⟩⟩
        have c2 : ∀ x : Int, CMul x 69621 := fun _ => .inr ⟨by decide, by decide⟩
        refine ⟨_, rfl, _, 69621, rfl, rfl, c2 _, .int r0, rfl, _, r0, rfl, rfl, .inl ⟨_, rfl, _, 2147483629, rfl, rfl, (show (0:Int) < 2147483629 by decide), ?_⟩⟩
        have p1000 : (0:Int) < 1000 := by decide
        refine ⟨.ref o, rfl, .inl ⟨rfl, _, .inl (.inl hL)⟩, ?_⟩
        refine ⟨.int r0, rfl, .inl ⟨r0, rfl, r0, 1000, rfl, rfl, p1000, _, rfl, .inl ⟨_, rfl, _, 1000, rfl, rfl, p1000, _, rfl, .inl ⟨_, rfl, _, 1000, rfl, rfl, p1000, ?_⟩⟩⟩⟩
        refine ⟨(by show 3 ≤ sizeLine; decide), fun c nc => ?_⟩
        have hoc : o ≠ c := ne_of_none hL nc
        refine ⟨o, c, ds.map V.int, _, rfl, rfl, ?_, upd_same, ?_, ?_⟩
        · rw [upd_ne hoc]
          exact hL
        · rw [List.length_map]
          exact Nat.le_of_lt (small_of (show ds.length + 3 ≤ 100000 by omega))
        · refine ⟨_, _, _, _, _, ds ++ [r0 % 1000, (r0 * 48271 + 11) % 2147483647 % 1000, ((r0 * 48271 + 11) % 2147483647 * 69621 + r0) % 2147483629 % 1000], rfl, Same.mut (Same.trans sm (same_upd nc)) no, ?_, ?_⟩
          · rw [upd_same, List.map_append]
            rfl
          · rw [List.length_append]
            show ds.length + 3 ≤ _
            omega
    · rintro σ H1 ⟨v2, v3, v4, v5, v6, ds, rfl, sm, hL, hl⟩
      exact ⟨_, rfl, q H1 o ds sm no hL⟩
end

theorem sqL_same {K : PySem.W.Frag} {H H' : Hp} {a : Addr} {xs : List V} (e : Same H H') (h : SqL K H a xs) : SqL K H' a xs := by
  rcases h with (h | ⟨o, h⟩) | h
  · exact .inl (.inl (e _ _ h))
  · exact .inl (.inr ⟨o, e _ _ h⟩)
  · exact .inr h
theorem none_back {H H' : Hp} {a : Addr} (s : Same H H') (h : H' a = none) : H a = none := by
  cases e : H a with
  | none => rfl
  | some o =>
    rw [s _ _ e] at h
    exact nomatch h

open TL
/-! ### words -/
def wdC (c : Nat) : Bool := decide (33 ≤ c) && decide (c ≤ 126)
def isWd (l : List Nat) : Bool := !l.isEmpty && l.all wdC
theorem pre32 (c : Nat) (r : List Nat) : pre [32] (c :: r) = decide (c = 32) := by
  show ([c] == [32]) = _
  by_cases h : c = 32
  · subst h; rfl
  · rw [decide_eq_false h]
    exact beq_false_of_ne fun z => h (List.cons.inj z).1
theorem spl32 (acc : List Nat) (c : Nat) (r : List Nat) : spl [32] 0 acc (c :: r) = if c = 32 then acc :: spl [32] 0 [] r else spl [32] 0 (acc ++ [c]) r := by
  show (if pre [32] (c :: r) = true then acc :: spl [32] ([32].length - 1) [] r else spl [32] 0 (acc ++ [c]) r) = _
  rw [pre32]
  by_cases h : c = 32
  · rw [decide_eq_true h, if_pos rfl, if_pos h]
    rfl
  · rw [decide_eq_false h, if_neg Bool.false_ne_true, if_neg h]
/-- the law's walk -/
def lwGo : List Nat → List Nat → List (List Nat) → Option (List (List Nat))
  | [], _, ws => some ws
  | c :: r, acc, ws => if c = 32 then (if acc = [] then none else lwGo r [] (ws ++ [acc])) else if wdC c = true then lwGo r (acc ++ [c]) ws else none
theorem spl_bad : ∀ (r acc : List Nat), acc.all wdC = false → (spl [32] 0 acc r).all isWd = false
  | [], acc, h => by
    rw [spl_nil]
    simp [isWd, h]
  | c :: r, acc, h => by
    rw [spl32]
    split
    · rw [List.all_cons]
      simp [isWd, h]
    · refine spl_bad r _ ?_
      rw [List.all_append, h, Bool.false_and]
theorem lw_spl : ∀ (l acc : List Nat) (ws : List (List Nat)), acc.all wdC = true → lwGo (l ++ [32]) acc ws = if (spl [32] 0 acc l).all isWd = true then some (ws ++ spl [32] 0 acc l) else none
  | [], acc, ws, h => by
    rw [spl_nil]
    show (if (32 : Nat) = 32 then (if acc = [] then none else lwGo [] [] (ws ++ [acc])) else _) = _
    rw [if_pos rfl]
    by_cases c : acc = []
    · subst c
      rfl
    · rw [if_neg c, if_pos]
      · rfl
      · have : acc.isEmpty = false := by cases acc with
          | nil => exact absurd rfl c
          | cons => rfl
        simp [isWd, h, this]
  | c :: r, acc, ws, h => by
    rw [spl32]
    show (if c = 32 then (if acc = [] then none else lwGo (r ++ [32]) [] (ws ++ [acc])) else if wdC c = true then lwGo (r ++ [32]) (acc ++ [c]) ws else none) = _
    by_cases e : c = 32
    · rw [if_pos e, if_pos e]
      by_cases c0 : acc = []
      · subst c0
        rw [if_pos rfl, if_neg]
        simp [isWd]
      · have : acc.isEmpty = false := by cases acc with
          | nil => exact absurd rfl c0
          | cons => rfl
        rw [if_neg c0, lw_spl r [] _ rfl, List.all_cons, show isWd acc = true by simp [isWd, h, this], Bool.true_and, List.append_assoc]
        rfl
    · rw [if_neg e, if_neg e]
      by_cases g : wdC c = true
      · rw [if_pos g, lw_spl r _ _ (by rw [List.all_append, h]; simp [g])]
      · rw [if_neg g, if_neg]
        rw [spl_bad r _ (by rw [List.all_append]; simp [eq_false_of_ne_true g])]
        exact Bool.false_ne_true
def lineW (x : Str) : Option (List Str) := if ((Txt.split x " ").map tl).all isWd = true then some (Txt.split x " ") else none
theorem one_lt_iff (c a : Nat) : decide (([c] : List Nat) < [a]) = decide (c < a) := decide_eq_decide.mpr (List.cons_lt_cons_iff.trans ⟨fun h => h.elim id fun z => absurd z.2 (List.lt_irrefl []), .inl⟩)

section
open TL
variable {P : Program} {w : World} {K : PySem.W.Frag} {mg : Str → Option Value} {base : Heap}
/-! ### _is_word -/
theorem wd_at (c : Nat) : ((!decide (([c] : List Nat) < ("!" : Str).cps.toList)) && (!decide (("~" : Str).cps.toList < [c]))) = wdC c := by
  show ((!decide (([c] : List Nat) < [33])) && (!decide (([126] : List Nat) < [c]))) = _
  rw [one_lt_iff, one_lt_iff]
  unfold wdC
  rw [← decide_not, ← decide_not]
  congr 1
  · exact decide_eq_decide.mpr (by omega)
  · exact decide_eq_decide.mpr (by omega)
def spWdOk : Sp := fun vs H Q _ => ∃ x : Str, vs = [.str x] ∧ x.length ≤ 1000 ∧ ∀ H', Same H H' → Q (.bl (isWd (tl x))) H'
theorem ok_is_word_ {f : Addr} {fd : FuncData} (F : Fun K "_is_word" "_is_word" s_is_word_ f fd) (z_len : mg "len" = none) (z_all : mg "all" = none) : FnOk P w K mg base CX0 1 f fd ["word"] spWdOk := by
  refine F.ok sc_is_word_ (fun vs H Q E h => ?_) (fun cdv A outer s H vs Q E hr h => ?_)
  · obtain ⟨k, rfl, _⟩ := h
    rfl
  · obtain ⟨x, rfl, hl, q⟩ := h
    refine ⟨_, (pss_one (ps_ret (pe_and (pe_cmpR op_gt (pe_callB call_len_str (by rfl) z_len boot_len (pa_cons (pv 0) pa_nil)) pe_int (nomark _)) (pe_one (pe_callB (cr_all rfl) (by rfl) z_all boot_all (pa_cons (pe_lc (own := [("sign", 1)]) rfl sc_is_word_.nd (pi_str (pv 0)) (blkOk_by (N := ["word", "sign"]) (sc := defScope s_is_word_) (by first | decide +kernel | rfl)) (fun _ _ _ _ _ => (pg_name (i := 1) sc_is_word_.nd rfl (.inl rfl))) (fun _ _ _ _ _ => pts_nil) (fun _ _ _ _ _ => (pe_chain op_le_str op_le_str pe_str (pv 1) pe_str))) pa_nil)))))), ?_⟩
    have szl : 1000 ≤ sizeLine := by decide
    refine ⟨_, rfl, x, rfl, by omega, _, _, rfl, rfl, _, rfl, ?_⟩
    unfold isWd at q
    have lx : x.length = (tl x).length := len_tl x
    by_cases e : (x.length : Int) > 0
    · rw [decide_eq_true e]
      have e2 : (tl x).isEmpty = false := by
        cases h : tl x with
        | nil => rw [h] at lx; exact absurd e (by rw [lx]; decide)
        | cons a b => rfl
      rw [e2] at q
      refine iteT ⟨_, rfl, x, rfl, fun D nD => ?_⟩
      refine lc_it walk_str (fun i H' => SameBut D H H' ∧ H' D = some (.lst (((x.cps.toList.take i).map wdC).map V.bl))) ⟨SameBut.upd, upd_same⟩ (fun _ _ _ _ => trivial) (fun i y H1 H2 hi hP hy => ?_) (fun H' hP => ?_)
      · obtain ⟨sb, hD⟩ := hP
        obtain ⟨rfl, c, hc, rfl⟩ := hy
        refine ⟨rfl, ?_⟩
        have hc2 : x.cps.toList[i]? = some c := by rw [← hc, Array.getElem?_toList]
        have done : ∀ b : Bool, b = wdC c → ∃ acc, H2 D = some (.lst acc) ∧ acc.length < sizeLine ∧ (SameBut D H (upd H2 D (.lst (acc ++ [V.bl b]))) ∧ upd H2 D (.lst (acc ++ [V.bl b])) D = some (.lst (((x.cps.toList.take (i + 1)).map wdC).map V.bl))) := fun b hb => by
          refine ⟨_, hD, ?_, sb.trans SameBut.upd, ?_⟩
          · rw [List.length_map, List.length_map, List.length_take]
            have : i < x.length := hi
            omega
          · rw [upd_same, List.take_succ, hc2, hb]
            show some (HO.lst (((x.cps.toList.take i).map wdC).map V.bl ++ [V.bl (wdC c)])) = some (HO.lst (((x.cps.toList.take i ++ [c]).map wdC).map V.bl))
            rw [List.map_append, List.map_append]
            rfl
        have at1 := wd_at c
        refine ⟨_, rfl, _, _, rfl, rfl, _, rfl, ?_⟩
        by_cases e3 : (!decide (([c] : List Nat) < ("!" : Str).cps.toList)) = true
        · rw [e3, Bool.true_and] at at1
          exact if_pos_of e3 ⟨_, _, rfl, rfl, done _ at1⟩
        · rw [eq_false_of_ne_true e3, Bool.false_and] at at1
          exact if_neg_of e3 (done _ at1)
      · obtain ⟨sb, hD⟩ := hP
        rw [show x.cps.size = x.cps.toList.length from (Array.length_toList).symm, List.take_length] at hD
        refine ⟨D, x.cps.toList.map wdC, rfl, .inl (.inl hD), ?_⟩
        have eall : (x.cps.toList.map wdC).all id = (tl x).all wdC := by rw [List.all_map]; rfl
        rw [eall]
        exact q _ (fun a o h => sb _ _ (ne_of_none h nD) h)
    · rw [decide_eq_false e]
      have e2 : (tl x).isEmpty = true := by
        cases h : tl x with
        | nil => rfl
        | cons a b => rw [h] at lx; exact absurd e (by rw [lx]; simp)
      rw [e2] at q
      exact iteF (q _ (Same.refl _))
end

section
open TL
variable {P : Program} {w : World} {K : PySem.W.Frag} {mg : Str → Option Value} {base : Heap}
/-! ### words_of -/
theorem sp_len (x : Str) : ∀ p ∈ Txt.split x " ", p.length ≤ x.length := fun p hp => PyProof.Rows.part_short hp
/-- what words_of returns -/
def LineV (H : Hp) (o : Option (List Str)) (v : V) : Prop := match o with
  | none => v = .non
  | some ws => ∃ p, v = .ref p ∧ H p = some (.lst (ws.map V.str))
def spLine : Sp := fun vs H Q _ => ∃ x : Str, vs = [.str x] ∧ x.length ≤ 500 ∧ ∀ v H', Same H H' → LineV H' (lineW x) v → Q v H'
theorem line_q {H : Hp} {Q : VK} {x : Str} (q : ∀ v H', Same H H' → LineV H' (lineW x) v → Q v H') : (lineW x = none → ∀ H', Same H H' → Q .non H') ∧ (∀ ws, lineW x = some ws → ∀ H' p, Same H H' → H' p = some (.lst (ws.map V.str)) → Q (.ref p) H') :=
  ⟨fun e H' s => q _ H' s (by rw [e]; rfl), fun ws e H' p s hp => q _ H' s (by rw [e]; exact ⟨p, rfl, hp⟩)⟩
theorem ok_words_of {f a_is_word_ : Addr} {fd fd_is_word_ : FuncData} (F : Fun K "words_of" "words_of" s_words_of f fd) (z_all : mg "all" = none)
    (G_is_word_ : FnOk P w K mg base CX0 1 a_is_word_ fd_is_word_ ["word"] spWdOk) (g_is_word_ : mg "_is_word" = some (.ref a_is_word_)) (k_is_word_ : PySem.W.keepIn K (.ref a_is_word_) = true) (b_is_word_ : Binds K fd_is_word_ ["word"] []) :
    FnOk P w K mg base CX0 2 f fd ["line"] spLine := by
  refine F.ok sc_words_of (fun vs H Q E h => ?_) (fun cdv A outer s H vs Q E hr h => ?_)
  · obtain ⟨k, rfl, _⟩ := h
    rfl
  · obtain ⟨x, rfl, hl, q⟩ := h
    obtain ⟨q1, q2⟩ := line_q q
    clear q
    refine ⟨_, (pss_cons (ps_set (i := 1) sc_words_of.nd rfl (.inl rfl) (pe_split (pv 0) pe_str))
  (pss_cons (ps_if (pt_not (pt_val (pe_callB (cr_all rfl) (by rfl) z_all boot_all (pa_cons (pe_lc (own := [("word", 2)]) rfl sc_words_of.nd (pi_list (pv 1)) (blkOk_by (N := ["line", "words", "word"]) (sc := defScope s_words_of) (by first | decide +kernel | rfl)) (fun _ _ _ _ _ => (pg_name (i := 2) sc_words_of.nd rfl (.inl rfl))) (fun _ _ _ _ _ => pts_nil) (fun _ _ _ _ _ => (pe_call G_is_word_ (hr.mono (by decide)) rfl g_is_word_ k_is_word_ b_is_word_ .nil pass0 (pa_cons (pv 2) pa_nil)))) pa_nil)))) (pss_one (ps_ret pe_non)) pss_nil)
  (pss_one (ps_ret (pv 1))))), ?_⟩
    have szl : 1000 ≤ sizeLine := by decide
    refine ⟨_, rfl, ⟨_, rfl⟩, x, _, rfl, rfl, rfl, by omega, fun p np => ?_⟩
    have hp : upd H p (.lst ((Txt.split x " ").map V.str)) p = some (.lst ((Txt.split x " ").map V.str)) := upd_same
    have s1 := same_upd (o := .lst ((Txt.split x " ").map V.str)) np
    revert hp s1
    generalize upd H p (.lst ((Txt.split x " ").map V.str)) = H1
    intro hp s1
    have ln := PyProof.Rows.split_le x " "
    have ps := sp_len x
    unfold lineW at q1 q2
    revert q1 q2 hp ln ps
    generalize Txt.split x " " = ws
    intro q1 q2 hp ln ps
    refine ⟨_, rfl, p, rfl, ⟨_, .inl (.inl hp)⟩, fun D nD => ?_⟩
    have pD : p ≠ D := ne_of_none hp nD
    refine lc_list (xs := ws.map V.str) (fun i H' => SameBut D H1 H' ∧ H' D = some (.lst (((ws.take i).map fun y => isWd (tl y)).map V.bl))) ⟨SameBut.upd, upd_same⟩ (fun i H' _ hP => .inl (.inl (hP.1 _ _ pD hp))) (fun i y H' hi hP => ?_) (fun H' hP => ?_)
    · obtain ⟨sb, hD⟩ := hP
      rw [List.getElem?_map] at hi
      cases ew : ws[i]? with
      | none =>
        rw [ew] at hi
        exact nomatch hi
      | some c =>
        rw [ew] at hi
        have hy : V.str c = y := Option.some.inj hi
        rw [← hy]
        have mc := List.mem_of_getElem? ew
        refine ⟨rfl, _, rfl, c, rfl, by have := ps c mc; omega, fun H2 s2 => ?_⟩
        have li := (List.getElem?_eq_some_iff.mp ew).1
        refine ⟨_, s2 _ _ hD, ?_, (sb.trans (Same.but s2)).trans SameBut.upd, ?_⟩
        · rw [List.length_map, List.length_map, List.length_take]
          omega
        · rw [upd_same, List.take_succ, ew]
          show some (HO.lst (((ws.take i).map fun y => isWd (tl y)).map V.bl ++ [V.bl (isWd (tl c))])) = some (HO.lst (((ws.take i ++ [c]).map fun y => isWd (tl y)).map V.bl))
          rw [List.map_append, List.map_append]
          rfl
    · obtain ⟨sb, hD⟩ := hP
      rw [List.length_map, List.take_length] at hD
      refine ⟨D, _, rfl, .inl (.inl hD), ?_⟩
      refine ⟨_, rfl, ?_⟩
      have eall : ((ws.map fun y => isWd (tl y)).all id) = (ws.map tl).all isWd := by rw [List.all_map, List.all_map]; rfl
      have sH : Same H H' := Same.trans s1 fun a o e => sb a o (ne_of_none e nD) e
      rw [eall]
      by_cases c : (ws.map tl).all isWd = true
      · rw [c]
        rw [if_pos c] at q2
        exact iteF ⟨_, rfl, q2 ws rfl H' p sH (sb _ _ pD hp)⟩
      · rw [eq_false_of_ne_true c]
        rw [if_neg c] at q1
        exact iteT (q1 rfl H' sH)
end

open TL
/-! ### integers from 0 to 99 as texts -/
def numS (n : Nat) : Str := Str.ofString (toString ((n : Nat) : Int))
def dgC (c : Nat) : Bool := decide (48 ≤ c) && decide (c ≤ 57)
theorem uni_digit : ∀ c, c < 128 → Unicode.isDigit c = dgC c := by decide +kernel
theorem numS_tl (n : Nat) : tl (numS n) = numL n := tl_num n
theorem num_fine : ∀ n, n < 100 → (numL n).all dgC = true ∧ (numL n).length ≤ 2 ∧ 1 ≤ (numL n).length ∧ ((numL n).length = 2 → (numL n).head? ≠ some 48) := by decide +kernel
theorem one_num : ∀ c, c < 58 → 48 ≤ c → [c] = numL (c - 48) := by decide +kernel
theorem two_num : ∀ c, c < 58 → 49 ≤ c → ∀ d, d < 58 → 48 ≤ d → [c, d] = numL ((c - 48) * 10 + (d - 48)) := by decide +kernel
theorem isascii_iff (x : Str) : Txt.isascii x = true ↔ ∀ c ∈ tl x, c < 128 := by
  unfold Txt.isascii
  rw [← Array.all_toList, List.all_eq_true]
  exact ⟨fun h c hc => of_decide_eq_true (h c hc), fun h c hc => decide_eq_true (h c hc)⟩
theorem isdigit_iff {x : Str} (h : ∀ c ∈ tl x, c < 128) : Txt.isdigit x = true ↔ (tl x ≠ [] ∧ (tl x).all dgC = true) := by
  unfold Txt.isdigit
  rw [← Array.all_toList, Bool.and_eq_true, List.all_eq_true, List.all_eq_true, decide_eq_true_iff]
  rw [len_tl]
  refine ⟨fun g => ⟨fun e => by rw [e] at g; exact absurd g.1 (by decide), fun c hc => ?_⟩, fun g => ⟨List.length_pos_iff.mpr g.1, fun c hc => ?_⟩⟩
  · rw [← uni_digit c (h c hc)]
    exact g.2 c hc
  · rw [uni_digit c (h c hc)]
    exact g.2 c hc
theorem dg_lt {c : Nat} (h : dgC c = true) : 48 ≤ c ∧ c < 58 := by
  unfold dgC at h
  simp at h
  omega
theorem num_asc {n : Nat} (h : n < 100) : ∀ c ∈ tl (numS n), c < 128 := by
  intro c hc
  rw [numS_tl] at hc
  have := dg_lt (List.all_eq_true.mp (num_fine n h).1 c hc)
  omega
theorem num_int {n : Nat} (h : n < 100) : intText? (numS n) = some (n : Int) := int_num (by have := (num_fine n h).2.1; omega)
theorem num_inj {n m : Nat} (h : n < 100) (g : m < 100) (e : numS n = numS m) : n = m := by
  have a := num_int h
  rw [e, num_int g] at a
  have := Option.some.inj a
  omega
theorem num_of {x : Str} (h1 : Txt.isascii x = true) (h2 : Txt.isdigit x = true) (h3 : x.length ≤ 2) (h4 : ¬ (1 < x.length ∧ (tl x).head? = some 48)) : ∃ n, n < 100 ∧ x = numS n := by
  have ha := (isascii_iff x).mp h1
  obtain ⟨ne, hd⟩ := (isdigit_iff ha).mp h2
  rw [len_tl] at h3 h4
  have go : ∃ n, n < 100 ∧ tl x = numL n := by
    generalize tl x = l at ne hd h3 h4
    match l, ne, h3 with
    | [c], _, _ =>
      obtain ⟨a, b⟩ := dg_lt (List.all_eq_true.mp hd c (.head _))
      exact ⟨c - 48, by omega, one_num c b a⟩
    | [c, d], _, _ =>
      obtain ⟨a, b⟩ := dg_lt (List.all_eq_true.mp hd c (.head _))
      obtain ⟨a2, b2⟩ := dg_lt (List.all_eq_true.mp hd d (.tail _ (.head _)))
      have : c ≠ 48 := fun e => h4 ⟨by show 1 < 2; decide, by rw [e]; rfl⟩
      exact ⟨(c - 48) * 10 + (d - 48), by omega, two_num c b (by omega) d b2 a2⟩
    | _ :: _ :: _ :: _, _, h => exact absurd h (by simp)
  obtain ⟨n, hn, e⟩ := go
  exact ⟨n, hn, ext_tl (by rw [e, numS_tl])⟩
theorem num_is {x : Str} {n : Nat} (h : n < 100) (e : x = numS n) : Txt.isascii x = true ∧ Txt.isdigit x = true ∧ x.length ≤ 2 ∧ 1 ≤ x.length ∧ (1 < x.length → (tl x).head? ≠ some 48) := by
  subst e
  obtain ⟨a, b, c, d⟩ := num_fine n h
  refine ⟨(isascii_iff _).mpr (num_asc h), (isdigit_iff (num_asc h)).mpr ⟨?_, ?_⟩, ?_, ?_, ?_⟩
  · rw [numS_tl]
    exact fun e => by rw [e] at c; exact absurd c (by decide)
  · rw [numS_tl]
    exact a
  · rw [len_tl, numS_tl]
    exact b
  · rw [len_tl, numS_tl]
    exact c
  · rw [len_tl, numS_tl]
    exact fun g => d (by omega)

section
variable {P : Program} {w : World} {K : PySem.W.Frag} {mg : Str → Option Value} {base : Heap}
open TL
/-! ### _law_text -/
def spText : Sp := fun vs H Q _ => ∃ (a : Addr) (ds : List Int) (most : Int), vs = [.ref a, .int most] ∧ H a = some (.lst (ds.map V.int)) ∧ 0 ≤ most ∧ most ≤ 100 ∧
  ∀ (x : Str) (ds' : List Int) (H' : Hp), (x.length : Int) ≤ most → SameBut a H H' → H' a = some (.lst (ds'.map V.int)) → Q (.str x) H'
theorem joinL_len : ∀ ys : List (List Nat), (∀ y ∈ ys, y.length = 1) → (joinL [] ys).length = ys.length
  | [], _ => rfl
  | [p], h => h p (.head _)
  | p :: q :: r, h => by
    show (p ++ ([] ++ joinL [] (q :: r))).length = _
    rw [List.length_append, List.nil_append, joinL_len (q :: r) fun y hy => h y (.tail _ hy), h p (.head _)]
    show 1 + (r.length + 1) = r.length + 1 + 1
    omega
theorem join_len {ys : List Str} (h : ∀ y ∈ ys, y.length = 1) : (Txt.join "" ys).length = ys.length := by
  rw [len_tl, join_eq, tl_join, show tl "" = [] from rfl, joinL_len _ fun y hy => ?_, List.length_map]
  obtain ⟨z, hz, rfl⟩ := List.mem_map.mp hy
  rw [← len_tl]
  exact h z hz
theorem ok_law_text {f a_law_next : Addr} {fd fd_law_next : FuncData} (F : Fun K "_law_text" "_law_text" s_law_text f fd) (z_int : mg "int" = none) (z_len : mg "len" = none) (z_range : mg "range" = none)
    (G_law_next : FnOk P w K mg base CX0 1 a_law_next fd_law_next ["draws"] spNext) (g_law_next : mg "_law_next" = some (.ref a_law_next)) (k_law_next : PySem.W.keepIn K (.ref a_law_next) = true) (b_law_next : Binds K fd_law_next ["draws"] []) :
    FnOk P w K mg base CX0 2 f fd ["draws", "most"] spText := by
  refine F.ok sc_law_text (fun vs H Q E h => ?_) (fun cdv A outer s H vs Q E hr h => ?_)
  · obtain ⟨a, ds, m, rfl, _⟩ := h
    rfl
  · obtain ⟨a, ds, most, rfl, hL, m0, m1, q⟩ := h
    refine ⟨_, (pss_cons (ps_set (i := 2) sc_law_text.nd rfl (.inr rfl) (pe_op op_add_str pe_str (pe_ix ix_list (pe_lst (pa_cons pe_str (pa_cons pe_str pa_nil))) (pe_callTy call_int1 (by rfl) z_int boot_int (pa_cons (pe_cmpR op_eq (pe_op op_mod (pe_callTy call_int1 (by rfl) z_int boot_int (pa_cons (pe_call G_law_next (hr.mono (by decide)) rfl g_law_next k_law_next b_law_next .nil pass0 (pa_cons (pv 0) pa_nil)) pa_nil)) pe_int) pe_int (nomark _)) pa_nil)) (fun _ _ => rfl))))
  (pss_one (ps_ret (pe_join pe_str (pe_lc (own := [("j", 3)]) rfl sc_law_text.nd (pi_range1 rfl z_range (pa_cons (pe_op op_mod (pe_callTy call_int1 (by rfl) z_int boot_int (pa_cons (pe_call G_law_next (hr.mono (by decide)) rfl g_law_next k_law_next b_law_next .nil pass0 (pa_cons (pv 0) pa_nil)) pa_nil)) (pe_op op_add (pv 1) pe_int)) pa_nil)) (blkOk_by (N := ["draws", "most", "signs", "j"]) (sc := defScope s_law_text) (by first | decide +kernel | rfl)) (fun _ _ _ _ _ => (pg_name (i := 3) sc_law_text.nd rfl (.inl rfl))) (fun _ _ _ _ _ => pts_nil) (fun _ _ _ _ _ => (pe_ix ix_str (pv 2) (pe_op op_mod (pe_callTy call_int1 (by rfl) z_int boot_int (pa_cons (pe_call G_law_next (hr.mono (by decide)) rfl g_law_next k_law_next b_law_next .nil pass0 (pa_cons (pv 0) pa_nil)) pa_nil)) (pe_callB call_len_str (by rfl) z_len boot_len (pa_cons (pv 2) pa_nil))) (fun _ _ => rfl)))))))), ?_⟩
    have szl : 20000 ≤ sizeLine := by decide
    refine ⟨(by show 2 ≤ sizeLine; omega), fun B nB => ?_⟩
    have hL1 := same_upd (o := .lst [.str "", .str "\t\nAZ{"]) nB _ _ hL
    have hB1 : upd H B (.lst [.str "", .str "\t\nAZ{"]) B = some (.lst [.str "", .str "\t\nAZ{"]) := upd_same
    have aB : B ≠ a := fun e => by rw [e, hL] at nB; exact nomatch nB
    have sb1 : SameBut a H (upd H B (.lst [.str "", .str "\t\nAZ{"])) := Same.but (same_upd nB)
    revert hL1 hB1 sb1
    generalize upd H B (.lst [.str "", .str "\t\nAZ{"]) = H1
    intro hL1 hB1 sb1
    refine ⟨_, rfl, a, ds, rfl, hL1, fun n0 ds0 => .inl ⟨n0, rfl, n0, 4, rfl, rfl, (show (0 : Int) < 4 by decide), ?_⟩⟩
    have hB2 : upd H1 a (.lst (ds0.map V.int)) B = some (.lst [.str "", .str "\t\nAZ{"]) := by rw [upd_ne aB]; exact hB1
    have sb2 := sb1.trans (SameBut.upd (a := a) (H := H1) (o := .lst (ds0.map V.int)))
    have hL2 : upd H1 a (.lst (ds0.map V.int)) a = some (.lst (ds0.map V.int)) := upd_same
    revert hL2 hB2 sb2
    generalize upd H1 a (.lst (ds0.map V.int)) = H2
    intro hB2 sb2 hL2
    refine ⟨rfl, .inr ⟨_, rfl, ?_⟩⟩
    generalize decide ((fun i j => V.int (i % j)) n0 4 = V.int 1) = b
    obtain ⟨x2, e2, l2⟩ : ∃ x2 : Str, atI [V.str "", V.str "\t\nAZ{"] (if b = true then 1 else 0) = some (.str x2) ∧ x2.length ≤ 5 := by
      cases b
      · exact ⟨"", rfl, by decide⟩
      · exact ⟨"\t\nAZ{", rfl, by decide +kernel⟩
    have l1 : ("abz09-# _>|!~" : Str).length = 13 := by decide +kernel
    refine ⟨B, _, _, .str x2, rfl, rfl, .inl (.inl hB2), e2, _, _, rfl, rfl, by omega, ?_⟩
    have l3 : (("abz09-# _>|!~" : Str) ++ x2).length = 13 + x2.length := by rw [len_tl, tl_append, List.length_append, ← len_tl, ← len_tl, l1]
    revert l3
    generalize ("abz09-# _>|!~" : Str) ++ x2 = sg
    intro l3
    refine ⟨⟨_, rfl⟩, _, rfl, a, ds0, rfl, hL2, fun n1 ds1 => .inl ⟨n1, rfl, _, rfl, _, _, rfl, rfl, n1, most + 1, rfl, rfl, by omega, ?_⟩⟩
    have mm := mod_lt8 n1 (show (0 : Int) < most + 1 by omega)
    obtain ⟨N, hN, eN⟩ : ∃ N : Nat, (N : Int) ≤ most ∧ n1 % (most + 1) = (N : Int) := ⟨(n1 % (most + 1)).toNat, by omega, by omega⟩
    have hL3 : upd H2 a (.lst (ds1.map V.int)) a = some (.lst (ds1.map V.int)) := upd_same
    have sb3 := sb2.trans (SameBut.upd (a := a) (H := H2) (o := .lst (ds1.map V.int)))
    revert hL3 sb3
    generalize upd H2 a (.lst (ds1.map V.int)) = H3
    intro hL3 sb3
    dsimp only
    rw [eN]
    refine ⟨_, rfl, by omega, by omega, fun D nD => ?_⟩
    have aD : a ≠ D := ne_of_none hL3 nD
    have nD0 : H D = none := by
      cases e : H D with
      | none => rfl
      | some o =>
        rw [sb3 _ _ (Ne.symm aD) e] at nD
        exact nomatch nD
    refine lc_range (lo := 0) (n := N) (fun i H' => ∃ (ds' : List Int) (ys : List Str), SameBut a H (fun b => if b = D then H b else H' b) ∧ H' a = some (.lst (ds'.map V.int)) ∧ H' D = some (.lst (ys.map V.str)) ∧ ys.length = i ∧ ∀ y ∈ ys, y.length = 1) ⟨ds1, [], ?_, ?_, upd_same, rfl, fun _ z => (nomatch z)⟩ (fun i H' hi hP => ?_) (fun H' hP => ?_)
    · intro b o n e
      show (if b = D then H b else upd H3 D _ b) = some o
      by_cases c : b = D
      · rw [if_pos c]; exact e
      · rw [if_neg c, upd_ne c]; exact sb3 _ _ n e
    · rw [upd_ne aD]; exact hL3
    · obtain ⟨ds', ys, sb, ha, hD, ly, ys1⟩ := hP
      refine ⟨rfl, _, rfl, _, rfl, a, ds', rfl, ha, fun n2 ds2 => .inl ⟨n2, rfl, _, rfl, sg, rfl, by omega, n2, _, rfl, rfl, (show (0 : Int) < (sg.length : Nat) by omega), ?_⟩⟩
      have m2 := mod_lt8 n2 (show (0 : Int) < (sg.length : Nat) by omega)
      obtain ⟨g, hg, eg⟩ : ∃ g : Nat, g < sg.length ∧ n2 % ((sg.length : Nat) : Int) = (g : Int) := ⟨(n2 % ((sg.length : Nat) : Int)).toNat, by omega, by omega⟩
      have lsg : sg.cps.toList.length = sg.length := by rw [len_tl]
      obtain ⟨c, ec⟩ : ∃ c, sg.cps.toList[g]? = some c := ⟨_, List.getElem?_eq_getElem (by omega)⟩
      refine ⟨sg, _, c, rfl, rfl, by omega, by show atI _ (n2 % _) = _; rw [eg]; exact atI_nat ec, ys.map V.str, ?_, by rw [List.length_map]; omega, ds2, ys ++ [⟨#[c]⟩], ?_, ?_, ?_, by rw [List.length_append, ly]; rfl, ?_⟩
      · rw [upd_ne (Ne.symm aD)]
        exact hD
      · intro b o n e
        show (if b = D then H b else upd (upd H' a _) D _ b) = some o
        by_cases c : b = D
        · rw [if_pos c]; exact e
        · rw [if_neg c, upd_ne c, upd_ne n]
          have this : (if b = D then H b else H' b) = some o := sb b o n e
          rw [if_neg c] at this
          exact this
      · rw [upd_ne aD, upd_same]
      · rw [upd_same, List.map_append]
        rfl
      · intro y hy
        rcases List.mem_append.mp hy with h | h
        · exact ys1 y h
        · rw [List.mem_singleton.mp h]
          rfl
    · obtain ⟨ds', ys, sb, ha, hD, ly, ys1⟩ := hP
      have jl := join_len ys1
      refine ⟨"", D, ys, rfl, rfl, .inl (.inl (.inl hD)), ?_, q _ ds' H' (by rw [jl]; omega) ?_ ha⟩
      · have : ∀ l : List Str, (∀ y ∈ l, y.length = 1) → (l.map (·.length)).sum = l.length := by
          intro l
          induction l with
          | nil => intro _; rfl
          | cons x l ih =>
            intro h
            rw [List.map_cons, List.sum_cons, ih fun y hy => h y (.tail _ hy), h x (.head _), List.length_cons]
            omega
        rw [this ys ys1]
        show _ + _ * 0 ≤ _
        omega
      · intro b o n e
        have this : (if b = D then H b else H' b) = some o := sb b o n e
        rw [if_neg (fun z => by rw [z, nD0] at e; exact nomatch e)] at this
        exact this
end

section
variable {P : Program} {w : World} {K : PySem.W.Frag} {mg : Str → Option Value} {base : Heap}
open TL
theorem str1_eq (c d : Nat) : decide (V.str ⟨#[c]⟩ = V.str ⟨#[d]⟩) = decide (c = d) := decide_eq_decide.mpr ⟨fun e => by
  have := congrArg (fun x : Str => x.cps.toList) (V.str.inj e)
  exact (List.cons.inj this).1, fun e => by rw [e]⟩
theorem str0_eq (x : Str) : decide (V.str x = V.str "") = decide (tl x = []) := decide_eq_decide.mpr ⟨fun e => by rw [V.str.inj e]; rfl, fun e => congrArg V.str (ext_tl (by rw [e]; rfl))⟩
/-! ### _law_words -/
theorem ok_law_words {f : Addr} {fd : FuncData} (F : Fun K "_law_words" "_law_words" s_law_words f fd) (z_ord : mg "ord" = none) : FnOk P w K mg base CX0 1 f fd ["line"] spLine := by
  refine F.ok sc_law_words (fun vs H Q E h => ?_) (fun cdv A outer s H vs Q E hr h => ?_)
  · obtain ⟨k, rfl, _⟩ := h
    rfl
  · obtain ⟨x, rfl, hl, q⟩ := h
    obtain ⟨q1, q2⟩ := line_q q
    clear q
    refine ⟨_, (pss_cons (ps_set (i := 1) sc_law_words.nd rfl (.inl rfl) (pe_lst pa_nil))
  (pss_cons (ps_set (i := 2) sc_law_words.nd rfl (.inl rfl) pe_str)
  (pss_cons (ps_for PassesOwn.never rfl (pi_str (pe_op op_add_str (pv 0) pe_str)) (pg_name (i := 3) sc_law_words.nd rfl (.inl rfl)) (pss_one (ps_if (pt_cmpR op_eq (pv 3) pe_str (nomark _)) (pss_cons (ps_if (pt_cmpR op_eq (pv 2) pe_str (nomark _)) (pss_one (ps_ret pe_non)) pss_nil)
  (pss_cons (ps_expr (pe_bm PySem.F.plainAttrs_list PySem.F.slot_list_append PySem.F.type_list_append mt_append (pv 1) (pa_cons (pv 2) pa_nil)))
  (pss_one (ps_set (i := 2) sc_law_words.nd rfl (.inl rfl) pe_str)))) (pss_one (ps_if (pt_chain op_le op_le pe_int (pe_callB call_ord (by rfl) z_ord boot_ord (pa_cons (pv 3) pa_nil)) pe_int) (pss_one (ps_set (i := 2) sc_law_words.nd rfl (.inl rfl) (pe_op op_add_str (pv 2) (pv 3)))) (pss_one (ps_ret pe_non)))))))
  (pss_one (ps_ret (pv 1)))))), ?_⟩
    have szl : 20000 ≤ sizeLine := by decide
    refine ⟨(by show 0 ≤ sizeLine; omega), fun B nB => ?_⟩
    have sp1 : tl (" " : Str) = [32] := rfl
    have ls : (" " : Str).length = 1 := rfl
    refine ⟨_, rfl, _, _, rfl, rfl, by omega, ?_⟩
    have ty : tl (x ++ " ") = tl x ++ [32] := by rw [tl_append, sp1]
    have ly : (tl (x ++ " ")).length = x.length + 1 := by rw [ty, List.length_append, ← len_tl]; rfl
    have e0 : lwGo (tl (x ++ " ")) [] [] = if (spl [32] 0 [] (tl x)).all isWd = true then some (spl [32] 0 [] (tl x)) else none := by rw [ty]; exact lw_spl (tl x) [] [] rfl
    have es : (Txt.split x " ").map tl = spl [32] 0 [] (tl x) := split_spl x " " (by rw [sp1]; exact List.cons_ne_nil _ _) (kind_ok (by decide +kernel))
    rw [← es] at e0
    generalize hy : x ++ " " = y at ty ly e0
    refine ⟨y, rfl, for_it walk_str (fun i σ H' => ∃ (acc : Str) (ws : List Str) (v3 : Option V), σ = [some (.str x), some (.ref B), some (.str acc), v3] ∧ SameBut B H H' ∧ H' B = some (.lst (ws.map V.str)) ∧ lwGo ((tl y).drop i) (tl acc) (ws.map tl) = lwGo (tl y) [] [] ∧ acc.length ≤ i ∧ ws.length ≤ i)
      ⟨"", [], none, rfl, SameBut.upd, upd_same, rfl, Nat.zero_le _, Nat.zero_le _⟩ (fun _ _ _ _ _ => trivial) (fun i v σ H1 H2 hi hP hv => ?_) (fun σ H' hP => ?_)⟩
    · obtain ⟨acc, ws, v3, rfl, sb, hB, eg, la, lw⟩ := hP
      obtain ⟨rfl, c, hc, rfl⟩ := hv
      have hi2 : i < (tl y).length := hi
      have hc2 : (tl y)[i]? = some c := by rw [← hc]; exact Array.getElem?_toList
      have ed : (tl y).drop i = c :: (tl y).drop (i + 1) := by
        rw [List.drop_eq_getElem_cons hi2]
        rw [List.getElem?_eq_getElem hi2] at hc2
        rw [Option.some.inj hc2]
      rw [ed] at eg
      have sH : Same H H2 := fun b o e => sb b o (ne_of_none e nB) e
      have bad : lwGo (tl y) [] [] = none → Q .non H2 := fun e => q1 (by
        rw [e0] at e
        unfold lineW
        by_cases z : ((Txt.split x " ").map tl).all isWd = true
        · rw [if_pos z] at e; exact nomatch e
        · rw [if_neg z]) H2 sH
      have la2 : acc.length ≤ 501 := by omega
      have st : lwGo (c :: (tl y).drop (i + 1)) (tl acc) (ws.map tl) = if c = 32 then (if tl acc = [] then none else lwGo ((tl y).drop (i + 1)) [] (ws.map tl ++ [tl acc])) else if wdC c = true then lwGo ((tl y).drop (i + 1)) (tl acc ++ [c]) (ws.map tl) else none := rfl
      rw [st] at eg
      refine ⟨_, rfl, rfl, _, rfl, ?_⟩
      rw [show (V.str (" " : Str)) = V.str ⟨#[32]⟩ from rfl, str1_eq]
      by_cases c1 : c = 32
      · rw [decide_eq_true c1]
        rw [if_pos c1] at eg
        refine iteT ⟨_, rfl, rfl, _, rfl, ?_⟩
        rw [str0_eq]
        by_cases c2 : tl acc = []
        · rw [if_pos c2] at eg
          rw [decide_eq_true c2]
          exact iteT (bad eg.symm)
        · rw [if_neg c2] at eg
          rw [decide_eq_false c2]
          refine iteF ⟨_, rfl, .inl ⟨rfl, _, .inl (.inl hB)⟩, _, rfl, B, _, _, rfl, rfl, hB, by rw [List.length_map]; omega, ?_⟩
          refine ⟨"", ws ++ [acc], _, rfl, sb.trans SameBut.upd, by rw [upd_same, List.map_append]; rfl, ?_, Nat.zero_le _, by rw [List.length_append]; show ws.length + 1 ≤ _; omega⟩
          rw [List.map_append]
          exact eg
      · rw [decide_eq_false c1]
        rw [if_neg c1] at eg
        refine iteF ⟨_, rfl, _, rfl, rfl, _, _, rfl, rfl, _, rfl, ?_⟩
        rw [show (⟨#[c]⟩ : Str).cps.getD 0 0 = c from rfl]
        have er : ∀ b : Bool, b = wdC c → True := fun _ _ => trivial
        have wd : wdC c = (decide ((33 : Int) ≤ (c : Nat)) && decide (((c : Nat) : Int) ≤ 126)) := by
          unfold wdC
          congr 1
          · exact decide_eq_decide.mpr (by omega)
          · exact decide_eq_decide.mpr (by omega)
        have no : wdC c = false → Q .non H2 := fun e => by
          rw [e, if_neg Bool.false_ne_true] at eg
          exact bad eg.symm
        by_cases c3 : (33 : Int) ≤ (c : Nat)
        · rw [decide_eq_true c3, Bool.true_and] at wd
          rw [decide_eq_true c3]
          refine iteT ⟨_, _, rfl, rfl, ?_⟩
          by_cases c4 : ((c : Nat) : Int) ≤ 126
          · rw [decide_eq_true c4] at wd
            rw [wd, if_pos rfl] at eg
            refine ⟨_, rfl, if_pos_of (decide_eq_true c4) ⟨_, rfl, _, rfl, _, _, rfl, rfl, by show acc.length + 1 ≤ _; omega, ?_⟩⟩
            refine ⟨_, ws, _, rfl, sb, hB, by rw [tl_append]; exact eg, ?_, by omega⟩
            rw [len_tl, tl_append, List.length_append, ← len_tl]
            show acc.length + 1 ≤ _
            omega
          · rw [decide_eq_false c4] at wd
            exact ⟨_, rfl, if_neg_of (by rw [decide_eq_false c4]; exact Bool.false_ne_true) (no wd)⟩
        · rw [decide_eq_false c3, Bool.false_and] at wd
          rw [decide_eq_false c3]
          exact iteF ⟨_, rfl, iteF (no wd)⟩
    · obtain ⟨acc, ws, v3, rfl, sb, hB, eg, la, lw⟩ := hP
      have dl : (tl y).drop y.cps.size = [] := List.drop_of_length_le (Nat.le_of_eq (by show y.cps.toList.length = _; exact Array.length_toList))
      rw [dl, e0] at eg
      have eg : some (ws.map tl) = _ := eg
      refine ⟨_, rfl, q2 ws ?_ H' B (fun b o e => sb b o (ne_of_none e nB) e) hB⟩
      unfold lineW
      by_cases z : ((Txt.split x " ").map tl).all isWd = true
      · rw [if_pos z] at eg ⊢
        have := Option.some.inj eg
        congr 1
        have inj : ∀ a b : List Str, a.map tl = b.map tl → a = b := by
          intro a
          induction a with
          | nil => intro b h; cases b with
            | nil => rfl
            | cons => exact nomatch h
          | cons p a ih => intro b h; cases b with
            | nil => exact nomatch h
            | cons q b => obtain ⟨h1, h2⟩ := List.cons.inj h; rw [ext_tl h1, ih b h2]
        exact (inj _ _ this).symm
      · rw [if_neg z] at eg
        exact nomatch eg
end

open TL
def lowC (c : Nat) : Bool := decide (97 ≤ c) && decide (c ≤ 122)
def nameW (x : Str) : Bool := decide (1 ≤ x.length) && decide (x.length ≤ 12) && (tl x).all lowC
theorem low_in : ∀ c, c < 200 → decide (c ∈ ("abcdefghijklmnopqrstuvwxyz" : Str).cps.toList) = lowC c := by decide +kernel
theorem low_lt : ∀ c ∈ ("abcdefghijklmnopqrstuvwxyz" : Str).cps.toList, c < 200 := by decide +kernel
theorem low_at (c : Nat) : decide (c ∈ ("abcdefghijklmnopqrstuvwxyz" : Str).cps.toList) = lowC c := by
  by_cases h : c < 200
  · exact low_in c h
  · rw [decide_eq_false fun z => h (low_lt c z)]
    unfold lowC
    rw [decide_eq_false (show ¬ c ≤ 122 by omega), Bool.and_false]
section
variable {P : Program} {w : World} {K : PySem.W.Frag} {mg : Str → Option Value} {base : Heap}
/-! ### is_name -/
def spName : Sp := fun vs H Q _ => ∃ x : Str, vs = [.str x] ∧ x.length ≤ 500 ∧ ∀ H', Same H H' → Q (.bl (nameW x)) H'
theorem ok_is_name {f : Addr} {fd : FuncData} {t12 tS : Tok} (F : Fun K "is_name" "is_name" s_is_name f fd) (z_len : mg "len" = none) (z_all : mg "all" = none) (m_MOST_IN_NAME : mg "MOST_IN_NAME" = some (.int 12 t12)) (m_SMALL_LETTERS : mg "SMALL_LETTERS" = some (.str "abcdefghijklmnopqrstuvwxyz" tS)) :
    FnOk P w K mg base CX0 1 f fd ["word"] spName := by
  have r_MOST_IN_NAME : RelV (.int 12) (.int 12 t12) := ⟨_, rfl⟩
  have r_SMALL_LETTERS : RelV (.str "abcdefghijklmnopqrstuvwxyz") (.str "abcdefghijklmnopqrstuvwxyz" tS) := ⟨_, rfl⟩
  refine F.ok sc_is_name (fun vs H Q E h => ?_) (fun cdv A outer s H vs Q E hr h => ?_)
  · obtain ⟨k, rfl, _⟩ := h
    rfl
  · obtain ⟨x, rfl, hl, q⟩ := h
    refine ⟨_, (pss_cons (ps_if (pt_not (pt_chain op_le op_le pe_int (pe_callB call_len_str (by rfl) z_len boot_len (pa_cons (pv 0) pa_nil)) (pe_glob rfl m_MOST_IN_NAME r_MOST_IN_NAME))) (pss_one (ps_ret pe_bl)) pss_nil)
  (pss_one (ps_ret (pe_callB (cr_all rfl) (by rfl) z_all boot_all (pa_cons (pe_lc (own := [("sign", 1)]) rfl sc_is_name.nd (pi_str (pv 0)) (blkOk_by (N := ["word", "sign"]) (sc := defScope s_is_name) (by first | decide +kernel | rfl)) (fun _ _ _ _ _ => (pg_name (i := 1) sc_is_name.nd rfl (.inl rfl))) (fun _ _ _ _ _ => pts_nil) (fun _ _ _ _ _ => (pe_cmpR op_in_sign (pv 1) (pe_glob rfl m_SMALL_LETTERS r_SMALL_LETTERS) (by with_unfolding_all rfl)))) pa_nil))))), ?_⟩
    have szl : 20000 ≤ sizeLine := by decide
    unfold nameW at q
    have cut : ∀ e : Bool, (decide (1 ≤ x.length) && decide (x.length ≤ 12)) = e → (decide ((1 : Int) ≤ (x.length : Nat)) && decide (((x.length : Nat) : Int) ≤ 12)) = e := fun e h => by
      rw [← h]
      congr 1
      · exact decide_eq_decide.mpr (by omega)
      · exact decide_eq_decide.mpr (by omega)
    refine ⟨_, rfl, x, rfl, by omega, _, _, rfl, rfl, _, rfl, ?_⟩
    by_cases c : 1 ≤ x.length ∧ x.length ≤ 12
    · rw [decide_eq_true c.1, decide_eq_true c.2, Bool.true_and, Bool.true_and] at q
      refine if_pos_of (decide_eq_true (show (1 : Int) ≤ (x.length : Nat) by omega)) ⟨_, _, rfl, rfl, _, rfl, ?_⟩
      refine if_neg_of (by rw [decide_eq_true (show ((x.length : Nat) : Int) ≤ 12 by omega)]; exact Bool.false_ne_true) ⟨_, rfl, x, rfl, fun D nD => ?_⟩
      refine lc_it walk_str (fun i H' => SameBut D H H' ∧ H' D = some (.lst (((x.cps.toList.take i).map lowC).map V.bl))) ⟨SameBut.upd, upd_same⟩ (fun _ _ _ _ => trivial) (fun i y H1 H2 hi hP hy => ?_) (fun H' hP => ?_)
      · obtain ⟨sb, hD⟩ := hP
        obtain ⟨rfl, c, hc, rfl⟩ := hy
        refine ⟨rfl, ?_⟩
        have hc2 : x.cps.toList[i]? = some c := by rw [← hc, Array.getElem?_toList]
        have done : ∀ b : Bool, b = lowC c → ∃ acc, H2 D = some (.lst acc) ∧ acc.length < sizeLine ∧ (SameBut D H (upd H2 D (.lst (acc ++ [V.bl b]))) ∧ upd H2 D (.lst (acc ++ [V.bl b])) D = some (.lst (((x.cps.toList.take (i + 1)).map lowC).map V.bl))) := fun b hb => by
          refine ⟨_, hD, ?_, sb.trans SameBut.upd, ?_⟩
          · rw [List.length_map, List.length_map, List.length_take]
            have : i < x.length := hi
            omega
          · rw [upd_same, List.take_succ, hc2, hb]
            show some (HO.lst (((x.cps.toList.take i).map lowC).map V.bl ++ [V.bl (lowC c)])) = some (HO.lst (((x.cps.toList.take i ++ [c]).map lowC).map V.bl))
            rw [List.map_append, List.map_append]
            rfl
        refine ⟨_, rfl, c, _, rfl, rfl, done _ (low_at c)⟩
      · obtain ⟨sb, hD⟩ := hP
        rw [show x.cps.size = x.cps.toList.length from (Array.length_toList).symm, List.take_length] at hD
        refine ⟨D, x.cps.toList.map lowC, rfl, .inl (.inl hD), ?_⟩
        have eall : (x.cps.toList.map lowC).all id = (tl x).all lowC := by rw [List.all_map]; rfl
        rw [eall]
        exact q _ (fun a o h => sb _ _ (ne_of_none h nD) h)
    · have q : Q (.bl false) H := by
        have := q H (Same.refl _)
        by_cases c1 : 1 ≤ x.length
        · rw [decide_eq_false (show ¬ x.length ≤ 12 from fun z => c ⟨c1, z⟩), Bool.and_false, Bool.false_and] at this
          exact this
        · rw [decide_eq_false c1, Bool.false_and, Bool.false_and] at this
          exact this
      by_cases c1 : 1 ≤ x.length
      · refine if_pos_of (decide_eq_true (show (1 : Int) ≤ (x.length : Nat) by omega)) ⟨_, _, rfl, rfl, _, rfl, ?_⟩
        exact if_pos_of (by rw [decide_eq_false (show ¬ ((x.length : Nat) : Int) ≤ 12 by omega)]; rfl) q
      · refine if_neg_of (by rw [decide_eq_false (show ¬ (1 : Int) ≤ (x.length : Nat) by omega)]; exact Bool.false_ne_true) ⟨_, rfl, if_pos_of rfl q⟩
end

section
variable {P : Program} {w : World} {K : PySem.W.Frag} {mg : Str → Option Value} {base : Heap}
open TL
/-! ### _law_is_name -/
theorem ok_law_is_name {f : Addr} {fd : FuncData} (F : Fun K "_law_is_name" "_law_is_name" s_law_is_name f fd) (z_len : mg "len" = none) (z_all : mg "all" = none) (z_ord : mg "ord" = none) : FnOk P w K mg base CX0 1 f fd ["word"] spName := by
  refine F.ok sc_law_is_name (fun vs H Q E h => ?_) (fun cdv A outer s H vs Q E hr h => ?_)
  · obtain ⟨k, rfl, _⟩ := h
    rfl
  · obtain ⟨x, rfl, hl, q⟩ := h
    refine ⟨_, (pss_one (ps_ret (pe_and (pe_cmpR op_ne (pv 0) pe_str (nomark _)) (pe_and (pe_cmpR op_lt (pe_callB call_len_str (by rfl) z_len boot_len (pa_cons (pv 0) pa_nil)) pe_int (nomark _)) (pe_one (pe_callB (cr_all rfl) (by rfl) z_all boot_all (pa_cons (pe_lc (own := [("sign", 1)]) rfl sc_law_is_name.nd (pi_str (pv 0)) (blkOk_by (N := ["word", "sign"]) (sc := defScope s_law_is_name) (by first | decide +kernel | rfl)) (fun _ _ _ _ _ => (pg_name (i := 1) sc_law_is_name.nd rfl (.inl rfl))) (fun _ _ _ _ _ => pts_nil) (fun _ _ _ _ _ => (pe_chain op_le op_le pe_int (pe_callB call_ord (by rfl) z_ord boot_ord (pa_cons (pv 1) pa_nil)) pe_int))) pa_nil))))))), ?_⟩
    have szl : 20000 ≤ sizeLine := by decide
    unfold nameW at q
    refine ⟨_, rfl, rfl, _, rfl, ?_⟩
    have no : ¬ (1 ≤ x.length ∧ x.length ≤ 12) → Q (.bl false) H := fun c => by
      have := q H (Same.refl _)
      by_cases c1 : 1 ≤ x.length
      · rw [decide_eq_false (show ¬ x.length ≤ 12 from fun z => c ⟨c1, z⟩), Bool.and_false, Bool.false_and] at this
        exact this
      · rw [decide_eq_false c1, Bool.false_and, Bool.false_and] at this
        exact this
    have e0 : decide (V.str x = V.str "") = decide (tl x = []) := str0_eq x
    rw [e0]
    have lx := len_tl x
    by_cases c0 : tl x = []
    · rw [decide_eq_true c0]
      exact iteF (no fun z => by rw [lx, c0] at z; exact absurd z.1 (by decide))
    · have l1 : 1 ≤ x.length := by rw [lx]; exact List.length_pos_iff.mpr c0
      rw [decide_eq_false c0]
      refine iteT ⟨_, rfl, x, rfl, by omega, _, _, rfl, rfl, _, rfl, ?_⟩
      by_cases c1 : ((x.length : Nat) : Int) < 13
      · rw [decide_eq_true c1]
        rw [decide_eq_true l1, decide_eq_true (show x.length ≤ 12 by omega), Bool.true_and, Bool.true_and] at q
        refine iteT ⟨_, rfl, x, rfl, fun D nD => ?_⟩
        refine lc_it walk_str (fun i H' => SameBut D H H' ∧ H' D = some (.lst (((x.cps.toList.take i).map lowC).map V.bl))) ⟨SameBut.upd, upd_same⟩ (fun _ _ _ _ => trivial) (fun i y H1 H2 hi hP hy => ?_) (fun H' hP => ?_)
        · obtain ⟨sb, hD⟩ := hP
          obtain ⟨rfl, c, hc, rfl⟩ := hy
          refine ⟨rfl, ?_⟩
          have hc2 : x.cps.toList[i]? = some c := by rw [← hc, Array.getElem?_toList]
          have done : ∀ b : Bool, b = lowC c → ∃ acc, H2 D = some (.lst acc) ∧ acc.length < sizeLine ∧ (SameBut D H (upd H2 D (.lst (acc ++ [V.bl b]))) ∧ upd H2 D (.lst (acc ++ [V.bl b])) D = some (.lst (((x.cps.toList.take (i + 1)).map lowC).map V.bl))) := fun b hb => by
            refine ⟨_, hD, ?_, sb.trans SameBut.upd, ?_⟩
            · rw [List.length_map, List.length_map, List.length_take]
              have : i < x.length := hi
              omega
            · rw [upd_same, List.take_succ, hc2, hb]
              show some (HO.lst (((x.cps.toList.take i).map lowC).map V.bl ++ [V.bl (lowC c)])) = some (HO.lst (((x.cps.toList.take i ++ [c]).map lowC).map V.bl))
              rw [List.map_append, List.map_append]
              rfl
          have wd : lowC c = (decide ((97 : Int) ≤ (c : Nat)) && decide (((c : Nat) : Int) ≤ 122)) := by
            unfold lowC
            congr 1
            · exact decide_eq_decide.mpr (by omega)
            · exact decide_eq_decide.mpr (by omega)
          refine ⟨_, rfl, _, rfl, rfl, _, _, rfl, rfl, _, rfl, ?_⟩
          rw [show (⟨#[c]⟩ : Str).cps.getD 0 0 = c from rfl]
          by_cases c3 : (97 : Int) ≤ (c : Nat)
          · rw [decide_eq_true c3, Bool.true_and] at wd
            exact if_pos_of (decide_eq_true c3) ⟨_, _, rfl, rfl, done _ wd.symm⟩
          · rw [decide_eq_false c3, Bool.false_and] at wd
            exact if_neg_of (by rw [decide_eq_false c3]; exact Bool.false_ne_true) (done _ wd.symm)
        · obtain ⟨sb, hD⟩ := hP
          rw [show x.cps.size = x.cps.toList.length from (Array.length_toList).symm, List.take_length] at hD
          refine ⟨D, x.cps.toList.map lowC, rfl, .inl (.inl hD), ?_⟩
          have eall : (x.cps.toList.map lowC).all id = (tl x).all lowC := by rw [List.all_map]; rfl
          rw [eall]
          exact q _ (fun a o h => sb _ _ (ne_of_none h nD) h)
      · rw [decide_eq_false c1]
        exact iteF (no fun z => c1 (by omega))
end

section
variable {P : Program} {w : World} {K : PySem.W.Frag} {mg : Str → Option Value} {base : Heap}
open TL
/-! ### number_in -/
def NumO (x : Str) : Option Nat → Prop
  | none => ∀ n : Nat, n < 100 → x ≠ numS n
  | some n => n < 100 ∧ x = numS n
def numV : Option Nat → V
  | none => .non
  | some n => .int (n : Int)
theorem NumO.one {x : Str} : ∀ {o p : Option Nat}, NumO x o → NumO x p → o = p
  | none, none, _, _ => rfl
  | none, some n, h, g => absurd g.2 (h n g.1)
  | some n, none, h, g => absurd h.2 (g n h.1)
  | some n, some m, h, g => congrArg some (num_inj h.1 g.1 (h.2.symm.trans g.2))
def spNumIn : Sp := fun vs H Q _ => ∃ x : Str, vs = [.str x] ∧ x.length ≤ 500 ∧ ∀ o, NumO x o → ∀ H', Same H H' → Q (numV o) H'
theorem num_q {H : Hp} {Q : VK} {x : Str} (q : ∀ o, NumO x o → ∀ H', Same H H' → Q (numV o) H') : (∀ n : Nat, n < 100 → x = numS n → ∀ H', Same H H' → Q (.int (n : Int)) H') ∧ ((∀ n : Nat, n < 100 → x ≠ numS n) → ∀ H', Same H H' → Q .non H') :=
  ⟨fun n hn e => q (some n) ⟨hn, e⟩, fun h => q none h⟩
theorem ok_number_in {f : Addr} {fd : FuncData} {t2 : Tok} (F : Fun K "number_in" "number_in" s_number_in f fd) (z_len : mg "len" = none) (z_int : mg "int" = none) (m_MOST_FIGURES : mg "MOST_FIGURES" = some (.int 2 t2)) : FnOk P w K mg base CX0 1 f fd ["word"] spNumIn := by
  have r_MOST_FIGURES : RelV (.int 2) (.int 2 t2) := ⟨_, rfl⟩
  refine F.ok sc_number_in (fun vs H Q E h => ?_) (fun cdv A outer s H vs Q E hr h => ?_)
  · obtain ⟨k, rfl, _⟩ := h
    rfl
  · obtain ⟨x, rfl, hl, q⟩ := h
    obtain ⟨q1, q2⟩ := num_q q
    clear q
    refine ⟨_, (pss_cons (ps_if (L2.PW.pt (pw_or (pt_not (pt_val (pe_bm0 PySem.F.plainAttrs_str PySem.F.slot_str_isascii PySem.F.type_str_isascii mt_isascii (pv 0)))) (pw_or (pt_not (pt_val (pe_m0 PySem.F.slot_str_isdigit PySem.F.type_str_isdigit mt_isdigit (pv 0)))) (pw_or1 (pt_cmpR op_gt (pe_callB call_len_str (by rfl) z_len boot_len (pa_cons (pv 0) pa_nil)) (pe_glob rfl m_MOST_FIGURES r_MOST_FIGURES) (nomark _)))))) (pss_one (ps_ret pe_non)) pss_nil)
  (pss_cons (ps_if (L2.PW.pt (pw_and (pt_cmpR op_gt (pe_callB call_len_str (by rfl) z_len boot_len (pa_cons (pv 0) pa_nil)) pe_int (nomark _)) (pw_and1 (pt_cmpR op_eq (pe_ix ix_str (pv 0) pe_int (fun _ _ => rfl)) pe_str (nomark _))))) (pss_one (ps_ret pe_non)) pss_nil)
  (pss_one (ps_ret (pe_callTy call_int_str (by rfl) z_int boot_int (pa_cons (pv 0) pa_nil)))))), ?_⟩
    have szl : 20000 ≤ sizeLine := by decide
    have fin : (Txt.isascii x = true ∧ Txt.isdigit x = true ∧ x.length ≤ 2 ∧ ¬ (1 < x.length ∧ (tl x).head? = some 48)) ∨ (¬ (Txt.isascii x = true ∧ Txt.isdigit x = true ∧ x.length ≤ 2 ∧ ¬ (1 < x.length ∧ (tl x).head? = some 48)) ∧ Q .non H) := by
      by_cases c : Txt.isascii x = true ∧ Txt.isdigit x = true ∧ x.length ≤ 2 ∧ ¬ (1 < x.length ∧ (tl x).head? = some 48)
      · exact .inl c
      · exact .inr ⟨c, q2 (fun n hn e => c (by obtain ⟨a, b, d, e, f⟩ := num_is hn e; exact ⟨a, b, d, fun z => f z.1 z.2⟩)) H (Same.refl _)⟩
    have out : ¬ (Txt.isascii x = true ∧ Txt.isdigit x = true ∧ x.length ≤ 2 ∧ ¬ (1 < x.length ∧ (tl x).head? = some 48)) → Q .non H := fun c => fin.elim (fun z => absurd z c) fun z => z.2
    refine ⟨_, rfl, rfl, x, rfl, rfl, trivial, _, rfl, ?_⟩
    by_cases a1 : Txt.isascii x = true
    case neg =>
      rw [eq_false_of_ne_true a1]
      exact iteT (iteT (out fun z => a1 z.1))
    rw [a1]
    refine iteF ⟨_, rfl, ⟨_, rfl⟩, x, rfl, rfl, trivial, _, rfl, ?_⟩
    by_cases a2 : Txt.isdigit x = true
    case neg =>
      rw [eq_false_of_ne_true a2]
      exact iteT (iteT (out fun z => a2 z.2.1))
    rw [a2]
    refine iteF ⟨_, rfl, x, rfl, by omega, _, _, rfl, rfl, _, rfl, ?_⟩
    by_cases a3 : ((x.length : Nat) : Int) > 2
    · exact if_pos_of (decide_eq_true a3) (out fun z => by have := z.2.2.1; omega)
    refine if_neg_of (by rw [decide_eq_false a3]; exact Bool.false_ne_true) ⟨_, rfl, x, rfl, by omega, _, _, rfl, rfl, _, rfl, ?_⟩
    have last : ¬ (1 < x.length ∧ (tl x).head? = some 48) → ∃ n : Nat, n < 100 ∧ x = numS n := fun z => num_of a1 a2 (by omega) z
    have go : ¬ (1 < x.length ∧ (tl x).head? = some 48) → ∃ a n, [V.str x] = [V.str a] ∧ intText? a = some n ∧ a.length ≤ 640 ∧ Q (.int n) H := fun z => by
      obtain ⟨n, hn, e⟩ := last z
      exact ⟨x, n, rfl, by rw [e]; exact num_int hn, by omega, q1 n hn e H (Same.refl _)⟩
    by_cases a4 : ((x.length : Nat) : Int) > 1
    · have lx := len_tl x
      obtain ⟨c, ec⟩ : ∃ c, (tl x)[0]? = some c := ⟨_, List.getElem?_eq_getElem (by omega)⟩
      have eh : (tl x).head? = some c := by rw [← ec]; exact List.head?_eq_getElem?
      refine if_pos_of (decide_eq_true a4) ⟨_, rfl, x, 0, c, rfl, rfl, by omega, atI_nat (j := 0) ec, rfl, _, rfl, ?_⟩
      rw [show (V.str ("0" : Str)) = V.str ⟨#[48]⟩ from rfl, str1_eq]
      by_cases a5 : c = 48
      · exact if_pos_of (decide_eq_true a5) (out fun z => z.2.2.2 ⟨by omega, by rw [eh, a5]⟩)
      · refine if_neg_of (by rw [decide_eq_false a5]; exact Bool.false_ne_true) ⟨_, rfl, go fun z => a5 ?_⟩
        rw [eh] at z
        exact Option.some.inj z.2
    · exact if_neg_of (by rw [decide_eq_false a4]; exact Bool.false_ne_true) ⟨_, rfl, go fun z => a4 (by omega)⟩
/-! ### _law_number_in -/
theorem ok_law_number_in {f : Addr} {fd : FuncData} (F : Fun K "_law_number_in" "_law_number_in" s_law_number_in f fd) (z_range : mg "range" = none) (z_str : mg "str" = none) : FnOk P w K mg base CX0 1 f fd ["word"] spNumIn := by
  refine F.ok sc_law_number_in (fun vs H Q E h => ?_) (fun cdv A outer s H vs Q E hr h => ?_)
  · obtain ⟨k, rfl, _⟩ := h
    rfl
  · obtain ⟨x, rfl, hl, q⟩ := h
    obtain ⟨q1, q2⟩ := num_q q
    clear q
    refine ⟨_, (pss_cons (ps_for PassesOwn.never rfl (pi_range1 rfl z_range (pa_cons pe_int pa_nil)) (pg_name (i := 1) sc_law_number_in.nd rfl (.inl rfl)) (pss_one (ps_if (pt_cmpR op_eq (pe_callTy call_str_int (by rfl) z_str boot_str (pa_cons (pv 1) pa_nil)) (pv 0) (nomark _)) (pss_one (ps_ret (pv 1))) pss_nil)))
  (pss_one (ps_ret pe_non))), ?_⟩
    have szl : 20000 ≤ sizeLine := by decide
    refine ⟨_, rfl, by decide, by decide, for_range (lo := 0) (n := 100) (fun i σ H' => ∃ v1, σ = [some (.str x), v1] ∧ H' = H ∧ ∀ j : Nat, j < i → x ≠ numS j) ⟨none, rfl, rfl, fun j hj => absurd hj (Nat.not_lt_zero _)⟩ (fun i σ H' hi hP => ?_) (fun σ H' hP => ?_)⟩
    · obtain ⟨v1, rfl, rfl, hn⟩ := hP
      have e0 : (0 : Int) + (i : Int) = ((i : Nat) : Int) := Int.zero_add _
      refine ⟨_, rfl, _, rfl, ?_, _, rfl, rfl, _, rfl, ?_⟩
      · rw [e0]
        show Nat.log2 i < 1920
        exact Nat.lt_of_le_of_lt (Nat.log2_le_self i) (by omega)
      rw [e0]
      by_cases c : x = numS i
      · refine if_pos_of (decide_eq_true (congrArg V.str c.symm)) ⟨_, rfl, ?_⟩
        exact q1 i hi c _ (Same.refl _)
      · refine if_neg_of (by show ¬ decide (V.str (numS i) = V.str x) = true; rw [decide_eq_false fun z => c (V.str.inj z).symm]; exact Bool.false_ne_true) ⟨_, rfl, rfl, fun j hj => ?_⟩
        by_cases d : j = i
        · rw [d]; exact c
        · exact hn j (by omega)
    · obtain ⟨v1, rfl, rfl, hn⟩ := hP
      exact q2 hn _ (Same.refl _)
end

open TL
theorem op_mul_str {X : Cx} : OpR X (binaryOp .Mult) (fun x y H Q => ∃ (i : Str) (n : Int), x = .str i ∧ y = .int n ∧ MulOk i n ∧ Q (.str (Txt.mul i n)) H) := by
  intro pins s σ H x y v u Q I rx ry h
  obtain ⟨i, n, rfl, rfl, hc, q⟩ := h
  obtain ⟨t, rfl⟩ := rx
  obtain ⟨t', rfl⟩ := ry
  exact PySem.SB.mul hc (fun t2 k => ⟨.str _, H, I.tok k, ⟨_, rfl⟩, q⟩)
theorem fold_a : ∀ (k : Nat) (z : Array Nat), ((List.replicate k #[97]).foldl (· ++ ·) z).toList = z.toList ++ List.replicate k 97
  | 0, z => (List.append_nil _).symm
  | k + 1, z => by
    show ((List.replicate k #[97]).foldl (· ++ ·) (z ++ #[97])).toList = _
    rw [fold_a k, Array.toList_append, List.append_assoc]
    rfl
theorem mul_a {n : Int} (h : 2 ≤ n) : Txt.mul "a" n = ⟨(List.replicate n.toNat 97).toArray⟩ := by
  refine ext_tl ?_
  have e1 : ¬ n < 1 := by omega
  have e2 : (n == 1 || ("a" : Str).length == 0) = false := by
    rw [show (("a" : Str).length == 0) = false from rfl, Bool.or_false]
    exact beq_false_of_ne (by omega)
  unfold Txt.mul
  rw [if_neg e1, e2, if_neg Bool.false_ne_true]
  exact fold_a n.toNat #[]
theorem mulOk_a {n : Int} (h : 2 ≤ n) (g : n ≤ 1100) : MulOk "a" n := by
  have e3 : ("a" : Str).length = 1 := rfl
  refine ⟨?_, fun _ _ => ?_, fun _ _ => ?_⟩
  · rw [decide_eq_false (by omega), decide_eq_false (by omega)]
    rfl
  · rw [e3]
    have : (1 : Int) ≤ (2 ^ 63 - 1) / n := by
      rw [Int.le_ediv_iff_mul_le (by omega)]
      omega
    omega
  · rw [e3]
    have szl : 20000 ≤ sizeLine := by decide
    exact decide_eq_false (by omega)
theorem ite_same {x : V} {A B : Prop} (h : B) : if (!decide (x = x)) = true then A else B := by
  rw [decide_eq_true rfl]
  exact iteF h

section
open TL
/-! ### the data that are compared -/
def lineD : Option (List Str) → PyData
  | none => .none
  | some ws => .list (ws.map .str)
theorem smL_s {s : Str} (h1 : PyData.strOk s = true) (h2 : (reprText s).length ≤ 4000) : SmL 1 4000 (.str s) := ⟨by simp [PyData.canLay0, h1], by simp [PyData.depth], by simp [PyData.showable], by simp only [wt]; exact h2⟩
theorem smL_no : SmL 1 4000 .none := ⟨by simp [PyData.canLay0], by simp [PyData.depth], by simp [PyData.showable], by simp only [wt]; omega⟩
theorem sm_word {s : Str} (h : isWd (tl s) = true) (l : s.length ≤ 100) : SmL 1 4000 (.str s) := by
  have all : ∀ c ∈ tl s, 33 ≤ c ∧ c ≤ 126 := fun c hc => by
    unfold isWd at h
    have := List.all_eq_true.mp (Bool.and_eq_true_iff.mp h).2 c hc
    unfold wdC at this
    simp at this
    exact this
  refine smL_s ?_ ?_
  · unfold PyData.strOk
    rw [← Array.all_toList, List.all_eq_true]
    exact fun c hc => decide_eq_true (by have := all c hc; omega)
  · have := PySem.StrLaws.reprText_len s fun c hc => by have := all c hc; omega
    omega
theorem lineD_sm {x : Str} (hx : x.length ≤ 14) : SmL 2 100000 (lineD (lineW x)) := by
  unfold lineW
  split
  · rename_i h
    have h := List.all_eq_true.mp h
    have ln := PyProof.Rows.split_le x " "
    have sm := smL_list (n := 1) (k := 4000) (ds := (Txt.split x " ").map PyData.str) fun D hD => by
      obtain ⟨s, hs, rfl⟩ := List.mem_map.mp hD
      exact sm_word (h _ (List.mem_map_of_mem hs)) (by have := PyProof.Rows.part_short hs; omega)
    rw [List.length_map] at sm
    exact ⟨sm.lay, sm.dep, sm.sho, Nat.le_trans sm.wgt (by omega)⟩
  · exact ⟨smL_no.lay, Nat.le_trans smL_no.dep (by decide), smL_no.sho, Nat.le_trans smL_no.wgt (by decide)⟩
theorem strs_dp {K : PySem.W.Frag} {H : Hp} : ∀ z : List Str, DpAll K H (z.map V.str) (z.map PyData.str)
  | [] => .nil
  | a :: r => .cons (.str a) (strs_dp r)
theorem LineV.dp {K : PySem.W.Frag} {H : Hp} {o : Option (List Str)} {v : V} (h : LineV H o v) : Dp K H v (lineD o) := by
  cases o with
  | none => rw [show v = .non from h]; exact .non
  | some ws =>
    obtain ⟨p, rfl, hp⟩ := h
    exact .lst (.inl (.inl hp)) (strs_dp ws)
theorem LineV.same {H H' : Hp} {o : Option (List Str)} {v : V} (s : Same H H') (h : LineV H o v) : LineV H' o v := by
  cases o with
  | none => exact h
  | some ws =>
    obtain ⟨p, rfl, hp⟩ := h
    exact ⟨p, rfl, s _ _ hp⟩
end
section
open TL
variable {P : Program} {w : World} {K : PySem.W.Frag} {mg : Str → Option Value} {base : Heap}
def numD : Option Nat → PyData
  | none => .none
  | some n => .int (n : Int)
theorem num_dp {K : PySem.W.Frag} {H : Hp} : ∀ o : Option Nat, Dp K H (numV o) (numD o)
  | none => .non
  | some n => .int n
theorem num_sm : ∀ o : Option Nat, (∀ n, o = some n → n < 100) → SmL 1 4000 (numD o)
  | none, _ => smL_no
  | some n, h => by
    have := h n rfl
    have big : (100 : Nat) < 2 ^ 200 := by decide
    have sm := smL_int (i := (n : Int)) (by omega)
    exact ⟨sm.lay, Nat.le_trans sm.dep (by decide), sm.sho, Nat.le_trans sm.wgt (by decide)⟩
theorem some_len : ∀ z ∈ ([("0" : Str), "00", "7", "07", "99", "100", "-1", "abc", Txt.mul "a" 12, Txt.mul "a" 13, "aB", "", "-", "x-"] : List Str), z.length ≤ 500 := by
  rw [mul_a (n := 12) (by decide), mul_a (n := 13) (by decide)]
  decide +kernel
/-! ### law -/
def spLaw (K : PySem.W.Frag) : Sp := fun vs H Q _ => ∃ (a : Addr) (ns : List Int), vs = [.ref a] ∧ SqL K H a (ns.map V.int) ∧ ns.length ≤ 63 ∧ ∀ H', Q (.bl true) H'
theorem ok_law {f a_law_draws a_law_next a_law_text a_words_of a_law_words a_is_name a_law_is_name a_number_in a_law_number_in : Addr} {fd fd_law_draws fd_law_next fd_law_text fd_words_of fd_law_words fd_is_name fd_law_is_name fd_number_in fd_law_number_in : FuncData} (F : Fun K "law" "law" s_law f fd)
    (z_repr : mg "repr" = none) (z_int : mg "int" = none) (z_range : mg "range" = none) (z_len : mg "len" = none)
    (G_law_draws : FnOk P w K mg base CX0 2 a_law_draws fd_law_draws ["script"] (spDraws K)) (g_law_draws : mg "_law_draws" = some (.ref a_law_draws)) (k_law_draws : PySem.W.keepIn K (.ref a_law_draws) = true) (b_law_draws : Binds K fd_law_draws ["script"] [])
    (G_law_next : FnOk P w K mg base CX0 1 a_law_next fd_law_next ["draws"] spNext) (g_law_next : mg "_law_next" = some (.ref a_law_next)) (k_law_next : PySem.W.keepIn K (.ref a_law_next) = true) (b_law_next : Binds K fd_law_next ["draws"] [])
    (G_law_text : FnOk P w K mg base CX0 2 a_law_text fd_law_text ["draws", "most"] spText) (g_law_text : mg "_law_text" = some (.ref a_law_text)) (k_law_text : PySem.W.keepIn K (.ref a_law_text) = true) (b_law_text : Binds K fd_law_text ["draws", "most"] [])
    (G_words_of : FnOk P w K mg base CX0 2 a_words_of fd_words_of ["line"] spLine) (g_words_of : mg "words_of" = some (.ref a_words_of)) (k_words_of : PySem.W.keepIn K (.ref a_words_of) = true) (b_words_of : Binds K fd_words_of ["line"] [])
    (G_law_words : FnOk P w K mg base CX0 1 a_law_words fd_law_words ["line"] spLine) (g_law_words : mg "_law_words" = some (.ref a_law_words)) (k_law_words : PySem.W.keepIn K (.ref a_law_words) = true) (b_law_words : Binds K fd_law_words ["line"] [])
    (G_is_name : FnOk P w K mg base CX0 1 a_is_name fd_is_name ["word"] spName) (g_is_name : mg "is_name" = some (.ref a_is_name)) (k_is_name : PySem.W.keepIn K (.ref a_is_name) = true) (b_is_name : Binds K fd_is_name ["word"] [])
    (G_law_is_name : FnOk P w K mg base CX0 1 a_law_is_name fd_law_is_name ["word"] spName) (g_law_is_name : mg "_law_is_name" = some (.ref a_law_is_name)) (k_law_is_name : PySem.W.keepIn K (.ref a_law_is_name) = true) (b_law_is_name : Binds K fd_law_is_name ["word"] [])
    (G_number_in : FnOk P w K mg base CX0 1 a_number_in fd_number_in ["word"] spNumIn) (g_number_in : mg "number_in" = some (.ref a_number_in)) (k_number_in : PySem.W.keepIn K (.ref a_number_in) = true) (b_number_in : Binds K fd_number_in ["word"] [])
    (G_law_number_in : FnOk P w K mg base CX0 1 a_law_number_in fd_law_number_in ["word"] spNumIn) (g_law_number_in : mg "_law_number_in" = some (.ref a_law_number_in)) (k_law_number_in : PySem.W.keepIn K (.ref a_law_number_in) = true) (b_law_number_in : Binds K fd_law_number_in ["word"] []) :
    FnG P w K mg base 3 f fd ["script"] (spLaw K) := by
  refine F.okG sc_law (fun vs H Q E h => ?_) (fun cdv A outer s H vs Q E hgu hr h => ?_)
  · obtain ⟨a, ns, rfl, _⟩ := h
    rfl
  · obtain ⟨sc, ns, rfl, hS, hlen, q⟩ := h
    refine ⟨_, (pss_cons (ps_set (i := 1) sc_law.nd rfl (.inl rfl) (pe_call G_law_draws (hr.mono (by decide)) rfl g_law_draws k_law_draws b_law_draws .nil pass0 (pa_cons (pv 0) pa_nil)))
  (pss_cons (ps_expr (pe_bm0 PySem.F.plainAttrs_list PySem.F.slot_list_reverse PySem.F.type_list_reverse mt_reverse (pv 1)))
  (pss_cons (ps_for PassesOwn.never rfl (pi_range1 rfl z_range (pa_cons pe_int pa_nil)) (pg_name (i := 2) sc_law.nd rfl (.inl rfl)) (pss_cons (ps_set (i := 3) sc_law.nd rfl (.inl rfl) (pe_call G_law_text (hr.mono (by decide)) rfl g_law_text k_law_text b_law_text .nil pass0 (pa_cons (pv 1) (pa_cons pe_int pa_nil))))
  (Evl.pss_cut (ps_if (pt_cmpR op_ne (pe_callB (cr_reprD hgu (room65 hr)) (by rfl) z_repr boot_repr (pa_cons (pe_call G_words_of (hr.mono (by decide)) rfl g_words_of k_words_of b_words_of .nil pass0 (pa_cons (pv 3) pa_nil)) pa_nil)) (pe_callB (cr_reprD hgu (room65 hr)) (by rfl) z_repr boot_repr (pa_cons (pe_call G_law_words (hr.mono (by decide)) rfl g_law_words k_law_words b_law_words .nil pass0 (pa_cons (pv 3) pa_nil)) pa_nil)) (nomark _)) (pss_one (ps_ret pe_bl)) pss_nil)
  (pss_cons (ps_set (i := 4) sc_law.nd rfl (.inl rfl) (pe_lst (pa_cons pe_str (pa_cons pe_str (pa_cons pe_str (pa_cons pe_str (pa_cons pe_str (pa_cons pe_str (pa_cons pe_str (pa_cons pe_str (pa_cons (pe_op op_mul_str pe_str pe_int) (pa_cons (pe_op op_mul_str pe_str pe_int) (pa_cons pe_str (pa_cons pe_str (pa_cons pe_str (pa_cons pe_str pa_nil))))))))))))))))
  (pss_one (ps_for PassesOwn.never rfl (pi_list (pe_lst (pa_cons (pe_call G_law_text (hr.mono (by decide)) rfl g_law_text k_law_text b_law_text .nil pass0 (pa_cons (pv 1) (pa_cons pe_int pa_nil))) (pa_cons (pe_ix ix_list (pv 4) (pe_op op_mod (pe_callTy call_int1 (by rfl) z_int boot_int (pa_cons (pe_call G_law_next (hr.mono (by decide)) rfl g_law_next k_law_next b_law_next .nil pass0 (pa_cons (pv 1) pa_nil)) pa_nil)) (pe_callB call_len_seq (by rfl) z_len boot_len (pa_cons (pv 4) pa_nil))) (fun _ _ => rfl)) pa_nil)))) (pg_name (i := 5) sc_law.nd rfl (.inl rfl)) (pss_one (ps_if (L2.PW.pt (pw_or (pt_cmpR op_ne (pe_callB (cr_reprD hgu (room65 hr)) (by rfl) z_repr boot_repr (pa_cons (pe_call G_is_name (hr.mono (by decide)) rfl g_is_name k_is_name b_is_name .nil pass0 (pa_cons (pv 5) pa_nil)) pa_nil)) (pe_callB (cr_reprD hgu (room65 hr)) (by rfl) z_repr boot_repr (pa_cons (pe_call G_law_is_name (hr.mono (by decide)) rfl g_law_is_name k_law_is_name b_law_is_name .nil pass0 (pa_cons (pv 5) pa_nil)) pa_nil)) (nomark _)) (pw_or1 (pt_cmpR op_ne (pe_callB (cr_reprD hgu (room65 hr)) (by rfl) z_repr boot_repr (pa_cons (pe_call G_number_in (hr.mono (by decide)) rfl g_number_in k_number_in b_number_in .nil pass0 (pa_cons (pv 5) pa_nil)) pa_nil)) (pe_callB (cr_reprD hgu (room65 hr)) (by rfl) z_repr boot_repr (pa_cons (pe_call G_law_number_in (hr.mono (by decide)) rfl g_law_number_in k_law_number_in b_law_number_in .nil pass0 (pa_cons (pv 5) pa_nil)) pa_nil)) (nomark _))))) (pss_one (ps_ret pe_bl)) pss_nil))))))))
  (pss_one (ps_ret pe_bl))))), ?_⟩
    have szl : 20000 ≤ sizeLine := by decide
    refine ⟨_, rfl, sc, ns, rfl, hS, hlen, fun H1 r ds s1 nr hL => ?_⟩
    refine ⟨_, rfl, .inl ⟨rfl, _, .inl (.inl hL)⟩, r, _, rfl, rfl, hL, ?_⟩
    have hr1 : upd H1 r (.lst (ds.map V.int).reverse) r = some (.lst (ds.reverse.map V.int)) := by rw [upd_same, List.map_reverse]
    revert hr1
    generalize upd H1 r (.lst (ds.map V.int).reverse) = H2
    generalize ds.reverse = ds
    intro hr1
    clear hL s1 nr hS
    refine ⟨3, rfl, by decide, by decide, for_range (lo := 0) (n := 3) (fun j σ H' => ∃ (v2 v3 v4 v5 : Option V) (ds : List Int), σ = [some (.ref sc), some (.ref r), v2, v3, v4, v5] ∧ H' r = some (.lst (ds.map V.int)))
      ⟨none, none, none, none, ds, rfl, hr1⟩ (fun j σ H3 hj hP => ?_) (fun σ H3 hP => ?_)⟩
    · obtain ⟨v2, v3, v4, v5, ds, rfl, hr3⟩ := hP
      refine ⟨_, rfl, r, ds, 14, rfl, hr3, by decide, by decide, fun x ds1 H4 lx sb4 hr4 => ?_⟩
      have lx : x.length ≤ 14 := by omega
      refine ⟨fun σ H' => σ = [some (.ref sc), some (.ref r), some (.int (0 + (j : Int))), some (.str x), v4, v5] ∧ H' r = some (.lst (ds1.map V.int)), ?_, ?_⟩
      · refine ⟨_, rfl, x, rfl, by omega, fun u H5 s5 l5 => ?_⟩
        have sm := lineD_sm lx
        refine ⟨u, _, rfl, l5.dp, sm.shaped (by decide), sm.sho, sm.wide (by decide), ?_⟩
        refine ⟨_, rfl, x, rfl, by omega, fun u6 H6 s6 l6 => ?_⟩
        refine ⟨u6, _, rfl, l6.dp, sm.shaped (by decide), sm.sho, sm.wide (by decide), ?_⟩
        generalize PyData.shown _ = X
        refine ⟨rfl, _, rfl, ite_same ?_⟩
        exact ⟨rfl, s6 _ _ (s5 _ _ hr4)⟩
      · rintro σ H5 ⟨rfl, hr5⟩
        refine ⟨"a", 12, rfl, rfl, mulOk_a (by decide) (by decide), "a", 13, rfl, rfl, mulOk_a (by decide) (by decide), ?_⟩
        obtain ⟨ws, ew, l500⟩ : ∃ ws : List Str, ([.str "0", .str "00", .str "7", .str "07", .str "99", .str "100", .str "-1", .str "abc", .str (Txt.mul "a" 12), .str (Txt.mul "a" 13), .str "aB", .str "", .str "-", .str "x-"] : List V) = ws.map V.str ∧ ws.length = 14 ∧ ∀ z ∈ ws, z.length ≤ 500 :=
          ⟨["0", "00", "7", "07", "99", "100", "-1", "abc", Txt.mul "a" 12, Txt.mul "a" 13, "aB", "", "-", "x-"], rfl, rfl, some_len⟩
        refine ⟨(by show 14 ≤ sizeLine; decide), fun S nS => ?_⟩
        rw [ew]
        have rS : r ≠ S := fun e => by rw [← e, hr5] at nS; exact nomatch nS
        have hS5 : upd H5 S (.lst (ws.map V.str)) S = some (.lst (ws.map V.str)) := upd_same
        have hr5 := same_upd (o := .lst (ws.map V.str)) nS _ _ hr5
        revert hS5 hr5
        generalize upd H5 S (.lst (ws.map V.str)) = H5
        intro hS5 hr5
        refine ⟨_, rfl, r, ds1, 3, rfl, hr5, by decide, by decide, fun y ds2 H6 ly sb6 hr6 => ?_⟩
        have hS6 := sb6 _ _ (Ne.symm rS) hS5
        refine ⟨_, rfl, _, rfl, r, ds2, rfl, hr6, fun n0 ds3 => .inl ⟨n0, rfl, ?_⟩⟩
        have hS7 : upd H6 r (.lst (ds3.map V.int)) S = some (.lst (ws.map V.str)) := by rw [upd_ne (Ne.symm rS)]; exact hS6
        have hr7 : upd H6 r (.lst (ds3.map V.int)) r = some (.lst (ds3.map V.int)) := upd_same
        revert hS7 hr7
        generalize upd H6 r (.lst (ds3.map V.int)) = H7
        intro hS7 hr7
        refine ⟨_, rfl, S, _, rfl, .inl (.inl (.inl hS7)), n0, _, rfl, rfl, (show (0 : Int) < (((ws.map V.str).length : Nat) : Int) by rw [List.length_map]; omega), ?_⟩
        have m0 := mod_lt8 n0 (show (0 : Int) < ((ws.map V.str).length : Int) by rw [List.length_map, l500.1]; decide)
        rw [List.length_map] at m0
        obtain ⟨g, hg, eg⟩ : ∃ g : Nat, g < ws.length ∧ n0 % ((ws.length : Nat) : Int) = (g : Int) := ⟨(n0 % ((ws.length : Nat) : Int)).toNat, by omega, by omega⟩
        refine ⟨S, _, _, .str ws[g], rfl, rfl, .inl (.inl hS7), ?_, (by show 2 ≤ sizeLine; decide), fun G nG => ?_⟩
        · show atI _ (n0 % _) = _
          rw [List.length_map, eg]
          exact atI_nat (by rw [List.getElem?_map, List.getElem?_eq_getElem hg]; rfl)
        have lz : ∀ z ∈ [y, ws[g]], z.length ≤ 500 := fun z hz => by
          rcases List.mem_cons.mp hz with rfl | hz
          · omega
          · rw [List.mem_singleton.mp hz]
            exact l500.2 _ (List.getElem_mem hg)
        have hG : upd H7 G (.lst [.str y, .str ws[g]]) G = some (.lst ([y, ws[g]].map V.str)) := upd_same
        have hr8 := same_upd (o := .lst [.str y, .str ws[g]]) nG _ _ hr7
        revert hG hr8 lz
        generalize upd H7 G (.lst [.str y, .str ws[g]]) = H8
        generalize [y, ws[g]] = zs
        intro lz hG hr8
        refine ⟨G, rfl, ⟨_, .inl (.inl hG)⟩, for_list (xs := zs.map V.str) (fun i σ H' => ∃ (v5 : Option V), σ = [some (.ref sc), some (.ref r), some (.int (0 + (j : Int))), some (.str x), some (.ref S), v5] ∧ Same H8 H')
          ⟨v5, rfl, Same.refl _⟩ (fun i σ H' _ ⟨_, _, s'⟩ => .inl (.inl (s' _ _ hG))) (fun i v σ H9 hi hP => ?_) (fun σ H9 hP => ?_)⟩
        · obtain ⟨v5, rfl, s9⟩ := hP
          rw [List.getElem?_map] at hi
          obtain ⟨z, hz, rfl⟩ : ∃ z, zs[i]? = some z ∧ V.str z = v := by
            cases e : zs[i]? with
            | none => rw [e] at hi; exact nomatch hi
            | some z => rw [e] at hi; exact ⟨z, rfl, Option.some.inj hi⟩
          have lz := lz z (List.mem_of_getElem? hz)
          have smb := smL_bool (nameW z)
          refine ⟨_, rfl, z, rfl, lz, fun H10 s10 => ⟨_, _, rfl, .bl _, smb.shaped (by decide), smb.sho, smb.wide (by decide), ?_⟩⟩
          refine ⟨_, rfl, z, rfl, lz, fun H11 s11 => ⟨_, _, rfl, .bl _, smb.shaped (by decide), smb.sho, smb.wide (by decide), ?_⟩⟩
          generalize PyData.shown _ = X
          refine ⟨rfl, _, rfl, ite_same ?_⟩
          refine ⟨_, rfl, z, rfl, lz, fun o ho H12 s12 => ?_⟩
          have smo : SmL 1 4000 (numD o) := num_sm o fun n e => by rw [e] at ho; exact ho.1
          refine ⟨_, _, rfl, num_dp o, smo.shaped (by decide), smo.sho, smo.wide (by decide), ?_⟩
          refine ⟨_, rfl, z, rfl, lz, fun o2 ho2 H13 s13 => ?_⟩
          obtain rfl := ho.one ho2
          refine ⟨_, _, rfl, num_dp o, smo.shaped (by decide), smo.sho, smo.wide (by decide), ?_⟩
          generalize PyData.shown _ = X
          refine ⟨rfl, _, rfl, ite_same ?_⟩
          exact ⟨_, rfl, Same.trans s9 (Same.trans s10 (Same.trans s11 (Same.trans s12 s13)))⟩
        · obtain ⟨v5, rfl, s9⟩ := hP
          exact ⟨_, _, _, _, ds3, rfl, s9 _ _ hr8⟩
    · obtain ⟨v2, v3, v4, v5, ds, rfl, hr3⟩ := hP
      exact q _
end

theorem all_mk {P : Program} {w : World} {K : PySem.W.Frag} {h : Heap} {mg : Str → Option Value} {fa : Addr} (X : K.In h) (G : h.Ns mainGlobals mg) (hfa : mg "law" = some (.ref fa))
    {f_law_number : Addr} {od_law_number an_law_number : Option Addr} {sl_law_number : Array (Option Value)} {oc_law_number kV_law_number dc_law_number pm_law_number cd_law_number ct_law_number : Value}
    {f_law_next : Addr} {od_law_next an_law_next : Option Addr} {sl_law_next : Array (Option Value)} {oc_law_next kV_law_next dc_law_next pm_law_next cd_law_next ct_law_next : Value}
    {f_law_draws : Addr} {od_law_draws an_law_draws : Option Addr} {sl_law_draws : Array (Option Value)} {oc_law_draws kV_law_draws dc_law_draws pm_law_draws cd_law_draws ct_law_draws : Value}
    {f_is_word_ : Addr} {od_is_word_ an_is_word_ : Option Addr} {sl_is_word_ : Array (Option Value)} {oc_is_word_ kV_is_word_ dc_is_word_ pm_is_word_ cd_is_word_ ct_is_word_ : Value}
    {f_words_of : Addr} {od_words_of an_words_of : Option Addr} {sl_words_of : Array (Option Value)} {oc_words_of kV_words_of dc_words_of pm_words_of cd_words_of ct_words_of : Value}
    {f_law_text : Addr} {od_law_text an_law_text : Option Addr} {sl_law_text : Array (Option Value)} {oc_law_text kV_law_text dc_law_text pm_law_text cd_law_text ct_law_text : Value}
    {f_law_words : Addr} {od_law_words an_law_words : Option Addr} {sl_law_words : Array (Option Value)} {oc_law_words kV_law_words dc_law_words pm_law_words cd_law_words ct_law_words : Value}
    {f_is_name : Addr} {od_is_name an_is_name : Option Addr} {sl_is_name : Array (Option Value)} {oc_is_name kV_is_name dc_is_name pm_is_name cd_is_name ct_is_name : Value}
    {f_law_is_name : Addr} {od_law_is_name an_law_is_name : Option Addr} {sl_law_is_name : Array (Option Value)} {oc_law_is_name kV_law_is_name dc_law_is_name pm_law_is_name cd_law_is_name ct_law_is_name : Value}
    {f_number_in : Addr} {od_number_in an_number_in : Option Addr} {sl_number_in : Array (Option Value)} {oc_number_in kV_number_in dc_number_in pm_number_in cd_number_in ct_number_in : Value}
    {f_law_number_in : Addr} {od_law_number_in an_law_number_in : Option Addr} {sl_law_number_in : Array (Option Value)} {oc_law_number_in kV_law_number_in dc_law_number_in pm_law_number_in cd_law_number_in ct_law_number_in : Value}
    {f_law : Addr} {od_law an_law : Option Addr} {sl_law : Array (Option Value)} {oc_law kV_law dc_law pm_law cd_law ct_law : Value}
    {tm_MOST_IN_NAME : Tok}
    {tm_MOST_FIGURES : Tok}
    {tm_SMALL_LETTERS : Tok}
    (a_law_number : PySem.W.nsIn K mainGlobals "_law_number" = some (some (.ref f_law_number))) (l_law_number : K.lookup f_law_number = some ⟨oc_law_number, od_law_number, .func (PySem.W.fnOf "_law_number" "_law_number" (defArgs s_law_number) (defBody s_law_number) (defScope s_law_number) .none kV_law_number dc_law_number pm_law_number an_law_number cd_law_number ct_law_number), sl_law_number⟩) (c_law_number : PySem.W.codeIn K cd_law_number "_law_number" = true) (k_law_number : PySem.W.keepIn K (.ref f_law_number) = true)
    (a_law_next : PySem.W.nsIn K mainGlobals "_law_next" = some (some (.ref f_law_next))) (l_law_next : K.lookup f_law_next = some ⟨oc_law_next, od_law_next, .func (PySem.W.fnOf "_law_next" "_law_next" (defArgs s_law_next) (defBody s_law_next) (defScope s_law_next) .none kV_law_next dc_law_next pm_law_next an_law_next cd_law_next ct_law_next), sl_law_next⟩) (c_law_next : PySem.W.codeIn K cd_law_next "_law_next" = true) (k_law_next : PySem.W.keepIn K (.ref f_law_next) = true)
    (a_law_draws : PySem.W.nsIn K mainGlobals "_law_draws" = some (some (.ref f_law_draws))) (l_law_draws : K.lookup f_law_draws = some ⟨oc_law_draws, od_law_draws, .func (PySem.W.fnOf "_law_draws" "_law_draws" (defArgs s_law_draws) (defBody s_law_draws) (defScope s_law_draws) .none kV_law_draws dc_law_draws pm_law_draws an_law_draws cd_law_draws ct_law_draws), sl_law_draws⟩) (c_law_draws : PySem.W.codeIn K cd_law_draws "_law_draws" = true) (k_law_draws : PySem.W.keepIn K (.ref f_law_draws) = true)
    (a_is_word_ : PySem.W.nsIn K mainGlobals "_is_word" = some (some (.ref f_is_word_))) (l_is_word_ : K.lookup f_is_word_ = some ⟨oc_is_word_, od_is_word_, .func (PySem.W.fnOf "_is_word" "_is_word" (defArgs s_is_word_) (defBody s_is_word_) (defScope s_is_word_) .none kV_is_word_ dc_is_word_ pm_is_word_ an_is_word_ cd_is_word_ ct_is_word_), sl_is_word_⟩) (c_is_word_ : PySem.W.codeIn K cd_is_word_ "_is_word" = true) (k_is_word_ : PySem.W.keepIn K (.ref f_is_word_) = true)
    (a_words_of : PySem.W.nsIn K mainGlobals "words_of" = some (some (.ref f_words_of))) (l_words_of : K.lookup f_words_of = some ⟨oc_words_of, od_words_of, .func (PySem.W.fnOf "words_of" "words_of" (defArgs s_words_of) (defBody s_words_of) (defScope s_words_of) .none kV_words_of dc_words_of pm_words_of an_words_of cd_words_of ct_words_of), sl_words_of⟩) (c_words_of : PySem.W.codeIn K cd_words_of "words_of" = true) (k_words_of : PySem.W.keepIn K (.ref f_words_of) = true)
    (a_law_text : PySem.W.nsIn K mainGlobals "_law_text" = some (some (.ref f_law_text))) (l_law_text : K.lookup f_law_text = some ⟨oc_law_text, od_law_text, .func (PySem.W.fnOf "_law_text" "_law_text" (defArgs s_law_text) (defBody s_law_text) (defScope s_law_text) .none kV_law_text dc_law_text pm_law_text an_law_text cd_law_text ct_law_text), sl_law_text⟩) (c_law_text : PySem.W.codeIn K cd_law_text "_law_text" = true) (k_law_text : PySem.W.keepIn K (.ref f_law_text) = true)
    (a_law_words : PySem.W.nsIn K mainGlobals "_law_words" = some (some (.ref f_law_words))) (l_law_words : K.lookup f_law_words = some ⟨oc_law_words, od_law_words, .func (PySem.W.fnOf "_law_words" "_law_words" (defArgs s_law_words) (defBody s_law_words) (defScope s_law_words) .none kV_law_words dc_law_words pm_law_words an_law_words cd_law_words ct_law_words), sl_law_words⟩) (c_law_words : PySem.W.codeIn K cd_law_words "_law_words" = true) (k_law_words : PySem.W.keepIn K (.ref f_law_words) = true)
    (a_is_name : PySem.W.nsIn K mainGlobals "is_name" = some (some (.ref f_is_name))) (l_is_name : K.lookup f_is_name = some ⟨oc_is_name, od_is_name, .func (PySem.W.fnOf "is_name" "is_name" (defArgs s_is_name) (defBody s_is_name) (defScope s_is_name) .none kV_is_name dc_is_name pm_is_name an_is_name cd_is_name ct_is_name), sl_is_name⟩) (c_is_name : PySem.W.codeIn K cd_is_name "is_name" = true) (k_is_name : PySem.W.keepIn K (.ref f_is_name) = true)
    (a_law_is_name : PySem.W.nsIn K mainGlobals "_law_is_name" = some (some (.ref f_law_is_name))) (l_law_is_name : K.lookup f_law_is_name = some ⟨oc_law_is_name, od_law_is_name, .func (PySem.W.fnOf "_law_is_name" "_law_is_name" (defArgs s_law_is_name) (defBody s_law_is_name) (defScope s_law_is_name) .none kV_law_is_name dc_law_is_name pm_law_is_name an_law_is_name cd_law_is_name ct_law_is_name), sl_law_is_name⟩) (c_law_is_name : PySem.W.codeIn K cd_law_is_name "_law_is_name" = true) (k_law_is_name : PySem.W.keepIn K (.ref f_law_is_name) = true)
    (a_number_in : PySem.W.nsIn K mainGlobals "number_in" = some (some (.ref f_number_in))) (l_number_in : K.lookup f_number_in = some ⟨oc_number_in, od_number_in, .func (PySem.W.fnOf "number_in" "number_in" (defArgs s_number_in) (defBody s_number_in) (defScope s_number_in) .none kV_number_in dc_number_in pm_number_in an_number_in cd_number_in ct_number_in), sl_number_in⟩) (c_number_in : PySem.W.codeIn K cd_number_in "number_in" = true) (k_number_in : PySem.W.keepIn K (.ref f_number_in) = true)
    (a_law_number_in : PySem.W.nsIn K mainGlobals "_law_number_in" = some (some (.ref f_law_number_in))) (l_law_number_in : K.lookup f_law_number_in = some ⟨oc_law_number_in, od_law_number_in, .func (PySem.W.fnOf "_law_number_in" "_law_number_in" (defArgs s_law_number_in) (defBody s_law_number_in) (defScope s_law_number_in) .none kV_law_number_in dc_law_number_in pm_law_number_in an_law_number_in cd_law_number_in ct_law_number_in), sl_law_number_in⟩) (c_law_number_in : PySem.W.codeIn K cd_law_number_in "_law_number_in" = true) (k_law_number_in : PySem.W.keepIn K (.ref f_law_number_in) = true)
    (a_law : PySem.W.nsIn K mainGlobals "law" = some (some (.ref f_law))) (l_law : K.lookup f_law = some ⟨oc_law, od_law, .func (PySem.W.fnOf "law" "law" (defArgs s_law) (defBody s_law) (defScope s_law) .none kV_law dc_law pm_law an_law cd_law ct_law), sl_law⟩) (c_law : PySem.W.codeIn K cd_law "law" = true) (k_law : PySem.W.keepIn K (.ref f_law) = true)
    (zn_int : PySem.W.nsIn K mainGlobals "int" = some none)
    (zn_range : PySem.W.nsIn K mainGlobals "range" = some none)
    (zn_len : PySem.W.nsIn K mainGlobals "len" = some none)
    (zn_all : PySem.W.nsIn K mainGlobals "all" = some none)
    (zn_repr : PySem.W.nsIn K mainGlobals "repr" = some none)
    (zn_str : PySem.W.nsIn K mainGlobals "str" = some none)
    (zn_ord : PySem.W.nsIn K mainGlobals "ord" = some none)
    (n_MOST_IN_NAME : PySem.W.nsIn K mainGlobals "MOST_IN_NAME" = some (some (.int 12 tm_MOST_IN_NAME)))
    (n_MOST_FIGURES : PySem.W.nsIn K mainGlobals "MOST_FIGURES" = some (some (.int 2 tm_MOST_FIGURES)))
    (n_SMALL_LETTERS : PySem.W.nsIn K mainGlobals "SMALL_LETTERS" = some (some (.str "abcdefghijklmnopqrstuvwxyz" tm_SMALL_LETTERS)))
    : ∃ fd : FuncData, (∀ (s : Shared) (v : Value), BindsTo s fd ⟨[v], []⟩ [("script", v)]) ∧ ∀ base : Heap, K.In base → base.Ns mainGlobals mg → FnG P w K mg base 3 fa fd ["script"] (spLaw K) := by
  have e := hfa.symm.trans (PySem.W.mg_of X G a_law)
  cases e
  have F_law_number := fun_mk (st := s_law_number) l_law_number c_law_number k_law_number
  have g_law_number := PySem.W.mg_of X G a_law_number
  have b_law_number := F_law_number.binds (ps := ["cell"]) fun _ _ _ _ _ _ us hl => match us, hl with | [_], _ => rfl
  have F_law_next := fun_mk (st := s_law_next) l_law_next c_law_next k_law_next
  have g_law_next := PySem.W.mg_of X G a_law_next
  have b_law_next := F_law_next.binds (ps := ["draws"]) fun _ _ _ _ _ _ us hl => match us, hl with | [_], _ => rfl
  have F_law_draws := fun_mk (st := s_law_draws) l_law_draws c_law_draws k_law_draws
  have g_law_draws := PySem.W.mg_of X G a_law_draws
  have b_law_draws := F_law_draws.binds (ps := ["script"]) fun _ _ _ _ _ _ us hl => match us, hl with | [_], _ => rfl
  have F_is_word_ := fun_mk (st := s_is_word_) l_is_word_ c_is_word_ k_is_word_
  have g_is_word_ := PySem.W.mg_of X G a_is_word_
  have b_is_word_ := F_is_word_.binds (ps := ["word"]) fun _ _ _ _ _ _ us hl => match us, hl with | [_], _ => rfl
  have F_words_of := fun_mk (st := s_words_of) l_words_of c_words_of k_words_of
  have g_words_of := PySem.W.mg_of X G a_words_of
  have b_words_of := F_words_of.binds (ps := ["line"]) fun _ _ _ _ _ _ us hl => match us, hl with | [_], _ => rfl
  have F_law_text := fun_mk (st := s_law_text) l_law_text c_law_text k_law_text
  have g_law_text := PySem.W.mg_of X G a_law_text
  have b_law_text := F_law_text.binds (ps := ["draws", "most"]) fun _ _ _ _ _ _ us hl => match us, hl with | [_, _], _ => rfl
  have F_law_words := fun_mk (st := s_law_words) l_law_words c_law_words k_law_words
  have g_law_words := PySem.W.mg_of X G a_law_words
  have b_law_words := F_law_words.binds (ps := ["line"]) fun _ _ _ _ _ _ us hl => match us, hl with | [_], _ => rfl
  have F_is_name := fun_mk (st := s_is_name) l_is_name c_is_name k_is_name
  have g_is_name := PySem.W.mg_of X G a_is_name
  have b_is_name := F_is_name.binds (ps := ["word"]) fun _ _ _ _ _ _ us hl => match us, hl with | [_], _ => rfl
  have F_law_is_name := fun_mk (st := s_law_is_name) l_law_is_name c_law_is_name k_law_is_name
  have g_law_is_name := PySem.W.mg_of X G a_law_is_name
  have b_law_is_name := F_law_is_name.binds (ps := ["word"]) fun _ _ _ _ _ _ us hl => match us, hl with | [_], _ => rfl
  have F_number_in := fun_mk (st := s_number_in) l_number_in c_number_in k_number_in
  have g_number_in := PySem.W.mg_of X G a_number_in
  have b_number_in := F_number_in.binds (ps := ["word"]) fun _ _ _ _ _ _ us hl => match us, hl with | [_], _ => rfl
  have F_law_number_in := fun_mk (st := s_law_number_in) l_law_number_in c_law_number_in k_law_number_in
  have g_law_number_in := PySem.W.mg_of X G a_law_number_in
  have b_law_number_in := F_law_number_in.binds (ps := ["word"]) fun _ _ _ _ _ _ us hl => match us, hl with | [_], _ => rfl
  have F_law := fun_mk (st := s_law) l_law c_law k_law
  have g_law := PySem.W.mg_of X G a_law
  have b_law := F_law.binds (ps := ["script"]) fun _ _ _ _ _ _ us hl => match us, hl with | [_], _ => rfl
  have z_int := PySem.W.mg_none_of X G zn_int
  have z_range := PySem.W.mg_none_of X G zn_range
  have z_len := PySem.W.mg_none_of X G zn_len
  have z_all := PySem.W.mg_none_of X G zn_all
  have z_repr := PySem.W.mg_none_of X G zn_repr
  have z_str := PySem.W.mg_none_of X G zn_str
  have z_ord := PySem.W.mg_none_of X G zn_ord
  have m_MOST_IN_NAME := PySem.W.mg_of X G n_MOST_IN_NAME
  have m_MOST_FIGURES := PySem.W.mg_of X G n_MOST_FIGURES
  have m_SMALL_LETTERS := PySem.W.mg_of X G n_SMALL_LETTERS
  refine ⟨PySem.W.fnOf "law" "law" (defArgs s_law) (defBody s_law) (defScope s_law) .none kV_law dc_law pm_law an_law cd_law ct_law, fun s v => .of_eq rfl, fun base _ _ => ?_⟩
  have G_law_number := ok_plain (P := P) (w := w) (mg := mg) (base := base) (F := F_law_number)
  have G_law_next := ok_next (P := P) (w := w) (mg := mg) (base := base) (F := F_law_next)
  have G_law_draws := ok_draws (P := P) (w := w) (mg := mg) (base := base) (F := F_law_draws) (z_range := z_range) (z_int := z_int) (G_law_number := G_law_number) (g_law_number := g_law_number) (k_law_number := k_law_number) (b_law_number := b_law_number)
  have G_is_word_ := ok_is_word_ (P := P) (w := w) (mg := mg) (base := base) (F := F_is_word_) (z_len := z_len) (z_all := z_all)
  have G_words_of := ok_words_of (P := P) (w := w) (mg := mg) (base := base) (F := F_words_of) (z_all := z_all) (G_is_word_ := G_is_word_) (g_is_word_ := g_is_word_) (k_is_word_ := k_is_word_) (b_is_word_ := b_is_word_)
  have G_law_text := ok_law_text (P := P) (w := w) (mg := mg) (base := base) (F := F_law_text) (z_int := z_int) (z_len := z_len) (z_range := z_range) (G_law_next := G_law_next) (g_law_next := g_law_next) (k_law_next := k_law_next) (b_law_next := b_law_next)
  have G_law_words := ok_law_words (P := P) (w := w) (mg := mg) (base := base) (F := F_law_words) (z_ord := z_ord)
  have G_is_name := ok_is_name (P := P) (w := w) (mg := mg) (base := base) (F := F_is_name) (z_len := z_len) (z_all := z_all) (m_MOST_IN_NAME := m_MOST_IN_NAME) (m_SMALL_LETTERS := m_SMALL_LETTERS)
  have G_law_is_name := ok_law_is_name (P := P) (w := w) (mg := mg) (base := base) (F := F_law_is_name) (z_len := z_len) (z_all := z_all) (z_ord := z_ord)
  have G_number_in := ok_number_in (P := P) (w := w) (mg := mg) (base := base) (F := F_number_in) (z_len := z_len) (z_int := z_int) (m_MOST_FIGURES := m_MOST_FIGURES)
  have G_law_number_in := ok_law_number_in (P := P) (w := w) (mg := mg) (base := base) (F := F_law_number_in) (z_range := z_range) (z_str := z_str)
  exact ok_law (P := P) (w := w) (mg := mg) (base := base) (F := F_law) (z_repr := z_repr) (z_int := z_int) (z_range := z_range) (z_len := z_len) (G_law_draws := G_law_draws) (g_law_draws := g_law_draws) (k_law_draws := k_law_draws) (b_law_draws := b_law_draws) (G_law_next := G_law_next) (g_law_next := g_law_next) (k_law_next := k_law_next) (b_law_next := b_law_next) (G_law_text := G_law_text) (g_law_text := g_law_text) (k_law_text := k_law_text) (b_law_text := b_law_text) (G_words_of := G_words_of) (g_words_of := g_words_of) (k_words_of := k_words_of) (b_words_of := b_words_of) (G_law_words := G_law_words) (g_law_words := g_law_words) (k_law_words := k_law_words) (b_law_words := b_law_words) (G_is_name := G_is_name) (g_is_name := g_is_name) (k_is_name := k_is_name) (b_is_name := b_is_name) (G_law_is_name := G_law_is_name) (g_law_is_name := g_law_is_name) (k_law_is_name := k_law_is_name) (b_law_is_name := b_law_is_name) (G_number_in := G_number_in) (g_number_in := g_number_in) (k_number_in := k_number_in) (b_number_in := b_number_in) (G_law_number_in := G_law_number_in) (g_law_number_in := g_law_number_in) (k_law_number_in := k_law_number_in) (b_law_number_in := b_law_number_in)
end T
open PySem PySem.W PyProof.Rows
set_option maxHeartbeats 0 in
theorem PySem.Challenge.cw_threadworth_k88_lines_and_words_holds : PySem.Challenge.rw_threadworth_k88_lines_and_words.Holds := by
  w_on; o_law; k_head; (case hw => w_witness2)
  k_fill
  refine L2.walk_ofG (l := PySem.Challenge.rw_threadworth_k88_lines_and_words) (n := 63) (k := 3) (x := "script") (sp := fun w => T.spLaw _) rfl (by decide) rfl ⟨rfl, by decide, by decide⟩ (fun w h Y => PySem.W.kIn_of Y) ?F (fun _ _ a ns hl hS => ⟨a, ns, rfl, hS, hl, fun _ => rfl⟩)
  case F =>
    intro w mg fa h KX G hmg
    refine' T.all_mk KX G hmg ?a_law_number ?l_law_number ?c_law_number ?k_law_number ?a_law_next ?l_law_next ?c_law_next ?k_law_next ?a_law_draws ?l_law_draws ?c_law_draws ?k_law_draws ?a_is_word_ ?l_is_word_ ?c_is_word_ ?k_is_word_ ?a_words_of ?l_words_of ?c_words_of ?k_words_of ?a_law_text ?l_law_text ?c_law_text ?k_law_text ?a_law_words ?l_law_words ?c_law_words ?k_law_words ?a_is_name ?l_is_name ?c_is_name ?k_is_name ?a_law_is_name ?l_law_is_name ?c_law_is_name ?k_law_is_name ?a_number_in ?l_number_in ?c_number_in ?k_number_in ?a_law_number_in ?l_law_number_in ?c_law_number_in ?k_law_number_in ?a_law ?l_law ?c_law ?k_law ?zn_int ?zn_range ?zn_len ?zn_all ?zn_repr ?zn_str ?zn_ord ?n_MOST_IN_NAME ?n_MOST_FIGURES ?n_SMALL_LETTERS
    (case a_law_number => k_is); (case l_law_number => k_is); (case c_law_number => k_is); (case k_law_number => k_is); (case a_law_next => k_is); (case l_law_next => k_is); (case c_law_next => k_is); (case k_law_next => k_is)
    (case a_law_draws => k_is); (case l_law_draws => k_is); (case c_law_draws => k_is); (case k_law_draws => k_is); (case a_is_word_ => k_is); (case l_is_word_ => k_is); (case c_is_word_ => k_is); (case k_is_word_ => k_is)
    (case a_words_of => k_is); (case l_words_of => k_is); (case c_words_of => k_is); (case k_words_of => k_is); (case a_law_text => k_is); (case l_law_text => k_is); (case c_law_text => k_is); (case k_law_text => k_is)
    (case a_law_words => k_is); (case l_law_words => k_is); (case c_law_words => k_is); (case k_law_words => k_is); (case a_is_name => k_is); (case l_is_name => k_is); (case c_is_name => k_is); (case k_is_name => k_is)
    (case a_law_is_name => k_is); (case l_law_is_name => k_is); (case c_law_is_name => k_is); (case k_law_is_name => k_is); (case a_number_in => k_is); (case l_number_in => k_is); (case c_number_in => k_is); (case k_number_in => k_is)
    (case a_law_number_in => k_is); (case l_law_number_in => k_is); (case c_law_number_in => k_is); (case k_law_number_in => k_is); (case a_law => k_is); (case l_law => k_is); (case c_law => k_is); (case k_law => k_is)
    (case zn_int => k_is); (case zn_range => k_is); (case zn_len => k_is); (case zn_all => k_is); (case zn_repr => k_is); (case zn_str => k_is); (case zn_ord => k_is); (case n_MOST_IN_NAME => k_is)
    (case n_MOST_FIGURES => k_is); (case n_SMALL_LETTERS => k_is)
