import PyProof.Rows.All
import Wide.All
import OpenK.AllK
import Wide.FinOn
import HandS.ForMost
import HandS.IsInst
import HandS.Zip
import HandS.Walk
import HandS.Exc
import HandS.Wide
import HandS.SortKw
import KE.GoesMore
import KE.GoesEnum
import KE.DataMinMax
import HandS.TupAny
import KE.GoesZip
import KE.KDictZip
import HandS.Zip0
import HandS.ListItems
import PySem.Challenge.RW_haulropes_k18_whole_hauls_by_chains
set_option Elab.async false
set_option linter.all false
set_option maxRecDepth 100000
/-! Readings by rewriting: each word of a reading, applied, as an equation; then simp does the walking. -/
namespace Hx
open PySem PySem.Spec PyProof.Rows L2

section eqs
variable {K : PySem.W.Frag} {σ : L2.St} {H : Hp} {Q : VK} {QB : Bool → Hp → Prop} {QL : List V → Hp → Prop} {D : Ends} {i j n : Nat} {v : V} {ta tb tc te : TE} {tA tB' tt : TT} {a : TA} {r r' : R2} {t u : TS} {g : TG} {gs : TGs}
theorem q_var : tVar i σ H Q = ∃ v, σ[i]? = some (some v) ∧ Q v H := rfl
theorem q_c : tC v σ H Q = Q v H := rfl
theorem q_op : tOp r ta tb σ H Q = ta σ H fun x H1 => tb σ H1 fun y H2 => r x y H2 Q := rfl
theorem q_un {ru : V → Hp → VK → Prop} : tUn ru ta σ H Q = ta σ H fun x H1 => ru x H1 Q := rfl
theorem q_rI {C : Int → Int → Prop} {f : Int → Int → V} {x y : Int} : rI C f (.int x) (.int y) H Q = (C x y ∧ Q (f x y) H) := by
  apply propext; constructor
  · rintro ⟨_, _, e1, e2, c, q⟩; cases e1; cases e2; exact ⟨c, q⟩
  · rintro ⟨c, q⟩; exact ⟨_, _, rfl, rfl, c, q⟩
theorem q_rI0 {f : Int → Int → V} {x y : Int} : rI0 f (.int x) (.int y) H Q = Q (f x y) H := by
  apply propext; constructor
  · rintro ⟨_, _, e1, e2, q⟩; cases e1; cases e2; exact q
  · intro q; exact ⟨_, _, rfl, rfl, q⟩
theorem q_rU {f : Int → V} {x : Int} : rU f (.int x) H Q = Q (f x) H := by
  apply propext; constructor
  · rintro ⟨_, e1, q⟩; cases e1; exact q
  · intro q; exact ⟨_, rfl, q⟩
theorem q_rEq {x y : V} : rEq x y H Q = (scal x y = true ∧ Q (.bl (decide (x = y))) H) := rfl
theorem q_rNe {x y : V} : rNe x y H Q = (scal x y = true ∧ Q (.bl (!decide (x = y))) H) := rfl
theorem q_test : tTest te σ H QB = te σ H fun x H' => ∃ k, x = .bl k ∧ QB k H' := rfl
theorem q_tB : L2.tB te σ H QB = te σ H fun x H' => ∃ k, x = .bl k ∧ QB k H' := rfl
theorem q_and : tAnd tA tB' σ H QB = tA σ H fun c H1 => if c = true then tB' σ H1 QB else QB false H1 := rfl
theorem q_or : tOr tA tB' σ H QB = tA σ H fun c H1 => if c = true then QB true H1 else tB' σ H1 QB := rfl
theorem q_not : tNot tA σ H QB = tA σ H fun c H1 => QB (!c) H1 := rfl
theorem q_andV : tAndV ta tb σ H Q = ta σ H fun x H1 => ∃ c, x = .bl c ∧ if c = true then tb σ H1 Q else Q (.bl false) H1 := rfl
theorem q_orV : tOrV ta tb σ H Q = ta σ H fun x H1 => ∃ c, x = .bl c ∧ if c = true then Q (.bl true) H1 else tb σ H1 Q := rfl
theorem q_notV : tNotV ta σ H Q = ta σ H fun x H1 => ∃ c, x = .bl c ∧ Q (.bl (!c)) H1 := rfl
theorem q_if : tIf tA ta tb σ H Q = tA σ H fun c H1 => if c = true then ta σ H1 Q else tb σ H1 Q := rfl
theorem q_isN : tIsN ta σ H Q = ta σ H fun x H1 => Q (.bl (decide (x = .non))) H1 := rfl
theorem q_notN : tNotN ta σ H Q = ta σ H fun x H1 => Q (.bl (!decide (x = .non))) H1 := rfl
theorem q_chain : tChain r r' ta tb tc σ H Q = ta σ H fun x H1 => tb σ H1 fun y H2 => r x y H2 fun z H3 => ∃ k, z = .bl k ∧ (if k = true then tc σ H3 fun w' H4 => r' y w' H4 Q else Q (.bl false) H3) := rfl
theorem q_next : tNext D σ H = D.nx σ H := rfl
theorem q_seq : tSeq t u D σ H = t { D with nx := u D } σ H := rfl
theorem q_break : tBreak D σ H = D.bk σ H := rfl
theorem q_cont : tCont D σ H = D.ct σ H := rfl
theorem q_drop : tDrop te D σ H = te σ H fun _ H1 => D.nx σ H1 := rfl
theorem q_ret : tRet te D σ H = te σ H D.rt := rfl
theorem q_retN : tRetN D σ H = D.rt .non H := rfl
theorem q_ifS : tIfS tA t u D σ H = tA σ H fun b H1 => if b = true then t D σ H1 else u D σ H1 := rfl
theorem q_never : tNever D σ H = False := rfl
theorem q_gN {Qg : L2.St → Hp → Prop} : gName i v σ H Qg = Qg (σ.set i (some v)) H := rfl
theorem q_gNil {Qg : L2.St → Hp → Prop} : gNil [] σ H Qg = Qg σ H := by
  apply propext; exact ⟨fun h => h.2, fun h => ⟨rfl, h⟩⟩
theorem q_gCons {Qg : L2.St → Hp → Prop} {vs : List V} : gCons g gs (v :: vs) σ H Qg = g v σ H fun σ' H' => gs vs σ' H' Qg := by
  apply propext; constructor
  · rintro ⟨_, _, e, q⟩; cases e; exact q
  · intro q; exact ⟨_, _, rfl, q⟩
theorem q_gTup {Qg : L2.St → Hp → Prop} : gTup K n gs v σ H Qg = ∃ a xs, v = .ref a ∧ SqT K H a xs ∧ xs.length = n ∧ gs xs σ H Qg := rfl
theorem q_gSub {Qg : L2.St → Hp → Prop} {ts : TSet} : gSub ta tb ts v σ H Qg = ta σ H fun o H1 => tb σ H1 fun i H2 => ts o i v H2 fun H3 => Qg σ H3 := rfl
theorem q_asg : tAsg te g D σ H = te σ H fun x H1 => g x σ H1 D.nx := rfl
theorem q_par : tPar i j a D σ H = a σ H fun vs H1 => ∃ v w, vs = [v, w] ∧ D.nx ((σ.set i (some v)).set j (some w)) H1 := rfl
theorem q_aug {ti : TIp} : tAug i te ti D σ H = ∃ x, σ[i]? = some (some x) ∧ te σ H fun y H1 => ti x y H1 fun z H2 => D.nx (σ.set i (some z)) H2 := rfl
theorem q_nil : tNil σ H QL = QL [] H := rfl
theorem q_cons : tCons te a σ H QL = te σ H fun x H1 => a σ H1 fun xs H2 => QL (x :: xs) H2 := rfl
theorem q_tup : tTup a σ H Q = a σ H fun xs H1 => xs.length ≤ sizeLine ∧ ∀ p, H1 p = none → Q (.ref p) (upd H1 p (.tup xs)) := rfl
theorem q_lst : tLst a σ H Q = a σ H fun xs H1 => xs.length ≤ sizeLine ∧ ∀ p, H1 p = none → Q (.ref p) (upd H1 p (.lst xs)) := rfl
theorem q_call {sp : Sp} {dvs : List V} {E : XK} : tCall sp dvs E a σ H Q = a σ H fun vs H1 => sp (vs ++ dvs) H1 Q E := rfl
theorem q_cb {rc : List V → Hp → VK → Prop} : tCB rc a σ H Q = a σ H fun vs H1 => rc vs H1 Q := rfl
theorem q_noPart {Qo : Option Int → Hp → Prop} : tNoPart σ H Qo = Qo none H := rfl
theorem q_part {Qo : Option Int → Hp → Prop} : tPart te σ H Qo = te σ H fun x H1 => ∃ i, x = .int i ∧ Qo (some i) H1 := rfl
theorem q_sl {rs : V → Option Int → Option Int → Hp → VK → Prop} {tl th : TO} : tSl rs te tl th σ H Q = te σ H fun x H1 => tl σ H1 fun l H2 => th σ H2 fun u H3 => rs x l u H3 Q := rfl
theorem q_bm0 {T : String} {rm : V → List V → Hp → VK → Prop} : tBM0 K T rm te σ H Q = te σ H fun x H1 => tyV K T x H1 ∧ rm x [] H1 Q := rfl
theorem q_bm {T : String} {rm : V → List V → Hp → VK → Prop} : tBM K T rm te a σ H Q = te σ H fun x H1 => tyV K T x H1 ∧ a σ H1 fun xs H2 => rm x xs H2 Q := rfl
theorem q_yes : tYes σ H QB = QB true H := rfl
/-- what a for asks of a walk -/
def ForW (J : It) (g : TG) (tb : TS) (D : Ends) (σ : L2.St) (H : Hp) : Prop := ∃ W : Nat → Nat → L2.St → Hp → Prop, (∃ m, W 0 m σ H) ∧ ∀ i m σ H, W i m σ H →
  (J.stop i H ∧ D.nx σ H) ∨ (J.go i H ∧ ∃ N : L2.St → Hp → Prop, (∀ σ' H', N σ' H' → ∃ m', m' < m ∧ W (i + 1) m' σ' H') ∧ ∀ x H', J.yld i H x H' → g x σ H' fun σ2 H2 => tb { D with nx := N, ct := N, bk := D.nx } σ2 H2)
theorem q_for {wi : TI} : tFor wi g t D σ H = wi σ H fun J H1 => ForW J g t D σ H1 := rfl
/-- what a comprehension asks of a walk, its new list at p -/
def LcW (J : It) (g : TG) (tt : TT) (te : TE) (vs : List Nat) (p : Addr) (σ : L2.St) (H1 : Hp) (Qd : Hp → Prop) : Prop := ∃ W : Nat → Nat → Hp → Prop, (∃ m, W 0 m (upd H1 p (.lst []))) ∧ ∀ i m H, W i m H →
  (J.stop i H ∧ Qd H) ∨ (J.go i H ∧ ∃ Nx : Hp → Prop, (∀ H', Nx H' → ∃ m', m' < m ∧ W (i + 1) m' H') ∧ ∀ x H', J.yld i H x H' → g x (wipe σ vs) H' fun σ2 H2 => wipe σ2 vs = wipe σ vs ∧ tt σ2 H2 fun b H3 =>
    if b = true then te σ2 H3 fun y H4 => ∃ acc, H4 p = some (.lst acc) ∧ acc.length < sizeLine ∧ Nx (upd H4 p (.lst (acc ++ [y]))) else Nx H3)
theorem q_lc {wi : TI} {vs : List Nat} : tLc wi g tt te vs σ H Q = wi σ H fun J H1 => ∀ p, H1 p = none → LcW J g tt te vs p σ H1 (Q (.ref p)) := rfl
theorem q_iList {R : It → Hp → Prop} : iList K te σ H R = te σ H fun x H1 => ∃ a, x = .ref a ∧ (∃ xs, SqL K H1 a xs) ∧ R (Itl K a) H1 := rfl
theorem q_iTup {R : It → Hp → Prop} : iTup K te σ H R = te σ H fun x H1 => ∃ a, x = .ref a ∧ (∃ xs, SqT K H1 a xs) ∧ R (Itt K a) H1 := rfl
theorem q_iRng1 {R : It → Hp → Prop} : iRng1 a σ H R = a σ H fun vs H1 => ∃ j : Int, vs = [.int j] ∧ -(2 ^ 62) ≤ j ∧ j < 2 ^ 62 ∧ R (Itr 0 j.toNat) H1 := rfl
theorem q_iEnum {R : It → Hp → Prop} : iEnum K a σ H R = a σ H fun vs H1 => ∃ b xs, vs = [.ref b] ∧ SqL K H1 b xs ∧ R (Ite K b) H1 := rfl
theorem q_iRng2 {R : It → Hp → Prop} : iRng2 a σ H R = a σ H fun vs H1 => ∃ i j : Int, vs = [.int i, .int j] ∧ (-(2 ^ 62) ≤ i ∧ i < 2 ^ 62 ∧ -(2 ^ 62) ≤ j ∧ j < 2 ^ 62) ∧ R (Itr i (j - i).toNat) H1 := rfl
theorem q_iZipA {R : It → Hp → Prop} : RZ.iZipA K a σ H R = a σ H fun vs H1 => ∃ b c xs ys, vs = [.ref b, .ref c] ∧ ((SqL K H1 b xs ∧ SqL K H1 c ys ∧ R (Itz K b c) H1) ∨ (SqT K H1 b xs ∧ SqT K H1 c ys ∧ R (RZ.ItzT K b c) H1)) := rfl
theorem q_ipI {f : Int → Int → Int} {x y : Int} : ipI f (.int x) (.int y) H Q = Q (.int (f x y)) H := by
  apply propext; constructor
  · rintro ⟨_, _, e1, e2, q⟩; cases e1; cases e2; exact q
  · intro q; exact ⟨_, _, rfl, rfl, q⟩
theorem q_ckw {rk : List V → List V → Hp → VK → Prop} {ak : TA} : tCKw rk a ak σ H Q = a σ H fun vs H1 => ak σ H1 fun zs H2 => rk vs zs H2 Q := rfl
end eqs
end Hx

set_option Elab.async false
set_option linter.all false
set_option maxRecDepth 100000
set_option maxHeartbeats 4000000
/-! Rules that the layer lacks: enumerate of a tuple. -/
namespace Hx
open PySem PySem.Spec PyProof.Rows L2

theorem new_enum1 {v : Value} {ob : Obj} {Ho : Heap → Prop} (Bg : Begins v ob Ho) :
    Meets (Builtin.«enumerate.__new__» ⟨[.type "enumerate", v], []⟩) fun _ R s => Ho s.heap ∧
      R (.ok (.ret (.ref (s.heap.push ob).objs.size)))
        { s with heap := Heap.push (s.heap.push ob) { cls := .type "enumerate", data := .fields #[.none, .bool false, .ref s.heap.objs.size, rawInt 0, .none, .none] } } :=
  .of_wp fun pr ww AA R s hh => by
    obtain ⟨hp, g, d, tk, os⟩ := s
    obtain ⟨hv, hR⟩ := hh
    have hsub := sub_enumerate
    have begin' : ∀ {AA' : Around} {EE QQ : Value → Shared → Prop}, QQ (.ref hp.objs.size) ⟨hp.push ob, g, d, tk, os⟩ → wpAny (model pr ww) AA' (pyIter v) QQ EE ⟨hp, g, d, tk, os⟩ :=
      fun qq => Bg.iter pr ww _ _ ⟨hp, g, d, tk, os⟩ _ hv qq
    wp_walk using begin'
    refine wpAny_stack_any fun st => wpAny_pure ?_
    split
    · rename_i c _ _ _ _ _
      cases (c == Value.type "enumerate") <;>
      · wp_walk using begin'
        exact ⟨_, rfl, hR⟩
    · wp_walk using begin'
      exact ⟨_, rfl, hR⟩

theorem enum_of_tuple {prog : Program} {w : World} {A : Around} {E : Value → Shared → Prop} {s : Shared} {t : Addr} {its : Array Value} {Q : Value → Shared → Prop} (hT : s.heap.IsTuple t its)
    (h : ∀ h', IsEnum h' (s.heap.objs.size + 1) s.heap.objs.size 0 .none → h'.IsTupleIter s.heap.objs.size t 0 → (∀ b o, s.heap.get? b = some o → h'.get? b = some o) → Q (.ref (s.heap.objs.size + 1)) { s with heap := h' }) :
    wpAny (model prog w) A (call (.type "enumerate") [.ref t]) Q E s := by
  refine callType_new F.called_enumerate (by decide) (F.typeCall_enumerate_1 _) (F.newCall_enumerate_1 _) (fun ob => F.args_object_init_2 ob _) F.entry_enumerate_new (new_enum1 (begins_tuple t its)) ⟨hT, ?_⟩
  generalize hob : ({ cls := .type "tuple_iterator", data := .fields #[.ref t, .int 0 0] } : Obj) = ob
  have hfr : ob.isFreed = false := by rw [← hob]; rfl
  have hz : (s.heap.push ob).objs.size = s.heap.objs.size + 1 := Heap.size_push ..
  show _ ∧ _
  rw [hz]
  generalize hoe : ({ cls := .type "enumerate", data := .fields #[.none, .bool false, .ref s.heap.objs.size, rawInt 0, .none, .none] } : Obj) = oe
  have he : ((s.heap.push ob).push oe).get? (s.heap.objs.size + 1) = some oe := by
    rw [← hz]
    exact Heap.get?_push_size _ (by rw [← hoe]; rfl)
  have hi : ((s.heap.push ob).push oe).get? s.heap.objs.size = some ob := Heap.get?_push_of_some _ (Heap.get?_push_size _ hfr)
  refine ⟨⟨_, he, by rw [← hoe]⟩, h _ (by rw [← hoe] at he ⊢; exact he) ⟨ob, hi, by rw [← hob], by rw [← hob]; rfl⟩ fun b o q => Heap.get?_push_of_some _ (Heap.get?_push_of_some _ q)⟩

/-- the tuple at a, each item in a new pair with its number -/
def IteT (K : PySem.W.Frag) (a : Addr) : It where
  go := fun i H => ∃ (xs : List V) (x : V), SqT K H a xs ∧ xs[i]? = some x
  yld := fun i H v H' => ∃ T x, v = .ref T ∧ H T = none ∧ H' = upd H T (.tup [.int (i : Nat), x]) ∧ ∀ xs, SqT K H a xs → xs[i]? = some x
  stop := fun i H => ∃ xs : List V, SqT K H a xs ∧ xs.length ≤ i
theorem turn_enumT {P : Program} {w : World} {K : PySem.W.Frag} {es : List Expr} {k : Nat} {ps : Pos} (a e it : Addr) (hae : e ≠ a) (hia : a ≠ it) :
    Turn P w K (.Tuple es k ps) (IteT K a) [e, it] e fun i h => (∃ old, IsEnum h e it ((i : Nat) : Int) old) ∧ h.IsTupleIter it a i ∧ e ≠ it where
  mem := List.mem_cons_self
  obj := by
    rintro i h ⟨⟨old, he⟩, ⟨o, ho, hc, hd⟩, _⟩ b hb
    rcases List.mem_cons.mp hb with rfl | hb
    · exact ⟨_, he, fun v q => nomatch q⟩
    · cases List.mem_singleton.mp hb
      exact ⟨o, ho, fun v q => by rw [hd] at q; cases q⟩
  keep := by
    rintro i h h' ⟨⟨old, he⟩, hi, hne⟩ kk
    exact ⟨⟨old, kk e List.mem_cons_self _ he⟩, hi.at fun o q => kk it (List.mem_cons_of_mem _ List.mem_cons_self) o q, hne⟩
  item := by
    rintro X rfl rfl rfl hc i pins s σ H E I hf ⟨⟨old, he⟩, hit, hne⟩ ⟨xs, x, hq, hx⟩
    obtain ⟨its, rv, p, hz⟩ := I.tuple hq
    obtain ⟨u, hu, ru⟩ := rv.get hx
    have hel : e < s.heap.objs.size := Heap.lt_size he
    have hil : it < s.heap.objs.size := by obtain ⟨_, q, _⟩ := hit; exact Heap.lt_size q
    have hlt : i < its.toArray.size := by
      have q := (List.getElem?_eq_some_iff.mp hu).1
      simpa using q
    have hh : X.A.in1.handled = none := I.ok.hd hc
    refine wpAny_pyNext_enum_itemD (Draws.tuple hh it a hia its.toArray) he ⟨hit, p⟩ hlt hne (by simp [hne, hae]) fun x' h' tk hx' ho hit' hT hsz hk => ?_
    have ex : x' = u := by
      have q : its.toArray[i]? = some x' := hx'
      have q2 : its[i]? = some x' := by simpa using q
      rw [hu] at q2
      exact (Option.some.inj q2).symm
    subst ex
    refine ⟨_, rfl, wpAny_letOwnedTupleGo_enum (s := { s with heap := h', toks := tk + 1 }) ho fun h2 he2 sb => ?_⟩
    have hn : H s.heap.objs.size = none := I.hok.fresh (Nat.le_refl _)
    have hT2 : h2.get? s.heap.objs.size = some { cls := .type "tuple", data := .seq #[.int i tk, x'] } := (sb.2 _ (Nat.ne_of_gt hel)).trans hT
    have new : ObjOk X.prog X.w (upd H s.heap.objs.size (.tup [.int (i : Nat), x])) h2 s.heap.objs.size (.tup [.int (i : Nat), x]) := by
      refine ⟨?_, [.int i tk, x'], .cons ⟨_, rfl⟩ (.cons ru .nil), ⟨_, hT2, rfl, _, rfl⟩⟩
      show 2 ≤ sizeLine
      decide
    have kp : ∀ b ob, b ∉ [e, it] → s.heap.get? b = some ob → h2.get? b = some ob := fun b ob hb q => by
      have b1 : b ≠ e := fun z => hb (by simp [z])
      have b2 : b ≠ it := fun z => hb (by simp [z])
      exact (sb.2 b b1).trans (hk b ob b1 b2 q)
    have J := I.turnedNew (t' := tk + 1) kp hf (Nat.le_refl _) new
    refine ⟨.ref s.heap.objs.size, _, J, rfl, ⟨_, x, rfl, hn, rfl, fun ys hy => ?_⟩, ⟨⟨x', ?_⟩, ?_, hne⟩, fun b hb => ?_⟩
    · rw [I.tuple_inj hy hq]
      exact hx
    · have e1 : ((i + 1 : Nat) : Int) = (i : Int) + 1 := by omega
      rw [e1]
      exact he2
    · exact hit'.1.at fun o q => (sb.2 it (Ne.symm hne)).trans q
    · have hb' : b < s.heap.objs.size := by
        rcases List.mem_cons.mp hb with rfl | hb
        · exact hel
        · cases List.mem_singleton.mp hb
          exact hil
      rw [upd_ne (Nat.ne_of_lt hb')]
      exact (hf b hb).1
  done := by
    rintro X rfl rfl rfl hc i pins s σ H E I hf ⟨⟨old, he⟩, hit, hne⟩ ⟨xs, hq, hx⟩
    obtain ⟨its, rv, p, hz⟩ := I.tuple hq
    obtain ⟨f0, f1, f2, f3, f4, f5⟩ := hf it (List.mem_cons_of_mem _ List.mem_cons_self)
    have hl := rv.length
    have hh : X.A.in1.handled = none := I.ok.hd hc
    have D : Draws X.prog X.w X.A.in1 it [it, a] i (fun _ _ => False) (fun j h => j = i ∧ h.IsTupleIter it a i ∧ h.IsTuple a its.toArray) :=
      { live := fun j h st => let ⟨o, ho, _⟩ := st.2.1; ⟨o, ho⟩
        frame := fun j h h' st hk => ⟨st.1, st.2.1.at fun o e => hk it (by simp) o e, st.2.2.at fun o e => hk a (by simp) o e⟩
        item := fun j s Q E hj st q => absurd st.1 (Nat.ne_of_lt hj)
        done := fun s Q E st hE => wpAny_nextOf_tuple_end hh st.2.1 st.2.2 (by simp; omega) hE }
    exact wpAny_pyNext_enum_endD D he ⟨rfl, hit, p⟩ fun h' eb => ⟨rfl, I.turned (t' := s.toks) (fun b o hb q => eb b o hb q) f0 f1 f3 f4 f5⟩
  self := fun A i s Q E st h => wpAny_pyIter_enum st.1.choose_spec h
def iEnumT (K : PySem.W.Frag) (ta : TA) : TI := fun σ H R => ta σ H fun vs H1 => ∃ a, vs = [.ref a] ∧ (∃ xs, SqT K H1 a xs) ∧ R (IteT K a) H1
theorem q_iEnumT {K : PySem.W.Frag} {ta : TA} {σ : L2.St} {H : Hp} {R : It → Hp → Prop} : iEnumT K ta σ H R = ta σ H fun vs H1 => ∃ a, vs = [.ref a] ∧ (∃ xs, SqT K H1 a xs) ∧ R (IteT K a) H1 := rfl
theorem pi_enumT {X : Cx} {ex : Expr} {ta : TA} {p p1 p2 : Pos} {es : List Expr} {k : Nat} (hg : Gl X "enumerate") (hm : X.mg "enumerate" = none) (ha : PA X [ex] ta)
    (hs : starEach [ex] X.env = [(false, eval ex X.env)] := by rfl) : PI X (.Tuple es k p2) (.Call (.Name "enumerate" p) [ex] [] p1) (iEnumT X.K ta) := by
  refine ⟨fun pins s σ H R I h => ?_⟩
  refine Call_ (ld_blt I hg hm boot_enumerate (PyProof.Rows.callWith_type1 (thn (ha.run p1 pins s σ H _ I h) ?_) hs rfl))
  rintro us s1 ⟨vs, H1, I1, r1, a, rfl, ⟨xs, hq⟩, q⟩
  cases r1 with
  | cons r rr =>
    cases rr
    cases r
    obtain ⟨its, rv, pt, hz⟩ := I1.tuple hq
    have hal : a < s1.heap.objs.size := pt.lt
    refine enum_of_tuple pt fun h' he hit hk => wpAny_pyIter_enum he ?_
    have I2 : Inv X pins σ H1 { s1 with heap := h' } := I1.kept (t' := s1.toks) hk
    refine ⟨_, _, _, _, H1, rfl, I2, turn_enumT a (s1.heap.objs.size + 1) s1.heap.objs.size (Nat.ne_of_gt (Nat.lt_succ_of_lt hal)) (Nat.ne_of_lt hal), ⟨⟨.none, he⟩, hit, Nat.succ_ne_self _⟩, fun b hb => ?_, q⟩
    have hle : s1.heap.objs.size ≤ b := by
      rcases List.mem_cons.mp hb with rfl | hb
      · omega
      · cases List.mem_singleton.mp hb
        omega
    exact I1.fpOk hle (I1.hok.fresh hle)
theorem walk_enumT {K : PySem.W.Frag} {a : Addr} {xs : List V} : Walk (IteT K a) xs.length (fun H => SqT K H a xs) (YPair (fun i => some (.int (i : Nat))) (fun i => xs[i]?)) where
  goes := fun i _ hi q => ⟨xs, xs[i], q, List.getElem?_eq_getElem hi⟩
  stops := fun _ q => ⟨xs, q, Nat.le_refl _⟩
  yields := by
    rintro i H v H' _ q ⟨T, x, h1, h2, h3, h4⟩
    exact ⟨T, .int (i : Nat), x, h1, h2, h3, rfl, h4 xs q⟩

/-! min(list of ints, default=None) -/
def rMinD (K : PySem.W.Frag) : List V → List V → Hp → VK → Prop := fun vs zs H Q => ∃ (a : Addr) (ns : List Int), vs = [.ref a] ∧ zs = [.non] ∧ SqL K H a (ns.map V.int) ∧
  (ns = [] → Q .non H) ∧ (∀ n r, ns = n :: r → Q (.int (r.foldl min n)) H)
theorem dpAll_ints (K : PySem.W.Frag) (H : Hp) : ∀ ns : List Int, DpAll K H (ns.map V.int) (ns.map PyData.int)
  | [] => .nil
  | n :: r => .cons (.int n) (dpAll_ints K H r)
theorem depth_ints : ∀ ns : List Int, PyData.depthAll (ns.map PyData.int) = 0
  | [] => rfl
  | n :: r => by
    have e := depth_ints r
    simp only [List.map_cons, PyData.depthAll, PyData.depth, e]
    rfl
theorem alike_ints (ns : List Int) : PySem.W.AlikeAll (ns.map PyData.int) := by
  refine ⟨fun x hx y hy => ?_, fun x hx => ?_⟩
  · obtain ⟨i, _, rfl⟩ := List.mem_map.mp hx
    obtain ⟨j, _, rfl⟩ := List.mem_map.mp hy
    rfl
  · obtain ⟨i, _, rfl⟩ := List.mem_map.mp hx
    intro h
    cases h
theorem call_minD {X : Cx} (hc : X.calm = true) (hu : X.A.units + 64 < cLine) : CallRK X (.builtin "min") [Str.ofString "default"] (rMinD X.K) := by
  rintro pins s σ H xs zs us ws Q I r1 r2 ⟨a, ns, rfl, rfl, hs, h0, h1⟩
  obtain ⟨its, rv, hl, _⟩ := I.list hs
  cases r1 with
  | cons r rr =>
    cases rr
    cases r
    cases r2 with
    | cons q qq =>
      cases qq
      cases (show _ = Value.none from q)
      obtain ⟨as, hr⟩ := Dp.readsAll I _ _ _ (dpAll_ints X.K H ns) rv
      have hd : X.A.units + 1 + PyData.depthAll (ns.map PyData.int) < cLine := by
        rw [depth_ints]
        omega
      refine PySem.W.min_list_default (xs := ns.map PyData.int) (I.ok.hd hc) hl.isList hr (alike_ints ns) hd (fun e h' tk hk => ?_) (fun y ys i v h' tk bs e hv hrd hk => ?_)
      · have e0 : ns = [] := List.map_eq_nil_iff.mp e
        exact ⟨.non, H, I.kept hk, rfl, h0 e0⟩
      · cases ns with
        | nil => cases e
        | cons n r =>
          cases e
          rw [PySem.W.minD_ints] at hrd
          refine ⟨.int (r.foldl min n), H, I.kept hk, ?_, h1 n r rfl⟩
          cases hrd
          exact ⟨_, rfl⟩
end Hx

set_option Elab.async false
set_option linter.all false
set_option maxRecDepth 100000
set_option maxHeartbeats 4000000
namespace Hx
open PySem PySem.Spec PyProof.Rows L2
/-! A def of the text that stands behind the top; a def that keeps a promise, for its callers. -/
structure Here (K : PySem.W.Frag) (mg : Str → Option Value) (x : Str) (st : Stmt) : Prop where
  ex : ∃ (f : Addr) (fd : FuncData), Fun K x x st f fd ∧ mg x = some (.ref f)
structure Df (P : Program) (w : World) (K : PySem.W.Frag) (mg : Str → Option Value) (base : Heap) (CX : CXT) (x : Str) (k : Nat) (ps : List Str) (sp : Sp) : Prop where
  ex : ∃ (f : Addr) (fd : FuncData), FnOk P w K mg base CX k f fd ps sp ∧ mg x = some (.ref f) ∧ PySem.W.keepIn K (.ref f) = true ∧ Binds K fd ps []
section
variable {P : Program} {w : World} {K : PySem.W.Frag} {mg : Str → Option Value} {base : Heap}
theorem Here.df {x : Str} {st : Stmt} {N ps : List Str} {k : Nat} {sp : Sp} (T : Here K mg x st) (S : FnScope N ps (defScope st))
    (hb : ∀ (kV doc pm : Value) (an : Option Addr) (cdv ct : Value) (us : List Value), us.length = ps.length → bindArgs (PySem.W.fnOf x x (defArgs st) (defBody st) (defScope st) .none kV doc pm an cdv ct) ⟨us, []⟩ = pure (ps.zip us))
    (len : ∀ vs H Q E, sp vs H Q E → vs.length = ps.length)
    (body : ∀ (f : Addr) (cdv : Value) (A : Around) (outer : List Env) (s : Shared) (H : Hp) (vs : List V) (Q : VK) (E : XK), Room k (A.deeper (envOfC x (defScope st) s.heap.objs.size f cdv)) → sp vs H Q E →
      ∃ t, PSs (cxOf CX0 P w K mg base N x (defScope st) f cdv A outer s H E).nox (defBody st) t ∧ t { nx := fun _ H' => Q .non H', rt := Q } (L2.start N vs) H) :
    Df P w K mg base CX0 x (k + 1) ps sp := by
  obtain ⟨f, fd, F, g⟩ := T.ex
  exact ⟨f, fd, F.ok S len (body f), g, F.kp, F.binds hb⟩
end
section
variable {X : Cx} {x : Str} {k : Nat} {ps : List Str} {sp : Sp} {e : Expr} {es : List Expr} {p pos : Pos} {t : TA}
theorem Df.call (D : Df X.prog X.w X.K X.mg X.base CX0 x k ps sp) (hr : Room k X.A) (hg : Gl X x) (ha : PA X (e :: es) t) (hdb : (x == ("__debug__" : Str)) = false := by decide)
    (he : starEach (e :: es) X.env = (false, eval e X.env) :: starEach es X.env := by rfl) (hpl : (backTo pos (starEach es X.env)).any (·.1) = false := by rfl) : PE X (.Call (.Name x p) (e :: es) [] pos) (tCall sp [] E0 t) := by
  obtain ⟨f, fd, F, g, kp, b⟩ := D.ex
  exact pe_call F hr hg g kp b .nil pass0 ha hdb he hpl
theorem Df.call0 (D : Df X.prog X.w X.K X.mg X.base CX0 x k [] sp) (hr : Room k X.A) (hg : Gl X x) (hdb : (x == ("__debug__" : Str)) = false := by decide) : PE X (.Call (.Name x p) [] [] pos) (fun _ H Q => sp [] H Q E0) := by
  obtain ⟨f, fd, F, g, kp, b⟩ := D.ex
  exact pe_call0 F hr hg g kp b .nil pass0 hdb
theorem pe_gi {i : Int} (hg : Gl X x) (hm : ∃ u, X.mg x = some (.int i u)) (hd : (x == ("__debug__" : Str)) = false := by decide) : PE X (.Name x pos) (tC (.int i)) := by
  obtain ⟨u, h⟩ := hm
  exact pe_glob hg h ⟨_, rfl⟩ hd
end
/-! the rules that name the written part, with it given (a comprehension's block has the same) -/
section
variable {X : Cx} (K : PySem.W.Frag)
theorem ixT (h : X.K = K) : IxR X (rIxT K) := by subst h; exact ix_tup
theorem ixL (h : X.K = K) : IxR X (rIxL K) := by subst h; exact ix_list
theorem slA (h : X.K = K) : SlR X (rSlA K) := by subst h; exact sl_tupA
theorem slL (h : X.K = K) : SlR X (rSlL K) := by subst h; exact sl_list
theorem catA (h : X.K = K) : OpR X (binaryOp .Add) (rCatA K) := by subst h; exact op_catA
theorem eqD (h : X.K = K) (hu : X.A.units + 64 < cLine) : OpR X (compareOp .Eq) (rEqD K) := by subst h; exact op_eqD hu
theorem neD (h : X.K = K) (hu : X.A.units + 64 < cLine) : OpR X (compareOp .NotEq) (rNeD K) := by subst h; exact op_neD hu
theorem isi (h : X.K = K) : CallR X (.builtin "isinstance") (rIsi K) := by subst h; exact call_isi
theorem isiT (h : X.K = K) : CallR X (.builtin "isinstance") (rIsiT K) := by subst h; exact call_isiT
def rLen (K : PySem.W.Frag) : List V → Hp → VK → Prop := fun xs H Q => ∃ p ys, xs = [.ref p] ∧ (SqL K H p ys ∨ SqT K H p ys) ∧ Q (.int ys.length) H
theorem lenQ (h : X.K = K) : CallR X (.builtin "len") (rLen K) := by subst h; exact call_len_seq
def rListOf (K : PySem.W.Frag) : List V → Hp → VK → Prop := fun xs H Q => ∃ p ys, xs = [.ref p] ∧ (SqL K H p ys ∨ SqT K H p ys) ∧ ∀ l, H l = none → Q (.ref l) (upd H l (.lst ys))
theorem listOf (h : X.K = K) : CallR X (.type "list") (rListOf K) := by subst h; exact call_list_of
def rTupleOf (K : PySem.W.Frag) : List V → Hp → VK → Prop := fun xs H Q => ∃ p ys, xs = [.ref p] ∧ ((SqL K H p ys ∧ ∀ l, H l = none → Q (.ref l) (upd H l (.tup ys))) ∨ (SqT K H p ys ∧ Q (.ref p) H))
theorem tupleOf (h : X.K = K) : CallR X (.type "tuple") (rTupleOf K) := by subst h; exact call_tuple_of
theorem pgTup (h : X.K = K) {es : List Expr} {k : Nat} {t : TGs} {n : Nat} {pos : Pos} (hc : X.calm = true) (hp : PGs X es t)
    (hn : (assignEach es X.env).length = n := by rfl) (hst : (assignEach es X.env).findIdx? (·.1) = none := by rfl) : PG X (.Tuple es k pos) (gTup K n t) := by
  subst h; exact pg_tup hc hp hn hst
theorem piList (h : X.K = K) {tg l : Expr} {tl : TE} (hl : PE X l tl) : PI X tg l (iList K tl) := by subst h; exact pi_list hl
theorem piTup (h : X.K = K) {tg l : Expr} {tl : TE} (hl : PE X l tl) : PI X tg l (iTup K tl) := by subst h; exact pi_tup hl
theorem q_len {p : Addr} {H : Hp} {Q : VK} : rLen K [.ref p] H Q = ∃ ys, (SqL K H p ys ∨ SqT K H p ys) ∧ Q (.int ys.length) H := by
  apply propext; constructor
  · rintro ⟨_, ys, e, a, b⟩; cases e; exact ⟨ys, a, b⟩
  · rintro ⟨ys, a, b⟩; exact ⟨_, ys, rfl, a, b⟩
theorem q_listOf {p : Addr} {H : Hp} {Q : VK} : rListOf K [.ref p] H Q = ∃ ys, (SqL K H p ys ∨ SqT K H p ys) ∧ ∀ l, H l = none → Q (.ref l) (upd H l (.lst ys)) := by
  apply propext; constructor
  · rintro ⟨_, ys, e, a, b⟩; cases e; exact ⟨ys, a, b⟩
  · rintro ⟨ys, a, b⟩; exact ⟨_, ys, rfl, a, b⟩
theorem q_tupleOf {p : Addr} {H : Hp} {Q : VK} : rTupleOf K [.ref p] H Q = ∃ ys, ((SqL K H p ys ∧ ∀ l, H l = none → Q (.ref l) (upd H l (.tup ys))) ∨ (SqT K H p ys ∧ Q (.ref p) H)) := by
  apply propext; constructor
  · rintro ⟨_, ys, e, b⟩; cases e; exact ⟨ys, b⟩
  · rintro ⟨ys, b⟩; exact ⟨_, ys, rfl, b⟩
end
/-- the built-in names that the text leaves alone -/
structure Blt (mg : Str → Option Value) : Prop where
  len : mg "len" = none
  isinstance : mg "isinstance" = none
  int : mg "int" = none
  bool : mg "bool" = none
  tuple : mg "tuple" = none
  list : mg "list" = none
  range : mg "range" = none
  enumerate : mg "enumerate" = none
  zip : mg "zip" = none
  max : mg "max" = none
  min : mg "min" = none
/-! ### loops and comprehensions -/
section
variable {K : PySem.W.Frag} {J : It} {n : Nat} {G : Hp → Prop} {Y : Nat → Hp → V → Hp → Prop} {g : TG} {tb : TS} {D : Ends} {σ : L2.St} {H : Hp} {a b : Addr} {xs ys : List V}
theorem forW (wk : Walk J n G Y) (Pv : Nat → L2.St → Hp → Prop) (h0 : Pv 0 σ H) (hG : ∀ i σ H, i ≤ n → Pv i σ H → G H)
    (hs : ∀ i x σ H H', i < n → Pv i σ H → Y i H x H' → g x σ H' fun σ2 H2 => tb { D with nx := Pv (i + 1), ct := Pv (i + 1), bk := D.nx } σ2 H2) (hd : ∀ σ H, Pv n σ H → D.nx σ H) : ForW J g tb D σ H :=
  for_it wk Pv h0 hG hs hd
theorem forRange (Pv : Nat → L2.St → Hp → Prop) (h0 : Pv 0 σ H) (hs : ∀ (i : Nat) σ H, i < n → Pv i σ H → g (.int i) σ H fun σ2 H2 => tb { D with nx := Pv (i + 1), ct := Pv (i + 1), bk := D.nx } σ2 H2)
    (hd : ∀ σ H, Pv n σ H → D.nx σ H) : ForW (Itr 0 n) g tb D σ H :=
  forW walk_range Pv h0 (fun _ _ _ _ _ => trivial) (fun i x σ H H' hi p y => by
    obtain ⟨rfl, rfl⟩ := y
    have e0 : V.int (0 + (i : Int)) = V.int i := congrArg V.int (Int.zero_add _)
    show g (V.int (0 + (i : Int))) σ H' _
    rw [e0]
    exact hs i σ H' hi p) hd
theorem forTup (Pv : Nat → L2.St → Hp → Prop) (h0 : Pv 0 σ H) (hG : ∀ i σ H, i ≤ xs.length → Pv i σ H → SqT K H a xs)
    (hs : ∀ (i : Nat) x σ H, xs[i]? = some x → Pv i σ H → g x σ H fun σ2 H2 => tb { D with nx := Pv (i + 1), ct := Pv (i + 1), bk := D.nx } σ2 H2) (hd : ∀ σ H, Pv xs.length σ H → D.nx σ H) : ForW (Itt K a) g tb D σ H :=
  forW walk_tup Pv h0 hG (fun i x σ H H' _ p y => by
    obtain ⟨rfl, e⟩ := y
    exact hs i x σ H' e p) hd
theorem forList (Pv : Nat → L2.St → Hp → Prop) (h0 : Pv 0 σ H) (hG : ∀ i σ H, i ≤ xs.length → Pv i σ H → SqL K H a xs)
    (hs : ∀ (i : Nat) x σ H, xs[i]? = some x → Pv i σ H → g x σ H fun σ2 H2 => tb { D with nx := Pv (i + 1), ct := Pv (i + 1), bk := D.nx } σ2 H2) (hd : ∀ σ H, Pv xs.length σ H → D.nx σ H) : ForW (Itl K a) g tb D σ H :=
  forW walk_list Pv h0 hG (fun i x σ H H' _ p y => by
    obtain ⟨rfl, e⟩ := y
    exact hs i x σ H' e p) hd
theorem forEnumT (Pv : Nat → L2.St → Hp → Prop) (h0 : Pv 0 σ H) (hG : ∀ i σ H, i ≤ xs.length → Pv i σ H → SqT K H a xs)
    (hs : ∀ (i : Nat) x T σ H, xs[i]? = some x → Pv i σ H → H T = none → g (.ref T) σ (upd H T (.tup [.int i, x])) fun σ2 H2 => tb { D with nx := Pv (i + 1), ct := Pv (i + 1), bk := D.nx } σ2 H2)
    (hd : ∀ σ H, Pv xs.length σ H → D.nx σ H) : ForW (IteT K a) g tb D σ H :=
  forW walk_enumT Pv h0 hG (fun i x σ H H' _ p y => by
    obtain ⟨T, u, v, rfl, hT, rfl, e1, e2⟩ := y
    cases Option.some.inj e1
    exact hs i v T σ H e2 p hT) hd
theorem forEnumL (Pv : Nat → L2.St → Hp → Prop) (h0 : Pv 0 σ H) (hG : ∀ i σ H, i ≤ xs.length → Pv i σ H → SqL K H a xs)
    (hs : ∀ (i : Nat) x T σ H, xs[i]? = some x → Pv i σ H → H T = none → g (.ref T) σ (upd H T (.tup [.int i, x])) fun σ2 H2 => tb { D with nx := Pv (i + 1), ct := Pv (i + 1), bk := D.nx } σ2 H2)
    (hd : ∀ σ H, Pv xs.length σ H → D.nx σ H) : ForW (Ite K a) g tb D σ H :=
  forW walk_enum Pv h0 hG (fun i x σ H H' _ p y => by
    obtain ⟨T, u, v, rfl, hT, rfl, e1, e2⟩ := y
    cases Option.some.inj e1
    exact hs i v T σ H e2 p hT) hd
theorem walk_zipT (hn : n = min xs.length ys.length) : Walk (RZ.ItzT K a b) n (fun H => SqT K H a xs ∧ SqT K H b ys) (YPair (fun i => xs[i]?) (fun i => ys[i]?)) := by
  subst hn
  refine ⟨fun i _ hi q => ?_, fun _ q => ⟨xs, ys, q.1, q.2, by omega⟩, ?_⟩
  · have h1 : i < xs.length := Nat.lt_of_lt_of_le hi (Nat.min_le_left _ _)
    have h2 : i < ys.length := Nat.lt_of_lt_of_le hi (Nat.min_le_right _ _)
    exact ⟨xs, ys, _, _, q.1, q.2, List.getElem?_eq_getElem h1, List.getElem?_eq_getElem h2⟩
  · rintro i H v H' _ q ⟨T, x, z, h1, h2, h3, h4, h5⟩
    exact ⟨T, x, z, h1, h2, h3, h4 xs q.1, h5 ys q.2⟩
theorem forZipT (hl : xs.length = ys.length) (Pv : Nat → L2.St → Hp → Prop) (h0 : Pv 0 σ H) (hG : ∀ i σ H, i ≤ xs.length → Pv i σ H → SqT K H a xs ∧ SqT K H b ys)
    (hs : ∀ (i : Nat) x y T σ H, xs[i]? = some x → ys[i]? = some y → Pv i σ H → H T = none → g (.ref T) σ (upd H T (.tup [x, y])) fun σ2 H2 => tb { D with nx := Pv (i + 1), ct := Pv (i + 1), bk := D.nx } σ2 H2)
    (hd : ∀ σ H, Pv xs.length σ H → D.nx σ H) : ForW (RZ.ItzT K a b) g tb D σ H :=
  forW (walk_zipT (by rw [hl, Nat.min_self])) Pv h0 (fun i σ H hi p => hG i σ H (by omega) p) (fun i x σ H H' _ p y => by
    obtain ⟨T, u, v, rfl, hT, rfl, e1, e2⟩ := y
    exact hs i u v T σ H e1 e2 p hT) (fun σ H p => hd σ H (by rw [hl]; exact p))
variable {tt : TT} {te : TE} {vs : List Nat} {p : Addr} {Qd : Hp → Prop}
theorem lcW (wk : Walk J n G Y) (Pv : Nat → Hp → Prop) (h0 : Pv 0 (upd H p (.lst []))) (hG : ∀ i H, i ≤ n → Pv i H → G H)
    (hs : ∀ i x H H', i < n → Pv i H → Y i H x H' → g x (wipe σ vs) H' fun σ2 H2 => wipe σ2 vs = wipe σ vs ∧ tt σ2 H2 fun b H3 =>
      if b = true then te σ2 H3 fun y H4 => ∃ acc, H4 p = some (.lst acc) ∧ acc.length < sizeLine ∧ Pv (i + 1) (upd H4 p (.lst (acc ++ [y]))) else Pv (i + 1) H3) (hd : ∀ H, Pv n H → Qd H) : LcW J g tt te vs p σ H Qd :=
  lc_it wk Pv h0 hG hs hd
theorem lcRange (Pv : Nat → Hp → Prop) (h0 : Pv 0 (upd H p (.lst [])))
    (hs : ∀ (i : Nat) H, i < n → Pv i H → g (.int i) (wipe σ vs) H fun σ2 H2 => wipe σ2 vs = wipe σ vs ∧ tt σ2 H2 fun b H3 =>
      if b = true then te σ2 H3 fun y H4 => ∃ acc, H4 p = some (.lst acc) ∧ acc.length < sizeLine ∧ Pv (i + 1) (upd H4 p (.lst (acc ++ [y]))) else Pv (i + 1) H3) (hd : ∀ H, Pv n H → Qd H) : LcW (Itr 0 n) g tt te vs p σ H Qd :=
  lcW walk_range Pv h0 (fun _ _ _ _ => trivial) (fun i x H H' hi p y => by
    obtain ⟨rfl, rfl⟩ := y
    have e0 : V.int (0 + (i : Int)) = V.int i := congrArg V.int (Int.zero_add _)
    show g (V.int (0 + (i : Int))) (wipe σ vs) H' _
    rw [e0]
    exact hs i H' hi p) hd
theorem lcTup (Pv : Nat → Hp → Prop) (h0 : Pv 0 (upd H p (.lst []))) (hG : ∀ i H, i ≤ xs.length → Pv i H → SqT K H a xs)
    (hs : ∀ (i : Nat) x H, xs[i]? = some x → Pv i H → g x (wipe σ vs) H fun σ2 H2 => wipe σ2 vs = wipe σ vs ∧ tt σ2 H2 fun b H3 =>
      if b = true then te σ2 H3 fun y H4 => ∃ acc, H4 p = some (.lst acc) ∧ acc.length < sizeLine ∧ Pv (i + 1) (upd H4 p (.lst (acc ++ [y]))) else Pv (i + 1) H3) (hd : ∀ H, Pv xs.length H → Qd H) : LcW (Itt K a) g tt te vs p σ H Qd :=
  lcW walk_tup Pv h0 hG (fun i x H H' _ p y => by
    obtain ⟨rfl, e⟩ := y
    exact hs i x H' e p) hd
theorem lcList (Pv : Nat → Hp → Prop) (h0 : Pv 0 (upd H p (.lst []))) (hG : ∀ i H, i ≤ xs.length → Pv i H → SqL K H a xs)
    (hs : ∀ (i : Nat) x H, xs[i]? = some x → Pv i H → g x (wipe σ vs) H fun σ2 H2 => wipe σ2 vs = wipe σ vs ∧ tt σ2 H2 fun b H3 =>
      if b = true then te σ2 H3 fun y H4 => ∃ acc, H4 p = some (.lst acc) ∧ acc.length < sizeLine ∧ Pv (i + 1) (upd H4 p (.lst (acc ++ [y]))) else Pv (i + 1) H3) (hd : ∀ H, Pv xs.length H → Qd H) : LcW (Itl K a) g tt te vs p σ H Qd :=
  lcW walk_list Pv h0 hG (fun i x H H' _ p y => by
    obtain ⟨rfl, e⟩ := y
    exact hs i x H' e p) hd
theorem lcZipT (hl : xs.length = ys.length) (Pv : Nat → Hp → Prop) (h0 : Pv 0 (upd H p (.lst []))) (hG : ∀ i H, i ≤ xs.length → Pv i H → SqT K H a xs ∧ SqT K H b ys)
    (hs : ∀ (i : Nat) x y T H, xs[i]? = some x → ys[i]? = some y → Pv i H → H T = none → g (.ref T) (wipe σ vs) (upd H T (.tup [x, y])) fun σ2 H2 => wipe σ2 vs = wipe σ vs ∧ tt σ2 H2 fun b H3 =>
      if b = true then te σ2 H3 fun y H4 => ∃ acc, H4 p = some (.lst acc) ∧ acc.length < sizeLine ∧ Pv (i + 1) (upd H4 p (.lst (acc ++ [y]))) else Pv (i + 1) H3) (hd : ∀ H, Pv xs.length H → Qd H) : LcW (RZ.ItzT K a b) g tt te vs p σ H Qd :=
  lcW (walk_zipT (by rw [hl, Nat.min_self])) Pv h0 (fun i H hi p => hG i H (by omega) p) (fun i x H H' _ p y => by
    obtain ⟨T, u, v, rfl, hT, rfl, e1, e2⟩ := y
    exact hs i u v T H e1 e2 p hT) (fun H p => hd H (by rw [hl]; exact p))
end
/-! ### small facts for the readings -/
section
variable {K : PySem.W.Frag} {H H' : Hp} {Q : VK}
theorem cx_K {CX : CXT} {P : Program} {w : World} {K : PySem.W.Frag} {mg : Str → Option Value} {base : Heap} {N : List Str} {q : Str} {sc : Scope} {f : Addr} {cd : Value} {A : Around} {o : List Env} {s : Shared} {H : Hp} {E : XK} :
    (cxOf CX P w K mg base N q sc f cd A o s H E).K = K := rfl
theorem isi_yes {x : V} {a b : String} (ty : TyX K H x (.type a)) (e : kitB a b = some true) (q : Q (.bl true) H) : rIsi K [x, .ty b] H Q := ⟨_, _, _, _, _, rfl, .ty _, ty, kit_ty e, q⟩
theorem isi_no {x : V} {a b : String} (ty : TyX K H x (.type a)) (e : kitB a b = some false) (q : Q (.bl false) H) : rIsi K [x, .ty b] H Q := ⟨_, _, _, _, _, rfl, .ty _, ty, kit_ty e, q⟩
theorem isi_t {x : V} {a b : String} {r : Bool} (ty : TyX K H x (.type a)) (e : kitB a b = some r) (q : Q (.bl r) H) : rIsi K [x, .ty b] H Q := ⟨_, _, _, _, _, rfl, .ty _, ty, kit_ty e, q⟩
theorem tyx_tup {a : Addr} {xs : List V} (h : SqT K H a xs) : TyX K H (.ref a) (.type "tuple") := by
  rcases h with (h | ⟨o, h⟩) | ⟨o, its, n, h, c, _⟩
  · exact .base (.tup h)
  · exact .fTuple h
  · exact .kTuple h c
theorem tyx_lst {a : Addr} {xs : List V} (h : SqL K H a xs) : TyX K H (.ref a) (.type "list") := by
  rcases h with (h | ⟨o, h⟩) | ⟨o, its, n, h, c, _⟩
  · exact .base (.lst h)
  · exact .base (.frz h)
  · exact .kList h c
theorem sqt_same {a : Addr} {xs : List V} (e : Same H H') (h : SqT K H a xs) : SqT K H' a xs := by
  rcases h with (h | ⟨o, h⟩) | h
  · exact .inl (.inl (e _ _ h))
  · exact .inl (.inr ⟨o, e _ _ h⟩)
  · exact .inr h
theorem same_upd {p : Addr} {o : HO} (h : H p = none) : Same H (upd H p o) := fun b x e => by
  rw [upd_ne (ne_of_none e h)]
  exact e
/-- all that was tracked but what stands at a is as it was -/
def But (a : Addr) (H H' : Hp) : Prop := ∀ b o, b ≠ a → H b = some o → H' b = some o
theorem But.refl (a : Addr) (H : Hp) : But a H H := fun _ _ _ h => h
theorem But.trans {a : Addr} {H1 : Hp} (x : But a H H1) (y : But a H1 H') : But a H H' := fun b o n h => y b o n (x b o n h)
theorem same_but {a : Addr} (x : Same H H') : But a H H' := fun b o _ h => x b o h
theorem but_upd {a : Addr} {o : HO} : But a H (upd H a o) := fun b u n h => by
  rw [upd_ne n]
  exact h
theorem sqt_but {a b : Addr} {xs ys : List V} (e : But a H H') (ha : H a = some (.lst ys)) (h : SqT K H b xs) : SqT K H' b xs := by
  rcases h with (h | ⟨o, h⟩) | h
  · exact .inl (.inl (e _ _ (ne_of h ha (fun q => by cases q)) h))
  · exact .inl (.inr ⟨o, e _ _ (ne_of h ha (fun q => by cases q)) h⟩)
  · exact .inr h
theorem But.none_of {a p : Addr} (e : But a H H') (h : H' p = none) (n : p ≠ a) : H p = none := by
  cases q : H p with
  | none => rfl
  | some o =>
    rw [e p o n q] at h
    cases h
end
end Hx

set_option Elab.async false
set_option linter.all false
set_option maxRecDepth 100000
set_option maxHeartbeats 4000000
/-! zip of a list and a tuple -/
namespace Hx
open PySem PySem.Spec PyProof.Rows L2
def ItM (K : PySem.W.Frag) (a b : Addr) (xs ys : List V) : It where
  go := fun i H => SqL K H a xs ∧ SqT K H b ys ∧ i < xs.length ∧ i < ys.length
  yld := fun i H v H' => ∃ T x y, v = .ref T ∧ H T = none ∧ H' = upd H T (.tup [x, y]) ∧ xs[i]? = some x ∧ ys[i]? = some y
  stop := fun i H => SqL K H a xs ∧ SqT K H b ys ∧ i = xs.length ∧ i = ys.length
theorem turn_zipM {P : Program} {w : World} {K : PySem.W.Frag} {es : List Expr} {k : Nat} {ps : Pos} {xs ys : List V} {a b z TI TO i1 i2 : Addr} (S : ZipSep2 z TI TO i1 i2 [i1, a] [i2, b]) (h1a : a ≠ i1) (h2b : b ≠ i2) :
    Turn P w K (.Tuple es k ps) (ItM K a b xs ys) [z, TI, TO, i1, i2] z fun i h => IsZip h z TI TO .none ∧ IsTupOf2 h TI (.ref i1) (.ref i2) ∧ (∃ a1 a2, IsTupOf2 h TO a1 a2) ∧ h.IsListIter i1 a i ∧ h.IsTupleIter i2 b i where
  mem := List.mem_cons_self
  obj := by
    rintro i h ⟨hz, hTI, ⟨x, y, hTO⟩, ⟨o1, e1, _, d1⟩, ⟨o2, e2, _, d2⟩⟩ c hc
    simp only [List.mem_cons, List.not_mem_nil, or_false] at hc
    rcases hc with rfl | rfl | rfl | rfl | rfl
    · exact ⟨_, hz, fun v q => nomatch q⟩
    · exact ⟨_, hTI, fun v q => nomatch q⟩
    · exact ⟨_, hTO, fun v q => nomatch q⟩
    · exact ⟨o1, e1, fun v q => by rw [d1] at q; cases q⟩
    · exact ⟨o2, e2, fun v q => by rw [d2] at q; cases q⟩
  keep := by
    rintro i h h' ⟨hz, hTI, ⟨x, y, hTO⟩, g1, g2⟩ kk
    exact ⟨kk z (by simp) _ hz, kk TI (by simp) _ hTI, ⟨x, y, kk TO (by simp) _ hTO⟩, g1.at fun o q => kk i1 (by simp) o q, g2.at fun o q => kk i2 (by simp) o q⟩
  item := by
    rintro X rfl rfl rfl hc i pins s σ H E I hf ⟨hz, hTI, ⟨x0, y0, hTO⟩, g1, g2⟩ ⟨hq1, hq2, hi1, hi2⟩
    obtain ⟨its1, rv1, p1, _⟩ := I.list hq1
    obtain ⟨its2, rv2, p2, _⟩ := I.tuple hq2
    obtain ⟨u1, hu1, ru1⟩ := rv1.get (List.getElem?_eq_getElem hi1)
    obtain ⟨u2, hu2, ru2⟩ := rv2.get (List.getElem?_eq_getElem hi2)
    have l1 := rv1.length
    have l2 := rv2.length
    have hh : X.A.in1.handled = none := I.ok.hd hc
    have hzl : z < s.heap.objs.size := Heap.lt_size hz
    refine wpAny_pyNext_zipD2_item S (Draws.list hh i1 a h1a its1.toArray) (Draws.tuple hh i2 b h2b its2.toArray) hz hTI hTO ⟨g1, p1.isList⟩ ⟨g2, p2⟩ (by simp; omega) (by simp; omega) fun v1 v2 h' tk e1 e2 z' TO' g1' g2' hT hsz hk => ?_
    have f1 : v1 = u1 := by
      have q : its1[i]? = some v1 := by simpa using e1
      rw [hu1] at q
      exact (Option.some.inj q).symm
    have f2 : v2 = u2 := by
      have q : its2[i]? = some v2 := by simpa using e2
      rw [hu2] at q
      exact (Option.some.inj q).symm
    subst f1 f2
    refine ⟨_, rfl, wpAny_letOwnedTupleGo_zip (s := { s with heap := h', toks := tk }) z' fun h2 z2 sb => ?_⟩
    have hT2 : h2.get? s.heap.objs.size = some { cls := .type "tuple", data := .seq #[v1, v2] } := (sb.2 _ (Nat.ne_of_gt hzl)).trans hT
    have new : ObjOk X.prog X.w (upd H s.heap.objs.size (.tup [xs[i], ys[i]])) h2 s.heap.objs.size (.tup [xs[i], ys[i]]) := by
      refine ⟨?_, [v1, v2], .cons ru1 (.cons ru2 .nil), ⟨_, hT2, rfl, _, rfl⟩⟩
      show 2 ≤ sizeLine
      decide
    have kp : ∀ c o, c ∉ [z, TI, TO, i1, i2] → s.heap.get? c = some o → h2.get? c = some o := fun c o hc q => by
      simp only [List.mem_cons, List.not_mem_nil, or_false, not_or] at hc
      exact (sb.2 c hc.1).trans (hk c o hc.1 hc.2.2.1 hc.2.2.2.1 hc.2.2.2.2 q)
    have J := I.turnedNew (t' := tk) kp hf (Nat.le_refl _) new
    refine ⟨.ref s.heap.objs.size, _, J, rfl, ⟨_, _, _, rfl, I.hok.fresh (Nat.le_refl _), rfl, List.getElem?_eq_getElem hi1, List.getElem?_eq_getElem hi2⟩, ⟨z2, ?_, ⟨v1, v2, ?_⟩, ?_, ?_⟩, fun c hcm => ?_⟩
    · exact (sb.2 _ S.TIz).trans (hk _ _ S.TIz S.TITO S.TIi1 S.TIi2 hTI)
    · exact (sb.2 _ S.TOz).trans TO'
    · exact g1'.1.at fun o q => (sb.2 _ (fun e => S.zf1 (by simp [e]))).trans q
    · exact g2'.1.at fun o q => (sb.2 _ (fun e => S.zf2 (by simp [e]))).trans q
    · have hlt : c < s.heap.objs.size := by
        have hcm' := hcm
        simp only [List.mem_cons, List.not_mem_nil, or_false] at hcm'
        rcases hcm' with rfl | rfl | rfl | rfl | rfl
        · exact hzl
        · exact Heap.lt_size hTI
        · exact Heap.lt_size hTO
        · obtain ⟨_, q, _⟩ := g1
          exact Heap.lt_size q
        · obtain ⟨_, q, _⟩ := g2
          exact Heap.lt_size q
      rw [upd_ne (Nat.ne_of_lt hlt)]
      exact (hf c hcm).1
  done := by
    rintro X rfl rfl rfl hc i pins s σ H E I hf ⟨hz, hTI, ⟨x0, y0, hTO⟩, g1, g2⟩ ⟨hq1, hq2, hi1, hi2⟩
    obtain ⟨its1, rv1, p1, _⟩ := I.list hq1
    obtain ⟨its2, rv2, p2, _⟩ := I.tuple hq2
    have l1 := rv1.length
    have l2 := rv2.length
    have hh : X.A.in1.handled = none := I.ok.hd hc
    refine wpAny_pyNext_zipD2_end S (Draws.list hh i1 a h1a its1.toArray) (Draws.tuple hh i2 b h2b its2.toArray) hz hTI hTO ⟨g1, p1.isList⟩ ⟨g2, p2⟩ (by simp; omega) (by simp; omega) (.inl (by simp; omega)) fun h' tk hk => ⟨rfl, ?_⟩
    exact I.turnedL (t' := tk) (ch := [z, TI, TO, i1, i2]) (fun c o hb q => by
      simp only [List.mem_cons, List.not_mem_nil, or_false, not_or] at hb
      exact hk c o hb.1 hb.2.2.1 hb.2.2.2.1 hb.2.2.2.2 q) hf
  self := fun A i s Q E st h => wpAny_pyIter_zip st.1 h
def iZipM (K : PySem.W.Frag) (ta : TA) : TI := fun σ H R => ta σ H fun vs H1 => ∃ a b xs ys, vs = [.ref a, .ref b] ∧ SqL K H1 a xs ∧ SqT K H1 b ys ∧ R (ItM K a b xs ys) H1
theorem q_iZipM {K : PySem.W.Frag} {ta : TA} {σ : L2.St} {H : Hp} {R : It → Hp → Prop} : iZipM K ta σ H R = ta σ H fun vs H1 => ∃ a b xs ys, vs = [.ref a, .ref b] ∧ SqL K H1 a xs ∧ SqT K H1 b ys ∧ R (ItM K a b xs ys) H1 := rfl
theorem pi_zipM {X : Cx} {e e2 : Expr} {ta : TA} {p pos tpos : Pos} {es : List Expr} {kk : Nat} (hg : Gl X "zip") (hm : X.mg "zip" = none) (ha : PA X [e, e2] ta)
    (hs : starEach [e, e2] X.env = (false, eval e X.env) :: starEach [e2] X.env := by rfl) (hpl : (backTo pos (starEach [e2] X.env)).any (·.1) = false := by rfl) :
    PI X (.Tuple es kk tpos) (.Call (.Name "zip" p) [e, e2] [] pos) (iZipM X.K ta) := by
  refine ⟨fun pins s σ H R I h => ?_⟩
  refine Call_ (ld_blt I hg hm PyProof.Rows.boot_zip (PyProof.Rows.callWith_type1 (thn (ha.run pos pins s σ H _ I h) ?_) hs hpl))
  rintro us s1 ⟨vs, H1, I1, r1, a, b, xs, ys, rfl, hq1, hq2, q⟩
  cases r1 with
  | cons r rr =>
    cases rr with
    | cons r' rr =>
      cases rr
      cases r
      cases r'
      obtain ⟨its1, rv1, p1, _⟩ := I1.list hq1
      obtain ⟨its2, rv2, p2, _⟩ := I1.tuple hq2
      have la : a < s1.heap.objs.size := p1.lt
      have lb : b < s1.heap.objs.size := p2.lt
      refine zip_begins2 (begins_list a its1.toArray) (begins_tuple b its2.toArray) p1.isList p2 fun h' hz hTI hTO h1 h2 hsz hk => wpAny_pyIter_zip hz ?_
      have I2 : Inv X pins σ H1 { s1 with heap := h' } := I1.kept (t' := s1.toks) hk
      have S : ZipSep2 (s1.heap.objs.size + 4) (s1.heap.objs.size + 2) (s1.heap.objs.size + 3) s1.heap.objs.size (s1.heap.objs.size + 1) [s1.heap.objs.size, a] [s1.heap.objs.size + 1, b] :=
        zip_sep2 (fun c hc => by cases List.mem_singleton.mp hc; exact la) (fun c hc => by cases List.mem_singleton.mp hc; exact lb)
      refine ⟨_, _, _, _, H1, rfl, I2, turn_zipM S (Nat.ne_of_lt la) (Nat.ne_of_lt (Nat.lt_succ_of_lt lb)), ⟨hz, hTI, ⟨_, _, hTO⟩, ⟨_, h1, rfl, rfl⟩, ⟨_, h2, rfl, rfl⟩⟩, fun c hc => ?_, q⟩
      have hle : s1.heap.objs.size ≤ c := by
        simp only [List.mem_cons, List.not_mem_nil, or_false] at hc
        rcases hc with rfl | rfl | rfl | rfl | rfl
        · exact Nat.le_add_right _ _
        · exact Nat.le_add_right _ _
        · exact Nat.le_add_right _ _
        · exact Nat.le_refl _
        · exact Nat.le_add_right _ _
      exact I1.fpOk hle (I1.hok.fresh hle)
theorem piZipM {X : Cx} (K : PySem.W.Frag) (h : X.K = K) {e e2 : Expr} {ta : TA} {p pos tpos : Pos} {es : List Expr} {kk : Nat} (hg : Gl X "zip") (hm : X.mg "zip" = none) (ha : PA X [e, e2] ta)
    (hs : starEach [e, e2] X.env = (false, eval e X.env) :: starEach [e2] X.env := by rfl) (hpl : (backTo pos (starEach [e2] X.env)).any (·.1) = false := by rfl) :
    PI X (.Tuple es kk tpos) (.Call (.Name "zip" p) [e, e2] [] pos) (iZipM K ta) := by
  subst h
  exact pi_zipM hg hm ha hs hpl
theorem walk_zipM {K : PySem.W.Frag} {a b : Addr} {xs ys : List V} (hl : xs.length = ys.length) : Walk (ItM K a b xs ys) xs.length (fun H => SqL K H a xs ∧ SqT K H b ys) (YPair (fun i => xs[i]?) (fun i => ys[i]?)) where
  goes := fun i _ hi q => ⟨q.1, q.2, hi, by omega⟩
  stops := fun _ q => ⟨q.1, q.2, rfl, hl⟩
  yields := by
    rintro i H v H' _ q ⟨T, x, y, h1, h2, h3, h4, h5⟩
    exact ⟨T, x, y, h1, h2, h3, h4, h5⟩
theorem forZipM {K : PySem.W.Frag} {g : TG} {tb : TS} {D : Ends} {σ : L2.St} {H : Hp} {a b : Addr} {xs ys : List V} (hl : xs.length = ys.length) (Pv : Nat → L2.St → Hp → Prop) (h0 : Pv 0 σ H) (hG : ∀ i σ H, i ≤ xs.length → Pv i σ H → SqL K H a xs ∧ SqT K H b ys)
    (hs : ∀ (i : Nat) x y T σ H, xs[i]? = some x → ys[i]? = some y → Pv i σ H → H T = none → g (.ref T) σ (upd H T (.tup [x, y])) fun σ2 H2 => tb { D with nx := Pv (i + 1), ct := Pv (i + 1), bk := D.nx } σ2 H2)
    (hd : ∀ σ H, Pv xs.length σ H → D.nx σ H) : ForW (ItM K a b xs ys) g tb D σ H :=
  forW (walk_zipM hl) Pv h0 hG (fun i x σ H H' _ p y => by
    obtain ⟨T, u, v, rfl, hT, rfl, e1, e2⟩ := y
    exact hs i u v T σ H e1 e2 p hT) hd
/-- min(xs) of a list of ints that is not empty -/
theorem minQ {X : Cx} (K : PySem.W.Frag) (h : X.K = K) (hc : X.calm = true) : CallR X (.builtin "min") (rMin K) := by subst h; exact cr_min hc
theorem minDQ {X : Cx} (K : PySem.W.Frag) (h : X.K = K) (hc : X.calm = true) (hu : X.A.units + 64 < cLine) : CallRK X (.builtin "min") [Str.ofString "default"] (rMinD K) := by subst h; exact call_minD hc hu
end Hx

set_option Elab.async false
set_option linter.all false
set_option maxRecDepth 100000
set_option maxHeartbeats 4000000
/-! list(zip(t, u)) of two tuples -/
namespace Hx
open PySem PySem.Spec PyProof.Rows L2
section
variable {prog : Program} {w : World} {A : Around} {E : Value → Shared → Prop} {s : Shared}
variable {z TI TO i1 i2 a b : Addr} {xs ys : Array Value}
theorem zh_item {T : Addr} {f : Bool} {oT : Obj} {k : Nat} {x y : Value} {Q : Option Value → Shared → Prop} (D : ZipApart z TI TO i1 i2 a b) (hz : IsZipHeld s.heap z TI TO T f) (hT : s.heap.get? T = some oT) (hTI : IsPair s.heap TI (.ref i1) (.ref i2))
    (h1 : s.heap.IsTupleIter i1 a k) (h2 : s.heap.IsTupleIter i2 b k) (ha : s.heap.IsTuple a xs) (hb : s.heap.IsTuple b ys) (hx : xs[k]? = some x) (hy : ys[k]? = some y)
    (hQ : ∀ h', IsZipHeld h' z TI TO T true → h'.IsTupleIter i1 a (k + 1) → h'.IsTupleIter i2 b (k + 1) → IsPair h' s.heap.objs.size x y → h'.objs.size = s.heap.objs.size + 1 →
      (∀ c o, c ≠ z → c ≠ i1 → c ≠ i2 → s.heap.get? c = some o → h'.get? c = some o) → Q (some (.ref s.heap.objs.size)) { s with heap := h' }) : wpAny (model prog w) A (pyNext (.ref z)) Q E s := by
  have hTy : s.TypeIs (.ref z) "zip" := ⟨_, hz, rfl⟩
  unfold pyNext
  refine wpAny_bind (wpAny_attempt (wpAny_callSpecial?_slot (name := Str.ofString "__next__") hTy F.slot_zip_next (wpAny_call_entry F.slot_zip_next hTy F.entry_zip_next ?_ (F.args_zip_next_1 _))))
  show wpAny _ _ (field (.ref z) 2 >>= _) _ _ _
  refine wpAny_bind (wpAny_field hz rfl (x := .bool false) rfl ?_)
  show wpAny _ _ (field (.ref z) 3 >>= _) _ _ _
  refine wpAny_bind (wpAny_field hz rfl (x := .ref TI) rfl ?_)
  refine wpAny_bind (wpAny_seqItems hTI rfl ?_)
  show wpAny _ _ (Builtin.SmallTypes.ownedTupleIsFree (.ref z) >>= _) _ _ _
  refine wpAny_bind (wpAny_tupleHeld_zip hz hT fun g1 z1 c1 => ?_)
  simp only [Bool.false_eq_true, if_false]
  refine wpAny_bind ?_
  rw [← Array.forIn_toList]
  simp only [List.forIn_cons, List.forIn_nil]
  refine wpAny_bind (wpAny_bind (wpAny_holding ?_))
  show wpAny _ _ (Builtin.SmallTypes.nextOf (.ref i1) >>= _) _ _ _
  have e1 := c1.extBut
  refine wpAny_bind (wpAny_nextOf_tuple_item (s := { s with heap := g1 }) (h1.extBut e1 D.i1z) (ha.extBut e1 D.l1z) hx fun g2 j2 c2 => wpAny_pure ?_)
  refine wpAny_pure ?_
  refine wpAny_bind (wpAny_bind (wpAny_holding ?_))
  show wpAny _ _ (Builtin.SmallTypes.nextOf (.ref i2) >>= _) _ _ _
  have e2 := c2.extBut
  refine wpAny_bind (wpAny_nextOf_tuple_item (s := { s with heap := g2 }) ((h2.extBut e1 D.i2z).extBut e2 D.i12.symm) ((hb.extBut e1 D.l2z).extBut e2 D.l2i1) hy fun g3 j3 c3 => wpAny_pure ?_)
  refine wpAny_pure (wpAny_pure ?_)
  show wpAny _ _ (newTuple [x, y] >>= _) _ _ _
  refine wpAny_bind (wpAny_newTuple ?_)
  have e3 := c3.extBut
  have sz : g3.objs.size = s.heap.objs.size := by rw [c3.1, c2.1, c1.1]
  have z3 : IsZipHeld g3 z TI TO T true := e3 _ _ D.i2z.symm (e2 _ _ D.i1z.symm z1)
  have kp : ∀ c o, c ≠ z → c ≠ i1 → c ≠ i2 → s.heap.get? c = some o → g3.get? c = some o := fun c o n1 n2 n3 e => e3 _ _ n3 (e2 _ _ n2 (e1 _ _ n1 e))
  have j2' : g3.IsTupleIter i1 a (k + 1) := j2.extBut e3 D.i12
  refine wpAny_pure ⟨_, rfl, wpAny_pure ?_⟩
  show Q (some (.ref g3.objs.size)) _
  generalize hto : ({ cls := .type "tuple", data := .seq #[x, y] } : Obj) = to
  have hp : (g3.push to).get? g3.objs.size = some to := Heap.get?_push_size _ (by rw [← hto]; rfl)
  have hs4 : (g3.push to).objs.size = g3.objs.size + 1 := Heap.size_push ..
  rw [sz] at hp hs4 ⊢
  refine hQ _ (Heap.get?_push_of_some _ z3) (j2'.at fun o e => Heap.get?_push_of_some _ e) (j3.at fun o e => Heap.get?_push_of_some _ e) ?_ hs4 fun c o n1 n2 n3 e => Heap.get?_push_of_some _ (kp c o n1 n2 n3 e)
  exact hp.trans (congrArg some hto.symm)
theorem zh_end {T : Addr} {f : Bool} {oT : Obj} {k : Nat} {Q : Option Value → Shared → Prop} (hh : A.handled = none) (D : ZipApart z TI TO i1 i2 a b) (hz : IsZipHeld s.heap z TI TO T f) (hT : s.heap.get? T = some oT) (hTI : IsPair s.heap TI (.ref i1) (.ref i2))
    (h1 : s.heap.IsTupleIter i1 a k) (ha : s.heap.IsTuple a xs) (hx : xs[k]? = none)
    (hQ : ∀ h', (∀ c o, c ≠ z → c ≠ i1 → c ≠ i2 → s.heap.get? c = some o → h'.get? c = some o) → Q none { s with heap := h' }) : wpAny (model prog w) A (pyNext (.ref z)) Q E s := by
  have hTy : s.TypeIs (.ref z) "zip" := ⟨_, hz, rfl⟩
  unfold pyNext
  refine wpAny_bind (wpAny_attempt (wpAny_callSpecial?_slot (name := Str.ofString "__next__") hTy F.slot_zip_next (wpAny_call_entry F.slot_zip_next hTy F.entry_zip_next ?_ (F.args_zip_next_1 _))))
  show wpAny _ _ (field (.ref z) 2 >>= _) _ _ _
  refine wpAny_bind (wpAny_field hz rfl (x := .bool false) rfl ?_)
  show wpAny _ _ (field (.ref z) 3 >>= _) _ _ _
  refine wpAny_bind (wpAny_field hz rfl (x := .ref TI) rfl ?_)
  refine wpAny_bind (wpAny_seqItems hTI rfl ?_)
  show wpAny _ _ (Builtin.SmallTypes.ownedTupleIsFree (.ref z) >>= _) _ _ _
  refine wpAny_bind (wpAny_tupleHeld_zip hz hT fun g1 z1 c1 => ?_)
  simp only [Bool.false_eq_true, if_false]
  refine wpAny_bind ?_
  rw [← Array.forIn_toList]
  simp only [List.forIn_cons, List.forIn_nil]
  refine wpAny_bind (wpAny_bind (wpAny_holding ?_))
  show wpAny _ _ (Builtin.SmallTypes.nextOf (.ref i1) >>= _) _ _ _
  have e1 := c1.extBut
  refine wpAny_bind (wpAny_nextOf_tuple_end (s := { s with heap := g1 }) hh (h1.extBut e1 D.i1z) (ha.extBut e1 D.l1z) hx fun g2 e c2 he => ?_)
  obtain ⟨o, ho, hc⟩ := he
  refine wpAny_bind (wpAny_isInstance (T := "StopIteration") (b := true) ⟨o, ho, hc⟩ isSubtype_stop ?_)
  exact wpAny_pure (hQ _ fun c o n1 n2 _ q => c2 _ _ n2 (e1 _ _ n1 q))
/-- a zip that is walked with its pairs kept: fresh, or its last pair stands at T -/
def ZS (h : Heap) (z TI TO : Addr) : Prop := (IsZip h z TI TO .none ∧ ∃ x y, IsPair h TO x y) ∨ ∃ T f oT, IsZipHeld h z TI TO T f ∧ h.get? T = some oT ∧ T ≠ z
theorem zs_item {k : Nat} {x y : Value} {Q : Option Value → Shared → Prop} (D : ZipApart z TI TO i1 i2 a b) (hz : ZS s.heap z TI TO) (hTI : IsPair s.heap TI (.ref i1) (.ref i2))
    (h1 : s.heap.IsTupleIter i1 a k) (h2 : s.heap.IsTupleIter i2 b k) (ha : s.heap.IsTuple a xs) (hb : s.heap.IsTuple b ys) (hx : xs[k]? = some x) (hy : ys[k]? = some y)
    (hQ : ∀ h', ZS h' z TI TO → h'.IsTupleIter i1 a (k + 1) → h'.IsTupleIter i2 b (k + 1) → IsPair h' s.heap.objs.size x y →
      (∀ c o, c ≠ z → c ≠ TO → c ≠ i1 → c ≠ i2 → s.heap.get? c = some o → h'.get? c = some o) → Q (some (.ref s.heap.objs.size)) { s with heap := h' }) : wpAny (model prog w) A (pyNext (.ref z)) Q E s := by
  rcases hz with ⟨hz, x0, y0, hTO⟩ | ⟨T, f, oT, hz, hT, hn⟩
  · refine RZ.pyNext_zipT_item D hz hTI hTO h1 h2 ha hb hx hy fun h' a1 a2 a3 a4 a5 a6 a7 => hQ h' (.inr ⟨s.heap.objs.size, false, _, a1, a5, Nat.ne_of_gt (Heap.lt_size hz)⟩) a3 a4 a5 a7
  · refine zh_item D hz hT hTI h1 h2 ha hb hx hy fun h' a1 a3 a4 a5 a6 a7 => hQ h' (.inr ⟨T, true, ?_⟩) a3 a4 a5 fun c o n1 _ n3 n4 e => a7 c o n1 n3 n4 e
    by_cases t1 : T = i1
    · obtain ⟨o, ho, _⟩ := id a3
      exact ⟨o, a1, by rw [t1]; exact ho, hn⟩
    · by_cases t2 : T = i2
      · obtain ⟨o, ho, _⟩ := id a4
        exact ⟨o, a1, by rw [t2]; exact ho, hn⟩
      · exact ⟨oT, a1, a7 T _ hn t1 t2 hT, hn⟩
theorem zs_end {k : Nat} {Q : Option Value → Shared → Prop} (hh : A.handled = none) (D : ZipApart z TI TO i1 i2 a b) (hz : ZS s.heap z TI TO) (hTI : IsPair s.heap TI (.ref i1) (.ref i2))
    (h1 : s.heap.IsTupleIter i1 a k) (h2 : s.heap.IsTupleIter i2 b k) (ha : s.heap.IsTuple a xs) (hb : s.heap.IsTuple b ys) (hx : xs[k]? = none)
    (hQ : ∀ h', (∀ c o, c ≠ z → c ≠ TO → c ≠ i1 → c ≠ i2 → s.heap.get? c = some o → h'.get? c = some o) → Q none { s with heap := h' }) : wpAny (model prog w) A (pyNext (.ref z)) Q E s := by
  rcases hz with ⟨hz, x0, y0, hTO⟩ | ⟨T, f, oT, hz, hT, hn⟩
  · exact RZ.pyNext_zipT_end hh D hz hTI hTO h1 h2 ha hb (.inl hx) hQ
  · exact zh_end hh D hz hT hTI h1 ha hx fun h' k => hQ h' fun c o n1 _ n3 n4 e => k c o n1 n3 n4 e
end
end Hx

set_option Elab.async false
set_option linter.all false
set_option maxRecDepth 100000
set_option maxHeartbeats 4000000
/-! list(zip(t, u)): the walk, the list, the reading -/
namespace Hx
open PySem PySem.Calls PySem.Spec PyProof.Rows L2
theorem zl_nolen : typeLookup (.type "zip") "__len__" = pure none := by rw [typeLookup_type, builtinLookup_eq_fast]; kernel_rfl
theorem zl_nohint : typeLookup (.type "zip") "__length_hint__" = pure none := by rw [typeLookup_type, builtinLookup_eq_fast]; kernel_rfl
/-- the pairs made so far, rising above lo -/
structure ZG (xs ys : Array Value) (lo : Addr) (h : Heap) (as : List Addr) : Prop where
  up : as.Pairwise (· < ·)
  hi : ∀ a ∈ as, lo < a
  at' : ∀ (j : Nat) (a : Addr), as[j]? = some a → ∃ x y, xs[j]? = some x ∧ ys[j]? = some y ∧ IsPair h a x y
theorem ZG.lt {xs ys : Array Value} {lo : Addr} {h : Heap} {as : List Addr} (g : ZG xs ys lo h as) {a : Addr} (ha : a ∈ as) : a < h.objs.size := by
  obtain ⟨j, hj⟩ := List.mem_iff_getElem?.mp ha
  obtain ⟨_, _, _, _, e⟩ := g.at' j a hj
  exact Heap.lt_size e
theorem ZG.keep {xs ys : Array Value} {lo : Addr} {h h' : Heap} {as : List Addr} (g : ZG xs ys lo h as) (k : ∀ b o, lo < b → h.get? b = some o → h'.get? b = some o) : ZG xs ys lo h' as :=
  ⟨g.up, g.hi, fun j a hj => let ⟨x, y, e1, e2, e3⟩ := g.at' j a hj; ⟨x, y, e1, e2, k a _ (g.hi a (List.mem_of_getElem? hj)) e3⟩⟩
theorem ZG.low {xs ys : Array Value} {lo lo' : Addr} {h : Heap} {as : List Addr} (g : ZG xs ys lo h as) (hl : lo' ≤ lo) : ZG xs ys lo' h as := ⟨g.up, fun a ha => Nat.lt_of_le_of_lt hl (g.hi a ha), g.at'⟩
theorem ZG.snoc {xs ys : Array Value} {lo : Addr} {h : Heap} {as : List Addr} {x y : Value} {b : Addr} (g : ZG xs ys lo h as) (hb : ∀ a ∈ as, a < b) (hl : lo < b) (hx : xs[as.length]? = some x) (hy : ys[as.length]? = some y) (hp : IsPair h b x y) : ZG xs ys lo h (as ++ [b]) := by
  refine ⟨List.pairwise_append.mpr ⟨g.up, List.pairwise_singleton _ _, fun a ha c hc => by rw [List.mem_singleton.mp hc]; exact hb a ha⟩, fun a ha => ?_, fun j a hj => ?_⟩
  · rcases List.mem_append.mp ha with q | q
    · exact g.hi a q
    · rw [List.mem_singleton.mp q]; exact hl
  · rcases Nat.lt_or_ge j as.length with q | q
    · exact g.at' j a ((List.getElem?_append_left q).symm.trans hj)
    · rw [List.getElem?_append_right q] at hj
      rcases Nat.eq_or_lt_of_le q with q2 | q2
      · rw [← q2, Nat.sub_self] at hj
        cases hj
        rw [← q2]
        exact ⟨x, y, hx, hy, hp⟩
      · rw [List.getElem?_eq_none (by simp; omega)] at hj
        cases hj
theorem ZS.keep {h h' : Heap} {z TI TO S : Addr} {o' : Obj} (q : ZS h z TI TO) (k : ∀ b o, b ≠ S → h.get? b = some o → h'.get? b = some o) (hS : h'.get? S = some o') (hz : z ≠ S) (hT : TO ≠ S) : ZS h' z TI TO := by
  rcases q with ⟨hz', x, y, t⟩ | ⟨T, f, oT, hz', t, n⟩
  · exact .inl ⟨k _ _ hz hz', x, y, k _ _ hT t⟩
  · by_cases e : T = S
    · exact .inr ⟨T, f, o', k _ _ hz hz', by rw [e]; exact hS, n⟩
    · exact .inr ⟨T, f, oT, k _ _ hz hz', k _ _ e t, n⟩
section
variable {prog : Program} {w : World} {A : Around} {s : Shared} {R : Result → Shared → Prop} {z TI TO i1 i2 a b : Addr} {xs ys : Array Value}
/-- what the walk keeps -/
structure ZI (h : Heap) (z TI TO i1 i2 a b : Addr) (xs ys : Array Value) (i : Nat) : Prop where
  zs : ZS h z TI TO
  ti : IsPair h TI (.ref i1) (.ref i2)
  h1 : h.IsTupleIter i1 a i
  h2 : h.IsTupleIter i2 b i
  ha : h.IsTuple a xs
  hb : h.IsTuple b ys
theorem ZI.keep {h h' : Heap} {S : Addr} {o' : Obj} {i : Nat} (q : ZI h z TI TO i1 i2 a b xs ys i) (k : ∀ c o, c ≠ S → h.get? c = some o → h'.get? c = some o) (hS : h'.get? S = some o') (n : ∀ c ∈ [z, TI, TO, i1, i2, a, b], c ≠ S) : ZI h' z TI TO i1 i2 a b xs ys i :=
  ⟨q.zs.keep k hS (n z (by simp)) (n TO (by simp)), k _ _ (n TI (by simp)) q.ti, q.h1.at fun o e => k _ _ (n i1 (by simp)) e, q.h2.at fun o e => k _ _ (n i2 (by simp)) e,
    let ⟨o, e, r⟩ := q.ha; ⟨o, k _ _ (n a (by simp)) e, r⟩, let ⟨o, e, r⟩ := q.hb; ⟨o, k _ _ (n b (by simp)) e, r⟩⟩
theorem zl_loop {S : Addr} (hh : A.handled = none) (D : ZipApart z TI TO i1 i2 a b) (n : ∀ c ∈ [z, TI, TO, i1, i2, a, b], c ≠ S) (lo : ∀ c ∈ [z, TO, i1, i2], c < S) (hl : ys.size = xs.size) (hn : xs.size ≤ sizeLine) (res : Value) {h₁ : Heap}
    (hR : ∀ h' acc c as, (∀ b o, b ∉ [S, z, TO, i1, i2] → h₁.get? b = some o → h'.get? b = some o) → h'.get? S = some { cls := .type "list", dict := none, data := .seq acc c, slots := #[] } → as.length = xs.size → ZG xs ys S h' as → acc.toList = as.map Value.ref → R (.ok (.ret res)) { s with heap := h' }) :
    ∀ (k i : Nat) (h : Heap) (c : Nat) (acc : Array Value) (as : List Addr), xs.size - i = k → i ≤ xs.size → ZI h z TI TO i1 i2 a b xs ys i → (∀ b o, b ∉ [S, z, TO, i1, i2] → h₁.get? b = some o → h.get? b = some o) →
      h.get? S = some { cls := .type "list", dict := none, data := .seq acc c, slots := #[] } → acc.toList = as.map Value.ref → as.length = i → ZG xs ys S h as → codeAny (model prog w) A (.builtin "list.extend.loop" ⟨[.ref S, .ref z, res], []⟩) R { s with heap := h } := by
  have lo' : ∀ (h h' : Heap), (∀ c o, c ≠ z → c ≠ TO → c ≠ i1 → c ≠ i2 → h.get? c = some o → h'.get? c = some o) → ∀ c o, S ≤ c → h.get? c = some o → h'.get? c = some o := fun h h' q c o hc e =>
    q c o (Nat.ne_of_gt (Nat.lt_of_lt_of_le (lo z (by simp)) hc)) (Nat.ne_of_gt (Nat.lt_of_lt_of_le (lo TO (by simp)) hc)) (Nat.ne_of_gt (Nat.lt_of_lt_of_le (lo i1 (by simp)) hc)) (Nat.ne_of_gt (Nat.lt_of_lt_of_le (lo i2 (by simp)) hc)) e
  have off : ∀ (c : Addr), c ∉ [S, z, TO, i1, i2] → c ≠ S ∧ c ≠ z ∧ c ≠ TO ∧ c ≠ i1 ∧ c ≠ i2 := fun c hc => by
    simpa only [List.mem_cons, List.not_mem_nil, or_false, not_or] using hc
  intro k
  induction k with
  | zero =>
    intro i h c acc as hk hi q hk1 hS hacc hal hG
    refine codeAny_builtin F.entry_extend_loop ?_
    rw [Around.under_plainId F.plain_extend_loop _]
    show wpAny _ A.in1 (pyNext (.ref z) >>= _) _ _ _
    refine wpAny_bind (zs_end (s := { s with heap := h }) (A := A.in1) hh D q.zs q.ti q.h1 q.h2 q.ha q.hb (by simp; omega) fun h' kk => ?_)
    refine wpAny_pure (hR h' acc c as (fun b o hb e => ?_) (lo' _ _ kk _ _ (Nat.le_refl _) hS) (by omega) (hG.keep fun b o hb e => lo' _ _ kk _ _ (Nat.le_of_lt hb) e) hacc)
    obtain ⟨_, e2, e3, e4, e5⟩ := off b hb
    exact kk b o e2 e3 e4 e5 (hk1 b o hb e)
  | succ k ih =>
    intro i h c acc as hk hi q hk1 hS hacc hal hG
    have hlt : i < xs.size := by omega
    have hsz : acc.size = i := by rw [← Array.length_toList, hacc, List.length_map, hal]
    refine codeAny_builtin F.entry_extend_loop ?_
    rw [Around.under_plainId F.plain_extend_loop _]
    show wpAny _ A.in1 (pyNext (.ref z) >>= _) _ _ _
    refine wpAny_bind (zs_item (s := { s with heap := h }) D q.zs q.ti q.h1 q.h2 q.ha q.hb (Array.getElem?_eq_getElem hlt) (Array.getElem?_eq_getElem (by omega)) fun h' q' g1 g2 hp kk => ?_)
    dsimp only at hp kk ⊢
    have hS' := lo' _ _ kk S _ (Nat.le_refl _) hS
    have hSl : S < h.objs.size := Heap.lt_size hS
    have up : ∀ b o, b ≠ S → h'.get? b = some o → (h'.update S (Obj.mapSeq (·.push (Value.ref h.objs.size)))).get? b = some o := fun b o hb e => (Heap.get?_update_other _ _ (Ne.symm hb)).trans e
    have q2 : ZI h' z TI TO i1 i2 a b xs ys (i + 1) := ⟨q', kk _ _ D.TIz D.TITO D.TIi1 D.TIi2 q.ti, g1, g2, let ⟨o, e, r⟩ := q.ha; ⟨o, kk _ _ D.l1z D.l1TO D.l1i1 D.l1i2 e, r⟩, let ⟨o, e, r⟩ := q.hb; ⟨o, kk _ _ D.l2z D.l2TO D.l2i1 D.l2i2 e, r⟩⟩
    have hS3 := Heap.get?_update_self (Obj.mapSeq (·.push (Value.ref h.objs.size))) hS' rfl
    show wpAny _ A.in1 (updateSeq S (·.push (Value.ref h.objs.size)) >>= _) _ _ _
    refine wpAny_bind (wpAny_updateSeq hS' rfl (wpAny_pure ⟨plainId_quiet F.plain_extend_loop _, ih (i + 1) _ _ (acc.push (Value.ref h.objs.size)) (as ++ [h.objs.size]) (by omega) hlt (q2.keep up hS3 n) (fun b o hb e => ?_) hS3 (by rw [Array.toList_push, hacc, List.map_append]; rfl) (by rw [List.length_append, hal]; rfl) ?_⟩) (by rw [hsz]; omega) (by show (acc.push (Value.ref h.objs.size)).size ≤ sizeLine + 1; rw [Array.size_push, hsz]; omega))
    · obtain ⟨e1, e2, e3, e4, e5⟩ := off b hb
      exact up b o e1 (kk b o e2 e3 e4 e5 (hk1 b o hb e))
    · refine ZG.snoc (hG.keep fun b o hb e => up b o (Nat.ne_of_gt hb) (lo' _ _ kk b o (Nat.le_of_lt hb) e)) (fun c hc => hG.lt hc) hSl (by rw [hal]; exact Array.getElem?_eq_getElem hlt) (by rw [hal]; exact Array.getElem?_eq_getElem (by omega)) (up _ _ (Nat.ne_of_gt hSl) hp)
theorem zl_hint {E : Value → Shared → Prop} (hT : s.TypeIs (.ref z) "zip") {Q : Bool → Shared → Prop} (h : Q true s) : wpAny (model prog w) A (Builtin.List.listLengthHint (.ref z)) Q E s := by
  unfold Builtin.List.listLengthHint
  refine wpAny_bind (wpAny_specialOf hT zl_nolen ?_)
  show wpAny _ _ (specialOf (Value.ref z) (Str.ofString "__length_hint__") >>= _) _ _ _
  exact wpAny_bind (wpAny_specialOf hT zl_nohint (wpAny_pure h))
def ZFresh (h : Heap) (z TI TO i1 i2 a b : Addr) (xs ys : Array Value) : Prop := IsZip h z TI TO .none ∧ (∃ x y, IsPair h TO x y) ∧ IsPair h TI (.ref i1) (.ref i2) ∧ h.IsTupleIter i1 a 0 ∧ h.IsTupleIter i2 b 0 ∧ h.IsTuple a xs ∧ h.IsTuple b ys
theorem ZFresh.keep {h h' : Heap} {S : Addr} (q : ZFresh h z TI TO i1 i2 a b xs ys) (k : ∀ c o, c ≠ S → h.get? c = some o → h'.get? c = some o) (n : ∀ c ∈ [z, TI, TO, i1, i2, a, b], c ≠ S) : ZFresh h' z TI TO i1 i2 a b xs ys := by
  obtain ⟨p1, ⟨x, y, p2⟩, p3, p4, p5, ⟨o1, e1, r1⟩, ⟨o2, e2, r2⟩⟩ := q
  exact ⟨k _ _ (n z (by simp)) p1, ⟨x, y, k _ _ (n TO (by simp)) p2⟩, k _ _ (n TI (by simp)) p3, p4.at fun o e => k _ _ (n i1 (by simp)) e, p5.at fun o e => k _ _ (n i2 (by simp)) e, ⟨o1, k _ _ (n a (by simp)) e1, r1⟩, ⟨o2, k _ _ (n b (by simp)) e2, r2⟩⟩
theorem ZFresh.zi {h : Heap} (q : ZFresh h z TI TO i1 i2 a b xs ys) : ZI h z TI TO i1 i2 a b xs ys 0 :=
  ⟨.inl ⟨q.1, q.2.1⟩, q.2.2.1, q.2.2.2.1, q.2.2.2.2.1, q.2.2.2.2.2.1, q.2.2.2.2.2.2⟩
theorem zl_extend {S : Addr} (hh : A.handled = none) (D : ZipApart z TI TO i1 i2 a b) (n : ∀ c ∈ [z, TI, TO, i1, i2, a, b], c ≠ S) (lo : ∀ c ∈ [z, TO, i1, i2], c < S) (hl : ys.size = xs.size) (hn : xs.size ≤ sizeLine) (res : Value) (c₀ : Nat)
    (q : ZFresh s.heap z TI TO i1 i2 a b xs ys) (hS : s.heap.get? S = some { cls := .type "list", data := .seq #[] c₀ })
    (hR : ∀ h' acc c as, (∀ b o, b ∉ [S, z, TO, i1, i2] → s.heap.get? b = some o → h'.get? b = some o) → h'.get? S = some { cls := .type "list", dict := none, data := .seq acc c, slots := #[] } → as.length = xs.size → ZG xs ys S h' as → acc.toList = as.map Value.ref → R (.ok (.ret res)) { s with heap := h' }) :
    wpAny (model prog w) A.in1 (Builtin.List.listExtendWith (.ref S) (.ref z) res)
      (fun fin t => match fin with | .done f => R (.ok f) t | .again d => d.quiet = true ∧ codeAny (model prog w) A d R t) (fun e t => R (.error e) t) s := by
  have hT : s.TypeIs (.ref z) "zip" := ⟨_, q.1, rfl⟩
  unfold Builtin.List.listExtendWith
  refine wpAny_bind (wpAny_typeOf (T := "zip") hT ?_)
  have n1 : Builtin.List.listSameRef (.ref S) (.ref z) = false := by simp [Builtin.List.listSameRef, Ne.symm (n z (by simp))]
  have n2 : (Value.type "zip" == Value.type "list") = false := by decide
  have n3 : (Value.type "zip" == Value.type "tuple") = false := by decide
  simp only [n1, n2, n3, Bool.or_false, Bool.false_eq_true, if_false]
  refine wpAny_bind (wpAny_pyIter_zip q.1 ?_)
  refine wpAny_bind (wpAny_holding (zl_hint hT ?_))
  refine wpAny_bind (wpAny_rule (wpAny_bind ?_))
  show wpAny _ _ (updateSeq S (·.push .none) >>= fun _ => updateSeq S (·.pop)) _ _ _
  refine wpAny_bind (wpAny_updateSeq hS rfl ?_)
  have g2 := Heap.get?_update_self (Obj.mapSeq (·.push Value.none)) hS rfl
  refine wpAny_updateSeq (hz := by seq_fits) g2 rfl ?_
  have g3 := Heap.get?_update_self (Obj.mapSeq (·.pop)) g2 rfl
  have k3 : ∀ c o, c ≠ S → s.heap.get? c = some o → ((s.heap.update S (Obj.mapSeq (·.push Value.none))).update S (Obj.mapSeq (·.pop))).get? c = some o := fun c o hc e =>
    (Heap.get?_update_other _ _ (Ne.symm hc)).trans ((Heap.get?_update_other _ _ (Ne.symm hc)).trans e)
  exact wpAny_pure ⟨plainId_quiet F.plain_extend_loop _, zl_loop (s := s) (h₁ := s.heap) hh D n lo hl hn res hR xs.size 0 _ _ #[] [] (Nat.sub_zero _) (Nat.zero_le _) (q.keep k3 n).zi (fun c o hc e => k3 c o (fun z => hc (by simp [z])) e) g3 rfl rfl ⟨.nil, fun _ z => (List.not_mem_nil z).elim, fun j a z => by simp at z⟩⟩
theorem zl_init {S : Addr} (hh : A.handled = none) (D : ZipApart z TI TO i1 i2 a b) (n : ∀ c ∈ [z, TI, TO, i1, i2, a, b], c ≠ S) (lo : ∀ c ∈ [z, TO, i1, i2], c < S) (hl : ys.size = xs.size) (hn : xs.size ≤ sizeLine)
    (q : ZFresh s.heap z TI TO i1 i2 a b xs ys) (hS : s.heap.get? S = some { cls := .type "list", data := .seq #[] })
    (hR : ∀ h' acc c as, (∀ b o, b ∉ [S, z, TO, i1, i2] → s.heap.get? b = some o → h'.get? b = some o) → h'.get? S = some { cls := .type "list", dict := none, data := .seq acc c, slots := #[] } → as.length = xs.size → ZG xs ys S h' as → acc.toList = as.map Value.ref → R (.ok (.ret .none)) { s with heap := h' }) :
    wpAny (model prog w) A.in1 (Builtin.«list.__init__» ⟨[.ref S, .ref z], []⟩)
      (fun fin t => match fin with | .done f => R (.ok f) t | .again d => d.quiet = true ∧ codeAny (model prog w) A d R t) (fun e t => R (.error e) t) s := by
  show wpAny _ _ (Builtin.List.listItems (.ref S) >>= fun old => Builtin.List.listUpdate (.ref S) (fun _ => #[]) >>= fun _ => letGo old.toList.reverse >>= fun _ => Builtin.List.listExtendWith (.ref S) (.ref z) .none) _ _ s
  refine wpAny_bind ?_
  unfold Builtin.List.listItems
  refine wpAny_bind (wpAny_seqItems hS rfl (wpAny_pure ?_))
  show wpAny _ _ (updateSeq S (fun _ => #[]) >>= fun _ => letGo (#[] : Array Value).toList.reverse >>= fun _ => Builtin.List.listExtendWith (.ref S) (.ref z) .none) _ _ s
  refine wpAny_bind (wpAny_updateSeq hS rfl ?_)
  have g2 := Heap.get?_update_self (Obj.mapSeq (fun _ => (#[] : Array Value))) hS rfl
  have k2 : ∀ c o, c ≠ S → s.heap.get? c = some o → (s.heap.update S (Obj.mapSeq (fun _ => (#[] : Array Value)))).get? c = some o := fun c o hc e => (Heap.get?_update_other _ _ (Ne.symm hc)).trans e
  refine wpAny_bind (wpAny_letGo ?_)
  exact zl_extend hh D n lo hl hn .none _ (q.keep k2 n) g2 fun h' acc c as k g l G e => hR h' acc c as (fun b o hb e => k b o hb (k2 b o (fun z => hb (by simp [z])) e)) g l G e
theorem zl_call {E : Value → Shared → Prop} {Q : Value → Shared → Prop} (hh : A.handled = none) (D : ZipApart z TI TO i1 i2 a b) (hl : ys.size = xs.size) (hn : xs.size ≤ sizeLine) (q : ZFresh s.heap z TI TO i1 i2 a b xs ys)
    (hQ : ∀ h' acc c as, (∀ b o, b ∉ [z, TO, i1, i2] → s.heap.get? b = some o → h'.get? b = some o) → h'.get? s.heap.objs.size = some { cls := .type "list", dict := none, data := .seq acc c, slots := #[] } → as.length = xs.size → ZG xs ys s.heap.objs.size h' as → acc.toList = as.map Value.ref → Q (.ref s.heap.objs.size) { s with heap := h' }) :
    wpAny (model prog w) A (call (.type "list") [.ref z]) Q E s := by
  refine callType_codes (Q₁ := fun obj t => obj = .ref s.heap.objs.size ∧ t = { s with heap := s.heap.push { cls := .type "list", data := .seq #[] } }) F.called_list (F.typeCall_list_1 _) F.entry_list_init (code_list_new _ ⟨rfl, rfl⟩) fun obj t ht => ?_
  obtain ⟨rfl, rfl⟩ := ht
  have hS : (s.heap.push { cls := .type "list", data := .seq #[] }).get? s.heap.objs.size = some { cls := .type "list", data := .seq #[] } := Heap.get?_push_size _ rfl
  obtain ⟨p1, ⟨x, y, p2⟩, p3, ⟨o4, e4, _⟩, ⟨o5, e5, _⟩, ⟨o6, e6, _⟩, ⟨o7, e7, _⟩⟩ := id q
  have lt : ∀ c ∈ [z, TI, TO, i1, i2, a, b], c < s.heap.objs.size := fun c hc => by
    simp only [List.mem_cons, List.not_mem_nil, or_false] at hc
    rcases hc with rfl | rfl | rfl | rfl | rfl | rfl | rfl
    · exact Heap.lt_size p1
    · exact Heap.lt_size p3
    · exact Heap.lt_size p2
    · exact Heap.lt_size e4
    · exact Heap.lt_size e5
    · exact Heap.lt_size e6
    · exact Heap.lt_size e7
  have kp : ∀ c o, s.heap.get? c = some o → (s.heap.push { cls := .type "list", data := .seq #[] }).get? c = some o := fun c o e => Heap.get?_push_of_some _ e
  refine ⟨⟨_, hS, rfl⟩, F.args_list_init_2 _ _, zl_init (A := A.in1) hh D (fun c hc => Nat.ne_of_lt (lt c hc)) (fun c hc => lt c (by simp at hc ⊢; rcases hc with h | h | h | h <;> simp [h])) hl hn (q.keep (S := s.heap.objs.size) (fun c o _ e => kp c o e) (fun c hc => Nat.ne_of_lt (lt c hc))) hS fun h' acc c as k g l G e => ?_⟩
  exact ⟨rfl, hQ h' acc c as (fun b o hb e => k b o (fun z => by
    rcases List.mem_cons.mp z with z | z
    · exact absurd (Heap.lt_size e) (by rw [z]; exact Nat.lt_irrefl _)
    · exact hb z) (kp b o e)) g l G e⟩
end
end Hx

set_option Elab.async false
set_option linter.all false
set_option maxRecDepth 100000
set_option maxHeartbeats 4000000
/-! list(zip(t, u)): the reading -/
namespace Hx
open PySem PySem.Calls PySem.Spec PyProof.Rows L2
def putZ : Hp → List Addr → List (V × V) → Hp
  | H, a :: as, p :: ps => putZ (upd H a (.tup [p.1, p.2])) as ps
  | H, _, _ => H
theorem putZ_off {b : Addr} : ∀ (as : List Addr) (ps : List (V × V)) (H : Hp), b ∉ as → putZ H as ps b = H b := by
  intro as
  induction as with
  | nil => intro ps H _; cases ps <;> rfl
  | cons a as ih =>
    intro ps H hb
    cases ps with
    | nil => rfl
    | cons p ps =>
      show putZ (upd H a (.tup [p.1, p.2])) as ps b = H b
      rw [ih ps _ (fun z => hb (.tail _ z)), upd_ne (fun z => hb (by rw [z]; exact .head _))]
theorem putZ_at : ∀ (as : List Addr) (ps : List (V × V)) (H : Hp) (j : Nat) (a : Addr) (p : V × V), as.Nodup → as[j]? = some a → ps[j]? = some p → putZ H as ps a = some (.tup [p.1, p.2]) := by
  intro as
  induction as with
  | nil => intro ps H j a p _ h; simp at h
  | cons a0 as ih =>
    intro ps H j a p nd h1 h2
    have nd' := List.nodup_cons.mp nd
    cases ps with
    | nil => simp at h2
    | cons p0 ps =>
      show putZ (upd H a0 (.tup [p0.1, p0.2])) as ps a = _
      cases j with
      | zero =>
        cases h1
        cases h2
        rw [putZ_off _ _ _ nd'.1, upd_same]
      | succ j => exact ih ps _ j a p nd'.2 h1 h2
theorem zl_refs : ∀ as : List Addr, Vals (as.map V.ref) (as.map Value.ref)
  | [] => .nil
  | _ :: as => .cons rfl (zl_refs as)
/-- list(zip(t, u)) of two tuples of one length -/
def rZipL (K : PySem.W.Frag) : List V → Hp → VK → Prop := fun vs H Q => ∃ a b xs ys, vs = [.ref a, .ref b] ∧ SqT K H a xs ∧ SqT K H b ys ∧ ys.length = xs.length ∧
  ∀ (H' : Hp) (p : Addr) (ts : List Addr), (∀ c o, H c = some o → H' c = some o) → H p = none → ts.length = xs.length → H' p = some (.lst (ts.map V.ref)) → (∀ (j : Nat) (t : Addr), ts[j]? = some t → ∃ x y, xs[j]? = some x ∧ ys[j]? = some y ∧ H' t = some (.tup [x, y])) → Q (.ref p) H'
def tZipL (K : PySem.W.Frag) (ta : TA) : TE := fun σ H Q => ta σ H fun vs H1 => rZipL K vs H1 Q
theorem q_tZipL {K : PySem.W.Frag} {ta : TA} {σ : L2.St} {H : Hp} {Q : VK} : tZipL K ta σ H Q = ta σ H fun vs H1 => rZipL K vs H1 Q := rfl
section
variable {X : Cx} {e e2 : Expr} {ta : TA} {p p2 pos pos2 : Pos}
theorem zl_laid {pins : List (Addr × Obj)} {σ : L2.St} {H : Hp} {s : Shared} {h' : Heap} {S : Addr} {xs ys : List V} {ixs iys acc : Array Value} {c : Nat} {as : List Addr} (I : Inv X pins σ H s) (hz : xs.length ≤ sizeLine) (rx : Vals xs ixs.toList) (ry : Vals ys iys.toList)
    (hk : ∀ b o, s.heap.get? b = some o → h'.get? b = some o) (hlo : s.heap.objs.size ≤ S) (hS : h'.get? S = some { cls := .type "list", dict := none, data := .seq acc c, slots := #[] }) (hl : as.length = xs.length) (hly : ys.length = xs.length) (hG : ZG ixs iys S h' as) (hacc : acc.toList = as.map Value.ref) :
    ∃ H' : Hp, (∀ b o, H b = some o → H' b = some o) ∧ H S = none ∧ H' S = some (.lst (as.map V.ref)) ∧ (∀ (j : Nat) (t : Addr), as[j]? = some t → ∃ x y, xs[j]? = some x ∧ ys[j]? = some y ∧ H' t = some (.tup [x, y])) ∧ Inv X pins σ H' { s with heap := h' } := by
  have hSn : S ∉ as := fun z => Nat.lt_irrefl _ (hG.hi _ z)
  have nd : as.Nodup := List.Pairwise.imp (fun {a b} (h : a < b) => Nat.ne_of_lt h) hG.up
  have new : ∀ t ∈ as, H t = none := fun t ht => I.hok.fresh (Nat.le_trans hlo (Nat.le_of_lt (hG.hi t ht)))
  have newS : H S = none := I.hok.fresh hlo
  have low : ∀ b o, s.heap.get? b = some o → b ∉ as ∧ b ≠ S := fun b o q => by
    have q := Heap.lt_size q
    exact ⟨fun z => absurd (Nat.lt_of_le_of_lt hlo (hG.hi b z)) (Nat.lt_asymm q), fun z => by subst z; exact absurd hlo (Nat.not_le.mpr q)⟩
  have off : ∀ b, b ∉ as → b ≠ S → putZ (upd H S (.lst (as.map V.ref))) as (xs.zip ys) b = H b := fun b h1 h2 => by rw [putZ_off as _ _ h1, upd_ne h2]
  have kp : ∀ b u, H b = some u → (putZ (upd H S (.lst (as.map V.ref))) as (xs.zip ys)) b = some u := fun b u q => by
    rw [off b (fun z => by rw [new b z] at q; cases q) (fun z => by rw [z, newS] at q; cases q)]
    exact q
  have eS : putZ (upd H S (.lst (as.map V.ref))) as (xs.zip ys) S = some (.lst (as.map V.ref)) := by rw [putZ_off as _ _ hSn, upd_same]
  have atP : ∀ (j : Nat) (t : Addr), as[j]? = some t → ∃ x y, xs[j]? = some x ∧ ys[j]? = some y ∧ putZ (upd H S (.lst (as.map V.ref))) as (xs.zip ys) t = some (.tup [x, y]) := fun j t hj => by
    have hjl : j < as.length := by
      rcases Nat.lt_or_ge j as.length with q | q
      · exact q
      · rw [List.getElem?_eq_none q] at hj; cases hj
    have e1 : xs[j]? = some xs[j] := List.getElem?_eq_getElem (by omega)
    have e2 : ys[j]? = some ys[j] := List.getElem?_eq_getElem (by omega)
    refine ⟨_, _, e1, e2, putZ_at as _ _ j t (xs[j], ys[j]) nd hj ?_⟩
    rw [List.getElem?_zip_eq_some]
    exact ⟨e1, e2⟩
  refine ⟨_, kp, newS, eS, atP, ?_⟩
  refine I.call' (ch := []) rfl ⟨fun b o q _ _ _ => hk b o q, fun b o q _ _ _ => ⟨o.slots, hk b o q⟩, fun b o q n _ => ?_, fun b o q _ => ⟨o, hk b o q⟩, fun b xs q => kp b _ q, fun b o u q => kp b _ q, fun b ps q => ⟨#[], by rw [kp b _ q]; simp⟩⟩ (fun b u q => ?_) I.bare fun b z => by simp at z
  · obtain ⟨z1, z2⟩ := low b o q
    exact (off b z1 z2).trans n
  · by_cases hb : b ∈ as
    · obtain ⟨j, hj⟩ := List.mem_iff_getElem?.mp hb
      obtain ⟨x, y, e1, e2, e3⟩ := atP j b hj
      rw [e3] at q
      cases q
      obtain ⟨v1, v2, f1, f2, f3⟩ := hG.at' j b hj
      obtain ⟨u1, g1, r1⟩ := rx.get e1
      obtain ⟨u2, g2, r2⟩ := ry.get e2
      rw [Array.getElem?_toList, f1] at g1
      rw [Array.getElem?_toList, f2] at g2
      cases g1
      cases g2
      exact ⟨by show 2 ≤ sizeLine; decide, [v1, v2], .cons r1 (.cons r2 .nil), ⟨_, f3, rfl, _, rfl⟩⟩
    · by_cases hb2 : b = S
      · subst hb2
        rw [eS] at q
        cases q
        exact ⟨by rw [List.length_map]; omega, acc.toList, c, by rw [hacc]; exact zl_refs as, by rw [Array.toArray_toList]; exact hS⟩
      · rw [off b hb hb2] at q
        exact (I.hok b u q).stay (fun d v _ y => hk d v y) (fun d y => kp d _ y) fun d xs y => kp d _ y
theorem pe_listZip (hc : X.calm = true) (hg : Gl X "list") (hm : X.mg "list" = none) (hv : bootBuiltins "list" = some (.type "list")) (hg2 : Gl X "zip") (hm2 : X.mg "zip" = none) (ha : PA X [e, e2] ta)
    (hs : starEach [e, e2] X.env = (false, eval e X.env) :: starEach [e2] X.env := by rfl) (hpl : (backTo pos2 (starEach [e2] X.env)).any (·.1) = false := by rfl)
    (hs2 : starEach [.Call (.Name "zip" p2) [e, e2] [] pos2] X.env = (false, eval (.Call (.Name "zip" p2) [e, e2] [] pos2) X.env) :: starEach [] X.env := by rfl) :
    PE X (.Call (.Name "list" p) [.Call (.Name "zip" p2) [e, e2] [] pos2] [] pos) (tZipL X.K ta) := by
  refine ⟨fun pins s σ H Q I hq => ?_⟩
  refine wpAny_Call_Name_kw (ld_blt I hg hm hv ?_)
  refine PyProof.Rows.callWith_type1 ?_ hs2 rfl
  rw [hs2]
  show wpAny _ _ (spliced ((false, eval (.Call (.Name "zip" p2) [e, e2] [] pos2) X.env) :: backTo pos (starEach [] X.env))) _ _ s
  refine Calls.spliced_cons ?_
  refine Call_ (ld_blt I hg2 hm2 PyProof.Rows.boot_zip (PyProof.Rows.callWith_type1 (thn (ha.run pos2 pins s σ H _ I hq) ?_) hs hpl))
  rintro us s1 ⟨vs, H1, I1, r1, a, b, xs, ys, rfl, hq1, hq2, hly, q⟩
  cases r1 with
  | cons r rr =>
    cases rr with
    | cons r' rr =>
      cases rr
      cases r
      cases r'
      obtain ⟨its1, rv1, pt1, hz⟩ := I1.tuple hq1
      obtain ⟨its2, rv2, pt2, _⟩ := I1.tuple hq2
      have l1 := rv1.length
      have l2 := rv2.length
      obtain ⟨o1, ho1, _⟩ := id pt1
      obtain ⟨o2, ho2, _⟩ := id pt2
      refine RZ.call_zipT (show s1.heap.IsTuple a its1.toArray from pt1) (show s1.heap.IsTuple b its2.toArray from pt2) fun h' hz' hTI hTO h1 h2 hsz hk => ?_
      refine Calls.spliced_nil ?_
      have kt : ∀ (d : Addr) (zs : Array Value), s1.heap.IsTuple d zs → h'.IsTuple d zs := fun d zs ⟨o, e, r⟩ => ⟨o, hk _ _ e, r⟩
      refine zl_call (s := { s1 with heap := h' }) (I1.ok.hd hc) (PySem.W.ktu_apart s1.heap.objs.size a b (Heap.lt_size ho1) (Heap.lt_size ho2)) (by simp; omega) (by simp; omega) (q := ⟨hz', ⟨_, _, hTO⟩, hTI, h1, h2, kt _ _ pt1, kt _ _ pt2⟩) fun h'' acc c as k g l G e => ?_
      have kk : ∀ d o, s1.heap.get? d = some o → h''.get? d = some o := fun d o e => k d o (fun z => by
        have q := Heap.lt_size e
        simp only [List.mem_cons, List.not_mem_nil, or_false] at z
        have ge : s1.heap.objs.size ≤ d := by
          rcases z with rfl | rfl | rfl | rfl
          · exact Nat.le_add_right _ _
          · exact Nat.le_add_right _ _
          · exact Nat.le_refl _
          · exact Nat.le_add_right _ _
        exact absurd q (Nat.not_lt.mpr ge)) (hk d o e)
      obtain ⟨H', k1, k2, k3, k4, J⟩ := zl_laid (S := h'.objs.size) I1 hz (by simpa using rv1) (by simpa using rv2) kk (by rw [hsz]; exact Nat.le_add_right _ _) g (by simp at l; omega) hly G e
      exact ⟨.ref _, H', J, rfl, q H' _ as k1 k2 (by simp at l; omega) k3 k4⟩
theorem peListZip (K : PySem.W.Frag) (h : X.K = K) (hc : X.calm = true) (hg : Gl X "list") (hm : X.mg "list" = none) (hg2 : Gl X "zip") (hm2 : X.mg "zip" = none) (ha : PA X [e, e2] ta)
    (hs : starEach [e, e2] X.env = (false, eval e X.env) :: starEach [e2] X.env := by rfl) (hpl : (backTo pos2 (starEach [e2] X.env)).any (·.1) = false := by rfl)
    (hs2 : starEach [.Call (.Name "zip" p2) [e, e2] [] pos2] X.env = (false, eval (.Call (.Name "zip" p2) [e, e2] [] pos2) X.env) :: starEach [] X.env := by rfl) :
    PE X (.Call (.Name "list" p) [.Call (.Name "zip" p2) [e, e2] [] pos2] [] pos) (tZipL K ta) := by
  subst h
  exact pe_listZip hc hg hm rfl hg2 hm2 ha hs hpl hs2
theorem piZipA {tpos : Pos} {es : List Expr} {kk : Nat} (K : PySem.W.Frag) (h : X.K = K) (hg : Gl X "zip") (hm : X.mg "zip" = none) (ha : PA X [e, e2] ta)
    (hs : starEach [e, e2] X.env = (false, eval e X.env) :: starEach [e2] X.env := by rfl) (hpl : (backTo pos (starEach [e2] X.env)).any (·.1) = false := by rfl) :
    PI X (.Tuple es kk tpos) (.Call (.Name "zip" p) [e, e2] [] pos) (RZ.iZipA K ta) := by
  subst h
  exact RZ.pi_zipA hg hm ha hs hpl
end
end Hx

set_option Elab.async false
set_option linter.all false
set_option maxRecDepth 100000
set_option maxHeartbeats 4000000
namespace Hx
open PySem PySem.Spec PyProof.Rows L2
/-! data compared as a whole -/
section
variable {K : PySem.W.Frag} {H : Hp} {Q : VK} {x y : V} {d : PyData}
theorem eq_same (hx : Dp K H x d) (hy : Dp K H y d) (hs : SeqAt.shaped d = true) (q : Q (.bl true) H) : rEqD K x y H Q := ⟨d, d, hx, hy, hs, hs, by rw [SeqAt.eqv_refl d (SeqAt.canLay_of_shaped hs)]; exact q⟩
theorem ne_same (hx : Dp K H x d) (hy : Dp K H y d) (hs : SeqAt.shaped d = true) (q : Q (.bl false) H) : rNeD K x y H Q := ⟨d, d, hx, hy, hs, hs, by rw [SeqAt.eqv_refl d (SeqAt.canLay_of_shaped hs)]; exact q⟩
end
/-- flat data: None and ints -/
def ovP : Option Int → PyData
  | none => .none
  | some i => .int i
def ovX : Option Int → V
  | none => .non
  | some i => .int i
theorem dp_opts (K : PySem.W.Frag) (H : Hp) : ∀ es : List (Option Int), DpAll K H (es.map ovX) (es.map ovP)
  | [] => .nil
  | none :: r => .cons .non (dp_opts K H r)
  | some i :: r => .cons (.int i) (dp_opts K H r)
theorem lay_opts : ∀ es : List (Option Int), PyData.canLayAll0 (es.map ovP) = true
  | [] => rfl
  | none :: r => by
    rw [List.map_cons, PyData.canLayAll0, lay_opts r]
    rfl
  | some i :: r => by
    rw [List.map_cons, PyData.canLayAll0, lay_opts r]
    rfl
theorem depth_opts : ∀ es : List (Option Int), PyData.depthAll (es.map ovP) = 0
  | [] => rfl
  | none :: r => by
    have e := depth_opts r
    simp only [List.map_cons, PyData.depthAll, ovP, PyData.depth, e]
    rfl
  | some i :: r => by
    have e := depth_opts r
    simp only [List.map_cons, PyData.depthAll, ovP, PyData.depth, e]
    rfl
theorem shaped_opts_t (es : List (Option Int)) : SeqAt.shaped (.tuple (es.map ovP)) = true := by
  unfold SeqAt.shaped
  rw [PyData.canLay0, lay_opts, PyData.depth, depth_opts]
  rfl
theorem shaped_opts_l (es : List (Option Int)) : SeqAt.shaped (.list (es.map ovP)) = true := by
  unfold SeqAt.shaped
  rw [PyData.canLay0, lay_opts, PyData.depth, depth_opts]
  rfl
theorem dp_ints_t {K : PySem.W.Frag} {H : Hp} {a : Addr} {xs : List Int} (h : SqT K H a (xs.map V.int)) : Dp K H (.ref a) (.tuple ((xs.map some).map ovP)) := by
  have e := dp_opts K H (xs.map some)
  rw [List.map_map] at e
  exact .tup h e
theorem dp_ints_l {K : PySem.W.Frag} {H : Hp} {a : Addr} {xs : List Int} (h : SqL K H a (xs.map V.int)) : Dp K H (.ref a) (.list ((xs.map some).map ovP)) := by
  have e := dp_opts K H (xs.map some)
  rw [List.map_map] at e
  exact .lst h e
end Hx

set_option Elab.async false
set_option linter.all false
set_option maxRecDepth 100000
set_option maxHeartbeats 4000000
/-! a list made within a list; data of pairs -/
namespace Hx
open PySem PySem.Spec PyProof.Rows L2
theorem relabel_at {sc : Scope} {en : Env} {S : Scope} (h : en.scope = S) : relabel sc en = relabel sc ⟨S, 0, 0, [], Str.empty, none, .none, none, 0⟩ := by
  subst h
  rfl
theorem pe_lcIn {S : Scope} {X : Cx} {s0 : Shared} {H0 : Hp} {sc0 : Scope} {cl0 : List (Str × Addr)} {C0 : Addr} {en : Env} {fp0 : List Addr} {elt tg iter : Expr} {ifs : List Expr} {scope : Scope} {own : List (Str × Nat)} {pos : Pos} {wi : TI} {g : TG} {tt : TT} {te : TE} (hc : X.calm = true) (hN : X.N.Nodup) (hS : en.scope = S)
    (hi : PI (X.blk s0 H0 sc0 (compEnvC sc0 cl0 C0 en) fp0) tg iter wi) (ok : BlkOk X.N (relabel sc0 ⟨S, 0, 0, [], Str.empty, none, .none, none, 0⟩) scope own)
    (hg : ∀ (s : Shared) (H : Hp) (C : Addr) (cl : List (Str × Addr)) (fp : List Addr), PG ((X.blk s0 H0 sc0 (compEnvC sc0 cl0 C0 en) fp0).blk s H scope (compEnvC scope cl C (compEnvC sc0 cl0 C0 en)) fp) tg g)
    (ht : ∀ (s : Shared) (H : Hp) (C : Addr) (cl : List (Str × Addr)) (fp : List Addr), PTs ((X.blk s0 H0 sc0 (compEnvC sc0 cl0 C0 en) fp0).blk s H scope (compEnvC scope cl C (compEnvC sc0 cl0 C0 en)) fp) ifs tt)
    (he : ∀ (s : Shared) (H : Hp) (C : Addr) (cl : List (Str × Addr)) (fp : List Addr), PE ((X.blk s0 H0 sc0 (compEnvC sc0 cl0 C0 en) fp0).blk s H scope (compEnvC scope cl C (compEnvC sc0 cl0 C0 en)) fp) elt te) (hs : ∀ x, foldedSetIterable iter (compEnvC sc0 cl0 C0 en) x = pure x := by intro _; rfl) :
    PE (X.blk s0 H0 sc0 (compEnvC sc0 cl0 C0 en) fp0) (.ListComp elt [⟨tg, iter, ifs, 0⟩] scope pos) (tLc wi g tt te (own.map (·.2))) := by
  refine pe_lc (X := X.blk s0 H0 sc0 (compEnvC sc0 cl0 C0 en) fp0) hc hN hi ?_ hg ht he hs
  show BlkOk X.N (relabel sc0 en) scope own
  rw [relabel_at hS]
  exact ok
/-! pairs as data -/
def prP (x : Int) (y : Option Int) : PyData := .tuple [.int x, ovP y]
theorem lay_prs : ∀ ps : List (Int × Option Int), PyData.canLayAll0 (ps.map fun p => prP p.1 p.2) = true
  | [] => rfl
  | (x, none) :: r => by
    rw [List.map_cons, PyData.canLayAll0, lay_prs r]
    rfl
  | (x, some i) :: r => by
    rw [List.map_cons, PyData.canLayAll0, lay_prs r]
    rfl
theorem depth_prs : ∀ ps : List (Int × Option Int), PyData.depthAll (ps.map fun p => prP p.1 p.2) ≤ 1
  | [] => by
    show PyData.depthAll [] ≤ 1
    simp [PyData.depthAll]
  | (x, none) :: r => by
    have e := depth_prs r
    simp only [List.map_cons, PyData.depthAll, prP, ovP, PyData.depth] at e ⊢
    omega
  | (x, some i) :: r => by
    have e := depth_prs r
    simp only [List.map_cons, PyData.depthAll, prP, ovP, PyData.depth] at e ⊢
    omega
theorem shaped_prs (ps : List (Int × Option Int)) : SeqAt.shaped (.list (ps.map fun p => prP p.1 p.2)) = true := by
  unfold SeqAt.shaped
  have e := depth_prs ps
  rw [PyData.canLay0, lay_prs, PyData.depth]
  simp only [Bool.true_and, decide_eq_true_eq]
  omega
theorem dp_prs {K : PySem.W.Frag} {H : Hp} : ∀ (ts : List Addr) (ps : List (Int × Option Int)), ts.length = ps.length → (∀ (j : Nat) (t : Addr) (p : Int × Option Int), ts[j]? = some t → ps[j]? = some p → Dp K H (.ref t) (prP p.1 p.2)) → DpAll K H (ts.map V.ref) (ps.map fun p => prP p.1 p.2)
  | [], [], _, _ => .nil
  | [], _ :: _, h, _ => by cases h
  | _ :: _, [], h, _ => by cases h
  | t :: ts, p :: ps, h, k => .cons (k 0 t p rfl rfl) (dp_prs ts ps (Nat.succ.inj h) fun j t' p' e1 e2 => k (j + 1) t' p' e1 e2)
end Hx

/-! The table of chains, as a function; no Python here. -/
set_option linter.all false
namespace Hx
structure Rope where
  f : Int
  r : Int
  l : Int
abbrev Tab := Nat → Nat → Option Int
def setD (d : Tab) (i j : Nat) (l : Int) : Tab := fun a b => if a = i ∧ b = j then some l else d a b
def keepD (d : Tab) (i j : Nat) (l : Int) : Tab := match d i j with
  | none => setD d i j l
  | some x => if l < x then setD d i j l else d
def baseD (n : Nat) : Tab := fun a b => if a = b ∧ a < n then some 0 else none
def ropesD (d : Tab) (rs : List Rope) : Tab := rs.foldl (fun d r => keepD d r.f.toNat r.r.toNat r.l) d
def fwStep (d : Tab) (m i j : Nat) : Tab := match d i m, d m j with
  | some a, some b => keepD d i j (a + b)
  | _, _ => d
def fwRow (n : Nat) (d : Tab) (m i k : Nat) : Tab := (List.range k).foldl (fun d j => fwStep d m i j) d
def fwMid (n : Nat) (d : Tab) (m k : Nat) : Tab := (List.range k).foldl (fun d i => fwRow n d m i n) d
def fwAll (n : Nat) (d : Tab) (k : Nat) : Tab := (List.range k).foldl (fun d m => fwMid n d m n) d
def chainTab (n : Nat) (rs : List Rope) : Tab := fwAll n (ropesD (baseD n) rs) n
theorem setD_at (d : Tab) (i j : Nat) (l : Int) : setD d i j l i j = some l := if_pos ⟨rfl, rfl⟩
theorem setD_ne (d : Tab) {i j a b : Nat} (l : Int) (h : ¬ (a = i ∧ b = j)) : setD d i j l a b = d a b := if_neg h
theorem keep_cases (d : Tab) (i j : Nat) (l : Int) : (keepD d i j l = setD d i j l ∧ ∀ x, d i j = some x → l < x) ∨ (keepD d i j l = d ∧ ∃ x, d i j = some x ∧ x ≤ l) := by
  unfold keepD
  cases h : d i j with
  | none => exact .inl ⟨rfl, fun x e => by cases e⟩
  | some x =>
    by_cases hl : l < x
    · refine .inl ⟨if_pos hl, fun y e => ?_⟩
      cases e
      exact hl
    · exact .inr ⟨if_neg hl, x, rfl, by omega⟩
theorem step_cases (d : Tab) (m i j : Nat) : (fwStep d m i j = d ∧ (d i m = none ∨ d m j = none)) ∨ ∃ a b, d i m = some a ∧ d m j = some b ∧ fwStep d m i j = keepD d i j (a + b) := by
  unfold fwStep
  cases h : d i m with
  | none => exact .inl ⟨rfl, .inl rfl⟩
  | some a =>
    cases k : d m j with
    | none => exact .inl ⟨rfl, .inr rfl⟩
    | some b => exact .inr ⟨a, b, rfl, rfl, rfl⟩
theorem fwRow_succ (n : Nat) (d : Tab) (m i k : Nat) : fwRow n d m i (k + 1) = fwStep (fwRow n d m i k) m i k := by
  unfold fwRow
  rw [List.range_succ, List.foldl_append]
  rfl
theorem fwMid_succ (n : Nat) (d : Tab) (m k : Nat) : fwMid n d m (k + 1) = fwRow n (fwMid n d m k) m k n := by
  unfold fwMid
  rw [List.range_succ, List.foldl_append]
  rfl
theorem fwAll_succ (n : Nat) (d : Tab) (k : Nat) : fwAll n d (k + 1) = fwMid n (fwAll n d k) k n := by
  unfold fwAll
  rw [List.range_succ, List.foldl_append]
  rfl
/-! what the table is worth, beside potentials x: positions that hold all ropes -/
def HoldsR (x : Nat → Int) (r : Rope) : Prop := x r.f.toNat - x r.r.toNat ≤ r.l
/-- no entry is less than x allows -/
def Sound (x : Nat → Int) (d : Tab) : Prop := ∀ i j l, d i j = some l → x i - x j ≤ l
theorem sound_keep {x : Nat → Int} {d : Tab} (h : Sound x d) {i j : Nat} {l : Int} (hl : x i - x j ≤ l) : Sound x (keepD d i j l) := by
  have hs : Sound x (setD d i j l) := fun a b y e => by
    unfold setD at e
    split at e
    · rename_i hab
      cases e
      obtain ⟨rfl, rfl⟩ := hab
      exact hl
    · exact h a b y e
  rcases keep_cases d i j l with ⟨e, _⟩ | ⟨e, _⟩ <;> rw [e]
  · exact hs
  · exact h
theorem sound_base (x : Nat → Int) (n : Nat) : Sound x (baseD n) := fun a b y e => by
  unfold baseD at e
  split at e
  · rename_i h
    cases e
    rw [h.1]
    omega
  · cases e
theorem sound_ropes {x : Nat → Int} : ∀ (rs : List Rope) {d : Tab}, Sound x d → (∀ r ∈ rs, HoldsR x r) → Sound x (ropesD d rs)
  | [], _, h, _ => h
  | r :: rs, d, h, hr => sound_ropes rs (d := keepD d r.f.toNat r.r.toNat r.l) (sound_keep h (hr r List.mem_cons_self)) fun q hq => hr q (List.mem_cons_of_mem _ hq)
theorem sound_step {x : Nat → Int} {d : Tab} (h : Sound x d) (m i j : Nat) : Sound x (fwStep d m i j) := by
  rcases step_cases d m i j with ⟨e, _⟩ | ⟨a, b, ea, eb, e⟩ <;> rw [e]
  · exact h
  · have h1 := h i m a ea
    have h2 := h m j b eb
    exact sound_keep h (by omega)
theorem sound_fold {α : Type} {x : Nat → Int} (f : Tab → α → Tab) (hf : ∀ d a, Sound x d → Sound x (f d a)) : ∀ (l : List α) {d : Tab}, Sound x d → Sound x (l.foldl f d)
  | [], _, h => h
  | a :: l, d, h => sound_fold f hf l (hf d a h)
theorem sound_all {x : Nat → Int} {d : Tab} (h : Sound x d) (n k : Nat) : Sound x (fwAll n d k) :=
  sound_fold _ (fun _ m h => sound_fold _ (fun _ i h => sound_fold _ (fun _ j h => sound_step h m i j) _ h) _ h) _ h
theorem sound_chain {x : Nat → Int} {n : Nat} {rs : List Rope} (hr : ∀ r ∈ rs, HoldsR x r) : Sound x (chainTab n rs) := sound_all (sound_ropes rs (sound_base x n) hr) n n
/-! entries only become less -/
/-- e is at most d -/
def Le (e d : Option Int) : Prop := ∀ y, d = some y → ∃ z, e = some z ∧ z ≤ y
theorem Le.refl (e : Option Int) : Le e e := fun y h => ⟨y, h, Int.le_refl y⟩
theorem Le.trans {a b c : Option Int} (h : Le a b) (k : Le b c) : Le a c := fun y e => by
  obtain ⟨z, ez, hz⟩ := k y e
  obtain ⟨u, eu, hu⟩ := h z ez
  exact ⟨u, eu, by omega⟩
theorem keep_le (d : Tab) (i j : Nat) (l : Int) (a b : Nat) : Le (keepD d i j l a b) (d a b) := by
  rcases keep_cases d i j l with ⟨e, h⟩ | ⟨e, _⟩ <;> rw [e]
  · by_cases hab : a = i ∧ b = j
    · obtain ⟨rfl, rfl⟩ := hab
      intro y ey
      have := h y ey
      exact ⟨l, setD_at d a b l, by omega⟩
    · rw [setD_ne d l hab]
      exact Le.refl _
  · exact Le.refl _
theorem keep_at (d : Tab) (i j : Nat) (l : Int) : Le (keepD d i j l i j) (some l) := by
  intro y ey
  cases ey
  rcases keep_cases d i j l with ⟨e, h⟩ | ⟨e, x, ex, hx⟩ <;> rw [e]
  · exact ⟨l, setD_at d i j l, Int.le_refl l⟩
  · exact ⟨x, ex, hx⟩
theorem keep_ne (d : Tab) {i j a b : Nat} (l : Int) (h : ¬ (a = i ∧ b = j)) : keepD d i j l a b = d a b := by
  rcases keep_cases d i j l with ⟨e, _⟩ | ⟨e, _⟩ <;> rw [e]
  exact setD_ne d l h
theorem le_fold {α : Type} (f : Tab → α → Tab) (hf : ∀ d x a b, Le (f d x a b) (d a b)) : ∀ (l : List α) (d : Tab) (a b : Nat), Le (l.foldl f d a b) (d a b)
  | [], d, a, b => Le.refl _
  | x :: l, d, a, b => (le_fold f hf l (f d x) a b).trans (hf d x a b)
theorem step_le (d : Tab) (m i j a b : Nat) : Le (fwStep d m i j a b) (d a b) := by
  rcases step_cases d m i j with ⟨e, _⟩ | ⟨_, _, _, _, e⟩ <;> rw [e]
  · exact Le.refl _
  · exact keep_le d i j _ a b
theorem all_le (n : Nat) (d : Tab) (k a b : Nat) : Le (fwAll n d k a b) (d a b) :=
  le_fold _ (fun d m a b => le_fold _ (fun d i a b => le_fold _ (fun d j a b => step_le d m i j a b) _ d a b) _ d a b) _ d a b
theorem ropes_le : ∀ (rs : List Rope) (d : Tab) (a b : Nat), Le (ropesD d rs a b) (d a b) := fun rs d a b => le_fold _ (fun d r a b => keep_le d _ _ _ a b) rs d a b
theorem ropes_at : ∀ (rs : List Rope) (d : Tab) (r : Rope), r ∈ rs → Le (ropesD d rs r.f.toNat r.r.toNat) (some r.l)
  | [], _, _, h => by cases h
  | q :: rs, d, r, h => by
    rcases List.mem_cons.mp h with rfl | h
    · exact (ropes_le rs (keepD d r.f.toNat r.r.toNat r.l) _ _).trans (keep_at d _ _ _)
    · exact ropes_at rs (keepD d q.f.toNat q.r.toNat q.l) r h
theorem chain_rope {n : Nat} {rs : List Rope} {r : Rope} (h : r ∈ rs) : Le (chainTab n rs r.f.toNat r.r.toNat) (some r.l) := (all_le n _ n _ _).trans (ropes_at rs _ r h)
theorem chain_diag {n : Nat} {rs : List Rope} {i : Nat} (h : i < n) : Le (chainTab n rs i i) (some 0) := by
  refine (all_le n _ n i i).trans ((ropes_le rs _ i i).trans ?_)
  unfold baseD
  rw [if_pos ⟨rfl, h⟩]
  exact Le.refl _
/-! the table is closed: no way by a third barge is less -/
def PassI (d : Tab) (m : Nat) (c : Tab) : Prop := ∀ a b, c a b = d a b ∨ ∃ p q, d a m = some p ∧ d m b = some q ∧ c a b = some (p + q) ∧ ∀ y, d a b = some y → p + q < y
theorem PassI.col {d c : Tab} {m : Nat} (h : PassI d m c) (h0 : d m m = some 0) (a : Nat) : c a m = d a m := by
  rcases h a m with e | ⟨p, q, e1, e2, e3, e4⟩
  · exact e
  · rw [h0] at e2
    cases e2
    have := e4 p e1
    omega
theorem PassI.row {d c : Tab} {m : Nat} (h : PassI d m c) (h0 : d m m = some 0) (b : Nat) : c m b = d m b := by
  rcases h m b with e | ⟨p, q, e1, e2, e3, e4⟩
  · exact e
  · rw [h0] at e1
    cases e1
    have := e4 q e2
    omega
theorem PassI.step {d c : Tab} {m : Nat} (h : PassI d m c) (h0 : d m m = some 0) (i j : Nat) : PassI d m (fwStep c m i j) ∧ ∀ p q, d i m = some p → d m j = some q → Le (fwStep c m i j i j) (some (p + q)) := by
  rcases step_cases c m i j with ⟨e, he⟩ | ⟨p, q, e1, e2, e⟩
  · rw [e]
    refine ⟨h, fun p q ep eq => ?_⟩
    rw [h.col h0, h.row h0, ep, eq] at he
    rcases he with he | he <;> cases he
  · rw [e]
    rw [h.col h0] at e1
    rw [h.row h0] at e2
    refine ⟨fun a b => ?_, fun p' q' ep eq => ?_⟩
    · rcases keep_cases c i j (p + q) with ⟨k, hk⟩ | ⟨k, _⟩
      · rw [k]
        by_cases hab : a = i ∧ b = j
        · obtain ⟨rfl, rfl⟩ := hab
          refine .inr ⟨p, q, e1, e2, setD_at c a b _, fun y ey => ?_⟩
          rcases h a b with e' | ⟨p', q', f1, f2, f3, _⟩
          · exact hk y (e'.trans ey)
          · rw [e1] at f1
            rw [e2] at f2
            cases f1
            cases f2
            have := hk _ f3
            omega
        · rw [setD_ne c _ hab]
          exact h a b
      · rw [k]
        exact h a b
    · rw [e1] at ep
      rw [e2] at eq
      cases ep
      cases eq
      exact keep_at c i j _
theorem pass_row (n : Nat) {d c : Tab} {m : Nat} (h : PassI d m c) (h0 : d m m = some 0) (i : Nat) : ∀ k, PassI d m (fwRow n c m i k) ∧ (∀ a b, Le (fwRow n c m i k a b) (c a b)) ∧ ∀ j, j < k → ∀ p q, d i m = some p → d m j = some q → Le (fwRow n c m i k i j) (some (p + q))
  | 0 => ⟨h, fun _ _ => Le.refl _, fun j hj => absurd hj (Nat.not_lt_zero j)⟩
  | k + 1 => by
    obtain ⟨h1, h2, h3⟩ := pass_row n h h0 i k
    obtain ⟨g1, g2⟩ := h1.step h0 i k
    rw [fwRow_succ]
    refine ⟨g1, fun a b => (step_le _ _ _ _ _ _).trans (h2 a b), fun j hj p q ep eq => ?_⟩
    by_cases hjk : j = k
    · subst hjk
      exact g2 p q ep eq
    · exact (step_le _ _ _ _ _ _).trans (h3 j (by omega) p q ep eq)
theorem pass_mid (n : Nat) {d : Tab} {m : Nat} (h0 : d m m = some 0) : ∀ k, PassI d m (fwMid n d m k) ∧ ∀ i, i < k → ∀ j, j < n → ∀ p q, d i m = some p → d m j = some q → Le (fwMid n d m k i j) (some (p + q))
  | 0 => ⟨fun _ _ => .inl rfl, fun i hi => absurd hi (Nat.not_lt_zero i)⟩
  | k + 1 => by
    obtain ⟨h1, h2⟩ := pass_mid n h0 k
    obtain ⟨g1, g2, g3⟩ := pass_row n h1 h0 k n
    rw [fwMid_succ]
    refine ⟨g1, fun i hi j hj p q ep eq => ?_⟩
    by_cases hik : i = k
    · subst hik
      exact g3 j hj p q ep eq
    · exact (g2 i j).trans (h2 i (by omega) j hj p q ep eq)
/-- closed by the first k barges -/
def Closed (n : Nat) (d : Tab) (k : Nat) : Prop := ∀ m, m < k → ∀ i, i < n → ∀ j, j < n → ∀ p q, d i m = some p → d m j = some q → Le (d i j) (some (p + q))
def Diag (n : Nat) (d : Tab) : Prop := ∀ i, i < n → d i i = some 0
theorem le_some {e : Option Int} {y z : Int} (h : Le e (some y)) (hy : y ≤ z) : Le e (some z) := fun u eu => by
  cases eu
  obtain ⟨v, ev, hv⟩ := h y rfl
  exact ⟨v, ev, by omega⟩
theorem closed_mid {n : Nat} {d : Tab} {k : Nat} (hk : k < n) (hd : Diag n d) (h : Closed n d k) : Closed n (fwMid n d k n) (k + 1) := by
  have h0 := hd k hk
  obtain ⟨hp, hq⟩ := pass_mid n h0 n
  have hle : ∀ a b, Le (fwMid n d k n a b) (d a b) := fun a b => le_fold _ (fun d i a b => le_fold _ (fun d j a b => step_le d k i j a b) _ d a b) _ d a b
  intro m hm i hi j hj p q ep eq
  by_cases hmk : m = k
  · subst hmk
    rw [hp.col h0] at ep
    rw [hp.row h0] at eq
    exact hq i hi j hj p q ep eq
  · have hm' : m < k := by omega
    have hmn : m < n := by omega
    rcases hp i m with e | ⟨p1, q1, a1, a2, a3, _⟩
    · rw [e] at ep
      rcases hp m j with e' | ⟨p2, q2, b1, b2, b3, _⟩
      · rw [e'] at eq
        exact (hle i j).trans (h m hm' i hi j hj p q ep eq)
      · rw [eq] at b3
        cases b3
        obtain ⟨z, ez, hz⟩ := h m hm' i hi k hk p p2 ep b1 _ rfl
        exact le_some (hq i hi j hj z q2 ez b2) (by omega)
    · rw [ep] at a3
      cases a3
      rcases hp m j with e' | ⟨p2, q2, b1, b2, b3, _⟩
      · rw [e'] at eq
        obtain ⟨z, ez, hz⟩ := h m hm' k hk j hj q1 q a2 eq _ rfl
        exact le_some (hq i hi j hj p1 z a1 ez) (by omega)
      · rw [eq] at b3
        cases b3
        obtain ⟨z, ez, hz⟩ := h m hm' k hk k hk q1 p2 a2 b1 _ rfl
        rw [h0] at ez
        cases ez
        exact le_some (hq i hi j hj p1 q2 a1 b2) (by omega)
theorem diag_of {n : Nat} {x : Nat → Int} {d : Tab} (hs : Sound x d) (h : ∀ i, i < n → Le (d i i) (some 0)) : Diag n d := fun i hi => by
  obtain ⟨z, ez, hz⟩ := h i hi 0 rfl
  have := hs i i z ez
  have : z = 0 := by omega
  rw [ez, this]
theorem fwAll_good {n : Nat} {x : Nat → Int} {d : Tab} (hs : Sound x d) (hd : Diag n d) : ∀ k, k ≤ n → Diag n (fwAll n d k) ∧ Closed n (fwAll n d k) k
  | 0, _ => ⟨hd, fun m hm => absurd hm (Nat.not_lt_zero m)⟩
  | k + 1, hk => by
    obtain ⟨h1, h2⟩ := fwAll_good hs hd k (by omega)
    refine ⟨diag_of (sound_all hs n (k + 1)) fun i hi => ?_, ?_⟩
    · have := all_le n d (k + 1) i i
      rw [hd i hi] at this
      exact this
    · rw [fwAll_succ]
      exact closed_mid (by omega) h1 h2
theorem chain_good {n : Nat} {x : Nat → Int} {rs : List Rope} (hr : ∀ r ∈ rs, HoldsR x r) : Diag n (chainTab n rs) ∧ Closed n (chainTab n rs) n := by
  refine fwAll_good (sound_ropes rs (sound_base x n) hr) (diag_of (sound_ropes rs (sound_base x n) hr) fun i hi => (ropes_le rs _ i i).trans ?_) n (Nat.le_refl n)
  unfold baseD
  rw [if_pos ⟨rfl, hi⟩]
  exact Le.refl _
end Hx

set_option Elab.async false
set_option linter.all false
set_option maxRecDepth 100000
set_option maxHeartbeats 4000000
namespace Hx
open PySem PySem.Spec PyProof.Rows L2
def topS (i : Nat) : Stmt := PySem.Challenge.pw_haulropes_k18_whole_hauls_by_chains.main.body.getD i (.Pass ⟨0, 0, 0, 0⟩)
local macro_rules | `(tactic| walk_at "rd") => `(tactic| (try simp only [q_var, q_c, q_op, q_un, q_rI, q_rI0, q_rU, q_rEq, q_rNe, q_test, q_tB, q_and, q_or, q_not, q_andV, q_orV, q_notV, q_if, q_isN, q_notN, q_chain, q_next, q_seq, q_break, q_cont, q_drop, q_ret, q_retN, q_ifS, q_never, q_gN, q_gNil, q_gCons, q_gTup, q_gSub, q_asg, q_par, q_aug, q_nil, q_cons, q_tup, q_lst, q_call, q_cb, q_noPart, q_part, q_sl, q_bm0, q_bm, q_yes, q_for, q_lc, q_iList, q_iTup, q_iRng1, q_iEnumT, q_iEnum, q_iRng2, q_iZipA, q_ipI, q_ckw, q_len, q_listOf, q_tupleOf, L2.start, cx_K, wipe, List.map_cons, List.map_nil, List.length_cons, List.length_nil, List.cons_append, List.nil_append, List.append_nil, List.replicate, List.getElem?_cons_zero, List.getElem?_cons_succ, List.set_cons_zero, List.set_cons_succ, Option.some.injEq, List.cons.injEq, exists_eq_left', exists_eq_left, exists_and_left, V.int.injEq, V.bl.injEq, V.ref.injEq, if_true, if_false, Bool.not_true, Bool.not_false, true_and, and_true, Bool.false_eq_true, ite_true, ite_false, Nat.reduceAdd, Nat.reduceSub, reduceCtorEq, decide_false, decide_true, Int.toNat_natCast]))
section
variable {P : Program} {w : World} {K : PySem.W.Frag} {mg : Str → Option Value} {base : Heap}
def s_is_number : Stmt := topS 14
abbrev n_is_number : List Str := ["value", "low", "high"]
abbrev p_is_number : List Str := ["value", "low", "high"]
theorem sc_is_number : FnScope n_is_number p_is_number (defScope s_is_number) := ⟨rfl, rfl, rfl, by decide +kernel, rfl, by decide +kernel, by decide +kernel⟩
def sp_is_number (K : PySem.W.Frag) : Sp := fun vs H Q _ => ∃ i lo hi : Int, vs = [.int i, .int lo, .int hi] ∧ Q (.bl (decide (lo ≤ i ∧ i ≤ hi))) H
theorem df_is_number (T : Here K mg "is_number" s_is_number) (B : Blt mg) : Df P w K mg base CX0 "is_number" 1 p_is_number (sp_is_number K) := by
  refine T.df sc_is_number (fun _ _ _ _ _ _ us hl => match us, hl with | [_, _, _], _ => rfl) (fun vs H Q E h => by obtain ⟨_, _, _, rfl, _⟩ := h; rfl) (fun f cdv A outer s H vs Q E hr h => ?_)
  obtain ⟨i, lo, hi, rfl, q⟩ := h
  refine ⟨_, pss_cons (ps_if (PW.pt (pw_or (pt_not (pt_val (pe_callB (isi K rfl) (by rfl) B.isinstance (by decide +kernel) (pa_cons (pv 0) (pa_cons ((pe_bltn (v := .ty "int") (by rfl) B.int (by decide +kernel) rfl)) pa_nil))))) (pw_or1 (pt_val (pe_callB (isi K rfl) (by rfl) B.isinstance (by decide +kernel) (pa_cons (pv 0) (pa_cons ((pe_bltn (v := .ty "bool") (by rfl) B.bool (by decide +kernel) rfl)) pa_nil))))))) (pss_one (ps_ret (pe_bl))) (pss_nil))
      (pss_one (ps_ret (pe_chain op_le op_le (pv 1) (pv 0) (pv 2)))), ?_⟩
  walk_at "rd"
  refine isi_yes (.base (.int i)) (by decide +kernel) ?_
  walk_at "rd"
  refine isi_no (.base (.int i)) (by decide +kernel) ?_
  walk_at "rd"
  by_cases h1 : lo ≤ i
  · rw [if_pos (decide_eq_true h1)]
    simpa only [h1, true_and] using q
  · rw [if_neg (by simpa using h1)]
    simpa only [h1, false_and, decide_false] using q
def s_is_barge : Stmt := topS 15
abbrev n_is_barge : List Str := ["value", "count"]
abbrev p_is_barge : List Str := ["value", "count"]
theorem sc_is_barge : FnScope n_is_barge p_is_barge (defScope s_is_barge) := ⟨rfl, rfl, rfl, by decide +kernel, rfl, by decide +kernel, by decide +kernel⟩
def sp_is_barge (K : PySem.W.Frag) : Sp := fun vs H Q _ => ∃ i n : Int, vs = [.int i, .int n] ∧ Q (.bl (decide (0 ≤ i ∧ i < n))) H
theorem df_is_barge (T : Here K mg "is_barge" s_is_barge) (D_is_number : Df P w K mg base CX0 "is_number" 1 p_is_number (sp_is_number K)) : Df P w K mg base CX0 "is_barge" 2 p_is_barge (sp_is_barge K) := by
  refine T.df sc_is_barge (fun _ _ _ _ _ _ us hl => match us, hl with | [_, _], _ => rfl) (fun vs H Q E h => by obtain ⟨_, _, rfl, _⟩ := h; rfl) (fun f cdv A outer s H vs Q E hr h => ?_)
  obtain ⟨i, n, rfl, q⟩ := h
  refine ⟨_, pss_one (ps_ret (D_is_number.call (hr.mono (by decide)) (by rfl) (pa_cons (pv 0) (pa_cons (pe_int) (pa_cons (pe_op op_sub (pv 1) (pe_int)) pa_nil))))), ?_⟩
  walk_at "rd"
  refine ⟨i, 0, n - 1, rfl, ?_⟩
  have e : decide (0 ≤ i ∧ i < n) = decide (0 ≤ i ∧ i ≤ n - 1) := decide_eq_decide.mpr (by omega)
  rw [← e]
  exact q
/-! fleets -/
def RopeV (K : PySem.W.Frag) (H : Hp) (v : V) (r : Rope) : Prop := ∃ c, v = .ref c ∧ SqT K H c [.int r.f, .int r.r, .int r.l]
def RopeOk (n : Int) (r : Rope) : Prop := 0 ≤ r.f ∧ r.f < n ∧ 0 ≤ r.r ∧ r.r < n ∧ r.f ≠ r.r ∧ -99 ≤ r.l ∧ r.l ≤ 99
theorem RopeV.mono {H H' : Hp} {v : V} {r : Rope} (h : RopeV K H v r) (e : Same H H') : RopeV K H' v r := by
  obtain ⟨c, rfl, h⟩ := h
  exact ⟨c, rfl, sqt_same e h⟩
def s_is_rope : Stmt := topS 16
abbrev n_is_rope : List Str := ["value", "count", "front", "rear", "length"]
abbrev p_is_rope : List Str := ["value", "count"]
theorem sc_is_rope : FnScope n_is_rope p_is_rope (defScope s_is_rope) := ⟨rfl, rfl, rfl, by decide +kernel, rfl, by decide +kernel, by decide +kernel⟩
def sp_is_rope (K : PySem.W.Frag) : Sp := fun vs H Q _ => ∃ (v : V) (r : Rope) (n : Int), vs = [v, .int n] ∧ RopeV K H v r ∧ RopeOk n r ∧ Q (.bl true) H
theorem df_is_rope (T : Here K mg "is_rope" s_is_rope) (B : Blt mg) (C_LONGEST : ∃ u, mg "LONGEST" = some (.int 99 u)) (D_is_number : Df P w K mg base CX0 "is_number" 1 p_is_number (sp_is_number K))
    (D_is_barge : Df P w K mg base CX0 "is_barge" 2 p_is_barge (sp_is_barge K)) : Df P w K mg base CX0 "is_rope" 3 p_is_rope (sp_is_rope K) := by
  refine T.df sc_is_rope (fun _ _ _ _ _ _ us hl => match us, hl with | [_, _], _ => rfl) (fun vs H Q E h => by obtain ⟨_, _, _, rfl, _⟩ := h; rfl) (fun f cdv A outer s H vs Q E hr h => ?_)
  obtain ⟨v, r, n, rfl, ⟨c, rfl, hc⟩, ⟨h1, h2, h3, h4, h5, h6, h7⟩, q⟩ := h
  refine ⟨_, pss_cons (ps_if (PW.pt (pw_or (pt_not (pt_val (pe_callB (isi K rfl) (by rfl) B.isinstance (by decide +kernel) (pa_cons (pv 0) (pa_cons ((pe_bltn (v := .ty "tuple") (by rfl) B.tuple (by decide +kernel) rfl)) pa_nil))))) (pw_or1 (pt_cmpR op_ne (pe_callB (lenQ K rfl) (by rfl) B.len (by decide +kernel) (pa_cons (pv 0) pa_nil)) (pe_int) (nomark _))))) (pss_one (ps_ret (pe_bl))) (pss_nil))
      (pss_cons (ps_asg (pv 0) (pgTup K rfl (n := 3) rfl (pgs_cons (pg_name (i := 2) sc_is_rope.nd rfl (by first | exact Or.inl rfl | exact Or.inr rfl)) (pgs_cons (pg_name (i := 3) sc_is_rope.nd rfl (by first | exact Or.inl rfl | exact Or.inr rfl)) (pgs_cons (pg_name (i := 4) sc_is_rope.nd rfl (by first | exact Or.inl rfl | exact Or.inr rfl)) pgs_nil)))))
      (pss_cons (ps_if (PW.pt (pw_or (pt_not (pt_val (D_is_barge.call (hr.mono (by decide)) (by rfl) (pa_cons (pv 2) (pa_cons (pv 1) pa_nil))))) (pw_or1 (pt_not (pt_val (D_is_barge.call (hr.mono (by decide)) (by rfl) (pa_cons (pv 3) (pa_cons (pv 1) pa_nil)))))))) (pss_one (ps_ret (pe_bl))) (pss_nil))
      (pss_one (ps_ret (pe_and (pe_cmpR op_ne (pv 2) (pv 3) (nomark _)) (pe_one (D_is_number.call (hr.mono (by decide)) (by rfl) (pa_cons (pv 4) (pa_cons (pe_un un_neg (pe_gi (by rfl) C_LONGEST)) (pa_cons (pe_gi (by rfl) C_LONGEST) pa_nil)))))))))), ?_⟩
  walk_at "rd"
  refine isi_yes (tyx_tup hc) (by decide +kernel) ?_
  walk_at "rd"
  refine ⟨_, .inr hc, rfl, iteNS rfl ⟨_, hc, rfl, ?_⟩⟩
  walk_at "rd"
  refine ⟨_, _, rfl, ?_⟩
  rw [decide_eq_true (show 0 ≤ r.f ∧ r.f < n from ⟨h1, h2⟩)]
  walk_at "rd"
  refine ⟨_, _, rfl, ?_⟩
  rw [decide_eq_true (show 0 ≤ r.r ∧ r.r < n from ⟨h3, h4⟩)]
  walk_at "rd"
  refine ⟨rfl, ?_⟩
  rw [decide_eq_false h5]
  walk_at "rd"
  refine ⟨_, _, _, rfl, ?_⟩
  rw [decide_eq_true (show -99 ≤ r.l ∧ r.l ≤ 99 from ⟨h6, h7⟩)]
  exact q
/-- the value v is the fleet of n barges with the ropes rs -/
def FleetV (K : PySem.W.Frag) (H : Hp) (v : V) (n : Int) (rs : List Rope) : Prop := ∃ a b xs, v = .ref a ∧ SqT K H a [.int n, .ref b] ∧ SqT K H b xs ∧ xs.length = rs.length ∧ ∀ (i : Nat) (r : Rope), rs[i]? = some r → ∃ v, xs[i]? = some v ∧ RopeV K H v r
def FleetOk (n : Int) (rs : List Rope) : Prop := 1 ≤ n ∧ n ≤ 8 ∧ rs.length ≤ 40 ∧ ∀ r ∈ rs, RopeOk n r
def s_check_fleet : Stmt := topS 17
abbrev n_check_fleet : List Str := ["fleet", "count", "ropes", "index", "rope"]
abbrev p_check_fleet : List Str := ["fleet"]
theorem sc_check_fleet : FnScope n_check_fleet p_check_fleet (defScope s_check_fleet) := ⟨rfl, rfl, rfl, by decide +kernel, rfl, by decide +kernel, by decide +kernel⟩
def sp_check_fleet (K : PySem.W.Frag) : Sp := fun vs H Q _ => ∃ (v : V) (n : Int) (rs : List Rope), vs = [v] ∧ FleetV K H v n rs ∧ FleetOk n rs ∧ ∀ H', Same H H' → Q .non H'
theorem df_check_fleet (T : Here K mg "check_fleet" s_check_fleet) (B : Blt mg) (C_MOST_BARGES : ∃ u, mg "MOST_BARGES" = some (.int 8 u)) (C_MOST_ROPES : ∃ u, mg "MOST_ROPES" = some (.int 40 u))
    (D_is_number : Df P w K mg base CX0 "is_number" 1 p_is_number (sp_is_number K)) (D_is_rope : Df P w K mg base CX0 "is_rope" 3 p_is_rope (sp_is_rope K)) : Df P w K mg base CX0 "check_fleet" 4 p_check_fleet (sp_check_fleet K) := by
  refine T.df sc_check_fleet (fun _ _ _ _ _ _ us hl => match us, hl with | [_], _ => rfl) (fun vs H Q E h => by obtain ⟨_, _, _, rfl, _⟩ := h; rfl) (fun f cdv A outer s H vs Q E hr h => ?_)
  obtain ⟨v, n, rs, rfl, ⟨a, b, xs, rfl, ha, hb, hl, hx⟩, ⟨h1, h2, h3, h4⟩, q⟩ := h
  refine ⟨_, pss_cons (ps_if (PW.pt (pw_or (pt_not (pt_val (pe_callB (isi K rfl) (by rfl) B.isinstance (by decide +kernel) (pa_cons (pv 0) (pa_cons ((pe_bltn (v := .ty "tuple") (by rfl) B.tuple (by decide +kernel) rfl)) pa_nil))))) (pw_or1 (pt_cmpR op_ne (pe_callB (lenQ K rfl) (by rfl) B.len (by decide +kernel) (pa_cons (pv 0) pa_nil)) (pe_int) (nomark _))))) (pss_one (ps_never)) (pss_nil))
      (pss_cons (ps_asg (pv 0) (pgTup K rfl (n := 2) rfl (pgs_cons (pg_name (i := 1) sc_check_fleet.nd rfl (by first | exact Or.inl rfl | exact Or.inr rfl)) (pgs_cons (pg_name (i := 2) sc_check_fleet.nd rfl (by first | exact Or.inl rfl | exact Or.inr rfl)) pgs_nil))))
      (pss_cons (ps_if (pt_not (pt_val (D_is_number.call (hr.mono (by decide)) (by rfl) (pa_cons (pv 1) (pa_cons (pe_int) (pa_cons (pe_gi (by rfl) C_MOST_BARGES) pa_nil)))))) (pss_one (ps_never)) (pss_nil))
      (pss_cons (ps_if (pt_not (pt_val (pe_callB (isi K rfl) (by rfl) B.isinstance (by decide +kernel) (pa_cons (pv 2) (pa_cons ((pe_bltn (v := .ty "tuple") (by rfl) B.tuple (by decide +kernel) rfl)) pa_nil))))) (pss_one (ps_never)) (pss_nil))
      (pss_one (ps_for PassesOwn.never rfl (pi_enumT (by rfl) B.enumerate (pa_cons (pv 2) pa_nil)) (pgTup K rfl (n := 2) rfl (pgs_cons (pg_name (i := 3) sc_check_fleet.nd rfl (by first | exact Or.inl rfl | exact Or.inr rfl)) (pgs_cons (pg_name (i := 4) sc_check_fleet.nd rfl (by first | exact Or.inl rfl | exact Or.inr rfl)) pgs_nil))) (pss_one (ps_if (PW.pt (pw_or (pt_cmpR op_eq (pv 3) (pe_gi (by rfl) C_MOST_ROPES) (nomark _)) (pw_or1 (pt_not (pt_val (D_is_rope.call (hr.mono (by decide)) (by rfl) (pa_cons (pv 4) (pa_cons (pv 1) pa_nil)))))))) (pss_one (ps_never)) (pss_nil)))))))), ?_⟩
  walk_at "rd"
  refine isi_yes (tyx_tup ha) (by decide +kernel) ?_
  walk_at "rd"
  refine ⟨_, .inr ha, rfl, iteNS rfl ⟨_, ha, rfl, ?_⟩⟩
  walk_at "rd"
  refine ⟨_, _, _, rfl, ?_⟩
  rw [decide_eq_true (show 1 ≤ n ∧ n ≤ 8 from ⟨h1, h2⟩)]
  walk_at "rd"
  refine isi_yes (tyx_tup hb) (by decide +kernel) ?_
  walk_at "rd"
  refine ⟨⟨_, hb⟩, ?_⟩
  refine forEnumT (xs := xs) (fun i σ H' => ∃ x3 x4, σ = [some (.ref a), some (.int n), some (.ref b), x3, x4] ∧ Same H H') ⟨_, _, rfl, .refl _⟩ (fun i σ H' _ p => ?_) (fun i x T σ H' hx' p hT => ?_) (fun σ H' p => ?_)
  · obtain ⟨_, _, _, e⟩ := p
    exact sqt_same e hb
  · obtain ⟨x3, x4, rfl, e⟩ := p
    have hi : i < rs.length := by
      rw [← hl]
      exact (List.getElem?_eq_some_iff.mp hx').1
    obtain ⟨u, hu, hv⟩ := hx i rs[i] (List.getElem?_eq_getElem hi)
    cases hx'.symm.trans hu
    walk_at "rd"
    refine ⟨_, .of upd_same, rfl, ?_⟩
    walk_at "rd"
    refine ⟨rfl, ?_⟩
    rw [decide_eq_false (show ¬ (i : Int) = 40 by omega)]
    walk_at "rd"
    refine ⟨_, _, _, rfl, (hv.mono e).mono (same_upd hT), h4 _ (List.getElem_mem hi), ?_⟩
    walk_at "rd"
    exact ⟨_, _, ⟨rfl, rfl⟩, e.trans (same_upd hT)⟩
  · obtain ⟨_, _, _, e⟩ := p
    exact q _ e
/-! entries: positions (ints), or also None -/
def ovV : Option Int → V
  | none => .non
  | some i => .int i
theorem cut_all (k : Nat) {n : Int} (h : (k : Int) = n) : HT.sIx k 0 none = 0 ∧ HT.sIx k k (some n) = k := by
  subst h
  exact ⟨rfl, by rw [HT.sIx_nat, Nat.min_self]⟩
def s_first_wrong_entry : Stmt := topS 18
abbrev n_first_wrong_entry : List Str := ["entries", "count", "blank", "index", "entry"]
abbrev p_first_wrong_entry : List Str := ["entries", "count", "blank"]
theorem sc_first_wrong_entry : FnScope n_first_wrong_entry p_first_wrong_entry (defScope s_first_wrong_entry) := ⟨rfl, rfl, rfl, by decide +kernel, rfl, by decide +kernel, by decide +kernel⟩
def sp_first_wrong_entry (K : PySem.W.Frag) : Sp := fun vs H Q _ => ∃ (a : Addr) (es : List (Option Int)) (n : Int) (b : Bool), vs = [.ref a, .int n, .bl b] ∧ SqT K H a (es.map ovV) ∧ (es.length : Int) = n ∧
  (∀ e ∈ es, (e = none → b = true) ∧ ∀ i, e = some i → -9999 ≤ i ∧ i ≤ 9999) ∧ ∀ H', Same H H' → Q .non H'
theorem df_first_wrong_entry (T : Here K mg "first_wrong_entry" s_first_wrong_entry) (B : Blt mg) (C_FARTHEST : ∃ u, mg "FARTHEST" = some (.int 9999 u))
    (D_is_number : Df P w K mg base CX0 "is_number" 1 p_is_number (sp_is_number K)) : Df P w K mg base CX0 "first_wrong_entry" 2 p_first_wrong_entry (sp_first_wrong_entry K) := by
  refine T.df sc_first_wrong_entry (fun _ _ _ _ _ _ us hl => match us, hl with | [_, _, _], _ => rfl) (fun vs H Q E h => by obtain ⟨_, _, _, _, rfl, _⟩ := h; rfl) (fun f cdv A outer s H vs Q E hr h => ?_)
  obtain ⟨a, es, n, b, rfl, ha, hl, hes, q⟩ := h
  refine ⟨_, pss_cons (ps_if (pt_not (pt_val (pe_callB (isi K rfl) (by rfl) B.isinstance (by decide +kernel) (pa_cons (pv 0) (pa_cons ((pe_bltn (v := .ty "tuple") (by rfl) B.tuple (by decide +kernel) rfl)) pa_nil))))) (pss_one (ps_ret (pe_int))) (pss_nil))
      (pss_cons (ps_for PassesOwn.never rfl (pi_enumT (by rfl) B.enumerate (pa_cons (pe_slice (slA K rfl) (pv 0) po_none (po_some (pv 1))) pa_nil)) (pgTup K rfl (n := 2) rfl (pgs_cons (pg_name (i := 3) sc_first_wrong_entry.nd rfl (by first | exact Or.inl rfl | exact Or.inr rfl)) (pgs_cons (pg_name (i := 4) sc_first_wrong_entry.nd rfl (by first | exact Or.inl rfl | exact Or.inr rfl)) pgs_nil))) (pss_cons (ps_if (PW.pt (pw_and (pt_val (pv 2)) (pw_and1 (pt_cmpR op_isN (pv 4) (pe_non) (nomark _))))) (pss_one (ps_continue)) (pss_nil))
      (pss_one (ps_if (pt_not (pt_val (D_is_number.call (hr.mono (by decide)) (by rfl) (pa_cons (pv 4) (pa_cons (pe_un un_neg (pe_gi (by rfl) C_FARTHEST)) (pa_cons (pe_gi (by rfl) C_FARTHEST) pa_nil)))))) (pss_one (ps_ret (pv 3))) (pss_nil)))))
      (pss_cons (ps_if (pt_cmpR op_ne (pe_callB (lenQ K rfl) (by rfl) B.len (by decide +kernel) (pa_cons (pv 0) pa_nil)) (pv 1) (nomark _)) (pss_one (ps_ret (pe_callB (call_min2 rfl) (by rfl) B.min (by decide +kernel) (pa_cons (pe_callB (lenQ K rfl) (by rfl) B.len (by decide +kernel) (pa_cons (pv 0) pa_nil)) (pa_cons (pv 1) pa_nil))))) (pss_nil))
      (pss_one (ps_ret (pe_non))))), ?_⟩
  walk_at "rd"
  refine isi_yes (tyx_tup ha) (by decide +kernel) ?_
  walk_at "rd"
  have hl' : (es.map ovV).length = es.length := List.length_map ..
  refine ⟨a, _, rfl, ha, fun _ => ?_, fun e => absurd (cut_all _ (by rw [hl']; exact hl)) e⟩
  walk_at "rd"
  refine ⟨⟨_, ha⟩, ?_⟩
  refine forEnumT (xs := es.map ovV) (fun i σ H' => ∃ x3 x4, σ = [some (.ref a), some (.int n), some (.bl b), x3, x4] ∧ Same H H') ⟨_, _, rfl, .refl _⟩ (fun i σ H' _ p => ?_) (fun i x T σ H' hx' p hT => ?_) (fun σ H' p => ?_)
  · obtain ⟨_, _, _, e⟩ := p
    exact sqt_same e ha
  · obtain ⟨x3, x4, rfl, e⟩ := p
    obtain ⟨en, hen, rfl⟩ := List.mem_map.mp (List.mem_of_getElem? hx')
    obtain ⟨hn, hi⟩ := hes en hen
    walk_at "rd"
    refine ⟨_, .of upd_same, rfl, ?_⟩
    walk_at "rd"
    have eT := e.trans (same_upd (o := .tup [V.int i, ovV en]) hT)
    cases en with
    | none =>
      cases hn rfl
      simp only [ovV, decide_true, ite_true, exists_eq_left', true_and, and_true]
      exact ⟨_, _, ⟨rfl, rfl⟩, eT⟩
    | some k =>
      have hk := hi k rfl
      cases b <;> simp only [ovV, reduceCtorEq, decide_false, Bool.false_eq_true, ite_false, ite_true]
      all_goals
        refine ⟨k, _, _, rfl, ?_⟩
        rw [decide_eq_true (show -9999 ≤ k ∧ k ≤ 9999 from hk)]
        walk_at "rd"
        exact ⟨_, _, ⟨rfl, rfl⟩, eT⟩
  · obtain ⟨x3, x4, rfl, e⟩ := p
    walk_at "rd"
    refine ⟨_, .inr (sqt_same e ha), rfl, ?_⟩
    rw [decide_eq_true (show (((es.map ovV).length : Nat) : Int) = n by rw [hl']; exact hl)]
    walk_at "rd"
    exact q _ e
/-- the value v is positions -/
def IntsT (K : PySem.W.Frag) (H : Hp) (v : V) (xs : List Int) : Prop := ∃ a, v = .ref a ∧ SqT K H a (xs.map V.int)
theorem IntsT.mono {H H' : Hp} {v : V} {xs : List Int} (h : IntsT K H v xs) (e : Same H H') : IntsT K H' v xs := by
  obtain ⟨c, rfl, h⟩ := h
  exact ⟨c, rfl, sqt_same e h⟩
def OptsT (K : PySem.W.Frag) (H : Hp) (v : V) (xs : List (Option Int)) : Prop := ∃ a, v = .ref a ∧ SqT K H a (xs.map ovV)
theorem OptsT.mono {H H' : Hp} {v : V} {xs : List (Option Int)} (h : OptsT K H v xs) (e : Same H H') : OptsT K H' v xs := by
  obtain ⟨c, rfl, h⟩ := h
  exact ⟨c, rfl, sqt_same e h⟩
theorem FleetV.mono {H H' : Hp} {v : V} {n : Int} {rs : List Rope} (h : FleetV K H v n rs) (e : Same H H') : FleetV K H' v n rs := by
  obtain ⟨a, b, xs, rfl, ha, hb, hl, hx⟩ := h
  refine ⟨a, b, xs, rfl, sqt_same e ha, sqt_same e hb, hl, fun i r hr => ?_⟩
  obtain ⟨u, hu, hv⟩ := hx i r hr
  exact ⟨u, hu, hv.mono e⟩
def InRange (xs : List Int) : Prop := ∀ x ∈ xs, -9999 ≤ x ∧ x ≤ 9999
theorem some_map (xs : List Int) : (xs.map some).map ovV = xs.map V.int := by
  rw [List.map_map]
  rfl
def s_check_positions : Stmt := topS 19
abbrev n_check_positions : List Str := ["fleet", "positions", "index"]
abbrev p_check_positions : List Str := ["fleet", "positions"]
theorem sc_check_positions : FnScope n_check_positions p_check_positions (defScope s_check_positions) := ⟨rfl, rfl, rfl, by decide +kernel, rfl, by decide +kernel, by decide +kernel⟩
def sp_check_positions (K : PySem.W.Frag) : Sp := fun vs H Q _ => ∃ (v u : V) (n : Int) (rs : List Rope) (xs : List Int), vs = [v, u] ∧ FleetV K H v n rs ∧ IntsT K H u xs ∧ (xs.length : Int) = n ∧ InRange xs ∧ ∀ H', Same H H' → Q .non H'
theorem df_check_positions (T : Here K mg "check_positions" s_check_positions)
    (D_first_wrong_entry : Df P w K mg base CX0 "first_wrong_entry" 2 p_first_wrong_entry (sp_first_wrong_entry K)) : Df P w K mg base CX0 "check_positions" 3 p_check_positions (sp_check_positions K) := by
  refine T.df sc_check_positions (fun _ _ _ _ _ _ us hl => match us, hl with | [_, _], _ => rfl) (fun vs H Q E h => by obtain ⟨_, _, _, _, _, rfl, _⟩ := h; rfl) (fun f cdv A outer s H vs Q E hr h => ?_)
  obtain ⟨v, u, n, rs, xs, rfl, ⟨a, b, ys, rfl, ha, hb, hl, hx⟩, ⟨c, rfl, hc⟩, hn, hir, q⟩ := h
  refine ⟨_, pss_cons (ps_set (i := 2) sc_check_positions.nd rfl (by first | exact Or.inl rfl | exact Or.inr rfl) (D_first_wrong_entry.call (hr.mono (by decide)) (by rfl) (pa_cons (pv 1) (pa_cons (pe_ix (ixT K rfl) (pv 0) (pe_int) (fun _ _ => rfl)) (pa_cons (pe_bl) pa_nil)))))
      (pss_one (ps_if (pt_cmpR op_notN (pv 2) (pe_non) (nomark _)) (pss_one (ps_never)) (pss_nil))), ?_⟩
  walk_at "rd"
  refine ⟨a, _, 0, _, rfl, rfl, ha, atI_nat (j := 0) rfl, ?_⟩
  walk_at "rd"
  refine ⟨c, xs.map some, n, false, rfl, by rw [some_map]; exact hc, by rw [List.length_map]; exact hn, fun e he => ?_, fun H1 s1 => ?_⟩
  · obtain ⟨x, hx', rfl⟩ := List.mem_map.mp he
    refine ⟨(fun h => by cases h), fun i h => ?_⟩
    cases h
    exact hir x hx'
  · walk_at "rd"
    exact q _ s1
def s_check_wishes : Stmt := topS 22
abbrev n_check_wishes : List Str := ["fleet", "wishes", "index"]
abbrev p_check_wishes : List Str := ["fleet", "wishes"]
theorem sc_check_wishes : FnScope n_check_wishes p_check_wishes (defScope s_check_wishes) := ⟨rfl, rfl, rfl, by decide +kernel, rfl, by decide +kernel, by decide +kernel⟩
def OptOk (es : List (Option Int)) : Prop := ∀ e ∈ es, ∀ i, e = some i → -9999 ≤ i ∧ i ≤ 9999
def sp_check_wishes (K : PySem.W.Frag) : Sp := fun vs H Q _ => ∃ (v u : V) (n : Int) (rs : List Rope) (xs : List (Option Int)), vs = [v, u] ∧ FleetV K H v n rs ∧ OptsT K H u xs ∧ (xs.length : Int) = n ∧ OptOk xs ∧ ∀ H', Same H H' → Q .non H'
theorem df_check_wishes (T : Here K mg "check_wishes" s_check_wishes)
    (D_first_wrong_entry : Df P w K mg base CX0 "first_wrong_entry" 2 p_first_wrong_entry (sp_first_wrong_entry K)) : Df P w K mg base CX0 "check_wishes" 3 p_check_wishes (sp_check_wishes K) := by
  refine T.df sc_check_wishes (fun _ _ _ _ _ _ us hl => match us, hl with | [_, _], _ => rfl) (fun vs H Q E h => by obtain ⟨_, _, _, _, _, rfl, _⟩ := h; rfl) (fun f cdv A outer s H vs Q E hr h => ?_)
  obtain ⟨v, u, n, rs, xs, rfl, ⟨a, b, ys, rfl, ha, hb, hl, hx⟩, ⟨c, rfl, hc⟩, hn, hir, q⟩ := h
  refine ⟨_, pss_cons (ps_set (i := 2) sc_check_wishes.nd rfl (by first | exact Or.inl rfl | exact Or.inr rfl) (D_first_wrong_entry.call (hr.mono (by decide)) (by rfl) (pa_cons (pv 1) (pa_cons (pe_ix (ixT K rfl) (pv 0) (pe_int) (fun _ _ => rfl)) (pa_cons (pe_bl) pa_nil)))))
      (pss_one (ps_if (pt_cmpR op_notN (pv 2) (pe_non) (nomark _)) (pss_one (ps_never)) (pss_nil))), ?_⟩
  walk_at "rd"
  refine ⟨a, _, 0, _, rfl, rfl, ha, atI_nat (j := 0) rfl, ?_⟩
  walk_at "rd"
  refine ⟨c, xs, n, true, rfl, hc, hn, fun e he => ⟨fun _ => rfl, hir e he⟩, fun H1 s1 => ?_⟩
  walk_at "rd"
  exact q _ s1
end
end Hx

set_option Elab.async false
set_option linter.all false
set_option maxRecDepth 100000
set_option maxHeartbeats 4000000
namespace Hx
open PySem PySem.Spec PyProof.Rows L2
local macro_rules | `(tactic| walk_at "rd") => `(tactic| (try simp only [q_var, q_c, q_op, q_un, q_rI, q_rI0, q_rU, q_rEq, q_rNe, q_test, q_tB, q_and, q_or, q_not, q_andV, q_orV, q_notV, q_if, q_isN, q_notN, q_chain, q_next, q_seq, q_break, q_cont, q_drop, q_ret, q_retN, q_ifS, q_never, q_gN, q_gNil, q_gCons, q_gTup, q_gSub, q_asg, q_par, q_aug, q_nil, q_cons, q_tup, q_lst, q_call, q_cb, q_noPart, q_part, q_sl, q_bm0, q_bm, q_yes, q_for, q_lc, q_iList, q_iTup, q_iRng1, q_iEnumT, q_iEnum, q_iRng2, q_iZipA, q_ipI, q_ckw, q_len, q_listOf, q_tupleOf, L2.start, cx_K, wipe, List.map_cons, List.map_nil, List.length_cons, List.length_nil, List.cons_append, List.nil_append, List.append_nil, List.replicate, List.getElem?_cons_zero, List.getElem?_cons_succ, List.set_cons_zero, List.set_cons_succ, Option.some.injEq, List.cons.injEq, exists_eq_left', exists_eq_left, exists_and_left, V.int.injEq, V.bl.injEq, V.ref.injEq, if_true, if_false, Bool.not_true, Bool.not_false, true_and, and_true, Bool.false_eq_true, ite_true, ite_false, Nat.reduceAdd, Nat.reduceSub, reduceCtorEq, decide_false, decide_true, Int.toNat_natCast]))
section
variable {P : Program} {w : World} {K : PySem.W.Frag} {mg : Str → Option Value} {base : Heap}
/-- positions hold a rope -/
def Holds1 (xs : List Int) (r : Rope) : Prop := xs.getD r.f.toNat 0 - xs.getD r.r.toNat 0 ≤ r.l
def Valid (xs : List Int) (rs : List Rope) : Prop := ∀ r ∈ rs, Holds1 xs r
theorem at_int {xs : List Int} {i : Int} (h0 : 0 ≤ i) (h1 : i < xs.length) : atI (xs.map V.int) i = some (.int (xs.getD i.toNat 0)) := by
  have e : i = (i.toNat : Int) := (Int.toNat_of_nonneg h0).symm
  have hlt : i.toNat < xs.length := by omega
  refine at_of e ?_
  rw [List.getElem?_map, List.getElem?_eq_getElem hlt, List.getD_eq_getElem?_getD, List.getElem?_eq_getElem hlt]
  rfl
def s_unsatisfied_ropes : Stmt := topS 20
abbrev n_unsatisfied_ropes : List Str := ["fleet", "positions", "found", "index", "front", "rear", "length"]
abbrev p_unsatisfied_ropes : List Str := ["fleet", "positions"]
theorem sc_unsatisfied_ropes : FnScope n_unsatisfied_ropes p_unsatisfied_ropes (defScope s_unsatisfied_ropes) := ⟨rfl, rfl, rfl, by decide +kernel, rfl, by decide +kernel, by decide +kernel⟩
def sp_unsatisfied_ropes (K : PySem.W.Frag) : Sp := fun vs H Q _ => ∃ (v u : V) (n : Int) (rs : List Rope) (xs : List Int), vs = [v, u] ∧ FleetV K H v n rs ∧ IntsT K H u xs ∧ (xs.length : Int) = n ∧ (∀ r ∈ rs, RopeOk n r) ∧ Valid xs rs ∧
  ∀ H' p, Same H H' → H p = none → H' p = some (.lst []) → Q (.ref p) H'
theorem df_unsatisfied_ropes (T : Here K mg "unsatisfied_ropes" s_unsatisfied_ropes) (B : Blt mg) : Df P w K mg base CX0 "unsatisfied_ropes" 1 p_unsatisfied_ropes (sp_unsatisfied_ropes K) := by
  refine T.df sc_unsatisfied_ropes (fun _ _ _ _ _ _ us hl => match us, hl with | [_, _], _ => rfl) (fun vs H Q E h => by obtain ⟨_, _, _, _, _, rfl, _⟩ := h; rfl) (fun f cdv A outer s H vs Q E hr h => ?_)
  obtain ⟨v, u, n, rs, xs, rfl, ⟨a, b, ys, rfl, ha, hb, hl, hx⟩, ⟨c, rfl, hc⟩, hn, hok, hv, q⟩ := h
  refine ⟨_, pss_cons (ps_set (i := 2) sc_unsatisfied_ropes.nd rfl (by first | exact Or.inl rfl | exact Or.inr rfl) (pe_lst (pa_nil)))
      (pss_cons (ps_for PassesOwn.never rfl (pi_enumT (by rfl) B.enumerate (pa_cons (pe_ix (ixT K rfl) (pv 0) (pe_int) (fun _ _ => rfl)) pa_nil)) (pgTup K rfl (n := 2) rfl (pgs_cons (pg_name (i := 3) sc_unsatisfied_ropes.nd rfl (by first | exact Or.inl rfl | exact Or.inr rfl)) (pgs_cons (pgTup K rfl (n := 3) rfl (pgs_cons (pg_name (i := 4) sc_unsatisfied_ropes.nd rfl (by first | exact Or.inl rfl | exact Or.inr rfl)) (pgs_cons (pg_name (i := 5) sc_unsatisfied_ropes.nd rfl (by first | exact Or.inl rfl | exact Or.inr rfl)) (pgs_cons (pg_name (i := 6) sc_unsatisfied_ropes.nd rfl (by first | exact Or.inl rfl | exact Or.inr rfl)) pgs_nil)))) pgs_nil))) (pss_one (ps_if (pt_cmpR op_gt (pe_op op_sub (pe_ix (ixT K rfl) (pv 1) (pv 4) (fun _ _ => rfl)) (pe_ix (ixT K rfl) (pv 1) (pv 5) (fun _ _ => rfl))) (pv 6) (nomark _)) (pss_one (ps_expr (pe_bm PySem.F.plainAttrs_list PySem.F.slot_list_append PySem.F.type_list_append mt_append (pv 2) (pa_cons (pv 3) pa_nil)))) (pss_nil))))
      (pss_one (ps_ret (pv 2)))), ?_⟩
  walk_at "rd"
  refine ⟨Nat.zero_le _, fun p hp => ?_⟩
  have s0 := same_upd (o := .lst []) hp
  walk_at "rd"
  refine ⟨a, _, 1, _, rfl, rfl, sqt_same s0 ha, atI_nat (j := 1) rfl, ?_⟩
  walk_at "rd"
  refine ⟨⟨_, sqt_same s0 hb⟩, ?_⟩
  refine forEnumT (xs := ys) (fun i σ H' => ∃ x3 x4 x5 x6, σ = [some (.ref a), some (.ref c), some (.ref p), x3, x4, x5, x6] ∧ Same (upd H p (.lst [])) H') ⟨_, _, _, _, rfl, .refl _⟩ (fun i σ H' _ p => ?_) (fun i x T σ H' hx' pp hT => ?_) (fun σ H' pp => ?_)
  · obtain ⟨_, _, _, _, _, e⟩ := p
    exact sqt_same (s0.trans e) hb
  · obtain ⟨x3, x4, x5, x6, rfl, e⟩ := pp
    have hi : i < rs.length := by
      rw [← hl]
      exact (List.getElem?_eq_some_iff.mp hx').1
    obtain ⟨u, hu, d, rfl, hd⟩ := hx i rs[i] (List.getElem?_eq_getElem hi)
    cases hx'.symm.trans hu
    have e1 := s0.trans e
    have eT := same_upd (o := .tup [V.int i, V.ref d]) hT
    obtain ⟨h1, h2, h3, h4, h5, h6, h7⟩ := hok _ (List.getElem_mem hi)
    have hv1 := hv _ (List.getElem_mem hi)
    walk_at "rd"
    refine ⟨_, .of upd_same, rfl, ?_⟩
    walk_at "rd"
    refine ⟨_, sqt_same (e1.trans eT) hd, rfl, ?_⟩
    walk_at "rd"
    refine ⟨c, _, _, _, rfl, rfl, sqt_same (e1.trans eT) hc, at_int h1 (by omega), ?_⟩
    refine ⟨c, _, _, _, rfl, rfl, sqt_same (e1.trans eT) hc, at_int h3 (by omega), ?_⟩
    walk_at "rd"
    rw [decide_eq_false (show ¬ rs[i].l < xs.getD rs[i].f.toNat 0 - xs.getD rs[i].r.toNat 0 by
      have := hv1
      unfold Holds1 at this
      omega)]
    walk_at "rd"
    exact ⟨_, _, _, _, ⟨rfl, rfl, rfl, rfl⟩, e.trans eT⟩
  · obtain ⟨x3, x4, x5, x6, rfl, e⟩ := pp
    walk_at "rd"
    exact q _ p (s0.trans e) hp (e _ _ upd_same)
def s_check_valid : Stmt := topS 21
abbrev n_check_valid : List Str := ["fleet", "positions", "broken"]
abbrev p_check_valid : List Str := ["fleet", "positions"]
theorem sc_check_valid : FnScope n_check_valid p_check_valid (defScope s_check_valid) := ⟨rfl, rfl, rfl, by decide +kernel, rfl, by decide +kernel, by decide +kernel⟩
def sp_check_valid (K : PySem.W.Frag) : Sp := fun vs H Q _ => ∃ (v u : V) (n : Int) (rs : List Rope) (xs : List Int), vs = [v, u] ∧ FleetV K H v n rs ∧ IntsT K H u xs ∧ (xs.length : Int) = n ∧ InRange xs ∧ (∀ r ∈ rs, RopeOk n r) ∧ Valid xs rs ∧
  ∀ H', Same H H' → Q .non H'
theorem df_check_valid (T : Here K mg "check_valid" s_check_valid) (B : Blt mg) (D_check_positions : Df P w K mg base CX0 "check_positions" 3 p_check_positions (sp_check_positions K))
    (D_unsatisfied_ropes : Df P w K mg base CX0 "unsatisfied_ropes" 1 p_unsatisfied_ropes (sp_unsatisfied_ropes K)) : Df P w K mg base CX0 "check_valid" 4 p_check_valid (sp_check_valid K) := by
  refine T.df sc_check_valid (fun _ _ _ _ _ _ us hl => match us, hl with | [_, _], _ => rfl) (fun vs H Q E h => by obtain ⟨_, _, _, _, _, rfl, _⟩ := h; rfl) (fun f cdv A outer s H vs Q E hr h => ?_)
  obtain ⟨v, u, n, rs, xs, rfl, hv, hu, hn, hr', hok, hva, q⟩ := h
  refine ⟨_, pss_cons (ps_expr (D_check_positions.call (hr.mono (by decide)) (by rfl) (pa_cons (pv 0) (pa_cons (pv 1) pa_nil))))
      (pss_cons (ps_set (i := 2) sc_check_valid.nd rfl (by first | exact Or.inl rfl | exact Or.inr rfl) (D_unsatisfied_ropes.call (hr.mono (by decide)) (by rfl) (pa_cons (pv 0) (pa_cons (pv 1) pa_nil))))
      (pss_one (ps_if (pt_cmpR op_gt (pe_callB (lenQ K rfl) (by rfl) B.len (by decide +kernel) (pa_cons (pv 2) pa_nil)) (pe_int) (nomark _)) (pss_one (ps_never)) (pss_nil)))), ?_⟩
  walk_at "rd"
  refine ⟨v, u, n, rs, xs, rfl, hv, hu, hn, hr', fun H1 s1 => ?_⟩
  walk_at "rd"
  refine ⟨v, u, n, rs, xs, rfl, hv.mono s1, hu.mono s1, hn, hok, hva, fun H2 p s2 hp hp2 => ?_⟩
  walk_at "rd"
  refine ⟨_, .inl (.of hp2), ?_⟩
  walk_at "rd"
  exact q _ (s1.trans s2)
end
end Hx

set_option Elab.async false
set_option linter.all false
set_option maxRecDepth 100000
set_option maxHeartbeats 4000000
namespace Hx
open PySem PySem.Spec PyProof.Rows L2
local macro_rules | `(tactic| walk_at "rd") => `(tactic| (try simp only [q_var, q_c, q_op, q_un, q_rI, q_rI0, q_rU, q_rEq, q_rNe, q_test, q_tB, q_and, q_or, q_not, q_andV, q_orV, q_notV, q_if, q_isN, q_notN, q_chain, q_next, q_seq, q_break, q_cont, q_drop, q_ret, q_retN, q_ifS, q_never, q_gN, q_gNil, q_gCons, q_gTup, q_gSub, q_asg, q_par, q_aug, q_nil, q_cons, q_tup, q_lst, q_call, q_cb, q_noPart, q_part, q_sl, q_bm0, q_bm, q_yes, q_for, q_lc, q_iList, q_iTup, q_iRng1, q_iEnumT, q_iEnum, q_iRng2, q_iZipA, q_ipI, q_ckw, q_len, q_listOf, q_tupleOf, L2.start, cx_K, wipe, List.map_cons, List.map_nil, List.length_cons, List.length_nil, List.cons_append, List.nil_append, List.append_nil, List.replicate, List.getElem?_cons_zero, List.getElem?_cons_succ, List.set_cons_zero, List.set_cons_succ, Option.some.injEq, List.cons.injEq, exists_eq_left', exists_eq_left, exists_and_left, V.int.injEq, V.bl.injEq, V.ref.injEq, if_true, if_false, Bool.not_true, Bool.not_false, true_and, and_true, Bool.false_eq_true, ite_true, ite_false, Nat.reduceAdd, Nat.reduceSub, reduceCtorEq, decide_false, decide_true, Int.toNat_natCast]))
/-- row i of the table d, n wide -/
def rowV (n : Nat) (d : Tab) (i : Nat) : List V := (List.range n).map fun j => ovV (d i j)
theorem rowV_len (n : Nat) (d : Tab) (i : Nat) : (rowV n d i).length = n := by
  unfold rowV
  rw [List.length_map, List.length_range]
theorem rowV_at {n : Nat} (d : Tab) (i : Nat) {j : Nat} (h : j < n) : (rowV n d i)[j]? = some (ovV (d i j)) := by
  unfold rowV
  rw [List.getElem?_map, List.getElem?_range h]
  rfl
theorem rowV_set (n : Nat) (d : Tab) (i j : Nat) (l : Int) : (rowV n d i).set j (.int l) = rowV n (setD d i j l) i := by
  refine List.ext_getElem? fun k => ?_
  by_cases hk : k < n
  · rw [rowV_at _ _ hk]
    by_cases e : j = k
    · subst e
      rw [List.getElem?_set_self (by rw [rowV_len]; exact hk), setD_at]
      rfl
    · rw [List.getElem?_set_ne e, rowV_at _ _ hk, setD_ne]
      rintro ⟨_, h⟩
      exact e h.symm
  · rw [List.getElem?_eq_none (by rw [List.length_set, rowV_len]; omega), List.getElem?_eq_none (by rw [rowV_len]; omega)]
theorem rowV_other (n : Nat) (d : Tab) {i a : Nat} (j : Nat) (l : Int) (h : a ≠ i) : rowV n (setD d i j l) a = rowV n d a := by
  unfold rowV
  refine List.map_congr_left fun k _ => ?_
  rw [setD_ne]
  rintro ⟨e, _⟩
  exact h e
/-- the table d stands at t, its rows at as -/
structure TabAt (H : Hp) (t : Addr) (as : List Addr) (n : Nat) (d : Tab) : Prop where
  top : H t = some (.lst (as.map V.ref))
  len : as.length = n
  nd : as.Nodup
  nt : t ∉ as
  row : ∀ i a, as[i]? = some a → H a = some (.lst (rowV n d i))
theorem TabAt.get {H : Hp} {t : Addr} {as : List Addr} {n : Nat} {d : Tab} (h : TabAt H t as n d) {i : Nat} (hi : i < n) : ∃ a, as[i]? = some a ∧ (as.map V.ref)[i]? = some (.ref a) ∧ H a = some (.lst (rowV n d i)) := by
  have hl : i < as.length := by
    rw [h.len]
    exact hi
  have e : as[i]? = some as[i] := List.getElem?_eq_getElem hl
  refine ⟨_, e, ?_, h.row i _ e⟩
  rw [List.getElem?_map, e]
  rfl
theorem TabAt.put {H : Hp} {t : Addr} {as : List Addr} {n : Nat} {d : Tab} (h : TabAt H t as n d) {i : Nat} {a : Addr} (ha : as[i]? = some a) (j : Nat) (l : Int) :
    TabAt (upd H a (.lst ((rowV n d i).set j (.int l)))) t as n (setD d i j l) where
  top := by
    rw [upd_ne (fun e => h.nt (by rw [e]; exact List.mem_of_getElem? ha))]
    exact h.top
  len := h.len
  nd := h.nd
  nt := h.nt
  row := fun k b hb => by
    by_cases e : k = i
    · subst e
      rw [ha] at hb
      cases hb
      rw [upd_same, rowV_set]
    · rw [upd_ne (fun z => e (nd_ix h.nd hb (by rw [z]; exact ha))), rowV_other n d j l e]
      exact h.row k b hb
theorem TabAt.congr {H : Hp} {t : Addr} {as : List Addr} {n : Nat} {d d' : Tab} (h : TabAt H t as n d) (e : ∀ i j, i < n → j < n → d i j = d' i j) : TabAt H t as n d' :=
  ⟨h.top, h.len, h.nd, h.nt, fun i a ha => by
    have hi : i < n := by
      rw [← h.len]
      exact (List.getElem?_eq_some_iff.mp ha).1
    rw [h.row i a ha]
    unfold rowV
    rw [List.map_congr_left fun k hk => by rw [e i k hi (List.mem_range.mp hk)]]⟩
theorem TabAt.mono {H H' : Hp} {t : Addr} {as : List Addr} {n : Nat} {d : Tab} (h : TabAt H t as n d) (e : Same H H') : TabAt H' t as n d :=
  ⟨e _ _ h.top, h.len, h.nd, h.nt, fun i a ha => e _ _ (h.row i a ha)⟩
/-- all that was tracked but what stands at as is as it was -/
def ButL (as : List Addr) (H H' : Hp) : Prop := ∀ b o, b ∉ as → H b = some o → H' b = some o
section
variable {P : Program} {w : World} {K : PySem.W.Frag} {mg : Str → Option Value} {base : Heap}
theorem nat_at {i : Int} (h0 : 0 ≤ i) : ∃ k : Nat, i = k := ⟨i.toNat, (Int.toNat_of_nonneg h0).symm⟩
theorem ix_nat {k n : Nat} (h : k < n) : ixN n (k : Int) = some k := by
  unfold ixN
  rw [if_pos (by omega), if_pos (by omega), Int.toNat_natCast]
def s_keep_less : Stmt := topS 26
abbrev n_keep_less : List Str := ["table", "front", "rear", "length"]
abbrev p_keep_less : List Str := ["table", "front", "rear", "length"]
theorem sc_keep_less : FnScope n_keep_less p_keep_less (defScope s_keep_less) := ⟨rfl, rfl, rfl, by decide +kernel, rfl, by decide +kernel, by decide +kernel⟩
def sp_keep_less (K : PySem.W.Frag) : Sp := fun vs H Q _ => ∃ (t : Addr) (as : List Addr) (n : Nat) (d : Tab) (f r : Nat) (l : Int), vs = [.ref t, .int f, .int r, .int l] ∧ TabAt H t as n d ∧ f < n ∧ r < n ∧
  ∀ H', TabAt H' t as n (keepD d f r l) → ButL as H H' → Q .non H'
theorem df_keep_less (T : Here K mg "keep_less" s_keep_less) : Df P w K mg base CX0 "keep_less" 1 p_keep_less (sp_keep_less K) := by
  refine T.df sc_keep_less (fun _ _ _ _ _ _ us hl => match us, hl with | [_, _, _, _], _ => rfl) (fun vs H Q E h => by obtain ⟨_, _, _, _, _, _, _, rfl, _⟩ := h; rfl) (fun f cdv A outer s H vs Q E hr h => ?_)
  obtain ⟨t, as, n, d, f, r, l, rfl, ht, hf, hr', q⟩ := h
  refine ⟨_, pss_one (ps_if (PW.pt (pw_or (pt_cmpR op_isN (pe_ix (ixL K rfl) (pe_ix (ixL K rfl) (pv 0) (pv 1) (fun _ _ => rfl)) (pv 2) (fun _ _ => rfl)) (pe_non) (nomark _)) (pw_or1 (pt_cmpR op_lt (pv 3) (pe_ix (ixL K rfl) (pe_ix (ixL K rfl) (pv 0) (pv 1) (fun _ _ => rfl)) (pv 2) (fun _ _ => rfl)) (nomark _))))) (pss_one (ps_asg (pv 3) (pg_sub (pe_ix (ixL K rfl) (pv 0) (pv 1) (fun _ _ => rfl)) (pv 2) set_list))) (pss_nil)), ?_⟩
  obtain ⟨a, ha, ham, hrow⟩ := ht.get hf
  have set_ : ∀ Q' : Prop, (Q' = (∀ H', TabAt H' t as n (setD d f r l) → ButL as H H' → Q .non H')) → Q' → Q .non (upd H a (.lst ((rowV n d f).set r (.int l)))) := by
    rintro _ rfl k
    refine k _ (ht.put ha r l) fun b o hb e => ?_
    rw [upd_ne (fun z => hb (by rw [z]; exact List.mem_of_getElem? ha))]
    exact e
  walk_at "rd"
  refine ⟨t, _, _, _, rfl, rfl, .of ht.top, atI_nat ham, a, _, _, _, rfl, rfl, .of hrow, atI_nat (rowV_at d f hr'), ?_⟩
  walk_at "rd"
  rcases keep_cases d f r l with ⟨e, h⟩ | ⟨e, x, ex, hx⟩ <;> rw [e] at q
  · cases hd : d f r with
    | none =>
      simp only [ovV, decide_true, ite_true]
      refine ⟨t, _, _, _, rfl, rfl, .of ht.top, atI_nat ham, a, _, _, _, rfl, rfl, hrow, ix_nat (by rw [rowV_len]; exact hr'), set_ _ rfl q⟩
    | some x =>
      simp only [ovV, reduceCtorEq, decide_false, Bool.false_eq_true, ite_false]
      refine ⟨t, _, _, _, rfl, rfl, .of ht.top, atI_nat ham, a, _, _, _, rfl, rfl, .of hrow, atI_nat (rowV_at d f hr'), ?_⟩
      rw [hd]
      simp only [ovV, q_rI0, exists_eq_left', V.bl.injEq, decide_eq_true (h x hd), ite_true]
      refine ⟨t, _, _, _, rfl, rfl, .of ht.top, atI_nat ham, a, _, _, _, rfl, rfl, hrow, ix_nat (by rw [rowV_len]; exact hr'), set_ _ rfl q⟩
  · rw [ex]
    simp only [ovV, reduceCtorEq, decide_false, Bool.false_eq_true, ite_false]
    refine ⟨t, _, _, _, rfl, rfl, .of ht.top, atI_nat ham, a, _, _, _, rfl, rfl, .of hrow, atI_nat (rowV_at d f hr'), ?_⟩
    rw [ex]
    simp only [ovV, q_rI0, exists_eq_left', V.bl.injEq, decide_eq_false (show ¬ l < x by omega), Bool.false_eq_true, ite_false]
    exact q _ ht fun _ _ _ h => h
end
end Hx

set_option Elab.async false
set_option linter.all false
set_option maxRecDepth 100000
set_option maxHeartbeats 4000000
namespace Hx
open PySem PySem.Spec PyProof.Rows L2
local macro_rules | `(tactic| walk_at "rd") => `(tactic| (try simp only [q_var, q_c, q_op, q_un, q_rI, q_rI0, q_rU, q_rEq, q_rNe, q_test, q_tB, q_and, q_or, q_not, q_andV, q_orV, q_notV, q_if, q_isN, q_notN, q_chain, q_next, q_seq, q_break, q_cont, q_drop, q_ret, q_retN, q_ifS, q_never, q_gN, q_gNil, q_gCons, q_gTup, q_gSub, q_asg, q_par, q_aug, q_nil, q_cons, q_tup, q_lst, q_call, q_cb, q_noPart, q_part, q_sl, q_bm0, q_bm, q_yes, q_for, q_lc, q_iList, q_iTup, q_iRng1, q_iEnumT, q_iEnum, q_iRng2, q_iZipA, q_ipI, q_ckw, q_len, q_listOf, q_tupleOf, L2.start, cx_K, wipe, List.map_cons, List.map_nil, List.length_cons, List.length_nil, List.cons_append, List.nil_append, List.append_nil, List.replicate, List.getElem?_cons_zero, List.getElem?_cons_succ, List.set_cons_zero, List.set_cons_succ, Option.some.injEq, List.cons.injEq, exists_eq_left', exists_eq_left, exists_and_left, V.int.injEq, V.bl.injEq, V.ref.injEq, if_true, if_false, Bool.not_true, Bool.not_false, true_and, and_true, Bool.false_eq_true, ite_true, ite_false, Nat.reduceAdd, Nat.reduceSub, reduceCtorEq, decide_false, decide_true, Int.toNat_natCast]))
/-- a table that is new since H0 -/
structure TabNew (H0 H : Hp) (t : Addr) (as : List Addr) (n : Nat) (d : Tab) : Prop where
  same : Same H0 H
  ft : H0 t = none
  fa : ∀ a ∈ as, H0 a = none
  tab : TabAt H t as n d
theorem TabNew.step {H0 H H' : Hp} {t : Addr} {as : List Addr} {n : Nat} {d d' : Tab} (h : TabNew H0 H t as n d) (h' : TabAt H' t as n d') (k : ButL as H H') : TabNew H0 H' t as n d' :=
  ⟨fun b o e => k b o (fun m => by rw [h.fa b m] at e; cases e) (h.same b o e), h.ft, h.fa, h'⟩
theorem butL_upd {H : Hp} {as : List Addr} {a : Addr} {o : HO} (h : a ∈ as) : ButL as H (upd H a o) := fun b u hb e => by
  rw [upd_ne (fun z => hb (by rw [z]; exact h))]
  exact e
theorem rep_flat (n : Nat) (v : V) : (List.replicate n [v]).flatten = List.replicate n v := by
  induction n with
  | zero => rfl
  | succ k ih => rw [List.replicate_succ, List.flatten_cons, ih, List.replicate_succ]; rfl
theorem rowV_none (n : Nat) (d : Tab) (i : Nat) (h : ∀ j, j < n → d i j = none) : List.replicate n V.non = rowV n d i := by
  refine List.ext_getElem? fun k => ?_
  by_cases hk : k < n
  · rw [rowV_at _ _ hk, h k hk, List.getElem?_replicate, if_pos hk]
    rfl
  · rw [List.getElem?_eq_none (by rw [List.length_replicate]; omega), List.getElem?_eq_none (by rw [rowV_len]; omega)]
def diagD (k : Nat) : Tab := fun a b => if a = b ∧ a < k then some 0 else none
theorem diag_step (i x y : Nat) : setD (diagD i) i i 0 x y = diagD (i + 1) x y := by
  by_cases e : x = i ∧ y = i
  · obtain ⟨rfl, rfl⟩ := e
    rw [setD_at]
    exact (if_pos ⟨rfl, Nat.lt_succ_self _⟩).symm
  · rw [setD_ne _ _ e]
    show (if x = y ∧ x < i then some 0 else none) = if x = y ∧ x < i + 1 then some (0 : Int) else none
    by_cases e' : x = y ∧ x < i
    · rw [if_pos e', if_pos (by omega)]
    · rw [if_neg e', if_neg (by omega)]
section
variable {P : Program} {w : World} {K : PySem.W.Frag} {mg : Str → Option Value} {base : Heap}
def s_chain_table : Stmt := topS 25
abbrev n_chain_table : List Str := ["fleet", "count", "ropes", "table", "_", "barge", "front", "rear", "length", "middle"]
abbrev p_chain_table : List Str := ["fleet"]
theorem sc_chain_table : FnScope n_chain_table p_chain_table (defScope s_chain_table) := ⟨rfl, rfl, rfl, by decide +kernel, rfl, by decide +kernel, by decide +kernel⟩
def sp_chain_table (K : PySem.W.Frag) : Sp := fun vs H Q _ => ∃ (v : V) (n : Nat) (rs : List Rope), vs = [v] ∧ FleetV K H v n rs ∧ FleetOk n rs ∧ ∀ H' t as, TabNew H H' t as n (chainTab n rs) → Q (.ref t) H'
theorem df_chain_table (T : Here K mg "chain_table" s_chain_table) (B : Blt mg) (D_keep_less : Df P w K mg base CX0 "keep_less" 1 p_keep_less (sp_keep_less K)) : Df P w K mg base CX0 "chain_table" 2 p_chain_table (sp_chain_table K) := by
  refine T.df sc_chain_table (fun _ _ _ _ _ _ us hl => match us, hl with | [_], _ => rfl) (fun vs H Q E h => by obtain ⟨_, _, _, rfl, _⟩ := h; rfl) (fun f cdv A outer s H vs Q E hr h => ?_)
  obtain ⟨v, n, rs, rfl, ⟨a, b, ys, rfl, ha, hb, hl, hx⟩, ⟨h1, h2, h3, h4⟩, q⟩ := h
  refine ⟨_, pss_cons (ps_asg (pv 0) (pgTup K rfl (n := 2) rfl (pgs_cons (pg_name (i := 1) sc_chain_table.nd rfl (by first | exact Or.inl rfl | exact Or.inr rfl)) (pgs_cons (pg_name (i := 2) sc_chain_table.nd rfl (by first | exact Or.inl rfl | exact Or.inr rfl)) pgs_nil))))
      (pss_cons (ps_setLc (i := 3) (own := [("_", 4)]) rfl sc_chain_table.nd rfl rfl (sw_true rfl rfl rfl (by decide +kernel)) (pi_range1 (by rfl) B.range (pa_cons (pv 1) pa_nil)) (blkOk_by (N := n_chain_table) (sc := defScope s_chain_table) (by decide +kernel)) (fun _ _ _ _ _ => pg_name (i := 4) sc_chain_table.nd rfl (by first | exact Or.inl rfl | exact Or.inr rfl)) (fun _ _ _ _ _ => pts_nil) (fun _ _ _ _ _ => pe_op op_rep (pe_lst (pa_cons (pe_non) pa_nil)) (pv 1)))
      (pss_cons (ps_for PassesOwn.never rfl (pi_range1 (by rfl) B.range (pa_cons (pv 1) pa_nil)) (pg_name (i := 5) sc_chain_table.nd rfl (by first | exact Or.inl rfl | exact Or.inr rfl)) (pss_one (ps_asg (pe_int) (pg_sub (pe_ix (ixL K rfl) (pv 3) (pv 5) (fun _ _ => rfl)) (pv 5) set_list))))
      (pss_cons (ps_for PassesOwn.never rfl (piTup K rfl (pv 2)) (pgTup K rfl (n := 3) rfl (pgs_cons (pg_name (i := 6) sc_chain_table.nd rfl (by first | exact Or.inl rfl | exact Or.inr rfl)) (pgs_cons (pg_name (i := 7) sc_chain_table.nd rfl (by first | exact Or.inl rfl | exact Or.inr rfl)) (pgs_cons (pg_name (i := 8) sc_chain_table.nd rfl (by first | exact Or.inl rfl | exact Or.inr rfl)) pgs_nil)))) (pss_one (ps_expr (D_keep_less.call (hr.mono (by decide)) (by rfl) (pa_cons (pv 3) (pa_cons (pv 6) (pa_cons (pv 7) (pa_cons (pv 8) pa_nil))))))))
      (pss_cons (ps_for PassesOwn.never rfl (pi_range1 (by rfl) B.range (pa_cons (pv 1) pa_nil)) (pg_name (i := 9) sc_chain_table.nd rfl (by first | exact Or.inl rfl | exact Or.inr rfl)) (pss_one (ps_for PassesOwn.never rfl (pi_range1 (by rfl) B.range (pa_cons (pv 1) pa_nil)) (pg_name (i := 6) sc_chain_table.nd rfl (by first | exact Or.inl rfl | exact Or.inr rfl)) (pss_one (ps_for PassesOwn.never rfl (pi_range1 (by rfl) B.range (pa_cons (pv 1) pa_nil)) (pg_name (i := 7) sc_chain_table.nd rfl (by first | exact Or.inl rfl | exact Or.inr rfl)) (pss_one (ps_if (PW.pt (pw_and (pt_cmpR op_notN (pe_ix (ixL K rfl) (pe_ix (ixL K rfl) (pv 3) (pv 6) (fun _ _ => rfl)) (pv 9) (fun _ _ => rfl)) (pe_non) (nomark _)) (pw_and1 (pt_cmpR op_notN (pe_ix (ixL K rfl) (pe_ix (ixL K rfl) (pv 3) (pv 9) (fun _ _ => rfl)) (pv 7) (fun _ _ => rfl)) (pe_non) (nomark _))))) (pss_one (ps_expr (D_keep_less.call (hr.mono (by decide)) (by rfl) (pa_cons (pv 3) (pa_cons (pv 6) (pa_cons (pv 7) (pa_cons (pe_op op_add (pe_ix (ixL K rfl) (pe_ix (ixL K rfl) (pv 3) (pv 6) (fun _ _ => rfl)) (pv 9) (fun _ _ => rfl)) (pe_ix (ixL K rfl) (pe_ix (ixL K rfl) (pv 3) (pv 9) (fun _ _ => rfl)) (pv 7) (fun _ _ => rfl))) pa_nil))))))) (pss_nil))))))))
      (pss_one (ps_ret (pv 3))))))), ?_⟩
  have n8 : n ≤ 8 := by omega
  have hz : 8 ≤ sizeLine := by decide
  have hrs : ∀ (i : Nat) x, ys[i]? = some x → ∃ r : Rope, rs[i]? = some r ∧ r ∈ rs ∧ RopeV K H x r ∧ ∃ f g : Nat, r.f = f ∧ r.r = g ∧ f < n ∧ g < n := by
    intro i x hx'
    have hi : i < rs.length := by
      rw [← hl]
      exact (List.getElem?_eq_some_iff.mp hx').1
    obtain ⟨u, hu, hd⟩ := hx i rs[i] (List.getElem?_eq_getElem hi)
    cases hx'.symm.trans hu
    obtain ⟨g1, g2, g3, g4, _⟩ := h4 _ (List.getElem_mem hi)
    exact ⟨_, List.getElem?_eq_getElem hi, List.getElem_mem hi, hd, rs[i].f.toNat, rs[i].r.toNat, by omega, by omega, by omega, by omega⟩
  walk_at "rd"
  refine ⟨_, ha, rfl, ?_⟩
  walk_at "rd"
  refine ⟨by omega, by omega, fun p hp => ?_⟩
  refine lcRange (fun i H' => ∃ as : List Addr, H' p = some (.lst (as.map V.ref)) ∧ as.length = i ∧ as.Nodup ∧ p ∉ as ∧ (∀ a ∈ as, H a = none ∧ H' a = some (.lst (List.replicate n .non))) ∧ Same H H')
    ⟨[], upd_same, rfl, .nil, by simp, fun a h => (by cases h), same_upd hp⟩ (fun i H' hi hPv => ?_) (fun H' hPv => ?_)
  · obtain ⟨as, e1, e2, e3, e4, e5, e6⟩ := hPv
    walk_at "rd"
    refine ⟨by omega, fun q1 hq1 => ?_⟩
    refine ⟨q1, n, [.non], rfl, rfl, upd_same, by omega, by omega, ?_, fun q2 hq2 => ?_⟩
    · rw [Int.toNat_natCast]
      show 1 * n ≤ sizeLine
      omega
    · have n1 : p ≠ q1 := ne_of_none e1 hq1
      have n2 : p ≠ q2 := ne_of_none (by rw [upd_ne n1]; exact e1) hq2
      have n3 : q2 ≠ q1 := fun z => by
        rw [z, upd_same] at hq2
        cases hq2
      have hq2' : H' q2 = none := by
        rw [upd_ne n3] at hq2
        exact hq2
      refine ⟨as.map V.ref, ?_, ?_, as ++ [q2], ?_, ?_, ?_, ?_, fun c hc => ?_, ?_⟩
      · rw [upd_ne n2, upd_ne n1]
        exact e1
      · rw [List.length_map]
        omega
      · rw [upd_same, List.map_append]
        rfl
      · rw [List.length_append, e2]
        rfl
      · refine List.nodup_append.mpr ⟨e3, by simp, fun x hx y hy => ?_⟩
        cases List.mem_singleton.mp hy
        exact ne_of_none (e5 x hx).2 hq2'
      · intro z
        rcases List.mem_append.mp z with z | z
        · exact e4 z
        · exact n2 (List.mem_singleton.mp z)
      · rcases List.mem_append.mp hc with z | z
        · obtain ⟨k1, k2⟩ := e5 c z
          have c1 : c ≠ p := fun y => e4 (by rw [← y]; exact z)
          refine ⟨k1, ?_⟩
          rw [upd_ne c1, upd_ne (ne_of_none k2 hq2'), upd_ne (ne_of_none k2 hq1)]
          exact k2
        · cases List.mem_singleton.mp z
          refine ⟨e6.free hq2', ?_⟩
          rw [upd_ne n2.symm, upd_same, Int.toNat_natCast, rep_flat]
      · intro c o e
        have c1 : c ≠ p := ne_of_none e hp
        rw [upd_ne c1]
        exact (same_upd hq1 |>.trans (same_upd hq2)) c o (e6 c o e)
  · obtain ⟨as, e1, e2, e3, e4, e5, e6⟩ := hPv
    have t0 : TabNew H H' p as n (diagD 0) := by
      refine ⟨e6, hp, fun a h => (e5 a h).1, ⟨e1, e2, e3, e4, fun i a h => ?_⟩⟩
      rw [(e5 a (List.mem_of_getElem? h)).2, rowV_none]
      intro j _
      unfold diagD
      rw [if_neg]
      omega
    walk_at "rd"
    refine ⟨by omega, by omega, ?_⟩
    refine forRange (fun i σ H' => ∃ x4 x5 x6 x7 x8 x9, σ = [some (.ref a), some (.int n), some (.ref b), some (.ref p), x4, x5, x6, x7, x8, x9] ∧ TabNew H H' p as n (diagD i)) ⟨_, _, _, _, _, _, rfl, t0⟩ (fun i σ H' hi hPv => ?_) (fun σ H' hPv => ?_)
    · obtain ⟨x4, x5, x6, x7, x8, x9, rfl, tn⟩ := hPv
      obtain ⟨c, hc, hcm, hrow⟩ := tn.tab.get hi
      walk_at "rd"
      refine ⟨p, _, _, _, rfl, rfl, .of tn.tab.top, atI_nat hcm, ?_⟩
      refine ⟨c, _, i, i, rfl, rfl, hrow, ix_nat (by rw [rowV_len]; exact hi), ?_⟩
      refine ⟨_, _, _, _, _, _, ⟨rfl, rfl, rfl, rfl, rfl, rfl⟩, tn.step ((tn.tab.put hc i 0).congr fun x y hx hy => ?_) (butL_upd (List.mem_of_getElem? hc))⟩
      exact diag_step i x y
    · obtain ⟨x4, x5, x6, x7, x8, x9, rfl, tn⟩ := hPv
      walk_at "rd"
      refine ⟨⟨_, sqt_same tn.same hb⟩, ?_⟩
      refine forTup (xs := ys) (fun i σ H' => ∃ x4 x5 x6 x7 x8 x9, σ = [some (.ref a), some (.int n), some (.ref b), some (.ref p), x4, x5, x6, x7, x8, x9] ∧ TabNew H H' p as n (ropesD (baseD n) (rs.take i))) ⟨_, _, _, _, _, _, rfl, ?_⟩ (fun i σ H' hi hPv => ?_) (fun i x σ H' hx' hPv => ?_) (fun σ H' hPv => ?_)
      · exact tn
      · obtain ⟨_, _, _, _, _, _, _, tn⟩ := hPv
        exact sqt_same tn.same hb
      · obtain ⟨x4, x5, x6, x7, x8, x9, rfl, tn⟩ := hPv
        obtain ⟨r, hri, hrm, ⟨c, rfl, hc⟩, f, g, ef, eg, hf, hg⟩ := hrs i x hx'
        walk_at "rd"
        refine ⟨_, sqt_same tn.same hc, rfl, ?_⟩
        walk_at "rd"
        refine ⟨p, as, n, _, f, g, r.l, by rw [ef, eg], tn.tab, hf, hg, fun H2 t2 b2 => ?_⟩
        walk_at "rd"
        refine ⟨_, _, _, _, _, _, ⟨rfl, rfl, rfl, rfl, rfl, rfl⟩, tn.step ?_ b2⟩
        rw [List.take_add_one, hri]
        unfold ropesD
        rw [List.foldl_append]
        show TabAt H2 p as n (keepD _ r.f.toNat r.r.toNat r.l)
        rw [ef, eg, Int.toNat_natCast, Int.toNat_natCast]
        exact t2
      · obtain ⟨x4, x5, x6, x7, x8, x9, rfl, tn⟩ := hPv
        rw [List.take_of_length_le (by omega)] at tn
        walk_at "rd"
        refine ⟨by omega, by omega, ?_⟩
        refine forRange (fun i σ H' => ∃ x4 x5 x6 x7 x8 x9, σ = [some (.ref a), some (.int n), some (.ref b), some (.ref p), x4, x5, x6, x7, x8, x9] ∧ TabNew H H' p as n (fwAll n (ropesD (baseD n) rs) i)) ⟨_, _, _, _, _, _, rfl, tn⟩ (fun m σ H' hm hPv => ?_) (fun σ H' hPv => ?_)
        · obtain ⟨x4, x5, x6, x7, x8, x9, rfl, tn⟩ := hPv
          walk_at "rd"
          refine ⟨by omega, by omega, ?_⟩
          refine forRange (fun i σ H' => ∃ x4 x5 x6 x7 x8, σ = [some (.ref a), some (.int n), some (.ref b), some (.ref p), x4, x5, x6, x7, x8, some (.int m)] ∧ TabNew H H' p as n (fwMid n (fwAll n (ropesD (baseD n) rs) m) m i)) ⟨_, _, _, _, _, rfl, tn⟩ (fun i σ H' hi hPv => ?_) (fun σ H' hPv => ?_)
          · obtain ⟨x4, x5, x6, x7, x8, rfl, tn⟩ := hPv
            walk_at "rd"
            refine ⟨by omega, by omega, ?_⟩
            refine forRange (fun j σ H' => ∃ x4 x5 x7 x8, σ = [some (.ref a), some (.int n), some (.ref b), some (.ref p), x4, x5, some (.int i), x7, x8, some (.int m)] ∧ TabNew H H' p as n (fwRow n (fwMid n (fwAll n (ropesD (baseD n) rs) m) m i) m i j)) ⟨_, _, _, _, rfl, tn⟩ (fun j σ H' hj hPv => ?_) (fun σ H' hPv => ?_)
            · obtain ⟨x4, x5, x7, x8, rfl, tn⟩ := hPv
              generalize hD : fwRow n (fwMid n (fwAll n (ropesD (baseD n) rs) m) m i) m i j = D at tn
              have hfin : fwRow n (fwMid n (fwAll n (ropesD (baseD n) rs) m) m i) m i (j + 1) = fwStep D m i j := by rw [fwRow_succ, hD]
              obtain ⟨c, hc, hcm, hrow⟩ := tn.tab.get hi
              obtain ⟨c2, hc2, hcm2, hrow2⟩ := tn.tab.get hm
              rw [hfin]
              walk_at "rd"
              refine ⟨p, _, _, _, rfl, rfl, .of tn.tab.top, atI_nat hcm, c, _, _, _, rfl, rfl, .of hrow, atI_nat (rowV_at D i hm), ?_⟩
              walk_at "rd"
              rcases step_cases D m i j with ⟨e, h⟩ | ⟨u, v, eu, ev, e⟩ <;> rw [e]
              · cases hu : D i m with
                | none =>
                  simp only [ovV, decide_true, Bool.not_true, Bool.false_eq_true, ite_false]
                  exact ⟨_, _, _, _, ⟨rfl, rfl, rfl, rfl⟩, tn⟩
                | some u =>
                  have hv : D m j = none := by
                    rcases h with h | h
                    · rw [hu] at h
                      cases h
                    · exact h
                  simp only [ovV, reduceCtorEq, decide_false, Bool.not_false, ite_true]
                  refine ⟨p, _, _, _, rfl, rfl, .of tn.tab.top, atI_nat hcm2, c2, _, _, _, rfl, rfl, .of hrow2, atI_nat (rowV_at D m hj), ?_⟩
                  rw [hv]
                  walk_at "rd"
                  simp only [ovV, decide_true, Bool.not_true, Bool.false_eq_true, ite_false]
                  exact ⟨_, _, _, _, ⟨rfl, rfl, rfl, rfl⟩, tn⟩
              · rw [eu]
                simp only [ovV, reduceCtorEq, decide_false, Bool.not_false, ite_true]
                refine ⟨p, _, _, _, rfl, rfl, .of tn.tab.top, atI_nat hcm2, c2, _, _, _, rfl, rfl, .of hrow2, atI_nat (rowV_at D m hj), ?_⟩
                rw [ev]
                walk_at "rd"
                simp only [ovV, reduceCtorEq, decide_false, Bool.not_false, ite_true]
                refine ⟨p, _, _, _, rfl, rfl, .of tn.tab.top, atI_nat hcm, c, _, _, _, rfl, rfl, .of hrow, atI_nat (rowV_at D i hm), ?_⟩
                refine ⟨p, _, _, _, rfl, rfl, .of tn.tab.top, atI_nat hcm2, c2, _, _, _, rfl, rfl, .of hrow2, atI_nat (rowV_at D m hj), ?_⟩
                rw [eu, ev]
                simp only [ovV]
                walk_at "rd"
                refine ⟨p, as, n, D, i, j, u + v, rfl, tn.tab, hi, hj, fun H2 t2 b2 => ?_⟩
                walk_at "rd"
                exact ⟨_, _, _, _, ⟨rfl, rfl, rfl, rfl⟩, tn.step t2 b2⟩
            · obtain ⟨x4, x5, x7, x8, rfl, tn⟩ := hPv
              rw [← fwMid_succ] at tn
              exact ⟨_, _, _, _, _, rfl, tn⟩
          · obtain ⟨x4, x5, x6, x7, x8, rfl, tn⟩ := hPv
            rw [← fwAll_succ] at tn
            exact ⟨_, _, _, _, _, _, rfl, tn⟩
        · obtain ⟨x4, x5, x6, x7, x8, x9, rfl, tn⟩ := hPv
          walk_at "rd"
          exact q _ _ _ tn
end
end Hx

set_option Elab.async false
set_option linter.all false
set_option maxRecDepth 100000
set_option maxHeartbeats 4000000
namespace Hx
open PySem PySem.Spec PyProof.Rows L2
local macro_rules | `(tactic| walk_at "rd") => `(tactic| (try simp only [q_var, q_c, q_op, q_un, q_rI, q_rI0, q_rU, q_rEq, q_rNe, q_test, q_tB, q_and, q_or, q_not, q_andV, q_orV, q_notV, q_if, q_isN, q_notN, q_chain, q_next, q_seq, q_break, q_cont, q_drop, q_ret, q_retN, q_ifS, q_never, q_gN, q_gNil, q_gCons, q_gTup, q_gSub, q_asg, q_par, q_aug, q_nil, q_cons, q_tup, q_lst, q_call, q_cb, q_noPart, q_part, q_sl, q_bm0, q_bm, q_yes, q_for, q_lc, q_iList, q_iTup, q_iRng1, q_iEnumT, q_iEnum, q_iRng2, q_iZipA, q_ipI, q_ckw, q_len, q_listOf, q_tupleOf, L2.start, cx_K, wipe, List.map_cons, List.map_nil, List.length_cons, List.length_nil, List.cons_append, List.nil_append, List.append_nil, List.replicate, List.getElem?_cons_zero, List.getElem?_cons_succ, List.set_cons_zero, List.set_cons_succ, Option.some.injEq, List.cons.injEq, exists_eq_left', exists_eq_left, exists_and_left, V.int.injEq, V.bl.injEq, V.ref.injEq, if_true, if_false, Bool.not_true, Bool.not_false, true_and, and_true, Bool.false_eq_true, ite_true, ite_false, Nat.reduceAdd, Nat.reduceSub, reduceCtorEq, decide_false, decide_true, Int.toNat_natCast]))
section
variable {P : Program} {w : World} {K : PySem.W.Frag} {mg : Str → Option Value} {base : Heap}
def s_check_table : Stmt := topS 27
abbrev n_check_table : List Str := ["table", "barge"]
abbrev p_check_table : List Str := ["table"]
theorem sc_check_table : FnScope n_check_table p_check_table (defScope s_check_table) := ⟨rfl, rfl, rfl, by decide +kernel, rfl, by decide +kernel, by decide +kernel⟩
def sp_check_table (K : PySem.W.Frag) : Sp := fun vs H Q _ => ∃ (t : Addr) (as : List Addr) (n : Nat) (d : Tab), vs = [.ref t] ∧ TabAt H t as n d ∧ n ≤ 8 ∧ Diag n d ∧ Q .non H
theorem df_check_table (T : Here K mg "check_table" s_check_table) (B : Blt mg) : Df P w K mg base CX0 "check_table" 1 p_check_table (sp_check_table K) := by
  refine T.df sc_check_table (fun _ _ _ _ _ _ us hl => match us, hl with | [_], _ => rfl) (fun vs H Q E h => by obtain ⟨_, _, _, _, rfl, _⟩ := h; rfl) (fun f cdv A outer s H vs Q E hr h => ?_)
  obtain ⟨t, as, n, d, rfl, ht, h8, hd, q⟩ := h
  refine ⟨_, pss_one (ps_for PassesOwn.never rfl (pi_range1 (by rfl) B.range (pa_cons (pe_callB (lenQ K rfl) (by rfl) B.len (by decide +kernel) (pa_cons (pv 0) pa_nil)) pa_nil)) (pg_name (i := 1) sc_check_table.nd rfl (by first | exact Or.inl rfl | exact Or.inr rfl)) (pss_one (ps_if (pt_cmpR op_lt (pe_ix (ixL K rfl) (pe_ix (ixL K rfl) (pv 0) (pv 1) (fun _ _ => rfl)) (pv 1) (fun _ _ => rfl)) (pe_int) (nomark _)) (pss_one (ps_never)) (pss_nil)))), ?_⟩
  walk_at "rd"
  refine ⟨_, .inl (.of ht.top), ?_⟩
  rw [List.length_map, ht.len]
  refine ⟨by omega, by omega, ?_⟩
  walk_at "rd"
  refine forRange (fun i σ H' => ∃ x1, σ = [some (.ref t), x1] ∧ H' = H) ⟨_, rfl, rfl⟩ (fun i σ H' hi hPv => ?_) (fun σ H' hPv => ?_)
  · obtain ⟨x1, rfl, rfl⟩ := hPv
    obtain ⟨c, hc, hcm, hrow⟩ := ht.get hi
    walk_at "rd"
    refine ⟨t, _, _, _, rfl, rfl, .of ht.top, atI_nat hcm, c, _, _, _, rfl, rfl, .of hrow, atI_nat (rowV_at d i hi), ?_⟩
    rw [hd i hi]
    simp only [ovV]
    walk_at "rd"
    exact trivial
  · obtain ⟨x1, rfl, rfl⟩ := hPv
    exact q
def s_chain_length : Stmt := topS 24
abbrev n_chain_length : List Str := ["fleet", "front", "rear", "table"]
abbrev p_chain_length : List Str := ["fleet", "front", "rear"]
theorem sc_chain_length : FnScope n_chain_length p_chain_length (defScope s_chain_length) := ⟨rfl, rfl, rfl, by decide +kernel, rfl, by decide +kernel, by decide +kernel⟩
def sp_chain_length (K : PySem.W.Frag) : Sp := fun vs H Q _ => ∃ (v : V) (n : Nat) (rs : List Rope) (f r : Nat), vs = [v, .int f, .int r] ∧ FleetV K H v n rs ∧ FleetOk n rs ∧ f < n ∧ r < n ∧ Diag n (chainTab n rs) ∧
  ∀ H', Same H H' → Q (ovV (chainTab n rs f r)) H'
theorem df_chain_length (T : Here K mg "chain_length" s_chain_length) (D_check_fleet : Df P w K mg base CX0 "check_fleet" 4 p_check_fleet (sp_check_fleet K)) (D_is_barge : Df P w K mg base CX0 "is_barge" 2 p_is_barge (sp_is_barge K))
    (D_chain_table : Df P w K mg base CX0 "chain_table" 2 p_chain_table (sp_chain_table K)) (D_check_table : Df P w K mg base CX0 "check_table" 1 p_check_table (sp_check_table K)) : Df P w K mg base CX0 "chain_length" 5 p_chain_length (sp_chain_length K) := by
  refine T.df sc_chain_length (fun _ _ _ _ _ _ us hl => match us, hl with | [_, _, _], _ => rfl) (fun vs H Q E h => by obtain ⟨_, _, _, _, _, rfl, _⟩ := h; rfl) (fun f cdv A outer s H vs Q E hr h => ?_)
  obtain ⟨v, n, rs, f, r, rfl, hv, hok, hf, hr', hd, q⟩ := h
  refine ⟨_, pss_cons (ps_expr (D_check_fleet.call (hr.mono (by decide)) (by rfl) (pa_cons (pv 0) pa_nil)))
      (pss_cons (ps_if (PW.pt (pw_or (pt_not (pt_val (D_is_barge.call (hr.mono (by decide)) (by rfl) (pa_cons (pv 1) (pa_cons (pe_ix (ixT K rfl) (pv 0) (pe_int) (fun _ _ => rfl)) pa_nil))))) (pw_or1 (pt_not (pt_val (D_is_barge.call (hr.mono (by decide)) (by rfl) (pa_cons (pv 2) (pa_cons (pe_ix (ixT K rfl) (pv 0) (pe_int) (fun _ _ => rfl)) pa_nil)))))))) (pss_one (ps_never)) (pss_nil))
      (pss_cons (ps_set (i := 3) sc_chain_length.nd rfl (by first | exact Or.inl rfl | exact Or.inr rfl) (D_chain_table.call (hr.mono (by decide)) (by rfl) (pa_cons (pv 0) pa_nil)))
      (pss_cons (ps_expr (D_check_table.call (hr.mono (by decide)) (by rfl) (pa_cons (pv 3) pa_nil)))
      (pss_one (ps_ret (pe_ix (ixL K rfl) (pe_ix (ixL K rfl) (pv 3) (pv 1) (fun _ _ => rfl)) (pv 2) (fun _ _ => rfl))))))), ?_⟩
  walk_at "rd"
  refine ⟨v, n, rs, rfl, hv, hok, fun H1 s1 => ?_⟩
  obtain ⟨a, b, ys, rfl, ha, _⟩ := hv.mono s1
  have ff : decide (0 ≤ (f : Int) ∧ (f : Int) < (n : Int)) = true := decide_eq_true (by omega)
  have rr : decide (0 ≤ (r : Int) ∧ (r : Int) < (n : Int)) = true := decide_eq_true (by omega)
  walk_at "rd"
  refine ⟨a, _, 0, _, rfl, rfl, ha, atI_nat (j := 0) rfl, ?_⟩
  walk_at "rd"
  refine ⟨f, n, rfl, ?_⟩
  rw [ff]
  walk_at "rd"
  refine ⟨a, _, 0, _, rfl, rfl, ha, atI_nat (j := 0) rfl, ?_⟩
  walk_at "rd"
  refine ⟨r, n, rfl, ?_⟩
  rw [rr]
  walk_at "rd"
  refine ⟨_, n, rs, rfl, hv.mono s1, hok, fun H2 t as tn => ?_⟩
  walk_at "rd"
  refine ⟨t, as, n, _, rfl, tn.tab, by have := hok.2.1; omega, hd, ?_⟩
  obtain ⟨c, hc, hcm, hrow⟩ := tn.tab.get hf
  walk_at "rd"
  refine ⟨t, _, _, _, rfl, rfl, .of tn.tab.top, atI_nat hcm, c, _, _, _, rfl, rfl, .of hrow, atI_nat (rowV_at _ f hr'), ?_⟩
  exact q _ (s1.trans tn.same)
/-! hauling -/
def mv1 : Option Int → Int → Int → Int
  | none, x, _ => x
  | some l, x, p => if p - l > x then p - l else x
def moveD (d : Tab) (xs : List Int) (b : Nat) (p : Int) : List Int := (List.range xs.length).map fun o => mv1 (d b o) (xs.getD o 0) p
theorem moveD_len (d : Tab) (xs : List Int) (b : Nat) (p : Int) : (moveD d xs b p).length = xs.length := by
  unfold moveD
  rw [List.length_map, List.length_range]
theorem moveD_at (d : Tab) (xs : List Int) (b : Nat) (p : Int) {o : Nat} (h : o < xs.length) : (moveD d xs b p)[o]? = some (mv1 (d b o) (xs.getD o 0) p) := by
  unfold moveD
  rw [List.getElem?_map, List.getElem?_range h]
  rfl
theorem ints_at {xs : List Int} {i : Nat} {x : V} (h : (xs.map V.int)[i]? = some x) : i < xs.length ∧ x = .int (xs.getD i 0) := by
  rw [List.getElem?_map] at h
  cases e : xs[i]? with
  | none =>
    rw [e] at h
    cases h
  | some y =>
    rw [e] at h
    refine ⟨(List.getElem?_eq_some_iff.mp e).1, ?_⟩
    rw [List.getD_eq_getElem?_getD, e]
    exact (Option.some.inj h).symm
theorem at_ints {xs : List Int} {i : Nat} (h : i < xs.length) : (xs.map V.int)[i]? = some (.int (xs.getD i 0)) := by
  rw [List.getElem?_map, List.getD_eq_getElem?_getD, List.getElem?_eq_getElem h]
  rfl
def s_move_barge : Stmt := topS 38
abbrev n_move_barge : List Str := ["table", "positions", "barge", "position", "after", "other", "before", "length"]
abbrev p_move_barge : List Str := ["table", "positions", "barge", "position"]
theorem sc_move_barge : FnScope n_move_barge p_move_barge (defScope s_move_barge) := ⟨rfl, rfl, rfl, by decide +kernel, rfl, by decide +kernel, by decide +kernel⟩
def sp_move_barge (K : PySem.W.Frag) : Sp := fun vs H Q _ => ∃ (t : Addr) (as : List Addr) (n : Nat) (d : Tab) (u : V) (xs : List Int) (b : Nat) (p : Int), vs = [.ref t, u, .int b, .int p] ∧ TabAt H t as n d ∧ IntsT K H u xs ∧ xs.length = n ∧ b < n ∧ n ≤ 8 ∧
  ∀ H' a, Same H H' → H a = none → H' a = some (.tup ((moveD d xs b p).map V.int)) → Q (.ref a) H'
theorem df_move_barge (T : Here K mg "move_barge" s_move_barge) (B : Blt mg) : Df P w K mg base CX0 "move_barge" 1 p_move_barge (sp_move_barge K) := by
  refine T.df sc_move_barge (fun _ _ _ _ _ _ us hl => match us, hl with | [_, _, _, _], _ => rfl) (fun vs H Q E h => by obtain ⟨_, _, _, _, _, _, _, _, rfl, _⟩ := h; rfl) (fun f cdv A outer s H vs Q E hr h => ?_)
  obtain ⟨t, as, n, d, u, xs, b, p, rfl, ht, ⟨c, rfl, hc⟩, hn, hb, h8, q⟩ := h
  refine ⟨_, pss_cons (ps_set (i := 4) sc_move_barge.nd rfl (by first | exact Or.inl rfl | exact Or.inr rfl) (pe_lst (pa_nil)))
      (pss_cons (ps_for PassesOwn.never rfl (pi_enumT (by rfl) B.enumerate (pa_cons (pv 1) pa_nil)) (pgTup K rfl (n := 2) rfl (pgs_cons (pg_name (i := 5) sc_move_barge.nd rfl (by first | exact Or.inl rfl | exact Or.inr rfl)) (pgs_cons (pg_name (i := 6) sc_move_barge.nd rfl (by first | exact Or.inl rfl | exact Or.inr rfl)) pgs_nil))) (pss_cons (ps_set (i := 7) sc_move_barge.nd rfl (by first | exact Or.inl rfl | exact Or.inr rfl) (pe_ix (ixL K rfl) (pe_ix (ixL K rfl) (pv 0) (pv 2) (fun _ _ => rfl)) (pv 5) (fun _ _ => rfl)))
      (pss_one (ps_if (pt_cmpR op_isN (pv 7) (pe_non) (nomark _)) (pss_one (ps_expr (pe_bm PySem.F.plainAttrs_list PySem.F.slot_list_append PySem.F.type_list_append mt_append (pv 4) (pa_cons (pv 6) pa_nil)))) (pss_one (ps_expr (pe_bm PySem.F.plainAttrs_list PySem.F.slot_list_append PySem.F.type_list_append mt_append (pv 4) (pa_cons (pe_callB (call_max2 rfl) (by rfl) B.max (by decide +kernel) (pa_cons (pv 6) (pa_cons (pe_op op_sub (pv 3) (pv 7)) pa_nil))) pa_nil))))))))
      (pss_one (ps_ret (pe_callTy (tupleOf K rfl) (by rfl) B.tuple (by decide +kernel) (pa_cons (pv 4) pa_nil))))), ?_⟩
  have hz : 8 < sizeLine := by decide
  walk_at "rd"
  refine ⟨Nat.zero_le _, fun l hl => ?_⟩
  walk_at "rd"
  have s0 := same_upd (o := .lst []) hl
  refine ⟨⟨_, sqt_same s0 hc⟩, ?_⟩
  refine forEnumT (xs := xs.map V.int) (fun i σ H' => ∃ x5 x6 x7, σ = [some (.ref t), some (.ref c), some (.int b), some (.int p), some (.ref l), x5, x6, x7] ∧ Same H H' ∧ H' l = some (.lst (((moveD d xs b p).take i).map V.int)))
    ⟨_, _, _, rfl, s0, upd_same⟩ (fun i σ H' _ hPv => ?_) (fun i x T σ H' hx' hPv hT => ?_) (fun σ H' hPv => ?_)
  · obtain ⟨_, _, _, _, e, _⟩ := hPv
    exact sqt_same e hc
  · obtain ⟨x5, x6, x7, rfl, e, hL⟩ := hPv
    obtain ⟨hi, rfl⟩ := ints_at hx'
    have eT := e.trans (same_upd (o := .tup [V.int i, V.int (xs.getD i 0)]) hT)
    have tT := ht.mono eT
    obtain ⟨a, ha, ham, hrow⟩ := tT.get hb
    have nl : l ≠ T := ne_of_none hL hT
    have hL2 : (upd H' T (.tup [V.int i, V.int (xs.getD i 0)])) l = some (.lst (((moveD d xs b p).take i).map V.int)) := by
      rw [upd_ne nl]
      exact hL
    have hlen : (((moveD d xs b p).take i).map V.int).length < sizeLine := by
      rw [List.length_map, List.length_take, moveD_len]
      omega
    have hnext : ((moveD d xs b p).take i).map V.int ++ [V.int (mv1 (d b i) (xs.getD i 0) p)] = ((moveD d xs b p).take (i + 1)).map V.int := by
      rw [List.take_add_one, moveD_at d xs b p hi, List.map_append]
      rfl
    have fin : ∀ y, y = mv1 (d b i) (xs.getD i 0) p → Same H (upd (upd H' T (.tup [V.int i, V.int (xs.getD i 0)])) l (.lst (((moveD d xs b p).take i).map V.int ++ [V.int y]))) ∧
        (upd (upd H' T (.tup [V.int i, V.int (xs.getD i 0)])) l (.lst (((moveD d xs b p).take i).map V.int ++ [V.int y]))) l = some (.lst (((moveD d xs b p).take (i + 1)).map V.int)) := by
      rintro y rfl
      refine ⟨fun z o hz' => ?_, by rw [upd_same, hnext]⟩
      rw [upd_ne (ne_of_none hz' hl)]
      exact eT z o hz'
    walk_at "rd"
    refine ⟨_, .of upd_same, rfl, ?_⟩
    walk_at "rd"
    refine ⟨t, _, _, _, rfl, rfl, .of tT.top, atI_nat ham, a, _, _, _, rfl, rfl, .of hrow, atI_nat (rowV_at d b (by omega)), ?_⟩
    walk_at "rd"
    cases hd : d b i with
    | none =>
      simp only [ovV, decide_true, ite_true]
      refine ⟨.inl ⟨rfl, _, .of hL2⟩, l, _, _, rfl, rfl, hL2, hlen, ?_⟩
      obtain ⟨f1, f2⟩ := fin (xs.getD i 0) (by rw [hd]; rfl)
      exact ⟨_, _, _, ⟨rfl, rfl, rfl⟩, f1, f2⟩
    | some m =>
      simp only [ovV, reduceCtorEq, decide_false, Bool.false_eq_true, ite_false]
      refine ⟨.inl ⟨rfl, _, .of hL2⟩, ?_⟩
      walk_at "rd"
      refine ⟨_, _, ⟨rfl, rfl⟩, l, _, _, rfl, rfl, hL2, hlen, ?_⟩
      obtain ⟨f1, f2⟩ := fin _ (show (if p - m > xs.getD i 0 then p - m else xs.getD i 0) = _ by rw [hd]; rfl)
      exact ⟨_, _, _, ⟨rfl, rfl, rfl⟩, f1, f2⟩
  · obtain ⟨x5, x6, x7, rfl, e, hL⟩ := hPv
    rw [List.take_of_length_le (by rw [List.length_map, moveD_len]; exact Nat.le_refl _)] at hL
    walk_at "rd"
    refine ⟨_, .inl ⟨.of hL, fun a ha => ?_⟩⟩
    exact q _ a (e.trans (same_upd ha)) (e.free ha) upd_same
end
end Hx

set_option Elab.async false
set_option linter.all false
set_option maxRecDepth 100000
set_option maxHeartbeats 4000000
namespace Hx
open PySem PySem.Spec PyProof.Rows L2
local macro_rules | `(tactic| walk_at "rd") => `(tactic| (try simp only [q_var, q_c, q_op, q_un, q_rI, q_rI0, q_rU, q_rEq, q_rNe, q_test, q_tB, q_and, q_or, q_not, q_andV, q_orV, q_notV, q_if, q_isN, q_notN, q_chain, q_next, q_seq, q_break, q_cont, q_drop, q_ret, q_retN, q_ifS, q_never, q_gN, q_gNil, q_gCons, q_gTup, q_gSub, q_asg, q_par, q_aug, q_nil, q_cons, q_tup, q_lst, q_call, q_cb, q_noPart, q_part, q_sl, q_bm0, q_bm, q_yes, q_for, q_lc, q_iList, q_iTup, q_iRng1, q_iEnumT, q_iEnum, q_iRng2, q_iZipA, q_ipI, q_ckw, q_len, q_listOf, q_tupleOf, L2.start, cx_K, wipe, List.map_cons, List.map_nil, List.length_cons, List.length_nil, List.cons_append, List.nil_append, List.append_nil, List.replicate, List.getElem?_cons_zero, List.getElem?_cons_succ, List.set_cons_zero, List.set_cons_succ, Option.some.injEq, List.cons.injEq, exists_eq_left', exists_eq_left, exists_and_left, V.int.injEq, V.bl.injEq, V.ref.injEq, if_true, if_false, Bool.not_true, Bool.not_false, true_and, and_true, Bool.false_eq_true, ite_true, ite_false, Nat.reduceAdd, Nat.reduceSub, reduceCtorEq, decide_false, decide_true, Int.toNat_natCast]))
section
variable {P : Program} {w : World} {K : PySem.W.Frag} {mg : Str → Option Value} {base : Heap}
def HaulV (K : PySem.W.Frag) (H : Hp) (v : V) (h : Nat × Int) : Prop := ∃ c, v = .ref c ∧ SqT K H c [.int h.1, .int h.2]
theorem HaulV.mono {H H' : Hp} {v : V} {h : Nat × Int} (k : HaulV K H v h) (e : Same H H') : HaulV K H' v h := by
  obtain ⟨c, rfl, k⟩ := k
  exact ⟨c, rfl, sqt_same e k⟩
def s_is_haul : Stmt := topS 37
abbrev n_is_haul : List Str := ["value", "positions", "barge", "position"]
abbrev p_is_haul : List Str := ["value", "positions"]
theorem sc_is_haul : FnScope n_is_haul p_is_haul (defScope s_is_haul) := ⟨rfl, rfl, rfl, by decide +kernel, rfl, by decide +kernel, by decide +kernel⟩
def sp_is_haul (K : PySem.W.Frag) : Sp := fun vs H Q _ => ∃ (v u : V) (xs : List Int) (h : Nat × Int), vs = [v, u] ∧ HaulV K H v h ∧ IntsT K H u xs ∧ h.1 < xs.length ∧ xs.getD h.1 0 ≤ h.2 ∧ h.2 ≤ 9999 ∧ Q (.bl true) H
theorem df_is_haul (T : Here K mg "is_haul" s_is_haul) (B : Blt mg) (C_FARTHEST : ∃ u, mg "FARTHEST" = some (.int 9999 u)) (D_is_number : Df P w K mg base CX0 "is_number" 1 p_is_number (sp_is_number K))
    (D_is_barge : Df P w K mg base CX0 "is_barge" 2 p_is_barge (sp_is_barge K)) : Df P w K mg base CX0 "is_haul" 3 p_is_haul (sp_is_haul K) := by
  refine T.df sc_is_haul (fun _ _ _ _ _ _ us hl => match us, hl with | [_, _], _ => rfl) (fun vs H Q E h => by obtain ⟨_, _, _, _, rfl, _⟩ := h; rfl) (fun f cdv A outer s H vs Q E hr h => ?_)
  obtain ⟨v, u, xs, ⟨b, p⟩, rfl, ⟨c, rfl, hc⟩, ⟨a, rfl, ha⟩, h1, h2, h3, q⟩ := h
  refine ⟨_, pss_cons (ps_if (PW.pt (pw_or (pt_not (pt_val (pe_callB (isi K rfl) (by rfl) B.isinstance (by decide +kernel) (pa_cons (pv 0) (pa_cons ((pe_bltn (v := .ty "tuple") (by rfl) B.tuple (by decide +kernel) rfl)) pa_nil))))) (pw_or1 (pt_cmpR op_ne (pe_callB (lenQ K rfl) (by rfl) B.len (by decide +kernel) (pa_cons (pv 0) pa_nil)) (pe_int) (nomark _))))) (pss_one (ps_ret (pe_bl))) (pss_nil))
      (pss_cons (ps_asg (pv 0) (pgTup K rfl (n := 2) rfl (pgs_cons (pg_name (i := 2) sc_is_haul.nd rfl (by first | exact Or.inl rfl | exact Or.inr rfl)) (pgs_cons (pg_name (i := 3) sc_is_haul.nd rfl (by first | exact Or.inl rfl | exact Or.inr rfl)) pgs_nil))))
      (pss_one (ps_ret (pe_and (D_is_barge.call (hr.mono (by decide)) (by rfl) (pa_cons (pv 2) (pa_cons (pe_callB (lenQ K rfl) (by rfl) B.len (by decide +kernel) (pa_cons (pv 1) pa_nil)) pa_nil))) (pe_one (D_is_number.call (hr.mono (by decide)) (by rfl) (pa_cons (pv 3) (pa_cons (pe_ix (ixT K rfl) (pv 1) (pv 2) (fun _ _ => rfl)) (pa_cons (pe_gi (by rfl) C_FARTHEST) pa_nil))))))))), ?_⟩
  simp only at h1 h2 h3
  walk_at "rd"
  refine isi_yes (tyx_tup hc) (by decide +kernel) ?_
  walk_at "rd"
  refine ⟨_, .inr hc, rfl, iteNS rfl ⟨_, hc, rfl, ?_⟩⟩
  walk_at "rd"
  refine ⟨_, .inr ha, ?_⟩
  rw [List.length_map]
  refine ⟨b, xs.length, rfl, ?_⟩
  rw [decide_eq_true (show 0 ≤ (b : Int) ∧ (b : Int) < (xs.length : Int) by omega)]
  walk_at "rd"
  refine ⟨a, _, b, _, rfl, rfl, ha, atI_nat (at_ints h1), ?_⟩
  refine ⟨p, _, 9999, rfl, ?_⟩
  rw [decide_eq_true (show xs.getD b 0 ≤ p ∧ p ≤ 9999 from ⟨h2, h3⟩)]
  exact q
/-! a run of hauls -/
def runD (d : Tab) (xs : List Int) : List (Nat × Int) → List Int
  | [] => xs
  | h :: hs => runD d (moveD d xs h.1 h.2) hs
def wayD (d : Tab) (xs : List Int) : List (Nat × Int) → Int
  | [] => 0
  | h :: hs => (h.2 - xs.getD h.1 0) + wayD d (moveD d xs h.1 h.2) hs
def HaulsOk (d : Tab) (xs : List Int) : List (Nat × Int) → Prop
  | [] => True
  | h :: hs => h.1 < xs.length ∧ xs.getD h.1 0 ≤ h.2 ∧ h.2 ≤ 9999 ∧ HaulsOk d (moveD d xs h.1 h.2) hs
theorem runD_len (d : Tab) : ∀ (hs : List (Nat × Int)) (xs : List Int), (runD d xs hs).length = xs.length
  | [], xs => rfl
  | h :: hs, xs => by
    show (runD d (moveD d xs h.1 h.2) hs).length = _
    rw [runD_len d hs, moveD_len]
theorem run_snoc (d : Tab) : ∀ (hs : List (Nat × Int)) (xs : List Int) (h : Nat × Int), runD d xs (hs ++ [h]) = moveD d (runD d xs hs) h.1 h.2
  | [], _, _ => rfl
  | k :: hs, xs, h => run_snoc d hs (moveD d xs k.1 k.2) h
theorem way_snoc (d : Tab) : ∀ (hs : List (Nat × Int)) (xs : List Int) (h : Nat × Int), wayD d xs (hs ++ [h]) = wayD d xs hs + (h.2 - (runD d xs hs).getD h.1 0)
  | [], xs, h => by
    show (h.2 - xs.getD h.1 0) + 0 = 0 + (h.2 - xs.getD h.1 0)
    omega
  | k :: hs, xs, h => by
    have e := way_snoc d hs (moveD d xs k.1 k.2) h
    show (k.2 - xs.getD k.1 0) + wayD d (moveD d xs k.1 k.2) (hs ++ [h]) = (k.2 - xs.getD k.1 0) + wayD d (moveD d xs k.1 k.2) hs + (h.2 - (runD d (moveD d xs k.1 k.2) hs).getD h.1 0)
    rw [e]
    omega
theorem ok_snoc (d : Tab) : ∀ (hs : List (Nat × Int)) (xs : List Int) (h : Nat × Int), HaulsOk d xs (hs ++ [h]) ↔ HaulsOk d xs hs ∧ h.1 < (runD d xs hs).length ∧ (runD d xs hs).getD h.1 0 ≤ h.2 ∧ h.2 ≤ 9999
  | [], xs, h => by
    show (h.1 < xs.length ∧ xs.getD h.1 0 ≤ h.2 ∧ h.2 ≤ 9999 ∧ True) ↔ True ∧ h.1 < xs.length ∧ xs.getD h.1 0 ≤ h.2 ∧ h.2 ≤ 9999
    simp only [and_true, true_and]
  | k :: hs, xs, h => by
    have e := ok_snoc d hs (moveD d xs k.1 k.2) h
    show (k.1 < xs.length ∧ xs.getD k.1 0 ≤ k.2 ∧ k.2 ≤ 9999 ∧ HaulsOk d (moveD d xs k.1 k.2) (hs ++ [h])) ↔ (k.1 < xs.length ∧ xs.getD k.1 0 ≤ k.2 ∧ k.2 ≤ 9999 ∧ HaulsOk d (moveD d xs k.1 k.2) hs) ∧ h.1 < (runD d (moveD d xs k.1 k.2) hs).length ∧ (runD d (moveD d xs k.1 k.2) hs).getD h.1 0 ≤ h.2 ∧ h.2 ≤ 9999
    rw [e]
    simp only [and_assoc]
theorem ok_left (d : Tab) : ∀ (a b : List (Nat × Int)) (xs : List Int), HaulsOk d xs (a ++ b) → HaulsOk d xs a
  | [], _, _, _ => trivial
  | h :: a, b, xs, k => ⟨k.1, k.2.1, k.2.2.1, ok_left d a b _ k.2.2.2⟩
/-- the list at l holds hauls -/
def HaulsL (K : PySem.W.Frag) (H : Hp) (l : Addr) (hs : List (Nat × Int)) : Prop := ∃ xs, SqL K H l xs ∧ xs.length = hs.length ∧ ∀ (i : Nat) x, xs[i]? = some x → ∃ h, hs[i]? = some h ∧ HaulV K H x h
theorem HaulsL.mono {H H' : Hp} {l : Addr} {hs : List (Nat × Int)} (k : HaulsL K H l hs) (e : Same H H') : HaulsL K H' l hs := by
  obtain ⟨xs, h1, h2, h3⟩ := k
  refine ⟨xs, e.seq h1, h2, fun i x hx => ?_⟩
  obtain ⟨h, g1, g2⟩ := h3 i x hx
  exact ⟨h, g1, g2.mono e⟩
structure WayOk (n : Nat) (rs : List Rope) (xs : List Int) : Prop where
  fleet : FleetOk n rs
  len : xs.length = n
  range : InRange xs
  valid : Valid xs rs
def s_follow_hauls : Stmt := topS 36
abbrev n_follow_hauls : List Str := ["fleet", "positions", "hauls", "table", "current", "total", "index", "step", "barge", "position"]
abbrev p_follow_hauls : List Str := ["fleet", "positions", "hauls"]
theorem sc_follow_hauls : FnScope n_follow_hauls p_follow_hauls (defScope s_follow_hauls) := ⟨rfl, rfl, rfl, by decide +kernel, rfl, by decide +kernel, by decide +kernel⟩
def sp_follow_hauls (K : PySem.W.Frag) : Sp := fun vs H Q _ => ∃ (v u : V) (l : Addr) (n : Nat) (rs : List Rope) (xs : List Int) (hs : List (Nat × Int)), vs = [v, u, .ref l] ∧ FleetV K H v n rs ∧ IntsT K H u xs ∧ WayOk n rs xs ∧ HaulsL K H l hs ∧ hs.length ≤ 1000 ∧
  HaulsOk (chainTab n rs) xs hs ∧ ∀ H' p c, Same H H' → H' p = some (.tup [.ref c, .int (wayD (chainTab n rs) xs hs)]) → IntsT K H' (.ref c) (runD (chainTab n rs) xs hs) → Q (.ref p) H'
theorem df_follow_hauls (T : Here K mg "follow_hauls" s_follow_hauls) (B : Blt mg) (D_check_fleet : Df P w K mg base CX0 "check_fleet" 4 p_check_fleet (sp_check_fleet K)) (D_check_valid : Df P w K mg base CX0 "check_valid" 4 p_check_valid (sp_check_valid K))
    (D_chain_table : Df P w K mg base CX0 "chain_table" 2 p_chain_table (sp_chain_table K)) (D_is_haul : Df P w K mg base CX0 "is_haul" 3 p_is_haul (sp_is_haul K)) (D_move_barge : Df P w K mg base CX0 "move_barge" 1 p_move_barge (sp_move_barge K)) :
    Df P w K mg base CX0 "follow_hauls" 5 p_follow_hauls (sp_follow_hauls K) := by
  refine T.df sc_follow_hauls (fun _ _ _ _ _ _ us hl => match us, hl with | [_, _, _], _ => rfl) (fun vs H Q E h => by obtain ⟨_, _, _, _, _, _, _, rfl, _⟩ := h; rfl) (fun f cdv A outer s H vs Q E hr h => ?_)
  obtain ⟨v, u, l, n, rs, xs, hs, rfl, hv, hu, hw, hl, hlen, hok, q⟩ := h
  refine ⟨_, pss_cons (ps_expr (D_check_fleet.call (hr.mono (by decide)) (by rfl) (pa_cons (pv 0) pa_nil)))
      (pss_cons (ps_expr (D_check_valid.call (hr.mono (by decide)) (by rfl) (pa_cons (pv 0) (pa_cons (pv 1) pa_nil))))
      (pss_cons (ps_if (pt_not (pt_val (pe_callB (isi K rfl) (by rfl) B.isinstance (by decide +kernel) (pa_cons (pv 2) (pa_cons ((pe_bltn (v := .ty "list") (by rfl) B.list (by decide +kernel) rfl)) pa_nil))))) (pss_one (ps_never)) (pss_nil))
      (pss_cons (ps_set (i := 3) sc_follow_hauls.nd rfl (by first | exact Or.inl rfl | exact Or.inr rfl) (D_chain_table.call (hr.mono (by decide)) (by rfl) (pa_cons (pv 0) pa_nil)))
      (pss_cons (ps_set (i := 4) sc_follow_hauls.nd rfl (by first | exact Or.inl rfl | exact Or.inr rfl) (pe_callTy (tupleOf K rfl) (by rfl) B.tuple (by decide +kernel) (pa_cons (pv 1) pa_nil)))
      (pss_cons (ps_set (i := 5) sc_follow_hauls.nd rfl (by first | exact Or.inl rfl | exact Or.inr rfl) (pe_int))
      (pss_cons (ps_for PassesOwn.never rfl (pi_enum (by rfl) B.enumerate (pa_cons (pv 2) pa_nil)) (pgTup K rfl (n := 2) rfl (pgs_cons (pg_name (i := 6) sc_follow_hauls.nd rfl (by first | exact Or.inl rfl | exact Or.inr rfl)) (pgs_cons (pg_name (i := 7) sc_follow_hauls.nd rfl (by first | exact Or.inl rfl | exact Or.inr rfl)) pgs_nil))) (pss_cons (ps_if (pt_not (pt_val (D_is_haul.call (hr.mono (by decide)) (by rfl) (pa_cons (pv 7) (pa_cons (pv 4) pa_nil))))) (pss_one (ps_never)) (pss_nil))
      (pss_cons (ps_asg (pv 7) (pgTup K rfl (n := 2) rfl (pgs_cons (pg_name (i := 8) sc_follow_hauls.nd rfl (by first | exact Or.inl rfl | exact Or.inr rfl)) (pgs_cons (pg_name (i := 9) sc_follow_hauls.nd rfl (by first | exact Or.inl rfl | exact Or.inr rfl)) pgs_nil))))
      (pss_cons (ps_aug (i := 5) sc_follow_hauls.nd rfl (by first | exact Or.inl rfl | exact Or.inr rfl) (pe_op op_sub (pv 9) (pe_ix (ixT K rfl) (pv 4) (pv 8) (fun _ _ => rfl))) ip_add)
      (pss_one (ps_set (i := 4) sc_follow_hauls.nd rfl (by first | exact Or.inl rfl | exact Or.inr rfl) (D_move_barge.call (hr.mono (by decide)) (by rfl) (pa_cons (pv 3) (pa_cons (pv 4) (pa_cons (pv 8) (pa_cons (pv 9) pa_nil)))))))))))
      (pss_one (ps_ret (pe_tup (pa_cons (pv 4) (pa_cons (pv 5) pa_nil))))))))))), ?_⟩
  walk_at "rd"
  refine ⟨v, n, rs, rfl, hv, hw.fleet, fun H1 s1 => ?_⟩
  walk_at "rd"
  refine ⟨v, u, n, rs, xs, rfl, hv.mono s1, hu.mono s1, by rw [hw.len], hw.range, hw.fleet.2.2.2, hw.valid, fun H2 s2 => ?_⟩
  have s2 := s1.trans s2
  obtain ⟨ys, hy1, hy2, hy3⟩ := hl.mono s2
  walk_at "rd"
  refine isi_yes (tyx_lst hy1) (by decide +kernel) ?_
  walk_at "rd"
  refine ⟨v, n, rs, rfl, hv.mono s2, hw.fleet, fun H3 t as tn => ?_⟩
  have s3 := s2.trans tn.same
  obtain ⟨c, rfl, hc⟩ := hu.mono s3
  walk_at "rd"
  refine ⟨_, .inr ⟨hc, ?_⟩⟩
  walk_at "rd"
  refine ⟨_, tn.same.seq hy1, ?_⟩
  refine forEnumL (xs := ys) (fun i σ H' => ∃ c' x6 x7 x8 x9, σ = [some v, some (.ref c), some (.ref l), some (.ref t), some (.ref c'), some (.int (wayD (chainTab n rs) xs (hs.take i))), x6, x7, x8, x9] ∧ Same H3 H' ∧ SqT K H' c' ((runD (chainTab n rs) xs (hs.take i)).map V.int))
    ⟨c, _, _, _, _, rfl, .refl _, hc⟩ (fun i σ H' _ hPv => ?_) (fun i x T σ H' hx' hPv hT => ?_) (fun σ H' hPv => ?_)
  · obtain ⟨_, _, _, _, _, _, e, _⟩ := hPv
    exact (tn.same.trans e).seq hy1
  · obtain ⟨c', x6, x7, x8, x9, rfl, e, hc'⟩ := hPv
    obtain ⟨⟨hb, hp⟩, hh, hV⟩ := hy3 i x hx'
    have etk : hs.take (i + 1) = hs.take i ++ [(hb, hp)] := by
      rw [List.take_add_one, hh]
      rfl
    have hk : HaulsOk (chainTab n rs) xs (hs.take i ++ [(hb, hp)]) := by
      rw [← etk]
      refine ok_left _ _ (hs.drop (i + 1)) xs ?_
      rw [List.take_append_drop]
      exact hok
    obtain ⟨k0, k1, k2, k3⟩ := (ok_snoc _ _ _ _).mp hk
    have k1 : hb < (runD (chainTab n rs) xs (hs.take i)).length := k1
    have k2 : (runD (chainTab n rs) xs (hs.take i)).getD hb 0 ≤ hp := k2
    have k3 : hp ≤ 9999 := k3
    have eT := e.trans (same_upd (o := .tup [V.int i, x]) hT)
    have hcT := sqt_same (same_upd (o := .tup [V.int i, x]) hT) hc'
    obtain ⟨z, rfl, hz⟩ := hV.mono (tn.same.trans eT)
    walk_at "rd"
    refine ⟨_, .of upd_same, rfl, ?_⟩
    walk_at "rd"
    refine ⟨.ref z, .ref c', _, (hb, hp), rfl, ⟨z, rfl, hz⟩, ⟨c', rfl, hcT⟩, k1, k2, k3, ?_⟩
    walk_at "rd"
    refine ⟨_, hz, rfl, ?_⟩
    walk_at "rd"
    refine ⟨c', _, hb, _, rfl, rfl, hcT, atI_nat (at_ints k1), ?_⟩
    walk_at "rd"
    refine ⟨t, as, n, _, _, _, hb, hp, rfl, tn.tab.mono eT, ⟨c', rfl, hcT⟩, by rw [runD_len, hw.len], ?_, by have := hw.fleet.2.1; omega, fun H5 a s5 _ ha => ?_⟩
    · rw [runD_len, hw.len] at k1
      exact k1
    · refine ⟨a, _, _, _, _, ⟨rfl, ?_, rfl, rfl, rfl, rfl⟩, eT.trans s5, ?_⟩
      · rw [etk, way_snoc]
      · rw [etk, run_snoc]
        exact .of ha
  · obtain ⟨c', x6, x7, x8, x9, rfl, e, hc'⟩ := hPv
    rw [List.take_of_length_le (by omega)] at hc'
    rw [List.take_of_length_le (by omega)]
    walk_at "rd"
    refine ⟨(by show 2 ≤ sizeLine; decide), fun p hp => ?_⟩
    have sp := same_upd (o := .tup [V.ref c', V.int (wayD (chainTab n rs) xs hs)]) hp
    exact q _ p c' ((s3.trans e).trans sp) upd_same ⟨c', rfl, sqt_same sp hc'⟩
def s_haul_all : Stmt := topS 30
abbrev n_haul_all : List Str := ["fleet", "positions", "hauls"]
abbrev p_haul_all : List Str := ["fleet", "positions", "hauls"]
theorem sc_haul_all : FnScope n_haul_all p_haul_all (defScope s_haul_all) := ⟨rfl, rfl, rfl, by decide +kernel, rfl, by decide +kernel, by decide +kernel⟩
def sp_haul_all (K : PySem.W.Frag) : Sp := fun vs H Q _ => ∃ (v u : V) (l : Addr) (n : Nat) (rs : List Rope) (xs : List Int) (hs : List (Nat × Int)), vs = [v, u, .ref l] ∧ FleetV K H v n rs ∧ IntsT K H u xs ∧ WayOk n rs xs ∧ HaulsL K H l hs ∧ hs.length ≤ 1000 ∧
  HaulsOk (chainTab n rs) xs hs ∧ ∀ H' r, Same H H' → IntsT K H' r (runD (chainTab n rs) xs hs) → Q r H'
theorem df_haul_all (T : Here K mg "haul_all" s_haul_all) (D_follow_hauls : Df P w K mg base CX0 "follow_hauls" 5 p_follow_hauls (sp_follow_hauls K)) : Df P w K mg base CX0 "haul_all" 6 p_haul_all (sp_haul_all K) := by
  refine T.df sc_haul_all (fun _ _ _ _ _ _ us hl => match us, hl with | [_, _, _], _ => rfl) (fun vs H Q E h => by obtain ⟨_, _, _, _, _, _, _, rfl, _⟩ := h; rfl) (fun f cdv A outer s H vs Q E hr h => ?_)
  obtain ⟨v, u, l, n, rs, xs, hs, rfl, hv, hu, hw, hl, hlen, hok, q⟩ := h
  refine ⟨_, pss_one (ps_ret (pe_ix (ixT K rfl) (D_follow_hauls.call (hr.mono (by decide)) (by rfl) (pa_cons (pv 0) (pa_cons (pv 1) (pa_cons (pv 2) pa_nil)))) (pe_int) (fun _ _ => rfl))), ?_⟩
  walk_at "rd"
  refine ⟨v, u, l, n, rs, xs, hs, rfl, hv, hu, hw, hl, hlen, hok, fun H1 p c s1 hp hc => ?_⟩
  refine ⟨p, _, 0, _, rfl, rfl, .of hp, atI_nat (j := 0) rfl, ?_⟩
  exact q _ _ s1 hc
def s_total_distance : Stmt := topS 31
abbrev n_total_distance : List Str := ["fleet", "positions", "hauls"]
abbrev p_total_distance : List Str := ["fleet", "positions", "hauls"]
theorem sc_total_distance : FnScope n_total_distance p_total_distance (defScope s_total_distance) := ⟨rfl, rfl, rfl, by decide +kernel, rfl, by decide +kernel, by decide +kernel⟩
def sp_total_distance (K : PySem.W.Frag) : Sp := fun vs H Q _ => ∃ (v u : V) (l : Addr) (n : Nat) (rs : List Rope) (xs : List Int) (hs : List (Nat × Int)), vs = [v, u, .ref l] ∧ FleetV K H v n rs ∧ IntsT K H u xs ∧ WayOk n rs xs ∧ HaulsL K H l hs ∧ hs.length ≤ 1000 ∧
  HaulsOk (chainTab n rs) xs hs ∧ ∀ H', Same H H' → Q (.int (wayD (chainTab n rs) xs hs)) H'
theorem df_total_distance (T : Here K mg "total_distance" s_total_distance) (D_follow_hauls : Df P w K mg base CX0 "follow_hauls" 5 p_follow_hauls (sp_follow_hauls K)) : Df P w K mg base CX0 "total_distance" 6 p_total_distance (sp_total_distance K) := by
  refine T.df sc_total_distance (fun _ _ _ _ _ _ us hl => match us, hl with | [_, _, _], _ => rfl) (fun vs H Q E h => by obtain ⟨_, _, _, _, _, _, _, rfl, _⟩ := h; rfl) (fun f cdv A outer s H vs Q E hr h => ?_)
  obtain ⟨v, u, l, n, rs, xs, hs, rfl, hv, hu, hw, hl, hlen, hok, q⟩ := h
  refine ⟨_, pss_one (ps_ret (pe_ix (ixT K rfl) (D_follow_hauls.call (hr.mono (by decide)) (by rfl) (pa_cons (pv 0) (pa_cons (pv 1) (pa_cons (pv 2) pa_nil)))) (pe_int) (fun _ _ => rfl))), ?_⟩
  walk_at "rd"
  refine ⟨v, u, l, n, rs, xs, hs, rfl, hv, hu, hw, hl, hlen, hok, fun H1 p c s1 hp hc => ?_⟩
  refine ⟨p, _, 1, _, rfl, rfl, .of hp, atI_nat (j := 1) rfl, ?_⟩
  exact q _ s1
def s_haul : Stmt := topS 29
abbrev n_haul : List Str := ["fleet", "positions", "barge", "position"]
abbrev p_haul : List Str := ["fleet", "positions", "barge", "position"]
theorem sc_haul : FnScope n_haul p_haul (defScope s_haul) := ⟨rfl, rfl, rfl, by decide +kernel, rfl, by decide +kernel, by decide +kernel⟩
def sp_haul (K : PySem.W.Frag) : Sp := fun vs H Q _ => ∃ (v u : V) (n : Nat) (rs : List Rope) (xs : List Int) (b : Nat) (p : Int), vs = [v, u, .int b, .int p] ∧ FleetV K H v n rs ∧ IntsT K H u xs ∧ WayOk n rs xs ∧ b < n ∧ xs.getD b 0 ≤ p ∧ p ≤ 9999 ∧
  ∀ H' r, Same H H' → IntsT K H' r (moveD (chainTab n rs) xs b p) → Q r H'
theorem df_haul (T : Here K mg "haul" s_haul) (D_haul_all : Df P w K mg base CX0 "haul_all" 6 p_haul_all (sp_haul_all K)) : Df P w K mg base CX0 "haul" 7 p_haul (sp_haul K) := by
  refine T.df sc_haul (fun _ _ _ _ _ _ us hl => match us, hl with | [_, _, _, _], _ => rfl) (fun vs H Q E h => by obtain ⟨_, _, _, _, _, _, _, rfl, _⟩ := h; rfl) (fun f cdv A outer s H vs Q E hr h => ?_)
  obtain ⟨v, u, n, rs, xs, b, p, rfl, hv, hu, hw, hb, h1, h2, q⟩ := h
  refine ⟨_, pss_one (ps_ret (D_haul_all.call (hr.mono (by decide)) (by rfl) (pa_cons (pv 0) (pa_cons (pv 1) (pa_cons (pe_lst (pa_cons (pe_tup (pa_cons (pv 2) (pa_cons (pv 3) pa_nil))) pa_nil)) pa_nil))))), ?_⟩
  walk_at "rd"
  refine ⟨(by show 2 ≤ sizeLine; decide), fun c hc => ?_⟩
  refine ⟨(by show 1 ≤ sizeLine; decide), fun l hl => ?_⟩
  have s1 := same_upd (o := .tup [V.int b, V.int p]) hc
  have s2 := same_upd (o := .lst [V.ref c]) hl
  have hb' : b < xs.length := by rw [hw.len]; exact hb
  refine ⟨v, u, l, n, rs, xs, [(b, p)], rfl, hv.mono (s1.trans s2), hu.mono (s1.trans s2), hw, ⟨_, .of upd_same, rfl, fun i x hx => ?_⟩, (by show 1 ≤ 1000; decide), ⟨hb', h1, h2, trivial⟩, fun H3 r s3 hr3 => ?_⟩
  · cases i with
    | zero =>
      cases hx
      exact ⟨_, rfl, c, rfl, sqt_same s2 (.of upd_same)⟩
    | succ i => cases hx
  · exact q _ _ ((s1.trans s2).trans s3) hr3
end
end Hx

set_option Elab.async false
set_option linter.all false
set_option maxRecDepth 100000
set_option maxHeartbeats 4000000
namespace Hx
open PySem PySem.Spec PyProof.Rows L2
local macro_rules | `(tactic| walk_at "rd") => `(tactic| (try simp only [q_var, q_c, q_op, q_un, q_rI, q_rI0, q_rU, q_rEq, q_rNe, q_test, q_tB, q_and, q_or, q_not, q_andV, q_orV, q_notV, q_if, q_isN, q_notN, q_chain, q_next, q_seq, q_break, q_cont, q_drop, q_ret, q_retN, q_ifS, q_never, q_gN, q_gNil, q_gCons, q_gTup, q_gSub, q_asg, q_par, q_aug, q_nil, q_cons, q_tup, q_lst, q_call, q_cb, q_noPart, q_part, q_sl, q_bm0, q_bm, q_yes, q_for, q_lc, q_iList, q_iTup, q_iRng1, q_iEnumT, q_iEnum, q_iRng2, q_iZipA, q_ipI, q_ckw, q_len, q_listOf, q_tupleOf, L2.start, cx_K, wipe, List.map_cons, List.map_nil, List.length_cons, List.length_nil, List.cons_append, List.nil_append, List.append_nil, List.replicate, List.getElem?_cons_zero, List.getElem?_cons_succ, List.set_cons_zero, List.set_cons_succ, Option.some.injEq, List.cons.injEq, exists_eq_left', exists_eq_left, exists_and_left, V.int.injEq, V.bl.injEq, V.ref.injEq, if_true, if_false, Bool.not_true, Bool.not_false, true_and, and_true, Bool.false_eq_true, ite_true, ite_false, Nat.reduceAdd, Nat.reduceSub, reduceCtorEq, decide_false, decide_true, Int.toNat_natCast]))
section
variable {P : Program} {w : World} {K : PySem.W.Frag} {mg : Str → Option Value} {base : Heap}
def dragD (xs ys : List Int) (b k : Nat) : List Nat := (List.range k).filter fun o => decide (o ≠ b) && decide (ys.getD o 0 ≠ xs.getD o 0)
theorem dragD_succ (xs ys : List Int) (b k : Nat) : dragD xs ys b (k + 1) = dragD xs ys b k ++ (if k ≠ b ∧ ys.getD k 0 ≠ xs.getD k 0 then [k] else []) := by
  unfold dragD
  rw [List.range_succ, List.filter_append, List.filter_cons, List.filter_nil]
  by_cases h1 : k ≠ b <;> by_cases h2 : ys.getD k 0 ≠ xs.getD k 0 <;> simp [h1, h2]
theorem dragD_le (xs ys : List Int) (b k : Nat) : (dragD xs ys b k).length ≤ k := by
  unfold dragD
  have := List.length_filter_le (fun o => decide (o ≠ b) && decide (ys.getD o 0 ≠ xs.getD o 0)) (List.range k)
  rw [List.length_range] at this
  exact this
def natV (ks : List Nat) : List V := ks.map fun (k : Nat) => V.int (k : Int)
def s_dragged_barges : Stmt := topS 32
abbrev n_dragged_barges : List Str := ["fleet", "positions", "barge", "position", "after", "other"]
abbrev p_dragged_barges : List Str := ["fleet", "positions", "barge", "position"]
theorem sc_dragged_barges : FnScope n_dragged_barges p_dragged_barges (defScope s_dragged_barges) := ⟨rfl, rfl, rfl, by decide +kernel, rfl, by decide +kernel, by decide +kernel⟩
def sp_dragged_barges (K : PySem.W.Frag) : Sp := fun vs H Q _ => ∃ (v u : V) (n : Nat) (rs : List Rope) (xs : List Int) (b : Nat) (p : Int), vs = [v, u, .int b, .int p] ∧ FleetV K H v n rs ∧ IntsT K H u xs ∧ WayOk n rs xs ∧ b < n ∧ xs.getD b 0 ≤ p ∧ p ≤ 9999 ∧
  ∀ H' r, Same H H' → H r = none → H' r = some (.lst (natV (dragD xs (moveD (chainTab n rs) xs b p) b n))) → Q (.ref r) H'
theorem df_dragged_barges (T : Here K mg "dragged_barges" s_dragged_barges) (B : Blt mg) (D_haul : Df P w K mg base CX0 "haul" 7 p_haul (sp_haul K)) : Df P w K mg base CX0 "dragged_barges" 8 p_dragged_barges (sp_dragged_barges K) := by
  refine T.df sc_dragged_barges (fun _ _ _ _ _ _ us hl => match us, hl with | [_, _, _, _], _ => rfl) (fun vs H Q E h => by obtain ⟨_, _, _, _, _, _, _, rfl, _⟩ := h; rfl) (fun f cdv A outer s H vs Q E hr h => ?_)
  obtain ⟨v, u, n, rs, xs, b, p, rfl, hv, hu, hw, hb, h1, h2, q⟩ := h
  have h8 : n ≤ 8 := by have := hw.fleet.2.1; omega
  have hz : 8 < sizeLine := by decide
  refine ⟨_, pss_cons (ps_set (i := 4) sc_dragged_barges.nd rfl (by first | exact Or.inl rfl | exact Or.inr rfl) (D_haul.call (hr.mono (by decide)) (by rfl) (pa_cons (pv 0) (pa_cons (pv 1) (pa_cons (pv 2) (pa_cons (pv 3) pa_nil))))))
      (pss_one (ps_ret (pe_lc (own := [("other", 5)]) rfl sc_dragged_barges.nd (pi_range1 (by rfl) B.range (pa_cons (pe_callB (lenQ K rfl) (by rfl) B.len (by decide +kernel) (pa_cons (pv 4) pa_nil)) pa_nil)) (blkOk_by (N := n_dragged_barges) (sc := defScope s_dragged_barges) (by decide +kernel)) (fun _ _ _ _ _ => pg_name (i := 5) sc_dragged_barges.nd rfl (by first | exact Or.inl rfl | exact Or.inr rfl)) (fun _ _ _ _ _ => pts_one (PW.pt (pw_and (pt_cmpR op_ne (pv 5) (pv 2) (nomark _)) (pw_and1 (pt_cmpR op_ne (pe_ix (ixT K rfl) (pv 4) (pv 5) (fun _ _ => rfl)) (pe_ix (ixT K rfl) (pv 1) (pv 5) (fun _ _ => rfl)) (nomark _)))))) (fun _ _ _ _ _ => pv 5)))), ?_⟩
  walk_at "rd"
  refine ⟨v, u, n, rs, xs, b, p, rfl, hv, hu, hw, hb, h1, h2, fun H1 r s1 hr1 => ?_⟩
  generalize hys : moveD (chainTab n rs) xs b p = ys at q hr1
  have ly : ys.length = n := by rw [← hys, moveD_len, hw.len]
  obtain ⟨c, rfl, hc⟩ := hr1
  obtain ⟨a, rfl, ha⟩ := hu.mono s1
  walk_at "rd"
  refine ⟨_, .inr hc, ?_⟩
  rw [List.length_map, ly]
  refine ⟨by omega, by omega, fun l hl => ?_⟩
  walk_at "rd"
  refine lcRange (fun i H' => Same H1 H' ∧ H' l = some (.lst (natV (dragD xs ys b i)))) ⟨same_upd hl, upd_same⟩ (fun i H' hi hPv => ?_) (fun H' hPv => ?_)
  · obtain ⟨e, hL⟩ := hPv
    have key : ∀ x, x = dragD xs ys b i ++ [i] → Same H1 (upd H' l (.lst (natV x))) ∧ (upd H' l (.lst (natV x))) l = some (.lst (natV x)) := fun x _ =>
      ⟨fun z o hz' => by rw [upd_ne (ne_of_none hz' hl)]; exact e z o hz', upd_same⟩
    have hlen : (natV (dragD xs ys b i)).length < sizeLine := by
      have := dragD_le xs ys b i
      unfold natV
      rw [List.length_map]
      omega
    walk_at "rd"
    by_cases hib : i = b
    · subst hib
      simp only [dragD_succ]
      simp only [ne_eq, not_true_eq_false, false_and, if_false, List.append_nil, decide_true, Bool.not_true, Bool.false_eq_true]
      exact ⟨rfl, e, hL⟩
    · have hib' : ¬ (i : Int) = (b : Int) := by omega
      simp only [hib', decide_false, Bool.not_false, if_true]
      refine ⟨rfl, c, _, i, _, rfl, rfl, sqt_same e hc, atI_nat (at_ints (by omega)), ?_⟩
      refine ⟨a, _, i, _, rfl, rfl, sqt_same e ha, atI_nat (at_ints (by rw [hw.len]; exact hi)), ?_⟩
      walk_at "rd"
      refine ⟨rfl, ?_⟩
      by_cases hd : ys.getD i 0 = xs.getD i 0
      · simp only [hd, decide_true, Bool.not_true, Bool.false_eq_true, if_false, dragD_succ]
        simp only [ne_eq, not_true_eq_false, and_false, if_false, List.append_nil]
        exact ⟨e, hL⟩
      · simp only [hd, decide_false, Bool.not_false, if_true, dragD_succ]
        simp only [ne_eq, hib, not_false_eq_true, hd, and_self, if_true]
        refine ⟨_, hL, hlen, ?_⟩
        have e2 : natV (dragD xs ys b i ++ [i]) = natV (dragD xs ys b i) ++ [V.int (i : Int)] := by
          unfold natV
          rw [List.map_append]
          rfl
        rw [← e2]
        exact key _ rfl
  · obtain ⟨e, hL⟩ := hPv
    exact q _ l (s1.trans e) (s1.free hl) hL
def leastD (d : Tab) (ws : List (Option Int)) (xs : List Int) (k : Nat) : List Int :=
  (List.range k).foldl (fun ys i => match ws.getD i none with | none => ys | some v => if ys.getD i 0 < v then moveD d ys i v else ys) xs
theorem leastD_succ (d : Tab) (ws : List (Option Int)) (xs : List Int) (k : Nat) : leastD d ws xs (k + 1) = match ws.getD k none with | none => leastD d ws xs k | some v => if (leastD d ws xs k).getD k 0 < v then moveD d (leastD d ws xs k) k v else leastD d ws xs k := by
  unfold leastD
  rw [List.range_succ, List.foldl_append]
  rfl
theorem leastD_len (d : Tab) (ws : List (Option Int)) (xs : List Int) : ∀ k, (leastD d ws xs k).length = xs.length
  | 0 => rfl
  | k + 1 => by
    rw [leastD_succ]
    have ih := leastD_len d ws xs k
    cases ws.getD k none with
    | none => exact ih
    | some v =>
      show (if (leastD d ws xs k).getD k 0 < v then moveD d (leastD d ws xs k) k v else leastD d ws xs k).length = _
      split
      · rw [moveD_len]
        exact ih
      · exact ih
theorem opts_at {es : List (Option Int)} {i : Nat} {x : V} (h : (es.map ovV)[i]? = some x) : i < es.length ∧ x = ovV (es.getD i none) := by
  rw [List.getElem?_map] at h
  cases e : es[i]? with
  | none =>
    rw [e] at h
    cases h
  | some y =>
    rw [e] at h
    refine ⟨(List.getElem?_eq_some_iff.mp e).1, ?_⟩
    rw [List.getD_eq_getElem?_getD, e]
    exact (Option.some.inj h).symm
theorem at_opts {es : List (Option Int)} {i : Nat} (h : i < es.length) : (es.map ovV)[i]? = some (ovV (es.getD i none)) := by
  rw [List.getElem?_map, List.getD_eq_getElem?_getD, List.getElem?_eq_getElem h]
  rfl
def s_least_positions : Stmt := topS 33
abbrev n_least_positions : List Str := ["fleet", "positions", "wishes", "table", "least", "barge", "wish"]
abbrev p_least_positions : List Str := ["fleet", "positions", "wishes"]
theorem sc_least_positions : FnScope n_least_positions p_least_positions (defScope s_least_positions) := ⟨rfl, rfl, rfl, by decide +kernel, rfl, by decide +kernel, by decide +kernel⟩
def sp_least_positions (K : PySem.W.Frag) : Sp := fun vs H Q _ => ∃ (v u x : V) (n : Nat) (rs : List Rope) (xs : List Int) (ws : List (Option Int)), vs = [v, u, x] ∧ FleetV K H v n rs ∧ IntsT K H u xs ∧ WayOk n rs xs ∧ OptsT K H x ws ∧ ws.length = n ∧ OptOk ws ∧
  ∀ H' r, Same H H' → IntsT K H' r (leastD (chainTab n rs) ws xs n) → Q r H'
theorem df_least_positions (T : Here K mg "least_positions" s_least_positions) (B : Blt mg) (D_check_fleet : Df P w K mg base CX0 "check_fleet" 4 p_check_fleet (sp_check_fleet K)) (D_check_valid : Df P w K mg base CX0 "check_valid" 4 p_check_valid (sp_check_valid K))
    (D_check_wishes : Df P w K mg base CX0 "check_wishes" 3 p_check_wishes (sp_check_wishes K)) (D_chain_table : Df P w K mg base CX0 "chain_table" 2 p_chain_table (sp_chain_table K)) (D_move_barge : Df P w K mg base CX0 "move_barge" 1 p_move_barge (sp_move_barge K)) :
    Df P w K mg base CX0 "least_positions" 5 p_least_positions (sp_least_positions K) := by
  refine T.df sc_least_positions (fun _ _ _ _ _ _ us hl => match us, hl with | [_, _, _], _ => rfl) (fun vs H Q E h => by obtain ⟨_, _, _, _, _, _, _, rfl, _⟩ := h; rfl) (fun f cdv A outer s H vs Q E hr h => ?_)
  obtain ⟨v, u, x, n, rs, xs, ws, rfl, hv, hu, hw, hx, hl, hok, q⟩ := h
  refine ⟨_, pss_cons (ps_expr (D_check_fleet.call (hr.mono (by decide)) (by rfl) (pa_cons (pv 0) pa_nil)))
      (pss_cons (ps_expr (D_check_valid.call (hr.mono (by decide)) (by rfl) (pa_cons (pv 0) (pa_cons (pv 1) pa_nil))))
      (pss_cons (ps_expr (D_check_wishes.call (hr.mono (by decide)) (by rfl) (pa_cons (pv 0) (pa_cons (pv 2) pa_nil))))
      (pss_cons (ps_set (i := 3) sc_least_positions.nd rfl (by first | exact Or.inl rfl | exact Or.inr rfl) (D_chain_table.call (hr.mono (by decide)) (by rfl) (pa_cons (pv 0) pa_nil)))
      (pss_cons (ps_set (i := 4) sc_least_positions.nd rfl (by first | exact Or.inl rfl | exact Or.inr rfl) (pe_callTy (tupleOf K rfl) (by rfl) B.tuple (by decide +kernel) (pa_cons (pv 1) pa_nil)))
      (pss_cons (ps_for PassesOwn.never rfl (pi_enumT (by rfl) B.enumerate (pa_cons (pv 2) pa_nil)) (pgTup K rfl (n := 2) rfl (pgs_cons (pg_name (i := 5) sc_least_positions.nd rfl (by first | exact Or.inl rfl | exact Or.inr rfl)) (pgs_cons (pg_name (i := 6) sc_least_positions.nd rfl (by first | exact Or.inl rfl | exact Or.inr rfl)) pgs_nil))) (pss_one (ps_if (PW.pt (pw_and (pt_cmpR op_notN (pv 6) (pe_non) (nomark _)) (pw_and1 (pt_cmpR op_gt (pv 6) (pe_ix (ixT K rfl) (pv 4) (pv 5) (fun _ _ => rfl)) (nomark _))))) (pss_one (ps_set (i := 4) sc_least_positions.nd rfl (by first | exact Or.inl rfl | exact Or.inr rfl) (D_move_barge.call (hr.mono (by decide)) (by rfl) (pa_cons (pv 3) (pa_cons (pv 4) (pa_cons (pv 5) (pa_cons (pv 6) pa_nil))))))) (pss_nil))))
      (pss_one (ps_ret (pv 4)))))))), ?_⟩
  walk_at "rd"
  refine ⟨v, n, rs, rfl, hv, hw.fleet, fun H1 s1 => ?_⟩
  walk_at "rd"
  refine ⟨v, u, n, rs, xs, rfl, hv.mono s1, hu.mono s1, by rw [hw.len], hw.range, hw.fleet.2.2.2, hw.valid, fun H2 s2 => ?_⟩
  have s2 := s1.trans s2
  walk_at "rd"
  refine ⟨v, x, n, rs, ws, rfl, hv.mono s2, hx.mono s2, by rw [hl], hok, fun H3 s3 => ?_⟩
  have s3 := s2.trans s3
  walk_at "rd"
  refine ⟨v, n, rs, rfl, hv.mono s3, hw.fleet, fun H4 t as tn => ?_⟩
  have s4 := s3.trans tn.same
  obtain ⟨c, rfl, hc⟩ := hu.mono s4
  obtain ⟨e, rfl, he⟩ := hx.mono s4
  walk_at "rd"
  refine ⟨_, .inr ⟨hc, ?_⟩⟩
  walk_at "rd"
  refine ⟨⟨_, he⟩, ?_⟩
  refine forEnumT (xs := ws.map ovV) (fun i σ H' => ∃ c' x5 x6, σ = [some v, some (.ref c), some (.ref e), some (.ref t), some (.ref c'), x5, x6] ∧ Same H4 H' ∧ SqT K H' c' ((leastD (chainTab n rs) ws xs i).map V.int))
    ⟨c, _, _, rfl, .refl _, hc⟩ (fun i σ H' _ hPv => ?_) (fun i x T σ H' hx' hPv hT => ?_) (fun σ H' hPv => ?_)
  · obtain ⟨_, _, _, _, k, _⟩ := hPv
    exact sqt_same k he
  · obtain ⟨c', x5, x6, rfl, k, hc'⟩ := hPv
    obtain ⟨hi, rfl⟩ := opts_at hx'
    have kT := k.trans (same_upd (o := .tup [V.int i, ovV (ws.getD i none)]) hT)
    have hcT := sqt_same (same_upd (o := .tup [V.int i, ovV (ws.getD i none)]) hT) hc'
    have lx := leastD_len (chainTab n rs) ws xs i
    rw [hw.len] at lx
    walk_at "rd"
    refine ⟨_, .of upd_same, rfl, ?_⟩
    walk_at "rd"
    simp only [leastD_succ]
    cases hwi : ws.getD i none with
    | none =>
      simp only [hwi] at kT hcT
      simp only [ovV, decide_true, Bool.not_true, Bool.false_eq_true, ite_false]
      exact ⟨c', _, _, ⟨rfl, rfl, rfl⟩, kT, hcT⟩
    | some y =>
      simp only [hwi] at kT hcT
      simp only [ovV, reduceCtorEq, decide_false, Bool.not_false, ite_true]
      refine ⟨c', _, i, _, rfl, rfl, hcT, atI_nat (at_ints (by omega)), ?_⟩
      walk_at "rd"
      by_cases hlt : (leastD (chainTab n rs) ws xs i).getD i 0 < y
      · simp only [hlt, decide_true, ite_true]
        refine ⟨t, as, n, _, .ref c', _, i, y, rfl, tn.tab.mono kT, ⟨c', rfl, hcT⟩, lx, by omega, by have := hw.fleet.2.1; omega, fun H5 a s5 _ ha => ?_⟩
        exact ⟨a, _, _, ⟨rfl, rfl, rfl⟩, kT.trans s5, .of ha⟩
      · simp only [hlt, decide_false, Bool.false_eq_true, ite_false]
        exact ⟨c', _, _, ⟨rfl, rfl, rfl⟩, kT, hcT⟩
  · obtain ⟨c', x5, x6, rfl, k, hc'⟩ := hPv
    rw [List.length_map, hl] at hc'
    walk_at "rd"
    exact q _ _ (s4.trans k) ⟨c', rfl, hc'⟩
end
end Hx

set_option Elab.async false
set_option linter.all false
set_option maxRecDepth 100000
set_option maxHeartbeats 4000000
namespace Hx
open PySem PySem.Spec PyProof.Rows L2
local macro_rules | `(tactic| walk_at "rd") => `(tactic| (try simp only [q_var, q_c, q_op, q_un, q_rI, q_rI0, q_rU, q_rEq, q_rNe, q_test, q_tB, q_and, q_or, q_not, q_andV, q_orV, q_notV, q_if, q_isN, q_notN, q_chain, q_next, q_seq, q_break, q_cont, q_drop, q_ret, q_retN, q_ifS, q_never, q_gN, q_gNil, q_gCons, q_gTup, q_gSub, q_asg, q_par, q_aug, q_nil, q_cons, q_tup, q_lst, q_call, q_cb, q_noPart, q_part, q_sl, q_bm0, q_bm, q_yes, q_for, q_lc, q_iList, q_iTup, q_iRng1, q_iEnumT, q_iEnum, q_iRng2, q_iZipA, q_iZipM, q_ipI, q_ckw, q_len, q_listOf, q_tupleOf, L2.start, cx_K, wipe, List.map_cons, List.map_nil, List.length_cons, List.length_nil, List.cons_append, List.nil_append, List.append_nil, List.replicate, List.getElem?_cons_zero, List.getElem?_cons_succ, List.set_cons_zero, List.set_cons_succ, Option.some.injEq, List.cons.injEq, exists_eq_left', exists_eq_left, exists_and_left, V.int.injEq, V.bl.injEq, V.ref.injEq, if_true, if_false, Bool.not_true, Bool.not_false, true_and, and_true, Bool.false_eq_true, ite_true, ite_false, Nat.reduceAdd, Nat.reduceSub, reduceCtorEq, decide_false, decide_true, Int.toNat_natCast, false_and, exists_false, or_false, false_or]))
section
variable {P : Program} {w : World} {K : PySem.W.Frag} {mg : Str → Option Value} {base : Heap}
/-- the law's row of numbers stands at a -/
def RowAt (K : PySem.W.Frag) (H : Hp) (a s : Addr) (ns : List Int) : Prop := ∃ i z l : Int, H a = some (.lst [.ref s, .int i, .int z, .int l]) ∧ SqL K H s (ns.map V.int) ∧ (s ≠ a ∨ SqL K (fun _ => none) s (ns.map V.int)) ∧ 0 ≤ i ∧ 0 ≤ z ∧ z < 2147483647 ∧ 0 ≤ l
theorem sql_frag {H : Hp} {b : Addr} {xs : List V} (h : SqL K (fun _ => none) b xs) : SqL K H b xs := by
  rcases h with (h | ⟨o, h⟩) | h
  · cases h
  · cases h
  · exact .inr h
theorem sql_but {H H' : Hp} {a b : Addr} {xs : List V} (e : But a H H') (n : b ≠ a ∨ SqL K (fun _ => none) b xs) (h : SqL K H b xs) : SqL K H' b xs := by
  rcases n with n | n
  · rcases h with (h | ⟨o, h⟩) | h
    · exact .inl (.inl (e _ _ n h))
    · exact .inl (.inr ⟨o, e _ _ n h⟩)
    · exact .inr h
  · exact sql_frag n
theorem fmod_bounds (x : Int) {m : Int} (h : 1 ≤ m) : 0 ≤ x.fmod m ∧ x.fmod m < m := by
  rw [Int.fmod_eq_emod_of_nonneg x (by omega)]
  exact ⟨Int.emod_nonneg _ (by omega), Int.emod_lt_of_pos _ (by omega)⟩
theorem fdiv_nonneg {x m : Int} (hx : 0 ≤ x) (h : 1 ≤ m) : 0 ≤ x.fdiv m := by
  rw [Int.fdiv_eq_ediv_of_nonneg x (by omega)]
  exact Int.ediv_nonneg hx (by omega)
def s_law_taken : Stmt := topS 41
abbrev n_law_taken : List Str := ["_law_row", "_law_many", "_law_found", "_law_cell"]
abbrev p_law_taken : List Str := ["_law_row", "_law_many"]
theorem sc_law_taken : FnScope n_law_taken p_law_taken (defScope s_law_taken) := ⟨rfl, rfl, rfl, by decide +kernel, rfl, by decide +kernel, by decide +kernel⟩
def sp_law_taken (K : PySem.W.Frag) : Sp := fun vs H Q _ => ∃ (a sc : Addr) (ns : List Int) (m : Int), vs = [.ref a, .int m] ∧ RowAt K H a sc ns ∧ 1 ≤ m ∧ m < 1073741824 ∧ ∀ r H', 0 ≤ r → r < m → RowAt K H' a sc ns → But a H H' → Q (.int r) H'
theorem df_law_taken (T : Here K mg "_law_taken" s_law_taken) (B : Blt mg) : Df P w K mg base CX0 "_law_taken" 1 p_law_taken (sp_law_taken K) := by
  refine T.df sc_law_taken (fun _ _ _ _ _ _ us hl => match us, hl with | [_, _], _ => rfl) (fun vs H Q E h => by obtain ⟨_, _, _, _, rfl, _⟩ := h; rfl) (fun f cdv A outer s H vs Q E hr h => ?_)
  obtain ⟨a, sc, ns, m, rfl, ⟨i, z, l, hL, hs, hne, hi, hz0, hz1, hl⟩, hm, hm2, q⟩ := h
  refine ⟨_, pss_cons (ps_if (pt_cmpR op_gt (pe_ix (ixL K rfl) (pv 0) (pe_int) (fun _ _ => rfl)) (pe_int) (nomark _)) (pss_cons (ps_set (i := 2) sc_law_taken.nd rfl (by first | exact Or.inl rfl | exact Or.inr rfl) (pe_op op_modN (pe_callTy call_int1 (by rfl) B.int (by decide +kernel) (pa_cons (pe_ix (ixL K rfl) (pv 0) (pe_int) (fun _ _ => rfl)) pa_nil)) (pv 1)))
      (pss_cons (ps_asg (pe_op op_fdivN (pe_ix (ixL K rfl) (pv 0) (pe_int) (fun _ _ => rfl)) (pv 1)) (pg_sub (pv 0) (pe_int) set_list))
      (pss_one (ps_ret (pv 2))))) (pss_nil))
      (pss_cons (ps_asg (pe_op op_add (pe_ix (ixL K rfl) (pv 0) (pe_int) (fun _ _ => rfl)) (pe_int)) (pg_sub (pv 0) (pe_int) set_list))
      (pss_cons (ps_if (pt_cmpR op_gt (pe_ix (ixL K rfl) (pv 0) (pe_int) (fun _ _ => rfl)) (pe_callB (lenQ K rfl) (by rfl) B.len (by decide +kernel) (pa_cons (pe_ix (ixL K rfl) (pv 0) (pe_int) (fun _ _ => rfl)) pa_nil)) (nomark _)) (pss_cons (ps_asg (pe_op op_modN (pe_callTy call_int1 (by rfl) B.int (by decide +kernel) (pa_cons (pe_op op_add (pe_op op_mul (pe_ix (ixL K rfl) (pv 0) (pe_int) (fun _ _ => rfl)) (pe_int)) (pe_int)) pa_nil)) (pe_int)) (pg_sub (pv 0) (pe_int) set_list))
      (pss_one (ps_ret (pe_op op_modN (pe_callTy call_int1 (by rfl) B.int (by decide +kernel) (pa_cons (pe_op op_fdivN (pe_ix (ixL K rfl) (pv 0) (pe_int) (fun _ _ => rfl)) (pe_int)) pa_nil)) (pv 1))))) (pss_nil))
      (pss_cons (ps_set (i := 3) sc_law_taken.nd rfl (by first | exact Or.inl rfl | exact Or.inr rfl) (pe_ix (ixL K rfl) (pe_ix (ixL K rfl) (pv 0) (pe_int) (fun _ _ => rfl)) (pe_op op_sub (pe_ix (ixL K rfl) (pv 0) (pe_int) (fun _ _ => rfl)) (pe_int)) (fun _ _ => rfl)))
      (pss_cons (ps_asg (pe_op op_modN (pe_callTy call_int1 (by rfl) B.int (by decide +kernel) (pa_cons (pe_op op_add (pe_op op_add (pe_op op_mul (pe_ix (ixL K rfl) (pv 0) (pe_int) (fun _ _ => rfl)) (pe_int)) (pv 3)) (pe_int)) pa_nil)) (pe_int)) (pg_sub (pv 0) (pe_int) set_list))
      (pss_cons (ps_if (pt_cmpR op_ge (pv 3) (pe_op op_pow (pe_int) (pe_int)) (nomark _)) (pss_one (ps_asg (pe_op op_fdivN (pv 3) (pv 1)) (pg_sub (pv 0) (pe_int) set_list))) (pss_nil))
      (pss_one (ps_ret (pe_op op_modN (pe_callTy call_int1 (by rfl) B.int (by decide +kernel) (pa_cons (pv 3) pa_nil)) (pv 1))))))))), ?_⟩
  have g : ∀ {H : Hp} {xs : List V} {j : Nat} {v : V}, H a = some (.lst xs) → xs[j]? = some v → ∀ {R : VK}, R v H → rIxL K (.ref a) (.int j) H R := fun h e R r => ⟨a, _, _, _, rfl, rfl, .of h, atI_nat e, r⟩
  have fin : ∀ {H' : Hp} {r i' z' l' : Int}, 0 ≤ r ∧ r < m → But a H H' → H' a = some (.lst [.ref sc, .int i', .int z', .int l']) → 0 ≤ i' → 0 ≤ z' ∧ z' < 2147483647 → 0 ≤ l' → Q (.int r) H' :=
    fun h1 hb hL' h2 h3 h4 => q _ _ h1.1 h1.2 ⟨_, _, _, hL', sql_but hb hne hs, hne, h2, h3.1, h3.2, h4⟩ hb
  walk_at "rd"
  refine g (j := 3) hL rfl ?_
  walk_at "rd"
  by_cases h0 : 0 < l
  · simp only [h0, decide_true, ite_true]
    refine g (j := 3) hL rfl ?_
    walk_at "rd"
    refine ⟨by omega, g (j := 3) hL rfl ?_⟩
    walk_at "rd"
    refine ⟨⟨by omega, by omega⟩, a, _, 3, 3, rfl, rfl, hL, rfl, ?_⟩
    exact fin (fmod_bounds l hm) but_upd upd_same hi ⟨hz0, hz1⟩ (fdiv_nonneg hl hm)
  · simp only [h0, decide_false, Bool.false_eq_true, ite_false]
    refine g (j := 1) hL rfl ?_
    walk_at "rd"
    refine ⟨a, _, 1, 1, rfl, rfl, hL, rfl, ?_⟩
    walk_at "rd"
    have b1 : But a H (upd H a (.lst [.ref sc, .int (i + 1), .int z, .int l])) := but_upd
    have hs1 := sql_but b1 hne hs
    refine g (j := 1) upd_same rfl ?_
    refine g (j := 0) upd_same rfl ?_
    walk_at "rd"
    refine ⟨_, .inl hs1, ?_⟩
    rw [List.length_map]
    by_cases h1 : (ns.length : Int) < i + 1
    · simp only [h1, decide_true, ite_true]
      refine g (j := 2) upd_same rfl ?_
      walk_at "rd"
      refine ⟨.inl ⟨by omega, by omega⟩, by omega, a, _, 2, 2, rfl, rfl, upd_same, rfl, ?_⟩
      walk_at "rd"
      rw [upd_upd]
      refine g (j := 2) upd_same rfl ?_
      walk_at "rd"
      refine ⟨⟨by omega, by omega⟩, by omega, ?_⟩
      exact fin (fmod_bounds _ hm) but_upd upd_same (by omega) (fmod_bounds _ (by omega)) hl
    · simp only [h1, decide_false, Bool.false_eq_true, ite_false]
      refine g (j := 0) upd_same rfl ?_
      refine g (j := 1) upd_same rfl ?_
      walk_at "rd"
      have hk : i.toNat < ns.length := by omega
      refine ⟨sc, _, _, .int (ns.getD i.toNat 0), rfl, rfl, hs1, ?_, ?_⟩
      · refine at_of (j := i.toNat) (by omega) ?_
        exact at_ints hk
      generalize ns.getD i.toNat 0 = cell
      walk_at "rd"
      refine g (j := 2) upd_same rfl ?_
      walk_at "rd"
      refine ⟨.inl ⟨by omega, by omega⟩, by omega, a, _, 2, 2, rfl, rfl, upd_same, rfl, ?_⟩
      walk_at "rd"
      rw [upd_upd]
      have hz' := fmod_bounds (z * 48271 + cell + 11) (show (1 : Int) ≤ 2147483647 by omega)
      refine ⟨⟨by omega, by omega, by decide⟩, ?_⟩
      by_cases h2 : (10 : Int) ^ (18 : Int).toNat ≤ cell
      · have h3 : 0 ≤ cell := Int.le_trans (by decide) h2
        simp only [h2, decide_true, ite_true]
        refine ⟨⟨by omega, by omega⟩, a, _, 3, 3, rfl, rfl, upd_same, rfl, ?_⟩
        walk_at "rd"
        rw [upd_upd]
        refine ⟨by omega, ?_⟩
        exact fin (fmod_bounds _ hm) but_upd upd_same (by omega) hz' (fdiv_nonneg h3 hm)
      · simp only [h2, decide_false, Bool.false_eq_true, ite_false]
        refine ⟨by omega, ?_⟩
        exact fin (fmod_bounds _ hm) but_upd upd_same (by omega) hz' hl
end
end Hx

set_option Elab.async false
set_option linter.all false
set_option maxRecDepth 100000
set_option maxHeartbeats 4000000
namespace Hx
open PySem PySem.Spec PyProof.Rows L2
local macro_rules | `(tactic| walk_at "rd") => `(tactic| (try simp only [q_var, q_c, q_op, q_un, q_rI, q_rI0, q_rU, q_rEq, q_rNe, q_test, q_tB, q_and, q_or, q_not, q_andV, q_orV, q_notV, q_if, q_isN, q_notN, q_chain, q_next, q_seq, q_break, q_cont, q_drop, q_ret, q_retN, q_ifS, q_never, q_gN, q_gNil, q_gCons, q_gTup, q_gSub, q_asg, q_par, q_aug, q_nil, q_cons, q_tup, q_lst, q_call, q_cb, q_noPart, q_part, q_sl, q_bm0, q_bm, q_yes, q_for, q_lc, q_iList, q_iTup, q_iRng1, q_iEnumT, q_iEnum, q_iRng2, q_iZipA, q_iZipM, q_ipI, q_ckw, q_len, q_listOf, q_tupleOf, L2.start, cx_K, wipe, List.map_cons, List.map_nil, List.length_cons, List.length_nil, List.cons_append, List.nil_append, List.append_nil, List.replicate, List.getElem?_cons_zero, List.getElem?_cons_succ, List.set_cons_zero, List.set_cons_succ, Option.some.injEq, List.cons.injEq, exists_eq_left', exists_eq_left, exists_and_left, V.int.injEq, V.bl.injEq, V.ref.injEq, if_true, if_false, Bool.not_true, Bool.not_false, true_and, and_true, Bool.false_eq_true, ite_true, ite_false, Nat.reduceAdd, Nat.reduceSub, reduceCtorEq, decide_false, decide_true, Int.toNat_natCast, false_and, exists_false, or_false, false_or]))
def settle1 (c : List Int) (r : Rope) : List Int := c.set r.r.toNat (if c.getD r.f.toNat 0 - r.l > c.getD r.r.toNat 0 then c.getD r.f.toNat 0 - r.l else c.getD r.r.toNat 0)
def settleR (rs : List Rope) (c : List Int) : List Int := rs.foldl settle1 c
def settleN (rs : List Rope) (c : List Int) (k : Nat) : List Int := (List.range k).foldl (fun c _ => settleR rs c) c
theorem settle1_len (c : List Int) (r : Rope) : (settle1 c r).length = c.length := List.length_set
theorem settleR_len : ∀ (rs : List Rope) (c : List Int), (settleR rs c).length = c.length
  | [], _ => rfl
  | r :: rs, c => by
    show (settleR rs (settle1 c r)).length = _
    rw [settleR_len rs, settle1_len]
theorem settleN_succ (rs : List Rope) (c : List Int) (k : Nat) : settleN rs c (k + 1) = settleR rs (settleN rs c k) := by
  unfold settleN
  rw [List.range_succ, List.foldl_append]
  rfl
theorem settleN_len (rs : List Rope) (c : List Int) : ∀ k, (settleN rs c k).length = c.length
  | 0 => rfl
  | k + 1 => by rw [settleN_succ, settleR_len, settleN_len rs c k]
theorem settleR_take {rs : List Rope} {i : Nat} {r : Rope} (h : rs[i]? = some r) (c : List Int) : settleR (rs.take (i + 1)) c = settle1 (settleR (rs.take i) c) r := by
  unfold settleR
  rw [List.take_add_one, h, List.foldl_append]
  rfl
instance (xs : List Int) (r : Rope) : Decidable (Holds1 xs r) := inferInstanceAs (Decidable (_ ≤ _))
instance (xs : List Int) (rs : List Rope) : Decidable (Valid xs rs) := inferInstanceAs (Decidable (∀ r ∈ rs, Holds1 xs r))
section
variable {P : Program} {w : World} {K : PySem.W.Frag} {mg : Str → Option Value} {base : Heap}
/-- a turn's rope of the tuple of a fleet -/
theorem rope_at {H : Hp} {n : Nat} {rs : List Rope} {ys : List V} (hl : ys.length = rs.length) (hx : ∀ (i : Nat) (r : Rope), rs[i]? = some r → ∃ v, ys[i]? = some v ∧ RopeV K H v r) (h4 : ∀ r ∈ rs, RopeOk n r)
    {i : Nat} {x : V} (hx' : ys[i]? = some x) : ∃ r c, rs[i]? = some r ∧ r ∈ rs ∧ x = .ref c ∧ SqT K H c [.int r.f, .int r.r, .int r.l] ∧ ∃ f g : Nat, r.f = f ∧ r.r = g ∧ f < n ∧ g < n ∧ f ≠ g := by
  have hi : i < rs.length := by
    rw [← hl]
    exact (List.getElem?_eq_some_iff.mp hx').1
  obtain ⟨u, hu, c, rfl, hc⟩ := hx i rs[i] (List.getElem?_eq_getElem hi)
  cases hx'.symm.trans hu
  obtain ⟨g1, g2, g3, g4, g5, _⟩ := h4 _ (List.getElem_mem hi)
  exact ⟨_, c, List.getElem?_eq_getElem hi, List.getElem_mem hi, rfl, hc, rs[i].f.toNat, rs[i].r.toNat, by omega, by omega, by omega, by omega, by omega⟩
theorem ints_set (xs : List Int) (j : Nat) (v : Int) : (xs.map V.int).set j (.int v) = (xs.set j v).map V.int := by
  rw [List.map_set]
def s_law_settled : Stmt := topS 42
abbrev n_law_settled : List Str := ["_law_fleet_here", "_law_positions_here", "_law_result", "_law_turn", "_law_front", "_law_rear", "_law_length"]
abbrev p_law_settled : List Str := ["_law_fleet_here", "_law_positions_here"]
theorem sc_law_settled : FnScope n_law_settled p_law_settled (defScope s_law_settled) := ⟨rfl, rfl, rfl, by decide +kernel, rfl, by decide +kernel, by decide +kernel⟩
/-- ints at u, in a list or a tuple -/
def IntsA (K : PySem.W.Frag) (H : Hp) (u : V) (xs : List Int) : Prop := ∃ a, u = .ref a ∧ (SqL K H a (xs.map V.int) ∨ SqT K H a (xs.map V.int))
def sp_law_settled (K : PySem.W.Frag) : Sp := fun vs H Q _ => ∃ (v u : V) (n : Nat) (rs : List Rope) (xs : List Int), vs = [v, u] ∧ FleetV K H v n rs ∧ (∀ r ∈ rs, RopeOk n r) ∧ n ≤ 8 ∧ IntsA K H u xs ∧ xs.length = n ∧
  (Valid (settleN rs xs (n + 1)) rs → ∀ H' p, Same H H' → H p = none → H' p = some (.tup ((settleN rs xs (n + 1)).map V.int)) → Q (.ref p) H') ∧ (¬ Valid (settleN rs xs (n + 1)) rs → ∀ H', Same H H' → Q .non H')
theorem df_law_settled (T : Here K mg "_law_settled" s_law_settled) (B : Blt mg) : Df P w K mg base CX0 "_law_settled" 1 p_law_settled (sp_law_settled K) := by
  refine T.df sc_law_settled (fun _ _ _ _ _ _ us hl => match us, hl with | [_, _], _ => rfl) (fun vs H Q E h => by obtain ⟨_, _, _, _, _, rfl, _⟩ := h; rfl) (fun f cdv A outer s H vs Q E hr h => ?_)
  obtain ⟨v, u, n, rs, xs, rfl, ⟨a, b, ys, rfl, ha, hb, hl, hx⟩, h4, h8, ⟨c, rfl, hc⟩, hn, q1, q2⟩ := h
  refine ⟨_, pss_cons (ps_set (i := 2) sc_law_settled.nd rfl (by first | exact Or.inl rfl | exact Or.inr rfl) (pe_callTy (listOf K rfl) (by rfl) B.list (by decide +kernel) (pa_cons (pv 1) pa_nil)))
      (pss_cons (ps_for PassesOwn.never rfl (pi_range1 (by rfl) B.range (pa_cons (pe_op op_add (pe_ix (ixT K rfl) (pv 0) (pe_int) (fun _ _ => rfl)) (pe_int)) pa_nil)) (pg_name (i := 3) sc_law_settled.nd rfl (by first | exact Or.inl rfl | exact Or.inr rfl)) (pss_one (ps_for PassesOwn.never rfl (piTup K rfl (pe_ix (ixT K rfl) (pv 0) (pe_int) (fun _ _ => rfl))) (pgTup K rfl (n := 3) rfl (pgs_cons (pg_name (i := 4) sc_law_settled.nd rfl (by first | exact Or.inl rfl | exact Or.inr rfl)) (pgs_cons (pg_name (i := 5) sc_law_settled.nd rfl (by first | exact Or.inl rfl | exact Or.inr rfl)) (pgs_cons (pg_name (i := 6) sc_law_settled.nd rfl (by first | exact Or.inl rfl | exact Or.inr rfl)) pgs_nil)))) (pss_one (ps_asg (pe_callB (call_max2 rfl) (by rfl) B.max (by decide +kernel) (pa_cons (pe_ix (ixL K rfl) (pv 2) (pv 5) (fun _ _ => rfl)) (pa_cons (pe_op op_sub (pe_ix (ixL K rfl) (pv 2) (pv 4) (fun _ _ => rfl)) (pv 6)) pa_nil))) (pg_sub (pv 2) (pv 5) set_list))))))
      (pss_cons (ps_for PassesOwn.never rfl (piTup K rfl (pe_ix (ixT K rfl) (pv 0) (pe_int) (fun _ _ => rfl))) (pgTup K rfl (n := 3) rfl (pgs_cons (pg_name (i := 4) sc_law_settled.nd rfl (by first | exact Or.inl rfl | exact Or.inr rfl)) (pgs_cons (pg_name (i := 5) sc_law_settled.nd rfl (by first | exact Or.inl rfl | exact Or.inr rfl)) (pgs_cons (pg_name (i := 6) sc_law_settled.nd rfl (by first | exact Or.inl rfl | exact Or.inr rfl)) pgs_nil)))) (pss_one (ps_if (pt_cmpR op_lt (pe_ix (ixL K rfl) (pv 2) (pv 5) (fun _ _ => rfl)) (pe_op op_sub (pe_ix (ixL K rfl) (pv 2) (pv 4) (fun _ _ => rfl)) (pv 6)) (nomark _)) (pss_one (ps_ret (pe_non))) (pss_nil))))
      (pss_one (ps_ret (pe_callTy (tupleOf K rfl) (by rfl) B.tuple (by decide +kernel) (pa_cons (pv 2) pa_nil)))))), ?_⟩
  walk_at "rd"
  refine ⟨_, hc, fun l hl0 => ?_⟩
  have s0 := same_upd (o := .lst (xs.map V.int)) hl0
  walk_at "rd"
  refine ⟨a, _, 0, _, rfl, rfl, sqt_same s0 ha, atI_nat (j := 0) rfl, ?_⟩
  walk_at "rd"
  have e1 : ((n : Int) + 1).toNat = n + 1 := by omega
  rw [e1]
  refine ⟨by omega, by omega, ?_⟩
  refine forRange (fun k σ H' => ∃ x3 x4 x5 x6, σ = [some (.ref a), some (.ref c), some (.ref l), x3, x4, x5, x6] ∧ Same H H' ∧ H' l = some (.lst ((settleN rs xs k).map V.int))) ⟨_, _, _, _, rfl, s0, upd_same⟩ (fun k σ H' hk hPv => ?_) (fun σ H' hPv => ?_)
  · obtain ⟨x3, x4, x5, x6, rfl, e, hL⟩ := hPv
    have ln := settleN_len rs xs k
    generalize hc0 : settleN rs xs k = c0 at hL ln ⊢
    walk_at "rd"
    refine ⟨a, _, 1, _, rfl, rfl, sqt_same e ha, atI_nat (j := 1) rfl, ?_⟩
    walk_at "rd"
    refine ⟨⟨_, sqt_same e hb⟩, ?_⟩
    refine forTup (xs := ys) (fun i σ H' => ∃ x4 x5 x6, σ = [some (.ref a), some (.ref c), some (.ref l), some (.int k), x4, x5, x6] ∧ Same H H' ∧ H' l = some (.lst ((settleR (rs.take i) c0).map V.int))) ⟨_, _, _, rfl, e, hL⟩ (fun i σ H' _ hPv => ?_) (fun i x σ H' hx' hPv => ?_) (fun σ H' hPv => ?_)
    · obtain ⟨_, _, _, _, e, _⟩ := hPv
      exact sqt_same e hb
    · obtain ⟨x4, x5, x6, rfl, e, hL⟩ := hPv
      obtain ⟨r, d, hri, _, rfl, hd, f, g, ef, eg, hf, hg, _⟩ := rope_at hl hx h4 hx'
      have lc := settleR_len (rs.take i) c0
      rw [settleR_take hri]
      generalize settleR (rs.take i) c0 = c1 at hL lc ⊢
      walk_at "rd"
      refine ⟨_, sqt_same e hd, rfl, ?_⟩
      walk_at "rd"
      rw [ef, eg]
      refine ⟨l, _, g, _, rfl, rfl, .of hL, atI_nat (at_ints (by omega)), l, _, f, _, rfl, rfl, .of hL, atI_nat (at_ints (by omega)), ?_⟩
      walk_at "rd"
      refine ⟨_, _, ⟨rfl, rfl⟩, ?_⟩
      refine ⟨l, _, g, g, rfl, rfl, hL, ix_nat (by rw [List.length_map]; omega), ?_⟩
      refine ⟨_, _, _, ⟨rfl, rfl, rfl⟩, fun z o hz => ?_, ?_⟩
      · rw [upd_ne (ne_of_none hz hl0)]
        exact e z o hz
      · rw [upd_same, ints_set]
        unfold settle1
        rw [ef, eg, Int.toNat_natCast, Int.toNat_natCast]
    · obtain ⟨x4, x5, x6, rfl, e, hL⟩ := hPv
      rw [List.take_of_length_le (by omega)] at hL
      refine ⟨_, _, _, _, rfl, e, ?_⟩
      rw [settleN_succ, hc0]
      exact hL
  · obtain ⟨x3, x4, x5, x6, rfl, e, hL⟩ := hPv
    have ln := settleN_len rs xs (n + 1)
    generalize settleN rs xs (n + 1) = c0 at hL ln q1 q2
    walk_at "rd"
    refine ⟨a, _, 1, _, rfl, rfl, sqt_same e ha, atI_nat (j := 1) rfl, ?_⟩
    walk_at "rd"
    refine ⟨⟨_, sqt_same e hb⟩, ?_⟩
    refine forTup (xs := ys) (fun i σ H' => ∃ x4 x5 x6, σ = [some (.ref a), some (.ref c), some (.ref l), x3, x4, x5, x6] ∧ Same H H' ∧ H' l = some (.lst (c0.map V.int)) ∧ ∀ r ∈ rs.take i, Holds1 c0 r) ⟨_, _, _, rfl, e, hL, fun r h => (by cases h)⟩ (fun i σ H' _ hPv => ?_) (fun i x σ H' hx' hPv => ?_) (fun σ H' hPv => ?_)
    · obtain ⟨_, _, _, _, e, _⟩ := hPv
      exact sqt_same e hb
    · obtain ⟨x4, x5, x6, rfl, e, hL, hh⟩ := hPv
      obtain ⟨r, d, hri, hrm, rfl, hd, f, g, ef, eg, hf, hg, _⟩ := rope_at hl hx h4 hx'
      walk_at "rd"
      refine ⟨_, sqt_same e hd, rfl, ?_⟩
      walk_at "rd"
      rw [ef, eg]
      refine ⟨l, _, g, _, rfl, rfl, .of hL, atI_nat (at_ints (by omega)), l, _, f, _, rfl, rfl, .of hL, atI_nat (at_ints (by omega)), ?_⟩
      walk_at "rd"
      by_cases hlt : c0.getD g 0 < c0.getD f 0 - r.l
      · simp only [hlt, decide_true, ite_true]
        refine q2 (fun hv => ?_) _ e
        have := hv r hrm
        unfold Holds1 at this
        rw [ef, eg, Int.toNat_natCast, Int.toNat_natCast] at this
        omega
      · simp only [hlt, decide_false, Bool.false_eq_true, ite_false]
        refine ⟨_, _, _, ⟨rfl, rfl, rfl⟩, e, hL, fun r' hr' => ?_⟩
        rw [List.take_add_one, hri] at hr'
        rcases List.mem_append.mp hr' with h | h
        · exact hh r' h
        · cases List.mem_singleton.mp h
          unfold Holds1
          rw [ef, eg, Int.toNat_natCast, Int.toNat_natCast]
          omega
    · obtain ⟨x4, x5, x6, rfl, e, hL, hh⟩ := hPv
      rw [List.take_of_length_le (by omega)] at hh
      walk_at "rd"
      refine ⟨_, .inl ⟨.of hL, fun p hp => ?_⟩⟩
      exact q1 hh _ p (e.trans (same_upd hp)) (e.free hp) upd_same
end
end Hx

set_option Elab.async false
set_option linter.all false
set_option maxRecDepth 100000
set_option maxHeartbeats 4000000
namespace Hx
open PySem PySem.Spec PyProof.Rows L2
local macro_rules | `(tactic| walk_at "rd") => `(tactic| (try simp only [q_var, q_c, q_op, q_un, q_rI, q_rI0, q_rU, q_rEq, q_rNe, q_test, q_tB, q_and, q_or, q_not, q_andV, q_orV, q_notV, q_if, q_isN, q_notN, q_chain, q_next, q_seq, q_break, q_cont, q_drop, q_ret, q_retN, q_ifS, q_never, q_gN, q_gNil, q_gCons, q_gTup, q_gSub, q_asg, q_par, q_aug, q_nil, q_cons, q_tup, q_lst, q_call, q_cb, q_noPart, q_part, q_sl, q_bm0, q_bm, q_yes, q_for, q_lc, q_iList, q_iTup, q_iRng1, q_iEnumT, q_iEnum, q_iRng2, q_iZipA, q_iZipM, q_ipI, q_ckw, q_len, q_listOf, q_tupleOf, L2.start, cx_K, wipe, List.map_cons, List.map_nil, List.length_cons, List.length_nil, List.cons_append, List.nil_append, List.append_nil, List.replicate, List.getElem?_cons_zero, List.getElem?_cons_succ, List.set_cons_zero, List.set_cons_succ, Option.some.injEq, List.cons.injEq, exists_eq_left', exists_eq_left, exists_and_left, V.int.injEq, V.bl.injEq, V.ref.injEq, if_true, if_false, Bool.not_true, Bool.not_false, true_and, and_true, Bool.false_eq_true, ite_true, ite_false, Nat.reduceAdd, Nat.reduceSub, reduceCtorEq, decide_false, decide_true, Int.toNat_natCast, false_and, exists_false, or_false, false_or]))
section
variable {P : Program} {w : World} {K : PySem.W.Frag} {mg : Str → Option Value} {base : Heap}
theorem RowAt.lst {H : Hp} {a sc : Addr} {ns : List Int} (h : RowAt K H a sc ns) : ∃ xs, H a = some (.lst xs) := by
  obtain ⟨_, _, _, h, _⟩ := h
  exact ⟨_, h⟩
theorem RowAt.ne {H : Hp} {a p sc : Addr} {ns : List Int} (h : RowAt K H a sc ns) (hp : H p = none) : p ≠ a := fun e => by
  obtain ⟨_, h⟩ := h.lst
  rw [← e, hp] at h
  cases h
theorem RowAt.mono {H H' : Hp} {a sc : Addr} {ns : List Int} (h : RowAt K H a sc ns) (e : Same H H') : RowAt K H' a sc ns := by
  obtain ⟨i, z, l, h1, h2, h3⟩ := h
  exact ⟨i, z, l, e _ _ h1, e.seq h2, h3⟩
/-- what was free at H0 is written: the row stays -/
theorem RowAt.put {H0 H : Hp} {a p sc : Addr} {ns : List Int} {o : HO} (h0 : RowAt K H0 a sc ns) (hp : H0 p = none) (b : But a H0 H) (h : RowAt K H a sc ns) : RowAt K (upd H p o) a sc ns := by
  obtain ⟨i, z, l, h1, h2, h3, h4⟩ := h
  obtain ⟨_, _, _, _, k2, k3, _⟩ := id h0
  refine ⟨i, z, l, by rw [upd_ne (h0.ne hp).symm]; exact h1, ?_, h3, h4⟩
  rcases k3 with k3 | k3
  case inr => exact sql_frag k3
  rcases k2 with (k | ⟨ob, k⟩) | k
  · exact .inl (.inl (by rw [upd_ne (ne_of_none k hp)]; exact b _ _ k3 k))
  · exact .inl (.inr ⟨ob, by rw [upd_ne (ne_of_none k hp)]; exact b _ _ k3 k⟩)
  · exact .inr k
theorem But.put {H0 H : Hp} {a p : Addr} {o : HO} (b : But a H0 H) (hp : H0 p = none) : But a H0 (upd H p o) := fun c u n e => by
  rw [upd_ne (ne_of_none e hp)]
  exact b c u n e
/-- fleets that places keep -/
def Kept (n : Nat) (rs : List Rope) : Prop := ∃ pl : Nat → Int, (∀ i, 0 ≤ pl i ∧ pl i ≤ 88) ∧ ∀ r ∈ rs, HoldsR pl r
/-- ropes at refs -/
def RopesX (K : PySem.W.Frag) (H : Hp) (xs : List V) (rs : List Rope) : Prop := xs.length = rs.length ∧ ∀ (i : Nat) (r : Rope), rs[i]? = some r → ∃ v, xs[i]? = some v ∧ RopeV K H v r
theorem RopesX.same {H H' : Hp} {xs : List V} {rs : List Rope} (h : RopesX K H xs rs) (e : Same H H') : RopesX K H' xs rs :=
  ⟨h.1, fun i r hr => by
    obtain ⟨v, hv, k⟩ := h.2 i r hr
    exact ⟨v, hv, k.mono e⟩⟩
theorem RopeV.but {H H' : Hp} {a : Addr} {ys : List V} {v : V} {r : Rope} (h : RopeV K H v r) (e : But a H H') (ha : H a = some (.lst ys)) : RopeV K H' v r := by
  obtain ⟨c, rfl, h⟩ := h
  exact ⟨c, rfl, sqt_but e ha h⟩
theorem RopesX.but {H H' : Hp} {a : Addr} {ys xs : List V} {rs : List Rope} (h : RopesX K H xs rs) (e : But a H H') (ha : H a = some (.lst ys)) : RopesX K H' xs rs :=
  ⟨h.1, fun i r hr => by
    obtain ⟨v, hv, k⟩ := h.2 i r hr
    exact ⟨v, hv, k.but e ha⟩⟩
theorem RopesX.snoc {H : Hp} {xs : List V} {rs : List Rope} {v : V} {r : Rope} (h : RopesX K H xs rs) (k : RopeV K H v r) : RopesX K H (xs ++ [v]) (rs ++ [r]) := by
  refine ⟨by rw [List.length_append, List.length_append, h.1]; rfl, fun i q hq => ?_⟩
  by_cases hi : i < rs.length
  · rw [List.getElem?_append_left hi] at hq
    obtain ⟨u, hu, ku⟩ := h.2 i q hq
    exact ⟨u, by rw [List.getElem?_append_left (by rw [h.1]; exact hi)]; exact hu, ku⟩
  · rw [List.getElem?_append_right (by omega)] at hq
    have e : i - rs.length = 0 := by
      cases hz : i - rs.length with
      | zero => rfl
      | succ k =>
        rw [hz] at hq
        cases hq
    rw [e] at hq
    cases hq
    refine ⟨v, ?_, k⟩
    rw [List.getElem?_append_right (by rw [h.1]; omega), h.1, e]
    rfl
theorem RopesX.take {H : Hp} {xs : List V} {rs : List Rope} (h : RopesX K H xs rs) (k : Nat) : RopesX K H (xs.take k) (rs.take k) := by
  refine ⟨by rw [List.length_take, List.length_take, h.1], fun i r hr => ?_⟩
  rw [List.getElem?_take] at hr
  split at hr
  · rename_i hik
    obtain ⟨v, hv, kv⟩ := h.2 i r hr
    exact ⟨v, by rw [List.getElem?_take, if_pos hik]; exact hv, kv⟩
  · cases hr
/-- the state of the loop that makes ropes -/
structure FlS (K : PySem.W.Frag) (a sc : Addr) (ns : List Int) (H3 : Hp) (L : Addr) (H : Hp) (xs : List V) (rs : List Rope) : Prop where
  row : RowAt K H a sc ns
  but : But a H3 H
  lst : H L = some (.lst xs)
  rx : RopesX K H xs rs
theorem FlS.call {a sc L : Addr} {ns : List Int} {H3 H H' : Hp} {xs : List V} {rs : List Rope} (h : FlS K a sc ns H3 L H xs rs) (n : L ≠ a) (r : RowAt K H' a sc ns) (b : But a H H') : FlS K a sc ns H3 L H' xs rs := by
  obtain ⟨_, k⟩ := h.row.lst
  exact ⟨r, h.but.trans b, b _ _ n h.lst, h.rx.but b k⟩
theorem FlS.new {a sc L : Addr} {ns : List Int} {H3 H H' : Hp} {xs : List V} {rs : List Rope} (h : FlS K a sc ns H3 L H xs rs) (e : Same H H') : FlS K a sc ns H3 L H' xs rs :=
  ⟨h.row.mono e, h.but.trans (same_but e), e _ _ h.lst, h.rx.same e⟩
theorem FlS.app {a sc L T : Addr} {ns : List Int} {H3 H : Hp} {xs : List V} {rs : List Rope} {r : Rope} (h : FlS K a sc ns H3 L H xs rs) (h3 : H3 L = none) (r3 : RowAt K H3 a sc ns) (hT : H T = some (.tup [.int r.f, .int r.r, .int r.l])) :
    FlS K a sc ns H3 L (upd H L (.lst (xs ++ [.ref T]))) (xs ++ [.ref T]) (rs ++ [r]) := by
  refine ⟨r3.put h3 h.but h.row, h.but.put h3, upd_same, ?_⟩
  have b : But L H (upd H L (.lst (xs ++ [.ref T]))) := but_upd
  exact (h.rx.but b h.lst).snoc ⟨T, rfl, sqt_but b h.lst (.of hT)⟩
theorem places_bound {pl : List Int} {fc : Int} (h : ∀ x ∈ pl, 0 ≤ x ∧ x ≤ 11 * fc) (h0 : 0 ≤ fc) (i : Nat) : 0 ≤ pl.getD i 0 ∧ pl.getD i 0 ≤ 11 * fc := by
  rw [List.getD_eq_getElem?_getD]
  cases e : pl[i]? with
  | none => exact ⟨Int.le_refl 0, by show (0 : Int) ≤ 11 * fc; omega⟩
  | some y => exact h y (List.mem_of_getElem? e)
def s_law_fleet : Stmt := topS 43
abbrev n_law_fleet : List Str := ["_law_row", "_law_most", "_law_count", "_law_factor", "_law_places", "_law_barge", "_law_ropes", "_law_k", "_law_front", "_law_rear", "_law_some", "_law_more"]
abbrev p_law_fleet : List Str := ["_law_row", "_law_most"]
theorem sc_law_fleet : FnScope n_law_fleet p_law_fleet (defScope s_law_fleet) := ⟨rfl, rfl, rfl, by decide +kernel, rfl, by decide +kernel, by decide +kernel⟩
def sp_law_fleet (K : PySem.W.Frag) : Sp := fun vs H Q _ => ∃ (a sc : Addr) (ns : List Int) (m : Int), vs = [.ref a, .int m] ∧ RowAt K H a sc ns ∧ 1 ≤ m ∧ m ≤ 8 ∧
  ∀ H' v (n : Nat) rs, RowAt K H' a sc ns → But a H H' → FleetV K H' v n rs → FleetOk n rs → (n : Int) ≤ m → Kept n rs → Q v H'
theorem df_law_fleet (T : Here K mg "_law_fleet" s_law_fleet) (B : Blt mg) (D_law_taken : Df P w K mg base CX0 "_law_taken" 1 p_law_taken (sp_law_taken K)) : Df P w K mg base CX0 "_law_fleet" 2 p_law_fleet (sp_law_fleet K) := by
  refine T.df sc_law_fleet (fun _ _ _ _ _ _ us hl => match us, hl with | [_, _], _ => rfl) (fun vs H Q E h => by obtain ⟨_, _, _, _, rfl, _⟩ := h; rfl) (fun f cdv A outer s H vs Q E hr h => ?_)
  obtain ⟨a, sc, ns, m, rfl, hrow, hm1, hm8, q⟩ := h
  refine ⟨_, pss_cons (ps_set (i := 2) sc_law_fleet.nd rfl (by first | exact Or.inl rfl | exact Or.inr rfl) (pe_op op_add (pe_int) (D_law_taken.call (hr.mono (by decide)) (by rfl) (pa_cons (pv 0) (pa_cons (pv 1) pa_nil)))))
      (pss_cons (ps_set (i := 3) sc_law_fleet.nd rfl (by first | exact Or.inl rfl | exact Or.inr rfl) (pe_ix (ixL K rfl) (pe_lst (pa_cons (pe_int) (pa_cons (pe_int) (pa_cons (pe_int) pa_nil)))) (D_law_taken.call (hr.mono (by decide)) (by rfl) (pa_cons (pv 0) (pa_cons (pe_int) pa_nil))) (fun _ _ => rfl)))
      (pss_cons (ps_setLc (i := 4) (own := [("_law_barge", 5)]) rfl sc_law_fleet.nd rfl rfl (sw_true rfl rfl rfl (by decide +kernel)) (pi_range1 (by rfl) B.range (pa_cons (pv 2) pa_nil)) (blkOk_by (N := n_law_fleet) (sc := defScope s_law_fleet) (by decide +kernel)) (fun _ _ _ _ _ => pg_name (i := 5) sc_law_fleet.nd rfl (by first | exact Or.inl rfl | exact Or.inr rfl)) (fun _ _ _ _ _ => pts_nil) (fun _ _ _ _ _ => pe_op op_mul (pv 3) (D_law_taken.call (hr.mono (by decide)) (by rfl) (pa_cons (pv 0) (pa_cons (pe_int) pa_nil)))))
      (pss_cons (ps_set (i := 6) sc_law_fleet.nd rfl (by first | exact Or.inl rfl | exact Or.inr rfl) (pe_lst (pa_nil)))
      (pss_cons (ps_for PassesOwn.never rfl (pi_range1 (by rfl) B.range (pa_cons (D_law_taken.call (hr.mono (by decide)) (by rfl) (pa_cons (pv 0) (pa_cons (pe_op op_mul (pe_int) (pv 2)) pa_nil))) pa_nil)) (pg_name (i := 7) sc_law_fleet.nd rfl (by first | exact Or.inl rfl | exact Or.inr rfl)) (pss_cons (ps_par (i := 8) (j := 9) rfl sc_law_fleet.nd rfl rfl (by decide) rfl rfl (pa_cons (D_law_taken.call (hr.mono (by decide)) (by rfl) (pa_cons (pv 0) (pa_cons (pv 2) pa_nil))) (pa_cons (D_law_taken.call (hr.mono (by decide)) (by rfl) (pa_cons (pv 0) (pa_cons (pv 2) pa_nil))) pa_nil)) (by rfl))
      (pss_one (ps_if (pt_cmpR op_ne (pv 8) (pv 9) (nomark _)) (pss_cons (ps_set (i := 10) sc_law_fleet.nd rfl (by first | exact Or.inl rfl | exact Or.inr rfl) (pe_op op_cat (pe_lst (pa_cons (pe_int) (pa_cons (pe_int) (pa_cons (pe_int) (pa_cons (pe_int) (pa_cons (D_law_taken.call (hr.mono (by decide)) (by rfl) (pa_cons (pv 0) (pa_cons (pe_int) pa_nil))) pa_nil)))))) (pe_op op_rep (pe_lst (pa_cons (pe_op op_add (pe_int) (D_law_taken.call (hr.mono (by decide)) (by rfl) (pa_cons (pv 0) (pa_cons (pe_int) pa_nil)))) pa_nil)) (pe_callTy call_int1 (by rfl) B.int (by decide +kernel) (pa_cons (pe_cmpR op_eq (pv 3) (pe_int) (nomark _)) pa_nil)))))
      (pss_cons (ps_set (i := 11) sc_law_fleet.nd rfl (by first | exact Or.inl rfl | exact Or.inr rfl) (pe_ix (ixL K rfl) (pv 10) (D_law_taken.call (hr.mono (by decide)) (by rfl) (pa_cons (pv 0) (pa_cons (pe_callB (lenQ K rfl) (by rfl) B.len (by decide +kernel) (pa_cons (pv 10) pa_nil)) pa_nil))) (fun _ _ => rfl)))
      (pss_cons (ps_expr (pe_bm PySem.F.plainAttrs_list PySem.F.slot_list_append PySem.F.type_list_append mt_append (pv 6) (pa_cons (pe_tup (pa_cons (pv 8) (pa_cons (pv 9) (pa_cons (pe_op op_add (pe_op op_sub (pe_ix (ixL K rfl) (pv 4) (pv 8) (fun _ _ => rfl)) (pe_ix (ixL K rfl) (pv 4) (pv 9) (fun _ _ => rfl))) (pv 11)) pa_nil)))) pa_nil)))
      (pss_one (ps_if (pt_cmpR op_eq (D_law_taken.call (hr.mono (by decide)) (by rfl) (pa_cons (pv 0) (pa_cons (pe_int) pa_nil))) (pe_int) (nomark _)) (pss_one (ps_expr (pe_bm PySem.F.plainAttrs_list PySem.F.slot_list_append PySem.F.type_list_append mt_append (pv 6) (pa_cons (pe_tup (pa_cons (pv 9) (pa_cons (pv 8) (pa_cons (pe_op op_add (pe_op op_sub (pe_ix (ixL K rfl) (pv 4) (pv 9) (fun _ _ => rfl)) (pe_ix (ixL K rfl) (pv 4) (pv 8) (fun _ _ => rfl))) (pe_op op_mul (pv 11) (D_law_taken.call (hr.mono (by decide)) (by rfl) (pa_cons (pv 0) (pa_cons (pe_int) pa_nil))))) pa_nil)))) pa_nil)))) (pss_nil)))))) (pss_nil)))))
      (pss_one (ps_ret (pe_tup (pa_cons (pv 2) (pa_cons (pe_callTy (tupleOf K rfl) (by rfl) B.tuple (by decide +kernel) (pa_cons (pe_slice (slL K rfl) (pv 6) po_none (po_some (pe_int))) pa_nil)) pa_nil))))))))), ?_⟩
  walk_at "rd"
  refine ⟨a, sc, ns, m, rfl, hrow, hm1, by omega, fun r0 H1 hr0 hr0m row1 b1 => ?_⟩
  obtain ⟨n, hn⟩ : ∃ n : Nat, (1 + r0 : Int) = n := ⟨(1 + r0).toNat, by omega⟩
  walk_at "rd"
  rw [hn]
  refine ⟨(by show 3 ≤ sizeLine; decide), fun l1 hl1 => ?_⟩
  have s1 := same_upd (o := .lst [.int 1, .int 1, .int 8]) hl1
  refine ⟨a, sc, ns, 3, rfl, row1.mono s1, by omega, by omega, fun r1 H2 hr1 hr1m row2 b2 => ?_⟩
  have hL1 := b2 _ _ (row1.ne hl1) (upd_same (H := H1) (a := l1) (o := .lst [.int 1, .int 1, .int 8]))
  obtain ⟨fc, hfc, hfc2⟩ : ∃ fc : Int, atI [V.int 1, .int 1, .int 8] r1 = some (.int fc) ∧ (fc = 1 ∨ fc = 8) := by
    have : r1 = 0 ∨ r1 = 1 ∨ r1 = 2 := by omega
    rcases this with rfl | rfl | rfl
    · exact ⟨1, rfl, .inl rfl⟩
    · exact ⟨1, rfl, .inl rfl⟩
    · exact ⟨8, rfl, .inr rfl⟩
  refine ⟨l1, _, r1, .int fc, rfl, rfl, .of hL1, hfc, ?_⟩
  have b02 : But a H H2 := (b1.trans (same_but s1)).trans b2
  clear hL1 hl1 s1 b2 row1 b1 hfc
  walk_at "rd"
  refine ⟨by omega, by omega, fun D hD => ?_⟩
  have nDa := row2.ne hD
  refine lcRange (fun i H' => ∃ pl : List Int, pl.length = i ∧ H' D = some (.lst (pl.map V.int)) ∧ RowAt K H' a sc ns ∧ But a H2 H' ∧ ∀ x ∈ pl, 0 ≤ x ∧ x ≤ 11 * fc)
    ⟨[], rfl, upd_same, row2.mono (same_upd hD), same_but (same_upd hD), fun x h => (by cases h)⟩ (fun i H' hi hPv => ?_) (fun H3 hPv => ?_)
  · obtain ⟨pl, e1, e2, e3, e4, e5⟩ := hPv
    walk_at "rd"
    refine ⟨a, sc, ns, 12, rfl, e3, by omega, by omega, fun r H4 h0 h1 row4 b4 => ?_⟩
    walk_at "rd"
    have hD4 := b4 _ _ nDa e2
    refine ⟨.inl (by rcases hfc2 with rfl | rfl <;> omega), _, hD4, by rw [List.length_map, e1]; exact Nat.lt_of_lt_of_le hi (Nat.le_trans (by omega) (show 100 ≤ sizeLine by decide)), pl ++ [fc * r], ?_, ?_, ?_, ?_, ?_⟩
    · rw [List.length_append, e1]
      rfl
    · rw [upd_same, List.map_append]
      rfl
    · exact row2.put hD (e4.trans b4) row4
    · exact (e4.trans b4).put hD
    · intro x hx
      rcases List.mem_append.mp hx with hx | hx
      · exact e5 x hx
      · cases List.mem_singleton.mp hx
        rcases hfc2 with rfl | rfl <;> omega
  · obtain ⟨pl, e1, e2, row3, e4, e5⟩ := hPv
    have b03 := b02.trans e4
    clear b02 e4 row2 hD
    walk_at "rd"
    refine ⟨Nat.zero_le _, fun L hL => ?_⟩
    have nLa := row3.ne hL
    have nDL : D ≠ L := ne_of_none e2 hL
    have sL := same_upd (o := .lst []) hL
    refine ⟨.inl ⟨by omega, by omega⟩, a, sc, ns, _, rfl, row3.mono sL, by omega, by omega, fun r2 H4 h20 h21 row4 b4 => ?_⟩
    have b34 : But a H3 H4 := (same_but sL).trans b4
    have hL4 := b4 _ _ nLa (upd_same (H := H3) (a := L) (o := .lst []))
    walk_at "rd"
    refine ⟨by omega, by omega, ?_⟩
    have hplb := places_bound e5 (by rcases hfc2 with rfl | rfl <;> omega)
    have hsz : 100 ≤ sizeLine := by decide
    refine forRange (fun k σ H' => ∃ x5 x7 x8 x9 x10 x11, σ = [some (.ref a), some (.int m), some (.int n), some (.int fc), some (.ref D), x5, some (.ref L), x7, x8, x9, x10, x11] ∧
        ∃ xs rs, FlS K a sc ns H3 L H' xs rs ∧ rs.length ≤ 2 * k ∧ ∀ r ∈ rs, RopeOk n r ∧ HoldsR (fun i => pl.getD i 0) r) ⟨_, _, _, _, _, _, rfl, [], [], ⟨row4, b34, hL4, ⟨rfl, fun i r h => (by cases h)⟩⟩, Nat.zero_le _, fun r h => (by cases h)⟩ (fun k σ H' hk hPv => ?_) (fun σ H' hPv => ?_)
    · obtain ⟨x5, x7, x8, x9, x10, x11, rfl, xs, rs, S, hlen, hrs⟩ := hPv
      have hk24 : k < 24 := by omega
      walk_at "rd"
      refine ⟨a, sc, ns, _, rfl, S.row, by omega, by omega, fun fr H5 f0 f1 row5 b5 => ?_⟩
      have S := S.call nLa row5 b5
      walk_at "rd"
      refine ⟨a, sc, ns, _, rfl, S.row, by omega, by omega, fun re H6 g0 g1 row6 b6 => ?_⟩
      have S := S.call nLa row6 b6
      obtain ⟨fr, rfl⟩ := nat_at f0
      obtain ⟨re, rfl⟩ := nat_at g0
      walk_at "rd"
      refine ⟨_, _, ⟨rfl, rfl⟩, ?_⟩
      walk_at "rd"
      refine ⟨rfl, ?_⟩
      by_cases hfr : (fr : Int) = (re : Int)
      · simp only [hfr, decide_true, Bool.not_true, Bool.false_eq_true, ite_false]
        exact ⟨_, _, _, _, _, _, ⟨rfl, rfl, rfl, rfl, rfl, rfl⟩, xs, rs, S, by omega, hrs⟩
      · simp only [hfr, decide_false, Bool.not_false, ite_true]
        refine ⟨a, sc, ns, _, rfl, S.row, by omega, by omega, fun c1 H7 c10 c11 row7 b7 => ?_⟩
        have S := S.call nLa row7 b7
        walk_at "rd"
        refine ⟨(by show 5 ≤ sizeLine; omega), fun l5 hl5 => ?_⟩
        have S := S.new (same_upd (o := .lst [.int 0, .int 0, .int 1, .int 3, .int c1]) hl5)
        have n5 := row7.ne hl5
        refine ⟨a, sc, ns, _, rfl, S.row, by omega, by omega, fun c2 H8 c20 c21 row8 b8 => ?_⟩
        have S := S.call nLa row8 b8
        have h5 := b8 _ _ n5 (upd_same (H := H7) (a := l5) (o := .lst [.int 0, .int 0, .int 1, .int 3, .int c1]))
        walk_at "rd"
        refine ⟨by show 1 ≤ sizeLine; omega, fun l1 hl1 => ?_⟩
        have S := S.new (same_upd (o := .lst [.int (40 + c2)]) hl1)
        have h5 := same_upd (o := .lst [.int (40 + c2)]) hl1 _ _ h5
        obtain ⟨kk, hkk, hkk2⟩ : ∃ kk : Nat, (if decide (fc = 1) = true then (1 : Int) else 0) = kk ∧ (kk = 0 ∨ kk = 1 ∧ fc = 1) := by
          rcases hfc2 with rfl | rfl
          · exact ⟨1, rfl, .inr ⟨rfl, rfl⟩⟩
          · exact ⟨0, rfl, .inl rfl⟩
        rw [hkk]
        refine ⟨rfl, l1, kk, _, rfl, rfl, upd_same, by omega, by omega, ?_, fun l2 hl2 => ?_⟩
        · show 1 * (kk : Int).toNat ≤ sizeLine
          omega
        have S := S.new (same_upd (o := .lst (List.replicate (kk : Int).toNat [V.int (40 + c2)]).flatten) hl2)
        have h5 := same_upd (o := .lst (List.replicate (kk : Int).toNat [V.int (40 + c2)]).flatten) hl2 _ _ h5
        obtain ⟨ms, hms, hml, hmb⟩ : ∃ ms : List Int, ([.int 0, .int 0, .int 1, .int 3, .int c1] ++ (List.replicate (kk : Int).toNat [V.int (40 + c2)]).flatten : List V) = ms.map V.int ∧ 1 ≤ ms.length ∧ ∀ i, 0 ≤ ms.getD i 0 ∧ 11 * fc + ms.getD i 0 ≤ 99 := by
          rcases hkk2 with rfl | ⟨rfl, rfl⟩
          · refine ⟨[0, 0, 1, 3, c1], rfl, by show 1 ≤ 5; omega, fun i => ?_⟩
            match i with
            | 0 => exact ⟨by show (0 : Int) ≤ 0; omega, by show 11 * fc + 0 ≤ 99; rcases hfc2 with rfl | rfl <;> omega⟩
            | 1 => exact ⟨by show (0 : Int) ≤ 0; omega, by show 11 * fc + 0 ≤ 99; rcases hfc2 with rfl | rfl <;> omega⟩
            | 2 => exact ⟨by show (0 : Int) ≤ 1; omega, by show 11 * fc + 1 ≤ 99; rcases hfc2 with rfl | rfl <;> omega⟩
            | 3 => exact ⟨by show (0 : Int) ≤ 3; omega, by show 11 * fc + 3 ≤ 99; rcases hfc2 with rfl | rfl <;> omega⟩
            | 4 => exact ⟨c10, by show 11 * fc + c1 ≤ 99; rcases hfc2 with rfl | rfl <;> omega⟩
            | k + 5 => exact ⟨by show (0 : Int) ≤ 0; omega, by show 11 * fc + 0 ≤ 99; rcases hfc2 with rfl | rfl <;> omega⟩
          · refine ⟨[0, 0, 1, 3, c1, 40 + c2], rfl, by show 1 ≤ 6; omega, fun i => ?_⟩
            match i with
            | 0 => exact ⟨by show (0 : Int) ≤ 0; omega, by show (11 : Int) * 1 + 0 ≤ 99; omega⟩
            | 1 => exact ⟨by show (0 : Int) ≤ 0; omega, by show (11 : Int) * 1 + 0 ≤ 99; omega⟩
            | 2 => exact ⟨by show (0 : Int) ≤ 1; omega, by show (11 : Int) * 1 + 1 ≤ 99; omega⟩
            | 3 => exact ⟨by show (0 : Int) ≤ 3; omega, by show (11 : Int) * 1 + 3 ≤ 99; omega⟩
            | 4 => exact ⟨c10, by show (11 : Int) * 1 + c1 ≤ 99; omega⟩
            | 5 => exact ⟨by show (0 : Int) ≤ 40 + c2; omega, by show (11 : Int) * 1 + (40 + c2) ≤ 99; omega⟩
            | k + 6 => exact ⟨by show (0 : Int) ≤ 0; omega, by show (11 : Int) * 1 + 0 ≤ 99; omega⟩
        have hml6 : ms.length ≤ 6 := by
          have e := congrArg List.length hms
          rw [List.length_append, List.length_map] at e
          have : ((List.replicate (kk : Int).toNat [V.int (40 + c2)]).flatten).length ≤ 1 := by
            rcases hkk2 with rfl | ⟨rfl, _⟩
            · exact Nat.zero_le 1
            · exact Nat.le_refl 1
          simp only [List.length_cons, List.length_nil] at e
          omega
        refine ⟨l5, l2, _, _, rfl, rfl, h5, upd_same, ?_, fun l6 hl6 => ?_⟩
        · rw [← List.length_append, hms, List.length_map]
          omega
        rw [hms]
        have n6 := S.row.ne hl6
        have S := S.new (same_upd (o := .lst (ms.map V.int)) hl6)
        walk_at "rd"
        refine ⟨_, .inl (.of upd_same), ?_⟩
        rw [List.length_map]
        refine ⟨a, sc, ns, _, rfl, S.row, by omega, by omega, fun ix H9 ix0 ix1 row9 b9 => ?_⟩
        have S := S.call nLa row9 b9
        have h6 := b9 _ _ n6 upd_same
        obtain ⟨ix, rfl⟩ := nat_at ix0
        refine ⟨l6, _, ix, _, rfl, rfl, .of h6, atI_nat (at_ints (by omega)), ?_⟩
        obtain ⟨hmo0, hmo1⟩ := hmb ix
        generalize ms.getD ix 0 = mo at hmo0 hmo1
        have hD9 := S.but _ _ nDa e2
        obtain ⟨pf0, pf1⟩ := hplb fr
        obtain ⟨pr0, pr1⟩ := hplb re
        generalize hpf : pl.getD fr 0 = pf at pf0 pf1
        generalize hpr : pl.getD re 0 = pr at pr0 pr1
        walk_at "rd"
        refine ⟨.inl ⟨rfl, _, .of S.lst⟩, D, _, fr, .int pf, rfl, rfl, .of hD9, atI_nat (by rw [← hpf]; exact at_ints (by omega)), D, _, re, .int pr, rfl, rfl, .of hD9, atI_nat (by rw [← hpr]; exact at_ints (by omega)), ?_⟩
        walk_at "rd"
        refine ⟨by show 3 ≤ sizeLine; omega, fun T1 hT1 => ?_⟩
        have S := S.new (same_upd (o := .tup [.int fr, .int re, .int (pf - pr + mo)]) hT1)
        have hD10 := same_upd (o := .tup [.int fr, .int re, .int (pf - pr + mo)]) hT1 _ _ hD9
        have ok1 : RopeOk n ⟨fr, re, pf - pr + mo⟩ ∧ HoldsR (fun i => pl.getD i 0) ⟨fr, re, pf - pr + mo⟩ := by
          refine ⟨⟨f0, f1, g0, g1, hfr, ?_, ?_⟩, ?_⟩
          · show -99 ≤ pf - pr + mo
            rcases hfc2 with rfl | rfl <;> omega
          · show pf - pr + mo ≤ 99
            rcases hfc2 with rfl | rfl <;> omega
          · unfold HoldsR
            show pl.getD (fr : Int).toNat 0 - pl.getD (re : Int).toNat 0 ≤ pf - pr + mo
            rw [Int.toNat_natCast, Int.toNat_natCast, hpf, hpr]
            omega
        refine ⟨L, _, _, rfl, rfl, S.lst, by rw [S.rx.1]; omega, ?_⟩
        have S := FlS.app (r := ⟨fr, re, pf - pr + mo⟩) S hL row3 upd_same
        have hD10 : (upd _ L (.lst (xs ++ [V.ref T1]))) D = _ := (upd_ne nDL).trans hD10
        refine ⟨a, sc, ns, 3, rfl, S.row, by omega, by omega, fun c3 H11 c30 c31 row11 b11 => ?_⟩
        have S := S.call nLa row11 b11
        have hD11 := b11 _ _ nDa hD10
        have hrs2 : ∀ r ∈ rs ++ [⟨fr, re, pf - pr + mo⟩], RopeOk n r ∧ HoldsR (fun i => pl.getD i 0) r := fun r hr => by
          rcases List.mem_append.mp hr with hr | hr
          · exact hrs r hr
          · cases List.mem_singleton.mp hr
            exact ok1
        have hlen2 : (rs ++ [(⟨fr, re, pf - pr + mo⟩ : Rope)]).length ≤ 2 * k + 1 := by
          rw [List.length_append, List.length_singleton]
          omega
        generalize rs ++ [(⟨fr, re, pf - pr + mo⟩ : Rope)] = rs2 at S hrs2 hlen2
        generalize xs ++ [V.ref T1] = xs2 at S
        walk_at "rd"
        refine ⟨rfl, ?_⟩
        by_cases hc3 : c3 = 0
        · simp only [hc3, decide_true, ite_true]
          refine ⟨.inl ⟨rfl, _, .of S.lst⟩, D, _, re, .int pr, rfl, rfl, .of hD11, atI_nat (by rw [← hpr]; exact at_ints (by omega)), D, _, fr, .int pf, rfl, rfl, .of hD11, atI_nat (by rw [← hpf]; exact at_ints (by omega)), ?_⟩
          walk_at "rd"
          refine ⟨a, sc, ns, 2, rfl, S.row, by omega, by omega, fun c4 H12 c40 c41 row12 b12 => ?_⟩
          have S := S.call nLa row12 b12
          have hmc : 0 ≤ mo * c4 ∧ mo * c4 ≤ mo := by
            have : c4 = 0 ∨ c4 = 1 := by omega
            rcases this with rfl | rfl <;> omega
          walk_at "rd"
          refine ⟨.inl (by rcases hfc2 with rfl | rfl <;> omega), by show 3 ≤ sizeLine; omega, fun T2 hT2 => ?_⟩
          generalize mo * c4 = mc at hmc
          have S := S.new (same_upd (o := .tup [.int re, .int fr, .int (pr - pf + mc)]) hT2)
          have ok2 : RopeOk n ⟨re, fr, pr - pf + mc⟩ ∧ HoldsR (fun i => pl.getD i 0) ⟨re, fr, pr - pf + mc⟩ := by
            refine ⟨⟨g0, g1, f0, f1, Ne.symm hfr, ?_, ?_⟩, ?_⟩
            · show -99 ≤ pr - pf + mc
              rcases hfc2 with rfl | rfl <;> omega
            · show pr - pf + mc ≤ 99
              rcases hfc2 with rfl | rfl <;> omega
            · unfold HoldsR
              show pl.getD (re : Int).toNat 0 - pl.getD (fr : Int).toNat 0 ≤ pr - pf + mc
              rw [Int.toNat_natCast, Int.toNat_natCast, hpf, hpr]
              omega
          refine ⟨L, _, _, rfl, rfl, S.lst, by rw [S.rx.1]; omega, ?_⟩
          have S := FlS.app (r := ⟨re, fr, pr - pf + mc⟩) S hL row3 upd_same
          refine ⟨_, _, _, _, _, _, ⟨rfl, rfl, rfl, rfl, rfl, rfl⟩, _, _, S, by rw [List.length_append, List.length_singleton]; omega, fun r hr => ?_⟩
          rcases List.mem_append.mp hr with hr | hr
          · exact hrs2 r hr
          · cases List.mem_singleton.mp hr
            exact ok2
        · simp only [hc3, decide_false, Bool.false_eq_true, ite_false]
          exact ⟨_, _, _, _, _, _, ⟨rfl, rfl, rfl, rfl, rfl, rfl⟩, _, _, S, by omega, hrs2⟩
    · obtain ⟨x5, x7, x8, x9, x10, x11, rfl, xs, rs, S, hlen, hrs⟩ := hPv
      walk_at "rd"
      refine ⟨L, _, rfl, .of S.lst, fun l7 hl7 => ?_⟩
      have S := S.new (same_upd (o := .lst (cutV xs none (some 40))) hl7)
      have ecut : cutV xs none (some 40) = xs.take 40 := by
        unfold cutV
        rw [HT.sIx_none, show HT.sIx xs.length xs.length (some (40 : Int)) = min 40 xs.length from HT.sIx_nat _ _ 40]
        show (List.drop 0 xs).take (min 40 xs.length - 0) = _
        rw [List.drop_zero, Nat.sub_zero]
        by_cases h : 40 ≤ xs.length
        · rw [Nat.min_eq_left h]
        · rw [Nat.min_eq_right (by omega), List.take_of_length_le (Nat.le_refl _), List.take_of_length_le (by omega)]
      walk_at "rd"
      refine ⟨_, .inl ⟨.of upd_same, fun t1 ht1 => ?_⟩⟩
      have e1 := same_upd (o := .tup (cutV xs none (some 40))) ht1
      have S := S.new e1
      walk_at "rd"
      refine ⟨by show 2 ≤ sizeLine; omega, fun t2 ht2 => ?_⟩
      have e2' := same_upd (o := .tup [.int n, .ref t1]) ht2
      have S := S.new e2'
      have RX := S.rx.take 40
      refine q _ _ n (rs.take 40) S.row (b03.trans S.but) ⟨t2, t1, xs.take 40, rfl, .of upd_same, ?_, RX.1, RX.2⟩ ⟨by omega, by omega, ?_, fun r hr => (hrs r (List.mem_of_mem_take hr)).1⟩ (by omega) ⟨fun i => pl.getD i 0, fun i => ?_, fun r hr => (hrs r (List.mem_of_mem_take hr)).2⟩
      · rw [← ecut]
        exact sqt_same e2' (.of upd_same)
      · rw [List.length_take]
        exact Nat.min_le_left _ _
      · obtain ⟨h1, h2⟩ := hplb i
        exact ⟨h1, by show pl.getD i 0 ≤ 88; rcases hfc2 with rfl | rfl <;> omega⟩
end
end Hx

set_option Elab.async false
set_option linter.all false
set_option maxRecDepth 100000
set_option maxHeartbeats 4000000
namespace Hx
open PySem PySem.Spec PyProof.Rows L2
abbrev gd (c : List Int) (i : Nat) : Int := c.getD i 0
theorem gd_set (c : List Int) {g : Nat} (v : Int) (h : g < c.length) (i : Nat) : gd (c.set g v) i = if i = g then v else gd c i := by
  unfold gd
  rw [List.getD_eq_getElem?_getD, List.getElem?_set]
  by_cases e : g = i
  · subst e
    rw [if_pos rfl, if_pos h, if_pos rfl]
    rfl
  · rw [if_neg e, if_neg (fun z => e z.symm), List.getD_eq_getElem?_getD]
theorem gd_move (d : Tab) (xs : List Int) (b : Nat) (p : Int) {o : Nat} (h : o < xs.length) : gd (moveD d xs b p) o = mv1 (d b o) (gd xs o) p := by
  unfold gd
  rw [List.getD_eq_getElem?_getD, moveD_at d xs b p h]
  rfl
theorem mv1_ge (l : Option Int) (x p : Int) : x ≤ mv1 l x p := by
  cases l with
  | none => exact Int.le_refl x
  | some l =>
    show x ≤ if p - l > x then p - l else x
    split <;> omega
theorem mv1_some (l x p : Int) : p - l ≤ mv1 (some l) x p := by
  show p - l ≤ if p - l > x then p - l else x
  split <;> omega
theorem mv1_le {l : Option Int} {x p y : Int} (h : x ≤ y) (h2 : ∀ a, l = some a → p - a ≤ y) : mv1 l x p ≤ y := by
  cases l with
  | none => exact h
  | some a =>
    have := h2 a rfl
    show (if p - a > x then p - a else x) ≤ y
    split <;> omega
/-- what a fleet is worth, for the tables -/
structure Fit (n : Nat) (rs : List Rope) : Prop where
  ok : ∀ r ∈ rs, RopeOk n r
  diag : Diag n (chainTab n rs)
  closed : Closed n (chainTab n rs) n
theorem Fit.of {n : Nat} {rs : List Rope} (ok : ∀ r ∈ rs, RopeOk n r) {x : Nat → Int} (h : ∀ r ∈ rs, HoldsR x r) : Fit n rs :=
  ⟨ok, (chain_good h).1, (chain_good h).2⟩
theorem RopeOk.ix {n : Nat} {r : Rope} (h : RopeOk n r) : r.f.toNat < n ∧ r.r.toNat < n := by
  obtain ⟨h1, h2, h3, h4, _⟩ := h
  omega
theorem move_valid {n : Nat} {rs : List Rope} (F : Fit n rs) {xs : List Int} (hl : xs.length = n) (hv : Valid xs rs) {b : Nat} (hb : b < n) (p : Int) : Valid (moveD (chainTab n rs) xs b p) rs := fun r hr => by
  obtain ⟨hf, hg⟩ := (F.ok r hr).ix
  have h0 := hv r hr
  unfold Holds1 at h0 ⊢
  show gd _ _ - gd _ _ ≤ _
  rw [gd_move _ _ _ _ (by omega), gd_move _ _ _ _ (by omega)]
  have hg1 := mv1_ge (chainTab n rs b r.r.toNat) (gd xs r.r.toNat) p
  have h0 : gd xs r.f.toNat - gd xs r.r.toNat ≤ r.l := h0
  have key : mv1 (chainTab n rs b r.f.toNat) (gd xs r.f.toNat) p ≤ mv1 (chainTab n rs b r.r.toNat) (gd xs r.r.toNat) p + r.l := by
    refine mv1_le (by omega) fun a ea => ?_
    obtain ⟨z, ez, hz⟩ := chain_rope (n := n) hr r.l rfl
    obtain ⟨y, ey, hy⟩ := F.closed r.f.toNat hf b hb r.r.toNat hg a z ea ez _ rfl
    rw [ey]
    have := mv1_some y (gd xs r.r.toNat) p
    omega
  omega
theorem move_least {n : Nat} {rs : List Rope} {xs : List Int} (hl : xs.length = n) {b : Nat} {p : Int} {y : Nat → Int} (hy : ∀ r ∈ rs, HoldsR y r) (h1 : ∀ i, i < n → gd xs i ≤ y i) (h2 : p ≤ y b) :
    ∀ i, i < n → gd (moveD (chainTab n rs) xs b p) i ≤ y i := fun i hi => by
  rw [gd_move _ _ _ _ (by omega)]
  refine mv1_le (h1 i hi) fun a ea => ?_
  have := sound_chain (n := n) hy b i a ea
  omega
theorem move_ge (d : Tab) (xs : List Int) (b : Nat) (p : Int) {i : Nat} (h : i < xs.length) : gd xs i ≤ gd (moveD d xs b p) i := by
  rw [gd_move _ _ _ _ h]
  exact mv1_ge _ _ _
theorem move_at {n : Nat} {rs : List Rope} (F : Fit n rs) {xs : List Int} (hl : xs.length = n) {b : Nat} (hb : b < n) (p : Int) : p ≤ gd (moveD (chainTab n rs) xs b p) b := by
  rw [gd_move _ _ _ _ (by omega), F.diag b hb]
  have := mv1_some 0 (gd xs b) p
  omega
theorem leastD_none {d : Tab} {ws : List (Option Int)} {xs : List Int} {k : Nat} (h : ws.getD k none = none) : leastD d ws xs (k + 1) = leastD d ws xs k := by
  rw [leastD_succ, h]
theorem leastD_mv {d : Tab} {ws : List (Option Int)} {xs : List Int} {k : Nat} {u : Int} (h : ws.getD k none = some u) (h2 : gd (leastD d ws xs k) k < u) : leastD d ws xs (k + 1) = moveD d (leastD d ws xs k) k u := by
  rw [leastD_succ, h]
  exact if_pos h2
theorem leastD_st {d : Tab} {ws : List (Option Int)} {xs : List Int} {k : Nat} {u : Int} (h : ws.getD k none = some u) (h2 : ¬ gd (leastD d ws xs k) k < u) : leastD d ws xs (k + 1) = leastD d ws xs k := by
  rw [leastD_succ, h]
  exact if_neg h2
theorem least_all {n : Nat} {rs : List Rope} (F : Fit n rs) {xs : List Int} (hl : xs.length = n) (hv : Valid xs rs) (ws : List (Option Int)) : ∀ k, k ≤ n →
    Valid (leastD (chainTab n rs) ws xs k) rs ∧ (∀ i, i < n → gd xs i ≤ gd (leastD (chainTab n rs) ws xs k) i) ∧ (∀ i, i < k → ∀ v, ws.getD i none = some v → v ≤ gd (leastD (chainTab n rs) ws xs k) i) ∧
    ∀ y : Nat → Int, (∀ r ∈ rs, HoldsR y r) → (∀ i, i < n → gd xs i ≤ y i) → (∀ i, i < k → ∀ v, ws.getD i none = some v → v ≤ y i) → ∀ i, i < n → gd (leastD (chainTab n rs) ws xs k) i ≤ y i
  | 0, _ => ⟨hv, fun _ _ => Int.le_refl _, fun i hi => absurd hi (Nat.not_lt_zero i), fun y _ h _ => h⟩
  | k + 1, hk => by
    obtain ⟨h1, h2, h3, h4⟩ := least_all F hl hv ws k (by omega)
    have ll := leastD_len (chainTab n rs) ws xs k
    cases hw : ws.getD k none with
    | none =>
      rw [leastD_none hw]
      generalize leastD (chainTab n rs) ws xs k = c at h1 h2 h3 h4 ll
      refine ⟨h1, h2, fun i hi v hv' => ?_, fun y a b e => h4 y a b fun i hi => e i (by omega)⟩
      by_cases hik : i = k
      · subst hik
        rw [hw] at hv'
        cases hv'
      · exact h3 i (by omega) v hv'
    | some u =>
      by_cases hlt : gd (leastD (chainTab n rs) ws xs k) k < u
      · rw [leastD_mv hw hlt]
        generalize leastD (chainTab n rs) ws xs k = c at h1 h2 h3 h4 ll hlt
        refine ⟨move_valid F (by omega) h1 (by omega) u, fun i hi => Int.le_trans (h2 i hi) (move_ge _ _ _ _ (by omega)), fun i hi v hv' => ?_, fun y a b e => ?_⟩
        · by_cases hik : i = k
          · subst hik
            rw [hw] at hv'
            cases hv'
            exact move_at F (by omega) (by omega) u
          · exact Int.le_trans (h3 i (by omega) v hv') (move_ge _ _ _ _ (by omega))
        · exact move_least (by omega) a (h4 y a b fun i hi => e i (by omega)) (e k (by omega) u hw)
      · rw [leastD_st hw hlt]
        generalize leastD (chainTab n rs) ws xs k = c at h1 h2 h3 h4 ll hlt
        refine ⟨h1, h2, fun i hi v hv' => ?_, fun y a b e => h4 y a b fun i hi => e i (by omega)⟩
        by_cases hik : i = k
        · subst hik
          rw [hw] at hv'
          cases hv'
          omega
        · exact h3 i (by omega) v hv'
/-! settling, rope by rope -/
theorem gd_settle1 (c : List Int) {n : Nat} (hl : c.length = n) {r : Rope} (h : RopeOk n r) (i : Nat) : gd (settle1 c r) i = if i = r.r.toNat then max (gd c r.r.toNat) (gd c r.f.toNat - r.l) else gd c i := by
  unfold settle1
  rw [gd_set _ _ (by rw [hl]; exact h.ix.2)]
  by_cases e : i = r.r.toNat
  · rw [if_pos e, if_pos e]
    show (if gd c r.f.toNat - r.l > gd c r.r.toNat then gd c r.f.toNat - r.l else gd c r.r.toNat) = _
    split <;> omega
  · rw [if_neg e, if_neg e]
theorem settle1_ge (c : List Int) {n : Nat} (hl : c.length = n) {r : Rope} (h : RopeOk n r) (i : Nat) : gd c i ≤ gd (settle1 c r) i := by
  rw [gd_settle1 c hl h]
  split
  · rename_i e
    rw [e]
    omega
  · exact Int.le_refl _
theorem settleR_ge {n : Nat} : ∀ (rs : List Rope) (c : List Int), c.length = n → (∀ r ∈ rs, RopeOk n r) → ∀ i, gd c i ≤ gd (settleR rs c) i
  | [], _, _, _, _ => Int.le_refl _
  | r :: rs, c, hl, h, i => Int.le_trans (settle1_ge c hl (h r List.mem_cons_self) i) (settleR_ge rs (settle1 c r) (by rw [settle1_len]; exact hl) (fun q hq => h q (List.mem_cons_of_mem _ hq)) i)
theorem settleR_rope {n : Nat} : ∀ (rs : List Rope) (c : List Int), c.length = n → (∀ r ∈ rs, RopeOk n r) → ∀ r ∈ rs, gd c r.f.toNat - r.l ≤ gd (settleR rs c) r.r.toNat
  | [], _, _, _, _, h => by cases h
  | q :: rs, c, hl, h, r, hr => by
    have hq := h q List.mem_cons_self
    have ht := fun z (hz : z ∈ rs) => h z (List.mem_cons_of_mem _ hz)
    have hl' : (settle1 c q).length = n := by rw [settle1_len]; exact hl
    rcases List.mem_cons.mp hr with e | hr
    · subst e
      refine Int.le_trans ?_ (settleR_ge rs (settle1 c r) hl' ht _)
      rw [gd_settle1 c hl hq, if_pos rfl]
      omega
    · have a := settleR_rope rs (settle1 c q) hl' ht r hr
      have b := settle1_ge c hl hq r.f.toNat
      show _ ≤ gd (settleR rs (settle1 c q)) _
      omega
theorem settleR_le {n : Nat} {y : Nat → Int} : ∀ (rs : List Rope) (c : List Int), c.length = n → (∀ r ∈ rs, RopeOk n r) → (∀ r ∈ rs, HoldsR y r) → (∀ i, i < n → gd c i ≤ y i) → ∀ i, i < n → gd (settleR rs c) i ≤ y i
  | [], _, _, _, _, h => h
  | r :: rs, c, hl, h, hy, hc => settleR_le rs (settle1 c r) (by rw [settle1_len]; exact hl) (fun q hq => h q (List.mem_cons_of_mem _ hq)) (fun q hq => hy q (List.mem_cons_of_mem _ hq)) fun i hi => by
    have hr := h r List.mem_cons_self
    have h1 := hy r List.mem_cons_self
    unfold HoldsR at h1
    have h2 := hc _ hr.ix.1
    rw [gd_settle1 c hl hr]
    split
    · rename_i e
      have h3 := hc i hi
      rw [e] at h3 ⊢
      omega
    · exact hc i hi
/-- barges that are not yet at y -/
def low (n : Nat) (c : List Int) (y : Nat → Int) : List Nat := (List.range n).filter fun i => decide (gd c i < y i)
theorem filter_lt {α : Type} (p q : α → Bool) : ∀ (l : List α), (∀ x ∈ l, q x = true → p x = true) → (l.filter q).length ≤ (l.filter p).length ∧ ((∃ x ∈ l, p x = true ∧ q x = false) → (l.filter q).length < (l.filter p).length)
  | [], _ => ⟨Nat.le_refl 0, fun ⟨_, h, _⟩ => by cases h⟩
  | a :: l, h => by
    obtain ⟨h1, h2⟩ := filter_lt p q l fun x hx => h x (List.mem_cons_of_mem _ hx)
    rw [List.filter_cons, List.filter_cons]
    have ha := h a List.mem_cons_self
    cases hp : p a <;> cases hq : q a
    · simp only [Bool.false_eq_true, if_false]
      refine ⟨h1, fun ⟨x, hx, k1, k2⟩ => ?_⟩
      rcases List.mem_cons.mp hx with e | hx
      · subst e
        rw [hp] at k1
        cases k1
      · exact h2 ⟨x, hx, k1, k2⟩
    · rw [ha hq] at hp
      cases hp
    · simp only [Bool.false_eq_true, if_false, if_true, List.length_cons]
      exact ⟨by omega, fun _ => by omega⟩
    · simp only [if_true, List.length_cons]
      refine ⟨by omega, fun ⟨x, hx, k1, k2⟩ => ?_⟩
      rcases List.mem_cons.mp hx with e | hx
      · subst e
        rw [hq] at k2
        cases k2
      · have := h2 ⟨x, hx, k1, k2⟩
        omega
theorem settle_low {n : Nat} {rs : List Rope} (ok : ∀ r ∈ rs, RopeOk n r) {ws : List Int} {y : Nat → Int} (hy : ∀ r ∈ rs, HoldsR y r)
    (least : ∀ z : Nat → Int, (∀ r ∈ rs, HoldsR z r) → (∀ i, i < n → gd ws i ≤ z i) → ∀ i, i < n → y i ≤ z i) (c : List Int) (hl : c.length = n) (h1 : ∀ i, i < n → gd ws i ≤ gd c i) (h2 : ∀ i, i < n → gd c i ≤ y i) :
    (low n (settleR rs c) y).length ≤ (low n c y).length - 1 := by
  have hsub := filter_lt (fun i => decide (gd c i < y i)) (fun i => decide (gd (settleR rs c) i < y i)) (List.range n) fun i hi q => by
    have := settleR_ge rs c hl ok i
    have q := of_decide_eq_true q
    exact decide_eq_true (by omega)
  by_cases hz : ∃ i ∈ List.range n, decide (gd c i < y i) = true ∧ decide (gd (settleR rs c) i < y i) = false
  · have := hsub.2 hz
    unfold low
    omega
  · by_cases he : ∃ j, j < n ∧ gd c j < y j
    · exfalso
      obtain ⟨j, hj, hjc⟩ := he
      have all : ∀ i, i < n → gd c i < y i → gd (settleR rs c) i < y i := fun i hi q => by
        by_cases k : gd (settleR rs c) i < y i
        · exact k
        · exact absurd ⟨i, List.mem_range.mpr hi, decide_eq_true q, decide_eq_false k⟩ hz
      have := least (fun i => if gd c i < y i then y i - 1 else y i) (fun r hr => ?_) (fun i hi => ?_) j hj
      · simp only [hjc, if_true] at this
        omega
      · obtain ⟨hf, hg⟩ := (ok r hr).ix
        have h0 := hy r hr
        unfold HoldsR at h0 ⊢
        have hf2 := h2 _ hf
        by_cases k1 : gd c r.f.toNat < y r.f.toNat <;> by_cases k2 : gd c r.r.toNat < y r.r.toNat <;> simp only [k1, k2, if_true, if_false]
        · omega
        · omega
        · have := all _ hg k2
          have := settleR_rope rs c hl ok r hr
          omega
        · omega
      · have a := h1 i hi
        show gd ws i ≤ if gd c i < y i then y i - 1 else y i
        have b := h2 i hi
        split <;> omega
    · have e0 : low n (settleR rs c) y = [] := by
        unfold low
        refine List.filter_eq_nil_iff.mpr fun i hi => ?_
        have hi := List.mem_range.mp hi
        have := settleR_ge rs c hl ok i
        have k : ¬ gd c i < y i := fun q => he ⟨i, hi, q⟩
        simpa using (show y i ≤ gd (settleR rs c) i by omega)
      rw [e0]
      exact Nat.zero_le _
theorem settle_is {n : Nat} {rs : List Rope} (ok : ∀ r ∈ rs, RopeOk n r) {ws : List Int} (hw : ws.length = n) {y : Nat → Int} (hy : ∀ r ∈ rs, HoldsR y r) (hwy : ∀ i, i < n → gd ws i ≤ y i)
    (least : ∀ z : Nat → Int, (∀ r ∈ rs, HoldsR z r) → (∀ i, i < n → gd ws i ≤ z i) → ∀ i, i < n → y i ≤ z i) : ∀ k, (low n (settleN rs ws k) y).length ≤ n - k ∧ (∀ i, i < n → gd ws i ≤ gd (settleN rs ws k) i) ∧ ∀ i, i < n → gd (settleN rs ws k) i ≤ y i
  | 0 => by
    refine ⟨?_, fun _ _ => Int.le_refl _, hwy⟩
    unfold low
    have := List.length_filter_le (fun i => decide (gd ws i < y i)) (List.range n)
    rw [List.length_range] at this
    exact this
  | k + 1 => by
    obtain ⟨h1, h2, h3⟩ := settle_is ok hw hy hwy least k
    have hl := settleN_len rs ws k
    rw [hw] at hl
    rw [settleN_succ]
    refine ⟨?_, fun i hi => Int.le_trans (h2 i hi) (settleR_ge rs _ hl ok i), settleR_le rs _ hl ok hy h3⟩
    have := settle_low ok hy least _ hl h2 h3
    omega
theorem shift_le (pl : Nat → Int) (w : Nat → Int) : ∀ n : Nat, ∃ M : Int, ∀ i, i < n → pl i - M ≤ w i
  | 0 => ⟨0, fun i hi => absurd hi (Nat.not_lt_zero i)⟩
  | n + 1 => by
    obtain ⟨M, h⟩ := shift_le pl w n
    refine ⟨max M (pl n - w n), fun i hi => ?_⟩
    by_cases e : i = n
    · subst e
      omega
    · have := h i (by omega)
      omega
/-- settled positions: the least that hold all ropes -/
theorem settle_spec {n : Nat} {rs : List Rope} (ok : ∀ r ∈ rs, RopeOk n r) {pl : Nat → Int} (hp : ∀ r ∈ rs, HoldsR pl r) {ws : List Int} (hw : ws.length = n) :
    Valid (settleN rs ws (n + 1)) rs ∧ (∀ i, i < n → gd ws i ≤ gd (settleN rs ws (n + 1)) i) ∧ ∀ z : Nat → Int, (∀ r ∈ rs, HoldsR z r) → (∀ i, i < n → gd ws i ≤ z i) → ∀ i, i < n → gd (settleN rs ws (n + 1)) i ≤ z i := by
  have F := Fit.of ok hp
  obtain ⟨M, hM⟩ := shift_le pl (gd ws) n
  obtain ⟨x0, hx0⟩ : ∃ x0 : List Int, x0 = (List.range n).map fun i => pl i - M := ⟨_, rfl⟩
  have l0 : x0.length = n := by rw [hx0, List.length_map, List.length_range]
  have g0 : ∀ i, i < n → gd x0 i = pl i - M := fun i hi => by
    unfold gd
    rw [hx0, List.getD_eq_getElem?_getD, List.getElem?_map, List.getElem?_range hi]
    rfl
  have v0 : Valid x0 rs := fun r hr => by
    obtain ⟨hf, hg⟩ := (ok r hr).ix
    have := hp r hr
    unfold HoldsR at this
    unfold Holds1
    show gd x0 _ - gd x0 _ ≤ _
    rw [g0 _ hf, g0 _ hg]
    omega
  obtain ⟨h1, h2, h3, h4⟩ := least_all F l0 v0 (ws.map some) n (Nat.le_refl n)
  have hws : ∀ i, i < n → (ws.map some).getD i none = some (gd ws i) := fun i hi => by
    rw [List.getD_eq_getElem?_getD, List.getElem?_map, List.getElem?_eq_getElem (by omega)]
    unfold gd
    rw [List.getD_eq_getElem?_getD, List.getElem?_eq_getElem (by omega)]
    rfl
  have hy : ∀ r ∈ rs, HoldsR (gd (leastD (chainTab n rs) (ws.map some) x0 n)) r := h1
  have hwy : ∀ i, i < n → gd ws i ≤ gd (leastD (chainTab n rs) (ws.map some) x0 n) i := fun i hi => h3 i hi _ (hws i hi)
  have hle : ∀ z : Nat → Int, (∀ r ∈ rs, HoldsR z r) → (∀ i, i < n → gd ws i ≤ z i) → ∀ i, i < n → gd (leastD (chainTab n rs) (ws.map some) x0 n) i ≤ z i := fun z hz hwz =>
    h4 z hz (fun i hi => by rw [g0 i hi]; exact Int.le_trans (hM i hi) (hwz i hi)) fun i hi v hv => by
      rw [hws i hi] at hv
      cases hv
      exact hwz i hi
  generalize gd (leastD (chainTab n rs) (ws.map some) x0 n) = y at hy hwy hle
  obtain ⟨k1, k2, k3⟩ := settle_is ok hw hy hwy hle (n + 1)
  have same : ∀ i, i < n → gd (settleN rs ws (n + 1)) i = y i := fun i hi => by
    have e : low n (settleN rs ws (n + 1)) y = [] := List.eq_nil_of_length_eq_zero (by omega)
    have : ¬ gd (settleN rs ws (n + 1)) i < y i := fun q => by
      have m : i ∈ low n (settleN rs ws (n + 1)) y := List.mem_filter.mpr ⟨List.mem_range.mpr hi, decide_eq_true q⟩
      rw [e] at m
      cases m
    have := k3 i hi
    omega
  refine ⟨fun r hr => ?_, k2, fun z hz hwz i hi => by rw [same i hi]; exact hle z hz hwz i hi⟩
  obtain ⟨hf, hg⟩ := (ok r hr).ix
  have := hy r hr
  unfold HoldsR at this
  unfold Holds1
  show gd _ _ - gd _ _ ≤ _
  rw [same _ hf, same _ hg]
  exact this
end Hx

set_option Elab.async false
set_option linter.all false
set_option maxRecDepth 100000
set_option maxHeartbeats 4000000
namespace Hx
open PySem PySem.Spec PyProof.Rows L2
local macro_rules | `(tactic| walk_at "rd") => `(tactic| (try simp only [q_var, q_c, q_op, q_un, q_rI, q_rI0, q_rU, q_rEq, q_rNe, q_test, q_tB, q_and, q_or, q_not, q_andV, q_orV, q_notV, q_if, q_isN, q_notN, q_chain, q_next, q_seq, q_break, q_cont, q_drop, q_ret, q_retN, q_ifS, q_never, q_gN, q_gNil, q_gCons, q_gTup, q_gSub, q_asg, q_par, q_aug, q_nil, q_cons, q_tup, q_lst, q_call, q_cb, q_noPart, q_part, q_sl, q_bm0, q_bm, q_yes, q_for, q_lc, q_iList, q_iTup, q_iRng1, q_iEnumT, q_iEnum, q_iRng2, q_iZipA, q_iZipM, q_ipI, q_ckw, q_len, q_listOf, q_tupleOf, L2.start, cx_K, wipe, List.map_cons, List.map_nil, List.length_cons, List.length_nil, List.cons_append, List.nil_append, List.append_nil, List.replicate, List.getElem?_cons_zero, List.getElem?_cons_succ, List.set_cons_zero, List.set_cons_succ, Option.some.injEq, List.cons.injEq, exists_eq_left', exists_eq_left, exists_and_left, V.int.injEq, V.bl.injEq, V.ref.injEq, if_true, if_false, Bool.not_true, Bool.not_false, true_and, and_true, Bool.false_eq_true, ite_true, ite_false, Nat.reduceAdd, Nat.reduceSub, reduceCtorEq, decide_false, decide_true, Int.toNat_natCast, false_and, exists_false, or_false, false_or]))
section
variable {P : Program} {w : World} {K : PySem.W.Frag} {mg : Str → Option Value} {base : Heap}
/-- places under which all ropes hold -/
structure Pl (n : Nat) (rs : List Rope) (pl : Nat → Int) : Prop where
  lo : ∀ i, 0 ≤ pl i
  hi : ∀ i, pl i ≤ 88
  holds : ∀ r ∈ rs, HoldsR pl r
theorem Pl.up {n : Nat} {rs : List Rope} {pl : Nat → Int} (h : Pl n rs pl) (M : Int) : ∀ r ∈ rs, HoldsR (fun i => pl i + M) r := fun r hr => by
  have := h.holds r hr
  unfold HoldsR at this ⊢
  show pl _ + M - (pl _ + M) ≤ _
  omega
theorem FleetV.but {H H' : Hp} {a : Addr} {ys : List V} {v : V} {n : Int} {rs : List Rope} (h : FleetV K H v n rs) (e : But a H H') (ha : H a = some (.lst ys)) : FleetV K H' v n rs := by
  obtain ⟨x, b, xs, rfl, h1, h2, hl, hx⟩ := h
  refine ⟨x, b, xs, rfl, sqt_but e ha h1, sqt_but e ha h2, hl, fun i r hr => ?_⟩
  obtain ⟨u, hu, hv⟩ := hx i r hr
  exact ⟨u, hu, hv.but e ha⟩
theorem IntsT.but {H H' : Hp} {a : Addr} {ys : List V} {v : V} {xs : List Int} (h : IntsT K H v xs) (e : But a H H') (ha : H a = some (.lst ys)) : IntsT K H' v xs := by
  obtain ⟨c, rfl, h⟩ := h
  exact ⟨c, rfl, sqt_but e ha h⟩
theorem OptsT.but {H H' : Hp} {a : Addr} {ys : List V} {v : V} {xs : List (Option Int)} (h : OptsT K H v xs) (e : But a H H') (ha : H a = some (.lst ys)) : OptsT K H' v xs := by
  obtain ⟨c, rfl, h⟩ := h
  exact ⟨c, rfl, sqt_but e ha h⟩
def s_law_positions : Stmt := topS 44
abbrev n_law_positions : List Str := ["_law_row", "_law_fleet_here", "_law_least", "_law_most", "_law_wishes", "_law_place"]
abbrev p_law_positions : List Str := ["_law_row", "_law_fleet_here", "_law_least"]
theorem sc_law_positions : FnScope n_law_positions p_law_positions (defScope s_law_positions) := ⟨rfl, rfl, rfl, by decide +kernel, rfl, by decide +kernel, by decide +kernel⟩
def sp_law_positions (K : PySem.W.Frag) : Sp := fun vs H Q _ => ∃ (a sc : Addr) (ns : List Int) (v : V) (l : Addr) (n : Nat) (rs : List Rope) (pl : Nat → Int) (ls : List Int) (lo hi : Int), vs = [.ref a, v, .ref l] ∧ RowAt K H a sc ns ∧ FleetV K H v n rs ∧ FleetOk n rs ∧ Pl n rs pl ∧
  H l = some (.lst (ls.map V.int)) ∧ ls.length = n ∧ (∀ x ∈ ls, lo ≤ x ∧ x ≤ hi) ∧
  ∀ H' r xs, RowAt K H' a sc ns → But a H H' → IntsT K H' r xs → xs.length = n → Valid xs rs → (∀ i, i < n → lo ≤ gd xs i ∧ gd xs i ≤ pl i + (hi + 199)) → Q r H'
theorem df_law_positions (T : Here K mg "_law_positions" s_law_positions) (B : Blt mg) (D_law_taken : Df P w K mg base CX0 "_law_taken" 1 p_law_taken (sp_law_taken K)) (D_law_settled : Df P w K mg base CX0 "_law_settled" 1 p_law_settled (sp_law_settled K)) :
    Df P w K mg base CX0 "_law_positions" 2 p_law_positions (sp_law_positions K) := by
  refine T.df sc_law_positions (fun _ _ _ _ _ _ us hl => match us, hl with | [_, _, _], _ => rfl) (fun vs H Q E h => by obtain ⟨_, _, _, _, _, _, _, _, _, _, _, rfl, _⟩ := h; rfl) (fun f cdv A outer s H vs Q E hr h => ?_)
  obtain ⟨a, sc, ns, v, l, n, rs, pl, ls, lo, hi, rfl, hrow, hv, hok, hpl, hL, hn, hb, q⟩ := h
  refine ⟨_, pss_cons (ps_set (i := 3) sc_law_positions.nd rfl (by first | exact Or.inl rfl | exact Or.inr rfl) (pe_ix (ixL K rfl) (pe_lst (pa_cons (pe_int) (pa_cons (pe_int) (pa_cons (pe_int) pa_nil)))) (D_law_taken.call (hr.mono (by decide)) (by rfl) (pa_cons (pv 0) (pa_cons (pe_int) pa_nil))) (fun _ _ => rfl)))
      (pss_cons (ps_setLc (i := 4) (own := [("_law_place", 5)]) rfl sc_law_positions.nd rfl rfl (sw_true rfl rfl rfl (by decide +kernel)) (piList K rfl (pv 2)) (blkOk_by (N := n_law_positions) (sc := defScope s_law_positions) (by decide +kernel)) (fun _ _ _ _ _ => pg_name (i := 5) sc_law_positions.nd rfl (by first | exact Or.inl rfl | exact Or.inr rfl)) (fun _ _ _ _ _ => pts_nil) (fun _ _ _ _ _ => pe_op op_add (pv 5) (pe_ix (ixL K rfl) (pe_lst (pa_cons (pe_int) (pa_cons (pe_int) (pa_cons (D_law_taken.call (hr.mono (by decide)) (by rfl) (pa_cons (pv 0) (pa_cons (pe_int) pa_nil))) (pa_cons (D_law_taken.call (hr.mono (by decide)) (by rfl) (pa_cons (pv 0) (pa_cons (pv 3) pa_nil))) pa_nil))))) (D_law_taken.call (hr.mono (by decide)) (by rfl) (pa_cons (pv 0) (pa_cons (pe_int) pa_nil))) (fun _ _ => rfl))))
      (pss_one (ps_ret (D_law_settled.call (hr.mono (by decide)) (by rfl) (pa_cons (pv 1) (pa_cons (pv 4) pa_nil)))))), ?_⟩
  have hz : 100 ≤ sizeLine := by decide
  have n8 : n ≤ 8 := by have := hok.2.1; omega
  have nla : l ≠ a := fun e => by
    obtain ⟨i, z, k, h1, _⟩ := hrow
    rw [e, h1] at hL
    have e := HO.lst.inj (Option.some.inj hL)
    cases ls with
    | nil => cases e
    | cons x r => cases e
  walk_at "rd"
  refine ⟨by show 3 ≤ sizeLine; omega, fun l1 hl1 => ?_⟩
  have s1 := same_upd (o := .lst [.int 25, .int 25, .int 200]) hl1
  have n1 := hrow.ne hl1
  refine ⟨a, sc, ns, 3, rfl, hrow.mono s1, by omega, by omega, fun r1 H1 h10 h11 row1 b1 => ?_⟩
  have h1 := b1 _ _ n1 (upd_same (H := H) (a := l1) (o := .lst [.int 25, .int 25, .int 200]))
  have b1 := (same_but s1).trans b1
  obtain ⟨mo, hmo, hmo2⟩ : ∃ mo : Int, atI [V.int 25, .int 25, .int 200] r1 = some (.int mo) ∧ 25 ≤ mo ∧ mo ≤ 200 := by
    have : r1 = 0 ∨ r1 = 1 ∨ r1 = 2 := by omega
    rcases this with rfl | rfl | rfl
    · exact ⟨25, rfl, by omega, by omega⟩
    · exact ⟨25, rfl, by omega, by omega⟩
    · exact ⟨200, rfl, by omega, by omega⟩
  refine ⟨l1, _, r1, .int mo, rfl, rfl, .of h1, hmo, ?_⟩
  have hL1 := b1 _ _ nla hL
  walk_at "rd"
  refine ⟨⟨_, .of hL1⟩, fun D hD => ?_⟩
  have nDa := row1.ne hD
  have nDl : l ≠ D := ne_of_none hL1 hD
  refine lcList (xs := ls.map V.int) (fun i H' => ∃ ws : List Int, ws.length = i ∧ H' D = some (.lst (ws.map V.int)) ∧ RowAt K H' a sc ns ∧ But a H1 H' ∧ ∀ x ∈ ws, lo ≤ x ∧ x ≤ hi + 199)
    ⟨[], rfl, upd_same, row1.mono (same_upd hD), same_but (same_upd hD), fun x h => (by cases h)⟩ (fun i H' _ hPv => ?_) (fun i x H' hx' hPv => ?_) (fun H3 hPv => ?_)
  · obtain ⟨_, _, _, _, e4, _⟩ := hPv
    exact .of (e4 _ _ nla hL1)
  · obtain ⟨ws, e1, e2, e3, e4, e5⟩ := hPv
    obtain ⟨hi', rfl⟩ := ints_at hx'
    have hx : lo ≤ ls.getD i 0 ∧ ls.getD i 0 ≤ hi := by
      rw [List.getD_eq_getElem?_getD, List.getElem?_eq_getElem hi']
      exact hb _ (List.getElem_mem hi')
    generalize ls.getD i 0 = pc at hx
    walk_at "rd"
    refine ⟨a, sc, ns, 4, rfl, e3, by omega, by omega, fun c1 H4 c10 c11 row4 b4 => ?_⟩
    have e2 := b4 _ _ nDa e2
    have e4 := e4.trans b4
    walk_at "rd"
    refine ⟨a, sc, ns, mo, rfl, row4, by omega, by omega, fun c2 H5 c20 c21 row5 b5 => ?_⟩
    have e2 := b5 _ _ nDa e2
    have e4 := e4.trans b5
    walk_at "rd"
    refine ⟨by show 4 ≤ sizeLine; omega, fun l2 hl2 => ?_⟩
    have s2 := same_upd (o := .lst [.int 0, .int 0, .int c1, .int c2]) hl2
    have e2 := s2 _ _ e2
    have e4 := e4.trans (same_but s2)
    have n2 := row5.ne hl2
    refine ⟨a, sc, ns, 4, rfl, row5.mono s2, by omega, by omega, fun c3 H6 c30 c31 row6 b6 => ?_⟩
    have e2 := b6 _ _ nDa e2
    have e4 := e4.trans b6
    have h2 := b6 _ _ n2 (upd_same (H := H5) (a := l2) (o := .lst [.int 0, .int 0, .int c1, .int c2]))
    obtain ⟨ad, had, had2⟩ : ∃ ad : Int, atI [V.int 0, .int 0, .int c1, .int c2] c3 = some (.int ad) ∧ 0 ≤ ad ∧ ad ≤ 199 := by
      have : c3 = 0 ∨ c3 = 1 ∨ c3 = 2 ∨ c3 = 3 := by omega
      rcases this with rfl | rfl | rfl | rfl
      · exact ⟨0, rfl, by omega, by omega⟩
      · exact ⟨0, rfl, by omega, by omega⟩
      · exact ⟨c1, rfl, by omega, by omega⟩
      · exact ⟨c2, rfl, by omega, by omega⟩
    refine ⟨l2, _, c3, .int ad, rfl, rfl, .of h2, had, ?_⟩
    walk_at "rd"
    refine ⟨_, e2, by rw [List.length_map, e1]; omega, ws ++ [pc + ad], ?_, ?_, ?_, ?_, ?_⟩
    · rw [List.length_append, e1]
      rfl
    · rw [upd_same, List.map_append]
      rfl
    · exact row1.put hD e4 row6
    · exact e4.put hD
    · intro x hx2
      rcases List.mem_append.mp hx2 with hx2 | hx2
      · exact e5 x hx2
      · cases List.mem_singleton.mp hx2
        omega
  · obtain ⟨ws, e1, e2, row3, e4, e5⟩ := hPv
    rw [List.length_map] at e1
    have b3 := b1.trans e4
    obtain ⟨ys, hys⟩ := hrow.lst
    have hwn : ws.length = n := by omega
    obtain ⟨g1, g2, g3⟩ := settle_spec hok.2.2.2 hpl.holds hwn
    walk_at "rd"
    refine ⟨v, .ref D, n, rs, ws, rfl, hv.but b3 hys, hok.2.2.2, n8, ⟨D, rfl, .inl (.of e2)⟩, hwn, fun _ H4 p s4 hp4 hp => ?_, fun hnv => absurd g1 hnv⟩
    have hws : ∀ i, i < n → lo ≤ gd ws i ∧ gd ws i ≤ hi + 199 := fun i hi' => by
      unfold gd
      rw [List.getD_eq_getElem?_getD, List.getElem?_eq_getElem (by omega)]
      exact e5 _ (List.getElem_mem _)
    refine q H4 (.ref p) _ (row3.mono s4) (b3.trans (same_but s4)) ⟨p, rfl, .of hp⟩ (by rw [settleN_len]; exact hwn) g1 fun i hi' => ⟨Int.le_trans (hws i hi').1 (g2 i hi'), ?_⟩
    exact g3 (fun i => pl i + (hi + 199)) (hpl.up _) (fun i hi2 => by
      have := hws i hi2
      have := hpl.lo i
      show gd ws i ≤ pl i + (hi + 199)
      omega) i hi'
def s_law_start : Stmt := topS 45
abbrev n_law_start : List Str := ["_law_row", "_law_fleet_here", "_law_barge"]
abbrev p_law_start : List Str := ["_law_row", "_law_fleet_here"]
theorem sc_law_start : FnScope n_law_start p_law_start (defScope s_law_start) := ⟨rfl, rfl, rfl, by decide +kernel, rfl, by decide +kernel, by decide +kernel⟩
def sp_law_start (K : PySem.W.Frag) : Sp := fun vs H Q _ => ∃ (a sc : Addr) (ns : List Int) (v : V) (n : Nat) (rs : List Rope) (pl : Nat → Int), vs = [.ref a, v] ∧ RowAt K H a sc ns ∧ FleetV K H v n rs ∧ FleetOk n rs ∧ Pl n rs pl ∧
  ∀ H' r xs, RowAt K H' a sc ns → But a H H' → IntsT K H' r xs → xs.length = n → Valid xs rs → (∀ i, i < n → -4 ≤ gd xs i ∧ gd xs i ≤ pl i + 203) → Q r H'
theorem df_law_start (T : Here K mg "_law_start" s_law_start) (B : Blt mg) (D_law_taken : Df P w K mg base CX0 "_law_taken" 1 p_law_taken (sp_law_taken K)) (D_law_positions : Df P w K mg base CX0 "_law_positions" 2 p_law_positions (sp_law_positions K)) :
    Df P w K mg base CX0 "_law_start" 3 p_law_start (sp_law_start K) := by
  refine T.df sc_law_start (fun _ _ _ _ _ _ us hl => match us, hl with | [_, _], _ => rfl) (fun vs H Q E h => by obtain ⟨_, _, _, _, _, _, _, rfl, _⟩ := h; rfl) (fun f cdv A outer s H vs Q E hr h => ?_)
  obtain ⟨a, sc, ns, v, n, rs, pl, rfl, hrow, hv, hok, hpl, q⟩ := h
  refine ⟨_, pss_one (ps_ret (D_law_positions.call (hr.mono (by decide)) (by rfl) (pa_cons (pv 0) (pa_cons (pv 1) (pa_cons (pe_lc (own := [("_law_barge", 2)]) rfl sc_law_start.nd (pi_range1 (by rfl) B.range (pa_cons (pe_ix (ixT K rfl) (pv 1) (pe_int) (fun _ _ => rfl)) pa_nil)) (blkOk_by (N := n_law_start) (sc := defScope s_law_start) (by decide +kernel)) (fun _ _ _ _ _ => pg_name (i := 2) sc_law_start.nd rfl (by first | exact Or.inl rfl | exact Or.inr rfl)) (fun _ _ _ _ _ => pts_nil) (fun _ _ _ _ _ => pe_op op_sub (D_law_taken.call (hr.mono (by decide)) (by rfl) (pa_cons (pv 0) (pa_cons (pe_int) pa_nil))) (pe_int))) pa_nil))))), ?_⟩
  have hz : 100 ≤ sizeLine := by decide
  have n8 : n ≤ 8 := by have := hok.2.1; omega
  obtain ⟨x, b, xs, rfl, hx, hx2⟩ := id hv
  walk_at "rd"
  refine ⟨x, _, 0, _, rfl, rfl, hx, atI_nat (j := 0) rfl, ?_⟩
  walk_at "rd"
  refine ⟨by omega, by omega, fun D hD => ?_⟩
  have nDa := hrow.ne hD
  refine lcRange (fun i H' => ∃ ws : List Int, ws.length = i ∧ H' D = some (.lst (ws.map V.int)) ∧ RowAt K H' a sc ns ∧ But a H H' ∧ ∀ x ∈ ws, -4 ≤ x ∧ x ≤ 4)
    ⟨[], rfl, upd_same, hrow.mono (same_upd hD), same_but (same_upd hD), fun x h => (by cases h)⟩ (fun i H' hi' hPv => ?_) (fun H3 hPv => ?_)
  · obtain ⟨ws, e1, e2, e3, e4, e5⟩ := hPv
    walk_at "rd"
    refine ⟨a, sc, ns, 9, rfl, e3, by omega, by omega, fun c1 H4 c10 c11 row4 b4 => ?_⟩
    have e2 := b4 _ _ nDa e2
    have e4 := e4.trans b4
    walk_at "rd"
    refine ⟨_, e2, by rw [List.length_map, e1]; omega, ws ++ [c1 - 4], ?_, ?_, ?_, ?_, ?_⟩
    · rw [List.length_append, e1]
      rfl
    · rw [upd_same, List.map_append]
      rfl
    · exact hrow.put hD e4 row4
    · exact e4.put hD
    · intro x hx2
      rcases List.mem_append.mp hx2 with hx2 | hx2
      · exact e5 x hx2
      · cases List.mem_singleton.mp hx2
        omega
  · obtain ⟨ws, e1, e2, e3, e4, e5⟩ := hPv
    obtain ⟨ys, hys⟩ := hrow.lst
    refine ⟨a, sc, ns, .ref x, D, n, rs, pl, ws, -4, 4, rfl, e3, hv.but e4 hys, hok, hpl, e2, e1, e5, fun H5 r ys r5 b5 i5 l5 v5 k5 => q H5 r ys r5 (e4.trans b5) i5 l5 v5 fun i hi => ⟨(k5 i hi).1, ?_⟩⟩
    have := (k5 i hi).2
    omega
end
end Hx

set_option Elab.async false
set_option linter.all false
set_option maxRecDepth 100000
set_option maxHeartbeats 4000000
namespace Hx
open PySem PySem.Spec PyProof.Rows L2
local macro_rules | `(tactic| walk_at "rd") => `(tactic| (try simp only [q_var, q_c, q_op, q_un, q_rI, q_rI0, q_rU, q_rEq, q_rNe, q_test, q_tB, q_and, q_or, q_not, q_andV, q_orV, q_notV, q_if, q_isN, q_notN, q_chain, q_next, q_seq, q_break, q_cont, q_drop, q_ret, q_retN, q_ifS, q_never, q_gN, q_gNil, q_gCons, q_gTup, q_gSub, q_asg, q_par, q_aug, q_nil, q_cons, q_tup, q_lst, q_call, q_cb, q_noPart, q_part, q_sl, q_bm0, q_bm, q_yes, q_for, q_lc, q_iList, q_iTup, q_iRng1, q_iEnumT, q_iEnum, q_iRng2, q_iZipA, q_iZipM, q_ipI, q_ckw, q_len, q_listOf, q_tupleOf, L2.start, cx_K, wipe, List.map_cons, List.map_nil, List.length_cons, List.length_nil, List.cons_append, List.nil_append, List.append_nil, List.replicate, List.getElem?_cons_zero, List.getElem?_cons_succ, List.set_cons_zero, List.set_cons_succ, Option.some.injEq, List.cons.injEq, exists_eq_left', exists_eq_left, exists_and_left, V.int.injEq, V.bl.injEq, V.ref.injEq, if_true, if_false, Bool.not_true, Bool.not_false, true_and, and_true, Bool.false_eq_true, ite_true, ite_false, Nat.reduceAdd, Nat.reduceSub, reduceCtorEq, decide_false, decide_true, Int.toNat_natCast, false_and, exists_false, or_false, false_or]))
section
variable {P : Program} {w : World} {K : PySem.W.Frag} {mg : Str → Option Value} {base : Heap}
def s_law_dragged : Stmt := topS 46
abbrev n_law_dragged : List Str := ["_law_lengths", "_law_positions_here", "_law_barge", "_law_position", "_law_found", "_law_other", "_law_length"]
abbrev p_law_dragged : List Str := ["_law_lengths", "_law_positions_here", "_law_barge", "_law_position"]
theorem sc_law_dragged : FnScope n_law_dragged p_law_dragged (defScope s_law_dragged) := ⟨rfl, rfl, rfl, by decide +kernel, rfl, by decide +kernel, by decide +kernel⟩
def sp_law_dragged (K : PySem.W.Frag) : Sp := fun vs H Q _ => ∃ (t : Addr) (as : List Addr) (n : Nat) (d : Tab) (u : V) (xs : List Int) (b : Nat) (p : Int), vs = [.ref t, u, .int b, .int p] ∧ TabAt H t as n d ∧ IntsT K H u xs ∧ xs.length = n ∧ b < n ∧ n ≤ 8 ∧
  ∀ H' a, Same H H' → H a = none → H' a = some (.tup ((moveD d xs b p).map V.int)) → Q (.ref a) H'
theorem df_law_dragged (T : Here K mg "_law_dragged" s_law_dragged) (B : Blt mg) : Df P w K mg base CX0 "_law_dragged" 1 p_law_dragged (sp_law_dragged K) := by
  refine T.df sc_law_dragged (fun _ _ _ _ _ _ us hl => match us, hl with | [_, _, _, _], _ => rfl) (fun vs H Q E h => by obtain ⟨_, _, _, _, _, _, _, _, rfl, _⟩ := h; rfl) (fun f cdv A outer s H vs Q E hr h => ?_)
  obtain ⟨t, as, n, d, u, xs, b, p, rfl, ht, ⟨c, rfl, hc⟩, hn, hb, h8, q⟩ := h
  refine ⟨_, pss_cons (ps_set (i := 4) sc_law_dragged.nd rfl (by first | exact Or.inl rfl | exact Or.inr rfl) (pe_lst (pa_nil)))
      (pss_cons (ps_for PassesOwn.never rfl (pi_range1 (by rfl) B.range (pa_cons (pe_callB (lenQ K rfl) (by rfl) B.len (by decide +kernel) (pa_cons (pv 1) pa_nil)) pa_nil)) (pg_name (i := 5) sc_law_dragged.nd rfl (by first | exact Or.inl rfl | exact Or.inr rfl)) (pss_cons (ps_set (i := 6) sc_law_dragged.nd rfl (by first | exact Or.inl rfl | exact Or.inr rfl) (pe_ix (ixL K rfl) (pe_ix (ixL K rfl) (pv 0) (pv 2) (fun _ _ => rfl)) (pv 5) (fun _ _ => rfl)))
      (pss_one (ps_expr (pe_bm PySem.F.plainAttrs_list PySem.F.slot_list_append PySem.F.type_list_append mt_append (pv 4) (pa_cons (pe_ifExp (pt_cmpR op_isN (pv 6) (pe_non) (nomark _)) (pe_ix (ixT K rfl) (pv 1) (pv 5) (fun _ _ => rfl)) (pe_callB (call_max2 rfl) (by rfl) B.max (by decide +kernel) (pa_cons (pe_ix (ixT K rfl) (pv 1) (pv 5) (fun _ _ => rfl)) (pa_cons (pe_op op_sub (pv 3) (pv 6)) pa_nil)))) pa_nil))))))
      (pss_one (ps_ret (pe_callTy (tupleOf K rfl) (by rfl) B.tuple (by decide +kernel) (pa_cons (pv 4) pa_nil))))), ?_⟩
  have hz : 8 < sizeLine := by decide
  walk_at "rd"
  refine ⟨Nat.zero_le _, fun l hl => ?_⟩
  walk_at "rd"
  have s0 := same_upd (o := .lst []) hl
  refine ⟨_, .inr (sqt_same s0 hc), ?_⟩
  rw [List.length_map]
  refine ⟨by omega, by omega, ?_⟩
  walk_at "rd"
  refine forRange (fun i σ H' => ∃ x5 x6, σ = [some (.ref t), some (.ref c), some (.int b), some (.int p), some (.ref l), x5, x6] ∧ Same H H' ∧ H' l = some (.lst (((moveD d xs b p).take i).map V.int)))
    ⟨_, _, rfl, s0, upd_same⟩ (fun i σ H' hi hPv => ?_) (fun σ H' hPv => ?_)
  · obtain ⟨x5, x6, rfl, e, hL⟩ := hPv
    have tT := ht.mono e
    obtain ⟨a, ha, ham, hrow⟩ := tT.get hb
    have hlen : (((moveD d xs b p).take i).map V.int).length < sizeLine := by
      rw [List.length_map, List.length_take, moveD_len]
      omega
    have hnext : ((moveD d xs b p).take i).map V.int ++ [V.int (mv1 (d b i) (xs.getD i 0) p)] = ((moveD d xs b p).take (i + 1)).map V.int := by
      rw [List.take_add_one, moveD_at d xs b p hi, List.map_append]
      rfl
    have fin : ∀ y, y = mv1 (d b i) (xs.getD i 0) p → Same H (upd H' l (.lst (((moveD d xs b p).take i).map V.int ++ [V.int y]))) ∧
        (upd H' l (.lst (((moveD d xs b p).take i).map V.int ++ [V.int y]))) l = some (.lst (((moveD d xs b p).take (i + 1)).map V.int)) := by
      rintro y rfl
      refine ⟨fun z o hz' => ?_, by rw [upd_same, hnext]⟩
      rw [upd_ne (ne_of_none hz' hl)]
      exact e z o hz'
    walk_at "rd"
    refine ⟨t, _, _, _, rfl, rfl, .of tT.top, atI_nat ham, a, _, _, _, rfl, rfl, .of hrow, atI_nat (rowV_at d b (by omega)), ?_⟩
    walk_at "rd"
    refine ⟨.inl ⟨rfl, _, .of hL⟩, ?_⟩
    cases hd : d b i with
    | none =>
      simp only [ovV, decide_true, ite_true]
      refine ⟨c, _, i, _, rfl, rfl, sqt_same e hc, atI_nat (at_ints hi), l, _, _, rfl, rfl, hL, hlen, ?_⟩
      obtain ⟨f1, f2⟩ := fin (xs.getD i 0) (by rw [hd]; rfl)
      exact ⟨_, _, ⟨rfl, rfl⟩, f1, f2⟩
    | some m =>
      simp only [ovV, reduceCtorEq, decide_false, Bool.false_eq_true, ite_false]
      refine ⟨c, _, i, _, rfl, rfl, sqt_same e hc, atI_nat (at_ints hi), ?_⟩
      walk_at "rd"
      refine ⟨_, _, ⟨rfl, rfl⟩, l, _, _, rfl, rfl, hL, hlen, ?_⟩
      obtain ⟨f1, f2⟩ := fin _ (show (if p - m > xs.getD i 0 then p - m else xs.getD i 0) = _ by rw [hd]; rfl)
      exact ⟨_, _, ⟨rfl, rfl⟩, f1, f2⟩
  · obtain ⟨x5, x6, rfl, e, hL⟩ := hPv
    rw [List.take_of_length_le (by rw [moveD_len]; exact Nat.le_refl _)] at hL
    walk_at "rd"
    refine ⟨_, .inl ⟨.of hL, fun a ha => ?_⟩⟩
    exact q _ a (e.trans (same_upd ha)) (e.free ha) upd_same
end
end Hx

set_option Elab.async false
set_option linter.all false
set_option maxRecDepth 100000
set_option maxHeartbeats 4000000
namespace Hx
open PySem PySem.Spec PyProof.Rows L2
local macro_rules | `(tactic| walk_at "rd") => `(tactic| (try simp only [q_var, q_c, q_op, q_un, q_rI, q_rI0, q_rU, q_rEq, q_rNe, q_test, q_tB, q_and, q_or, q_not, q_andV, q_orV, q_notV, q_if, q_isN, q_notN, q_chain, q_next, q_seq, q_break, q_cont, q_drop, q_ret, q_retN, q_ifS, q_never, q_gN, q_gNil, q_gCons, q_gTup, q_gSub, q_asg, q_par, q_aug, q_nil, q_cons, q_tup, q_lst, q_call, q_cb, q_noPart, q_part, q_sl, q_bm0, q_bm, q_yes, q_for, q_lc, q_iList, q_iTup, q_iRng1, q_iEnumT, q_iEnum, q_iRng2, q_iZipA, q_iZipM, q_ipI, q_ckw, q_len, q_listOf, q_tupleOf, L2.start, cx_K, wipe, List.map_cons, List.map_nil, List.length_cons, List.length_nil, List.cons_append, List.nil_append, List.append_nil, List.replicate, List.getElem?_cons_zero, List.getElem?_cons_succ, List.set_cons_zero, List.set_cons_succ, Option.some.injEq, List.cons.injEq, exists_eq_left', exists_eq_left, exists_and_left, V.int.injEq, V.bl.injEq, V.ref.injEq, if_true, if_false, Bool.not_true, Bool.not_false, true_and, and_true, Bool.false_eq_true, ite_true, ite_false, Nat.reduceAdd, Nat.reduceSub, reduceCtorEq, decide_false, decide_true, Int.toNat_natCast, false_and, exists_false, or_false, false_or]))
section
variable {P : Program} {w : World} {K : PySem.W.Frag} {mg : Str → Option Value} {base : Heap}
theorem TabAt.but {H H' : Hp} {a t : Addr} {as : List Addr} {n : Nat} {d : Tab} (h : TabAt H t as n d) (e : But a H H') (n1 : t ≠ a) (n2 : a ∉ as) : TabAt H' t as n d :=
  ⟨e _ _ n1 h.top, h.len, h.nd, h.nt, fun i b hb => e _ _ (fun z => n2 (by rw [← z]; exact List.mem_of_getElem? hb)) (h.row i b hb)⟩
theorem HaulV.but {H H' : Hp} {a : Addr} {ys : List V} {v : V} {h : Nat × Int} (k : HaulV K H v h) (e : But a H H') (ha : H a = some (.lst ys)) : HaulV K H' v h := by
  obtain ⟨c, rfl, k⟩ := k
  exact ⟨c, rfl, sqt_but e ha k⟩
theorem natV_ints (ks : List Nat) : natV ks = (ks.map fun (k : Nat) => (k : Int)).map V.int := by
  unfold natV
  rw [List.map_map]
  rfl
/-- cur is within the law's bounds -/
def Bnd (n : Nat) (pl : Nat → Int) (xs : List Int) (M : Int) : Prop := ∀ i, i < n → -4 ≤ gd xs i ∧ gd xs i ≤ pl i + M
theorem Bnd.range {n : Nat} {rs : List Rope} {pl : Nat → Int} {xs : List Int} {M : Int} (h : Bnd n pl xs M) (hp : Pl n rs pl) (hl : xs.length = n) (hM : M ≤ 5000) : InRange xs := fun x hx => by
  obtain ⟨i, hi, rfl⟩ := List.getElem_of_mem hx
  have h1 := h i (by omega)
  have h2 := hp.hi i
  unfold gd at h1
  rw [List.getD_eq_getElem?_getD, List.getElem?_eq_getElem hi] at h1
  simp only [Option.getD_some] at h1
  omega
theorem Bnd.move {n : Nat} {rs : List Rope} {pl : Nat → Int} {xs : List Int} {M p : Int} (h : Bnd n pl xs M) (hp : Pl n rs pl) (hl : xs.length = n) {b : Nat} (hb : b < n) (h1 : gd xs b ≤ p) (h2 : p ≤ gd xs b + 39) : Bnd n pl (moveD (chainTab n rs) xs b p) (M + 39) := fun i hi => by
  refine ⟨Int.le_trans (h i hi).1 (move_ge _ _ _ _ (by omega)), ?_⟩
  exact move_least (y := fun i => pl i + (M + 39)) hl (hp.up _) (fun j hj => by
    have := (h j hj).2
    show gd xs j ≤ pl j + (M + 39)
    omega) (by
    have := (h b hb).2
    show p ≤ pl b + (M + 39)
    omega) i hi
/-- hauls at refs -/
def HaulsX (K : PySem.W.Frag) (H : Hp) (xs : List V) (hs : List (Nat × Int)) : Prop := xs.length = hs.length ∧ ∀ (i : Nat) x, xs[i]? = some x → ∃ h, hs[i]? = some h ∧ HaulV K H x h
theorem HaulsX.same {H H' : Hp} {xs : List V} {hs : List (Nat × Int)} (h : HaulsX K H xs hs) (e : Same H H') : HaulsX K H' xs hs :=
  ⟨h.1, fun i x hx => let ⟨k, k1, k2⟩ := h.2 i x hx; ⟨k, k1, k2.mono e⟩⟩
theorem HaulsX.but {H H' : Hp} {a : Addr} {ys xs : List V} {hs : List (Nat × Int)} (h : HaulsX K H xs hs) (e : But a H H') (ha : H a = some (.lst ys)) : HaulsX K H' xs hs :=
  ⟨h.1, fun i x hx => let ⟨k, k1, k2⟩ := h.2 i x hx; ⟨k, k1, k2.but e ha⟩⟩
theorem HaulsX.snoc {H : Hp} {xs : List V} {hs : List (Nat × Int)} {v : V} {r : Nat × Int} (h : HaulsX K H xs hs) (k : HaulV K H v r) : HaulsX K H (xs ++ [v]) (hs ++ [r]) := by
  refine ⟨by rw [List.length_append, List.length_append, h.1]; rfl, fun i x hx => ?_⟩
  by_cases hi : i < xs.length
  · rw [List.getElem?_append_left hi] at hx
    obtain ⟨u, hu, ku⟩ := h.2 i x hx
    exact ⟨u, by rw [List.getElem?_append_left (by rw [← h.1]; exact hi)]; exact hu, ku⟩
  · rw [List.getElem?_append_right (by omega)] at hx
    have e : i - xs.length = 0 := by
      cases hz : i - xs.length with
      | zero => rfl
      | succ k =>
        rw [hz] at hx
        cases hx
    rw [e] at hx
    cases hx
    refine ⟨r, ?_, k⟩
    rw [List.getElem?_append_right (by rw [← h.1]; omega), ← h.1, e]
    rfl
/-- the state of the loop that hauls -/
structure HS (K : PySem.W.Frag) (a sc : Addr) (ns : List Int) (v : V) (t : Addr) (as : List Addr) (u : V) (n : Nat) (rs : List Rope) (xs : List Int) (L : Addr) (H : Hp) (c : V) (hX : List V) (hs : List (Nat × Int)) : Prop where
  row : RowAt K H a sc ns
  fleet : FleetV K H v n rs
  tab : TabAt H t as n (chainTab n rs)
  start : IntsT K H u xs
  cur : IntsT K H c (runD (chainTab n rs) xs hs)
  lst : H L = some (.lst hX)
  hx : HaulsX K H hX hs
section
variable {a sc t L : Addr} {ns : List Int} {v u c : V} {as : List Addr} {n : Nat} {rs : List Rope} {xs : List Int} {H H' H0 : Hp} {hX : List V} {hs : List (Nat × Int)}
theorem HS.call (h : HS K a sc ns v t as u n rs xs L H c hX hs) (nta : t ≠ a) (naa : a ∉ as) (nL : L ≠ a) (r : RowAt K H' a sc ns) (b : But a H H') : HS K a sc ns v t as u n rs xs L H' c hX hs := by
  obtain ⟨_, k⟩ := h.row.lst
  exact ⟨r, h.fleet.but b k, h.tab.but b nta naa, h.start.but b k, h.cur.but b k, b _ _ nL h.lst, h.hx.but b k⟩
theorem HS.new (h : HS K a sc ns v t as u n rs xs L H c hX hs) (e : Same H H') : HS K a sc ns v t as u n rs xs L H' c hX hs :=
  ⟨h.row.mono e, h.fleet.mono e, h.tab.mono e, h.start.mono e, h.cur.mono e, e _ _ h.lst, h.hx.same e⟩
theorem HS.app (h : HS K a sc ns v t as u n rs xs L H c hX hs) (h0 : H0 L = none) (r0 : RowAt K H0 a sc ns) (t0 : TabAt H0 t as n (chainTab n rs)) (b0 : But a H0 H) {y c' : V} {r : Nat × Int} (hy : HaulV K H y r) (hc : IntsT K H c' (runD (chainTab n rs) xs (hs ++ [r]))) :
    HS K a sc ns v t as u n rs xs L (upd H L (.lst (hX ++ [y]))) c' (hX ++ [y]) (hs ++ [r]) := by
  have b : But L H (upd H L (.lst (hX ++ [y]))) := but_upd
  refine ⟨r0.put h0 b0 h.row, h.fleet.but b h.lst, h.tab.but b (ne_of_none t0.top h0) (fun m => ?_), h.start.but b h.lst, hc.but b h.lst, upd_same, (h.hx.but b h.lst).snoc (hy.but b h.lst)⟩
  obtain ⟨i, hi, e⟩ := List.getElem_of_mem m
  have := t0.row i L (by rw [List.getElem?_eq_getElem hi, e])
  rw [h0] at this
  cases this
end
def s_law_is_hauled : Stmt := topS 48
abbrev n_law_is_hauled : List Str := ["_law_row", "_law_fleet_here", "_law_lengths", "_law_start_here", "_law_here", "_law_hauls", "_law_distance", "_law_turn", "_law_barge", "_law_position", "_law_there", "_law_due", "_law_other"]
abbrev p_law_is_hauled : List Str := ["_law_row", "_law_fleet_here", "_law_lengths", "_law_start_here"]
theorem sc_law_is_hauled : FnScope n_law_is_hauled p_law_is_hauled (defScope s_law_is_hauled) := ⟨rfl, rfl, rfl, by decide +kernel, rfl, by decide +kernel, by decide +kernel⟩
def sp_law_is_hauled (K : PySem.W.Frag) : Sp := fun vs H Q _ => ∃ (a sc : Addr) (ns : List Int) (v : V) (t : Addr) (as : List Addr) (u : V) (n : Nat) (rs : List Rope) (pl : Nat → Int) (xs : List Int), vs = [.ref a, v, .ref t, u] ∧ RowAt K H a sc ns ∧ FleetV K H v n rs ∧ FleetOk n rs ∧ Pl n rs pl ∧
  TabAt H t as n (chainTab n rs) ∧ t ≠ a ∧ a ∉ as ∧ IntsT K H u xs ∧ xs.length = n ∧ Valid xs rs ∧ Bnd n pl xs 203 ∧ ∀ H', RowAt K H' a sc ns → But a H H' → Q (.bl true) H'
theorem df_law_is_hauled (T : Here K mg "_law_is_hauled" s_law_is_hauled) (B : Blt mg) (D_law_taken : Df P w K mg base CX0 "_law_taken" 1 p_law_taken (sp_law_taken K)) (D_law_dragged : Df P w K mg base CX0 "_law_dragged" 1 p_law_dragged (sp_law_dragged K))
    (D_haul : Df P w K mg base CX0 "haul" 7 p_haul (sp_haul K)) (D_dragged_barges : Df P w K mg base CX0 "dragged_barges" 8 p_dragged_barges (sp_dragged_barges K)) (D_haul_all : Df P w K mg base CX0 "haul_all" 6 p_haul_all (sp_haul_all K)) (D_total_distance : Df P w K mg base CX0 "total_distance" 6 p_total_distance (sp_total_distance K)) :
    Df P w K mg base CX0 "_law_is_hauled" 9 p_law_is_hauled (sp_law_is_hauled K) := by
  refine T.df sc_law_is_hauled (fun _ _ _ _ _ _ us hl => match us, hl with | [_, _, _, _], _ => rfl) (fun vs H Q E h => by obtain ⟨_, _, _, _, _, _, _, _, _, _, _, rfl, _⟩ := h; rfl) (fun f cdv A outer s H vs Q E hr h => ?_)
  obtain ⟨a, sc, ns, v, t, as, u, n, rs, pl, xs, rfl, hrow, hv, hok, hpl, ht, nta, naa, hu, hn, hva, hbd, q⟩ := h
  refine ⟨_, pss_cons (ps_asg (pe_tup (pa_cons (pv 3) (pa_cons (pe_lst (pa_nil)) (pa_cons (pe_int) pa_nil)))) (pgTup K rfl (n := 3) rfl (pgs_cons (pg_name (i := 4) sc_law_is_hauled.nd rfl (by first | exact Or.inl rfl | exact Or.inr rfl)) (pgs_cons (pg_name (i := 5) sc_law_is_hauled.nd rfl (by first | exact Or.inl rfl | exact Or.inr rfl)) (pgs_cons (pg_name (i := 6) sc_law_is_hauled.nd rfl (by first | exact Or.inl rfl | exact Or.inr rfl)) pgs_nil)))))
      (pss_cons (ps_for PassesOwn.never rfl (pi_range1 (by rfl) B.range (pa_cons (pe_int) pa_nil)) (pg_name (i := 7) sc_law_is_hauled.nd rfl (by first | exact Or.inl rfl | exact Or.inr rfl)) (pss_cons (ps_set (i := 8) sc_law_is_hauled.nd rfl (by first | exact Or.inl rfl | exact Or.inr rfl) (D_law_taken.call (hr.mono (by decide)) (by rfl) (pa_cons (pv 0) (pa_cons (pe_ix (ixT K rfl) (pv 1) (pe_int) (fun _ _ => rfl)) pa_nil))))
      (pss_cons (ps_set (i := 9) sc_law_is_hauled.nd rfl (by first | exact Or.inl rfl | exact Or.inr rfl) (pe_op op_add (pe_ix (ixT K rfl) (pv 4) (pv 8) (fun _ _ => rfl)) (D_law_taken.call (hr.mono (by decide)) (by rfl) (pa_cons (pv 0) (pa_cons (pe_ix (ixL K rfl) (pe_lst (pa_cons (pe_int) (pa_cons (pe_int) pa_nil))) (D_law_taken.call (hr.mono (by decide)) (by rfl) (pa_cons (pv 0) (pa_cons (pe_int) pa_nil))) (fun _ _ => rfl)) pa_nil)))))
      (pss_cons (ps_set (i := 10) sc_law_is_hauled.nd rfl (by first | exact Or.inl rfl | exact Or.inr rfl) (D_law_dragged.call (hr.mono (by decide)) (by rfl) (pa_cons (pv 2) (pa_cons (pv 4) (pa_cons (pv 8) (pa_cons (pv 9) pa_nil))))))
      (pss_cons (ps_if (pt_cmpR (neD K rfl hr.units) (D_haul.call (hr.mono (by decide)) (by rfl) (pa_cons (pv 1) (pa_cons (pv 4) (pa_cons (pv 8) (pa_cons (pv 9) pa_nil))))) (pv 10) (nomark _)) (pss_one (ps_ret (pe_bl))) (pss_nil))
      (pss_cons (ps_setLc (i := 11) (own := [("_law_other", 12)]) rfl sc_law_is_hauled.nd rfl rfl (sw_true rfl rfl rfl (by decide +kernel)) (pi_range1 (by rfl) B.range (pa_cons (pe_ix (ixT K rfl) (pv 1) (pe_int) (fun _ _ => rfl)) pa_nil)) (blkOk_by (N := n_law_is_hauled) (sc := defScope s_law_is_hauled) (by decide +kernel)) (fun _ _ _ _ _ => pg_name (i := 12) sc_law_is_hauled.nd rfl (by first | exact Or.inl rfl | exact Or.inr rfl)) (fun _ _ _ _ _ => pts_one (PW.pt (pw_and (pt_cmpR op_ne (pe_ix (ixT K rfl) (pv 10) (pv 12) (fun _ _ => rfl)) (pe_ix (ixT K rfl) (pv 4) (pv 12) (fun _ _ => rfl)) (nomark _)) (pw_and1 (pt_cmpR op_ne (pv 12) (pv 8) (nomark _)))))) (fun _ _ _ _ _ => pv 12))
      (pss_cons (ps_if (pt_cmpR (neD K rfl hr.units) (D_dragged_barges.call (hr.mono (by decide)) (by rfl) (pa_cons (pv 1) (pa_cons (pv 4) (pa_cons (pv 8) (pa_cons (pv 9) pa_nil))))) (pv 11) (nomark _)) (pss_one (ps_ret (pe_bl))) (pss_nil))
      (pss_cons (ps_set (i := 6) sc_law_is_hauled.nd rfl (by first | exact Or.inl rfl | exact Or.inr rfl) (pe_op op_sub (pe_op op_add (pv 6) (pv 9)) (pe_ix (ixT K rfl) (pv 4) (pv 8) (fun _ _ => rfl))))
      (pss_cons (ps_expr (pe_bm PySem.F.plainAttrs_list PySem.F.slot_list_append PySem.F.type_list_append mt_append (pv 5) (pa_cons (pe_tup (pa_cons (pv 8) (pa_cons (pv 9) pa_nil))) pa_nil)))
      (pss_one (ps_set (i := 4) sc_law_is_hauled.nd rfl (by first | exact Or.inl rfl | exact Or.inr rfl) (pv 10))))))))))))
      (pss_one (ps_ret (pe_and (pe_cmpR (eqD K rfl hr.units) (D_haul_all.call (hr.mono (by decide)) (by rfl) (pa_cons (pv 1) (pa_cons (pv 3) (pa_cons (pv 5) pa_nil)))) (pv 4) (nomark _)) (pe_one (pe_cmpR op_eq (D_total_distance.call (hr.mono (by decide)) (by rfl) (pa_cons (pv 1) (pa_cons (pv 3) (pa_cons (pv 5) pa_nil)))) (pv 6) (nomark _))))))), ?_⟩
  have hz : 100 ≤ sizeLine := by decide
  have n8 : n ≤ 8 := by have := hok.2.1; omega
  have F := Fit.of hok.2.2.2 hpl.holds
  walk_at "rd"
  refine ⟨Nat.zero_le _, fun L hL => ⟨by show 3 ≤ sizeLine; omega, fun p3 hp3 => ⟨_, .of upd_same, rfl, ?_⟩⟩⟩
  have nLa := hrow.ne hL
  have s1 := same_upd (o := .lst []) hL
  have s2 := same_upd (o := .tup [u, .ref L, .int 0]) hp3
  have S0 : HS K a sc ns v t as u n rs xs L (upd H L (.lst [])) u [] [] := ⟨hrow.mono s1, hv.mono s1, ht.mono s1, hu.mono s1, hu.mono s1, upd_same, rfl, fun i x h => (by cases h)⟩
  have S0 := S0.new s2
  have b0 : But a H _ := same_but (s1.trans s2)
  walk_at "rd"
  have e3 : (3 : Int).toNat = 3 := rfl
  rw [e3]
  refine ⟨by omega, by omega, ?_⟩
  refine forRange (fun k σ H' => ∃ c x7 x8 x9 x10 x11 x12 hX hs, σ = [some (.ref a), some v, some (.ref t), some u, some c, some (.ref L), some (.int (wayD (chainTab n rs) xs hs)), x7, x8, x9, x10, x11, x12] ∧ hs.length = k ∧
      HS K a sc ns v t as u n rs xs L H' c hX hs ∧ But a H H' ∧ HaulsOk (chainTab n rs) xs hs ∧ Valid (runD (chainTab n rs) xs hs) rs ∧ Bnd n pl (runD (chainTab n rs) xs hs) (203 + 39 * k)) ⟨u, _, _, _, _, _, _, [], [], rfl, rfl, S0, b0, trivial, hva, by
        intro i hi
        have := hbd i hi
        exact ⟨this.1, by have := this.2; show gd xs i ≤ pl i + (203 + 39 * ((0 : Nat) : Int)); omega⟩⟩ (fun k σ H' hk hPv => ?_) (fun σ H' hPv => ?_)
  · obtain ⟨c, x7, x8, x9, x10, x11, x12, hX, hs, rfl, hlen, S, b1, hso, hvk, hbk⟩ := hPv
    have lc : (runD (chainTab n rs) xs hs).length = n := by rw [runD_len, hn]
    obtain ⟨fa, fb, fx, rfl, hfa, hfb⟩ := S.fleet
    walk_at "rd"
    refine ⟨fa, _, 0, _, rfl, rfl, hfa, atI_nat (j := 0) rfl, ?_⟩
    refine ⟨a, sc, ns, n, rfl, S.row, by have := hok.1; omega, by omega, fun bb H1 bb0 bb1 row1 b => ?_⟩
    obtain ⟨bb, rfl⟩ := nat_at bb0
    have S := S.call nta naa nLa row1 b
    have b1 := b1.trans b
    have hbb : bb < n := by omega
    obtain ⟨cc, rfl, hcc⟩ := S.cur
    walk_at "rd"
    refine ⟨cc, _, bb, _, rfl, rfl, hcc, atI_nat (at_ints (by omega)), by show 2 ≤ sizeLine; omega, fun l2 hl2 => ?_⟩
    have n2 := S.row.ne hl2
    have e2 := same_upd (o := .lst [.int 3, .int 40]) hl2
    have S := S.new e2
    have b1 := b1.trans (same_but e2)
    refine ⟨a, sc, ns, 2, rfl, S.row, by omega, by omega, fun r1 H2 r10 r11 row2 b => ?_⟩
    have S := S.call nta naa nLa row2 b
    have b1 := b1.trans b
    have h2 := b _ _ n2 (upd_same (H := H1) (a := l2) (o := .lst [.int 3, .int 40]))
    obtain ⟨st, hst, hst2⟩ : ∃ st : Int, atI [V.int 3, .int 40] r1 = some (.int st) ∧ 3 ≤ st ∧ st ≤ 40 := by
      have : r1 = 0 ∨ r1 = 1 := by omega
      rcases this with rfl | rfl
      · exact ⟨3, rfl, by omega, by omega⟩
      · exact ⟨40, rfl, by omega, by omega⟩
    refine ⟨l2, _, r1, .int st, rfl, rfl, .of h2, hst, ?_⟩
    refine ⟨a, sc, ns, st, rfl, S.row, by omega, by omega, fun r2 H3 r20 r21 row3 b => ?_⟩
    have S := S.call nta naa nLa row3 b
    have b1 := b1.trans b
    obtain ⟨p, hp, hp1, hp2⟩ : ∃ p : Int, (runD (chainTab n rs) xs hs).getD bb 0 + r2 = p ∧ (runD (chainTab n rs) xs hs).getD bb 0 ≤ p ∧ p ≤ (runD (chainTab n rs) xs hs).getD bb 0 + 39 := ⟨_, rfl, by omega, by omega⟩
    walk_at "rd"
    rw [hp]
    have hp9 : p ≤ 9999 := by
      have h1 : (runD (chainTab n rs) xs hs).getD bb 0 ≤ _ := (hbk bb hbb).2
      have h2 := hpl.hi bb
      have h3 : (k : Int) ≤ 3 := by omega
      omega
    have W : WayOk n rs (runD (chainTab n rs) xs hs) := ⟨hok, lc, hbk.range hpl lc (by omega), hvk⟩
    refine ⟨t, as, n, _, .ref cc, _, bb, p, rfl, S.tab, S.cur, lc, hbb, n8, fun H4 tt s4 _ htt => ?_⟩
    have S := S.new s4
    have b1 := b1.trans (same_but s4)
    have hth : IntsT K H4 (.ref tt) (moveD (chainTab n rs) (runD (chainTab n rs) xs hs) bb p) := ⟨tt, rfl, .of htt⟩
    walk_at "rd"
    refine ⟨_, .ref cc, n, rs, _, bb, p, rfl, S.fleet, S.cur, W, hbb, hp1, hp9, fun H5 hh s5 hhh => ?_⟩
    have S := S.new s5
    have b1 := b1.trans (same_but s5)
    have hth := hth.mono s5
    obtain ⟨ha1, rfl, hh1⟩ := hhh
    obtain ⟨ha2, hha2, hh2⟩ := id hth
    cases hha2
    refine ne_same (dp_ints_t hh1) (dp_ints_t hh2) (shaped_opts_t _) ?_
    obtain ⟨fa', fb', fx', efa, hfa', hfb'⟩ := id S.fleet
    cases efa
    obtain ⟨cc', ecc, hcc'⟩ := id S.cur
    cases ecc
    walk_at "rd"
    refine ⟨fa, _, 0, _, rfl, rfl, hfa', atI_nat (j := 0) rfl, ?_⟩
    walk_at "rd"
    refine ⟨by omega, by omega, fun D hD => ?_⟩
    have nDa := S.row.ne hD
    generalize hys : moveD (chainTab n rs) (runD (chainTab n rs) xs hs) bb p = ys at hth hh2 hh1
    have ly : ys.length = n := by rw [← hys, moveD_len, lc]
    refine lcRange (fun i H' => Same H5 H' ∧ H' D = some (.lst (natV (dragD (runD (chainTab n rs) xs hs) ys bb i)))) ⟨same_upd hD, upd_same⟩ (fun i H' hi hPv => ?_) (fun H6 hPv => ?_)
    · obtain ⟨e, hLi⟩ := hPv
      have hlen2 : (natV (dragD (runD (chainTab n rs) xs hs) ys bb i)).length < sizeLine := by
        have := dragD_le (runD (chainTab n rs) xs hs) ys bb i
        unfold natV
        rw [List.length_map]
        omega
      walk_at "rd"
      refine ⟨tt, _, i, _, rfl, rfl, sqt_same e hh2, atI_nat (at_ints (by omega)), cc, _, i, _, rfl, rfl, sqt_same e hcc', atI_nat (at_ints (by omega)), ?_⟩
      walk_at "rd"
      refine ⟨rfl, ?_⟩
      by_cases hd : ys.getD i 0 = (runD (chainTab n rs) xs hs).getD i 0
      · simp only [hd, decide_true, Bool.not_true, Bool.false_eq_true, if_false, dragD_succ]
        simp only [ne_eq, not_true_eq_false, and_false, if_false, List.append_nil]
        exact ⟨e, hLi⟩
      · simp only [hd, decide_false, Bool.not_false, if_true]
        refine ⟨rfl, ?_⟩
        by_cases hib : i = bb
        · subst hib
          simp only [dragD_succ]
          simp only [ne_eq, not_true_eq_false, false_and, if_false, List.append_nil, decide_true, Bool.not_true, Bool.false_eq_true]
          exact ⟨e, hLi⟩
        · have hib' : ¬ (i : Int) = (bb : Int) := by omega
          simp only [hib', decide_false, Bool.not_false, if_true, dragD_succ]
          simp only [ne_eq, hib, not_false_eq_true, hd, and_self, if_true]
          refine ⟨_, hLi, hlen2, ?_⟩
          have e2 : natV (dragD (runD (chainTab n rs) xs hs) ys bb i ++ [i]) = natV (dragD (runD (chainTab n rs) xs hs) ys bb i) ++ [V.int (i : Int)] := by
            unfold natV
            rw [List.map_append]
            rfl
          rw [← e2]
          exact ⟨fun z o hz' => by rw [upd_ne (ne_of_none hz' hD)]; exact e z o hz', upd_same⟩
    · obtain ⟨e, hLi⟩ := hPv
      have S := S.new e
      have b1 := b1.trans (same_but e)
      have hth := hth.mono e
      walk_at "rd"
      refine ⟨_, .ref cc, n, rs, _, bb, p, rfl, S.fleet, S.cur, W, hbb, hp1, hp9, fun H7 rr s7 _ hrr => ?_⟩
      rw [hys] at hrr
      have S := S.new s7
      have b1 := b1.trans (same_but s7)
      have hth := hth.mono s7
      have hLi := s7 _ _ hLi
      rw [natV_ints] at hLi hrr
      refine ne_same (dp_ints_l (.of hrr)) (dp_ints_l (.of hLi)) (shaped_opts_l _) ?_
      obtain ⟨cc2, ecc2, hcc2⟩ := id S.cur
      cases ecc2
      walk_at "rd"
      refine ⟨cc, _, bb, _, rfl, rfl, hcc2, atI_nat (at_ints (by omega)), ?_⟩
      walk_at "rd"
      refine ⟨.inl ⟨rfl, _, .of S.lst⟩, by show 2 ≤ sizeLine; omega, fun q1 hq1 => ?_⟩
      have s8 := same_upd (o := .tup [.int bb, .int p]) hq1
      have S := S.new s8
      have b1 := b1.trans (same_but s8)
      have hth := hth.mono s8
      refine ⟨L, _, _, rfl, rfl, S.lst, by rw [S.hx.1]; omega, ?_⟩
      have S := S.app hL hrow ht b1 (y := .ref q1) (r := (bb, p)) (c' := .ref tt) ⟨q1, rfl, .of upd_same⟩ (by rw [run_snoc, hys]; exact hth)
      have b1 := b1.put (o := .lst (hX ++ [.ref q1])) hL
      have hway : wayD (chainTab n rs) xs hs + p - (runD (chainTab n rs) xs hs).getD bb 0 = wayD (chainTab n rs) xs (hs ++ [(bb, p)]) := by
        rw [way_snoc]
        show wayD (chainTab n rs) xs hs + p - (runD (chainTab n rs) xs hs).getD bb 0 = wayD (chainTab n rs) xs hs + (p - (runD (chainTab n rs) xs hs).getD bb 0)
        omega
      refine ⟨.ref tt, _, _, _, _, _, _, hX ++ [.ref q1], hs ++ [(bb, p)], ⟨rfl, hway, rfl, rfl, rfl, rfl, rfl, rfl⟩, by rw [List.length_append, hlen]; rfl, S, b1, ?_, ?_, ?_⟩
      · exact (ok_snoc _ _ _ _).mpr ⟨hso, by rw [runD_len, hn]; exact hbb, hp1, hp9⟩
      · rw [run_snoc]
        exact move_valid F lc hvk hbb p
      · rw [run_snoc]
        have := hbk.move hpl lc hbb hp1 hp2
        intro i hi
        have := this i hi
        refine ⟨this.1, Int.le_trans this.2 ?_⟩
        omega
  · obtain ⟨c, x7, x8, x9, x10, x11, x12, hX, hs, rfl, hlen, S, b1, hso, hvk, hbk⟩ := hPv
    obtain ⟨c1, rfl, hc1⟩ := id S.cur
    obtain ⟨fa, fb, fx, rfl, hfa, hfb⟩ := id S.fleet
    have W : WayOk n rs xs := ⟨hok, hn, hbd.range hpl hn (by omega), hva⟩
    have hHL : HaulsL K H' L hs := ⟨hX, .of S.lst, S.hx.1, S.hx.2⟩
    walk_at "rd"
    refine ⟨_, u, L, n, rs, xs, hs, rfl, S.fleet, S.start, W, hHL, by omega, hso, fun H1 rr s1 hrr => ?_⟩
    have S1 := S.new s1
    obtain ⟨q1, rfl, hq1⟩ := hrr
    obtain ⟨q2, eq2, hq2⟩ := id S1.cur
    cases eq2
    refine eq_same (dp_ints_t hq1) (dp_ints_t hq2) (shaped_opts_t _) ?_
    walk_at "rd"
    refine ⟨_, u, L, n, rs, xs, hs, rfl, S1.fleet, S1.start, W, hHL.mono s1, by omega, hso, fun H2 s2 => ?_⟩
    walk_at "rd"
    refine ⟨rfl, q _ (S1.row.mono s2) ((b1.trans (same_but s1)).trans (same_but s2))⟩
end
end Hx

set_option Elab.async false
set_option linter.all false
set_option maxRecDepth 100000
set_option maxHeartbeats 4000000
namespace Hx
open PySem PySem.Spec PyProof.Rows L2
local macro_rules | `(tactic| walk_at "rd") => `(tactic| (try simp only [q_var, q_c, q_op, q_un, q_rI, q_rI0, q_rU, q_rEq, q_rNe, q_test, q_tB, q_and, q_or, q_not, q_andV, q_orV, q_notV, q_if, q_isN, q_notN, q_chain, q_next, q_seq, q_break, q_cont, q_drop, q_ret, q_retN, q_ifS, q_never, q_gN, q_gNil, q_gCons, q_gTup, q_gSub, q_asg, q_par, q_aug, q_nil, q_cons, q_tup, q_lst, q_call, q_cb, q_noPart, q_part, q_sl, q_bm0, q_bm, q_yes, q_for, q_lc, q_iList, q_iTup, q_iRng1, q_iEnumT, q_iEnum, q_iRng2, q_iZipA, q_iZipM, q_ipI, q_ckw, q_len, q_listOf, q_tupleOf, L2.start, cx_K, wipe, List.map_cons, List.map_nil, List.length_cons, List.length_nil, List.cons_append, List.nil_append, List.append_nil, List.replicate, List.getElem?_cons_zero, List.getElem?_cons_succ, List.set_cons_zero, List.set_cons_succ, Option.some.injEq, List.cons.injEq, exists_eq_left', exists_eq_left, exists_and_left, V.int.injEq, V.bl.injEq, V.ref.injEq, if_true, if_false, Bool.not_true, Bool.not_false, true_and, and_true, Bool.false_eq_true, ite_true, ite_false, Nat.reduceAdd, Nat.reduceSub, reduceCtorEq, decide_false, decide_true, Int.toNat_natCast, false_and, exists_false, or_false, false_or]))
section
variable {P : Program} {w : World} {K : PySem.W.Frag} {mg : Str → Option Value} {base : Heap}
/-- the bounds that limits give a barge -/
def bnds (d : Tab) (ls : List (Option Int)) (b k : Nat) : List Int := (List.range k).filterMap fun i => match ls.getD i none, d b i with
  | some l, some x => some (l + x)
  | _, _ => none
def minO : List Int → Option Int
  | [] => none
  | n :: r => some (r.foldl min n)
def greatD (d : Tab) (ls : List (Option Int)) (b n : Nat) : Option Int := minO (bnds d ls b n)
theorem bnds_succ (d : Tab) (ls : List (Option Int)) (b k : Nat) : bnds d ls b (k + 1) = bnds d ls b k ++ (match ls.getD k none, d b k with | some l, some x => [l + x] | _, _ => []) := by
  unfold bnds
  rw [List.range_succ, List.filterMap_append]
  congr 1
  rw [List.filterMap_cons, List.filterMap_nil]
  cases ls.getD k none <;> cases d b k <;> rfl
theorem bnds_none1 {d : Tab} {ls : List (Option Int)} {b k : Nat} (h : ls.getD k none = none) : bnds d ls b (k + 1) = bnds d ls b k := by
  rw [bnds_succ, h]
  exact List.append_nil _
theorem bnds_none2 {d : Tab} {ls : List (Option Int)} {b k : Nat} (h : d b k = none) : bnds d ls b (k + 1) = bnds d ls b k := by
  rw [bnds_succ, h]
  cases ls.getD k none <;> exact List.append_nil _
theorem bnds_some {d : Tab} {ls : List (Option Int)} {b k : Nat} {l x : Int} (h : ls.getD k none = some l) (h2 : d b k = some x) : bnds d ls b (k + 1) = bnds d ls b k ++ [l + x] := by
  rw [bnds_succ, h, h2]
theorem bnds_len (d : Tab) (ls : List (Option Int)) (b k : Nat) : (bnds d ls b k).length ≤ k := by
  unfold bnds
  have := List.length_filterMap_le (fun i => match ls.getD i none, d b i with
    | some l, some x => some (l + x)
    | _, _ => none) (List.range k)
  rw [List.length_range] at this
  exact this
theorem foldmin_mem : ∀ (r : List Int) (n : Int), (r.foldl min n = n ∨ r.foldl min n ∈ r) ∧ r.foldl min n ≤ n ∧ ∀ x ∈ r, r.foldl min n ≤ x
  | [], n => ⟨.inl rfl, Int.le_refl n, fun x h => by cases h⟩
  | y :: r, n => by
    obtain ⟨h1, h2, h3⟩ := foldmin_mem r (min n y)
    show (r.foldl min (min n y) = n ∨ r.foldl min (min n y) ∈ y :: r) ∧ r.foldl min (min n y) ≤ n ∧ ∀ x ∈ y :: r, r.foldl min (min n y) ≤ x
    refine ⟨?_, by omega, fun x hx => ?_⟩
    · rcases h1 with e | e
      · by_cases h : n ≤ y
        · exact .inl (by omega)
        · exact .inr (List.mem_cons.mpr (.inl (by omega)))
      · exact .inr (List.mem_cons_of_mem _ e)
    · rcases List.mem_cons.mp hx with rfl | hx
      · omega
      · exact h3 x hx
theorem minO_is {ns : List Int} {m : Int} (h : m ∈ ns) (h2 : ∀ y ∈ ns, m ≤ y) : minO ns = some m := by
  cases ns with
  | nil => cases h
  | cons n r =>
    obtain ⟨k1, k2, k3⟩ := foldmin_mem r n
    have a : r.foldl min n ≤ m := by
      rcases List.mem_cons.mp h with rfl | h
      · exact k2
      · exact k3 m h
    have b : m ≤ r.foldl min n := by
      rcases k1 with e | e
      · rw [e]
        exact h2 n List.mem_cons_self
      · exact h2 _ (List.mem_cons_of_mem _ e)
    exact congrArg some (by omega)
def s_greatest_position : Stmt := topS 39
abbrev n_greatest_position : List Str := ["lengths", "limits", "bounds", "length", "limit"]
abbrev p_greatest_position : List Str := ["lengths", "limits"]
theorem sc_greatest_position : FnScope n_greatest_position p_greatest_position (defScope s_greatest_position) := ⟨rfl, rfl, rfl, by decide +kernel, rfl, by decide +kernel, by decide +kernel⟩
def sp_greatest_position (K : PySem.W.Frag) : Sp := fun vs H Q _ => ∃ (r : Addr) (u : V) (n : Nat) (d : Tab) (b : Nat) (ls : List (Option Int)), vs = [.ref r, u] ∧ H r = some (.lst (rowV n d b)) ∧ OptsT K H u ls ∧ ls.length = n ∧ n ≤ 8 ∧ ∀ H', Same H H' → Q (ovV (greatD d ls b n)) H'
theorem df_greatest_position (T : Here K mg "greatest_position" s_greatest_position) (B : Blt mg) : Df P w K mg base CX0 "greatest_position" 1 p_greatest_position (sp_greatest_position K) := by
  refine T.df sc_greatest_position (fun _ _ _ _ _ _ us hl => match us, hl with | [_, _], _ => rfl) (fun vs H Q E h => by obtain ⟨_, _, _, _, _, _, rfl, _⟩ := h; rfl) (fun f cdv A outer s H vs Q E hr h => ?_)
  obtain ⟨r, u, n, d, b, ls, rfl, hr0, ⟨c, rfl, hc⟩, hn, h8, q⟩ := h
  refine ⟨_, pss_cons (ps_set (i := 2) sc_greatest_position.nd rfl (by first | exact Or.inl rfl | exact Or.inr rfl) (pe_lst (pa_nil)))
      (pss_cons (ps_for PassesOwn.never rfl (piZipM K rfl (by rfl) B.zip (pa_cons (pv 0) (pa_cons (pv 1) pa_nil))) (pgTup K rfl (n := 2) rfl (pgs_cons (pg_name (i := 3) sc_greatest_position.nd rfl (by first | exact Or.inl rfl | exact Or.inr rfl)) (pgs_cons (pg_name (i := 4) sc_greatest_position.nd rfl (by first | exact Or.inl rfl | exact Or.inr rfl)) pgs_nil))) (pss_one (ps_if (PW.pt (pw_and (pt_cmpR op_notN (pv 3) (pe_non) (nomark _)) (pw_and1 (pt_cmpR op_notN (pv 4) (pe_non) (nomark _))))) (pss_one (ps_expr (pe_bm PySem.F.plainAttrs_list PySem.F.slot_list_append PySem.F.type_list_append mt_append (pv 2) (pa_cons (pe_op op_add (pv 4) (pv 3)) pa_nil)))) (pss_nil))))
      (pss_one (ps_ret (pe_callBK (minDQ K rfl rfl hr.units) (by rfl) B.min (by decide +kernel) (pa_cons (pv 2) pa_nil) (pk_cons (pe_non) pk_nil))))), ?_⟩
  have hz : 100 ≤ sizeLine := by decide
  walk_at "rd"
  refine ⟨Nat.zero_le _, fun L hL => ?_⟩
  have s0 := same_upd (o := .lst []) hL
  walk_at "rd"
  refine ⟨_, _, ⟨rfl, rfl⟩, rowV n d b, .of (s0 _ _ hr0), ls.map ovV, sqt_same s0 hc, ?_⟩
  have hl : (rowV n d b).length = (ls.map ovV).length := by rw [rowV_len, List.length_map, hn]
  refine forZipM hl (fun i σ H' => ∃ x3 x4, σ = [some (.ref r), some (.ref c), some (.ref L), x3, x4] ∧ Same H H' ∧ H' L = some (.lst ((bnds d ls b i).map V.int))) ⟨_, _, rfl, s0, upd_same⟩ (fun i σ H' _ hPv => ?_) (fun i x y T σ H' hx' hy' hPv hT => ?_) (fun σ H' hPv => ?_)
  · obtain ⟨_, _, _, e, _⟩ := hPv
    exact ⟨.of (e _ _ hr0), sqt_same e hc⟩
  · obtain ⟨x3, x4, rfl, e, hLi⟩ := hPv
    obtain ⟨hi, rfl⟩ := opts_at hy'
    have hi : i < n := by omega
    rw [rowV_at d b hi] at hx'
    cases Option.some.inj hx'
    have sT := same_upd (o := .tup [ovV (d b i), ovV (ls.getD i none)]) hT
    have eT := e.trans sT
    have hLT := sT _ _ hLi
    walk_at "rd"
    refine ⟨_, .of upd_same, rfl, ?_⟩
    walk_at "rd"
    cases hd : d b i with
    | none =>
      rw [bnds_none2 hd]
      simp only [hd] at eT hLT
      simp only [ovV, decide_true, Bool.not_true, Bool.false_eq_true, ite_false]
      exact ⟨_, _, ⟨rfl, rfl⟩, eT, hLT⟩
    | some x =>
      cases hlk : ls.getD i none with
      | none =>
        rw [bnds_none1 hlk]
        simp only [hd, hlk] at eT hLT
        simp only [ovV, reduceCtorEq, decide_false, decide_true, Bool.not_true, Bool.not_false, Bool.false_eq_true, ite_false, ite_true]
        exact ⟨_, _, ⟨rfl, rfl⟩, eT, hLT⟩
      | some y =>
        rw [bnds_some hlk hd]
        simp only [hd, hlk] at eT hLT
        simp only [ovV, reduceCtorEq, decide_false, Bool.not_false, ite_true]
        walk_at "rd"
        have hbl := bnds_len d ls b i
        refine ⟨.inl ⟨rfl, _, .of hLT⟩, L, _, _, rfl, rfl, hLT, by rw [List.length_map]; omega, ?_⟩
        refine ⟨_, _, ⟨rfl, rfl⟩, fun z o hz' => ?_, ?_⟩
        · rw [upd_ne (ne_of_none hz' hL)]
          exact eT z o hz'
        · rw [upd_same, List.map_append]
          rfl
  · obtain ⟨x3, x4, rfl, e, hLi⟩ := hPv
    rw [rowV_len] at hLi
    walk_at "rd"
    refine ⟨L, bnds d ls b n, rfl, rfl, .of hLi, fun h0 => ?_, fun m r h0 => ?_⟩
    · have := q _ e
      unfold greatD at this
      rw [h0] at this
      exact this
    · have := q _ e
      unfold greatD at this
      rw [h0] at this
      exact this
end
end Hx

set_option Elab.async false
set_option linter.all false
set_option maxRecDepth 100000
set_option maxHeartbeats 4000000
namespace Hx
open PySem PySem.Spec PyProof.Rows L2
local macro_rules | `(tactic| walk_at "rd") => `(tactic| (try simp only [q_var, q_c, q_op, q_un, q_rI, q_rI0, q_rU, q_rEq, q_rNe, q_test, q_tB, q_and, q_or, q_not, q_andV, q_orV, q_notV, q_if, q_isN, q_notN, q_chain, q_next, q_seq, q_break, q_cont, q_drop, q_ret, q_retN, q_ifS, q_never, q_gN, q_gNil, q_gCons, q_gTup, q_gSub, q_asg, q_par, q_aug, q_nil, q_cons, q_tup, q_lst, q_call, q_cb, q_noPart, q_part, q_sl, q_bm0, q_bm, q_yes, q_for, q_lc, q_iList, q_iTup, q_iRng1, q_iEnumT, q_iEnum, q_iRng2, q_iZipA, q_iZipM, q_ipI, q_ckw, q_len, q_listOf, q_tupleOf, L2.start, cx_K, wipe, List.map_cons, List.map_nil, List.length_cons, List.length_nil, List.cons_append, List.nil_append, List.append_nil, List.replicate, List.getElem?_cons_zero, List.getElem?_cons_succ, List.set_cons_zero, List.set_cons_succ, Option.some.injEq, List.cons.injEq, exists_eq_left', exists_eq_left, exists_and_left, V.int.injEq, V.bl.injEq, V.ref.injEq, if_true, if_false, Bool.not_true, Bool.not_false, true_and, and_true, Bool.false_eq_true, ite_true, ite_false, Nat.reduceAdd, Nat.reduceSub, reduceCtorEq, decide_false, decide_true, Int.toNat_natCast, false_and, exists_false, or_false, false_or]))
section
variable {P : Program} {w : World} {K : PySem.W.Frag} {mg : Str → Option Value} {base : Heap}
def greatL (d : Tab) (ls : List (Option Int)) (n : Nat) : List (Option Int) := (List.range n).map fun b => greatD d ls b n
theorem greatL_len (d : Tab) (ls : List (Option Int)) (n : Nat) : (greatL d ls n).length = n := by
  unfold greatL
  rw [List.length_map, List.length_range]
theorem greatL_at {d : Tab} {ls : List (Option Int)} {n i : Nat} (h : i < n) : (greatL d ls n)[i]? = some (greatD d ls i n) := by
  unfold greatL
  rw [List.getElem?_map, List.getElem?_range h]
  rfl
theorem greatL_next {d : Tab} {ls : List (Option Int)} {n i : Nat} (h : i < n) : ((greatL d ls n).take i).map ovV ++ [ovV (greatD d ls i n)] = ((greatL d ls n).take (i + 1)).map ovV := by
  rw [List.take_add_one, greatL_at h, List.map_append]
  rfl
def s_greatest_positions : Stmt := topS 34
abbrev n_greatest_positions : List Str := ["fleet", "limits", "table", "row"]
abbrev p_greatest_positions : List Str := ["fleet", "limits"]
theorem sc_greatest_positions : FnScope n_greatest_positions p_greatest_positions (defScope s_greatest_positions) := ⟨rfl, rfl, rfl, by decide +kernel, rfl, by decide +kernel, by decide +kernel⟩
def sp_greatest_positions (K : PySem.W.Frag) : Sp := fun vs H Q _ => ∃ (v u : V) (n : Nat) (rs : List Rope) (ls : List (Option Int)), vs = [v, u] ∧ FleetV K H v n rs ∧ FleetOk n rs ∧ Diag n (chainTab n rs) ∧ OptsT K H u ls ∧ ls.length = n ∧ OptOk ls ∧
  ∀ H' r, Same H H' → OptsT K H' r (greatL (chainTab n rs) ls n) → Q r H'
theorem df_greatest_positions (T : Here K mg "greatest_positions" s_greatest_positions) (B : Blt mg) (D_check_fleet : Df P w K mg base CX0 "check_fleet" 4 p_check_fleet (sp_check_fleet K)) (D_check_wishes : Df P w K mg base CX0 "check_wishes" 3 p_check_wishes (sp_check_wishes K))
    (D_chain_table : Df P w K mg base CX0 "chain_table" 2 p_chain_table (sp_chain_table K)) (D_check_table : Df P w K mg base CX0 "check_table" 1 p_check_table (sp_check_table K)) (D_greatest_position : Df P w K mg base CX0 "greatest_position" 1 p_greatest_position (sp_greatest_position K)) :
    Df P w K mg base CX0 "greatest_positions" 5 p_greatest_positions (sp_greatest_positions K) := by
  refine T.df sc_greatest_positions (fun _ _ _ _ _ _ us hl => match us, hl with | [_, _], _ => rfl) (fun vs H Q E h => by obtain ⟨_, _, _, _, _, rfl, _⟩ := h; rfl) (fun f cdv A outer s H vs Q E hr h => ?_)
  obtain ⟨v, u, n, rs, ls, rfl, hv, hok, hd, hu, hl, hlo, q⟩ := h
  refine ⟨_, pss_cons (ps_expr (D_check_fleet.call (hr.mono (by decide)) (by rfl) (pa_cons (pv 0) pa_nil)))
      (pss_cons (ps_expr (D_check_wishes.call (hr.mono (by decide)) (by rfl) (pa_cons (pv 0) (pa_cons (pv 1) pa_nil))))
      (pss_cons (ps_set (i := 2) sc_greatest_positions.nd rfl (by first | exact Or.inl rfl | exact Or.inr rfl) (D_chain_table.call (hr.mono (by decide)) (by rfl) (pa_cons (pv 0) pa_nil)))
      (pss_cons (ps_expr (D_check_table.call (hr.mono (by decide)) (by rfl) (pa_cons (pv 2) pa_nil)))
      (pss_one (ps_ret (pe_callTy (tupleOf K rfl) (by rfl) B.tuple (by decide +kernel) (pa_cons (pe_lc (own := [("row", 3)]) rfl sc_greatest_positions.nd (piList K rfl (pv 2)) (blkOk_by (N := n_greatest_positions) (sc := defScope s_greatest_positions) (by decide +kernel)) (fun _ _ _ _ _ => pg_name (i := 3) sc_greatest_positions.nd rfl (by first | exact Or.inl rfl | exact Or.inr rfl)) (fun _ _ _ _ _ => pts_nil) (fun _ _ _ _ _ => D_greatest_position.call (hr.mono (by decide)) (by rfl) (pa_cons (pv 3) (pa_cons (pv 1) pa_nil)))) pa_nil))))))), ?_⟩
  have hz : 100 ≤ sizeLine := by decide
  have n8 : n ≤ 8 := by have := hok.2.1; omega
  walk_at "rd"
  refine ⟨v, n, rs, rfl, hv, hok, fun H1 s1 => ?_⟩
  walk_at "rd"
  refine ⟨v, u, n, rs, ls, rfl, hv.mono s1, hu.mono s1, by rw [hl], hlo, fun H2 s2 => ?_⟩
  have s2 := s1.trans s2
  walk_at "rd"
  refine ⟨v, n, rs, rfl, hv.mono s2, hok, fun H3 t as tn => ?_⟩
  have s3 := s2.trans tn.same
  walk_at "rd"
  refine ⟨t, as, n, _, rfl, tn.tab, n8, hd, ?_⟩
  walk_at "rd"
  refine ⟨⟨_, .of tn.tab.top⟩, fun D hD => ?_⟩
  refine lcList (xs := as.map V.ref) (fun i H' => Same H3 H' ∧ H' D = some (.lst (((greatL (chainTab n rs) ls n).take i).map ovV))) ⟨same_upd hD, upd_same⟩ (fun i H' _ hPv => ?_) (fun i x H' hx hPv => ?_) (fun H' hPv => ?_)
  · exact .of (hPv.1 _ _ tn.tab.top)
  · obtain ⟨e, hLi⟩ := hPv
    have hi : i < n := by
      have := (List.getElem?_eq_some_iff.mp hx).1
      rw [List.length_map, tn.tab.len] at this
      exact this
    obtain ⟨r, hr', hrm, hrow⟩ := (tn.tab.mono e).get hi
    cases hx.symm.trans hrm
    walk_at "rd"
    refine ⟨r, u, n, _, i, ls, rfl, hrow, hu.mono (s3.trans e), hl, n8, fun H5 s5 => ?_⟩
    refine ⟨_, s5 _ _ hLi, by rw [List.length_map, List.length_take, greatL_len]; omega, fun z o hz' => ?_, ?_⟩
    · rw [upd_ne (ne_of_none hz' hD)]
      exact s5 _ _ (e z o hz')
    · rw [upd_same, greatL_next hi]
  · obtain ⟨e, hLi⟩ := hPv
    rw [List.length_map, tn.tab.len, List.take_of_length_le (by rw [greatL_len]; exact Nat.le_refl _)] at hLi
    walk_at "rd"
    refine ⟨_, .inl ⟨.of hLi, fun p hp => ?_⟩⟩
    have sp := same_upd (o := .tup ((greatL (chainTab n rs) ls n).map ovV)) hp
    exact q _ _ ((s3.trans e).trans sp) ⟨p, rfl, .of upd_same⟩
def s_law_greatest : Stmt := topS 47
abbrev n_law_greatest : List Str := ["_law_lengths", "_law_limits", "_law_found", "_law_barge", "_law_some", "_law_k", "_law_bounds"]
abbrev p_law_greatest : List Str := ["_law_lengths", "_law_limits"]
theorem sc_law_greatest : FnScope n_law_greatest p_law_greatest (defScope s_law_greatest) := ⟨rfl, rfl, rfl, by decide +kernel, rfl, by decide +kernel, by decide +kernel⟩
def sp_law_greatest (K : PySem.W.Frag) : Sp := fun vs H Q _ => ∃ (t : Addr) (as : List Addr) (u : V) (n : Nat) (d : Tab) (ls : List (Option Int)), vs = [.ref t, u] ∧ TabAt H t as n d ∧ OptsT K H u ls ∧ ls.length = n ∧ n ≤ 8 ∧ ∀ H' r, Same H H' → OptsT K H' r (greatL d ls n) → Q r H'
theorem df_law_greatest (T : Here K mg "_law_greatest" s_law_greatest) (B : Blt mg) : Df P w K mg base CX0 "_law_greatest" 1 p_law_greatest (sp_law_greatest K) := by
  refine T.df sc_law_greatest (fun _ _ _ _ _ _ us hl => match us, hl with | [_, _], _ => rfl) (fun vs H Q E h => by obtain ⟨_, _, _, _, _, _, rfl, _⟩ := h; rfl) (fun f cdv A outer s H vs Q E hr h => ?_)
  obtain ⟨t, as, u, n, d, ls, rfl, ht, ⟨c, rfl, hc⟩, hl, n8, q⟩ := h
  refine ⟨_, pss_cons (ps_set (i := 2) sc_law_greatest.nd rfl (by first | exact Or.inl rfl | exact Or.inr rfl) (pe_lst (pa_nil)))
      (pss_cons (ps_for PassesOwn.never rfl (pi_range1 (by rfl) B.range (pa_cons (pe_callB (lenQ K rfl) (by rfl) B.len (by decide +kernel) (pa_cons (pv 1) pa_nil)) pa_nil)) (pg_name (i := 3) sc_law_greatest.nd rfl (by first | exact Or.inl rfl | exact Or.inr rfl)) (pss_cons (ps_set (i := 4) sc_law_greatest.nd rfl (by first | exact Or.inl rfl | exact Or.inr rfl) (pe_lc (own := [("_law_k", 5)]) rfl sc_law_greatest.nd (pi_range1 (by rfl) B.range (pa_cons (pe_callB (lenQ K rfl) (by rfl) B.len (by decide +kernel) (pa_cons (pv 1) pa_nil)) pa_nil)) (blkOk_by (N := n_law_greatest) (sc := defScope s_law_greatest) (by decide +kernel)) (fun _ _ _ _ _ => pg_name (i := 5) sc_law_greatest.nd rfl (by first | exact Or.inl rfl | exact Or.inr rfl)) (fun _ _ _ _ _ => pts_nil) (fun _ _ _ _ _ => pe_ix (ixL K rfl) (pe_ix (ixL K rfl) (pv 0) (pv 3) (fun _ _ => rfl)) (pv 5) (fun _ _ => rfl))))
      (pss_cons (ps_setLc (i := 6) (own := [("_law_k", 5)]) rfl sc_law_greatest.nd rfl rfl (sw_true rfl rfl rfl (by decide +kernel)) (pi_range1 (by rfl) B.range (pa_cons (pe_callB (lenQ K rfl) (by rfl) B.len (by decide +kernel) (pa_cons (pv 1) pa_nil)) pa_nil)) (blkOk_by (N := n_law_greatest) (sc := defScope s_law_greatest) (by decide +kernel)) (fun _ _ _ _ _ => pg_name (i := 5) sc_law_greatest.nd rfl (by first | exact Or.inl rfl | exact Or.inr rfl)) (fun _ _ _ _ _ => pts_one (PW.pt (pw_and (pt_cmpR op_notN (pe_ix (ixT K rfl) (pv 1) (pv 5) (fun _ _ => rfl)) (pe_non) (nomark _)) (pw_and1 (pt_cmpR op_notN (pe_ix (ixL K rfl) (pv 4) (pv 5) (fun _ _ => rfl)) (pe_non) (nomark _)))))) (fun _ _ _ _ _ => pe_op op_add (pe_ix (ixT K rfl) (pv 1) (pv 5) (fun _ _ => rfl)) (pe_ix (ixL K rfl) (pv 4) (pv 5) (fun _ _ => rfl))))
      (pss_one (ps_expr (pe_bm PySem.F.plainAttrs_list PySem.F.slot_list_append PySem.F.type_list_append mt_append (pv 2) (pa_cons (pe_ifExp (pt_cmpR (neD K rfl hr.units) (pv 6) (pe_lst (pa_nil)) (nomark _)) (pe_callB (minQ K rfl rfl) (by rfl) B.min (by decide +kernel) (pa_cons (pv 6) pa_nil)) (pe_non)) pa_nil)))))))
      (pss_one (ps_ret (pe_callTy (tupleOf K rfl) (by rfl) B.tuple (by decide +kernel) (pa_cons (pv 2) pa_nil))))), ?_⟩
  have hz : 100 ≤ sizeLine := by decide
  walk_at "rd"
  refine ⟨Nat.zero_le _, fun L hL => ?_⟩
  have s0 := same_upd (o := .lst []) hL
  refine ⟨_, .inr (sqt_same s0 hc), ?_⟩
  rw [List.length_map, hl]
  refine ⟨by omega, by omega, ?_⟩
  walk_at "rd"
  refine forRange (fun i σ H' => ∃ x3 x4 x5 x6, σ = [some (.ref t), some (.ref c), some (.ref L), x3, x4, x5, x6] ∧ Same H H' ∧ H' L = some (.lst (((greatL d ls n).take i).map ovV))) ⟨_, _, _, _, rfl, s0, upd_same⟩ (fun i σ H' hi hPv => ?_) (fun σ H' hPv => ?_)
  · obtain ⟨x3, x4, x5, x6, rfl, e, hLi⟩ := hPv
    walk_at "rd"
    refine ⟨_, .inr (sqt_same e hc), ?_⟩
    rw [List.length_map, hl]
    refine ⟨by omega, by omega, fun D1 hD1 => ?_⟩
    walk_at "rd"
    refine lcRange (fun j H2 => Same H' H2 ∧ H2 D1 = some (.lst ((rowV n d i).take j))) ⟨same_upd hD1, upd_same⟩ (fun j H2 hj hPv => ?_) (fun H2 hPv => ?_)
    · obtain ⟨e2, h2⟩ := hPv
      have tT := ht.mono (e.trans e2)
      obtain ⟨r, hr', hrm, hrow⟩ := tT.get hi
      walk_at "rd"
      refine ⟨t, _, i, _, rfl, rfl, .of tT.top, atI_nat hrm, r, _, j, _, rfl, rfl, .of hrow, atI_nat (rowV_at d i hj), ?_⟩
      refine ⟨_, h2, by rw [List.length_take, rowV_len]; omega, fun z o hz' => ?_, ?_⟩
      · rw [upd_ne (ne_of_none hz' hD1)]
        exact e2 z o hz'
      · rw [upd_same, List.take_add_one, rowV_at d i hj]
        rfl
    · obtain ⟨e2, h2⟩ := hPv
      rw [List.take_of_length_le (by rw [rowV_len]; exact Nat.le_refl _)] at h2
      have e2' := e.trans e2
      walk_at "rd"
      refine ⟨_, .inr (sqt_same e2' hc), ?_⟩
      rw [List.length_map, hl]
      refine ⟨by omega, by omega, fun D2 hD2 => ?_⟩
      walk_at "rd"
      refine lcRange (fun j H3 => Same H2 H3 ∧ H3 D2 = some (.lst ((bnds d ls i j).map V.int))) ⟨same_upd hD2, upd_same⟩ (fun j H3 hj hPv => ?_) (fun H3 hPv => ?_)
      · obtain ⟨e3, h3⟩ := hPv
        have h1 := e3 _ _ h2
        have hc3 := sqt_same (e2'.trans e3) hc
        walk_at "rd"
        refine ⟨c, _, j, _, rfl, rfl, hc3, atI_nat (at_opts (by omega)), ?_⟩
        walk_at "rd"
        cases hlk : ls.getD j none with
        | none =>
          simp only [ovV, decide_true, Bool.not_true, Bool.false_eq_true, ite_false, bnds_none1 hlk]
          exact ⟨e3, h3⟩
        | some y =>
          simp only [ovV, reduceCtorEq, decide_false, Bool.not_false, ite_true]
          refine ⟨D1, _, j, _, rfl, rfl, .of h1, atI_nat (rowV_at d i hj), ?_⟩
          walk_at "rd"
          cases hd : d i j with
          | none =>
            simp only [ovV, decide_true, Bool.not_true, Bool.false_eq_true, ite_false, bnds_none2 hd]
            exact ⟨e3, h3⟩
          | some x =>
            simp only [ovV, reduceCtorEq, decide_false, Bool.not_false, ite_true, bnds_some hlk hd]
            refine ⟨c, _, j, _, rfl, rfl, hc3, atI_nat (at_opts (by omega)), D1, _, j, _, rfl, rfl, .of h1, atI_nat (rowV_at d i hj), ?_⟩
            rw [hlk, hd]
            simp only [ovV]
            walk_at "rd"
            have hbl := bnds_len d ls i j
            refine ⟨_, h3, by rw [List.length_map]; omega, fun z o hz' => ?_, ?_⟩
            · rw [upd_ne (ne_of_none hz' hD2)]
              exact e3 z o hz'
            · rw [upd_same, List.map_append]
              rfl
      · obtain ⟨e3, h3⟩ := hPv
        have e3' := e2'.trans e3
        have hL3 := e3 _ _ (e2 _ _ hLi)
        have hlen : (((greatL d ls n).take i).map ovV).length < sizeLine := by
          rw [List.length_map, List.length_take, greatL_len]
          omega
        have fin : ∀ {H4 : Hp}, Same H3 H4 → Same H (upd H4 L (.lst (((greatL d ls n).take i).map ovV ++ [ovV (greatD d ls i n)]))) ∧ (upd H4 L (.lst (((greatL d ls n).take i).map ovV ++ [ovV (greatD d ls i n)]))) L = some (.lst (((greatL d ls n).take (i + 1)).map ovV)) := by
          intro H4 e4
          refine ⟨fun z o hz' => ?_, ?_⟩
          · rw [upd_ne (ne_of_none hz' hL)]
            exact e4 _ _ (e3' z o hz')
          · rw [upd_same, greatL_next hi]
        walk_at "rd"
        refine ⟨.inl ⟨rfl, _, .of hL3⟩, Nat.zero_le _, fun p hp => ?_⟩
        have s4 := same_upd (o := .lst []) hp
        obtain ⟨f1, f2⟩ := fin s4
        have hD24 := s4 _ _ h3
        have dp1 : Dp K (upd H3 p (.lst [])) (.ref D2) (.list (((bnds d ls i n).map some).map ovP)) := dp_ints_l (.of hD24)
        have dp2 : Dp K (upd H3 p (.lst [])) (.ref p) (.list ((([] : List Int).map some).map ovP)) := dp_ints_l (.of upd_same)
        refine ⟨_, _, dp1, dp2, shaped_opts_l _, shaped_opts_l _, ?_⟩
        cases hb : bnds d ls i n with
        | nil =>
          have eg : greatD d ls i n = none := by
            unfold greatD
            rw [hb]
            rfl
          refine ⟨false, rfl, ?_⟩
          simp only [Bool.false_eq_true, ite_false]
          rw [eg] at f1 f2
          exact ⟨L, _, _, rfl, rfl, s4 _ _ hL3, hlen, _, _, _, _, ⟨rfl, rfl, rfl, rfl⟩, f1, f2⟩
        | cons m r =>
          refine ⟨true, rfl, ?_⟩
          simp only [ite_true]
          refine ⟨D2, bnds d ls i n, rfl, .of hD24, by rw [hb]; exact Nat.succ_pos _, fun y hy hle => ?_⟩
          have eg : greatD d ls i n = some y := minO_is hy hle
          rw [eg] at f1 f2
          exact ⟨L, _, _, rfl, rfl, s4 _ _ hL3, hlen, _, _, _, _, ⟨rfl, rfl, rfl, rfl⟩, f1, f2⟩
  · obtain ⟨x3, x4, x5, x6, rfl, e, hLi⟩ := hPv
    rw [List.take_of_length_le (by rw [greatL_len]; exact Nat.le_refl _)] at hLi
    walk_at "rd"
    refine ⟨_, .inl ⟨.of hLi, fun p hp => ?_⟩⟩
    have sp := same_upd (o := .tup ((greatL d ls n).map ovV)) hp
    exact q _ _ (e.trans sp) ⟨p, rfl, .of upd_same⟩
end
end Hx

set_option Elab.async false
set_option linter.all false
set_option maxRecDepth 100000
set_option maxHeartbeats 4000000
namespace Hx
open PySem PySem.Spec PyProof.Rows L2
local macro_rules | `(tactic| walk_at "rd") => `(tactic| (try simp only [q_var, q_c, q_op, q_un, q_rI, q_rI0, q_rU, q_rEq, q_rNe, q_test, q_tB, q_and, q_or, q_not, q_andV, q_orV, q_notV, q_if, q_isN, q_notN, q_chain, q_next, q_seq, q_break, q_cont, q_drop, q_ret, q_retN, q_ifS, q_never, q_gN, q_gNil, q_gCons, q_gTup, q_gSub, q_asg, q_par, q_aug, q_nil, q_cons, q_tup, q_lst, q_call, q_cb, q_noPart, q_part, q_sl, q_bm0, q_bm, q_yes, q_for, q_lc, q_iList, q_iTup, q_iRng1, q_iEnumT, q_iEnum, q_iRng2, q_iZipA, q_iZipM, q_ipI, q_ckw, q_len, q_listOf, q_tupleOf, L2.start, cx_K, wipe, List.map_cons, List.map_nil, List.length_cons, List.length_nil, List.cons_append, List.nil_append, List.append_nil, List.replicate, List.getElem?_cons_zero, List.getElem?_cons_succ, List.set_cons_zero, List.set_cons_succ, Option.some.injEq, List.cons.injEq, exists_eq_left', exists_eq_left, exists_and_left, V.int.injEq, V.bl.injEq, V.ref.injEq, if_true, if_false, Bool.not_true, Bool.not_false, true_and, and_true, Bool.false_eq_true, ite_true, ite_false, Nat.reduceAdd, Nat.reduceSub, reduceCtorEq, decide_false, decide_true, Int.toNat_natCast, false_and, exists_false, or_false, false_or]))
section
variable {P : Program} {w : World} {K : PySem.W.Frag} {mg : Str → Option Value} {base : Heap}
/-- a new list of pairs -/
def PairsL (H : Hp) (v : V) (xs : List Int) (ys : List (Option Int)) : Prop := ∃ (p : Addr) (ts : List Addr), v = .ref p ∧ H p = some (.lst (ts.map V.ref)) ∧ ts.length = xs.length ∧ ys.length = xs.length ∧ ∀ (j : Nat) (t : Addr), ts[j]? = some t → H t = some (.tup [.int (xs.getD j 0), ovV (ys.getD j none)])
theorem PairsL.mono {H H' : Hp} {v : V} {xs : List Int} {ys : List (Option Int)} (h : PairsL H v xs ys) (e : Same H H') : PairsL H' v xs ys := by
  obtain ⟨p, ts, rfl, h1, h2, h3, h4⟩ := h
  exact ⟨p, ts, rfl, e _ _ h1, h2, h3, fun j t ht => e _ _ (h4 j t ht)⟩
theorem zipL_pairs {c d : Addr} {H : Hp} {Q : VK} {xs : List Int} {ys : List (Option Int)} (h1 : SqT K H c (xs.map V.int)) (h2 : SqT K H d (ys.map ovV)) (hl : ys.length = xs.length) (q : ∀ H' r, Same H H' → PairsL H' r xs ys → Q r H') : rZipL K [.ref c, .ref d] H Q := by
  refine ⟨c, d, _, _, rfl, h1, h2, by rw [List.length_map, List.length_map, hl], fun H' p ts k n l e at' => ?_⟩
  rw [List.length_map] at l
  refine q H' _ k ⟨p, ts, rfl, e, l, hl, fun j t ht => ?_⟩
  obtain ⟨x, y, e1, e2, e3⟩ := at' j t ht
  obtain ⟨_, rfl⟩ := ints_at e1
  obtain ⟨_, rfl⟩ := opts_at e2
  exact e3
/-- no limit lies before its position -/
def Within (xs : List Int) (ls : List (Option Int)) (n : Nat) : Prop := ∀ i y, i < n → ls.getD i none = some y → xs.getD i 0 ≤ y
def s_reachable_ranges : Stmt := topS 35
abbrev n_reachable_ranges : List Str := ["fleet", "positions", "limits", "position", "limit"]
abbrev p_reachable_ranges : List Str := ["fleet", "positions", "limits"]
theorem sc_reachable_ranges : FnScope n_reachable_ranges p_reachable_ranges (defScope s_reachable_ranges) := ⟨rfl, rfl, rfl, by decide +kernel, rfl, by decide +kernel, by decide +kernel⟩
def sp_reachable_ranges (K : PySem.W.Frag) : Sp := fun vs H Q _ => ∃ (v u x : V) (n : Nat) (rs : List Rope) (xs : List Int) (ls : List (Option Int)), vs = [v, u, x] ∧ FleetV K H v n rs ∧ IntsT K H u xs ∧ WayOk n rs xs ∧ Diag n (chainTab n rs) ∧ OptsT K H x ls ∧ ls.length = n ∧ OptOk ls ∧
  ∀ H' r, Same H H' → (Within xs ls n → PairsL H' r xs (greatL (chainTab n rs) ls n)) → (¬ Within xs ls n → r = .non) → Q r H'
theorem df_reachable_ranges (T : Here K mg "reachable_ranges" s_reachable_ranges) (B : Blt mg) (D_check_fleet : Df P w K mg base CX0 "check_fleet" 4 p_check_fleet (sp_check_fleet K)) (D_check_valid : Df P w K mg base CX0 "check_valid" 4 p_check_valid (sp_check_valid K))
    (D_check_wishes : Df P w K mg base CX0 "check_wishes" 3 p_check_wishes (sp_check_wishes K)) (D_greatest_positions : Df P w K mg base CX0 "greatest_positions" 5 p_greatest_positions (sp_greatest_positions K)) :
    Df P w K mg base CX0 "reachable_ranges" 6 p_reachable_ranges (sp_reachable_ranges K) := by
  refine T.df sc_reachable_ranges (fun _ _ _ _ _ _ us hl => match us, hl with | [_, _, _], _ => rfl) (fun vs H Q E h => by obtain ⟨_, _, _, _, _, _, _, rfl, _⟩ := h; rfl) (fun f cdv A outer s H vs Q E hr h => ?_)
  obtain ⟨v, u, x, n, rs, xs, ls, rfl, hv, hu, hw, hd, hx, hl, hok, q⟩ := h
  refine ⟨_, pss_cons (ps_expr (D_check_fleet.call (hr.mono (by decide)) (by rfl) (pa_cons (pv 0) pa_nil)))
      (pss_cons (ps_expr (D_check_valid.call (hr.mono (by decide)) (by rfl) (pa_cons (pv 0) (pa_cons (pv 1) pa_nil))))
      (pss_cons (ps_expr (D_check_wishes.call (hr.mono (by decide)) (by rfl) (pa_cons (pv 0) (pa_cons (pv 2) pa_nil))))
      (pss_cons (ps_for PassesOwn.never rfl (piZipA K rfl (by rfl) B.zip (pa_cons (pv 1) (pa_cons (pv 2) pa_nil))) (pgTup K rfl (n := 2) rfl (pgs_cons (pg_name (i := 3) sc_reachable_ranges.nd rfl (by first | exact Or.inl rfl | exact Or.inr rfl)) (pgs_cons (pg_name (i := 4) sc_reachable_ranges.nd rfl (by first | exact Or.inl rfl | exact Or.inr rfl)) pgs_nil))) (pss_one (ps_if (PW.pt (pw_and (pt_cmpR op_notN (pv 4) (pe_non) (nomark _)) (pw_and1 (pt_cmpR op_gt (pv 3) (pv 4) (nomark _))))) (pss_one (ps_ret (pe_non))) (pss_nil))))
      (pss_one (ps_ret (peListZip K rfl rfl (by rfl) B.list (by rfl) B.zip (pa_cons (pv 1) (pa_cons (D_greatest_positions.call (hr.mono (by decide)) (by rfl) (pa_cons (pv 0) (pa_cons (pv 2) pa_nil))) pa_nil)))))))), ?_⟩
  have hz : 100 ≤ sizeLine := by decide
  have n8 : n ≤ 8 := by have := hw.fleet.2.1; omega
  walk_at "rd"
  refine ⟨v, n, rs, rfl, hv, hw.fleet, fun H1 s1 => ?_⟩
  walk_at "rd"
  refine ⟨v, u, n, rs, xs, rfl, hv.mono s1, hu.mono s1, by rw [hw.len], hw.range, hw.fleet.2.2.2, hw.valid, fun H2 s2 => ?_⟩
  have s2 := s1.trans s2
  walk_at "rd"
  refine ⟨v, x, n, rs, ls, rfl, hv.mono s2, hx.mono s2, by rw [hl], hok, fun H3 s3 => ?_⟩
  have s3 := s2.trans s3
  obtain ⟨c, rfl, hc⟩ := hu.mono s3
  obtain ⟨e, rfl, he⟩ := hx.mono s3
  have hxl := hw.len
  walk_at "rd"
  refine ⟨c, e, ⟨rfl, rfl⟩, _, _, .inr ⟨hc, he, ?_⟩⟩
  refine forZipT (xs := xs.map V.int) (ys := ls.map ovV) (by rw [List.length_map, List.length_map, hxl, hl]) (fun i σ H' => ∃ x3 x4, σ = [some v, some (.ref c), some (.ref e), x3, x4] ∧ Same H3 H' ∧ Within xs ls i)
    ⟨_, _, rfl, .refl _, fun i y hi => absurd hi (Nat.not_lt_zero _)⟩ (fun i σ H' _ hPv => ?_) (fun i x y T σ H' hx' hy' hPv hT => ?_) (fun σ H' hPv => ?_)
  · obtain ⟨_, _, _, k, _⟩ := hPv
    exact ⟨sqt_same k hc, sqt_same k he⟩
  · obtain ⟨x3, x4, rfl, k, hwi⟩ := hPv
    obtain ⟨hi, rfl⟩ := ints_at hx'
    obtain ⟨hi2, rfl⟩ := opts_at hy'
    have kT := k.trans (same_upd (o := .tup [V.int (xs.getD i 0), ovV (ls.getD i none)]) hT)
    walk_at "rd"
    refine ⟨_, .of upd_same, rfl, ?_⟩
    walk_at "rd"
    cases hli : ls.getD i none with
    | none =>
      simp only [hli] at kT
      simp only [ovV, decide_true, Bool.not_true, Bool.false_eq_true, ite_false]
      refine ⟨_, _, ⟨rfl, rfl⟩, kT, fun j y hj hy => ?_⟩
      rcases Nat.lt_succ_iff_lt_or_eq.mp hj with h | rfl
      · exact hwi j y h hy
      · rw [hli] at hy
        cases hy
    | some z =>
      simp only [hli] at kT
      simp only [ovV, reduceCtorEq, decide_false, Bool.not_false, ite_true]
      walk_at "rd"
      by_cases hlt : z < xs.getD i 0
      · simp only [hlt, decide_true, ite_true]
        exact q _ _ (s3.trans kT) (fun W => absurd (W i z (by omega) hli) (by omega)) fun _ => rfl
      · simp only [hlt, decide_false, Bool.false_eq_true, ite_false]
        refine ⟨_, _, ⟨rfl, rfl⟩, kT, fun j y hj hy => ?_⟩
        rcases Nat.lt_succ_iff_lt_or_eq.mp hj with h | rfl
        · exact hwi j y h hy
        · rw [hli] at hy
          cases hy
          omega
  · obtain ⟨x3, x4, rfl, k, hwi⟩ := hPv
    rw [List.length_map, hxl] at hwi
    walk_at "rd"
    simp only [q_tZipL]
    walk_at "rd"
    refine ⟨v, .ref e, n, rs, ls, rfl, hv.mono (s3.trans k), hw.fleet, hd, ⟨e, rfl, sqt_same k he⟩, hl, hok, fun H5 r s5 hr' => ?_⟩
    obtain ⟨g, rfl, hg⟩ := hr'
    exact zipL_pairs (sqt_same (k.trans s5) hc) hg (by rw [greatL_len, hxl]) fun H6 r s6 hp => q _ _ (s3.trans (k.trans (s5.trans s6))) (fun _ => hp) fun W => absurd hwi W
end
end Hx

set_option Elab.async false
set_option linter.all false
set_option maxRecDepth 100000
set_option maxHeartbeats 4000000
namespace Hx
open PySem PySem.Spec PyProof.Rows L2
/-! the single hauls, put together -/
def maxL (xs ys : List Int) : List Int := (List.range xs.length).map fun o => if ys.getD o 0 > xs.getD o 0 then ys.getD o 0 else xs.getD o 0
theorem maxL_len (xs ys : List Int) : (maxL xs ys).length = xs.length := by
  unfold maxL
  rw [List.length_map, List.length_range]
theorem maxL_at {xs ys : List Int} {o : Nat} (h : o < xs.length) : (maxL xs ys)[o]? = some (if ys.getD o 0 > xs.getD o 0 then ys.getD o 0 else xs.getD o 0) := by
  unfold maxL
  rw [List.getElem?_map, List.getElem?_range h]
  rfl
theorem gd_max {xs ys : List Int} {o : Nat} (h : o < xs.length) : gd (maxL xs ys) o = max (gd xs o) (gd ys o) := by
  unfold gd
  rw [List.getD_eq_getElem?_getD, maxL_at h]
  show (if ys.getD o 0 > xs.getD o 0 then ys.getD o 0 else xs.getD o 0) = _
  split <;> omega
theorem maxL_next {xs ys : List Int} {i : Nat} (h : i < xs.length) : ((maxL xs ys).take i).map V.int ++ [V.int (if ys.getD i 0 > xs.getD i 0 then ys.getD i 0 else xs.getD i 0)] = ((maxL xs ys).take (i + 1)).map V.int := by
  rw [List.take_add_one, maxL_at h, List.map_append]
  rfl
def dueD (d : Tab) (ws : List (Option Int)) (xs : List Int) (k : Nat) : List Int :=
  (List.range k).foldl (fun ys i => match ws.getD i none with | none => ys | some v => if xs.getD i 0 < v then maxL ys (moveD d xs i v) else ys) xs
theorem dueD_succ (d : Tab) (ws : List (Option Int)) (xs : List Int) (k : Nat) : dueD d ws xs (k + 1) = match ws.getD k none with | none => dueD d ws xs k | some v => if xs.getD k 0 < v then maxL (dueD d ws xs k) (moveD d xs k v) else dueD d ws xs k := by
  unfold dueD
  rw [List.range_succ, List.foldl_append]
  rfl
theorem dueD_none {d : Tab} {ws : List (Option Int)} {xs : List Int} {k : Nat} (h : ws.getD k none = none) : dueD d ws xs (k + 1) = dueD d ws xs k := by
  rw [dueD_succ, h]
theorem dueD_mv {d : Tab} {ws : List (Option Int)} {xs : List Int} {k : Nat} {u : Int} (h : ws.getD k none = some u) (h2 : gd xs k < u) : dueD d ws xs (k + 1) = maxL (dueD d ws xs k) (moveD d xs k u) := by
  rw [dueD_succ, h]
  exact if_pos h2
theorem dueD_st {d : Tab} {ws : List (Option Int)} {xs : List Int} {k : Nat} {u : Int} (h : ws.getD k none = some u) (h2 : ¬ gd xs k < u) : dueD d ws xs (k + 1) = dueD d ws xs k := by
  rw [dueD_succ, h]
  exact if_neg h2
theorem dueD_len (d : Tab) (ws : List (Option Int)) (xs : List Int) : ∀ k, (dueD d ws xs k).length = xs.length
  | 0 => rfl
  | k + 1 => by
    have ih := dueD_len d ws xs k
    cases h : ws.getD k none with
    | none => rw [dueD_none h, ih]
    | some u =>
      by_cases h2 : gd xs k < u
      · rw [dueD_mv h h2, maxL_len, ih]
      · rw [dueD_st h h2, ih]
theorem max_valid {n : Nat} {rs : List Rope} (F : Fit n rs) {xs ys : List Int} (hl : xs.length = n) (hx : Valid xs rs) (hy : Valid ys rs) : Valid (maxL xs ys) rs := fun r hr => by
  obtain ⟨hf, hg⟩ := (F.ok r hr).ix
  have h1 : gd xs r.f.toNat - gd xs r.r.toNat ≤ r.l := hx r hr
  have h2 : gd ys r.f.toNat - gd ys r.r.toNat ≤ r.l := hy r hr
  show gd (maxL xs ys) r.f.toNat - gd (maxL xs ys) r.r.toNat ≤ r.l
  rw [gd_max (by omega), gd_max (by omega)]
  omega
theorem due_all {n : Nat} {rs : List Rope} (F : Fit n rs) {xs : List Int} (hl : xs.length = n) (hv : Valid xs rs) (ws : List (Option Int)) : ∀ k, k ≤ n →
    Valid (dueD (chainTab n rs) ws xs k) rs ∧ (∀ i, i < n → gd xs i ≤ gd (dueD (chainTab n rs) ws xs k) i) ∧ (∀ i, i < k → ∀ v, ws.getD i none = some v → v ≤ gd (dueD (chainTab n rs) ws xs k) i) ∧
    ∀ y : Nat → Int, (∀ r ∈ rs, HoldsR y r) → (∀ i, i < n → gd xs i ≤ y i) → (∀ i, i < k → ∀ v, ws.getD i none = some v → v ≤ y i) → ∀ i, i < n → gd (dueD (chainTab n rs) ws xs k) i ≤ y i
  | 0, _ => ⟨hv, fun _ _ => Int.le_refl _, fun i hi => absurd hi (Nat.not_lt_zero i), fun y _ h _ => h⟩
  | k + 1, hk => by
    obtain ⟨h1, h2, h3, h4⟩ := due_all F hl hv ws k (by omega)
    have ll := dueD_len (chainTab n rs) ws xs k
    cases hw : ws.getD k none with
    | none =>
      rw [dueD_none hw]
      generalize dueD (chainTab n rs) ws xs k = c at h1 h2 h3 h4 ll
      refine ⟨h1, h2, fun i hi v hv' => ?_, fun y a b e => h4 y a b fun i hi => e i (by omega)⟩
      by_cases hik : i = k
      · subst hik
        rw [hw] at hv'
        cases hv'
      · exact h3 i (by omega) v hv'
    | some u =>
      by_cases hlt : gd xs k < u
      · rw [dueD_mv hw hlt]
        generalize dueD (chainTab n rs) ws xs k = c at h1 h2 h3 h4 ll
        have mx : ∀ i, i < n → gd (maxL c (moveD (chainTab n rs) xs k u)) i = max (gd c i) (gd (moveD (chainTab n rs) xs k u) i) := fun i hi => gd_max (by omega)
        refine ⟨max_valid F (by omega) h1 (move_valid F hl hv (by omega) u), fun i hi => ?_, fun i hi v hv' => ?_, fun y a b e i hi => ?_⟩
        · rw [mx i hi]
          have := h2 i hi
          omega
        · rw [mx i (by omega)]
          by_cases hik : i = k
          · subst hik
            rw [hw] at hv'
            cases hv'
            have := move_at F hl (b := i) (by omega) u
            omega
          · have := h3 i (by omega) v hv'
            omega
        · rw [mx i hi]
          have e1 := h4 y a b (fun i hi => e i (by omega)) i hi
          have e2 := move_least hl (p := u) (b := k) a b (e k (by omega) u hw) i hi
          omega
      · rw [dueD_st hw hlt]
        generalize dueD (chainTab n rs) ws xs k = c at h1 h2 h3 h4 ll
        refine ⟨h1, h2, fun i hi v hv' => ?_, fun y a b e => h4 y a b fun i hi => e i (by omega)⟩
        by_cases hik : i = k
        · subst hik
          rw [hw] at hv'
          cases hv'
          have := h2 i (by omega)
          omega
        · exact h3 i (by omega) v hv'
theorem gd_ext {xs ys : List Int} (hl : xs.length = ys.length) (h : ∀ i, i < xs.length → gd xs i = gd ys i) : xs = ys := by
  refine List.ext_getElem hl fun i h1 h2 => ?_
  have e := h i h1
  unfold gd at e
  rw [List.getD_eq_getElem?_getD, List.getD_eq_getElem?_getD, List.getElem?_eq_getElem h1, List.getElem?_eq_getElem h2] at e
  exact e
theorem least_due {n : Nat} {rs : List Rope} (F : Fit n rs) {xs : List Int} (hl : xs.length = n) (hv : Valid xs rs) (ws : List (Option Int)) : leastD (chainTab n rs) ws xs n = dueD (chainTab n rs) ws xs n := by
  obtain ⟨a1, a2, a3, a4⟩ := least_all F hl hv ws n (Nat.le_refl n)
  obtain ⟨b1, b2, b3, b4⟩ := due_all F hl hv ws n (Nat.le_refl n)
  refine gd_ext (by rw [leastD_len, dueD_len]) fun i hi => ?_
  rw [leastD_len, hl] at hi
  exact Int.le_antisymm (a4 (fun i => gd (dueD (chainTab n rs) ws xs n) i) (fun r hr => b1 r hr) b2 b3 i hi) (b4 (fun i => gd (leastD (chainTab n rs) ws xs n) i) (fun r hr => a1 r hr) a2 a3 i hi)
/-! limits -/
theorem minO_min {ns : List Int} {m : Int} (h : minO ns = some m) : m ∈ ns ∧ ∀ y ∈ ns, m ≤ y := by
  cases ns with
  | nil => cases h
  | cons n r =>
    obtain ⟨k1, k2, k3⟩ := foldmin_mem r n
    have e : r.foldl min n = m := Option.some.inj h
    rw [e] at k1 k2 k3
    refine ⟨?_, fun y hy => ?_⟩
    · rcases k1 with q | q
      · rw [q]; exact List.mem_cons_self
      · exact List.mem_cons_of_mem _ q
    · rcases List.mem_cons.mp hy with q | q
      · rw [q]; exact k2
      · exact k3 y q
theorem minO_some {ns : List Int} {y : Int} (h : y ∈ ns) : ∃ m, minO ns = some m := by
  cases ns with
  | nil => cases h
  | cons n r => exact ⟨_, rfl⟩
theorem bnds_mem {d : Tab} {ls : List (Option Int)} {b k : Nat} {m : Int} : m ∈ bnds d ls b k ↔ ∃ i l x, i < k ∧ ls.getD i none = some l ∧ d b i = some x ∧ m = l + x := by
  unfold bnds
  rw [List.mem_filterMap]
  constructor
  · rintro ⟨i, hi, e⟩
    rw [List.mem_range] at hi
    cases h1 : ls.getD i none with
    | none =>
      rw [h1] at e
      cases e
    | some l =>
      rw [h1] at e
      cases h2 : d b i with
      | none =>
        rw [h2] at e
        cases e
      | some x =>
        rw [h2] at e
        exact ⟨i, l, x, hi, h1, h2, (Option.some.inj e).symm⟩
  · rintro ⟨i, l, x, hi, h1, h2, rfl⟩
    refine ⟨i, List.mem_range.mpr hi, ?_⟩
    simp only [h1, h2]
/-- the barges whose greatest position lies before their own -/
def beyD (xs : List Int) (hs : List (Option Int)) (k : Nat) : List Nat := (List.range k).filter fun i => match hs.getD i none with | none => false | some m => decide (m < xs.getD i 0)
theorem beyD_succ (xs : List Int) (hs : List (Option Int)) (k : Nat) : beyD xs hs (k + 1) = beyD xs hs k ++ (if (match hs.getD k none with | none => false | some m => decide (m < xs.getD k 0)) = true then [k] else []) := by
  unfold beyD
  rw [List.range_succ, List.filter_append]
  congr 1
  rw [List.filter_cons, List.filter_nil]
theorem beyD_le (xs : List Int) (hs : List (Option Int)) (k : Nat) : (beyD xs hs k).length ≤ k := by
  unfold beyD
  have := List.length_filter_le (fun i => match hs.getD i none with | none => false | some m => decide (m < xs.getD i 0)) (List.range k)
  rw [List.length_range] at this
  exact this
theorem greatL_gd {d : Tab} {ls : List (Option Int)} {n i : Nat} (h : i < n) : (greatL d ls n).getD i none = greatD d ls i n := by
  rw [List.getD_eq_getElem?_getD, greatL_at h]
  rfl
theorem bey_nil {n : Nat} {rs : List Rope} (F : Fit n rs) {xs : List Int} (hv : Valid xs rs) (ls : List (Option Int)) : beyD xs (greatL (chainTab n rs) ls n) n = [] ↔ Within xs ls n := by
  unfold beyD
  rw [List.filter_eq_nil_iff]
  constructor
  · intro h i y hi hy
    have h := h i (List.mem_range.mpr hi)
    rw [greatL_gd hi] at h
    have hm : y + 0 ∈ bnds (chainTab n rs) ls i n := bnds_mem.mpr ⟨i, y, 0, hi, hy, F.diag i hi, rfl⟩
    obtain ⟨m, e⟩ := minO_some hm
    have e' : greatD (chainTab n rs) ls i n = some m := e
    simp only [e', decide_eq_true_eq] at h
    have := (minO_min e).2 _ hm
    omega
  · intro h i hi
    have hi := List.mem_range.mp hi
    rw [greatL_gd hi]
    cases e : greatD (chainTab n rs) ls i n with
    | none => simp
    | some m =>
      simp only [decide_eq_true_eq]
      obtain ⟨j, l, x, hj, h1, h2, rfl⟩ := bnds_mem.mp (minO_min e).1
      have a := h j l hj h1
      have b := sound_chain (n := n) (x := fun i => gd xs i) (fun r hr => hv r hr) i j x h2
      have b : xs.getD i 0 - xs.getD j 0 ≤ x := b
      omega
end Hx

set_option Elab.async false
set_option linter.all false
set_option maxRecDepth 100000
set_option maxHeartbeats 4000000
namespace Hx
open PySem PySem.Spec PyProof.Rows L2
local macro_rules | `(tactic| walk_at "rd") => `(tactic| (try simp only [q_var, q_c, q_op, q_un, q_rI, q_rI0, q_rU, q_rEq, q_rNe, q_test, q_tB, q_and, q_or, q_not, q_andV, q_orV, q_notV, q_if, q_isN, q_notN, q_chain, q_next, q_seq, q_break, q_cont, q_drop, q_ret, q_retN, q_ifS, q_never, q_gN, q_gNil, q_gCons, q_gTup, q_gSub, q_asg, q_par, q_aug, q_nil, q_cons, q_tup, q_lst, q_call, q_cb, q_noPart, q_part, q_sl, q_bm0, q_bm, q_yes, q_for, q_lc, q_iList, q_iTup, q_iRng1, q_iEnumT, q_iEnum, q_iRng2, q_iZipA, q_iZipM, q_ipI, q_ckw, q_len, q_listOf, q_tupleOf, L2.start, cx_K, wipe, List.map_cons, List.map_nil, List.length_cons, List.length_nil, List.cons_append, List.nil_append, List.append_nil, List.replicate, List.getElem?_cons_zero, List.getElem?_cons_succ, List.set_cons_zero, List.set_cons_succ, Option.some.injEq, List.cons.injEq, exists_eq_left', exists_eq_left, exists_and_left, V.int.injEq, V.bl.injEq, V.ref.injEq, if_true, if_false, Bool.not_true, Bool.not_false, true_and, and_true, Bool.false_eq_true, ite_true, ite_false, Nat.reduceAdd, Nat.reduceSub, reduceCtorEq, decide_false, decide_true, Int.toNat_natCast, false_and, exists_false, or_false, false_or]))
section
variable {P : Program} {w : World} {K : PySem.W.Frag} {mg : Str → Option Value} {base : Heap}
/-- what the law holds as a turn goes on -/
structure LS (K : PySem.W.Frag) (a sc : Addr) (ns : List Int) (v : V) (u : V) (n : Nat) (rs : List Rope) (xs : List Int) (H : Hp) : Prop where
  row : RowAt K H a sc ns
  fleet : FleetV K H v n rs
  start : IntsT K H u xs
theorem LS.call {a sc : Addr} {ns : List Int} {v u : V} {n : Nat} {rs : List Rope} {xs : List Int} {H H' : Hp} (h : LS K a sc ns v u n rs xs H) (r : RowAt K H' a sc ns) (b : But a H H') : LS K a sc ns v u n rs xs H' := by
  obtain ⟨_, k⟩ := h.row.lst
  exact ⟨r, h.fleet.but b k, h.start.but b k⟩
theorem LS.new {a sc : Addr} {ns : List Int} {v u : V} {n : Nat} {rs : List Rope} {xs : List Int} {H H' : Hp} (h : LS K a sc ns v u n rs xs H) (e : Same H H') : LS K a sc ns v u n rs xs H' :=
  ⟨h.row.mono e, h.fleet.mono e, h.start.mono e⟩
/-- a table with k rows, new since H0 -/
structure TabTo (H0 H : Hp) (t : Addr) (as : List Addr) (n k : Nat) (d : Tab) : Prop where
  same : Same H0 H
  ft : H0 t = none
  fa : ∀ a ∈ as, H0 a = none
  top : H t = some (.lst (as.map V.ref))
  len : as.length = k
  nd : as.Nodup
  nt : t ∉ as
  row : ∀ i a, as[i]? = some a → H a = some (.lst (rowV n d i))
theorem TabTo.step {H0 H H2 : Hp} {t D : Addr} {as : List Addr} {n k : Nat} {d : Tab} (h : TabTo H0 H t as n k d) (e : Same H H2) (hD : H D = none) (hr : H2 D = some (.lst (rowV n d k))) : TabTo H0 (upd H2 t (.lst (as.map V.ref ++ [V.ref D]))) t (as ++ [D]) n (k + 1) d := by
  have nDt : D ≠ t := fun z => by rw [z, h.top] at hD; cases hD
  have nDa : D ∉ as := fun z => by
    obtain ⟨j, hj⟩ := List.mem_iff_getElem?.mp z
    rw [h.row j D hj] at hD
    cases hD
  refine ⟨fun b o q => ?_, h.ft, fun b hb => ?_, by rw [upd_same, List.map_append]; rfl, by rw [List.length_append, h.len]; rfl, ?_, fun z => ?_, fun i b hb => ?_⟩
  · rw [upd_ne (ne_of_none q h.ft)]
    exact e _ _ (h.same b o q)
  · rcases List.mem_append.mp hb with q | q
    · exact h.fa b q
    · rw [List.mem_singleton.mp q]
      cases q0 : H0 D with
      | none => rfl
      | some o =>
        rw [h.same D o q0] at hD
        cases hD
  · refine List.nodup_append.mpr ⟨h.nd, List.nodup_cons.mpr ⟨List.not_mem_nil, List.nodup_nil⟩, fun x hx y hy z => ?_⟩
    rw [List.mem_singleton.mp hy] at z
    exact nDa (z ▸ hx)
  · rcases List.mem_append.mp z with q | q
    · exact h.nt q
    · exact nDt (List.mem_singleton.mp q).symm
  · have nb : b ≠ t := by
      rintro rfl
      rcases List.mem_append.mp (List.mem_of_getElem? hb) with q | q
      · exact h.nt q
      · exact nDt (List.mem_singleton.mp q).symm
    rw [upd_ne nb]
    rcases Nat.lt_or_ge i as.length with q | q
    · rw [List.getElem?_append_left q] at hb
      exact e _ _ (h.row i b hb)
    · rw [List.getElem?_append_right q] at hb
      rcases Nat.eq_or_lt_of_le q with q2 | q2
      · rw [← q2, Nat.sub_self] at hb
        cases hb
        rw [← q2, h.len]
        exact hr
      · rw [List.getElem?_eq_none (by simp; omega)] at hb
        cases hb
/-- wishes of a turn -/
def WishD (ws : List (Option Int)) : Prop := ∀ e ∈ ws, ∀ i, e = some i → -100 ≤ i ∧ i ≤ 400
theorem WishD.ok {ws : List (Option Int)} (h : WishD ws) : OptOk ws := fun e he i hi => by have := h e he i hi; omega
theorem WishD.snoc {ws : List (Option Int)} {x : Option Int} (h : WishD ws) (hx : ∀ i, x = some i → -100 ≤ i ∧ i ≤ 400) : WishD (ws ++ [x]) := fun e he => by
  rcases List.mem_append.mp he with q | q
  · exact h e q
  · rw [List.mem_singleton.mp q]
    exact hx
theorem dp_ovV {H : Hp} : ∀ x : Option Int, Dp K H (ovV x) (ovP x)
  | none => .non
  | some i => .int i
theorem dpAll_ovV {H : Hp} : ∀ es : List (Option Int), DpAll K H (es.map ovV) (es.map ovP)
  | [] => .nil
  | e :: r => .cons (dp_ovV e) (dpAll_ovV r)
theorem dp_opts_t {H : Hp} {a : Addr} {es : List (Option Int)} (h : SqT K H a (es.map ovV)) : Dp K H (.ref a) (.tuple (es.map ovP)) := .tup h (dpAll_ovV es)
def prL (xs : List Int) (ys : List (Option Int)) : List (Int × Option Int) := (List.range xs.length).map fun j => (xs.getD j 0, ys.getD j none)
theorem dp_pairs {H : Hp} {v : V} {xs : List Int} {ys : List (Option Int)} (h : PairsL H v xs ys) : Dp K H v (.list ((prL xs ys).map fun p => prP p.1 p.2)) := by
  obtain ⟨p, ts, rfl, h1, h2, _, h4⟩ := h
  refine .lst (.of h1) (dp_prs ts _ (by unfold prL; rw [List.length_map, List.length_range, h2]) fun j t q e1 e2 => ?_)
  unfold prL at e2
  rw [List.getElem?_map] at e2
  cases hj : (List.range xs.length)[j]? with
  | none =>
    rw [hj] at e2
    cases e2
  | some i =>
    rw [hj] at e2
    have ei : i = j := by
      obtain ⟨hlt, e⟩ := List.getElem?_eq_some_iff.mp hj
      rw [List.getElem_range] at e
      exact e.symm
    subst ei
    cases e2
    exact .tup (.of (h4 i t e1)) (.cons (.int _) (.cons (dp_ovV _) .nil))
theorem lc_wish {a sc p cu : Addr} {ns : List Int} {xs : List Int} {H : Hp} {c : Int} {Qd : Hp → Prop} {x0 x2 x3 x4 x5 x6 x7 x8 x9 x10 x11 x12 x13 x14 x15 x16 x17 x18 x19 : Option V} (row : RowAt K H a sc ns) (hcu : SqT K H cu (xs.map V.int)) (hp : H p = none) (h8 : xs.length ≤ 8) (hb : ∀ i, i < xs.length → -4 ≤ gd xs i ∧ gd xs i ≤ 300) (c0 : 0 ≤ c) (c1 : c ≤ 20)
    (hq : ∀ H' ws, RowAt K H' a sc ns → But a H H' → H' p = some (.lst (ws.map ovV)) → ws.length = xs.length → WishD ws → Qd H') :
    LcW (Itt K cu) (gName 10) tYes (tIf (tTest (tOp rEq (tCall (sp_law_taken K) [] E0 (tCons (tVar 1) (tCons (tC (V.int 2)) tNil))) (tC (V.int 0)))) (tC V.non)
      (tOp (rI0 fun i j => V.int (i - j)) (tOp (rI0 fun i j => V.int (i + j)) (tVar 10) (tCall (sp_law_taken K) [] E0 (tCons (tVar 1) (tCons (tC (V.int 60)) tNil)))) (tC (V.int c)))) [10] p
      [x0, some (.ref a), x2, x3, x4, x5, x6, x7, x8, x9, x10, x11, x12, x13, x14, x15, x16, x17, x18, x19] H Qd := by
  have hz : 100 ≤ sizeLine := by decide
  refine lcTup (xs := xs.map V.int) (fun i H' => RowAt K H' a sc ns ∧ But a H H' ∧ ∃ ws : List (Option Int), H' p = some (.lst (ws.map ovV)) ∧ ws.length = i ∧ WishD ws) ⟨row.mono (same_upd hp), same_but (same_upd hp), [], upd_same, rfl, fun e z => (List.not_mem_nil z).elim⟩ (fun i H' _ hPv => ?_) (fun i x H' hx hPv => ?_) (fun H' hPv => ?_)
  · obtain ⟨r, b, _⟩ := hPv
    obtain ⟨_, k⟩ := row.lst
    exact sqt_but b k hcu
  · obtain ⟨r, b, ws, hL, hl, hw⟩ := hPv
    obtain ⟨hi, rfl⟩ := ints_at hx
    have hbi : -4 ≤ xs.getD i 0 ∧ xs.getD i 0 ≤ 300 := hb i hi
    have npa := row.ne hp
    have fin : ∀ {H2 : Hp} {x : Option Int}, RowAt K H2 a sc ns → But a H' H2 → (∀ j, x = some j → -100 ≤ j ∧ j ≤ 400) → ∃ acc, H2 p = some (.lst acc) ∧ acc.length < sizeLine ∧ RowAt K (upd H2 p (.lst (acc ++ [ovV x]))) a sc ns ∧ But a H (upd H2 p (.lst (acc ++ [ovV x]))) ∧ ∃ ws : List (Option Int), (upd H2 p (.lst (acc ++ [ovV x]))) p = some (.lst (ws.map ovV)) ∧ ws.length = i + 1 ∧ WishD ws := by
      intro H2 x r2 b2 hx
      refine ⟨_, b2 _ _ npa hL, by rw [List.length_map]; omega, row.put hp (b.trans b2) r2, (b.trans b2).put hp, ws ++ [x], ?_, by rw [List.length_append, hl]; rfl, hw.snoc hx⟩
      rw [upd_same, List.map_append]
      rfl
    walk_at "rd"
    refine ⟨a, sc, ns, 2, rfl, r, by omega, by omega, fun r1 H1 r10 r11 row1 b1 => ?_⟩
    walk_at "rd"
    refine ⟨rfl, ?_⟩
    by_cases h0 : r1 = 0
    · simp only [h0, decide_true, ite_true]
      exact fin (x := none) row1 b1 fun j h => by cases h
    · simp only [h0, decide_false, Bool.false_eq_true, ite_false]
      refine ⟨a, sc, ns, 60, rfl, row1, by omega, by omega, fun r2 H2 r20 r21 row2 b2 => ?_⟩
      walk_at "rd"
      exact fin (x := some (xs.getD i 0 + r2 - c)) row2 (b1.trans b2) fun j h => by
        cases h
        omega
  · obtain ⟨r, b, ws, hL, hl, hw⟩ := hPv
    rw [List.length_map] at hl
    exact hq _ ws r b hL hl hw
def s_law : Stmt := topS 49
abbrev n_law : List Str := ["_law_script", "_law_row", "_law_turn", "_law_fleet_here", "_law_start_here", "_law_count", "_law_lengths", "_law_rear", "_law_front", "_law_wishes", "_law_place", "_law_due", "_law_barge", "_law_there", "_law_one", "_law_two", "_law_limits", "_law_high", "_law_beyond", "_law_k"]
abbrev p_law : List Str := ["_law_script"]
theorem sc_law : FnScope n_law p_law (defScope s_law) := ⟨rfl, rfl, rfl, by decide +kernel, rfl, by decide +kernel, by decide +kernel⟩
def sp_law (K : PySem.W.Frag) : Sp := fun vs H Q _ => ∃ (sc : Addr) (ns : List Int), vs = [.ref sc] ∧ SqL K H sc (ns.map V.int) ∧ ns.length ≤ 1000 ∧ ∀ H', Q (.bl true) H'
theorem ok_law {fa : Addr} {fd : FuncData} (T : Fun K "law" "law" s_law fa fd) (B : Blt mg) (D_law_taken : Df P w K mg base CX0 "_law_taken" 1 p_law_taken (sp_law_taken K)) (D_law_fleet : Df P w K mg base CX0 "_law_fleet" 2 p_law_fleet (sp_law_fleet K)) (D_law_start : Df P w K mg base CX0 "_law_start" 3 p_law_start (sp_law_start K))
    (D_chain_length : Df P w K mg base CX0 "chain_length" 5 p_chain_length (sp_chain_length K)) (D_law_is_hauled : Df P w K mg base CX0 "_law_is_hauled" 9 p_law_is_hauled (sp_law_is_hauled K)) (D_law_dragged : Df P w K mg base CX0 "_law_dragged" 1 p_law_dragged (sp_law_dragged K))
    (D_least_positions : Df P w K mg base CX0 "least_positions" 5 p_least_positions (sp_least_positions K)) (D_law_greatest : Df P w K mg base CX0 "_law_greatest" 1 p_law_greatest (sp_law_greatest K)) (D_greatest_positions : Df P w K mg base CX0 "greatest_positions" 5 p_greatest_positions (sp_greatest_positions K))
    (D_reachable_ranges : Df P w K mg base CX0 "reachable_ranges" 6 p_reachable_ranges (sp_reachable_ranges K)) :
    FnOk P w K mg base CX0 10 fa fd p_law (sp_law K) := by
  refine T.ok sc_law (fun vs H Q E h => by obtain ⟨_, _, rfl, _⟩ := h; rfl) (fun cdv A outer s H vs Q E hr h => ?_)
  obtain ⟨sc, ns, rfl, hsc, hns, q⟩ := h
  refine ⟨_, pss_cons (ps_set (i := 1) sc_law.nd rfl (by first | exact Or.inl rfl | exact Or.inr rfl) (pe_lst (pa_cons (pv 0) (pa_cons (pe_int) (pa_cons (pe_int) (pa_cons (pe_int) pa_nil))))))
      (pss_cons (ps_for PassesOwn.never rfl (pi_range1 (by rfl) B.range (pa_cons (pe_int) pa_nil)) (pg_name (i := 2) sc_law.nd rfl (by first | exact Or.inl rfl | exact Or.inr rfl)) (pss_cons (ps_set (i := 3) sc_law.nd rfl (by first | exact Or.inl rfl | exact Or.inr rfl) (D_law_fleet.call (hr.mono (by decide)) (by rfl) (pa_cons (pv 1) (pa_cons (pe_int) pa_nil))))
      (pss_cons (ps_asg (pe_tup (pa_cons (D_law_start.call (hr.mono (by decide)) (by rfl) (pa_cons (pv 1) (pa_cons (pv 3) pa_nil))) (pa_cons (pe_ix (ixT K rfl) (pv 3) (pe_int) (fun _ _ => rfl)) pa_nil))) (pgTup K rfl (n := 2) rfl (pgs_cons (pg_name (i := 4) sc_law.nd rfl (by first | exact Or.inl rfl | exact Or.inr rfl)) (pgs_cons (pg_name (i := 5) sc_law.nd rfl (by first | exact Or.inl rfl | exact Or.inr rfl)) pgs_nil))))
      (pss_cons (ps_setLc (i := 6) (own := [("_law_front", 8)]) rfl sc_law.nd rfl rfl (sw_true rfl rfl rfl (by decide +kernel)) (pi_range1 (by rfl) B.range (pa_cons (pv 5) pa_nil)) (blkOk_by (N := n_law) (sc := defScope s_law) (by decide +kernel)) (fun _ _ _ _ _ => pg_name (i := 8) sc_law.nd rfl (by first | exact Or.inl rfl | exact Or.inr rfl)) (fun _ _ _ _ _ => pts_nil) (fun _ _ _ _ _ => pe_lcIn (S := defScope s_law) (own := [("_law_rear", 7)]) rfl sc_law.nd rfl (pi_range1 (by rfl) B.range (pa_cons (pv 5) pa_nil)) (blkOk_by (N := n_law) (by decide +kernel)) (fun _ _ _ _ _ => pg_name (i := 7) sc_law.nd rfl (by first | exact Or.inl rfl | exact Or.inr rfl)) (fun _ _ _ _ _ => pts_nil) (fun _ _ _ _ _ => D_chain_length.call (hr.mono (by decide)) (by rfl) (pa_cons (pv 3) (pa_cons (pv 8) (pa_cons (pv 7) pa_nil))))))
      (pss_cons (ps_if (pt_not (pt_val (D_law_is_hauled.call (hr.mono (by decide)) (by rfl) (pa_cons (pv 1) (pa_cons (pv 3) (pa_cons (pv 6) (pa_cons (pv 4) pa_nil))))))) (pss_one (ps_ret (pe_bl))) (pss_nil))
      (pss_cons (ps_set (i := 9) sc_law.nd rfl (by first | exact Or.inl rfl | exact Or.inr rfl) (pe_callTy (tupleOf K rfl) (by rfl) B.tuple (by decide +kernel) (pa_cons (pe_lc (own := [("_law_place", 10)]) rfl sc_law.nd (piTup K rfl (pv 4)) (blkOk_by (N := n_law) (sc := defScope s_law) (by decide +kernel)) (fun _ _ _ _ _ => pg_name (i := 10) sc_law.nd rfl (by first | exact Or.inl rfl | exact Or.inr rfl)) (fun _ _ _ _ _ => pts_nil) (fun _ _ _ _ _ => pe_ifExp (pt_cmpR op_eq (D_law_taken.call (hr.mono (by decide)) (by rfl) (pa_cons (pv 1) (pa_cons (pe_int) pa_nil))) (pe_int) (nomark _)) (pe_non) (pe_op op_sub (pe_op op_add (pv 10) (D_law_taken.call (hr.mono (by decide)) (by rfl) (pa_cons (pv 1) (pa_cons (pe_int) pa_nil)))) (pe_int)))) pa_nil)))
      (pss_cons (ps_set (i := 11) sc_law.nd rfl (by first | exact Or.inl rfl | exact Or.inr rfl) (pv 4))
      (pss_cons (ps_for PassesOwn.never rfl (pi_range1 (by rfl) B.range (pa_cons (pv 5) pa_nil)) (pg_name (i := 12) sc_law.nd rfl (by first | exact Or.inl rfl | exact Or.inr rfl)) (pss_one (ps_if (PW.pt (pw_and (pt_cmpR op_notN (pe_ix (ixT K rfl) (pv 9) (pv 12) (fun _ _ => rfl)) (pe_non) (nomark _)) (pw_and1 (pt_cmpR op_gt (pe_ix (ixT K rfl) (pv 9) (pv 12) (fun _ _ => rfl)) (pe_ix (ixT K rfl) (pv 4) (pv 12) (fun _ _ => rfl)) (nomark _))))) (pss_cons (ps_set (i := 13) sc_law.nd rfl (by first | exact Or.inl rfl | exact Or.inr rfl) (D_law_dragged.call (hr.mono (by decide)) (by rfl) (pa_cons (pv 6) (pa_cons (pv 4) (pa_cons (pv 12) (pa_cons (pe_ix (ixT K rfl) (pv 9) (pv 12) (fun _ _ => rfl)) pa_nil))))))
      (pss_one (ps_set (i := 11) sc_law.nd rfl (by first | exact Or.inl rfl | exact Or.inr rfl) (pe_callTy (tupleOf K rfl) (by rfl) B.tuple (by decide +kernel) (pa_cons (pe_lc (own := [("_law_one", 14), ("_law_two", 15)]) rfl sc_law.nd (piZipA K rfl (by rfl) B.zip (pa_cons (pv 11) (pa_cons (pv 13) pa_nil))) (blkOk_by (N := n_law) (sc := defScope s_law) (by decide +kernel)) (fun _ _ _ _ _ => pgTup K rfl (n := 2) rfl (pgs_cons (pg_name (i := 14) sc_law.nd rfl (by first | exact Or.inl rfl | exact Or.inr rfl)) (pgs_cons (pg_name (i := 15) sc_law.nd rfl (by first | exact Or.inl rfl | exact Or.inr rfl)) pgs_nil))) (fun _ _ _ _ _ => pts_nil) (fun _ _ _ _ _ => pe_callB (call_max2 rfl) (by rfl) B.max (by decide +kernel) (pa_cons (pv 14) (pa_cons (pv 15) pa_nil)))) pa_nil))))) (pss_nil))))
      (pss_cons (ps_if (pt_cmpR (neD K rfl hr.units) (D_least_positions.call (hr.mono (by decide)) (by rfl) (pa_cons (pv 3) (pa_cons (pv 4) (pa_cons (pv 9) pa_nil)))) (pv 11) (nomark _)) (pss_one (ps_ret (pe_bl))) (pss_nil))
      (pss_cons (ps_set (i := 16) sc_law.nd rfl (by first | exact Or.inl rfl | exact Or.inr rfl) (pe_callTy (tupleOf K rfl) (by rfl) B.tuple (by decide +kernel) (pa_cons (pe_lc (own := [("_law_place", 10)]) rfl sc_law.nd (piTup K rfl (pv 4)) (blkOk_by (N := n_law) (sc := defScope s_law) (by decide +kernel)) (fun _ _ _ _ _ => pg_name (i := 10) sc_law.nd rfl (by first | exact Or.inl rfl | exact Or.inr rfl)) (fun _ _ _ _ _ => pts_nil) (fun _ _ _ _ _ => pe_ifExp (pt_cmpR op_eq (D_law_taken.call (hr.mono (by decide)) (by rfl) (pa_cons (pv 1) (pa_cons (pe_int) pa_nil))) (pe_int) (nomark _)) (pe_non) (pe_op op_sub (pe_op op_add (pv 10) (D_law_taken.call (hr.mono (by decide)) (by rfl) (pa_cons (pv 1) (pa_cons (pe_int) pa_nil)))) (pe_int)))) pa_nil)))
      (pss_cons (ps_set (i := 17) sc_law.nd rfl (by first | exact Or.inl rfl | exact Or.inr rfl) (D_law_greatest.call (hr.mono (by decide)) (by rfl) (pa_cons (pv 6) (pa_cons (pv 16) pa_nil))))
      (pss_cons (ps_if (pt_cmpR (neD K rfl hr.units) (D_greatest_positions.call (hr.mono (by decide)) (by rfl) (pa_cons (pv 3) (pa_cons (pv 16) pa_nil))) (pv 17) (nomark _)) (pss_one (ps_ret (pe_bl))) (pss_nil))
      (pss_cons (ps_setLc (i := 18) (own := [("_law_k", 19)]) rfl sc_law.nd rfl rfl (sw_true rfl rfl rfl (by decide +kernel)) (pi_range1 (by rfl) B.range (pa_cons (pv 5) pa_nil)) (blkOk_by (N := n_law) (sc := defScope s_law) (by decide +kernel)) (fun _ _ _ _ _ => pg_name (i := 19) sc_law.nd rfl (by first | exact Or.inl rfl | exact Or.inr rfl)) (fun _ _ _ _ _ => pts_one (PW.pt (pw_and (pt_cmpR op_notN (pe_ix (ixT K rfl) (pv 17) (pv 19) (fun _ _ => rfl)) (pe_non) (nomark _)) (pw_and1 (pt_cmpR op_lt (pe_ix (ixT K rfl) (pv 17) (pv 19) (fun _ _ => rfl)) (pe_ix (ixT K rfl) (pv 4) (pv 19) (fun _ _ => rfl)) (nomark _)))))) (fun _ _ _ _ _ => pv 19))
      (pss_one (ps_if (pt_cmpR (neD K rfl hr.units) (D_reachable_ranges.call (hr.mono (by decide)) (by rfl) (pa_cons (pv 3) (pa_cons (pv 4) (pa_cons (pv 16) pa_nil)))) (pe_ifExp (pt_cmpR (neD K rfl hr.units) (pv 18) (pe_lst (pa_nil)) (nomark _)) (pe_non) (peListZip K rfl rfl (by rfl) B.list (by rfl) B.zip (pa_cons (pv 4) (pa_cons (pv 17) pa_nil)))) (nomark _)) (pss_one (ps_ret (pe_bl))) (pss_nil))))))))))))))))
      (pss_one (ps_ret (pe_bl)))), ?_⟩
  have hz : 100 ≤ sizeLine := by decide
  walk_at "rd"
  refine ⟨by omega, fun a ha => ⟨by omega, by omega, ?_⟩⟩
  have hrow : RowAt K (upd H a (.lst [.ref sc, .int 0, .int 0, .int 0])) a sc ns := by
    refine ⟨0, 0, 0, upd_same, (same_upd ha).seq hsc, ?_, by omega, by omega, by omega, by omega⟩
    rcases hsc with (h | ⟨o, h⟩) | h
    · exact .inl (ne_of_none h ha)
    · exact .inl (ne_of_none h ha)
    · exact .inr (.inr h)
  have e2 : (2 : Int).toNat = 2 := rfl
  rw [e2]
  refine forRange (fun k σ H' => ∃ x2 x3 x4 x5 x6 x7 x8 x9 x10 x11 x12 x13 x14 x15 x16 x17 x18 x19, σ = [some (.ref sc), some (.ref a), x2, x3, x4, x5, x6, x7, x8, x9, x10, x11, x12, x13, x14, x15, x16, x17, x18, x19] ∧ RowAt K H' a sc ns)
    ⟨_, _, _, _, _, _, _, _, _, _, _, _, _, _, _, _, _, _, rfl, hrow⟩ (fun k σ H0 hk hPv => ?_) (fun σ H' hPv => ?_)
  · obtain ⟨x2, x3, x4, x5, x6, x7, x8, x9, x10, x11, x12, x13, x14, x15, x16, x17, x18, x19, rfl, row0⟩ := hPv
    walk_at "rd"
    refine ⟨a, sc, ns, 7, rfl, row0, by omega, by omega, fun H1 v n rs row1 b1 hv hok hn7 hkp => ?_⟩
    obtain ⟨pl, hpl0, hplh⟩ := hkp
    have hpl : Pl n rs pl := ⟨fun i => (hpl0 i).1, fun i => (hpl0 i).2, hplh⟩
    have F := Fit.of hok.2.2.2 hpl.holds
    have n8 : n ≤ 8 := by have := hok.2.1; omega
    walk_at "rd"
    refine ⟨a, sc, ns, v, n, rs, pl, rfl, row1, hv, hok, hpl, fun H2 u xs row2 b2 hu hxn hva hbd => ?_⟩
    obtain ⟨_, k1⟩ := row1.lst
    have hv := hv.but b2 k1
    obtain ⟨fa, fb, fx, rfl, hfa, hfb⟩ := id hv
    obtain ⟨cu, rfl, hcu⟩ := id hu
    walk_at "rd"
    refine ⟨fa, _, 0, _, rfl, rfl, hfa, atI_nat (j := 0) rfl, ?_⟩
    refine ⟨by omega, fun p2 hp2 => ⟨_, .of upd_same, rfl, ?_⟩⟩
    have S := (LS.mk row2 hv hu).new (same_upd (o := .tup [V.ref cu, V.int n]) hp2)
    generalize upd H2 p2 (.tup [V.ref cu, V.int n]) = H3 at S ⊢
    obtain ⟨_, k3⟩ := S.row.lst
    walk_at "rd"
    refine ⟨by omega, by omega, fun L hL => ?_⟩
    refine lcRange (fun i H' => ∃ as, TabTo H3 H' L as n i (chainTab n rs)) ⟨[], same_upd hL, hL, fun _ z => (List.not_mem_nil z).elim, upd_same, rfl, List.nodup_nil, List.not_mem_nil, fun i b z => by simp at z⟩ (fun i H' hi hPv => ?_) (fun H4 hPv => ?_)
    · obtain ⟨as, tt⟩ := hPv
      walk_at "rd"
      refine ⟨by omega, by omega, fun D hD => ?_⟩
      refine lcRange (fun j H2' => Same H' H2' ∧ H2' D = some (.lst ((rowV n (chainTab n rs) i).take j))) ⟨same_upd hD, upd_same⟩ (fun j H2' hj hPv => ?_) (fun H2' hPv => ?_)
      · obtain ⟨e, hr'⟩ := hPv
        walk_at "rd"
        refine ⟨.ref fa, n, rs, i, j, rfl, S.fleet.mono (tt.same.trans e), hok, hi, hj, F.diag, fun H5 s5 => ?_⟩
        refine ⟨_, s5 _ _ hr', by rw [List.length_take, rowV_len]; omega, fun z o hz' => ?_, ?_⟩
        · rw [upd_ne (ne_of_none hz' hD)]
          exact s5 _ _ (e z o hz')
        · rw [upd_same, List.take_add_one, rowV_at _ i hj]
          rfl
      · obtain ⟨e, hr'⟩ := hPv
        rw [List.take_of_length_le (by rw [rowV_len]; exact Nat.le_refl _)] at hr'
        walk_at "rd"
        exact ⟨_, e _ _ tt.top, by rw [List.length_map, tt.len]; omega, as ++ [D], tt.step e hD hr'⟩
    · obtain ⟨as, tt⟩ := hPv
      have S := S.new tt.same
      have ht : TabAt H4 L as n (chainTab n rs) := ⟨tt.top, tt.len, tt.nd, tt.nt, tt.row⟩
      obtain ⟨_, k4⟩ := S.row.lst
      have nta : L ≠ a := by
        rintro rfl
        have := tt.ft
        rw [k3] at this
        cases this
      have naa : a ∉ as := fun z => by
        have := tt.fa a z
        rw [k3] at this
        cases this
      walk_at "rd"
      have hbx : ∀ i, i < xs.length → -4 ≤ gd xs i ∧ gd xs i ≤ 300 := fun i hi => by
        have h1 := hbd i (by omega)
        have h2 := hpl.hi i
        omega
      refine ⟨a, sc, ns, .ref fa, L, as, .ref cu, n, rs, pl, xs, rfl, S.row, S.fleet, hok, hpl, ht, nta, naa, S.start, hxn, hva, hbd, fun H5 row5 b5 => ⟨_, rfl, ?_⟩⟩
      have S := S.call row5 b5
      have ht := ht.but b5 nta naa
      simp only [Bool.not_true, Bool.false_eq_true, if_false]
      obtain ⟨_, ecu, hcu5⟩ := id S.start
      cases ecu
      refine ⟨⟨_, hcu5⟩, fun p3 hp3 => ?_⟩
      refine lc_wish S.row hcu5 hp3 (by omega) hbx (by omega) (by omega) fun H6 ws row6 b6 hL6 hwl hwd => ?_
      have S := S.call row6 b6
      have ht := ht.but b6 nta naa
      refine ⟨_, .inl ⟨.of hL6, fun p4 hp4 => ?_⟩⟩
      have e4 := same_upd (o := .tup (ws.map ovV)) hp4
      have S := S.new e4
      have ht := ht.mono e4
      have hw7 : SqT K (upd H6 p4 (.tup (ws.map ovV))) p4 (ws.map ovV) := .of upd_same
      generalize upd H6 p4 (.tup (ws.map ovV)) = H7 at S ht hw7 ⊢
      obtain ⟨_, ecu, hcu7⟩ := id S.start
      cases ecu
      refine ⟨by omega, by omega, ?_⟩
      refine forRange (fun i σ H' => ∃ cd y7 y8 y10 y12 y13 y14 y15 y16 y17 y18 y19, σ = [some (.ref sc), some (.ref a), some (.int k), some (.ref fa), some (.ref cu), some (.int n), some (.ref L), y7, y8, some (.ref p4), y10, some (.ref cd), y12, y13, y14, y15, y16, y17, y18, y19] ∧ Same H7 H' ∧ SqT K H' cd ((dueD (chainTab n rs) ws xs i).map V.int))
        ⟨cu, _, _, _, _, _, _, _, _, _, _, _, rfl, .refl _, hcu7⟩ (fun i σ H' hi hPv => ?_) (fun σ H8 hPv => ?_)
      · obtain ⟨cd, y7, y8, y10, y12, y13, y14, y15, y16, y17, y18, y19, rfl, e, hcd⟩ := hPv
        have S := S.new e
        have ht := ht.mono e
        have hw8 := sqt_same e hw7
        obtain ⟨_, ecu, hcu8⟩ := id S.start
        cases ecu
        walk_at "rd"
        refine ⟨p4, _, i, _, rfl, rfl, hw8, atI_nat (at_opts (by omega)), ?_⟩
        cases hwi : ws.getD i none with
        | none =>
          simp only [ovV, decide_true, Bool.not_true, Bool.false_eq_true, ite_false, dueD_none hwi]
          exact ⟨cd, _, _, _, _, _, _, _, _, _, _, _, ⟨rfl, rfl, rfl, rfl, rfl, rfl, rfl, rfl, rfl, rfl, rfl, rfl⟩, e, hcd⟩
        | some z =>
          simp only [ovV, reduceCtorEq, decide_false, Bool.not_false, ite_true]
          refine ⟨p4, _, i, _, rfl, rfl, hw8, atI_nat (at_opts (by omega)), cu, _, i, _, rfl, rfl, hcu8, atI_nat (at_ints (by omega)), ?_⟩
          rw [hwi]
          simp only [ovV]
          walk_at "rd"
          by_cases hlt : xs.getD i 0 < z
          · simp only [hlt, decide_true, ite_true, dueD_mv hwi hlt]
            refine ⟨p4, _, i, _, rfl, rfl, hw8, atI_nat (at_opts (by omega)), ?_⟩
            rw [hwi]
            simp only [ovV]
            refine ⟨L, as, n, _, .ref cu, xs, i, z, rfl, ht, S.start, hxn, hi, n8, fun H9 th s9 hth0 hth => ?_⟩
            have hcd9 := sqt_same s9 hcd
            refine ⟨cd, th, ⟨rfl, rfl⟩, _, _, .inr ⟨hcd9, .of hth, fun D hD => ?_⟩⟩
            have ldu := dueD_len (chainTab n rs) ws xs i
            have lmv := moveD_len (chainTab n rs) xs i z
            generalize dueD (chainTab n rs) ws xs i = du at hcd9 ldu ⊢
            generalize moveD (chainTab n rs) xs i z = mv at hth lmv ⊢
            refine lcZipT (xs := du.map V.int) (ys := mv.map V.int) (by rw [List.length_map, List.length_map, ldu, lmv]) (fun j H' => Same H9 H' ∧ H' D = some (.lst (((maxL du mv).take j).map V.int))) ⟨same_upd hD, upd_same⟩ (fun j H' _ hPv => ?_) (fun j x y T H' hx hy hPv hT => ?_) (fun H10 hPv => ?_)
            · exact ⟨sqt_same hPv.1 hcd9, sqt_same hPv.1 (.of hth)⟩
            · obtain ⟨ej, hLj⟩ := hPv
              obtain ⟨hj, rfl⟩ := ints_at hx
              obtain ⟨hj2, rfl⟩ := ints_at hy
              have eT := same_upd (o := .tup [V.int (du.getD j 0), .int (mv.getD j 0)]) hT
              walk_at "rd"
              refine ⟨_, .of upd_same, rfl, ?_⟩
              walk_at "rd"
              refine ⟨_, _, ⟨rfl, rfl⟩, _, eT _ _ hLj, by rw [List.length_map, List.length_take, maxL_len]; omega, fun z o hz' => ?_, ?_⟩
              · rw [upd_ne (ne_of_none hz' hD)]
                exact eT _ _ (ej z o hz')
              · rw [upd_same, maxL_next hj]
            · obtain ⟨ej, hLj⟩ := hPv
              rw [List.length_map, List.take_of_length_le (by rw [maxL_len]; exact Nat.le_refl _)] at hLj
              refine ⟨_, .inl ⟨.of hLj, fun p10 hp10 => ?_⟩⟩
              have e10 := same_upd (o := .tup ((maxL du mv).map V.int)) hp10
              exact ⟨p10, _, _, _, _, _, _, _, _, _, _, _, ⟨rfl, rfl, rfl, rfl, rfl, rfl, rfl, rfl, rfl, rfl, rfl, rfl⟩, e.trans (s9.trans (ej.trans e10)), .of upd_same⟩
          · simp only [hlt, decide_false, Bool.false_eq_true, ite_false, dueD_st hwi hlt]
            exact ⟨cd, _, _, _, _, _, _, _, _, _, _, _, ⟨rfl, rfl, rfl, rfl, rfl, rfl, rfl, rfl, rfl, rfl, rfl, rfl⟩, e, hcd⟩
      · obtain ⟨cd, y7, y8, y10, y12, y13, y14, y15, y16, y17, y18, y19, rfl, e, hcd⟩ := hPv
        have S := S.new e
        have ht := ht.mono e
        have hw8 := sqt_same e hw7
        rw [← least_due F hxn hva ws] at hcd
        have W : WayOk n rs xs := ⟨hok, hxn, Bnd.range (M := 203) hbd hpl hxn (by omega), hva⟩
        walk_at "rd"
        refine ⟨.ref fa, .ref cu, .ref p4, n, rs, xs, ws, rfl, S.fleet, S.start, W, ⟨p4, rfl, hw8⟩, by omega, hwd.ok, fun H9 r s9 hr' => ?_⟩
        obtain ⟨r, rfl, hr'⟩ := hr'
        refine ne_same (dp_ints_t hr') (dp_ints_t (sqt_same s9 hcd)) (shaped_opts_t _) ⟨_, rfl, ?_⟩
        simp only [Bool.false_eq_true, if_false]
        have S := S.new s9
        have ht := ht.mono s9
        obtain ⟨_, ecu, hcu9⟩ := id S.start
        cases ecu
        refine ⟨⟨_, hcu9⟩, fun p5 hp5 => ?_⟩
        refine lc_wish S.row hcu9 hp5 (by omega) hbx (by omega) (by omega) fun H10 ls row10 b10 hL10 hll hld => ?_
        have S := S.call row10 b10
        have ht := ht.but b10 nta naa
        refine ⟨_, .inl ⟨.of hL10, fun p6 hp6 => ?_⟩⟩
        have e6 := same_upd (o := .tup (ls.map ovV)) hp6
        have S := S.new e6
        have ht := ht.mono e6
        have hl11 : OptsT K (upd H10 p6 (.tup (ls.map ovV))) (.ref p6) ls := ⟨p6, rfl, .of upd_same⟩
        generalize upd H10 p6 (.tup (ls.map ovV)) = H11 at S ht hl11 ⊢
        refine ⟨L, as, .ref p6, n, _, ls, rfl, ht, hl11, by omega, n8, fun H12 g1 s12 hg1 => ?_⟩
        have S := S.new s12
        have ht := ht.mono s12
        have hl12 := hl11.mono s12
        refine ⟨.ref fa, .ref p6, n, rs, ls, rfl, S.fleet, hok, F.diag, hl12, by omega, hld.ok, fun H13 g2 s13 hg2 => ?_⟩
        have S := S.new s13
        have hl13 := hl12.mono s13
        have hg13 := hg1.mono s13
        obtain ⟨g1, rfl, hga⟩ := hg13
        obtain ⟨g2, rfl, hgb⟩ := hg2
        refine ne_same (dp_opts_t hgb) (dp_opts_t hga) (shaped_opts_t _) ⟨_, rfl, ?_⟩
        simp only [Bool.false_eq_true, if_false]
        refine ⟨by omega, by omega, fun p7 hp7 => ?_⟩
        have lg := greatL_len (chainTab n rs) ls n
        have hby := bey_nil F hva ls
        generalize hgen : greatL (chainTab n rs) ls n = gl at hga hgb lg hby ⊢
        refine lcRange (fun i H' => Same H13 H' ∧ H' p7 = some (.lst (natV (beyD xs gl i)))) ⟨same_upd hp7, upd_same⟩ (fun i H' hi hPv => ?_) (fun H14 hPv => ?_)
        · obtain ⟨ei, hLi⟩ := hPv
          have S := S.new ei
          obtain ⟨_, ecu, hcu14⟩ := id S.start
          cases ecu
          have hgi := sqt_same ei hga
          have hlen : (natV (beyD xs gl i)).length < sizeLine := by
            have := beyD_le xs gl i
            unfold natV
            rw [List.length_map]
            omega
          walk_at "rd"
          refine ⟨g1, _, i, _, rfl, rfl, hgi, atI_nat (at_opts (by omega)), ?_⟩
          walk_at "rd"
          cases hgl : gl.getD i none with
          | none =>
            simp only [ovV, decide_true, Bool.not_true, Bool.false_eq_true, ite_false, beyD_succ, hgl, List.append_nil]
            exact ⟨ei, hLi⟩
          | some z =>
            simp only [ovV, reduceCtorEq, decide_false, Bool.not_false, ite_true]
            refine ⟨g1, _, i, _, rfl, rfl, hgi, atI_nat (at_opts (by omega)), cu, _, i, _, rfl, rfl, hcu14, atI_nat (at_ints (by omega)), ?_⟩
            rw [hgl]
            simp only [ovV]
            walk_at "rd"
            by_cases hlt : z < xs.getD i 0
            · simp only [hlt, decide_true, ite_true, beyD_succ, hgl]
              refine ⟨_, hLi, hlen, fun z2 o hz' => ?_, ?_⟩
              · rw [upd_ne (ne_of_none hz' hp7)]
                exact ei z2 o hz'
              · rw [upd_same]
                unfold natV
                rw [List.map_append]
                rfl
            · simp only [hlt, decide_false, Bool.false_eq_true, ite_false, beyD_succ, hgl, List.append_nil]
              exact ⟨ei, hLi⟩
        · obtain ⟨ei, hLi⟩ := hPv
          have S := S.new ei
          have hli := hl13.mono ei
          have hgi := sqt_same ei hga
          walk_at "rd"
          refine ⟨.ref fa, .ref cu, .ref p6, n, rs, xs, ls, rfl, S.fleet, S.start, W, F.diag, hli, by omega, hld.ok, fun H15 r s15 hin hout => ?_⟩
          refine ⟨Nat.zero_le _, fun p8 hp8 => ?_⟩
          have S := S.new s15
          have e8 := same_upd (o := .lst []) hp8
          have S := S.new e8
          have hL8 := e8 _ _ (s15 _ _ hLi)
          rw [natV_ints] at hL8
          have hg8 := sqt_same (s15.trans e8) hgi
          have hin := fun W => (hin W).mono e8
          rw [hgen] at hin
          have hp8' : (upd H15 p8 (.lst [])) p8 = some (.lst ((([] : List Int)).map V.int)) := upd_same
          generalize upd H15 p8 (.lst []) = H16 at S hL8 hg8 hin hp8' ⊢
          refine ⟨_, _, dp_ints_l (.of hL8), dp_ints_l (.of hp8'), shaped_opts_l _, shaped_opts_l _, ?_⟩
          cases hb : beyD xs gl n with
          | nil =>
            refine ⟨false, rfl, ?_⟩
            simp only [Bool.false_eq_true, if_false, q_tZipL]
            walk_at "rd"
            obtain ⟨_, ecu, hcu16⟩ := id S.start
            cases ecu
            refine zipL_pairs hcu16 hg8 (by omega) fun H17 r2 s17 hr2 => ?_
            have S := S.new s17
            refine ne_same (dp_pairs ((hin (hby.mp hb)).mono s17)) (dp_pairs hr2) (shaped_prs _) ⟨_, rfl, ?_⟩
            simp only [Bool.false_eq_true, if_false]
            exact ⟨_, _, _, _, _, _, _, _, _, _, _, _, _, _, _, _, _, _, ⟨rfl, rfl, rfl, rfl, rfl, rfl, rfl, rfl, rfl, rfl, rfl, rfl, rfl, rfl, rfl, rfl, rfl, rfl⟩, S.row⟩
          | cons m rest =>
            refine ⟨true, rfl, ?_⟩
            simp only [if_true]
            cases hout fun W => by rw [hby.mpr W] at hb; cases hb
            refine ne_same .non .non rfl ⟨_, rfl, ?_⟩
            simp only [Bool.false_eq_true, if_false]
            exact ⟨_, _, _, _, _, _, _, _, _, _, _, _, _, _, _, _, _, _, ⟨rfl, rfl, rfl, rfl, rfl, rfl, rfl, rfl, rfl, rfl, rfl, rfl, rfl, rfl, rfl, rfl, rfl, rfl⟩, S.row⟩
  · obtain ⟨x2, x3, x4, x5, x6, x7, x8, x9, x10, x11, x12, x13, x14, x15, x16, x17, x18, x19, rfl, row0⟩ := hPv
    walk_at "rd"
    exact q _
end
end Hx

set_option Elab.async false
set_option linter.all false
set_option maxRecDepth 100000
set_option maxHeartbeats 4000000
namespace Hx
open PySem PySem.Spec PyProof.Rows L2
/-- the text's top, as it stands when the law begins -/
theorem all_mk {l : PySem.W.OpenLaw} {w : World} {K : PySem.W.Frag} {h : Heap} {mg : Str → Option Value} {fa : Addr} {f0 f1 f2 f3 f4 f5 f6 f7 f8 f9 f10 f11 f12 f13 f14 f15 f16 f17 f18 f19 f20 f21 f22 f23 f24 f25 f26 f27 f28 f29 f30 f31 f32 : Addr}
    {od0 an0 od1 an1 od2 an2 od3 an3 od4 an4 od5 an5 od6 an6 od7 an7 od8 an8 od9 an9 od10 an10 od11 an11 od12 an12 od13 an13 od14 an14 od15 an15 od16 an16 od17 an17 od18 an18 od19 an19 od20 an20 od21 an21 od22 an22 od23 an23 od24 an24 od25 an25 od26 an26 od27 an27 od28 an28 od29 an29 od30 an30 od31 an31 od32 an32 : Option Addr}
    {sl0 sl1 sl2 sl3 sl4 sl5 sl6 sl7 sl8 sl9 sl10 sl11 sl12 sl13 sl14 sl15 sl16 sl17 sl18 sl19 sl20 sl21 sl22 sl23 sl24 sl25 sl26 sl27 sl28 sl29 sl30 sl31 sl32 : Array (Option Value)}
    {oc0 kV0 dc0 pm0 cd0 ct0 oc1 kV1 dc1 pm1 cd1 ct1 oc2 kV2 dc2 pm2 cd2 ct2 oc3 kV3 dc3 pm3 cd3 ct3 oc4 kV4 dc4 pm4 cd4 ct4 oc5 kV5 dc5 pm5 cd5 ct5 oc6 kV6 dc6 pm6 cd6 ct6 oc7 kV7 dc7 pm7 cd7 ct7 oc8 kV8 dc8 pm8 cd8 ct8 oc9 kV9 dc9 pm9 cd9 ct9 oc10 kV10 dc10 pm10 cd10 ct10 oc11 kV11 dc11 pm11 cd11 ct11 oc12 kV12 dc12 pm12 cd12 ct12 oc13 kV13 dc13 pm13 cd13 ct13 oc14 kV14 dc14 pm14 cd14 ct14 oc15 kV15 dc15 pm15 cd15 ct15 oc16 kV16 dc16 pm16 cd16 ct16 oc17 kV17 dc17 pm17 cd17 ct17 oc18 kV18 dc18 pm18 cd18 ct18 oc19 kV19 dc19 pm19 cd19 ct19 oc20 kV20 dc20 pm20 cd20 ct20 oc21 kV21 dc21 pm21 cd21 ct21 oc22 kV22 dc22 pm22 cd22 ct22 oc23 kV23 dc23 pm23 cd23 ct23 oc24 kV24 dc24 pm24 cd24 ct24 oc25 kV25 dc25 pm25 cd25 ct25 oc26 kV26 dc26 pm26 cd26 ct26 oc27 kV27 dc27 pm27 cd27 ct27 oc28 kV28 dc28 pm28 cd28 ct28 oc29 kV29 dc29 pm29 cd29 ct29 oc30 kV30 dc30 pm30 cd30 ct30 oc31 kV31 dc31 pm31 cd31 ct31 oc32 kV32 dc32 pm32 cd32 ct32 : Value}
    {u0 u1 u2 u3 : Tok} (X : K.In h) (G : h.Ns mainGlobals mg) (hfa : mg "law" = some (.ref fa))
    (a0 : PySem.W.nsIn K mainGlobals "is_number" = some (some (.ref f0))) (l0 : K.lookup f0 = some ⟨oc0, od0, .func (PySem.W.fnOf "is_number" "is_number" (defArgs s_is_number) (defBody s_is_number) (defScope s_is_number) .none kV0 dc0 pm0 an0 cd0 ct0), sl0⟩) (c0 : PySem.W.codeIn K cd0 "is_number" = true) (k0 : PySem.W.keepIn K (.ref f0) = true)
    (a1 : PySem.W.nsIn K mainGlobals "is_barge" = some (some (.ref f1))) (l1 : K.lookup f1 = some ⟨oc1, od1, .func (PySem.W.fnOf "is_barge" "is_barge" (defArgs s_is_barge) (defBody s_is_barge) (defScope s_is_barge) .none kV1 dc1 pm1 an1 cd1 ct1), sl1⟩) (c1 : PySem.W.codeIn K cd1 "is_barge" = true) (k1 : PySem.W.keepIn K (.ref f1) = true)
    (a2 : PySem.W.nsIn K mainGlobals "is_rope" = some (some (.ref f2))) (l2 : K.lookup f2 = some ⟨oc2, od2, .func (PySem.W.fnOf "is_rope" "is_rope" (defArgs s_is_rope) (defBody s_is_rope) (defScope s_is_rope) .none kV2 dc2 pm2 an2 cd2 ct2), sl2⟩) (c2 : PySem.W.codeIn K cd2 "is_rope" = true) (k2 : PySem.W.keepIn K (.ref f2) = true)
    (a3 : PySem.W.nsIn K mainGlobals "check_fleet" = some (some (.ref f3))) (l3 : K.lookup f3 = some ⟨oc3, od3, .func (PySem.W.fnOf "check_fleet" "check_fleet" (defArgs s_check_fleet) (defBody s_check_fleet) (defScope s_check_fleet) .none kV3 dc3 pm3 an3 cd3 ct3), sl3⟩) (c3 : PySem.W.codeIn K cd3 "check_fleet" = true) (k3 : PySem.W.keepIn K (.ref f3) = true)
    (a4 : PySem.W.nsIn K mainGlobals "first_wrong_entry" = some (some (.ref f4))) (l4 : K.lookup f4 = some ⟨oc4, od4, .func (PySem.W.fnOf "first_wrong_entry" "first_wrong_entry" (defArgs s_first_wrong_entry) (defBody s_first_wrong_entry) (defScope s_first_wrong_entry) .none kV4 dc4 pm4 an4 cd4 ct4), sl4⟩) (c4 : PySem.W.codeIn K cd4 "first_wrong_entry" = true) (k4 : PySem.W.keepIn K (.ref f4) = true)
    (a5 : PySem.W.nsIn K mainGlobals "check_positions" = some (some (.ref f5))) (l5 : K.lookup f5 = some ⟨oc5, od5, .func (PySem.W.fnOf "check_positions" "check_positions" (defArgs s_check_positions) (defBody s_check_positions) (defScope s_check_positions) .none kV5 dc5 pm5 an5 cd5 ct5), sl5⟩) (c5 : PySem.W.codeIn K cd5 "check_positions" = true) (k5 : PySem.W.keepIn K (.ref f5) = true)
    (a6 : PySem.W.nsIn K mainGlobals "check_wishes" = some (some (.ref f6))) (l6 : K.lookup f6 = some ⟨oc6, od6, .func (PySem.W.fnOf "check_wishes" "check_wishes" (defArgs s_check_wishes) (defBody s_check_wishes) (defScope s_check_wishes) .none kV6 dc6 pm6 an6 cd6 ct6), sl6⟩) (c6 : PySem.W.codeIn K cd6 "check_wishes" = true) (k6 : PySem.W.keepIn K (.ref f6) = true)
    (a7 : PySem.W.nsIn K mainGlobals "unsatisfied_ropes" = some (some (.ref f7))) (l7 : K.lookup f7 = some ⟨oc7, od7, .func (PySem.W.fnOf "unsatisfied_ropes" "unsatisfied_ropes" (defArgs s_unsatisfied_ropes) (defBody s_unsatisfied_ropes) (defScope s_unsatisfied_ropes) .none kV7 dc7 pm7 an7 cd7 ct7), sl7⟩) (c7 : PySem.W.codeIn K cd7 "unsatisfied_ropes" = true) (k7 : PySem.W.keepIn K (.ref f7) = true)
    (a8 : PySem.W.nsIn K mainGlobals "check_valid" = some (some (.ref f8))) (l8 : K.lookup f8 = some ⟨oc8, od8, .func (PySem.W.fnOf "check_valid" "check_valid" (defArgs s_check_valid) (defBody s_check_valid) (defScope s_check_valid) .none kV8 dc8 pm8 an8 cd8 ct8), sl8⟩) (c8 : PySem.W.codeIn K cd8 "check_valid" = true) (k8 : PySem.W.keepIn K (.ref f8) = true)
    (a9 : PySem.W.nsIn K mainGlobals "keep_less" = some (some (.ref f9))) (l9 : K.lookup f9 = some ⟨oc9, od9, .func (PySem.W.fnOf "keep_less" "keep_less" (defArgs s_keep_less) (defBody s_keep_less) (defScope s_keep_less) .none kV9 dc9 pm9 an9 cd9 ct9), sl9⟩) (c9 : PySem.W.codeIn K cd9 "keep_less" = true) (k9 : PySem.W.keepIn K (.ref f9) = true)
    (a10 : PySem.W.nsIn K mainGlobals "chain_table" = some (some (.ref f10))) (l10 : K.lookup f10 = some ⟨oc10, od10, .func (PySem.W.fnOf "chain_table" "chain_table" (defArgs s_chain_table) (defBody s_chain_table) (defScope s_chain_table) .none kV10 dc10 pm10 an10 cd10 ct10), sl10⟩) (c10 : PySem.W.codeIn K cd10 "chain_table" = true) (k10 : PySem.W.keepIn K (.ref f10) = true)
    (a11 : PySem.W.nsIn K mainGlobals "check_table" = some (some (.ref f11))) (l11 : K.lookup f11 = some ⟨oc11, od11, .func (PySem.W.fnOf "check_table" "check_table" (defArgs s_check_table) (defBody s_check_table) (defScope s_check_table) .none kV11 dc11 pm11 an11 cd11 ct11), sl11⟩) (c11 : PySem.W.codeIn K cd11 "check_table" = true) (k11 : PySem.W.keepIn K (.ref f11) = true)
    (a12 : PySem.W.nsIn K mainGlobals "chain_length" = some (some (.ref f12))) (l12 : K.lookup f12 = some ⟨oc12, od12, .func (PySem.W.fnOf "chain_length" "chain_length" (defArgs s_chain_length) (defBody s_chain_length) (defScope s_chain_length) .none kV12 dc12 pm12 an12 cd12 ct12), sl12⟩) (c12 : PySem.W.codeIn K cd12 "chain_length" = true) (k12 : PySem.W.keepIn K (.ref f12) = true)
    (a13 : PySem.W.nsIn K mainGlobals "move_barge" = some (some (.ref f13))) (l13 : K.lookup f13 = some ⟨oc13, od13, .func (PySem.W.fnOf "move_barge" "move_barge" (defArgs s_move_barge) (defBody s_move_barge) (defScope s_move_barge) .none kV13 dc13 pm13 an13 cd13 ct13), sl13⟩) (c13 : PySem.W.codeIn K cd13 "move_barge" = true) (k13 : PySem.W.keepIn K (.ref f13) = true)
    (a14 : PySem.W.nsIn K mainGlobals "is_haul" = some (some (.ref f14))) (l14 : K.lookup f14 = some ⟨oc14, od14, .func (PySem.W.fnOf "is_haul" "is_haul" (defArgs s_is_haul) (defBody s_is_haul) (defScope s_is_haul) .none kV14 dc14 pm14 an14 cd14 ct14), sl14⟩) (c14 : PySem.W.codeIn K cd14 "is_haul" = true) (k14 : PySem.W.keepIn K (.ref f14) = true)
    (a15 : PySem.W.nsIn K mainGlobals "follow_hauls" = some (some (.ref f15))) (l15 : K.lookup f15 = some ⟨oc15, od15, .func (PySem.W.fnOf "follow_hauls" "follow_hauls" (defArgs s_follow_hauls) (defBody s_follow_hauls) (defScope s_follow_hauls) .none kV15 dc15 pm15 an15 cd15 ct15), sl15⟩) (c15 : PySem.W.codeIn K cd15 "follow_hauls" = true) (k15 : PySem.W.keepIn K (.ref f15) = true)
    (a16 : PySem.W.nsIn K mainGlobals "haul_all" = some (some (.ref f16))) (l16 : K.lookup f16 = some ⟨oc16, od16, .func (PySem.W.fnOf "haul_all" "haul_all" (defArgs s_haul_all) (defBody s_haul_all) (defScope s_haul_all) .none kV16 dc16 pm16 an16 cd16 ct16), sl16⟩) (c16 : PySem.W.codeIn K cd16 "haul_all" = true) (k16 : PySem.W.keepIn K (.ref f16) = true)
    (a17 : PySem.W.nsIn K mainGlobals "total_distance" = some (some (.ref f17))) (l17 : K.lookup f17 = some ⟨oc17, od17, .func (PySem.W.fnOf "total_distance" "total_distance" (defArgs s_total_distance) (defBody s_total_distance) (defScope s_total_distance) .none kV17 dc17 pm17 an17 cd17 ct17), sl17⟩) (c17 : PySem.W.codeIn K cd17 "total_distance" = true) (k17 : PySem.W.keepIn K (.ref f17) = true)
    (a18 : PySem.W.nsIn K mainGlobals "haul" = some (some (.ref f18))) (l18 : K.lookup f18 = some ⟨oc18, od18, .func (PySem.W.fnOf "haul" "haul" (defArgs s_haul) (defBody s_haul) (defScope s_haul) .none kV18 dc18 pm18 an18 cd18 ct18), sl18⟩) (c18 : PySem.W.codeIn K cd18 "haul" = true) (k18 : PySem.W.keepIn K (.ref f18) = true)
    (a19 : PySem.W.nsIn K mainGlobals "dragged_barges" = some (some (.ref f19))) (l19 : K.lookup f19 = some ⟨oc19, od19, .func (PySem.W.fnOf "dragged_barges" "dragged_barges" (defArgs s_dragged_barges) (defBody s_dragged_barges) (defScope s_dragged_barges) .none kV19 dc19 pm19 an19 cd19 ct19), sl19⟩) (c19 : PySem.W.codeIn K cd19 "dragged_barges" = true) (k19 : PySem.W.keepIn K (.ref f19) = true)
    (a20 : PySem.W.nsIn K mainGlobals "least_positions" = some (some (.ref f20))) (l20 : K.lookup f20 = some ⟨oc20, od20, .func (PySem.W.fnOf "least_positions" "least_positions" (defArgs s_least_positions) (defBody s_least_positions) (defScope s_least_positions) .none kV20 dc20 pm20 an20 cd20 ct20), sl20⟩) (c20 : PySem.W.codeIn K cd20 "least_positions" = true) (k20 : PySem.W.keepIn K (.ref f20) = true)
    (a21 : PySem.W.nsIn K mainGlobals "_law_taken" = some (some (.ref f21))) (l21 : K.lookup f21 = some ⟨oc21, od21, .func (PySem.W.fnOf "_law_taken" "_law_taken" (defArgs s_law_taken) (defBody s_law_taken) (defScope s_law_taken) .none kV21 dc21 pm21 an21 cd21 ct21), sl21⟩) (c21 : PySem.W.codeIn K cd21 "_law_taken" = true) (k21 : PySem.W.keepIn K (.ref f21) = true)
    (a22 : PySem.W.nsIn K mainGlobals "_law_settled" = some (some (.ref f22))) (l22 : K.lookup f22 = some ⟨oc22, od22, .func (PySem.W.fnOf "_law_settled" "_law_settled" (defArgs s_law_settled) (defBody s_law_settled) (defScope s_law_settled) .none kV22 dc22 pm22 an22 cd22 ct22), sl22⟩) (c22 : PySem.W.codeIn K cd22 "_law_settled" = true) (k22 : PySem.W.keepIn K (.ref f22) = true)
    (a23 : PySem.W.nsIn K mainGlobals "_law_fleet" = some (some (.ref f23))) (l23 : K.lookup f23 = some ⟨oc23, od23, .func (PySem.W.fnOf "_law_fleet" "_law_fleet" (defArgs s_law_fleet) (defBody s_law_fleet) (defScope s_law_fleet) .none kV23 dc23 pm23 an23 cd23 ct23), sl23⟩) (c23 : PySem.W.codeIn K cd23 "_law_fleet" = true) (k23 : PySem.W.keepIn K (.ref f23) = true)
    (a24 : PySem.W.nsIn K mainGlobals "_law_positions" = some (some (.ref f24))) (l24 : K.lookup f24 = some ⟨oc24, od24, .func (PySem.W.fnOf "_law_positions" "_law_positions" (defArgs s_law_positions) (defBody s_law_positions) (defScope s_law_positions) .none kV24 dc24 pm24 an24 cd24 ct24), sl24⟩) (c24 : PySem.W.codeIn K cd24 "_law_positions" = true) (k24 : PySem.W.keepIn K (.ref f24) = true)
    (a25 : PySem.W.nsIn K mainGlobals "_law_start" = some (some (.ref f25))) (l25 : K.lookup f25 = some ⟨oc25, od25, .func (PySem.W.fnOf "_law_start" "_law_start" (defArgs s_law_start) (defBody s_law_start) (defScope s_law_start) .none kV25 dc25 pm25 an25 cd25 ct25), sl25⟩) (c25 : PySem.W.codeIn K cd25 "_law_start" = true) (k25 : PySem.W.keepIn K (.ref f25) = true)
    (a26 : PySem.W.nsIn K mainGlobals "_law_dragged" = some (some (.ref f26))) (l26 : K.lookup f26 = some ⟨oc26, od26, .func (PySem.W.fnOf "_law_dragged" "_law_dragged" (defArgs s_law_dragged) (defBody s_law_dragged) (defScope s_law_dragged) .none kV26 dc26 pm26 an26 cd26 ct26), sl26⟩) (c26 : PySem.W.codeIn K cd26 "_law_dragged" = true) (k26 : PySem.W.keepIn K (.ref f26) = true)
    (a27 : PySem.W.nsIn K mainGlobals "_law_is_hauled" = some (some (.ref f27))) (l27 : K.lookup f27 = some ⟨oc27, od27, .func (PySem.W.fnOf "_law_is_hauled" "_law_is_hauled" (defArgs s_law_is_hauled) (defBody s_law_is_hauled) (defScope s_law_is_hauled) .none kV27 dc27 pm27 an27 cd27 ct27), sl27⟩) (c27 : PySem.W.codeIn K cd27 "_law_is_hauled" = true) (k27 : PySem.W.keepIn K (.ref f27) = true)
    (a28 : PySem.W.nsIn K mainGlobals "greatest_position" = some (some (.ref f28))) (l28 : K.lookup f28 = some ⟨oc28, od28, .func (PySem.W.fnOf "greatest_position" "greatest_position" (defArgs s_greatest_position) (defBody s_greatest_position) (defScope s_greatest_position) .none kV28 dc28 pm28 an28 cd28 ct28), sl28⟩) (c28 : PySem.W.codeIn K cd28 "greatest_position" = true) (k28 : PySem.W.keepIn K (.ref f28) = true)
    (a29 : PySem.W.nsIn K mainGlobals "greatest_positions" = some (some (.ref f29))) (l29 : K.lookup f29 = some ⟨oc29, od29, .func (PySem.W.fnOf "greatest_positions" "greatest_positions" (defArgs s_greatest_positions) (defBody s_greatest_positions) (defScope s_greatest_positions) .none kV29 dc29 pm29 an29 cd29 ct29), sl29⟩) (c29 : PySem.W.codeIn K cd29 "greatest_positions" = true) (k29 : PySem.W.keepIn K (.ref f29) = true)
    (a30 : PySem.W.nsIn K mainGlobals "_law_greatest" = some (some (.ref f30))) (l30 : K.lookup f30 = some ⟨oc30, od30, .func (PySem.W.fnOf "_law_greatest" "_law_greatest" (defArgs s_law_greatest) (defBody s_law_greatest) (defScope s_law_greatest) .none kV30 dc30 pm30 an30 cd30 ct30), sl30⟩) (c30 : PySem.W.codeIn K cd30 "_law_greatest" = true) (k30 : PySem.W.keepIn K (.ref f30) = true)
    (a31 : PySem.W.nsIn K mainGlobals "reachable_ranges" = some (some (.ref f31))) (l31 : K.lookup f31 = some ⟨oc31, od31, .func (PySem.W.fnOf "reachable_ranges" "reachable_ranges" (defArgs s_reachable_ranges) (defBody s_reachable_ranges) (defScope s_reachable_ranges) .none kV31 dc31 pm31 an31 cd31 ct31), sl31⟩) (c31 : PySem.W.codeIn K cd31 "reachable_ranges" = true) (k31 : PySem.W.keepIn K (.ref f31) = true)
    (a32 : PySem.W.nsIn K mainGlobals "law" = some (some (.ref f32))) (l32 : K.lookup f32 = some ⟨oc32, od32, .func (PySem.W.fnOf "law" "law" (defArgs s_law) (defBody s_law) (defScope s_law) .none kV32 dc32 pm32 an32 cd32 ct32), sl32⟩) (c32 : PySem.W.codeIn K cd32 "law" = true) (k32 : PySem.W.keepIn K (.ref f32) = true)
    (y0 : PySem.W.nsIn K mainGlobals "FARTHEST" = some (some (.int 9999 u0)))
    (y1 : PySem.W.nsIn K mainGlobals "LONGEST" = some (some (.int 99 u1)))
    (y2 : PySem.W.nsIn K mainGlobals "MOST_BARGES" = some (some (.int 8 u2)))
    (y3 : PySem.W.nsIn K mainGlobals "MOST_ROPES" = some (some (.int 40 u3)))
    (z0 : PySem.W.nsIn K mainGlobals "len" = some none)
    (z1 : PySem.W.nsIn K mainGlobals "isinstance" = some none)
    (z2 : PySem.W.nsIn K mainGlobals "int" = some none)
    (z3 : PySem.W.nsIn K mainGlobals "bool" = some none)
    (z4 : PySem.W.nsIn K mainGlobals "tuple" = some none)
    (z5 : PySem.W.nsIn K mainGlobals "list" = some none)
    (z6 : PySem.W.nsIn K mainGlobals "range" = some none)
    (z7 : PySem.W.nsIn K mainGlobals "enumerate" = some none)
    (z8 : PySem.W.nsIn K mainGlobals "zip" = some none)
    (z9 : PySem.W.nsIn K mainGlobals "max" = some none)
    (z10 : PySem.W.nsIn K mainGlobals "min" = some none) :
    ∃ fd : FuncData, (∀ (s : Shared) (v : Value), BindsTo s fd ⟨[v], []⟩ [("_law_script", v)]) ∧ ∀ base : Heap, K.In base → base.Ns mainGlobals mg → FnOk l.prog w K mg base CX0 10 fa fd ["_law_script"] (sp_law K) := by
  have e := hfa.symm.trans (PySem.W.mg_of X G a32)
  cases e
  have B : Blt mg := ⟨PySem.W.mg_none_of X G z0, PySem.W.mg_none_of X G z1, PySem.W.mg_none_of X G z2, PySem.W.mg_none_of X G z3, PySem.W.mg_none_of X G z4, PySem.W.mg_none_of X G z5, PySem.W.mg_none_of X G z6, PySem.W.mg_none_of X G z7, PySem.W.mg_none_of X G z8, PySem.W.mg_none_of X G z9, PySem.W.mg_none_of X G z10⟩
  have C_FARTHEST : ∃ u, mg "FARTHEST" = some (.int 9999 u) := ⟨_, PySem.W.mg_of X G y0⟩
  have C_LONGEST : ∃ u, mg "LONGEST" = some (.int 99 u) := ⟨_, PySem.W.mg_of X G y1⟩
  have C_MOST_BARGES : ∃ u, mg "MOST_BARGES" = some (.int 8 u) := ⟨_, PySem.W.mg_of X G y2⟩
  have C_MOST_ROPES : ∃ u, mg "MOST_ROPES" = some (.int 40 u) := ⟨_, PySem.W.mg_of X G y3⟩
  refine ⟨PySem.W.fnOf "law" "law" (defArgs s_law) (defBody s_law) (defScope s_law) .none kV32 dc32 pm32 an32 cd32 ct32, fun s v => .of_eq rfl, fun base _ _ => ?_⟩
  have D_is_number := df_is_number (P := l.prog) (w := w) (base := base) (K := K) (mg := mg) ⟨_, _, fun_mk (st := s_is_number) l0 c0 k0, PySem.W.mg_of X G a0⟩ B
  have D_is_barge := df_is_barge (P := l.prog) (w := w) (base := base) (K := K) (mg := mg) ⟨_, _, fun_mk (st := s_is_barge) l1 c1 k1, PySem.W.mg_of X G a1⟩ D_is_number
  have D_is_rope := df_is_rope (P := l.prog) (w := w) (base := base) (K := K) (mg := mg) ⟨_, _, fun_mk (st := s_is_rope) l2 c2 k2, PySem.W.mg_of X G a2⟩ B C_LONGEST D_is_number D_is_barge
  have D_check_fleet := df_check_fleet (P := l.prog) (w := w) (base := base) (K := K) (mg := mg) ⟨_, _, fun_mk (st := s_check_fleet) l3 c3 k3, PySem.W.mg_of X G a3⟩ B C_MOST_BARGES C_MOST_ROPES D_is_number D_is_rope
  have D_first_wrong_entry := df_first_wrong_entry (P := l.prog) (w := w) (base := base) (K := K) (mg := mg) ⟨_, _, fun_mk (st := s_first_wrong_entry) l4 c4 k4, PySem.W.mg_of X G a4⟩ B C_FARTHEST D_is_number
  have D_check_positions := df_check_positions (P := l.prog) (w := w) (base := base) (K := K) (mg := mg) ⟨_, _, fun_mk (st := s_check_positions) l5 c5 k5, PySem.W.mg_of X G a5⟩ D_first_wrong_entry
  have D_check_wishes := df_check_wishes (P := l.prog) (w := w) (base := base) (K := K) (mg := mg) ⟨_, _, fun_mk (st := s_check_wishes) l6 c6 k6, PySem.W.mg_of X G a6⟩ D_first_wrong_entry
  have D_unsatisfied_ropes := df_unsatisfied_ropes (P := l.prog) (w := w) (base := base) (K := K) (mg := mg) ⟨_, _, fun_mk (st := s_unsatisfied_ropes) l7 c7 k7, PySem.W.mg_of X G a7⟩ B
  have D_check_valid := df_check_valid (P := l.prog) (w := w) (base := base) (K := K) (mg := mg) ⟨_, _, fun_mk (st := s_check_valid) l8 c8 k8, PySem.W.mg_of X G a8⟩ B D_check_positions D_unsatisfied_ropes
  have D_keep_less := df_keep_less (P := l.prog) (w := w) (base := base) (K := K) (mg := mg) ⟨_, _, fun_mk (st := s_keep_less) l9 c9 k9, PySem.W.mg_of X G a9⟩ 
  have D_chain_table := df_chain_table (P := l.prog) (w := w) (base := base) (K := K) (mg := mg) ⟨_, _, fun_mk (st := s_chain_table) l10 c10 k10, PySem.W.mg_of X G a10⟩ B D_keep_less
  have D_check_table := df_check_table (P := l.prog) (w := w) (base := base) (K := K) (mg := mg) ⟨_, _, fun_mk (st := s_check_table) l11 c11 k11, PySem.W.mg_of X G a11⟩ B
  have D_chain_length := df_chain_length (P := l.prog) (w := w) (base := base) (K := K) (mg := mg) ⟨_, _, fun_mk (st := s_chain_length) l12 c12 k12, PySem.W.mg_of X G a12⟩ D_check_fleet D_is_barge D_chain_table D_check_table
  have D_move_barge := df_move_barge (P := l.prog) (w := w) (base := base) (K := K) (mg := mg) ⟨_, _, fun_mk (st := s_move_barge) l13 c13 k13, PySem.W.mg_of X G a13⟩ B
  have D_is_haul := df_is_haul (P := l.prog) (w := w) (base := base) (K := K) (mg := mg) ⟨_, _, fun_mk (st := s_is_haul) l14 c14 k14, PySem.W.mg_of X G a14⟩ B C_FARTHEST D_is_number D_is_barge
  have D_follow_hauls := df_follow_hauls (P := l.prog) (w := w) (base := base) (K := K) (mg := mg) ⟨_, _, fun_mk (st := s_follow_hauls) l15 c15 k15, PySem.W.mg_of X G a15⟩ B D_check_fleet D_check_valid D_chain_table D_is_haul D_move_barge
  have D_haul_all := df_haul_all (P := l.prog) (w := w) (base := base) (K := K) (mg := mg) ⟨_, _, fun_mk (st := s_haul_all) l16 c16 k16, PySem.W.mg_of X G a16⟩ D_follow_hauls
  have D_total_distance := df_total_distance (P := l.prog) (w := w) (base := base) (K := K) (mg := mg) ⟨_, _, fun_mk (st := s_total_distance) l17 c17 k17, PySem.W.mg_of X G a17⟩ D_follow_hauls
  have D_haul := df_haul (P := l.prog) (w := w) (base := base) (K := K) (mg := mg) ⟨_, _, fun_mk (st := s_haul) l18 c18 k18, PySem.W.mg_of X G a18⟩ D_haul_all
  have D_dragged_barges := df_dragged_barges (P := l.prog) (w := w) (base := base) (K := K) (mg := mg) ⟨_, _, fun_mk (st := s_dragged_barges) l19 c19 k19, PySem.W.mg_of X G a19⟩ B D_haul
  have D_least_positions := df_least_positions (P := l.prog) (w := w) (base := base) (K := K) (mg := mg) ⟨_, _, fun_mk (st := s_least_positions) l20 c20 k20, PySem.W.mg_of X G a20⟩ B D_check_fleet D_check_valid D_check_wishes D_chain_table D_move_barge
  have D_law_taken := df_law_taken (P := l.prog) (w := w) (base := base) (K := K) (mg := mg) ⟨_, _, fun_mk (st := s_law_taken) l21 c21 k21, PySem.W.mg_of X G a21⟩ B
  have D_law_settled := df_law_settled (P := l.prog) (w := w) (base := base) (K := K) (mg := mg) ⟨_, _, fun_mk (st := s_law_settled) l22 c22 k22, PySem.W.mg_of X G a22⟩ B
  have D_law_fleet := df_law_fleet (P := l.prog) (w := w) (base := base) (K := K) (mg := mg) ⟨_, _, fun_mk (st := s_law_fleet) l23 c23 k23, PySem.W.mg_of X G a23⟩ B D_law_taken
  have D_law_positions := df_law_positions (P := l.prog) (w := w) (base := base) (K := K) (mg := mg) ⟨_, _, fun_mk (st := s_law_positions) l24 c24 k24, PySem.W.mg_of X G a24⟩ B D_law_taken D_law_settled
  have D_law_start := df_law_start (P := l.prog) (w := w) (base := base) (K := K) (mg := mg) ⟨_, _, fun_mk (st := s_law_start) l25 c25 k25, PySem.W.mg_of X G a25⟩ B D_law_taken D_law_positions
  have D_law_dragged := df_law_dragged (P := l.prog) (w := w) (base := base) (K := K) (mg := mg) ⟨_, _, fun_mk (st := s_law_dragged) l26 c26 k26, PySem.W.mg_of X G a26⟩ B
  have D_law_is_hauled := df_law_is_hauled (P := l.prog) (w := w) (base := base) (K := K) (mg := mg) ⟨_, _, fun_mk (st := s_law_is_hauled) l27 c27 k27, PySem.W.mg_of X G a27⟩ B D_law_taken D_law_dragged D_haul D_dragged_barges D_haul_all D_total_distance
  have D_greatest_position := df_greatest_position (P := l.prog) (w := w) (base := base) (K := K) (mg := mg) ⟨_, _, fun_mk (st := s_greatest_position) l28 c28 k28, PySem.W.mg_of X G a28⟩ B
  have D_greatest_positions := df_greatest_positions (P := l.prog) (w := w) (base := base) (K := K) (mg := mg) ⟨_, _, fun_mk (st := s_greatest_positions) l29 c29 k29, PySem.W.mg_of X G a29⟩ B D_check_fleet D_check_wishes D_chain_table D_check_table D_greatest_position
  have D_law_greatest := df_law_greatest (P := l.prog) (w := w) (base := base) (K := K) (mg := mg) ⟨_, _, fun_mk (st := s_law_greatest) l30 c30 k30, PySem.W.mg_of X G a30⟩ B
  have D_reachable_ranges := df_reachable_ranges (P := l.prog) (w := w) (base := base) (K := K) (mg := mg) ⟨_, _, fun_mk (st := s_reachable_ranges) l31 c31 k31, PySem.W.mg_of X G a31⟩ B D_check_fleet D_check_valid D_check_wishes D_greatest_positions
  exact ok_law (fun_mk (st := s_law) l32 c32 k32) B D_law_taken D_law_fleet D_law_start D_chain_length D_law_is_hauled D_law_dragged D_least_positions D_law_greatest D_greatest_positions D_reachable_ranges
theorem walk {l : PySem.W.OpenLaw} {q : Program} {loose : List Str} {XP : (Str → Option Value) → Heap → Prop} {YP : World → Heap → Prop} {d : DefRec} {K : Params → PySem.W.Frag} (hn : l.most = some 63) (hdf : d.params.defaults = [])
    (hY : ∀ (w : World) (h : Heap), YP w h → (K w.params).In h)
    (F : ∀ (w : World) (mg : Str → Option Value) (fa : Addr) (h : Heap), (K w.params).In h → h.Ns mainGlobals mg → mg d.name = some (.ref fa) →
      ∃ fd : FuncData, (∀ (s : Shared) (u : Value), BindsTo s fd ⟨[u], []⟩ [("_law_script", u)]) ∧ ∀ base : Heap, (K w.params).In base → base.Ns mainGlobals mg → FnOk l.prog w (K w.params) mg base CX0 10 fa fd ["_law_script"] (sp_law (K w.params))) :
    PySem.W.WalkO q loose XP YP l.row.toRowW d [] (fun f vs => PySem.call f vs) :=
  L2.walk_of (n := 63) (k := 10) (x := "_law_script") (CX := fun _ => CX0) (sp := fun w => sp_law (K w.params)) hn (by decide) hdf ⟨rfl, by decide, by decide⟩ hY F (fun _ _ a ns hl _ hS => ⟨a, ns, rfl, hS, Nat.le_trans hl (by decide), fun _ => rfl⟩) fun _ _ _ _ _ z => z
end Hx

set_option Elab.async false
open PySem PySem.W PyProof.Rows
set_option maxRecDepth 100000 in
set_option maxHeartbeats 0 in
theorem PySem.Challenge.cw_haulropes_k18_whole_hauls_by_chains_holds : PySem.Challenge.rw_haulropes_k18_whole_hauls_by_chains.Holds := by
  w_on; o_law; k_head; (case hw => w_witness2)
  k_fill
  refine Hx.walk (l := PySem.Challenge.rw_haulropes_k18_whole_hauls_by_chains) rfl rfl (fun w h Y => PySem.W.kIn_of Y) ?F
  case F =>
    intro w mg fa h KX G hmg
    refine' Hx.all_mk KX G hmg ?a0 ?l0 ?c0 ?k0 ?a1 ?l1 ?c1 ?k1 ?a2 ?l2 ?c2 ?k2 ?a3 ?l3 ?c3 ?k3 ?a4 ?l4 ?c4 ?k4 ?a5 ?l5 ?c5 ?k5 ?a6 ?l6 ?c6 ?k6 ?a7 ?l7 ?c7 ?k7 ?a8 ?l8 ?c8 ?k8 ?a9 ?l9 ?c9 ?k9 ?a10 ?l10 ?c10 ?k10 ?a11 ?l11 ?c11 ?k11 ?a12 ?l12 ?c12 ?k12 ?a13 ?l13 ?c13 ?k13 ?a14 ?l14 ?c14 ?k14 ?a15 ?l15 ?c15 ?k15 ?a16 ?l16 ?c16 ?k16 ?a17 ?l17 ?c17 ?k17 ?a18 ?l18 ?c18 ?k18 ?a19 ?l19 ?c19 ?k19 ?a20 ?l20 ?c20 ?k20 ?a21 ?l21 ?c21 ?k21 ?a22 ?l22 ?c22 ?k22 ?a23 ?l23 ?c23 ?k23 ?a24 ?l24 ?c24 ?k24 ?a25 ?l25 ?c25 ?k25 ?a26 ?l26 ?c26 ?k26 ?a27 ?l27 ?c27 ?k27 ?a28 ?l28 ?c28 ?k28 ?a29 ?l29 ?c29 ?k29 ?a30 ?l30 ?c30 ?k30 ?a31 ?l31 ?c31 ?k31 ?a32 ?l32 ?c32 ?k32 ?y0 ?y1 ?y2 ?y3 ?z0 ?z1 ?z2 ?z3 ?z4 ?z5 ?z6 ?z7 ?z8 ?z9 ?z10
    (case a0 => k_is); (case l0 => k_is); (case c0 => k_is); (case k0 => k_is)
    (case a1 => k_is); (case l1 => k_is); (case c1 => k_is); (case k1 => k_is)
    (case a2 => k_is); (case l2 => k_is); (case c2 => k_is); (case k2 => k_is)
    (case a3 => k_is); (case l3 => k_is); (case c3 => k_is); (case k3 => k_is)
    (case a4 => k_is); (case l4 => k_is); (case c4 => k_is); (case k4 => k_is)
    (case a5 => k_is); (case l5 => k_is); (case c5 => k_is); (case k5 => k_is)
    (case a6 => k_is); (case l6 => k_is); (case c6 => k_is); (case k6 => k_is)
    (case a7 => k_is); (case l7 => k_is); (case c7 => k_is); (case k7 => k_is)
    (case a8 => k_is); (case l8 => k_is); (case c8 => k_is); (case k8 => k_is)
    (case a9 => k_is); (case l9 => k_is); (case c9 => k_is); (case k9 => k_is)
    (case a10 => k_is); (case l10 => k_is); (case c10 => k_is); (case k10 => k_is)
    (case a11 => k_is); (case l11 => k_is); (case c11 => k_is); (case k11 => k_is)
    (case a12 => k_is); (case l12 => k_is); (case c12 => k_is); (case k12 => k_is)
    (case a13 => k_is); (case l13 => k_is); (case c13 => k_is); (case k13 => k_is)
    (case a14 => k_is); (case l14 => k_is); (case c14 => k_is); (case k14 => k_is)
    (case a15 => k_is); (case l15 => k_is); (case c15 => k_is); (case k15 => k_is)
    (case a16 => k_is); (case l16 => k_is); (case c16 => k_is); (case k16 => k_is)
    (case a17 => k_is); (case l17 => k_is); (case c17 => k_is); (case k17 => k_is)
    (case a18 => k_is); (case l18 => k_is); (case c18 => k_is); (case k18 => k_is)
    (case a19 => k_is); (case l19 => k_is); (case c19 => k_is); (case k19 => k_is)
    (case a20 => k_is); (case l20 => k_is); (case c20 => k_is); (case k20 => k_is)
    (case a21 => k_is); (case l21 => k_is); (case c21 => k_is); (case k21 => k_is)
    (case a22 => k_is); (case l22 => k_is); (case c22 => k_is); (case k22 => k_is)
    (case a23 => k_is); (case l23 => k_is); (case c23 => k_is); (case k23 => k_is)
    (case a24 => k_is); (case l24 => k_is); (case c24 => k_is); (case k24 => k_is)
    (case a25 => k_is); (case l25 => k_is); (case c25 => k_is); (case k25 => k_is)
    (case a26 => k_is); (case l26 => k_is); (case c26 => k_is); (case k26 => k_is)
    (case a27 => k_is); (case l27 => k_is); (case c27 => k_is); (case k27 => k_is)
    (case a28 => k_is); (case l28 => k_is); (case c28 => k_is); (case k28 => k_is)
    (case a29 => k_is); (case l29 => k_is); (case c29 => k_is); (case k29 => k_is)
    (case a30 => k_is); (case l30 => k_is); (case c30 => k_is); (case k30 => k_is)
    (case a31 => k_is); (case l31 => k_is); (case c31 => k_is); (case k31 => k_is)
    (case a32 => k_is); (case l32 => k_is); (case c32 => k_is); (case k32 => k_is)
    (case y0 => k_is); (case y1 => k_is); (case y2 => k_is); (case y3 => k_is)
    (case z0 => k_is); (case z1 => k_is); (case z2 => k_is); (case z3 => k_is)
    (case z4 => k_is); (case z5 => k_is); (case z6 => k_is); (case z7 => k_is)
    (case z8 => k_is); (case z9 => k_is); (case z10 => k_is)
#print axioms PySem.Challenge.cw_haulropes_k18_whole_hauls_by_chains_holds
