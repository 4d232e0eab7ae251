import PyProof.Rows.All
import PySw77
import PyFlatLaws
import Wide.All
import OpenK.AllK
import Wide.FinOn
import PyProof.EqAt
import PyProof.EqKinds
import PyProof.TupleCall
import KE.BitLaws
import Open.SpecLaws
import KE.OsHead
import KE.OsGo
import PySem.Challenge.RW_trainseatsyard_s01_answers
import KE.KLam
import KE.KMinKey
import PyProof.FactsAll.zip_1
import KE.KDictList
import PyProof.Rows.SetFrom
set_option Elab.async false
set_option linter.all false
set_option maxRecDepth 100000
set_option maxHeartbeats 0
namespace Ask
open PyFlat
abbrev inz (l:List Nat):List Int:=l.map fun (x:Nat)=>(x:Int)
def pU (r:List Nat):List Int:=(r.length:Int) :: inz r
def uH:List (List Nat)→List Int
  | []=>[]
  | r :: l=>pU r++uH l
def small (n:Nat):Prop:=n < 4294967296
inductive lP:List (List Int)→Sw77.Call→Prop
  | begins (n s a b c:Nat) (h:small n∧small s∧small a∧small b∧small c):lP [[0,n,s,a,b,c]] (.begins n s ⟨a,b,c⟩)
  | pair (a b:Nat) (h:small a∧small b):lP [[1,a,b]] (.pair a b)
  | rider (a b g w:Nat) (h:small a∧small b∧small g∧small w):lP [[2,a,b,g,w]] (.rider ⟨a,b,g,if w=0 then none else some (w - 1)⟩)
  | drop (i:Nat) (h:small i):lP [[3,i]] (.drop i)
  | full:lP [[4]] .full
  | best:lP [[5]] .best
  | cost (l:List (List Nat)) (h:l.length≤20) (h1:∀ r∈l,r.length≤20∧∀ x∈r,small x):lP [[6],(l.length:Int) :: uH l] (.cost l)
  | more (a b:Nat) (h:small a∧small b):lP [[7,a,b]] (.more a b)
theorem jwK {z:Int} (h:Sw77Neutral.nat z=true):∃ n:Nat,z=(n:Int)∧small n:=by
  unfold Sw77Neutral.nat at h
  rw [Bool.and_eq_true] at h
  have h1:=of_decide_eq_true h.1
  have h2:=of_decide_eq_true h.2
  refine ⟨z.toNat,by omega,?_⟩
  unfold small
  have e:(2:Int) ^ 32=4294967296:=by decide
  omega
theorem eT:∀ {l:List Int},l.all Sw77Neutral.nat=true→∃ ns:List Nat,l=inz ns∧∀ n∈ns,small n
  | [],_=>⟨[],rfl,fun _ h=>by cases h⟩
  | z :: l,h=>by
    rw [List.all_cons,Bool.and_eq_true] at h
    obtain ⟨n,e,hn⟩:=jwK h.1
    obtain ⟨ns,e2,h2⟩:=eT h.2
    refine ⟨n :: ns,by rw [e,e2];rfl,fun m hm=>?_⟩
    cases hm with
    | head=>exact hn
    | tail _ hm=>exact h2 m hm
theorem dZ:∀ ns:List Nat,(inz ns).map Int.toNat=ns
  | []=>rfl
  | n :: ns=>by
    show Int.toNat (n:Int) :: (inz ns).map Int.toNat=n :: ns
    rw [dZ ns,Int.toNat_natCast]
theorem tP {l x s:List Nat} (h:Sw77Neutral.listIn l=some (x,s)):l=x.length :: (x++s)∧x.length≤20:=by
  cases l with
  | nil=>cases h
  | cons n r =>
    have h':(if n≤20∧n≤r.length then some (r.take n,r.drop n) else none)=some (x,s):=h
    by_cases k:n≤20∧n≤r.length
    · rw [if_pos k] at h'
      obtain ⟨e1,e2⟩:=Prod.mk.inj (Option.some.inj h')
      have len:(r.take n).length=n:=by rw [List.length_take];omega
      subst e1;subst e2
      rw [len,List.take_append_drop]
      exact ⟨rfl,k.1⟩
    · rw [if_neg k] at h';cases h'
def uK:List (List Nat)→List Nat
  | []=>[]
  | r :: l=>(r.length :: r)++uK l
theorem gJ:∀ (k:Nat) (l:List Nat) (xs:List (List Nat)) (s:List Nat),Sw77Neutral.listsIn k l=some (xs,s)→l=uK xs++s∧xs.length=k∧∀ r∈xs,r.length≤20
  | 0,l,xs,s,h=>by
    obtain ⟨e1,e2⟩:=Prod.mk.inj (Option.some.inj (show some (([]:List (List Nat)),l)=some (xs,s) from h))
    subst e1;subst e2
    exact ⟨rfl,rfl,fun _ h=>by cases h⟩
  | k+1,l,xs,s,h=>by
    have h':((Sw77Neutral.listIn l).bind fun x=>(Sw77Neutral.listsIn k x.2).map fun y=>(x.1 :: y.1,y.2))=some (xs,s):=h
    cases e:Sw77Neutral.listIn l with
    | none=>rw [e] at h';cases h'
    | some q =>
      obtain ⟨x,t⟩:=q
      rw [e] at h'
      cases e2:Sw77Neutral.listsIn k t with
      | none =>
                have h2:((Sw77Neutral.listsIn k t).map fun y=>(x :: y.1,y.2))=some (xs,s):=h'
                rw [e2] at h2;cases h2
      | some q2 =>
        obtain ⟨ys,u⟩:=q2
        have h2:((Sw77Neutral.listsIn k t).map fun y=>(x :: y.1,y.2))=some (xs,s):=h'
        rw [e2] at h2
        obtain ⟨e4,e5⟩:=Prod.mk.inj (Option.some.inj (show some (x :: ys,u)=some (xs,s) from h2))
        obtain ⟨a1,a2,a3⟩:=gJ k t ys u e2
        obtain ⟨b1,b2⟩:=tP e
        subst e4;subst e5
        refine ⟨?_,by rw [List.length_cons,a2],fun r hr=>?_⟩
        · rw [b1,a1]
          show x.length :: (x++(uK ys++u))=((x.length :: x)++uK ys)++u
          rw [List.append_assoc];rfl
        · cases hr with
          | head=>exact b2
          | tail _ hr=>exact a3 r hr
theorem wD (a b:List Nat):inz (a++b)=inz a++inz b:=List.map_append
theorem yO:∀ l:List (List Nat),inz (uK l)=uH l
  | []=>rfl
  | r :: l=>by
    show inz ((r.length :: r)++uK l)=pU r++uH l
    rw [wD,yO l];rfl
theorem gV:∀ {l:List (List Nat)} {r:List Nat} {x:Nat},r∈l→x∈r→x∈uK l
  | r0 :: l,r,x,hr,hx=>by
    show x∈(r0.length :: r0)++uK l
    rw [List.mem_append]
    cases hr with
    | head=>exact .inl (List.mem_cons_of_mem _ hx)
    | tail _ hr=>exact .inr (gV hr hx)
theorem l7 {c:List Int} {x:Sw77.Call} (h:Sw77Neutral.callOf c=some x):∃ ns:List Nat,c=inz ns∧(∀ n∈ns,small n)∧Sw77Neutral.callIn ns=some x:=by
  unfold Sw77Neutral.callOf at h
  by_cases k:c.all Sw77Neutral.nat=false
  · rw [if_pos k] at h;cases h
  · rw [if_neg k] at h
    have k':c.all Sw77Neutral.nat=true:=by
      cases e:c.all Sw77Neutral.nat with
      | true=>rfl
      | false=>exact absurd e k
    obtain ⟨ns,e,hn⟩:=eT k'
    subst e
    rw [dZ] at h
    exact ⟨ns,rfl,hn,h⟩
theorem mC {p:Int} {q:Nat×Nat} (h:PySw77.shape p=some q) :
    (p=0∧q=(5,0))∨(p=1∧q=(2,0))∨(p=2∧q=(4,0))∨(p=3∧q=(1,0))∨(p=4∧q=(0,0))∨(p=5∧q=(0,0))∨(p=6∧q=(0,1))∨(p=7∧q=(2,0)):=by
  unfold PySw77.shape at h
  repeat' (split at h)
  all_goals first
    | (cases h;done)
    | (have e:=Option.some.inj h;subst e;simp_all)
theorem jq4 {c:List (List Int)} (ok:okCall PySw77.shape c) (h:Sw77Neutral.asked1 ((PySw77.whole c).headD [])=true):∃ x,lP c x∧Sw77Neutral.callOf ((PySw77.whole c).headD [])=some x:=by
  unfold Sw77Neutral.asked1 at h
  obtain ⟨x,hx⟩:=Option.isSome_iff_exists.mp h
  refine ⟨x,?_,hx⟩
  obtain ⟨ns,e,hs,hc⟩:=l7 hx
  obtain ⟨p,a,xs,rfl,sh⟩:=ok
  rcases mC sh with ⟨rfl,q⟩ | ⟨rfl,q⟩ | ⟨rfl,q⟩ | ⟨rfl,q⟩ | ⟨rfl,q⟩ | ⟨rfl,q⟩ | ⟨rfl,q⟩ | ⟨rfl,q⟩
  all_goals
    obtain ⟨q1,q2⟩:=Prod.mk.inj q
  · match a,xs,q1,q2 with
    | [a1,a2,a3,a4,a5],[],_,_ =>
      have e':([0,a1,a2,a3,a4,a5]:List Int)=inz ns:=e
      match ns,e',hs,hc with
      | [m0,m1,m2,m3,m4,m5],e',hs,hc =>
        simp [inz] at e'
        obtain ⟨e0,rfl,rfl,rfl,rfl,rfl⟩:=e'
        have z:m0=0:=by omega
        subst z
        have:=Option.some.inj (show some _=some x from hc)
        subst this
        exact .begins _ _ _ _ _ ⟨hs _ (by simp),hs _ (by simp),hs _ (by simp),hs _ (by simp),hs _ (by simp)⟩
  · match a,xs,q1,q2 with
    | [a1,a2],[],_,_ =>
      have e':([1,a1,a2]:List Int)=inz ns:=e
      match ns,e',hs,hc with
      | [m0,m1,m2],e',hs,hc =>
        simp [inz] at e'
        obtain ⟨e0,rfl,rfl⟩:=e'
        have z:m0=1:=by omega
        subst z
        have:=Option.some.inj (show some _=some x from hc)
        subst this
        exact .pair _ _ ⟨hs _ (by simp),hs _ (by simp)⟩
  · match a,xs,q1,q2 with
    | [a1,a2,a3,a4],[],_,_ =>
      have e':([2,a1,a2,a3,a4]:List Int)=inz ns:=e
      match ns,e',hs,hc with
      | [m0,m1,m2,m3,m4],e',hs,hc =>
        simp [inz] at e'
        obtain ⟨e0,rfl,rfl,rfl,rfl⟩:=e'
        have z:m0=2:=by omega
        subst z
        have:=Option.some.inj (show some _=some x from hc)
        subst this
        exact .rider _ _ _ _ ⟨hs _ (by simp),hs _ (by simp),hs _ (by simp),hs _ (by simp)⟩
  · match a,xs,q1,q2 with
    | [a1],[],_,_ =>
      have e':([3,a1]:List Int)=inz ns:=e
      match ns,e',hs,hc with
      | [m0,m1],e',hs,hc =>
        simp [inz] at e'
        obtain ⟨e0,rfl⟩:=e'
        have z:m0=3:=by omega
        subst z
        have:=Option.some.inj (show some _=some x from hc)
        subst this
        exact .drop _ (hs _ (by simp))
  · match a,xs,q1,q2 with
    | [],[],_,_ =>
      have e':([4]:List Int)=inz ns:=e
      match ns,e',hs,hc with
      | [m0],e',hs,hc =>
        simp [inz] at e'
        have z:m0=4:=by omega
        subst z
        have:=Option.some.inj (show some _=some x from hc)
        subst this
        exact .full
  · match a,xs,q1,q2 with
    | [],[],_,_ =>
      have e':([5]:List Int)=inz ns:=e
      match ns,e',hs,hc with
      | [m0],e',hs,hc =>
        simp [inz] at e'
        have z:m0=5:=by omega
        subst z
        have:=Option.some.inj (show some _=some x from hc)
        subst this
        exact .best
  · match a,xs,q1,q2 with
    | [],[r],_,_ =>
      have e':(6 :: r:List Int)=inz ns:=e
      match ns,e',hs,hc with
      | m0 :: ms,e',hs,hc =>
        simp [inz] at e'
        obtain ⟨e0,rfl⟩:=e'
        have z:m0=6:=by omega
        subst z
        cases ms with
        | nil=>exact absurd (show (none:Option Sw77.Call)=some x from hc) (by intro z;cases z)
        | cons n l =>
          have hc':(if n≤20 then (Sw77Neutral.listsIn n l).bind fun x=>if x.2.isEmpty=true then some (Sw77.Call.cost x.1) else none else none)=some x:=hc
          by_cases k:n≤20
          · rw [if_pos k] at hc'
            cases e2:Sw77Neutral.listsIn n l with
            | none=>rw [e2] at hc';cases hc'
            | some q =>
              obtain ⟨ys,u⟩:=q
              rw [e2] at hc'
              have h3:(if u.isEmpty=true then some (Sw77.Call.cost ys) else none)=some x:=hc'
              obtain ⟨b1,b2,b3⟩:=gJ n l ys u e2
              by_cases k2:u.isEmpty=true
              · rw [if_pos k2] at h3
                have:=Option.some.inj h3
                subst this
                have eu:u=[]:=List.isEmpty_iff.mp k2
                subst eu
                rw [List.append_nil] at b1
                subst b1
                subst b2
                have:=lP.cost ys k (fun r hr=>⟨b3 r hr,fun y hy=>hs y (by simp;exact .inr (.inr (gV hr hy)))⟩)
                rw [← yO] at this
                exact this
              · rw [if_neg k2] at h3;cases h3
          · rw [if_neg k] at hc';cases hc'
  · match a,xs,q1,q2 with
    | [a1,a2],[],_,_ =>
      have e':([7,a1,a2]:List Int)=inz ns:=e
      match ns,e',hs,hc with
      | [m0,m1,m2],e',hs,hc =>
        simp [inz] at e'
        obtain ⟨e0,rfl,rfl⟩:=e'
        have z:m0=7:=by omega
        subst z
        have:=Option.some.inj (show some _=some x from hc)
        subst this
        exact .more _ _ ⟨hs _ (by simp),hs _ (by simp)⟩
def jz2:Sw77.Train→List Sw77.Call→List Int
  | _,[]=>[]
  | t,x :: xs=>((Sw77Neutral.out (Sw77.step t x).2).length:Int) :: (Sw77Neutral.out (Sw77.step t x).2++jz2 (Sw77.step t x).1 xs)
inductive jq7:List Int→List Sw77.Call→Prop
  | nil:jq7 [] []
  | cons {c:List (List Int)} {x:Sw77.Call} {l:List Int} {xs:List Sw77.Call} (h:lP c x) (r:jq7 l xs):jq7 (put1 c++l) (x :: xs)
theorem aS:∀ {raw:List (List (List Int))} (t:Sw77.Train),(∀ c∈raw,okCall PySw77.shape c)→(((raw.map PySw77.whole).map fun c=>c.headD []).all Sw77Neutral.asked1)=true→∃ xs,xs.length=raw.length∧jq7 (put raw) xs∧told (played (fun s c=>Sw77Neutral.step s (c.headD [])) t (raw.map PySw77.whole))=jz2 t xs
  | [],t,_,_=>⟨[],rfl,.nil,rfl⟩
  | c :: raw,t,ok,h=>by
    rw [List.map_cons,List.map_cons,List.all_cons,Bool.and_eq_true] at h
    obtain ⟨x,hx,ex⟩:=jq4 (ok c (List.mem_cons_self ..)) h.1
    obtain ⟨xs,h0,h1,h2⟩:=aS (Sw77.step t x).1 (fun d hd=>ok d (List.mem_cons_of_mem _ hd)) h.2
    refine ⟨x :: xs,by rw [List.length_cons,List.length_cons,h0],.cons hx h1,?_⟩
    have e:Sw77Neutral.step t ((PySw77.whole c).headD [])=((Sw77.step t x).1,Sw77Neutral.out (Sw77.step t x).2):=by
      unfold Sw77Neutral.step
      rw [ex]
    show told ((Sw77Neutral.step t ((PySw77.whole c).headD [])).2 :: played _ (Sw77Neutral.step t ((PySw77.whole c).headD [])).1 (raw.map PySw77.whole))=_
    rw [e]
    show ((Sw77Neutral.out (Sw77.step t x).2).length:Int) :: (Sw77Neutral.out (Sw77.step t x).2++told (played (fun s c=>Sw77Neutral.step s (c.headD [])) (Sw77.step t x).1 (raw.map PySw77.whole)))=_
    rw [h2];rfl
theorem tW {ns:List Int} (h:PySw77.answers_asked ns=true):∃ xs,1≤xs.length∧xs.length≤40∧jq7 ns xs∧PySw77.answers ns=jz2 Sw77.init xs∧(PySw77.answers ns).length≤10000000:=by
  unfold PySw77.answers_asked at h
  cases e:PyFlat.calls PySw77.shape ns.length ns with
  | none=>rw [e] at h;cases h
  | some raw =>
    rw [e] at h
    simp only [Bool.and_eq_true] at h
    obtain ⟨⟨⟨⟨h1,h2⟩,h3⟩,h4⟩,h5⟩:=h
    obtain ⟨e1,ok⟩:=put_calls _ _ _ e
    unfold Sw77Neutral.asked at h4
    simp only [Bool.and_eq_true] at h4
    obtain ⟨xs,l0,l1,l2⟩:=aS Sw77.init ok h4.1
    have ea:PySw77.answers ns=jz2 Sw77.init xs:=by
      unfold PySw77.answers PySw77.calls
      rw [e]
      exact l2
    refine ⟨xs,?_,?_,by rw [e1];exact l1,ea,of_decide_eq_true h5⟩
    · have:=of_decide_eq_true h4.2.1
      rw [List.length_map,List.length_map] at this
      omega
    · have:=of_decide_eq_true h4.2.2.1
      rw [List.length_map,List.length_map] at this
      omega
end Ask
namespace Plans
open Sw77
theorem g9 (b:Option Best):cheaper none b=b:=by cases b <;> rfl
theorem cW (a:Option Best):cheaper a none=a:=by cases a <;> rfl
theorem pQ {x y:Best} (h:y.cost < x.cost):cheaper (some x) (some y)=some y:=if_pos h
theorem pX {x y:Best} (h:x.cost < y.cost):cheaper (some x) (some y)=some x:=(if_neg (Nat.lt_asymm h)).trans (if_pos h)
theorem nZ {x y:Best} (h:x.cost=y.cost):cheaper (some x) (some y)=some ⟨x.cost,x.many+y.many,x.rows⟩:=(if_neg (by omega)).trans (if_neg (by omega))
theorem nW (a b c:Option Best):cheaper (cheaper a b) c=cheaper a (cheaper b c):=by
  cases a with
  | none=>rw [g9,g9]
  | some x =>
    cases b with
    | none=>rw [g9,cW]
    | some y =>
      cases c with
      | none=>rw [cW,cW]
      | some z =>
        rcases Nat.lt_trichotomy x.cost y.cost with h | h | h <;> rcases Nat.lt_trichotomy y.cost z.cost with g | g | g
        · rw [pX h,pX g,pX h,pX (Nat.lt_trans h g)]
        · rw [pX h,nZ g,pX (show x.cost < (⟨y.cost,y.many+z.many,y.rows⟩:Best).cost from h),pX (g ▸ h)]
        · rw [pX h,pQ g]
        · rw [nZ h,pX g,nZ h,pX (show (⟨x.cost,x.many+y.many,x.rows⟩:Best).cost < z.cost from h ▸ g)]
        · rw [nZ h,nZ g,nZ (show (⟨x.cost,x.many+y.many,x.rows⟩:Best).cost=z.cost from h.trans g),nZ (show x.cost=(⟨y.cost,y.many+z.many,y.rows⟩:Best).cost from h)]
          show some (⟨x.cost,x.many+y.many+z.many,x.rows⟩:Best)=some ⟨x.cost,x.many+(y.many+z.many),x.rows⟩
          rw [Nat.add_assoc]
        · rw [nZ h,pQ g,pQ (show z.cost < (⟨x.cost,x.many+y.many,x.rows⟩:Best).cost from h ▸ g),pQ (h ▸ g)]
        · rw [pQ h,pX g,pQ h]
        · rw [pQ h,nZ g,pQ (show (⟨y.cost,y.many+z.many,y.rows⟩:Best).cost < x.cost from h)]
        · rw [pQ h,pQ g,pQ (Nat.lt_trans g h)]
def qE (l:List (Option Best)):Option Best:=l.foldl cheaper none
theorem dS:∀ (l:List (Option Best)) (a:Option Best),l.foldl cheaper a=cheaper a (qE l)
  | [],a=>by show a=cheaper a none;rw [cW]
  | x :: l,a=>by
    show l.foldl cheaper (cheaper a x)=cheaper a (l.foldl cheaper (cheaper none x))
    rw [dS l,dS l (cheaper none x),g9,nW]
theorem kL (x:Option Best) (l:List (Option Best)):qE (x :: l)=cheaper x (qE l):=by
  show l.foldl cheaper (cheaper none x)=_
  rw [dS,g9]
theorem o4:qE []=none:=rfl
theorem xL:∀ (a b:List (Option Best)),qE (a++b)=cheaper (qE a) (qE b)
  | [],b=>by rw [o4,g9];rfl
  | x :: a,b=>by rw [List.cons_append,kL,kL,xL a b,nW]
theorem zL {α:Type} (f:α→List (Option Best)):∀ l:List α,qE (l.flatMap f)=qE (l.map fun x=>qE (f x))
  | []=>rfl
  | x :: l=>by rw [List.flatMap_cons,xL,List.map_cons,kL,zL f l]
def qV (c:Nat) (r:Row) (b:Best):Best:=⟨c+b.cost,b.many,r :: b.rows⟩
theorem oO (c:Nat) (r:Row) (a b:Option Best):(cheaper a b).map (qV c r)=cheaper (a.map (qV c r)) (b.map (qV c r)):=by
  cases a with
  | none=>rw [g9];exact (g9 _).symm
  | some x =>
    cases b with
    | none=>rw [cW];exact (cW _).symm
    | some y =>
      show (cheaper (some x) (some y)).map (qV c r)=cheaper (some (qV c r x)) (some (qV c r y))
      rcases Nat.lt_trichotomy x.cost y.cost with h | h | h
      · rw [pX h,pX (show c+x.cost < c+y.cost by omega)];rfl
      · rw [nZ h,nZ (show c+x.cost=c+y.cost by omega)];rfl
      · rw [pQ h,pQ (show c+y.cost < c+x.cost by omega)];rfl
theorem fH (c:Nat) (r:Row):∀ l:List (Option Best),(qE l).map (qV c r)=qE (l.map fun b=>b.map (qV c r))
  | []=>rfl
  | x :: l=>by rw [kL,oO,fH c r l,List.map_cons,kL]
def rG (t:Train):Nat→Nat→List (List Row)
  | _,0=>[[]]
  | k,n+1=>(t.rows k).flatMap fun r=>(rG t (k+1) n).map fun p=>r :: p
def one (t:Train) (k:Nat) (p:List Row):Option Best:=some ⟨t.costFrom k p,1,p⟩
def vS (t:Train) (k n:Nat) (r:Row):Option Best:=qE ((rG t (k+1) n).map fun p=>one t k (r :: p))
theorem v7 {α:Type} (f:α→Option Best) (g:α→Best→Option Best):∀ l:List α,qE ((l.filterMap fun s=>(f s).map fun b=>(s,b)).map fun x=>g x.1 x.2)=qE (l.map fun s=>(f s).bind (g s))
  | []=>rfl
  | s :: l=>by
    rw [List.filterMap_cons,List.map_cons,kL]
    cases e:f s with
    | none =>
      simp only [Option.map_none,Option.bind_none]
      rw [g9]
      exact v7 f g l
    | some b =>
      simp only [Option.map_some,Option.bind_some]
      rw [List.map_cons,kL,v7 f g l]
theorem uT (t:Train) (k n:Nat) (r:Row):qE ((t.rows (k+1)).map fun s=>(vS t (k+1) n s).map (qV (t.own k r+t.move k r s) r))=vS t k (n+1) r:=by
  show _=qE (((t.rows (k+1)).flatMap fun s=>(rG t (k+2) n).map fun p=>s :: p).map fun p=>one t k (r :: p))
  rw [List.map_flatMap,zL]
  congr 1
  apply List.map_congr_left
  intro s _
  show (qE ((rG t (k+2) n).map fun p=>one t (k+1) (s :: p))).map _=_
  rw [fH,List.map_map,List.map_map]
  congr 1
theorem sO (t:Train):∀ (n k:Nat),t.tails k (n+1)=(t.rows k).filterMap fun r=>(vS t k n r).map fun b=>(r,b)
  | 0,k=>by
    show (t.rows k).map (fun r=>(r,(⟨t.own k r,1,[r]⟩:Best)))=_
    have e:(fun r=>(vS t k 0 r).map fun b=>(r,b))=fun r=>some (r,(⟨t.own k r,1,[r]⟩:Best)):=by
      funext r;rfl
    rw [e,List.filterMap_eq_map']
  | n+1,k=>by
    have ih:=sO t n (k+1)
    show ((t.rows k).filterMap fun r=>(((t.tails (k+1) (n+1)).map fun x=>some (⟨t.own k r+(t.move k r x.1+x.2.cost),x.2.many,r :: x.2.rows⟩:Best)).foldl cheaper none).map fun b=>(r,b))=_
    rw [ih]
    congr 1
    funext r
    congr 1
    show qE _=_
    rw [v7 (fun s=>vS t (k+1) n s) (fun s b=>some (⟨t.own k r+(t.move k r s+b.cost),b.many,r :: b.rows⟩:Best)),← uT]
    congr 1
    apply List.map_congr_left
    intro s _
    cases vS t (k+1) n s with
    | none=>rfl
    | some b =>
      show some (⟨t.own k r+(t.move k r s+b.cost),b.many,r :: b.rows⟩:Best)=some ⟨t.own k r+t.move k r s+b.cost,b.many,r :: b.rows⟩
      rw [Nat.add_assoc]
theorem jzK (t:Train):t.best=qE ((rG t 0 t.legs).map (one t 0)):=by
  unfold Train.best
  by_cases h:t.legs=0
  · rw [if_pos h,h];rfl
  · rw [if_neg h]
    obtain ⟨n,e⟩:∃ n,t.legs=n+1:=⟨t.legs - 1,by omega⟩
    rw [e,sO]
    show qE _=_
    rw [v7 (fun r=>vS t 0 n r) (fun _ b=>some b)]
    show _=qE (((t.rows 0).flatMap fun r=>(rG t 1 n).map fun p=>r :: p).map (one t 0))
    rw [List.map_flatMap,zL]
    congr 1
    apply List.map_congr_left
    intro r _
    show (vS t 0 n r).bind some=_
    rw [show (vS t 0 n r).bind some=vS t 0 n r by cases vS t 0 n r <;> rfl]
    show qE ((rG t 1 n).map fun p=>one t 0 (r :: p))=_
    rw [List.map_map]
    rfl
end Plans
namespace Steps
open Sw77
variable {t:Train}
theorem bE {n s m w c:Nat} (h:n < 1∨8 < n∨s < 1∨5 < s∨10000 < m∨10000 < w∨10000 < c):step t (.begins n s ⟨m,w,c⟩)=(t,ok (-1)):=by
  refine if_pos ?_
  rcases h with h | h | h | h | h | h | h
  · exact .inl h
  · exact .inr (.inl h)
  · exact .inr (.inr (.inl h))
  · exact .inr (.inr (.inr (.inl h)))
  all_goals
    refine .inr (.inr (.inr (.inr ?_)))
    simp [MOST,h]
theorem bI {n s m w c:Nat} (h1:1≤n) (h2:n≤8) (h3:1≤s) (h4:s≤5) (h5:m≤10000) (h6:w≤10000) (h7:c≤10000):step t (.begins n s ⟨m,w,c⟩)=(⟨n,s,[],[],⟨m,w,c⟩⟩,ok 0):=by
  refine if_neg ?_
  rintro (h | h | h | h | h)
  · omega
  · have:8 < n:=h
    omega
  · omega
  · have:5 < s:=h
    omega
  · have h:(decide (10000 < m) || (decide (10000 < w) || (decide (10000 < c) || false)))=true:=h
    simp only [Bool.or_eq_true,decide_eq_true_eq,Bool.false_eq_true,or_false] at h
    omega
theorem sV {a b:Nat} (h:t.seats≤a∨t.seats≤b):step t (.pair a b)=(t,ok (-2)):=if_pos h
theorem d9 {a b:Nat} (h1:a < t.seats) (h2:b < t.seats) (h:a=b∨t.beside a b=true):step t (.pair a b)=(t,ok (-3)) :=
  (if_neg (by omega)).trans (if_pos h)
theorem iZ {a b:Nat} (h1:a < t.seats) (h2:b < t.seats) (h3:a≠b) (h4:t.beside a b=false):step t (.pair a b)=({ t with pairs:=t.pairs++[(a,b)] },ok 0) :=
  (if_neg (by omega)).trans (if_neg (by rw [h4];simp [h3]))
theorem pH (a b x y:Nat):({ t with pairs:=t.pairs++[(a,b)] }:Train).beside x y=(t.beside x y || ((a == x && b == y) || (a == y && b == x))):=by
  show (t.pairs++[(a,b)]).any _=_
  rw [List.any_append]
  simp [Train.beside]
def zY (w:Nat):Option Nat:=if w=0 then none else some (w - 1)
theorem bC {w:Nat}:((zY w).all fun s=>decide (s < t.seats))=decide (w≤t.seats):=by
  unfold zY
  by_cases h:w=0
  · rw [if_pos h];simp [h]
  · rw [if_neg h]
    show decide (w - 1 < t.seats)=decide (w≤t.seats)
    exact decide_eq_decide.mpr (by omega)
theorem iM {a b g w:Nat} (h:b≤a∨t.legs < b∨9 < g):step t (.rider ⟨a,b,g,zY w⟩)=(t,ok (-1)):=if_pos h
theorem iN {a b g w:Nat} (h:¬ (b≤a∨t.legs < b∨9 < g)) (h2:t.seats < w):step t (.rider ⟨a,b,g,zY w⟩)=(t,ok (-2)) :=
  (if_neg h).trans (if_pos (by show ((zY w).all fun s=>decide (s < t.seats))=false;rw [bC];simp;omega))
theorem iS {a b g w:Nat} (h:¬ (b≤a∨t.legs < b∨9 < g)) (h2:w≤t.seats) (h3:20≤t.riders.length):step t (.rider ⟨a,b,g,zY w⟩)=(t,ok (-5)) :=
  (if_neg h).trans ((if_neg (by show ¬ ((zY w).all fun s=>decide (s < t.seats))=false;rw [bC];simp;omega)).trans (if_pos h3))
theorem jjY {a b g w:Nat} (h:¬ (b≤a∨t.legs < b∨9 < g)) (h2:w≤t.seats) (h3:t.riders.length < 20) :
    step t (.rider ⟨a,b,g,zY w⟩)=({ t with riders:=t.riders++[⟨a,b,g,zY w⟩] },ok (t.riders.length:Nat)) :=
  (if_neg h).trans ((if_neg (by show ¬ ((zY w).all fun s=>decide (s < t.seats))=false;rw [bC];simp;omega)).trans (if_neg (by show ¬ (20≤t.riders.length);omega)))
theorem aF {i:Nat} (h:t.riders.length≤i):step t (.drop i)=(t,ok (-2)):=if_pos h
theorem aD {i:Nat} (h:i < t.riders.length):step t (.drop i)=({ t with riders:=t.riders.eraseIdx i },ok 0):=if_neg (by omega)
structure dF (t:Train):Prop where
  legs:t.legs≤8
  seats:t.seats≤5
  riders:t.riders.length≤20
  move:t.costs.move≤10000
  wish:t.costs.wish≤10000
  apart:t.costs.apart≤10000
  each:∀ r∈t.riders,r.from_ < r.to∧r.to≤t.legs∧r.group≤9∧∀ s,r.wish=some s→s < t.seats
  both:t.legs=0↔t.seats=0
theorem aI:dF init:=⟨by decide,by decide,by decide,by decide,by decide,by decide,fun r h=>(by cases h),Iff.rfl⟩
theorem aO (G:dF t) (x:Call):dF (step t x).1:=by
  cases x with
  | begins n s c =>
    obtain ⟨m,w,c⟩:=c
    by_cases h:n < 1∨8 < n∨s < 1∨5 < s∨10000 < m∨10000 < w∨10000 < c
    · rw [bE h];exact G
    · rw [bI (by omega) (by omega) (by omega) (by omega) (by omega) (by omega) (by omega)]
      exact ⟨by show n≤8;omega,by show s≤5;omega,by show 0≤20;omega,by show m≤_;omega,by show w≤_;omega,by show c≤_;omega,fun r h=>(by cases h),by show n=0↔s=0;omega⟩
  | pair a b =>
    by_cases h:t.seats≤a∨t.seats≤b
    · rw [sV h];exact G
    · by_cases h2:a=b∨t.beside a b=true
      · rw [d9 (by omega) (by omega) h2];exact G
      · rw [iZ (by omega) (by omega) (fun e=>h2 (.inl e)) (by cases e:t.beside a b with | false=>rfl | true=>exact absurd (.inr e) h2)]
        exact ⟨G.legs,G.seats,G.riders,G.move,G.wish,G.apart,G.each,G.both⟩
  | rider r =>
    unfold step
    simp only
    split
    · exact G
    · rename_i h1
      split
      · exact G
      · rename_i h2
        split
        · exact G
        · rename_i h3
          have h3:¬ 20≤t.riders.length:=h3
          refine ⟨G.legs,G.seats,?_,G.move,G.wish,G.apart,fun q hq=>?_,G.both⟩
          · show (t.riders++[r]).length≤20
            rw [List.length_append];show t.riders.length+1≤20;omega
          · rcases List.mem_append.mp hq with hq | hq
            · exact G.each q hq
            · rw [List.mem_singleton.mp hq]
              refine ⟨by omega,by show r.to≤t.legs;omega,by omega,fun s hs=>?_⟩
              rw [hs] at h2
              simp at h2
              exact h2
  | drop i =>
    by_cases h:t.riders.length≤i
    · rw [aF h];exact G
    · rw [aD (by omega)]
      refine ⟨G.legs,G.seats,?_,G.move,G.wish,G.apart,fun q hq=>G.each q (List.mem_of_mem_eraseIdx hq),G.both⟩
      have:=G.riders
      show (t.riders.eraseIdx i).length≤20
      rw [List.length_eraseIdx]
      split <;> omega
  | full=>exact G
  | best=>exact G
  | cost l =>
    unfold step
    simp only
    split <;> exact G
  | more a b =>
    unfold step
    simp only
    split <;> exact G
theorem t6 (x:Call):(step t x).1.pairs.length≤t.pairs.length+1:=by
  cases x with
  | begins n s c =>
    unfold step;simp only;split
    · exact Nat.le_succ _
    · exact Nat.zero_le _
  | pair a b =>
    unfold step;simp only;split
    · exact Nat.le_succ _
    · split
      · exact Nat.le_succ _
      · show (t.pairs++[(a,b)]).length≤_
        rw [List.length_append];exact Nat.le_refl _
  | rider r =>
               unfold step;simp only;repeat' split
               all_goals exact Nat.le_succ _
  | drop i=>unfold step;simp only;split <;> exact Nat.le_succ _
  | full=>exact Nat.le_succ _
  | best=>exact Nat.le_succ _
  | cost l=>unfold step;simp only;split <;> exact Nat.le_succ _
  | more a b=>unfold step;simp only;split <;> exact Nat.le_succ _
end Steps
namespace L2
open PySem PySem.Spec PyProof.Rows
abbrev Key:=Sum Int Str
def xU:Key→Value→Bool
  | .inl k,v=>Value.isInt k v
  | .inr x,v=>Value.isStrOf x v
def jsZ (w:World):Key→Int
  | .inl k=>hashInt k
  | .inr x=>hashStr w x
theorem kF:∀ {k:Key} {v:Value},xU k v=true→(∃ i t,k=Sum.inl i∧v=Value.int i t)∨(∃ x t,k=Sum.inr x∧v=Value.str x t)
  | .inl i,v,h=>by
    obtain ⟨t,e⟩:=Value.isInt_shape (k:=i) (v:=v) h
    exact .inl ⟨i,t,rfl,e⟩
  | .inr x,v,h=>by
    obtain ⟨t,e⟩:=Value.isStrOf_shape (x:=x) (v:=v) h
    exact .inr ⟨x,t,rfl,e⟩
theorem eQ (i:Int) (t:Tok):xU (.inl i) (.int i t)=true:=by simp [xU,Value.isInt]
theorem eX (x:Str) (t:Tok):xU (.inr x) (.str x t)=true:=by simp [xU,Value.isStrOf]
theorem jh2 (a b:Int):decide ((Sum.inl a:Key)=Sum.inl b)=(a == b):=by
  by_cases e:a=b
  · subst e;simp
  · have h:¬ (Sum.inl a:Key)=Sum.inl b:=fun q=>e (Sum.inl.inj q)
    rw [decide_eq_false h]
    exact (beq_eq_false_iff_ne.mpr e).symm
theorem jh5 (a b:Str):decide ((Sum.inr a:Key)=Sum.inr b)=decide (a=b):=by
  by_cases e:a=b
  · subst e;simp
  · have h:¬ (Sum.inr a:Key)=Sum.inr b:=fun q=>e (Sum.inr.inj q)
    rw [decide_eq_false h,decide_eq_false e]
theorem jh3 (a:Int) (b:Str):decide ((Sum.inl a:Key)=Sum.inr b)=false:=decide_eq_false (fun q=>nomatch q)
theorem jh4 (a:Str) (b:Int):decide ((Sum.inr a:Key)=Sum.inl b)=false:=decide_eq_false (fun q=>nomatch q)
def j5 (prog:Program) (w:World):PySem.KeyKind prog w Key where
  is:=xU
  hash:=jsZ w
  inj:=fun v a b ha hb=>by
    rcases kF ha with ⟨i,t,rfl,rfl⟩ | ⟨x,t,rfl,rfl⟩
    · rcases kF hb with ⟨j,u,rfl,e⟩ | ⟨y,u,rfl,e⟩
      · injection e with e1 _;rw [e1]
      · exact nomatch e
    · rcases kF hb with ⟨j,u,rfl,e⟩ | ⟨y,u,rfl,e⟩
      · exact nomatch e
      · injection e with e1 _;rw [e1]
  byValue:=fun k v h=>by
    rcases kF h with ⟨i,t,rfl,rfl⟩ | ⟨x,t,rfl,rfl⟩ <;> rfl
  pyHash:=fun hv h=>by
    rcases kF hv with ⟨i,t,rfl,rfl⟩ | ⟨x,t,rfl,rfl⟩
    · exact wpAny_pyHash_int h
    · exact wpAny_pyHash_str h
  eqBool:=fun hu hv h=>by
    rcases kF hu with ⟨i,t,rfl,rfl⟩ | ⟨x,t,rfl,rfl⟩
    · rcases kF hv with ⟨j,u,rfl,rfl⟩ | ⟨y,u,rfl,rfl⟩
      · rw [jh2] at h;exact wpAny_eqBool_int h
      · rw [jh3] at h;exact SeqAt.EqAt.int_str i t y u _ _ _ _ h
    · rcases kF hv with ⟨j,u,rfl,rfl⟩ | ⟨y,u,rfl,rfl⟩
      · rw [jh4] at h;exact SeqAt.EqAt.str_int x t j u _ _ _ _ h
      · rw [jh5] at h;exact wpAny_eqBool_str h
  «strs»:=fun k x t v h=>by
    rcases kF h with ⟨i,u,rfl,e⟩ | ⟨y,u,rfl,e⟩
    · exact nomatch e
    · injection e with e1 _
      subst e1
      cases v <;> rfl
theorem mK (prog:Program) (w:World) (i:Int) (t:Tok):(j5 prog w).is (.inl i) (.int i t)=true:=eQ i t
theorem mV (prog:Program) (w:World) (x:Str) (t:Tok):(j5 prog w).is (.inr x) (.str x t)=true:=eX x t
inductive V where
  | non | bl (b:Bool) | int (i:Int) | str (x:Str) | byt (b:Array UInt8) | flt (b:UInt64) | ref (a:Addr) | ty (n:String)
  deriving DecidableEq
def kI:V→Value→Prop
  | .non,u=>u=Value.none
  | .bl b,u=>u=Value.bool b
  | .int i,u=>∃ t,u=Value.int i t
  | .str x,u=>∃ t,u=Value.str x t
  | .byt b,u=>∃ t,u=Value.bytes b t
  | .flt b,u=>∃ t,u=Value.float b t
  | .ref a,u=>u=Value.ref a
  | .ty n,u=>u=Value.type n
abbrev kG:List V→List Value→Prop:=Paired kI
theorem kG.length {xs:List V} {us:List Value} (r:kG xs us):xs.length=us.length:=Paired.length r
theorem kG.get:∀ {xs:List V} {us:List Value} {i:Nat} {x:V},kG xs us→xs[i]? = some x→∃ u,us[i]? = some u∧kI x u
  | _,_,_,_,.nil,e=>by simp at e
  | _,_,0,_,.cons r _,e=>by simp at e;subst e;exact ⟨_,rfl,r⟩
  | _,_,i+1,x,.cons _ t,e=>by
    obtain ⟨u,h1,h2⟩:=kG.get (i:=i) (x:=x) t (by simpa using e)
    exact ⟨u,by simpa using h1,h2⟩
theorem kG.append:∀ {xs ys:List V} {us ws:List Value},kG xs us→kG ys ws→kG (xs++ys) (us++ws)
  | _,_,_,_,.nil,s=>s
  | _,_,_,_,.cons r t,s=>.cons r (kG.append t s)
theorem kG.take:∀ {xs:List V} {us:List Value} (n:Nat),kG xs us→kG (xs.take n) (us.take n)
  | _,_,0,_=>.nil
  | _,_,_+1,.nil=>.nil
  | _,_,n+1,.cons r t=>.cons r (kG.take n t)
theorem kG.drop:∀ {xs:List V} {us:List Value} (n:Nat),kG xs us→kG (xs.drop n) (us.drop n)
  | _,_,0,r=>r
  | _,_,_+1,.nil=>.nil
  | _,_,n+1,.cons _ t=>kG.drop n t
def pW:Option V→Option Value→Prop
  | some v,some u=>kI v u
  | none,none=>True
  | _,_=>False
def KV {κ:Type}:List (κ×V)→List (κ×Value)→Prop:=Paired fun (p:κ×V) (q:κ×Value)=>p.1=q.1∧kI p.2 q.2
def kV:Key→V
  | .inl i=>.int i
  | .inr x=>.str x
inductive HO where
  | lst (xs:List V)
  | tup (xs:List V)
  | dK (kvs:List (Key×V)) | dT (kvs:List (List Key×V))
  | set (S:Int→Bool) (n:Nat)
  | ins (C dx:Addr) (fs:List (Str×V))
  | own (x:Addr)
  | xd (fs:List (Str×V))
  | met (f x:Addr)
  | rng (lo hi:Int)
  | frz (o:Obj) (u:HO)
  | tbl (ps:Array Value)
  | ext (φ:Heap→Prop)
abbrev Hp:=Addr→Option HO
def upd (H:Hp) (a:Addr) (o:HO):Hp:=fun b=>if b=a then some o else H b
theorem jK {H:Hp} {a:Addr} {o:HO}:upd H a o a=some o:=by unfold upd;rw [if_pos rfl]
theorem jV {H:Hp} {a b:Addr} {o:HO} (h:b≠a):upd H a o b=H b:=by unfold upd;rw [if_neg h]
theorem mU {H:Hp} {a:Addr} {o u:HO}:upd (upd H a o) a u=upd H a u:=by
  funext b;unfold upd;split <;> rfl
theorem j1 {H:Hp} {a b:Addr} {o u:HO} (h:H a=some o) (h':H b=some u) (d:o≠u):a≠b:=by
  intro e;subst e;rw [h] at h';exact d (Option.some.inj h')
theorem jX {H:Hp} {a b:Addr} {o:HO} (h:H a=some o) (h':H b=none):a≠b:=by
  intro e;subst e;rw [h] at h';cases h'
section
variable (P:Program) (w:World)
def kS (H:Hp) (h:Heap) (a:Addr):HO→Prop
  | .lst xs=>xs.length≤sizeLine∧∃ (its:List Value) (n:Nat),kG xs its∧h.get? a=some { cls:=.type "list",data:=.seq its.toArray n }
  | .tup xs=>xs.length≤sizeLine∧∃ its:List Value,kG xs its∧IsTup h a its.toArray
  | .dK kvs=>kvs.length≤sizeLine∧(a == sysModules)=false∧∃ vs,KV kvs vs∧h.DictOf (j5 P w) a vs
  | .dT kvs=>kvs.length≤sizeLine∧(a == sysModules)=false∧∃ xs:List (List Key×Addr×Value),
      Paired (fun (p:List Key×V) (q:List Key×Addr×Value)=>p.1=q.1∧H q.2.1=some (.tup (p.1.map kV))∧kI p.2 q.2.2) kvs xs ∧
      ∃ o es ep,h.get? a=some o∧o.ExactDict∧o.data=.dict es ep∧es.toList=xs.map (entryOfKey (tupleKind (j5 P w)))∧(xs.map (·.1)).Nodup
  | .set S n=>h.SetOf (intKind P w) a S n
  | .ins C dx fs=>H dx=some (.own a)∧fs.length≤1000∧dx≠a∧h.get? a=some (W.instObj C dx) ∧
      ∃ mA,h.Ns1 dx mA∧(∀ f,pW (fs.lookup f) (mA f))∧PySem.Within mA (fs.map (·.1))
  | .own _=>∃ o,h.get? a=some o
  | .xd fs=>∃ mA,h.Ns1 a mA∧∀ f,pW (fs.lookup f) (mA f)
  | .rng lo hi=>∃ t u v,h.get? a=some { cls:=.type "range",data:=.fields #[.int lo t,.int hi u,.int 1 v] }
  | .frz o u=>h.get? a=some o∧kS H h a u
  | .tbl ps=>h.get? a=some { cls:=.none,data:=.fields ps }
  | .met f x=>h.get? a=some (W.methodObj (.ref f) (.ref x))
  | .ext φ=>φ h∧(∃ o,h.get? a=some o)∧∀ h1 h2:Heap,φ h1→(∀ o,h1.get? a=some o→h2.get? a=some o)→φ h2
def HOk (H:Hp) (h:Heap):Prop:=∀ a o,H a=some o→kS P w H h a o
end
section
variable {P:Program} {w:World} {H H':Hp} {h h':Heap} {a:Addr} {o:HO}
theorem kS.lt (x:kS P w H h a o):a < h.objs.size:=by
  cases o with
  | lst xs=>obtain ⟨_,_,_,_,e⟩:=x;exact Heap.lt_size e
  | tup xs=>obtain ⟨_,_,_,p⟩:=x;exact p.lt
  | dK kvs=>obtain ⟨_,_,_,_,o,_,_,e,_⟩:=x;exact Heap.lt_size e
  | dT kvs=>obtain ⟨_,_,_,_,o,_,_,e,_⟩:=x;exact Heap.lt_size e
  | set S n=>obtain ⟨o,_,_,_,e,_⟩:=x;exact Heap.lt_size e
  | ins C dx fs=>obtain ⟨_,_,_,e,_⟩:=x;exact Heap.lt_size e
  | own y=>obtain ⟨_,e⟩:=x;exact Heap.lt_size e
  | xd fs=>obtain ⟨_,⟨_,_,_,e,_⟩,_⟩:=x;exact Heap.lt_size e
  | rng lo hi=>obtain ⟨_,_,_,e⟩:=x;exact Heap.lt_size e
  | frz ob u=>obtain ⟨e,_⟩:=x;exact Heap.lt_size e
  | tbl ps=>exact Heap.lt_size (show h.get? a=some _ from x)
  | met f y=>exact Heap.lt_size (show h.get? a=some _ from x)
  | ext φ=>obtain ⟨_,⟨_,e⟩,_⟩:=x;exact Heap.lt_size e
theorem Paired.mapP {α β:Type} {F G:α→β→Prop}:∀ {l₁:List α} {l₂:List β},Paired F l₁ l₂→(∀ a b,F a b→G a b)→Paired G l₁ l₂
  | _,_,.nil,_=>.nil
  | _,_,.cons r t,f=>.cons (f _ _ r) (Paired.mapP t f)
theorem Paired.imp' {α β:Type} {F G:α→β→Prop} (f:∀ a b,F a b→G a b) {l₁:List α} {l₂:List β} (r:Paired F l₁ l₂):Paired G l₁ l₂:=Paired.mapP r f
theorem kS.stay (x:kS P w H h a o) (k:∀ b u,(b=a∨H b=some (.own a))→h.get? b=some u→h'.get? b=some u)
    (ho:∀ b,H b=some (.own a)→H' b=some (.own a)) (ht:∀ b xs,H b=some (.tup xs)→H' b=some (.tup xs)):kS P w H' h' a o:=by
  induction o with
  | lst xs=>obtain ⟨z,its,n,r,e⟩:=x;exact ⟨z,its,n,r,k _ _ (.inl rfl) e⟩
  | tup xs=>obtain ⟨z,its,r,ob,e,c⟩:=x;exact ⟨z,its,r,ob,k _ _ (.inl rfl) e,c⟩
  | dK kvs=>obtain ⟨z,y,vs,r,ob,es,ep,e,c⟩:=x;exact ⟨z,y,vs,r,ob,es,ep,k _ _ (.inl rfl) e,c⟩
  | dT kvs =>
    obtain ⟨z,y,xs,r,ob,es,ep,e,c⟩:=x
    exact ⟨z,y,xs,Paired.mapP r fun p q z=>⟨z.1,ht _ _ z.2.1,z.2.2⟩,ob,es,ep,k _ _ (.inl rfl) e,c⟩
  | set S n=>obtain ⟨ob,es,ep,t,e,c⟩:=x;exact ⟨ob,es,ep,t,k _ _ (.inl rfl) e,c⟩
  | ins C dx fs =>
    obtain ⟨d,z,ne,e,mA,⟨od,es,ep,e2,c⟩,r⟩:=x
    exact ⟨ho _ d,z,ne,k _ _ (.inl rfl) e,mA,⟨od,es,ep,k _ _ (.inr d) e2,c⟩,r⟩
  | own y=>obtain ⟨ob,e⟩:=x;exact ⟨ob,k _ _ (.inl rfl) e⟩
  | xd fs=>obtain ⟨mA,⟨od,es,ep,e,c⟩,r⟩:=x;exact ⟨mA,⟨od,es,ep,k _ _ (.inl rfl) e,c⟩,r⟩
  | rng lo hi=>obtain ⟨t,u,v,e⟩:=x;exact ⟨t,u,v,k _ _ (.inl rfl) e⟩
  | frz ob u ih=>obtain ⟨e,q⟩:=x;exact ⟨k _ _ (.inl rfl) e,ih q⟩
  | tbl ps =>
    have e:h.get? a=some { cls:=.none,data:=.fields ps }:=x
    show h'.get? a=some { cls:=.none,data:=.fields ps }
    exact k a _ (.inl rfl) e
  | met f y =>
    have e:h.get? a=some (W.methodObj (.ref f) (.ref y)):=x
    show h'.get? a=some (W.methodObj (.ref f) (.ref y))
    exact k a _ (.inl rfl) e
  | ext φ=>obtain ⟨p,⟨o,e⟩,st⟩:=x;exact ⟨st _ _ p fun o q=>k _ _ (.inl rfl) q,⟨o,k _ _ (.inl rfl) e⟩,st⟩
theorem HOk.lt (x:HOk P w H h) (e:H a=some o):a < h.objs.size:=(x a o e).lt
theorem HOk.fresh (x:HOk P w H h) (e:h.objs.size≤a):H a=none:=by
  cases q:H a with
  | none=>rfl
  | some u=>exact absurd (Nat.lt_of_lt_of_le (x.lt q) e) (Nat.lt_irrefl _)
theorem HOk.kept (x:HOk P w H h) (k:∀ b u,h.get? b=some u→h'.get? b=some u):HOk P w H h':=fun a o e =>
  (x a o e).stay (fun b u _ q=>k b u q) (fun _ q=>q) fun _ _ q=>q
theorem HOk.laid (x:HOk P w H h) (k:∀ b u,h.get? b=some u→h'.get? b=some u) (hp:h.objs.size≤a) (new:kS P w (upd H a o) h' a o):HOk P w (upd H a o) h':=fun b u e=>by
  have hn:=x.fresh hp
  by_cases hb:b=a
  · subst hb;rw [jK] at e;cases e;exact new
  · rw [jV hb] at e
    exact (x b u e).stay (fun c v _ q=>k c v q) (fun c q=>by rw [jV (jX q hn)];exact q) fun c xs q=>by rw [jV (jX q hn)];exact q
end
def Rd (H:Hp) (a:Addr) (u:HO):Prop:=H a=some u∨∃ o,H a=some (.frz o u)
theorem Rd.ok {P:Program} {w:World} {H:Hp} {h:Heap} {a:Addr} {u:HO} (r:Rd H a u) (x:HOk P w H h):kS P w H h a u:=by
  rcases r with r | ⟨o,r⟩
  · exact x a u r
  · obtain ⟨_,q⟩:=x a _ r
    exact q
def Mut:Option HO→Prop
  | some (.lst _)=>True
  | some (.dK _)=>True
  | some (.dT _)=>True
  | some (.set _ _)=>True
  | some (.ins _ _ _)=>True
  | some (.ext _)=>True
  | _=>False
section
variable {P:Program} {w:World} {H:Hp} {h h':Heap} {x e:Addr} {o':HO}
theorem HOk.write (ok:HOk P w H h) (mu:Mut (H x)) (he:e=x∨H e=some (.own x)) (k:∀ b u,b≠e→h.get? b=some u→h'.get? b=some u) (heo:∃ u,h'.get? e=some u)
    (new:kS P w (upd H x o') h' x o'):HOk P w (upd H x o') h':=fun b u q=>by
  have nown:∀ c y,H c=some (.own y)→c≠x:=fun c y r z=>by subst z;rw [r] at mu;exact mu
  have ntup:∀ c xs,H c=some (.tup xs)→c≠x:=fun c xs r z=>by subst z;rw [r] at mu;exact mu
  by_cases hb:b=x
  · subst hb;rw [jK] at q;cases q;exact new
  · rw [jV hb] at q
    by_cases hbe:b=e
    · have q':H b=some (.own x):=by
        rcases he with z | z
        · exact absurd (hbe.trans z) hb
        · rw [hbe];exact z
      rw [q] at q';cases q'
      obtain ⟨v,hv⟩:=heo
      exact ⟨v,by rw [hbe];exact hv⟩
    · refine (ok b u q).stay (fun c v hc r=>k c v ?_ r) (fun c r=>by rw [jV (nown c b r)];exact r) fun c xs r=>by rw [jV (ntup c xs r)];exact r
      rcases hc with rfl | hc
      · exact hbe
      · rintro rfl
        rcases he with z | z
        · exact nown c b hc z
        · rw [hc] at z;cases z;exact hb rfl
end
structure Un (fs ex:List Addr) (H H':Hp) (h h':Heap):Prop where
  keep:∀ b o,h.get? b=some o→H b=none→b∉fs→b∉ex→h'.get? b=some o
  slot:∀ b o,h.get? b=some o→H b=none→b∈fs→b∉ex→∃ sl,h'.get? b=some { o with slots:=sl }
  free:∀ b o,h.get? b=some o→H b=none→b∉ex→H' b=none
  there:∀ b o,h.get? b=some o→b∉ex→∃ o',h'.get? b=some o'
  tups:∀ b xs,H b=some (.tup xs)→H' b=some (.tup xs)
  frzs:∀ b o u,H b=some (.frz o u)→H' b=some (.frz o u)
  tbls:∀ b ps,H b=some (.tbl ps)→∃ more,H' b=some (.tbl (ps++more))
section
variable {fs fs' ex ex':List Addr} {H H1 H2:Hp} {h h1 h2 h':Heap} {a x e:Addr} {o:HO}
theorem Un.any (u:Un fs ex H H1 h h1) {b:Addr} {ob:Obj} (q:h.get? b=some ob) (n:H b=none) (hx:b∉ex):∃ sl,h1.get? b=some { ob with slots:=sl }:=by
  by_cases hb:b∈fs
  · exact u.slot b ob q n hb hx
  · exact ⟨ob.slots,u.keep b ob q n hb hx⟩
theorem Un.kept (k:∀ b u,h.get? b=some u→h'.get? b=some u):Un fs ex H H h h' :=
  ⟨fun b ob q _ _ _=>k b ob q,fun b ob q _ _ _=>⟨ob.slots,k b ob q⟩,fun _ _ _ n _=>n,fun b ob q _=>⟨ob,k b ob q⟩,fun _ _ q=>q,fun _ _ _ q=>q,fun _ ps q=>⟨#[],by rw [q];simp⟩⟩
theorem Un.refl:Un fs ex H H h h:=Un.kept fun _ _ q=>q
theorem Un.laid (k:∀ b u,h.get? b=some u→h'.get? b=some u) (hp:h.objs.size≤a) (hn:H a=none):Un fs ex H (upd H a o) h h' where
  keep:=fun b u q _ _ _=>k b u q
  slot:=fun b u q _ _ _=>⟨u.slots,k b u q⟩
  free:=fun b u q n _=>by rw [jV (Nat.ne_of_lt (Nat.lt_of_lt_of_le (Heap.lt_size q) hp))];exact n
  there:=fun b u q _=>⟨u,k b u q⟩
  tups:=fun b xs q=>by rw [jV (jX q hn)];exact q
  frzs:=fun b u xs q=>by rw [jV (jX q hn)];exact q
  tbls:=fun b ps q=>⟨#[],by rw [jV (jX q hn),q];simp⟩
theorem Un.write (mu:Mut (H x)) (he:e=x∨H e=some (.own x)) (k:∀ b u,b≠e→h.get? b=some u→h'.get? b=some u) (heo:∃ u,h'.get? e=some u):Un fs ex H (upd H x o) h h':=by
  have hx:∀ b,H b=none→b≠x:=fun b n z=>by subst z;rw [n] at mu;exact mu
  have hb:∀ b,H b=none→b≠e:=fun b n z=>by
    subst z
    rcases he with r | r
    · exact hx b n r
    · rw [n] at r;cases r
  have hm:∀ b u,H b=some u→¬ Mut (some u)→b≠x:=fun b u q nm z=>by subst z;rw [q] at mu;exact nm mu
  refine ⟨fun b u q n _ _=>k b u (hb b n) q,fun b u q n _ _=>⟨u.slots,k b u (hb b n) q⟩,fun b u q n _=>by rw [jV (hx b n)];exact n,fun b u q _=>?_,
    fun b xs q=>by rw [jV (hm b _ q fun z=>z)];exact q,fun b u xs q=>by rw [jV (hm b _ q fun z=>z)];exact q,fun b ps q=>⟨#[],by rw [jV (hm b _ q fun z=>z),q];simp⟩⟩
  by_cases hbe:b=e
  · subst hbe;exact heo
  · exact ⟨u,k b u hbe q⟩
end
def trk (h:Heap) (H:Hp):List Addr:=(List.range h.objs.size).filter fun a=>(H a).isSome
def a8 (h:Heap) (H:Hp):Heap:=W.hideAll h (trk h H)
theorem a9 (h:Heap) (H:Hp):(a8 h H).objs.size=h.objs.size:=W.hideAll_size _ _
theorem o7 {h:Heap} {H:Hp} {b:Addr} {o:Obj} (e:h.get? b=some o) (n:H b=none):(a8 h H).get? b=some o :=
  W.hideAll_get _ e fun hm=>by
    have q:(H b).isSome=true:=(List.mem_filter.mp hm).2
    rw [n] at q;simp at q
theorem jwZ {h:Heap} {H:Hp} {b:Addr} {o:Obj} (e:(a8 h H).get? b=some o):h.get? b=some o∧H b=none:=by
  have e':h.get? b=some o:=W.of_hideAll (trk h H) e
  refine ⟨e',?_⟩
  cases q:H b with
  | none=>rfl
  | some x =>
    have hm:b∈trk h H:=List.mem_filter.mpr ⟨List.mem_range.mpr (Heap.lt_size e'),by simp [q]⟩
    have z:(a8 h H).get? b=none:=W.hideAll_none (trk h H) hm
    rw [z] at e;cases e
structure Mod (K:W.Frag) (mg:Str→Option Value) (base:Heap):Prop where
  kin:K.In base
  glob:base.Ns mainGlobals mg
  blt:∃ mb,base.Ns builtinsNs mb∧∀ x:Str,x≠"__name__"→mb x=bootBuiltins x
  nolimit:base.NoLimit
structure Cx where
  prog:Program
  w:World
  K:W.Frag
  mg:Str→Option Value
  base:Heap
  A:Around
  N:List Str
  s_0:Shared
  H_0:Hp
  env:Env
  outer:List Env
  stack:List Env
  ex:List Addr
  fn:Str→Bool
  calm:Bool
  pn:List (Addr×Obj)
  xe:Value→Shared→Prop
def frs (l:List Env):List Addr:=l.filterMap (·.frame)
abbrev Cx.fs (X:Cx):List Addr:=frs X.outer
def Vis (sc:Scope) (x:Str):Prop:=sc.names.lookup x=some .local∨sc.names.lookup x=some .cell∨sc.names.lookup x=some .free
def Loc (sc:Scope) (x:Str):Prop:=sc.names.lookup x=some .local∨sc.names.lookup x=some .cell
def js7 (env:Env) (h:Heap) (m:Str→Option Value) (x:Str) (u:Value):Prop :=
  (env.kindOf x=some .local∧m x=some u)∨((env.kindOf x=some .cell∨env.kindOf x=some .free)∧∃ c,env.cells.lookup x=some c∧h.IsCell c (some u))
structure Cx.Ok (X:Cx):Prop where
  mod:Mod X.K X.mg X.base
  kind:X.env.scope.kind=.function
  glob:X.env.globals=mainGlobals
  blt:X.env.builtins=builtinsNs
  above:X.s_0.heap.objs.size≤X.env.locals
  inj:∀ x y c,X.env.cells.lookup x=some c→X.env.cells.lookup y=some c→x=y
  has:∀ x,(X.env.kindOf x=some .cell∨X.env.kindOf x=some .free)→∃ c,X.env.cells.lookup x=some c
  cab:∀ x c,X.fn x=true→X.env.cells.lookup x=some c→X.s_0.heap.objs.size≤c
  hd:X.calm=true→X.A.handled=none
  frames:X.A.frames=some X.stack
  stk:X.stack=X.outer∨(X.stack=X.env :: X.outer∧X.env.frame=some X.env.locals)
  exf:∀ b∈X.ex,b≠X.env.locals∧∀ x c,X.env.cells.lookup x=some c→c≠b
  bs:∀ b o,X.base.get? b=some o→X.s_0.heap.get? b=some o∧X.H_0 b=none
  bsz:X.base.objs.size≤X.s_0.heap.objs.size
  noex:∀ b o,X.base.get? b=some o→b∉X.ex
  exfs:∀ b∈X.ex,b∉X.fs
  funs:X.s_0.heap.FunFrames X.base X.outer
  frf:∀ b∈X.fs,X.H_0 b=none
structure Inv (X:Cx) (pins:List (Addr×Obj)) (σ:List (Option V)) (H:Hp) (s:Shared):Prop where
  ok:X.Ok
  os:s.os=X.s_0.os
  bare:AllBare s.gens
  base:Un X.fs X.ex X.H_0 H X.s_0.heap s.heap
  loc:∃ m,s.heap.Ns X.env.locals m∧∀ (i:Nat) (x:Str) (v:V),X.N[i]? = some x→σ[i]? = some (some v)→Vis X.env.scope x→∃ u,kI v u∧js7 X.env s.heap m x u
  cell:∀ x c,X.env.cells.lookup x=some c→∃ v,s.heap.IsCell c v
  free:H X.env.locals=none
  freeC:∀ x c,X.env.cells.lookup x=some c→H c=none
  pin:∀ p∈X.pn++pins,s.heap.get? p.1=some p.2∧H p.1=none∧p.1≠X.env.locals∧p.1∉X.fs∧∀ v,p.2.data≠.cell v
  hok:HOk X.prog X.w H s.heap
  len:σ.length=X.N.length
section
variable {X:Cx} {pins:List (Addr×Obj)} {σ:List (Option V)} {H H':Hp} {s:Shared} {h':Heap}
theorem Cx.Ok.nofr (ok:X.Ok) {b:Addr} {o:Obj} (e:X.base.get? b=some o):b∉X.fs:=fun hb=>by
  have:=(ok.funs.mem hb).1
  rw [e] at this;cases this
theorem Inv.bs (I:Inv X pins σ H s):∀ b o,X.base.get? b=some o→s.heap.get? b=some o∧H b=none:=fun b o e =>
  ⟨I.base.keep b o (I.ok.bs b o e).1 (I.ok.bs b o e).2 (I.ok.nofr e) (I.ok.noex b o e),I.base.free b o (I.ok.bs b o e).1 (I.ok.bs b o e).2 (I.ok.noex b o e)⟩
theorem Inv.bk (I:Inv X pins σ H s):∀ b o,X.base.get? b=some o→s.heap.get? b=some o:=fun b o e=>(I.bs b o e).1
theorem Inv.mod (I:Inv X pins σ H s):Mod X.K X.mg X.base:=I.ok.mod
theorem Inv.kIn (I:Inv X pins σ H s):X.K.In s.heap:=I.ok.mod.kin.keeps I.bk
theorem Inv.nolimit (I:Inv X pins σ H s):s.heap.NoLimit:=I.ok.mod.nolimit.keeps I.bk
theorem Inv.lt (I:Inv X pins σ H s):X.env.locals < s.heap.objs.size:=let ⟨_,hn,_⟩:=I.loc;hn.lt
theorem Inv.sz (I:Inv X pins σ H s):X.s_0.heap.objs.size≤s.heap.objs.size:=Nat.le_trans I.ok.above (Nat.le_of_lt I.lt)
theorem Inv.nofs (I:Inv X pins σ H s) {a:Addr} (h:s.heap.objs.size≤a):a∉X.fs:=fun hb=>by
  obtain ⟨_,o,ho,_⟩:=I.ok.funs.mem hb
  exact absurd (Nat.lt_of_lt_of_le (Heap.lt_size ho) (Nat.le_trans I.sz h)) (Nat.lt_irrefl _)
theorem Inv.cne (I:Inv X pins σ H s):∀ x c,X.env.cells.lookup x=some c→c≠X.env.locals:=fun x c e z=>by
  obtain ⟨v,o,ho,hd⟩:=I.cell x c e
  obtain ⟨m,⟨o',es,ep,ho',hd',_⟩,_⟩:=I.loc
  rw [z,ho'] at ho;cases ho;rw [hd'] at hd;cases hd
theorem Inv.funs (I:Inv X pins σ H s):s.heap.FunFrames X.base X.outer:=by
  have all:∀ (l:List Env),(∀ b∈frs l,b∈X.fs)→X.s_0.heap.FunFrames X.base l→s.heap.FunFrames X.base l:=by
    intro l
    induction l with
    | nil=>intro _ _;trivial
    | cons env r ih =>
      intro hs hl
      obtain ⟨hk,⟨L,o,hf,hn,ho,hd⟩,hr⟩:=hl
      have hL:L∈X.fs:=hs L (by unfold frs;rw [List.filterMap_cons,hf];exact List.mem_cons_self)
      obtain ⟨sl,e⟩:=I.base.slot L o ho (I.ok.frf L hL) hL fun z=>I.ok.exfs L z hL
      exact ⟨hk,⟨L,_,hf,hn,e,hd⟩,ih (fun b hb=>hs b (by unfold frs;rw [List.filterMap_cons,hf];exact List.mem_cons_of_mem _ hb)) hr⟩
  exact all X.outer (fun _ hb=>hb) I.ok.funs
theorem Inv.stack (I:Inv X pins σ H s):s.heap.FunFrames X.base X.stack:=by
  rcases I.ok.stk with e | ⟨e,hf⟩
  · rw [e];exact I.funs
  · rw [e]
    obtain ⟨m,hn,_⟩:=I.loc
    refine .cons (by rw [I.ok.kind];decide) hf hn ?_ I.funs
    exact Heap.get?_none_of_le (Nat.le_trans I.ok.bsz I.ok.above)
theorem Inv.stkSub (I:Inv X pins σ H s):∀ b∈frs X.stack,b∈X.env.locals :: X.fs:=fun b hb=>by
  rcases I.ok.stk with e | ⟨e,hf⟩
  · rw [e] at hb;exact List.mem_cons_of_mem _ hb
  · rw [e] at hb
    unfold frs at hb
    rw [List.filterMap_cons,hf] at hb
    exact hb
theorem Inv.stkFree (I:Inv X pins σ H s):∀ b∈frs X.stack,H b=none:=fun b hb=>by
  rcases List.mem_cons.mp (I.stkSub b hb) with e | hb
  · rw [e];exact I.free
  · obtain ⟨_,o,ho,_⟩:=I.ok.funs.mem hb
    exact I.base.free b o ho (I.ok.frf b hb) fun z=>I.ok.exfs b z hb
theorem Inv.step {g':Array GenState} {t':Nat} {d':Drawn} {ch:List Addr} (I:Inv X pins σ H s)
    (hch:∀ b∈ch,(b∈X.ex∨X.s_0.heap.objs.size≤b)∧b≠X.env.locals∧(∀ x c,X.env.cells.lookup x=some c→c≠b)∧∀ p∈X.pn++pins,p.1≠b)
    (keep:∀ b o,b≠X.env.locals→b∉X.fs→b∉ch→s.heap.get? b=some o→H b=none→h'.get? b=some o)
    (slot:∀ b o,b≠X.env.locals→b∈X.fs→b∉ch→s.heap.get? b=some o→H b=none→∃ sl,h'.get? b=some { o with slots:=sl }) (free:∀ b o,b∉ch→s.heap.get? b=some o→H b=none→H' b=none)
    (there:∀ b o,b∉ch→s.heap.get? b=some o→∃ o',h'.get? b=some o')
    (tups:∀ b xs,H b=some (.tup xs)→H' b=some (.tup xs)) (frzs:∀ b o u,H b=some (.frz o u)→H' b=some (.frz o u)) (tbls:∀ b ps,H b=some (.tbl ps)→∃ more,H' b=some (.tbl (ps++more)))
    (ns:∀ m,s.heap.Ns X.env.locals m→h'.Ns X.env.locals m) (hok:HOk X.prog X.w H' h') (hg:AllBare g') :
    Inv X pins σ H' { s with heap:=h',gens:=g',drawn:=d',toks:=t' }:=by
  have neL:∀ b o,X.s_0.heap.get? b=some o→b≠X.env.locals:=fun b o e=>Nat.ne_of_lt (Nat.lt_of_lt_of_le (Heap.lt_size e) I.ok.above)
  have neC:∀ b o,X.s_0.heap.get? b=some o→b∉X.ex→b∉ch:=fun b o e hx hb=>by
    rcases (hch b hb).1 with z | z
    · exact hx z
    · exact absurd (Nat.lt_of_lt_of_le (Heap.lt_size e) z) (Nat.lt_irrefl _)
  have cellK:∀ x c,X.env.cells.lookup x=some c→∀ v,s.heap.IsCell c v→h'.IsCell c v:=fun x c e v ⟨o,ho,hd⟩=>by
    have nch:c∉ch:=fun z=>(hch c z).2.2.1 x c e rfl
    by_cases hc:c∈X.fs
    · obtain ⟨sl,q⟩:=slot c o (I.cne x c e) hc nch ho (I.freeC x c e)
      exact ⟨_,q,hd⟩
    · exact ⟨o,keep c o (I.cne x c e) hc nch ho (I.freeC x c e),hd⟩
  refine ⟨I.ok,I.os,hg,⟨fun b o e n hb hx=>?_,fun b o e n hb hx=>?_,fun b o e n hx=>?_,fun b o e hx=>?_,fun b xs e=>tups b xs (I.base.tups b xs e),fun b o xs e=>frzs b o xs (I.base.frzs b o xs e),fun b ps e=>?_⟩,?_,fun x c e=>?_,?_,fun x c e=>?_,fun p hp=>?_,hok,I.len⟩
  · exact keep b o (neL b o e) hb (neC b o e hx) (I.base.keep b o e n hb hx) (I.base.free b o e n hx)
  · obtain ⟨sl,e1⟩:=I.base.slot b o e n hb hx
    obtain ⟨sl',e2⟩:=slot b _ (neL b o e) hb (neC b o e hx) e1 (I.base.free b o e n hx)
    exact ⟨sl',e2⟩
  · obtain ⟨o',e1⟩:=I.base.there b o e hx
    exact free b o' (neC b o e hx) e1 (I.base.free b o e n hx)
  · obtain ⟨o',e1⟩:=I.base.there b o e hx
    exact there b o' (neC b o e hx) e1
  · obtain ⟨m1,e1⟩:=I.base.tbls b ps e
    obtain ⟨m2,e2⟩:=tbls b _ e1
    exact ⟨m1++m2,by rw [e2,Array.append_assoc]⟩
  · obtain ⟨m,hn,hl⟩:=I.loc
    refine ⟨m,ns m hn,fun i x v e1 e2 e3=>?_⟩
    obtain ⟨u,r,l⟩:=hl i x v e1 e2 e3
    refine ⟨u,r,?_⟩
    rcases l with l | ⟨k,c,e,z⟩
    · exact .inl l
    · exact .inr ⟨k,c,e,cellK x c e _ z⟩
  · obtain ⟨v,z⟩:=I.cell x c e
    exact ⟨v,cellK x c e v z⟩
  · obtain ⟨m,⟨o,_,_,ho,_⟩,_⟩:=I.loc
    exact free _ o (fun z=>(hch _ z).2.1 rfl) ho I.free
  · obtain ⟨v,o,ho,hd⟩:=I.cell x c e
    exact free c o (fun z=>(hch c z).2.2.1 x c e rfl) ho (I.freeC x c e)
  · obtain ⟨e,n,ne,nf,d⟩:=I.pin p hp
    have nch:p.1∉ch:=fun z=>(hch p.1 z).2.2.2 p hp rfl
    exact ⟨keep p.1 p.2 ne nf nch e n,free p.1 p.2 nch e n,ne,nf,d⟩
theorem Inv.un {t':Nat} (I:Inv X pins σ H s) (u:Un X.fs [] H H' s.heap h') (hok:HOk X.prog X.w H' h'):Inv X pins σ H' { s with heap:=h',toks:=t' }:=by
  obtain ⟨m,⟨o,es,ep,ho,r⟩,_⟩:=id I.loc
  obtain ⟨sl,hL⟩:=u.any ho I.free (by simp)
  exact I.step (g':=s.gens) (d':=s.drawn) (ch:=[]) (fun _ z=>nomatch z) (fun b o _ hb _ e n=>u.keep b o e n hb (by simp)) (fun b o _ hb _ e n=>u.slot b o e n hb (by simp)) (fun b o _ e n=>u.free b o e n (by simp)) (fun b o _ e=>u.there b o e (by simp)) u.tups u.frzs u.tbls (fun m' hm=>by
    obtain ⟨o',es',ep',ho',r'⟩:=hm
    rw [ho] at ho';cases ho'
    exact ⟨_,es',ep',hL,r'⟩) hok I.bare
theorem Inv.call {g':Array GenState} {t':Nat} {d':Drawn} {ch:List Addr} (I:Inv X pins σ H s) (u:Un (frs X.stack) ch H H' s.heap h') (hok:HOk X.prog X.w H' h') (hg:AllBare g')
    (hch:∀ b∈ch,(b∈X.ex∨X.s_0.heap.objs.size≤b)∧b≠X.env.locals∧(∀ x c,X.env.cells.lookup x=some c→c≠b)∧∀ p∈X.pn++pins,p.1≠b) :
    Inv X pins σ H' { s with heap:=h',gens:=g',drawn:=d',toks:=t' }:=by
  obtain ⟨m,⟨o,es,ep,ho,r⟩,_⟩:=id I.loc
  obtain ⟨sl,hL⟩:=u.any ho I.free fun z=>(hch _ z).2.1 rfl
  exact I.step (ch:=ch) hch (fun b o hL hb hc e n=>u.keep b o e n (fun z=>(List.mem_cons.mp (I.stkSub b z)).elim hL hb) hc) (fun b o _ _ hc e n=>u.any e n hc) (fun b o hc e n=>u.free b o e n hc) (fun b o hc e=>u.there b o e hc) u.tups u.frzs u.tbls (fun m' hm=>by
    obtain ⟨o',es',ep',ho',r'⟩:=hm
    rw [ho] at ho';cases ho'
    exact ⟨_,es',ep',hL,r'⟩) hok hg
theorem Inv.turned {t':Nat} {it:Addr} (I:Inv X pins σ H s) (k:∀ b o,b≠it→s.heap.get? b=some o→h'.get? b=some o) (hn:H it=none) (hL:it≠X.env.locals)
    (h1:it∈X.ex∨X.s_0.heap.objs.size≤it) (h2:∀ x c,X.env.cells.lookup x=some c→c≠it) (h3:∀ p∈X.pn++pins,p.1≠it):Inv X pins σ H { s with heap:=h',toks:=t' }:=by
  have nit:∀ b u,H b=some u→b≠it:=fun b u e z=>by rw [z,hn] at e;cases e
  refine I.step (g':=s.gens) (d':=s.drawn) (ch:=[it]) (fun b hb=>?_) (fun b o _ _ hc e _=>k b o (fun z=>hc (by simp [z])) e) (fun b o _ _ hc e _=>⟨o.slots,k b o (fun z=>hc (by simp [z])) e⟩) (fun _ _ _ _ n=>n)
    (fun b o hc e=>⟨o,k b o (fun z=>hc (by simp [z])) e⟩) (fun _ _ e=>e) (fun _ _ _ e=>e) (fun b ps e=>⟨#[],by rw [e];simp⟩) (fun m hm=>?_) (fun b u e=>?_) I.bare
  · have e:b=it:=by simpa using hb
    subst e
    exact ⟨h1,hL,h2,h3⟩
  · obtain ⟨o,es,ep,ho,r⟩:=hm
    exact ⟨o,es,ep,k _ o (Ne.symm hL) ho,r⟩
  · refine (I.hok b u e).stay (fun c v hc q=>k c v ?_ q) (fun _ q=>q) fun _ _ q=>q
    rcases hc with z | z
    · rw [z];exact nit b u e
    · exact nit c _ z
theorem Inv.tok (I:Inv X pins σ H s) (t:Nat):Inv X pins σ H { s with toks:=t }:=I.un (h':=s.heap) (t':=t) Un.refl I.hok
theorem Inv.kept {t':Nat} (I:Inv X pins σ H s) (k:∀ b u,s.heap.get? b=some u→h'.get? b=some u):Inv X pins σ H { s with heap:=h',toks:=t' }:=I.un (Un.kept k) (I.hok.kept k)
theorem Inv.laid {a:Addr} {o:HO} {t':Nat} (I:Inv X pins σ H s) (k:∀ b u,s.heap.get? b=some u→h'.get? b=some u) (hp:s.heap.objs.size≤a) (new:kS X.prog X.w (upd H a o) h' a o) :
    Inv X pins σ (upd H a o) { s with heap:=h',toks:=t' }:=I.un (Un.laid k hp (I.hok.fresh hp)) (I.hok.laid k hp new)
theorem Inv.write {x e:Addr} {o:HO} {t':Nat} (I:Inv X pins σ H s) (mu:Mut (H x)) (he:e=x∨H e=some (.own x)) (k:∀ b u,b≠e→s.heap.get? b=some u→h'.get? b=some u) (heo:∃ u,h'.get? e=some u)
    (new:kS X.prog X.w (upd H x o) h' x o):Inv X pins σ (upd H x o) { s with heap:=h',toks:=t' }:=I.un (Un.write mu he k heo) (I.hok.write mu he k heo new)
theorem Inv.weak {σ':List (Option V)} (I:Inv X pins σ H s) (hl:σ'.length=σ.length) (w:∀ (i:Nat) v,σ'[i]? = some (some v)→σ[i]? = some (some v)):Inv X pins σ' H s :=
  ⟨I.ok,I.os,I.bare,I.base,let ⟨m,hn,hl'⟩:=I.loc;⟨m,hn,fun i x v e1 e2 e3=>hl' i x v e1 (w i v e2) e3⟩,I.cell,I.free,I.freeC,I.pin,I.hok,hl.trans I.len⟩
theorem Inv.pins_of {pins':List (Addr×Obj)} (I:Inv X pins σ H s) (h:∀ p∈pins',s.heap.get? p.1=some p.2∧H p.1=none∧p.1≠X.env.locals∧p.1∉X.fs∧∀ v,p.2.data≠.cell v):Inv X pins' σ H s :=
  ⟨I.ok,I.os,I.bare,I.base,I.loc,I.cell,I.free,I.freeC,fun p hp=>(List.mem_append.mp hp).elim (fun z=>I.pin p (List.mem_append_left _ z)) (h p),I.hok,I.len⟩
theorem d8 {N:List Str} (hN:N.Nodup) {i j:Nat} {x:Str} (a:N[i]? = some x) (b:N[j]? = some x):i=j:=by
  obtain ⟨h1,e1⟩:=List.getElem?_eq_some_iff.mp a
  obtain ⟨h2,e2⟩:=List.getElem?_eq_some_iff.mp b
  exact (List.getElem_inj hN).mp (e1.trans e2.symm)
theorem rT {M:Model} {A:Around} {E:Value→Shared→Prop} {i:Nat} {x:Str} {v:V} {u:Value} {Q:Unit→Shared→Prop} (I:Inv X pins σ H s) (hN:X.N.Nodup) (hi:X.N[i]? = some x) (hx:Loc X.env.scope x) (r:kI v u)
    (h:∀ s',Inv X pins (σ.set i (some v)) H s'→(∃ a,Heap.SameBut a s.heap s'.heap∧(a=X.env.locals∨X.env.cells.lookup x=some a))→Q () s') (hf:X.fn x=true∨X.env.scope.names.lookup x=some .local:=by first | exact .inl rfl | exact .inr rfl | assumption):wpAny M A (storeName X.env x u) Q E s:=by
  obtain ⟨m,hn,hl⟩:=id I.loc
  have hcls:(X.env.scope.kind == .class || (X.env.scope.kind == .module && X.env.locals != X.env.globals))=false:=by rw [I.ok.kind];rfl
  have hiσ:i < σ.length:=by rw [I.len];exact (List.getElem?_eq_some_iff.mp hi).1
  have cne:=I.cne
  have tracked:∀ {a:Addr} {h':Heap},(∃ o,s.heap.get? a=some o∧H a=none)→Heap.SameBut a s.heap h'→HOk X.prog X.w H h':=fun {a h'} ha hs b ob e=>by
    obtain ⟨_,_,hfree⟩:=ha
    refine (I.hok b ob e).stay (fun c w' hc q=>(hs.2 c ?_).trans q) (fun _ q=>q) fun _ _ q=>q
    rintro rfl
    rcases hc with rfl | hc
    · rw [hfree] at e;cases e
    · rw [hfree] at hc;cases hc
  rcases hx with hk | hk
  · refine wpAny_storeName_local hk hn (fun h' hn' hs=>?_) hcls
    obtain ⟨oL,_,_,hoL,_⟩:=id hn
    refine h _ ⟨I.ok,I.os,I.bare,⟨fun b o e n hb hx=>?_,fun b o e n hb hx=>?_,I.base.free,fun b o e hx=>?_,I.base.tups,I.base.frzs,I.base.tbls⟩,⟨_,hn',fun j y v' e1 e2 e3=>?_⟩,fun y c e=>?_,I.free,I.freeC,fun p hp=>?_,tracked ⟨oL,hoL,I.free⟩ hs,by simpa using I.len⟩ ⟨_,hs,.inl rfl⟩
    · exact (hs.2 b (Nat.ne_of_lt (Nat.lt_of_lt_of_le (Heap.lt_size e) I.ok.above))).trans (I.base.keep b o e n hb hx)
    · obtain ⟨sl,e1⟩:=I.base.slot b o e n hb hx
      exact ⟨sl,(hs.2 b (Nat.ne_of_lt (Nat.lt_of_lt_of_le (Heap.lt_size e) I.ok.above))).trans e1⟩
    · obtain ⟨o',e1⟩:=I.base.there b o e hx
      exact ⟨o',(hs.2 b (Nat.ne_of_lt (Nat.lt_of_lt_of_le (Heap.lt_size e) I.ok.above))).trans e1⟩
    · by_cases hj:j=i
      · subst hj
        rw [hi] at e1;cases e1
        rw [List.getElem?_set_self hiσ] at e2
        cases e2
        exact ⟨u,r,.inl ⟨hk,by simp⟩⟩
      · rw [List.getElem?_set_ne (Ne.symm hj)] at e2
        obtain ⟨u',r',q⟩:=hl j y v' e1 e2 e3
        refine ⟨u',r',?_⟩
        rcases q with ⟨k,e⟩ | ⟨k,c,e,z⟩
        · refine .inl ⟨k,?_⟩
          have:y≠x:=fun e=>hj (d8 hN e1 (e ▸ hi))
          simp [this,e]
        · exact .inr ⟨k,c,e,z.sameBut hs (cne y c e)⟩
    · obtain ⟨w',z⟩:=I.cell y c e
      exact ⟨w',z.sameBut hs (cne y c e)⟩
    · obtain ⟨e,n,ne,nf,d⟩:=I.pin p hp
      exact ⟨(hs.2 p.1 ne).trans e,n,ne,nf,d⟩
  · have hfn:X.fn x=true:=by
      rcases hf with z | z
      · exact z
      · rw [z] at hk;cases hk
    obtain ⟨c,hc⟩:=I.ok.has x (.inl hk)
    obtain ⟨w',z⟩:=I.cell x c hc
    refine wpAny_storeName_cell I.ok.kind hk hc z (fun h' hc' hs=>?_)
    obtain ⟨oc,hoc,hocd⟩:=id z
    refine h { s with heap:=h' } ⟨I.ok,I.os,I.bare,⟨fun b o e n hb hx=>?_,fun b o e n hb hx=>?_,I.base.free,fun b o e hx=>?_,I.base.tups,I.base.frzs,I.base.tbls⟩,⟨m,hn.sameBut hs (Ne.symm (cne x c hc)),fun j y v' e1 e2 e3=>?_⟩,fun y c' e=>?_,I.free,I.freeC,fun p hp=>?_,tracked ⟨oc,hoc,I.freeC x c hc⟩ hs,by simpa using I.len⟩ ⟨c,hs,.inr hc⟩
    · exact (hs.2 b (Nat.ne_of_lt (Nat.lt_of_lt_of_le (Heap.lt_size e) (I.ok.cab x c hfn hc)))).trans (I.base.keep b o e n hb hx)
    · obtain ⟨sl,e1⟩:=I.base.slot b o e n hb hx
      exact ⟨sl,(hs.2 b (Nat.ne_of_lt (Nat.lt_of_lt_of_le (Heap.lt_size e) (I.ok.cab x c hfn hc)))).trans e1⟩
    · obtain ⟨o',e1⟩:=I.base.there b o e hx
      exact ⟨o',(hs.2 b (Nat.ne_of_lt (Nat.lt_of_lt_of_le (Heap.lt_size e) (I.ok.cab x c hfn hc)))).trans e1⟩
    · by_cases hj:j=i
      · subst hj
        rw [hi] at e1;cases e1
        rw [List.getElem?_set_self hiσ] at e2
        cases e2
        exact ⟨u,r,.inr ⟨.inl hk,c,hc,hc'⟩⟩
      · rw [List.getElem?_set_ne (Ne.symm hj)] at e2
        obtain ⟨u',r',q⟩:=hl j y v' e1 e2 e3
        refine ⟨u',r',?_⟩
        rcases q with q | ⟨k,c',e,z'⟩
        · exact .inl q
        · refine .inr ⟨k,c',e,z'.sameBut hs ?_⟩
          rintro rfl
          exact hj (d8 hN e1 (I.ok.inj _ _ _ e hc ▸ hi))
    · by_cases hcc:c'=c
      · subst hcc;exact ⟨_,hc'⟩
      · obtain ⟨w2,z2⟩:=I.cell y c' e
        exact ⟨w2,z2.sameBut hs hcc⟩
    · obtain ⟨e,n,ne,nf,d⟩:=I.pin p hp
      refine ⟨(hs.2 p.1 ?_).trans e,n,ne,nf,d⟩
      intro q
      rw [q,hoc] at e
      have q':oc=p.2:=Option.some.inj e
      exact d w' (by rw [← q'];exact hocd)
theorem xH {M:Model} {A:Around} {E:Value→Shared→Prop} {i:Nat} {x:Str} {v:V} {u:Value} {Q:Unit→Shared→Prop} (I:Inv X pins σ H s) (hN:X.N.Nodup) (hi:X.N[i]? = some x) (hx:Loc X.env.scope x) (r:kI v u)
    (h:∀ s',Inv X pins (σ.set i (some v)) H s'→Q () s') (hf:X.fn x=true∨X.env.scope.names.lookup x=some .local:=by first | exact .inl rfl | exact .inr rfl | assumption):wpAny M A (storeName X.env x u) Q E s :=
  rT I hN hi hx r (fun s' I' _=>h s' I') hf
theorem Inv.call' {s':Shared} {ch:List Addr} (I:Inv X pins σ H s) (ho:s'.os=s.os) (u:Un (frs X.stack) ch H H' s.heap s'.heap) (hok:HOk X.prog X.w H' s'.heap) (hg:AllBare s'.gens)
    (hch:∀ b∈ch,(b∈X.ex∨X.s_0.heap.objs.size≤b)∧b≠X.env.locals∧(∀ x c,X.env.cells.lookup x=some c→c≠b)∧∀ p∈X.pn++pins,p.1≠b):Inv X pins σ H' s':=by
  obtain ⟨h',g',d',t',o'⟩:=s'
  have e:o'=s.os:=ho
  subst e
  exact I.call (g':=g') (t':=t') (d':=d') u hok hg hch
end
abbrev XK:=Value→Option Addr→Hp→Prop
abbrev St:=List (Option V)
abbrev VK:=V→Hp→Prop
abbrev TE:=St→Hp→VK→Prop
abbrev TT:=St→Hp→(Bool→Hp→Prop)→Prop
abbrev TA:=St→Hp→(List V→Hp→Prop)→Prop
structure lL where
  nx:St→Hp→Prop
  rt:VK
  bk:St→Hp→Prop:=fun _ _=>False
  ct:St→Hp→Prop:=fun _ _=>False
abbrev TS:=lL→St→Hp→Prop
def EP (X:Cx) (pins:List (Addr×Obj)) (σ:St) (Q:VK) (u:Value) (s':Shared):Prop:=∃ v H',Inv X pins σ H' s'∧kI v u∧Q v H'
def TP (X:Cx) (pins:List (Addr×Obj)) (σ:St) (Q:Bool→Hp→Prop) (b:Bool) (s':Shared):Prop:=∃ H',Inv X pins σ H' s'∧Q b H'
def AP (X:Cx) (pins:List (Addr×Obj)) (σ:St) (Q:List V→Hp→Prop) (us:List Value) (s':Shared):Prop:=∃ vs H',Inv X pins σ H' s'∧kG vs us∧Q vs H'
def SP (X:Cx) (pins:List (Addr×Obj)) (D:lL) (f:Flow) (s':Shared):Prop :=
  match f with
  | .next=>∃ σ' H',Inv X pins σ' H' s'∧D.nx σ' H'
  | .brk=>∃ σ' H',Inv X pins σ' H' s'∧D.bk σ' H'
  | .cont=>∃ σ' H',Inv X pins σ' H' s'∧D.ct σ' H'
  | .ret u=>∃ v σ' H',Inv X pins σ' H' s'∧kI v u∧D.rt v H'
def PE (X:Cx) (e:Expr) (t:TE):Prop :=
  ∀ (pins:List (Addr×Obj)) (s:Shared) (σ:St) (H:Hp) (Q:VK),Inv X pins σ H s→t σ H Q→wpAny (model X.prog X.w) X.A (eval e X.env) (EP X pins σ Q) X.xe s
def PT (X:Cx) (e:Expr) (t:TT):Prop :=
  ∀ (pins:List (Addr×Obj)) (s:Shared) (σ:St) (H:Hp) (Q:Bool→Hp→Prop),Inv X pins σ H s→t σ H Q→wpAny (model X.prog X.w) X.A (isTrue e X.env (eval e X.env)) (TP X pins σ Q) X.xe s
def PW (X:Cx) (e:Expr) (t:TT):Prop :=
  ∀ (whole:Sem Value) (pins:List (Addr×Obj)) (s:Shared) (σ:St) (H:Hp) (Q:Bool→Hp→Prop),Inv X pins σ H s→t σ H Q→wpAny (model X.prog X.w) X.A (isTrue e X.env whole) (TP X pins σ Q) X.xe s
theorem PW.pt {X:Cx} {e:Expr} {t:TT} (h:PW X e t):PT X e t:=h _
def PA (X:Cx) (es:List Expr) (t:TA):Prop :=
  ∀ (pos:Pos) (pins:List (Addr×Obj)) (s:Shared) (σ:St) (H:Hp) (Q:List V→Hp→Prop),Inv X pins σ H s→t σ H Q→wpAny (model X.prog X.w) X.A (spliced (backTo pos (starEach es X.env))) (AP X pins σ Q) X.xe s
def PS (X:Cx) (st:Stmt) (t:TS):Prop :=
  ∀ (pins:List (Addr×Obj)) (s:Shared) (σ:St) (H:Hp) (D:lL),Inv X pins σ H s→t D σ H→wpAny (model X.prog X.w) X.A (exec st X.env) (SP X pins D) X.xe s
def PSs (X:Cx) (st:List Stmt) (t:TS):Prop :=
  ∀ (pins:List (Addr×Obj)) (s:Shared) (σ:St) (H:Hp) (D:lL),Inv X pins σ H s→t D σ H→wpAny (model X.prog X.w) X.A (execs st X.env) (SP X pins D) X.xe s
theorem thn {α:Type} {t:Sem α} {Q Q':α→Shared→Prop} {M:Model} {A:Around} {E:Value→Shared→Prop} {s:Shared} (h:wpAny M A t Q E s) (hQ:∀ a s,Q a s→Q' a s):wpAny M A t Q' E s:=wpAny_mono h hQ fun _ _ x=>x
section
variable {X:Cx}
def j4 (i:Nat):TE:=fun σ H Q=>∃ v,σ[i]? = some (some v)∧Q v H
def tC (v:V):TE:=fun _ H Q=>Q v H
theorem jfW {i:Nat} {x:Str} {pos:Pos} (hN:X.N[i]? = some x) (hv:Vis X.env.scope x) (hd:(x == ("__debug__":Str))=false:=by decide) (hcd:(x == ("__classdict__":Str))=false:=by decide):PE X (.Name x pos) (j4 i):=by
  intro pins s σ H Q I h
  obtain ⟨v,e,h⟩:=h
  obtain ⟨m,hn,hl⟩:=I.loc
  obtain ⟨u,r,l⟩:=hl i x v hN e hv
  have fin:EP X pins σ Q u s:=⟨v,H,I,r,h⟩
  rcases l with ⟨hk,hm⟩ | ⟨hk,c,hc,hcell⟩
  · exact wpAny_Name (wpAny_loadName_local I.ok.kind hk hn hm fin) hd
  · rcases hk with hk | hk
    · exact wpAny_Name (wpAny_loadName_cell I.ok.kind hk hc hcell fin) hd
    · exact wpAny_Name (wpAny_loadName_free I.ok.kind hk hc hcell fin hcd) hd
theorem jA {i j pos}:PE X (.Constant (.int i) j pos) (tC (.int i)):=fun _ _ _ H _ I h=>wpAny_Constant_int ⟨.int i,H,I.tok _,⟨_,rfl⟩,h⟩
theorem jjJ {b j pos}:PE X (.Constant (.bool b) j pos) (tC (.bl b)):=fun _ _ _ H _ I h=>Constant_bool ⟨.bl b,H,I,rfl,h⟩
theorem jfK {j pos}:PE X (.Constant .none j pos) (tC .non):=fun _ _ _ H _ I h=>Constant_none ⟨.non,H,I,rfl,h⟩
def Gl (X:Cx) (x:Str):Prop:=X.env.kindOf x=some .globalImplicit
theorem dI {E:Value→Shared→Prop} {pins:List (Addr×Obj)} {s:Shared} {σ:St} {H:Hp} {x:Str} {u:Value} {pos:Pos} {Q:Value→Shared→Prop} (I:Inv X pins σ H s) (hg:Gl X x) (hm:X.mg x=some u) (h:Q u s)
    (hd:(x == ("__debug__":Str))=false:=by decide):wpAny (model X.prog X.w) X.A (eval (.Name x pos) X.env) Q E s :=
  Calls.Name_function_global I.ok.kind hg (Calls.loadGlobal_global (by rw [I.ok.glob];exact I.mod.glob.keeps I.bk) hm h) hd
theorem wS {E:Value→Shared→Prop} {pins:List (Addr×Obj)} {s:Shared} {σ:St} {H:Hp} {x:Str} {u:Value} {pos:Pos} {Q:Value→Shared→Prop} (I:Inv X pins σ H s) (hg:Gl X x) (hm:X.mg x=none) (hv:bootBuiltins x=some u) (h:Q u s)
    (hn:x≠"__name__":=by decide) (hd:(x == ("__debug__":Str))=false:=by decide):wpAny (model X.prog X.w) X.A (eval (.Name x pos) X.env) Q E s:=by
  obtain ⟨mb,h1,h2⟩:=I.mod.blt
  exact Calls.Name_function_global I.ok.kind hg (Calls.loadGlobal_builtin (by rw [I.ok.glob];exact I.mod.glob.keeps I.bk) hm (by rw [I.ok.blt];exact h1.keeps I.bk) ((h2 x hn).trans hv) h) hd
theorem iG {x:Str} {v:V} {u:Value} {pos:Pos} (hg:Gl X x) (hm:X.mg x=some u) (r:kI v u) (hd:(x == ("__debug__":Str))=false:=by decide):PE X (.Name x pos) (tC v) :=
  fun _ _ _ H _ I h=>dI I hg hm ⟨v,H,I,r,h⟩ hd
variable {a b:Expr} {ta tb:TE} {pos:Pos}
def PC (X:Cx) (op:CmpOp) (a b:Expr) (t:TE):Prop :=
  ∀ (pins:List (Addr×Obj)) (s:Shared) (σ:St) (H:Hp) (Q:VK),Inv X pins σ H s→t σ H Q →
    wpAny (model X.prog X.w) X.A (eval a X.env) (fun v s₁=>wpAny (model X.prog X.w) X.A (eval b X.env) (fun u s₂=>wpAny (model X.prog X.w) X.A (compareOp op v u) (EP X pins σ Q) X.xe s₂) X.xe s₁) X.xe s
def tB (t:TE):TT:=fun σ H Q=>t σ H fun x H1=>∃ c,x=.bl c∧Q c H1
theorem rD {op:CmpOp} {t:TE} (h:PC X op a b t) (h1:behindInMarks op b=false:=by first | exact nobehind _ (by decide) (by decide) | rfl):PT X (.Compare a [op] [b] pos) (tB t):=by
  intro pins s σ H Q I hw
  refine wpAny_isTrue_Compare1 (thn (h pins s σ H _ I hw) fun v s1 h1=>thn h1 fun u s2 h2=>thn h2 fun c s3 ⟨x,H1,I1,r1,q1⟩=>?_) h1
  obtain ⟨d,rfl,q⟩:=q1
  cases r1
  exact wpAny_truthy_bool ⟨H1,I1,q⟩
variable {tA tB':TT} {rest:List Expr}
def jrJ (t u:TT):TT:=fun σ H Q=>t σ H fun c H1=>if c=true then u σ H1 Q else Q false H1
def tOr (t u:TT):TT:=fun σ H Q=>t σ H fun c H1=>if c=true then Q true H1 else u σ H1 Q
def jnQ (t:TT):TT:=fun σ H Q=>t σ H fun c H1=>Q (!c) H1
theorem bV (ha:PT X a tA):PW X (.BoolOp .And [a] pos) tA:=by
  intro wh pins s σ H Q I h
  refine isTrue_and (thn (ha pins s σ H Q I h) fun c s1 e=>?_)
  cases c with
  | true=>exact isTrue_and_nil e
  | false=>exact e
theorem fE (ha:PT X a tA):PW X (.BoolOp .Or [a] pos) tA:=by
  intro wh pins s σ H Q I h
  refine isTrue_or (thn (ha pins s σ H Q I h) fun c s1 e=>?_)
  cases c with
  | false=>exact isTrue_or_nil e
  | true=>exact e
theorem rB (ha:PT X a tA) (hb:PW X (.BoolOp .And (b :: rest) pos) tB'):PW X (.BoolOp .And (a :: b :: rest) pos) (jrJ tA tB'):=by
  intro wh pins s σ H Q I h
  refine isTrue_and (thn (ha pins s σ H _ I h) fun c s1 ⟨H1,I1,q1⟩=>?_)
  cases c with
  | true=>exact hb wh pins s1 σ H1 Q I1 q1
  | false=>exact ⟨H1,I1,q1⟩
theorem bZ (ha:PT X a tA) (hb:PW X (.BoolOp .Or (b :: rest) pos) tB'):PW X (.BoolOp .Or (a :: b :: rest) pos) (tOr tA tB'):=by
  intro wh pins s σ H Q I h
  refine isTrue_or (thn (ha pins s σ H _ I h) fun c s1 ⟨H1,I1,q1⟩=>?_)
  cases c with
  | true=>exact ⟨H1,I1,q1⟩
  | false=>exact hb wh pins s1 σ H1 Q I1 q1
theorem jvQ (ha:PT X a tA):PT X (.UnaryOp .Not a pos) (jnQ tA):=by
  intro pins s σ H Q I h
  exact isTrue_not (ha pins s σ H (fun c H1=>Q (!c) H1) I h)
def jrK (ta tb:TE):TE:=fun σ H Q=>ta σ H fun x H1=>∃ c,x=.bl c∧if c=true then tb σ H1 Q else Q (.bl false) H1
theorem jfV {op} {t:TE} (h:PE X a t):PE X (.BoolOp op [a] pos) t:=fun pins s σ H Q I hw=>BoolOp_one (h pins s σ H Q I hw)
theorem jf7 (ha:PE X a ta) (hb:PE X (.BoolOp .And (b :: rest) pos) tb):PE X (.BoolOp .And (a :: b :: rest) pos) (jrK ta tb):=by
  intro pins s σ H Q I h
  refine BoolOp_and (thn (ha pins s σ H _ I h) fun v s1 ⟨x,H1,I1,r1,q1⟩=>?_)
  obtain ⟨c,rfl,q1⟩:=q1
  cases r1
  refine wpAny_truthy_bool ?_
  cases c with
  | true=>exact hb pins s1 σ H1 Q I1 q1
  | false=>exact ⟨.bl false,H1,I1,rfl,q1⟩
end
def SqL (K:W.Frag) (H:Hp) (a:Addr) (xs:List V):Prop :=
  Rd H a (.lst xs) ∨
    ∃ (o:Obj) (its:Array Value) (n:Nat),K.lookup a=some o∧o.cls=.type "list"∧o.dict=none∧o.data=.seq its n∧its.size≤sizeLine∧kG xs its.toList
def SqT (K:W.Frag) (H:Hp) (a:Addr) (xs:List V):Prop :=
  Rd H a (.tup xs) ∨
    ∃ (o:Obj) (its:Array Value) (n:Nat),K.lookup a=some o∧o.cls=.type "tuple"∧o.data=.seq its n∧its.size≤sizeLine∧kG xs its.toList
def js9:Value→Option V
  | .none=>some .non
  | .bool b=>some (.bl b)
  | .int i _=>some (.int i)
  | .str x _=>some (.str x)
  | .bytes b _=>some (.byt b)
  | .float b _=>some (.flt b)
  | .ref a=>some (.ref a)
  | .type n=>some (.ty n)
  | _=>none
theorem kI.abs {x:V} {u:Value} (r:kI x u):js9 u=some x:=by
  cases x with
  | non=>cases r;rfl
  | bl _=>cases r;rfl
  | int _=>obtain ⟨t,rfl⟩:=r;rfl
  | str _=>obtain ⟨t,rfl⟩:=r;rfl
  | byt _=>obtain ⟨t,rfl⟩:=r;rfl
  | flt _=>obtain ⟨t,rfl⟩:=r;rfl
  | ref _=>cases r;rfl
  | ty _=>cases r;rfl
theorem kI.inj {x y:V} {u:Value} (r:kI x u) (q:kI y u):x=y:=Option.some.inj (r.abs.symm.trans q.abs)
theorem kG.inj:∀ {xs ys:List V} {us:List Value},kG xs us→kG ys us→xs=ys
  | _,_,_,.nil,.nil=>rfl
  | _,_,_,.cons r t,.cons r' t'=>by rw [r.inj r',kG.inj t t']
section
variable {X:Cx} {pins:List (Addr×Obj)} {σ:St} {H:Hp} {s:Shared} {a:Addr} {xs ys:List V}
theorem SqL.of {K:W.Frag} (h:H a=some (.lst xs)):SqL K H a xs:=.inl (.inl h)
theorem SqT.of {K:W.Frag} (h:H a=some (.tup xs)):SqT K H a xs:=.inl (.inl h)
theorem Inv.list (I:Inv X pins σ H s) (h:SqL X.K H a xs):∃ its:List Value,kG xs its∧PlainL s.heap a its.toArray∧xs.length≤sizeLine:=by
  rcases h with h | ⟨o,its,n,hk,hc,hd,hs,hz,r⟩
  · obtain ⟨z,its,n,r,e⟩:=h.ok I.hok
    exact ⟨its,r,⟨_,n,e,rfl,rfl,rfl⟩,z⟩
  · refine ⟨its.toList,r,⟨o,n,I.kIn a o hk,hc,hd,by simpa using hs⟩,?_⟩
    have e:=r.length
    simp only [Array.length_toList] at e
    omega
theorem Inv.tuple (I:Inv X pins σ H s) (h:SqT X.K H a xs):∃ its:List Value,kG xs its∧IsTup s.heap a its.toArray∧xs.length≤sizeLine:=by
  rcases h with h | ⟨o,its,n,hk,hc,hs,hz,r⟩
  · obtain ⟨z,its,r,p⟩:=h.ok I.hok
    exact ⟨its,r,p,z⟩
  · refine ⟨its.toList,r,⟨o,I.kIn a o hk,hc,n,by simpa using hs⟩,?_⟩
    have e:=r.length
    simp only [Array.length_toList] at e
    omega
theorem Inv.list_inj (I:Inv X pins σ H s) (h:SqL X.K H a xs) (h':SqL X.K H a ys):xs=ys:=by
  obtain ⟨its,r,⟨o,n,e,_,_,d⟩,_⟩:=I.list h
  obtain ⟨its',r',⟨o',n',e',_,_,d'⟩,_⟩:=I.list h'
  rw [e] at e';cases e'
  rw [d] at d'
  injection d' with d1 _
  have:its=its':=by simpa using congrArg Array.toList d1
  subst this
  exact r.inj r'
theorem Inv.tuple_inj (I:Inv X pins σ H s) (h:SqT X.K H a xs) (h':SqT X.K H a ys):xs=ys:=by
  obtain ⟨its,r,⟨o,e,_,n,d⟩,_⟩:=I.tuple h
  obtain ⟨its',r',⟨o',e',_,n',d'⟩,_⟩:=I.tuple h'
  rw [e] at e';cases e'
  rw [d] at d'
  injection d' with d1 _
  have:its=its':=by simpa using congrArg Array.toList d1
  subst this
  exact r.inj r'
end
abbrev Cx.wish (X:Cx) (E:Value→Shared→Prop):Cx:={ X with xe:=E }
abbrev Cx.nox (X:Cx):Cx:=X.wish fun _ _=>False
theorem Cx.Ok.wish {X:Cx} (ok:X.Ok) (E:Value→Shared→Prop):(X.wish E).Ok :=
  ⟨ok.mod,ok.kind,ok.glob,ok.blt,ok.above,ok.inj,ok.has,ok.cab,ok.hd,ok.frames,ok.stk,ok.exf,ok.bs,ok.bsz,ok.noex,ok.exfs,ok.funs,ok.frf⟩
theorem Cx.Ok.unwish {X:Cx} {E:Value→Shared→Prop} (ok:(X.wish E).Ok):X.Ok :=
  ⟨ok.mod,ok.kind,ok.glob,ok.blt,ok.above,ok.inj,ok.has,ok.cab,ok.hd,ok.frames,ok.stk,ok.exf,ok.bs,ok.bsz,ok.noex,ok.exfs,ok.funs,ok.frf⟩
section
variable {X:Cx} {pins:List (Addr×Obj)} {σ:St} {H:Hp} {s:Shared} {E:Value→Shared→Prop}
theorem Inv.wish (I:Inv X pins σ H s) (E:Value→Shared→Prop):Inv (X.wish E) pins σ H s:=⟨I.ok.wish E,I.os,I.bare,I.base,I.loc,I.cell,I.free,I.freeC,I.pin,I.hok,I.len⟩
theorem Inv.unwish (I:Inv (X.wish E) pins σ H s):Inv X pins σ H s:=⟨I.ok.unwish,I.os,I.bare,I.base,I.loc,I.cell,I.free,I.freeC,I.pin,I.hok,I.len⟩
theorem SP.unwish {D:lL} {f:Flow} {s':Shared} (h:SP (X.wish E) pins D f s'):SP X pins D f s':=by
  cases f with
  | next=>obtain ⟨σ',H',I,q⟩:=h;exact ⟨σ',H',I.unwish,q⟩
  | brk=>obtain ⟨σ',H',I,q⟩:=h;exact ⟨σ',H',I.unwish,q⟩
  | cont=>obtain ⟨σ',H',I,q⟩:=h;exact ⟨σ',H',I.unwish,q⟩
  | ret u=>obtain ⟨v,σ',H',I,r,q⟩:=h;exact ⟨v,σ',H',I.unwish,r,q⟩
theorem PSs.nox {st:List Stmt} {t:TS} (h:PSs X.nox st t):PSs X st t:=fun pins s σ H D I hw =>
  wpAny_mono (h pins s σ H D (I.wish _) hw) (fun _ _ q=>q.unwish) fun _ _ z=>False.elim z
end
section
variable {X:Cx} {st:Stmt} {rest:List Stmt} {t u:TS} {e:Expr} {te:TE} {pos:Pos}
def zT:TS:=fun D σ H=>D.nx σ H
def zH (t u:TS):TS:=fun D σ H=>t { D with nx:=u D } σ H
theorem j6:PSs X [] zT:=fun _ _ σ H _ I h=>wpAny_execs_nil ⟨σ,H,I,h⟩
theorem jZ (h1:PS X st t) (h2:PSs X rest u):PSs X (st :: rest) (zH t u):=by
  intro pins s σ H D I h
  refine wpAny_execs_cons (thn (h1 pins s σ H { D with nx:=u D } I h) fun f s1 q=>?_)
  cases f with
  | next =>
    obtain ⟨σ',H',I',q⟩:=q
    exact h2 pins s1 σ' H' D I' q
  | ret v=>exact q
  | brk=>exact q
  | cont=>exact q
theorem jY (h1:PS X st t):PSs X [st] t:=by
  intro pins s σ H D I h
  refine wpAny_execs_cons (thn (h1 pins s σ H D I h) fun f s1 q=>?_)
  cases f with
  | next=>exact wpAny_execs_nil q
  | ret v=>exact q
  | brk=>exact q
  | cont=>exact q
theorem Inv.quiet {pins:List (Addr×Obj)} {σ:St} {H:Hp} {s:Shared} (I:Inv X pins σ H s):interactive X.env=false:=by simp [interactive,I.ok.kind]
def qT (te:TE):TS:=fun D σ H=>te σ H fun _ H1=>D.nx σ H1
theorem vP (he:PE X e te) (hs:swapsWith e none pos.line X.env=pure false:=by rfl):PS X (.Expr e pos) (qT te):=by
  intro pins s σ H D I h
  exact wpAny_Expr_any (thn (he pins s σ H _ I h) fun v s1 ⟨x,H1,I1,r1,q1⟩=>⟨σ,H1,I1,q1⟩) I.quiet hs
def zU (te:TE):TS:=fun D σ H=>te σ H D.rt
theorem jC (he:PE X e te):PS X (.Return (some e) pos) (zU te):=by
  intro pins s σ H D I h
  exact wpAny_Return_some (thn (he pins s σ H _ I h) fun v s1 ⟨x,H1,I1,r1,q1⟩=>⟨x,σ,H1,I1,r1,q1⟩)
def gE (c:TT) (t u:TS):TS:=fun D σ H=>c σ H fun b H1=>if b=true then t D σ H1 else u D σ H1
theorem zV {c:Expr} {a b:List Stmt} {tc:TT} (hc:PT X c tc) (ha:PSs X a t) (hb:PSs X b u):PS X (.If c a b pos) (gE tc t u):=by
  intro pins s σ H D I h
  refine wpAny_If (thn (hc pins s σ H _ I h) fun d s1 ⟨H1,I1,q1⟩=>?_)
  cases d with
  | true=>exact ha pins s1 σ H1 D I1 q1
  | false=>exact hb pins s1 σ H1 D I1 q1
end
abbrev TG:=V→St→Hp→(St→Hp→Prop)→Prop
abbrev TGs:=List V→St→Hp→(St→Hp→Prop)→Prop
def PG (X:Cx) (target:Expr) (t:TG):Prop :=
  ∀ (pins:List (Addr×Obj)) (s:Shared) (σ:St) (H:Hp) (v:V) (u:Value) (Q:St→Hp→Prop),Inv X pins σ H s→kI v u→t v σ H Q →
    wpAny (model X.prog X.w) X.A (assign target X.env u) (fun _ s'=>∃ σ' H',Inv X pins σ' H' s'∧Q σ' H') X.xe s
def PGs (X:Cx) (ts:List Expr) (t:TGs):Prop :=
  ∀ (pins:List (Addr×Obj)) (s:Shared) (σ:St) (H:Hp) (vs:List V) (us:List Value) (Q:St→Hp→Prop),Inv X pins σ H s→kG vs us→t vs σ H Q →
    wpAny (model X.prog X.w) X.A (assignInOrder ((assignEach ts X.env).map (·.2)) us) (fun _ s'=>∃ σ' H',Inv X pins σ' H' s'∧Q σ' H') X.xe s
abbrev TIp:=V→V→Hp→VK→Prop
def PIp (X:Cx) (op:Operator) (t:TIp):Prop :=
  ∀ (pins:List (Addr×Obj)) (s:Shared) (σ:St) (H:Hp) (x y:V) (v u:Value) (Q:VK),Inv X pins σ H s→kI x v→kI y u→t x y H Q →
    wpAny (model X.prog X.w) X.A (inplaceOp op v u) (EP X pins σ Q) X.xe s
section
variable {X:Cx} {pos:Pos}
def jI (i:Nat):TG:=fun v σ H Q=>Q (σ.set i (some v)) H
theorem ju1 {i:Nat} {x:Str} (hN:X.N.Nodup) (hi:X.N[i]? = some x) (hx:Loc X.env.scope x) (hf:X.fn x=true∨X.env.scope.names.lookup x=some .local:=by first | exact .inl rfl | exact .inr rfl | assumption):PG X (.Name x pos) (jI i):=by
  intro pins s σ H v u Q I r h
  exact wpAny_assign_Name (xH I hN hi hx r (fun s' I'=>⟨_,H,I',h⟩) hf)
def aL:TGs:=fun vs σ H Q=>vs=[]∧Q σ H
def xA (t:TG) (u:TGs):TGs:=fun vs σ H Q=>∃ v r,vs=v :: r∧t v σ H fun σ' H'=>u r σ' H' Q
theorem z6:PGs X [] aL:=by
  intro pins s σ H vs us Q I r h
  obtain ⟨e,h⟩:=h
  subst e
  cases r
  exact assignInOrder_nil ⟨σ,H,I,h⟩
theorem j9 {e:Expr} {es:List Expr} {t:TG} {u:TGs} (h1:PG X e t) (h2:PGs X es u)
    (hs:(assignEach (e :: es) X.env).map (·.2)=assign e X.env :: (assignEach es X.env).map (·.2):=by rfl):PGs X (e :: es) (xA t u):=by
  intro pins s σ H vs us Q I r h
  obtain ⟨v,vr,e1,h⟩:=h
  subst e1
  cases r with
  | cons r rr =>
    rw [hs]
    refine assignInOrder_cons (thn (h1 pins s σ H _ _ _ I r h) fun _ s1 ⟨σ1,H1,I1,q1⟩=>?_)
    exact h2 pins s1 σ1 H1 _ _ Q I1 rr q1
def js1 (K:W.Frag) (n:Nat) (t:TGs):TG:=fun v σ H Q=>∃ a xs,v=.ref a∧SqT K H a xs∧xs.length=n∧t xs σ H Q
theorem jfQ {es:List Expr} {k:Nat} {t:TGs} {n:Nat} (hc:X.calm=true) (h:PGs X es t)
    (hn:(assignEach es X.env).length=n:=by rfl) (hst:(assignEach es X.env).findIdx? (·.1)=none:=by rfl):PG X (.Tuple es k pos) (js1 X.K n t):=by
  intro pins s σ H v u Q I r hw
  obtain ⟨a,xs,e1,hq,hl,hw⟩:=hw
  subst e1
  cases r
  obtain ⟨its,rv,ht,hz⟩:=I.tuple hq
  refine assign_Tuple_tuple (I.ok.hd hc) ht (by simp [hn,← hl,rv.length]) hst fun h' hx=>?_
  have I1:Inv X pins σ H { s with heap:=h' }:=I.kept (t':=s.toks) fun b o e=>hx b o (Nat.ne_of_lt (Heap.lt_size e)) e
  exact h pins _ σ H xs _ Q I1 (by simpa using rv) hw
def wI (te:TE) (g:TG):TS:=fun D σ H=>te σ H fun x H1=>g x σ H1 D.nx
theorem jd2 {i:Nat} {x:Str} {e:Expr} {te:TE} {pos':Pos} (hN:X.N.Nodup) (hi:X.N[i]? = some x) (hx:Loc X.env.scope x) (he:PE X e te) (hs:swapsWith e (some (.Name x pos')) pos.line X.env=pure false:=by rfl) (hf:X.fn x=true∨X.env.scope.names.lookup x=some .local:=by first | exact .inl rfl | exact .inr rfl | assumption) :
    PS X (.Assign [.Name x pos'] e pos) (wI te (jI i)):=by
  intro pins s σ H D I h
  refine wpAny_Assign_Name (thn (he pins s σ H _ I h) fun v s1 ⟨y,H1,I1,r1,q1⟩=>?_) hs
  exact xH I1 hN hi hx r1 (fun s2 I2=>⟨_,H1,I2,q1⟩) hf
def jp6 (i:Nat) (te:TE) (ti:TIp):TS:=fun D σ H=>∃ x,σ[i]? = some (some x)∧te σ H fun y H1=>ti x y H1 fun z H2=>D.nx (σ.set i (some z)) H2
theorem jfY {i:Nat} {x:Str} {e:Expr} {te:TE} {op:Operator} {ti:TIp} {pos':Pos} (hN:X.N.Nodup) (hi:X.N[i]? = some x) (hx:Loc X.env.scope x) (he:PE X e te) (ho:PIp X op ti) (hf:X.fn x=true∨X.env.scope.names.lookup x=some .local:=by first | exact .inl rfl | exact .inr rfl | assumption) :
    PS X (.AugAssign (.Name x pos') op e pos) (jp6 i te ti):=by
  intro pins s σ H D I h
  obtain ⟨v,e1,h⟩:=h
  obtain ⟨m,hn,hl⟩:=I.loc
  have vis:Vis X.env.scope x:=by rcases hx with k | k;exact .inl k;exact .inr (.inl k)
  obtain ⟨u,r,l⟩:=hl i x v hi e1 vis
  refine wpAny_AugAssign_Name ?_
  have go:wpAny (model X.prog X.w) X.A (eval e X.env) (fun w s₂=>wpAny (model X.prog X.w) X.A (inplaceOp op u w) (fun r s₃=>wpAny (model X.prog X.w) X.A (storeName X.env x r) (fun _=>SP X pins D .next) X.xe s₃) X.xe s₂) X.xe s:=by
    refine thn (he pins s σ H _ I h) fun w s1 ⟨y,H1,I1,r1,q1⟩=>?_
    refine thn (ho pins s1 σ H1 v y u w _ I1 r r1 q1) fun z s2 ⟨zv,H2,I2,r2,q2⟩=>?_
    exact xH I2 hN hi hx r2 (fun s3 I3=>⟨_,H2,I3,q2⟩) hf
  rcases l with ⟨hk,hm⟩ | ⟨hk,c,hc,hcell⟩
  · exact wpAny_loadName_local I.ok.kind hk hn hm go
  · rcases hk with hk | hk
    · exact wpAny_loadName_cell I.ok.kind hk hc hcell go
    · rcases hx with k | k
      · have:X.env.scope.names.lookup x=some .free:=hk
        rw [k] at this;cases this
      · have:X.env.scope.names.lookup x=some .free:=hk
        rw [k] at this;cases this
def ipI (f:Int→Int→Int):TIp:=fun x y H Q=>∃ i j,x=.int i∧y=.int j∧Q (.int (f i j)) H
theorem jv4:PIp X .Add (ipI fun i j=>i+j):=by
  intro pins s σ H x y v u Q I r1 r2 h
  obtain ⟨i,j,e1,e2,q⟩:=h
  subst e1;subst e2
  obtain ⟨t,rfl⟩:=r1
  obtain ⟨t',rfl⟩:=r2
  exact iadd_int ⟨.int _,H,I.tok _,⟨_,rfl⟩,q⟩
end
section
variable {X:Cx} {pos:Pos}
def jz1 (c:TT) (tb:TS):TS:=fun D σ H=>∃ W:Nat→St→Hp→Prop,(∃ m,W m σ H)∧∀ m σ H,W m σ H →
  c σ H fun b H1=>if b=true then ∃ N:St→Hp→Prop,(∀ σ' H',N σ' H'→∃ m',m' < m∧W m' σ' H')∧tb { D with nx:=N,ct:=N,bk:=D.nx } σ H1 else D.nx σ H1
theorem bK {c:Expr} {body:List Stmt} {tc:TT} {tb:TS} (hp:PassesOwn (model X.prog X.w) X.A X.env X.xe) (hc:PT X c tc) (hb:PSs X body tb):PS X (.While c body [] pos) (jz1 tc tb):=by
  intro pins s σ H D I h
  obtain ⟨W,⟨m0,w0⟩,turn⟩:=h
  refine wpAny_While (codeAny_whileLoop (fun n s'=>∃ σ' H',Inv X pins σ' H' s'∧W n σ' H') ?_ m0 ⟨σ,H,I,w0⟩)
  rintro n s1 ⟨σ1,H1,I1,w1⟩
  refine wpAny_passesOwn hp (thn (hc pins s1 σ1 H1 _ I1 (turn n σ1 H1 w1)) fun b s2 ⟨H2,I2,q2⟩=>?_)
  cases b with
  | true =>
    obtain ⟨N,hN,q2⟩:=q2
    rw [if_pos rfl]
    refine wpAny_passesOwn hp (thn (hb pins s2 σ1 H2 _ I2 q2) fun f s3 q3=>?_)
    cases f with
    | next =>
      obtain ⟨σ3,H3,I3,n3⟩:=q3
      obtain ⟨m',hm,w3⟩:=hN σ3 H3 n3
      exact ⟨m',hm,σ3,H3,I3,w3⟩
    | cont =>
      obtain ⟨σ3,H3,I3,n3⟩:=q3
      obtain ⟨m',hm,w3⟩:=hN σ3 H3 n3
      exact ⟨m',hm,σ3,H3,I3,w3⟩
    | brk=>exact q3
    | ret v=>exact q3
  | false =>
    rw [if_neg Bool.false_ne_true]
    exact wpAny_execs_nil ⟨σ1,H2,I2,q2⟩
end
structure It where
  go:Nat→Hp→Prop
  yld:Nat→Hp→V→Hp→Prop
  stop:Nat→Hp→Prop
def qJ (X:Cx) (pins:List (Addr×Obj)) (H:Hp) (b:Addr):Prop :=
  H b=none∧b≠X.env.locals∧b∉X.fs∧(b∈X.ex∨X.s_0.heap.objs.size≤b)∧(∀ x c,X.env.cells.lookup x=some c→c≠b)∧∀ p∈X.pn++pins,p.1≠b
theorem Inv.fpOk {X:Cx} {pins:List (Addr×Obj)} {σ:St} {H H':Hp} {s:Shared} {b:Addr} (I:Inv X pins σ H s) (hb:s.heap.objs.size≤b) (hn:H' b=none):qJ X pins H' b:=by
  refine ⟨hn,Nat.ne_of_gt (Nat.lt_of_lt_of_le I.lt hb),I.nofs hb,.inr (Nat.le_trans I.sz hb),fun x c e z=>?_,fun p hp z=>?_⟩
  · obtain ⟨v,q⟩:=I.cell x c e
    exact absurd (Nat.lt_of_lt_of_le q.lt (by rw [z];exact hb)) (Nat.lt_irrefl _)
  · exact absurd (Nat.lt_of_lt_of_le (Heap.lt_size (I.pin p hp).1) (by rw [z];exact hb)) (Nat.lt_irrefl _)
structure oP (P:Program) (w:World) (K:W.Frag) (tg:Expr) (J:It) (fp:List Addr) (it:Addr) (tn:Nat→Heap→Prop):Prop where
  mem:it∈fp
  obj:∀ i h,tn i h→∀ b∈fp,∃ o,h.get? b=some o∧∀ v,o.data≠.cell v
  keep:∀ i h h',tn i h→(∀ b∈fp,∀ o,h.get? b=some o→h'.get? b=some o)→tn i h'
  item:∀ (X:Cx),X.prog=P→X.w=w→X.K=K→X.calm=true→∀ (i:Nat) (pins:List (Addr×Obj)) (s:Shared) (σ:St) (H:Hp) (E:Value→Shared→Prop),Inv X pins σ H s→(∀ b∈fp,qJ X pins H b)→tn i s.heap→J.go i H →
    wpAny (model P w) X.A (pyNext (.ref it)) (fun r s1=>∃ u,r=some u ∧
      wpAny (model P w) X.A (letOwnedTupleGo tg (.ref it) u) (fun _ s2=>∃ x H',Inv X pins σ H' s2∧kI x u∧J.yld i H x H'∧tn (i+1) s2.heap∧∀ b∈fp,H' b=none) E s1) E s
  done:∀ (X:Cx),X.prog=P→X.w=w→X.K=K→X.calm=true→∀ (i:Nat) (pins:List (Addr×Obj)) (s:Shared) (σ:St) (H:Hp) (E:Value→Shared→Prop),Inv X pins σ H s→(∀ b∈fp,qJ X pins H b)→tn i s.heap→J.stop i H →
    wpAny (model P w) X.A (pyNext (.ref it)) (fun r s1=>r=none∧Inv X pins σ H s1) E s
  self:∀ (A:Around) (i:Nat) (s:Shared) (Q:Value→Shared→Prop) (E:Value→Shared→Prop),tn i s.heap→Q (.ref it) s→wpAny (model P w) A (pyIter (.ref it)) Q E s
abbrev TI:=St→Hp→(It→Hp→Prop)→Prop
def PIE (X:Cx) (pins:List (Addr×Obj)) (σ:St) (tg:Expr) (R:It→Hp→Prop) (itv:Value) (s2:Shared):Prop :=
  ∃ (it:Addr) (fp:List Addr) (tn:Nat→Heap→Prop) (J:It) (H':Hp),itv=.ref it∧Inv X pins σ H' s2∧oP X.prog X.w X.K tg J fp it tn∧tn 0 s2.heap∧(∀ b∈fp,qJ X pins H' b)∧R J H'
def PI (X:Cx) (tg iter:Expr) (wi:TI):Prop :=
  ∀ (pins:List (Addr×Obj)) (s:Shared) (σ:St) (H:Hp) (R:It→Hp→Prop),Inv X pins σ H s→wi σ H R →
    wpAny (model X.prog X.w) X.A (eval iter X.env) (fun v s1=>wpAny (model X.prog X.w) X.A (pyIter v) (PIE X pins σ tg R) X.xe s1) X.xe s
theorem aE {M:Model} {A:Around} {E:Value→Shared→Prop} {s:Shared} {tg:Expr} {it:Addr} {u:Value} {o:Obj} {n:String} {vs:Array Value} {Q:Unit→Shared→Prop} (ho:s.heap.get? it=some o) (hc:o.cls=.type n) (hd:o.data=.fields vs)
    (hn:["enumerate","zip","dict_itemiterator","dict_reverseitemiterator","odict_iterator","itertools.zip_longest","itertools.pairwise"].contains n=false) (hQ:Q () s):wpAny M A (letOwnedTupleGo tg (.ref it) u) Q E s:=by
  unfold letOwnedTupleGo
  cases tg <;> first
    | exact wpAny_pure hQ
    | (cases u <;> first
        | exact wpAny_pure hQ
        | (
           refine wpAny_bind (wpAny_load ho ?_)
           rw [hc,hd]
           show wpAny M A (if (["enumerate","zip","dict_itemiterator","dict_reverseitemiterator","odict_iterator","itertools.zip_longest","itertools.pairwise"].contains n && vs[0]? == some (rawInt _))=true then _ else _) Q E s
           rw [if_neg (by intro h;rw [hn,Bool.false_and] at h;cases h)]
           exact wpAny_pure hQ))
def Itl (K:W.Frag) (a:Addr):It :=
  ⟨fun i H=>∃ xs x,SqL K H a xs∧xs[i]? = some x,fun i H x H'=>H'=H∧∀ xs,SqL K H a xs→xs[i]? = some x,fun i H=>∃ xs,SqL K H a xs∧xs.length≤i⟩
def Itr (lo:Int) (n:Nat):It:=⟨fun i _=>i < n,fun i H x H'=>H'=H∧x=.int (lo+i),fun i _=>n≤i⟩
theorem oZ {P:Program} {w:World} {K:W.Frag} {tg:Expr} (a it:Addr):oP P w K tg (Itl K a) [it] it (fun i h=>h.IsListIter it a i) where
  mem:=by simp
  obj:=fun i h st b hb=>by
    have e:b=it:=by simpa using hb
    subst e
    obtain ⟨o,e,c,d⟩:=st
    exact ⟨o,e,fun v z=>by rw [d] at z;cases z⟩
  keep:=fun i h h' st k=>st.at fun o e=>k it (by simp) o e
  item:=by
    intro X hP hw hK hc i pins s σ H E I hf st hg
    subst hP hw hK
    obtain ⟨xs,x,hq,hx⟩:=hg
    obtain ⟨its,rv,p,hz⟩:=I.list hq
    obtain ⟨u,hu,ru⟩:=rv.get hx
    obtain ⟨f0,f1,f2,f3,f4,f5⟩:=hf it (by simp)
    refine wpAny_pyNext_list_item st p.isList (x:=u) (by simpa using hu) fun h' st' sb=>?_
    have I1:Inv X pins σ H { s with heap:=h' }:=I.turned (t':=s.toks) (fun b o hb e=>(sb.2 b hb).trans e) f0 f1 f3 f4 f5
    obtain ⟨o,e,c,d⟩:=id st'
    exact ⟨u,rfl,aE (s:={ s with heap:=h' }) e c d (by decide) ⟨x,H,I1,ru,⟨rfl,fun ys hy=>by rw [I.list_inj hy hq];exact hx⟩,st',fun b hb=>(hf b hb).1⟩⟩
  done:=by
    intro X hP hw hK hc i pins s σ H E I hf st hg
    subst hP hw hK
    obtain ⟨xs,hq,hx⟩:=hg
    obtain ⟨its,rv,p,hz⟩:=I.list hq
    obtain ⟨f0,f1,f2,f3,f4,f5⟩:=hf it (by simp)
    have hl:=rv.length
    exact wpAny_pyNext_list_end (I.ok.hd hc) st p.isList (by simp;omega) fun h' eb=>⟨rfl,I.turned (t':=s.toks) (fun b o hb e=>eb b o hb e) f0 f1 f3 f4 f5⟩
  self:=fun _ _ _ _ _ st h=>wpAny_pyIter_listiter st h
theorem lF {P:Program} {w:World} {K:PySem.W.Frag} {tg:Expr} (it:Addr) (lo:Int) (n:Nat):oP P w K tg (Itr lo n) [it] it (fun i h=>IsRangeIter h it (lo+(i:Nat) * 1) ((n:Int) - (i:Nat)) 1) where
  mem:=by simp
  obj:=fun i h st b hb=>by
    have e:b=it:=by simpa using hb
    subst e
    exact ⟨_,st,fun v z=>by
      have z':Data.fields _=Data.cell v:=z
      cases z'⟩
  keep:=fun i h h' st k=>k it (by simp) _ st
  item:=by
    intro X hP hw hK hc i pins s σ H E I hf st hg
    subst hP hw hK
    obtain ⟨f0,f1,f2,f3,f4,f5⟩:=hf it (by simp)
    have W:=Walks.range (prog:=X.prog) (w:=X.w) (I.ok.hd hc) it lo 1 n
    refine W.item i s _ _ hg st fun v h' tk hv st' kk=>?_
    obtain ⟨t,rfl⟩:=hv
    have I1:Inv X pins σ H { s with heap:=h',toks:=tk }:=I.turned (fun b o hb e=>kk b o (by simpa using hb) e) f0 f1 f3 f4 f5
    refine ⟨_,rfl,aE (s:={ s with heap:=h',toks:=tk }) (n:="range_iterator") st' rfl rfl (by decide) ⟨.int (lo+i),H,I1,⟨t,?_⟩,⟨rfl,rfl⟩,st',fun b hb=>(hf b hb).1⟩⟩
    rw [Int.mul_one]
  done:=by
    intro X hP hw hK hc i pins s σ H E I hf st hg
    subst hP hw hK
    obtain ⟨f0,f1,f2,f3,f4,f5⟩:=hf it (by simp)
    exact wpAny_pyNext_range_end (I.ok.hd hc) st (by have:n≤i:=hg;omega) fun h' eb=>⟨rfl,I.turned (t':=s.toks) (fun b o hb e=>eb b o hb e) f0 f1 f3 f4 f5⟩
  self:=fun _ _ _ _ _ st h=>wpAny_pyIter_rangeiter st h
section
variable {X:Cx} {tg:Expr}
def yZ (K:W.Frag) (tl:TE):TI:=fun σ H R=>tl σ H fun x H1=>∃ a,x=.ref a∧(∃ xs,SqL K H1 a xs)∧R (Itl K a) H1
theorem v3 {l:Expr} {tl:TE} (hl:PE X l tl):PI X tg l (yZ X.K tl):=by
  intro pins s σ H R I h
  refine thn (hl pins s σ H _ I h) fun v s1 ⟨x,H1,I1,r1,q1⟩=>?_
  obtain ⟨a,e,⟨xs,hq⟩,q⟩:=q1
  subst e
  cases r1
  obtain ⟨its,rv,p,hz⟩:=I1.list hq
  refine wpAny_pyIter_list p.isList ?_
  refine ⟨s1.heap.objs.size,[s1.heap.objs.size],_,_,H1,rfl,I1.kept (t':=s1.toks) fun b o e=>Heap.get?_push_of_some _ e,oZ a _,⟨_,Heap.get?_push_size _ rfl,rfl,rfl⟩,fun b hb=>?_,q⟩
  have e:b=s1.heap.objs.size:=by simpa using hb
  subst e
  exact I1.fpOk (Nat.le_refl _) (I1.hok.fresh (Nat.le_refl _))
theorem sY {pins:List (Addr×Obj)} {σ:St} {H:Hp} {s:Shared} {R:It→Hp→Prop} {E:Value→Shared→Prop} {lo hi:Int} {t u v:Tok} {tk:Nat} (I:Inv X pins σ H s) (h1:-(2 ^ 62)≤lo) (h2:lo < 2 ^ 62) (h3:-(2 ^ 62)≤hi) (h4:hi < 2 ^ 62)
    (q:R (Itr lo (hi - lo).toNat) H):wpAny (model X.prog X.w) X.A (pyIter (.ref s.heap.objs.size)) (PIE X pins σ tg R) E { s with heap:=s.heap.push { cls:=.type "range",data:=.fields #[.int lo t,.int hi u,.int 1 v] },toks:=tk }:=by
  refine wpAny_pyIter_range (IsRange.new ..) (small_one h1 h2 h3 h4) ?_
  have I1:Inv X pins σ H { s with heap:=s.heap.push { cls:=.type "range",data:=.fields #[.int lo t,.int hi u,.int 1 v] },toks:=tk }:=I.kept fun b o e=>Heap.get?_push_of_some _ e
  refine ⟨(s.heap.push { cls:=.type "range",data:=.fields #[.int lo t,.int hi u,.int 1 v] }).objs.size,[(s.heap.push { cls:=.type "range",data:=.fields #[.int lo t,.int hi u,.int 1 v] }).objs.size],_,_,H,rfl,
    I1.kept (t':=tk) fun b o e=>Heap.get?_push_of_some _ e,lF _ lo (hi - lo).toNat,?_,fun b hb=>?_,q⟩
  · have e1:lo+((0:Nat):Int) * 1=lo:=by simp
    have e2:(((hi - lo).toNat:Nat):Int) - ((0:Nat):Int)=Builtin.Range.rangeSize lo hi 1:=by rw [rangeSize_one];split <;> omega
    show IsRangeIter _ _ (lo+((0:Nat):Int) * 1) ((((hi - lo).toNat:Nat):Int) - ((0:Nat):Int)) 1
    rw [e1,e2]
    exact Heap.get?_push_size _ rfl
  · have e:b=(s.heap.push { cls:=.type "range",data:=.fields #[.int lo t,.int hi u,.int 1 v] }).objs.size:=by simpa using hb
    subst e
    exact I1.fpOk (Nat.le_refl _) (I1.hok.fresh (Nat.le_refl _))
def cC (ta:TA):TI:=fun σ H R=>ta σ H fun vs H1=>∃ j:Int,vs=[.int j]∧-(2 ^ 62)≤j∧j < 2 ^ 62∧R (Itr 0 j.toNat) H1
def jgX (ta:TA):TI:=fun σ H R=>ta σ H fun vs H1=>∃ i j:Int,vs=[.int i,.int j]∧(-(2 ^ 62)≤i∧i < 2 ^ 62∧-(2 ^ 62)≤j∧j < 2 ^ 62)∧R (Itr i (j - i).toNat) H1
theorem zM {a:Expr} {ta:TA} {p pos:Pos} (hg:Gl X "range") (hm:X.mg "range"=none) (ha:PA X [a] ta) (hs:starEach [a] X.env=[(false,eval a X.env)]:=by rfl):PI X tg (.Call (.Name "range" p) [a] [] pos) (cC ta):=by
  intro pins s σ H R I h
  refine Call_ (wS I hg hm boot_range (PyProof.Rows.callWith_type1 (thn (ha pos pins s σ H _ I h) fun us s1 ⟨vs,H1,I1,r1,q1⟩=>?_) hs rfl))
  obtain ⟨j,e,q1,q2,q⟩:=q1
  subst e
  cases r1 with
  | cons r rr =>
    cases rr
    obtain ⟨t,rfl⟩:=r
    exact call_range_1 (sY I1 (by omega) (by omega) q1 q2 (by simpa using q))
theorem iD {a b:Expr} {ta:TA} {p pos:Pos} (hg:Gl X "range") (hm:X.mg "range"=none) (ha:PA X [a,b] ta) (hs:starEach [a,b] X.env=[(false,eval a X.env),(false,eval b X.env)]:=by rfl) (hs2:starEach [b] X.env=[(false,eval b X.env)]:=by rfl) :
    PI X tg (.Call (.Name "range" p) [a,b] [] pos) (jgX ta):=by
  intro pins s σ H R I h
  refine Call_ (wS I hg hm boot_range (PyProof.Rows.callWith_type1 (thn (ha pos pins s σ H _ I h) fun us s1 ⟨vs,H1,I1,r1,q1⟩=>?_) (by rw [hs,hs2]) (by rw [hs2];rfl)))
  obtain ⟨i,j,e,⟨q1,q2,q3,q4⟩,q⟩:=q1
  subst e
  cases r1 with
  | cons r rr =>
    cases rr with
    | cons r' rr =>
      cases rr
      obtain ⟨t,rfl⟩:=r
      obtain ⟨t',rfl⟩:=r'
      exact call_range_2 (sY I1 q1 q2 q3 q4 q)
def jnW (wi:TI) (g:TG) (tb:TS):TS:=fun D σ H=>wi σ H fun J H1=>∃ W:Nat→Nat→St→Hp→Prop,(∃ m,W 0 m σ H1)∧∀ i m σ H,W i m σ H →
  (J.stop i H∧D.nx σ H)∨(J.go i H∧∃ N:St→Hp→Prop,(∀ σ' H',N σ' H'→∃ m',m' < m∧W (i+1) m' σ' H')∧∀ x H',J.yld i H x H'→g x σ H' fun σ2 H2=>tb { D with nx:=N,ct:=N,bk:=D.nx } σ2 H2)
def wW (fp:List Addr) (h:Heap):List (Addr×Obj):=fp.filterMap fun b=>(h.get? b).map fun o=>(b,o)
theorem yY {fp:List Addr} {h:Heap} {b:Addr} {o:Obj} (hb:b∈fp) (e:h.get? b=some o):(b,o)∈wW fp h:=List.mem_filterMap.mpr ⟨b,hb,by rw [e];rfl⟩
theorem eU {fp:List Addr} {h:Heap} {p:Addr×Obj} (hp:p∈wW fp h):p.1∈fp∧h.get? p.1=some p.2:=by
  obtain ⟨b,hb,e⟩:=List.mem_filterMap.mp hp
  cases q:h.get? b with
  | none=>rw [q] at e;cases e
  | some o =>
    rw [q] at e
    have e':(b,o)=p:=Option.some.inj e
    subst e'
    exact ⟨hb,q⟩
theorem Inv.pinned {pins:List (Addr×Obj)} {σ:St} {H:Hp} {s:Shared} {fp:List Addr} (I:Inv X pins σ H s) (hf:∀ b∈fp,qJ X pins H b) (ho:∀ b∈fp,∃ o,s.heap.get? b=some o∧∀ v,o.data≠.cell v):Inv X (pins++wW fp s.heap) σ H s :=
  I.pins_of fun p hp=>(List.mem_append.mp hp).elim (fun z=>I.pin p (List.mem_append_right _ z)) fun z=>by
    obtain ⟨hb,e⟩:=eU z
    obtain ⟨f0,f1,f2,_⟩:=hf p.1 hb
    obtain ⟨o,e',d⟩:=ho p.1 hb
    rw [e] at e';cases e'
    exact ⟨e,f0,f1,f2,d⟩
theorem Inv.unpinned {pins pl:List (Addr×Obj)} {σ:St} {H:Hp} {s:Shared} (I:Inv X (pins++pl) σ H s):Inv X pins σ H s:=I.pins_of fun p hp=>I.pin p (List.mem_append_right _ (List.mem_append_left _ hp))
theorem jd1 {iter:Expr} {body:List Stmt} {wi:TI} {g:TG} {tb:TS} {pos:Pos} (hp:PassesOwn (model X.prog X.w) X.A X.env X.xe) (hc:X.calm=true) (hi:PI X tg iter wi) (hg:PG X tg g) (hb:PSs X body tb)
    (hs:∀ x,foldedSetIterable iter X.env x=pure x:=by intro _;rfl):PS X (.For tg iter body [] pos) (jnW wi g tb):=by
  intro pins s σ H D I h
  refine wpAny_For (thn (hi pins s σ H _ I h) fun v s1 h1=>thn h1 fun itv s2 h2=>?_) hs
  obtain ⟨it,fp,tn,J,H2,e,I2,T,st2,f2,W,⟨m0,w0⟩,turn⟩:=h2
  subst e
  have stat:∀ {H':Hp},(∀ b∈fp,H' b=none)→∀ b∈fp,qJ X pins H' b:=fun hn b hb=>⟨hn b hb,(f2 b hb).2⟩
  refine codeAny_forLoop_any (fun n s'=>∃ i σ' H',Inv X pins σ' H' s'∧tn i s'.heap∧(∀ b∈fp,H' b=none)∧W i n σ' H') ?_ m0 ⟨0,σ,H2,I2,st2,fun b hb=>(f2 b hb).1,w0⟩
  rintro n s3 ⟨i,σ3,H3,I3,st3,fr3,w3⟩
  rcases turn i n σ3 H3 w3 with ⟨stop,qn⟩ | ⟨go,N,hN,step⟩
  · refine wpAny_passesOwn hp (thn (T.done X rfl rfl rfl hc i pins s3 σ3 H3 X.xe I3 (stat fr3) st3 stop) fun r s4 ⟨hr,I4⟩=>?_)
    subst hr
    exact wpAny_execs_nil ⟨σ3,H3,I4,qn⟩
  · refine wpAny_passesOwn hp (thn (T.item X rfl rfl rfl hc i pins s3 σ3 H3 X.xe I3 (stat fr3) st3 go) fun r s4 ⟨u,hr,h4⟩=>?_)
    subst hr
    refine wpAny_passesOwn hp (thn h4 fun _ s5 ⟨x,H5,I5,r5,y5,st5,fr5⟩=>?_)
    have I5':=I5.pinned (stat fr5) (T.obj _ _ st5)
    refine wpAny_passesOwn hp (thn (hg _ s5 σ3 H5 x u _ I5' r5 (step x H5 y5)) fun _ s6 ⟨σ6,H6,I6,q6⟩=>?_)
    refine wpAny_passesOwn hp (thn (hb _ s6 σ6 H6 _ I6 q6) fun f s7 q7=>?_)
    have again:∀ {σ7:St} {H7:Hp},Inv X (pins++wW fp s5.heap) σ7 H7 s7→N σ7 H7→∃ m,m < n∧∃ i σ' H',Inv X pins σ' H' s7∧tn i s7.heap∧(∀ b∈fp,H' b=none)∧W i m σ' H':=fun {σ7 H7} I7 n7=>by
      obtain ⟨m',hm,w7⟩:=hN σ7 H7 n7
      refine ⟨m',hm,i+1,σ7,H7,I7.unpinned,T.keep _ _ _ st5 fun b hb o e=>(I7.pin (b,o) (List.mem_append_right _ (List.mem_append_right _ (yY hb e)))).1,fun b hb=>?_,w7⟩
      obtain ⟨o,e,d⟩:=T.obj _ _ st5 b hb
      exact (I7.pin (b,o) (List.mem_append_right _ (List.mem_append_right _ (yY hb e)))).2.1
    cases f with
    | next=>obtain ⟨σ7,H7,I7,n7⟩:=q7;exact again I7 n7
    | cont=>obtain ⟨σ7,H7,I7,n7⟩:=q7;exact again I7 n7
    | brk=>obtain ⟨σ7,H7,I7,q7⟩:=q7;exact ⟨σ7,H7,I7.unpinned,q7⟩
    | ret v=>obtain ⟨x7,σ7,H7,I7,r7,q7⟩:=q7;exact ⟨x7,σ7,H7,I7.unpinned,r7,q7⟩
end
theorem jkJ {c:TT} {tb:TS} {D:lL} {σ:St} {H:Hp} (Pv:St→Hp→Prop) (μ:St→Hp→Nat) (h0:Pv σ H)
    (hs:∀ σ H,Pv σ H→c σ H fun b H1=>if b=true then tb { D with nx:=fun σ' H'=>Pv σ' H'∧μ σ' H' < μ σ H,ct:=fun σ' H'=>Pv σ' H'∧μ σ' H' < μ σ H,bk:=D.nx } σ H1 else D.nx σ H1)
    (mono:∀ σ H Q Q',(∀ b H1,Q b H1→Q' b H1)→c σ H Q→c σ H Q'):jz1 c tb D σ H:=by
  refine ⟨fun m σ H=>m=μ σ H∧Pv σ H,⟨_,rfl,h0⟩,?_⟩
  rintro m σ H ⟨rfl,p⟩
  refine mono σ H _ _ (fun b H1 q=>?_) (hs σ H p)
  cases b with
  | true=>exact ⟨_,fun σ' H' ⟨p',l⟩=>⟨_,l,rfl,p'⟩,q⟩
  | false=>exact q
abbrev R2:=V→V→Hp→VK→Prop
def OpR (X:Cx) (f:Value→Value→Sem Value) (r:R2):Prop :=
  ∀ (pins:List (Addr×Obj)) (s:Shared) (σ:St) (H:Hp) (x y:V) (v u:Value) (Q:VK),Inv X pins σ H s→kI x v→kI y u→r x y H Q →
    wpAny (model X.prog X.w) X.A (f v u) (EP X pins σ Q) X.xe s
def UnR (X:Cx) (f:Value→Sem Value) (r:V→Hp→VK→Prop):Prop :=
  ∀ (pins:List (Addr×Obj)) (s:Shared) (σ:St) (H:Hp) (x:V) (v:Value) (Q:VK),Inv X pins σ H s→kI x v→r x H Q →
    wpAny (model X.prog X.w) X.A (f v) (EP X pins σ Q) X.xe s
def uU (X:Cx) (f:Value) (r:List V→Hp→VK→Prop):Prop :=
  ∀ (pins:List (Addr×Obj)) (s:Shared) (σ:St) (H:Hp) (xs:List V) (us:List Value) (Q:VK),Inv X pins σ H s→kG xs us→r xs H Q →
    wpAny (model X.prog X.w) X.A (call f us) (EP X pins σ Q) X.xe s
def js8 (X:Cx) (r:V→Hp→(Bool→Hp→Prop)→Prop):Prop :=
  ∀ (pins:List (Addr×Obj)) (s:Shared) (σ:St) (H:Hp) (x:V) (v:Value) (Q:Bool→Hp→Prop),Inv X pins σ H s→kI x v→r x H Q →
    wpAny (model X.prog X.w) X.A (truthy v) (TP X pins σ Q) X.xe s
def tOp (r:R2) (ta tb:TE):TE:=fun σ H Q=>ta σ H fun x H1=>tb σ H1 fun y H2=>r x y H2 Q
def tUn (r:V→Hp→VK→Prop) (ta:TE):TE:=fun σ H Q=>ta σ H fun x H1=>r x H1 Q
def rI (C:Int→Int→Prop) (g:Int→Int→V):R2:=fun x y H Q=>∃ i j,x=.int i∧y=.int j∧C i j∧Q (g i j) H
def rI0 (g:Int→Int→V):R2:=fun x y H Q=>∃ i j,x=.int i∧y=.int j∧Q (g i j) H
def rU (g:Int→V):V→Hp→VK→Prop:=fun x H Q=>∃ i,x=.int i∧Q (g i) H
section
variable {X:Cx} {a b c:Expr} {ta tb tc:TE} {pos:Pos}
theorem jpV (ha:PE X a ta) (hb:PE X b tb) {pins:List (Addr×Obj)} {s:Shared} {σ:St} {H:Hp} {R:V→V→Hp→Prop} (I:Inv X pins σ H s)
    (h:ta σ H fun x H1=>tb σ H1 fun y H2=>R x y H2) {Q:Value→Shared→Prop} {f:Value→Value→Sem Value}
    (hf:∀ v u s2 x y H2,Inv X pins σ H2 s2→kI x v→kI y u→R x y H2→wpAny (model X.prog X.w) X.A (f v u) Q X.xe s2) :
    wpAny (model X.prog X.w) X.A (eval a X.env) (fun v s₁=>wpAny (model X.prog X.w) X.A (eval b X.env) (fun u s₂=>wpAny (model X.prog X.w) X.A (f v u) Q X.xe s₂) X.xe s₁) X.xe s:=by
  refine thn (ha pins s σ H _ I h) fun v s1 ⟨x,H1,I1,r1,q1⟩=>?_
  refine thn (hb pins s1 σ H1 _ I1 q1) fun u s2 ⟨y,H2,I2,r2,q2⟩=>?_
  exact hf v u s2 x y H2 I2 r1 r2 q2
theorem zK {op:Operator} {r:R2} (ho:OpR X (binaryOp op) r) (ha:PE X a ta) (hb:PE X b tb):PE X (.BinOp a op b pos) (tOp r ta tb):=by
  intro pins s σ H Q I h
  exact wpAny_BinOp (jpV ha hb I h fun v u s2 x y H2 I2 rx ry q=>ho pins s2 σ H2 x y v u Q I2 rx ry q)
theorem jfZ {op:UnaryOp} {r:V→Hp→VK→Prop} (ho:UnR X (unaryOp op) r) (ha:PE X a ta):PE X (.UnaryOp op a pos) (tUn r ta):=by
  intro pins s σ H Q I h
  exact UnaryOp_ (thn (ha pins s σ H _ I h) fun v s1 ⟨x,H1,I1,r1,q1⟩=>ho pins s1 σ H1 x v Q I1 r1 q1)
theorem opI {f:Value→Value→Sem Value} {C:Int→Int→Prop} {g:Int→Int→Int}
    (rule:∀ (i j:Int) (t u:Tok) (s:Shared) (Q:Value→Shared→Prop) (E:Value→Shared→Prop),C i j→Q (.int (g i j) s.toks) { s with toks:=s.toks+1 }→wpAny (model X.prog X.w) X.A (f (.int i t) (.int j u)) Q E s) :
    OpR X f (rI C fun i j=>.int (g i j)):=by
  intro pins s σ H x y v u Q I rx ry h
  obtain ⟨i,j,rfl,rfl,hc,q⟩:=h
  obtain ⟨t,rfl⟩:=rx
  obtain ⟨t',rfl⟩:=ry
  exact rule i j t t' s _ _ hc ⟨.int (g i j),H,I.tok _,⟨_,rfl⟩,q⟩
theorem js2 {f:Value→Value→Sem Value} {g:Int→Int→Int}
    (rule:∀ (i j:Int) (t u:Tok) (s:Shared) (Q:Value→Shared→Prop) (E:Value→Shared→Prop),Q (.int (g i j) s.toks) { s with toks:=s.toks+1 }→wpAny (model X.prog X.w) X.A (f (.int i t) (.int j u)) Q E s) :
    OpR X f (rI0 fun i j=>.int (g i j)):=by
  intro pins s σ H x y v u Q I rx ry h
  obtain ⟨i,j,rfl,rfl,q⟩:=h
  obtain ⟨t,rfl⟩:=rx
  obtain ⟨t',rfl⟩:=ry
  exact rule i j t t' s _ _ ⟨.int (g i j),H,I.tok _,⟨_,rfl⟩,q⟩
theorem jp3 {f:Value→Value→Sem Value} {g:Int→Int→Bool}
    (rule:∀ (i j:Int) (t u:Tok) (s:Shared) (Q:Value→Shared→Prop) (E:Value→Shared→Prop),Q (.bool (g i j)) s→wpAny (model X.prog X.w) X.A (f (.int i t) (.int j u)) Q E s) :
    OpR X f (rI0 fun i j=>.bl (g i j)):=by
  intro pins s σ H x y v u Q I rx ry h
  obtain ⟨i,j,rfl,rfl,q⟩:=h
  obtain ⟨t,rfl⟩:=rx
  obtain ⟨t',rfl⟩:=ry
  exact rule i j t t' s _ _ ⟨.bl (g i j),H,I,rfl,q⟩
def jxY (i j:Int):Prop:=(-(2 ^ 64) < i∧i < 2 ^ 64)∨(-(2 ^ 64) < j∧j < 2 ^ 64)
theorem jxY.ok {i j:Int} (h:jxY i j):IntMulOk i j:=by
  rcases h with ⟨h1,h2⟩ | ⟨h1,h2⟩
  · exact .of_left (intBits_le_64 h1 h2)
  · exact .of_right (intBits_le_64 h1 h2)
theorem zX:OpR X (binaryOp .Add) (rI0 fun i j=>.int (i+j)):=js2 fun _ _ _ _ _ _ _ q=>add_int q
theorem iK:OpR X (binaryOp .Sub) (rI0 fun i j=>.int (i - j)):=js2 fun _ _ _ _ _ _ _ q=>sub_int q
theorem rZ:OpR X (binaryOp .Mult) (rI jxY fun i j=>.int (i * j)):=opI fun _ _ _ _ _ _ _ hc q=>mul_int q hc.ok
theorem unI {f:Value→Sem Value} {g:Int→Int}
    (rule:∀ (i:Int) (t:Tok) (s:Shared) (Q:Value→Shared→Prop) (E:Value→Shared→Prop),Q (.int (g i) s.toks) { s with toks:=s.toks+1 }→wpAny (model X.prog X.w) X.A (f (.int i t)) Q E s) :
    UnR X f (rU fun i=>.int (g i)):=by
  intro pins s σ H x v Q I rx h
  obtain ⟨i,rfl,q⟩:=h
  obtain ⟨t,rfl⟩:=rx
  exact rule i t s _ _ ⟨.int (g i),H,I.tok _,⟨_,rfl⟩,q⟩
theorem jz4:UnR X (unaryOp .USub) (rU fun i=>.int (-i)):=unI fun _ _ _ _ _ q=>neg_int q
end
def f8:V→V→Bool
  | .non,.non=>true | .non,.int _=>true | .int _,.non=>true | .non,.bl _=>true | .bl _,.non=>true | .non,.str _=>true | .str _,.non=>true
  | .int _,.int _=>true | .bl _,.bl _=>true | .str _,.str _=>true | .byt _,.byt _=>true
  | .int _,.str _=>true | .str _,.int _=>true | .bl _,.str _=>true | .str _,.bl _=>true
  | _,_=>false
def rEq:R2:=fun x y H Q=>f8 x y=true∧Q (.bl (decide (x=y))) H
def rNe:R2:=fun x y H Q=>f8 x y=true∧Q (.bl (!decide (x=y))) H
theorem aG {i j:Int}:decide (V.int i=V.int j)=(i == j):=by
  rw [Bool.eq_iff_iff]
  simp
theorem jv0 {i j:Bool}:decide (V.bl i=V.bl j)=(i == j):=by
  rw [Bool.eq_iff_iff]
  simp
theorem aH {i j:Str}:decide (V.str i=V.str j)=(i == j):=by
  rw [Bool.eq_iff_iff]
  simp
theorem aY {i j:Array UInt8}:decide (V.byt i=V.byt j)=(i.toList == j.toList):=by
  rw [Bool.eq_iff_iff]
  cases i
  cases j
  simp
section
variable {X:Cx} {a b c:Expr} {ta tb tc:TE} {pos:Pos}
theorem kX {pins:List (Addr×Obj)} {σ:St} {H:Hp} {s:Shared} {Q:VK} {k k':Bool} (I:Inv X pins σ H s) (q:Q (.bl k) H) (e:k=k'):EP X pins σ Q (.bool k') s:=by
  subst e
  exact ⟨.bl k,H,I,rfl,q⟩
theorem h9:OpR X (compareOp .Eq) rEq:=by
  intro pins s σ H x y v u Q I rx ry h
  obtain ⟨hs,q⟩:=h
  cases x with
  | non =>
    cases rx
    cases y with
    | non=>cases ry;exact PySem.EqNone.eq_none_none (kX I q (by simp))
    | bl j=>cases ry;exact PySem.EqNone.eq_none_bool (kX I q (by simp))
    | int j=>obtain ⟨t',rfl⟩:=ry;exact PySem.EqNone.eq_none_int (kX I q (by simp))
    | str j=>obtain ⟨t',rfl⟩:=ry;exact PySem.EqNone.eq_none_str (kX I q (by simp))
    | _=>exact absurd (show false=true from hs) Bool.false_ne_true
  | bl i =>
    cases rx
    cases y with
    | non=>cases ry;exact PySem.EqNone.eq_bool_none (kX I q (by simp))
    | bl j=>cases ry;exact eq_bool (kX I q jv0)
    | str j=>obtain ⟨t',rfl⟩:=ry;exact PySem.EqMixed.eq_bool_str (kX I q (by simp))
    | _=>exact absurd (show false=true from hs) Bool.false_ne_true
  | int i =>
    obtain ⟨t,rfl⟩:=rx
    cases y with
    | non=>cases ry;exact PySem.EqNone.eq_int_none (kX I q (by simp))
    | int j=>obtain ⟨t',rfl⟩:=ry;exact eq_int (kX I q aG)
    | str j=>obtain ⟨t',rfl⟩:=ry;exact PySem.EqMixed.eq_int_str (kX I q (by simp))
    | _=>exact absurd (show false=true from hs) Bool.false_ne_true
  | str i =>
    obtain ⟨t,rfl⟩:=rx
    cases y with
    | non=>cases ry;exact PySem.EqNone.eq_str_none (kX I q (by simp))
    | bl j=>cases ry;exact PySem.EqMixed.eq_str_bool (kX I q (by simp))
    | int j=>obtain ⟨t',rfl⟩:=ry;exact PySem.EqMixed.eq_str_int (kX I q (by simp))
    | str j=>obtain ⟨t',rfl⟩:=ry;exact eq_str (kX I q aH)
    | _=>exact absurd (show false=true from hs) Bool.false_ne_true
  | byt i =>
    obtain ⟨t,rfl⟩:=rx
    cases y with
    | byt j=>obtain ⟨t',rfl⟩:=ry;exact W.eq_bytes (kX I q aY)
    | _=>exact absurd (show false=true from hs) Bool.false_ne_true
  | _=>cases y <;> exact absurd (show false=true from hs) Bool.false_ne_true
theorem mX:OpR X (compareOp .NotEq) rNe:=by
  intro pins s σ H x y v u Q I rx ry h
  obtain ⟨hs,q⟩:=h
  cases x with
  | non =>
    cases rx
    cases y with
    | non=>cases ry;exact PySem.EqNone.ne_none_none (kX I q (by simp))
    | bl j=>cases ry;exact PySem.EqNone.ne_none_bool (kX I q (by simp))
    | int j=>obtain ⟨t',rfl⟩:=ry;exact PySem.EqNone.ne_none_int (kX I q (by simp))
    | str j=>obtain ⟨t',rfl⟩:=ry;exact PySem.EqNone.ne_none_str (kX I q (by simp))
    | _=>exact absurd (show false=true from hs) Bool.false_ne_true
  | bl i =>
    cases rx
    cases y with
    | non=>cases ry;exact PySem.EqNone.ne_bool_none (kX I q (by simp))
    | bl j=>cases ry;exact ne_bool (kX I q (congrArg not jv0))
    | str j=>obtain ⟨t',rfl⟩:=ry;exact PySem.EqMixed.ne_bool_str (kX I q (by simp))
    | _=>exact absurd (show false=true from hs) Bool.false_ne_true
  | int i =>
    obtain ⟨t,rfl⟩:=rx
    cases y with
    | non=>cases ry;exact PySem.EqNone.ne_int_none (kX I q (by simp))
    | int j=>obtain ⟨t',rfl⟩:=ry;exact ne_int (kX I q (congrArg not aG))
    | str j=>obtain ⟨t',rfl⟩:=ry;exact PySem.EqMixed.ne_int_str (kX I q (by simp))
    | _=>exact absurd (show false=true from hs) Bool.false_ne_true
  | str i =>
    obtain ⟨t,rfl⟩:=rx
    cases y with
    | non=>cases ry;exact PySem.EqNone.ne_str_none (kX I q (by simp))
    | bl j=>cases ry;exact PySem.EqMixed.ne_str_bool (kX I q (by simp))
    | int j=>obtain ⟨t',rfl⟩:=ry;exact PySem.EqMixed.ne_str_int (kX I q (by simp))
    | str j=>obtain ⟨t',rfl⟩:=ry;exact ne_str (kX I q (congrArg not aH))
    | _=>exact absurd (show false=true from hs) Bool.false_ne_true
  | byt i =>
    obtain ⟨t,rfl⟩:=rx
    cases y with
    | byt j=>obtain ⟨t',rfl⟩:=ry;exact W.ne_bytes (kX I q (congrArg not aY))
    | _=>exact absurd (show false=true from hs) Bool.false_ne_true
  | _=>cases y <;> exact absurd (show false=true from hs) Bool.false_ne_true
theorem rV:OpR X (compareOp .Lt) (rI0 fun i j=>.bl (decide (i < j))):=jp3 fun _ _ _ _ _ _ _ q=>lt_int q
theorem jj9:OpR X (compareOp .LtE) (rI0 fun i j=>.bl (decide (i≤j))):=jp3 fun _ _ _ _ _ _ _ q=>le_int q
theorem rK:OpR X (compareOp .Gt) (rI0 fun i j=>.bl (decide (j < i))):=jp3 fun _ _ _ _ _ _ _ q=>gt_int q
theorem jj8:OpR X (compareOp .GtE) (rI0 fun i j=>.bl (decide (j≤i))):=jp3 fun _ _ _ _ _ _ _ q=>ge_int q
theorem OpR.or {f:Value→Value→Sem Value} {r r':R2} (h:OpR X f r) (h':OpR X f r'):OpR X f (fun x y H Q=>r x y H Q∨r' x y H Q):=by
  intro pins s σ H x y v u Q I rx ry q
  rcases q with q | q
  · exact h pins s σ H x y v u Q I rx ry q
  · exact h' pins s σ H x y v u Q I rx ry q
theorem j0 (b:Expr) {op:CmpOp} (h:op≠.In:=by decide) (h2:op≠.NotIn:=by decide):behindInMarks op b=false:=by
  have e1:(op == CmpOp.In)=false:=by cases op <;> first | rfl | exact absurd rfl h
  have e2:(op == CmpOp.NotIn)=false:=by cases op <;> first | rfl | exact absurd rfl h2
  cases b <;> simp [behindInMarks,e1,e2]
theorem bJ {op:CmpOp} {r:R2} (ho:OpR X (compareOp op) r) (ha:PE X a ta) (hb:PE X b tb) (hm:behindInMarks op b=false):PE X (.Compare a [op] [b] pos) (tOp r ta tb):=by
  intro pins s σ H Q I h
  exact wpAny_Compare1 (jpV ha hb I h fun v u s2 x y H2 I2 rx ry q=>ho pins s2 σ H2 x y v u Q I2 rx ry q) hm
def vH (t:TE):TT:=fun σ H Q=>t σ H fun x H'=>∃ k,x=.bl k∧Q k H'
theorem jR {op:CmpOp} {r:R2} (ho:OpR X (compareOp op) r) (ha:PE X a ta) (hb:PE X b tb) (hm:behindInMarks op b=false):PT X (.Compare a [op] [b] pos) (vH (tOp r ta tb)):=by
  intro pins s σ H Q I h
  refine wpAny_isTrue_Compare1 (thn (ha pins s σ H _ I h) fun v s1 ⟨x,H1,I1,r1,q1⟩=>thn (hb pins s1 σ H1 _ I1 q1) fun u s2 ⟨y,H2,I2,r2,q2⟩ =>
    thn (ho pins s2 σ H2 x y v u _ I2 r1 r2 q2) fun c s3 ⟨z,H3,I3,r3,k,e,q3⟩=>?_) hm
  subst e
  cases r3
  exact wpAny_truthy_bool ⟨H3,I3,q3⟩
def jpK (K:W.Frag) (x:V) (H:Hp) (k:Bool):Prop :=
  match x with
  | .non=>k=false
  | .bl b=>k=b
  | .int i=>k=(i != 0)
  | .str y=>y.length≤sizeLine∧k=((y.length:Int) != 0)
  | .byt y=>y.size≤sizeLine∧k=((y.size:Int) != 0)
  | .ref p=>(∃ xs,SqL K H p xs∧k = !xs.isEmpty)∨(∃ xs,SqT K H p xs∧k = !xs.isEmpty)∨∃ kvs,H p=some (.dK kvs)∧k = !kvs.isEmpty
  | _=>False
theorem tD {κ:Type} {kvs:List (κ×V)} {vs:List (κ×Value)} (r:KV kvs vs):(!vs.isEmpty) = !kvs.isEmpty:=by
  cases r <;> rfl
theorem fD {xs:List V} {its:List Value} (r:kG xs its):(!its.toArray.isEmpty) = !xs.isEmpty:=by
  cases r <;> simp
theorem nL:(sizeLine:Nat) < 2 ^ 63:=by rw [sizeLine_eq];decide
theorem jrW:js8 X (fun x H Q=>∃ k,jpK X.K x H k∧Q k H):=by
  intro pins s σ H x v Q I rx h
  obtain ⟨k,e,q⟩:=h
  have hl:=nL
  have hs:sizeLine=16777216:=sizeLine_eq
  cases x with
  | non =>
    cases rx
    have e':k=false:=e
    subst e'
    exact truthy_none ⟨H,I,q⟩
  | bl b =>
    cases rx
    have e':k=b:=e
    subst e'
    exact wpAny_truthy_bool ⟨H,I,q⟩
  | int i =>
    obtain ⟨t,rfl⟩:=rx
    have e':k=(i != 0):=e
    subst e'
    exact PySem.P.truthy_int ⟨H,I,q⟩
  | str y =>
    obtain ⟨t,rfl⟩:=rx
    obtain ⟨hy,e'⟩:y.length≤sizeLine∧k=((y.length:Int) != 0):=e
    subst e'
    exact PySem.P.truthy_str (by omega) ⟨H,I.tok _,q⟩
  | byt y =>
    obtain ⟨t,rfl⟩:=rx
    obtain ⟨hy,e'⟩:y.size≤sizeLine∧k=((y.size:Int) != 0):=e
    subst e'
    exact W.truthy_bytes (by omega) ⟨H,I.tok _,q⟩
  | ref p =>
    cases rx
    have e':(∃ xs,SqL X.K H p xs∧k = !xs.isEmpty)∨(∃ xs,SqT X.K H p xs∧k = !xs.isEmpty)∨∃ kvs,H p=some (.dK kvs)∧k = !kvs.isEmpty:=e
    rcases e' with ⟨xs,hx,e'⟩ | ⟨xs,hx,e'⟩ | ⟨kvs,hx,e'⟩
    · subst e'
      obtain ⟨its,r,pl,hz⟩:=I.list hx
      have hlen:=r.length
      exact wpAny_truthy_list pl.isList (by simp only [List.size_toArray];omega) ⟨H,I.tok _,by rw [fD r];exact q⟩
    · subst e'
      obtain ⟨its,r,pl,hz⟩:=I.tuple hx
      have hlen:=r.length
      exact truthy_tuple pl (by simp only [List.size_toArray];omega) ⟨H,I.tok _,by rw [fD r];exact q⟩
    · subst e'
      obtain ⟨hz,hS,vs,r,m⟩:kvs.length≤sizeLine∧(p == sysModules)=false∧∃ vs,KV kvs vs∧s.heap.DictOf (j5 X.prog X.w) p vs:=I.hok p _ hx
      have hlen:kvs.length=vs.length:=Paired.length r
      exact wpAny_truthy_dict hS m (by omega) ⟨H,I.tok _,by rw [tD r];exact q⟩
  | _=>exact (show False from e).elim
theorem jjW (ha:PE X a ta) (he:∀ whole,isTrue a X.env whole=(do let v ← whole;standAt a.pos;holding [v] (truthy v))) :
    PT X a (fun σ H Q=>ta σ H fun x H'=>∃ k,jpK X.K x H' k∧Q k H'):=by
  intro pins s σ H Q I h
  exact isTrue_plain (thn (ha pins s σ H _ I h) fun v s1 ⟨x,H1,I1,r1,q1⟩=>jrW pins s1 σ H1 x v Q I1 r1 q1) (he _)
theorem oX {x:V} {us:List Value} (r:kG [x] us):∃ u,us=[u]∧kI x u:=by
  cases r with
  | cons r1 r2=>cases r2;exact ⟨_,rfl,r1⟩
end
structure jz7 (h:Heap) (x dx C:Addr) (mA:Str→Option Value):Prop where
  obj:h.get? x=some (W.instObj C dx)
  ns:h.Ns1 dx mA
  ne:dx≠x
theorem eC {h:Heap} {dx:Addr} {mA:Str→Option Value} (n:h.Ns1 dx mA):∃ od,h.get? dx=some od∧∀ name,W.lookIn name od=some (mA name):=by
  obtain ⟨o,es,ep,ho,hd,hk,_,hm⟩:=n
  refine ⟨o,ho,fun name=>?_⟩
  have e:=hm name
  unfold nsFind findBy at e
  rw [← Array.find?_toList] at e
  unfold W.lookIn
  rw [hd]
  dsimp only
  split
  · rename_i y q
    rw [q] at e
    exact congrArg some e
  · rename_i q
    rw [q] at e
    have a:es.toList.any (·.refKey)=false:=by
      rw [List.any_eq_false]
      intro y hy
      obtain ⟨z,t,hkey⟩:=hk y (Array.mem_toList_iff.mp hy)
      simp [DictEntry.refKey,hkey]
    have a':¬ es.toList.any (·.refKey)=true:=by rw [a];exact Bool.false_ne_true
    rw [if_neg a']
    exact congrArg some e
theorem jz7.look {h:Heap} {x dx C:Addr} {mA:Str→Option Value} (I:jz7 h x dx C mA):∃ od,W.InstAt h x (W.instObj C dx) C (some od)∧∀ name,W.lookIn name od=some (mA name) :=
  let ⟨od,ho,hl⟩:=eC I.ns
  ⟨od,⟨I.obj,rfl,rfl,ho⟩,hl⟩
section
variable {prog:Program} {w:World} {A:Around} {E:Value→Shared→Prop} {s:Shared} {K:W.Frag} {x dx C f:Addr} {mA:Str→Option Value} {name:Str} {v:Value}
theorem jw6 {expr:Bool} {Q:Value→Shared→Prop} (X:K.In s.heap) (I:jz7 s.heap x dx C mA) (hg:W.plainGet K C name=true) (hh:W.hasDictIn K C=true)
    (ha:W.findIn K (.ref C) name=some none) (hv:mA name=some v) (hv':W.handedIn v=true) (h:Q v { s with toks:=s.toks+1 }) :
    wpAny (model prog w) A (getAttr (.ref x) name expr) Q E s:=by
  obtain ⟨od,J,hl⟩:=I.look
  exact W.get_value X J (W.plainGet_of hg).1 (W.findObj_own hh ha rfl (by rw [hl,hv])) hv' h
theorem o6 {pl:Sem Bool} {Q:Value×List Value→Shared→Prop} (X:K.In s.heap) (I:jz7 s.heap x dx C mA) (hg:W.plainGet K C name=true)
    (hf:W.findIn K (.ref C) name=some (some (.ref f))) (ht:W.isFn K (.ref f)=true) (hv:mA name=none) (h:Q (.ref f,[.ref x]) s) :
    wpAny (model prog w) A (getMethod (.ref x) name pl) Q E s:=by
  obtain ⟨od,J,hl⟩:=I.look
  exact W.method_fn X J (W.plainGet_of hg).1 (W.plainGet_of hg).2 hf (beq_iff_eq.mp ht) (by show (W.lookIn name od).map (·.isSome)=some false;rw [hl,hv];rfl) h
theorem ju5 {ns:List Str} {Q:Unit→Shared→Prop} (X:K.In s.heap) (I:jz7 s.heap x dx C mA)
    (hs:W.findIn K (.ref C) "__setattr__"=some (some (.builtin "object.__setattr__"))) (hp:W.plainOver K C=true) (ht:W.takerIn K C name=some none) (hh:W.hasDictIn K C=true)
    (hw:PySem.Within mA ns) (hsz:ns.length≤sizeLine)
    (h:∀ h',jz7 h' x dx C (fun y=>if y=name then some v else mA y)→Heap.SameBut dx s.heap h'→Q () { s with heap:=h',toks:=s.toks+2 }) :
    wpAny (model prog w) A (setAttr (.ref x) name v) Q E s:=by
  obtain ⟨od,J,hl⟩:=I.look
  refine W.set_plain X J hs (W.osa_open (s:={ s with toks:=s.toks+1 }) (r:=none) X J hp ht fun b=>?_)
  obtain ⟨cd,hc,hd'⟩:=W.any_some hh
  have hx:s.heap.get? x=some ⟨.ref C,some dx,.plain,#[]⟩:=I.obj
  refine wpAny_bind (wpAny_pure (wpAny_bind (wpAny_bind (wpAny_loadPart hx (wpAny_bind (W.Looks.here (s:={ s with toks:=s.toks+1 }) (W.looks_clsIn X hc) ?_))))))
  rw [hd']
  refine wpAny_pure (a:=some dx) (wpAny_bind (wpAny_pure (wpAny_bind ?_)))
  refine wpAny_nsSet1 (s:={ s with toks:=s.toks+1 }) I.ns fun h' hn2 hs2=>?_
  obtain ⟨oD,esD,epD,hoD,hdD,hcD⟩:=hn2.count (PySem.Within.cons name v hw)
  refine wpAny_bind (wpAny_lookBehind hoD (by rw [hdD];exact pastItsLine_dict (Nat.le_trans hcD (by rw [List.length_cons];omega))) ?_)
  exact wpAny_pure (h _ ⟨(hs2.2 _ (Ne.symm I.ne)).trans I.obj,hn2,I.ne⟩ hs2)
theorem o9 {R:Result→Shared→Prop} {vs:List Value} {kw:List (Str×Value)} (X:K.In s.heap) (hm:W.makesIn K C=true)
    (hi:W.findIn K (.ref C) "__init__"=some (some (.ref f))) (hf:W.typeIn K (.ref f)=some (.type "function"))
    (h:codeAny (model prog w) (A.under (.builtin "type.__call__" ⟨.ref C :: vs,kw⟩)) (.call (.ref f) ⟨.ref (s.heap.objs.size+1) :: vs,kw⟩) (W.InitBack (s.heap.objs.size+1) R)
      { s with heap:=(s.heap.push W.emptyDict).push (W.instObj C s.heap.objs.size) }) :
    codeAny (model prog w) A (.call (.ref C) ⟨vs,kw⟩) R s:=by
  obtain ⟨hh,g,d,t,os⟩:=s
  exact W.make_core (W.makes_of X hm) (W.looks_findIn X hi) (fun self=>W.bind_fn X self hf) (.inl rfl) h
end
def jt7 (f:Str) (v:V):List (Str×V)→List (Str×V)
  | []=>[(f,v)]
  | (g,x) :: r=>if g=f then (g,v) :: r else (g,x) :: jt7 f v r
theorem gK (f g:Str) (v:V):∀ fs:List (Str×V),(jt7 f v fs).lookup g=if g=f then some v else fs.lookup g
  | []=>by
    show List.lookup g [(f,v)]=_
    by_cases h:g=f
    · have hb:(g == f)=true:=beq_iff_eq.mpr h
      simp only [List.lookup,hb,if_pos h]
    · have hb:(g == f)=false:=beq_eq_false_iff_ne.mpr h
      simp only [List.lookup,hb,if_neg h]
  | (k,x) :: r=>by
    have ih:=gK f g v r
    rw [show jt7 f v ((k,x) :: r)=(if k=f then (k,v) :: r else (k,x) :: jt7 f v r) from rfl]
    by_cases hk:k=f
    · rw [if_pos hk]
      by_cases h:g=k
      · have hb:(g == k)=true:=beq_iff_eq.mpr h
        simp only [List.lookup,hb,if_pos (h.trans hk)]
      · have hb:(g == k)=false:=beq_eq_false_iff_ne.mpr h
        simp only [List.lookup,hb,if_neg (fun e:g=f=>h (e.trans hk.symm))]
    · rw [if_neg hk]
      by_cases h:g=k
      · have hb:(g == k)=true:=beq_iff_eq.mpr h
        simp only [List.lookup,hb,if_neg (fun e:g=f=>hk (h.symm.trans e))]
      · have hb:(g == k)=false:=beq_eq_false_iff_ne.mpr h
        simp only [List.lookup,hb]
        exact ih
theorem x6 (f:Str) (v:V):∀ fs:List (Str×V),f∈(jt7 f v fs).map (·.1)∧∀ g,g∈fs.map (·.1)→g∈(jt7 f v fs).map (·.1)
  | []=>⟨by simp [jt7],fun g h=>by simp at h⟩
  | (k,x) :: r=>by
    obtain ⟨i1,i2⟩:=x6 f v r
    rw [show jt7 f v ((k,x) :: r)=(if k=f then (k,v) :: r else (k,x) :: jt7 f v r) from rfl]
    by_cases hk:k=f
    · rw [if_pos hk]
      subst hk
      exact ⟨by simp,fun g h=>by simpa using h⟩
    · rw [if_neg hk]
      refine ⟨?_,fun g h=>?_⟩
      · rw [List.map_cons]
        exact List.mem_cons_of_mem _ i1
      · rw [List.map_cons] at h ⊢
        rcases List.mem_cons.mp h with e | e
        · exact List.mem_cons.mpr (.inl e)
        · exact List.mem_cons_of_mem _ (i2 g e)
theorem x9 (f:Str) (v:V):∀ fs:List (Str×V),(jt7 f v fs).length≤fs.length+1
  | []=>by simp [jt7]
  | (k,x) :: r=>by
    have ih:=x9 f v r
    rw [show jt7 f v ((k,x) :: r)=(if k=f then (k,v) :: r else (k,x) :: jt7 f v r) from rfl]
    by_cases hk:k=f
    · rw [if_pos hk,List.length_cons,List.length_cons];omega
    · rw [if_neg hk,List.length_cons,List.length_cons];omega
theorem pW.some_of {v:V} {o:Option Value} (r:pW (some v) o):∃ u,o=some u∧kI v u:=by
  cases o with
  | none=>exact (show False from r).elim
  | some u=>exact ⟨u,rfl,r⟩
theorem pW.none_of {o:Option Value} (r:pW none o):o=none:=by
  cases o with
  | none=>rfl
  | some u=>exact (show False from r).elim
theorem jt9 {v:V} {u:Value} (r:kI v u):W.handedIn u=true:=by
  cases v with
  | non=>cases (show u=Value.none from r);rfl
  | bl b=>cases (show u=Value.bool b from r);rfl
  | int i=>obtain ⟨t,e⟩:=(show ∃ t,u=Value.int i t from r);cases e;rfl
  | str x=>obtain ⟨t,e⟩:=(show ∃ t,u=Value.str x t from r);cases e;rfl
  | byt b=>obtain ⟨t,e⟩:=(show ∃ t,u=Value.bytes b t from r);cases e;rfl
  | flt b=>obtain ⟨t,e⟩:=(show ∃ t,u=Value.float b t from r);cases e;rfl
  | ref a=>cases (show u=Value.ref a from r);rfl
  | ty n=>cases (show u=Value.type n from r);rfl
section
variable {P:Program} {w:World} {H H':Hp} {h h':Heap} {a C dx:Addr} {fs fs':List (Str×V)}
theorem p4 (hok:HOk P w H h) (e:H a=some (.ins C dx fs)):∃ mA,jz7 h a dx C mA∧(∀ f,pW (fs.lookup f) (mA f))∧PySem.Within mA (fs.map (·.1))∧fs.length≤1000∧H dx=some (.own a):=by
  obtain ⟨d,z,ne,ob,mA,n,r,q⟩:=(show kS P w H h a (.ins C dx fs) from hok a _ e)
  exact ⟨mA,⟨ob,n,ne⟩,r,q,z,d⟩
end
structure Cls (K:W.Frag) (C:Addr):Prop where
  pg:W.plainGet K C Str.empty=true
  hd:W.hasDictIn K C=true
  po:W.plainOver K C=true
  sa:W.findIn K (.ref C) "__setattr__"=some (some (.builtin "object.__setattr__"))
theorem Cls.get {K:W.Frag} {C:Addr} (c:Cls K C) (f:Str):W.plainGet K C f=true:=c.pg
def vW (K:W.Frag) (C:Addr) (f:Str):Prop:=W.findIn K (.ref C) f=some none
theorem vW.taker {K:W.Frag} {C:Addr} {f:Str} (n:vW K C f):W.takerIn K C f=some none:=by
  unfold W.takerIn
  rw [show W.findIn K (.ref C) f=some none from n]
  rfl
structure oR (K:W.Frag) (C:Addr) (m:Str) (f:Addr):Prop where
  at_:W.findIn K (.ref C) m=some (some (.ref f))
  fn:W.isFn K (.ref f)=true
  kp:W.keepIn K (.ref f)=true
section
variable {X:Cx} {pins:List (Addr×Obj)} {σ:St} {H:Hp} {s:Shared} {a C dx:Addr} {fs:List (Str×V)} {f:Str} {v:V} {A:Around} {E:Value→Shared→Prop}
theorem tH {b:Bool} {Q:Value→Shared→Prop} (I:Inv X pins σ H s) (e:H a=some (.ins C dx fs)) (c:Cls X.K C) (n:vW X.K C f) (l:fs.lookup f=some v)
    (h:∀ u s',Inv X pins σ H s'→kI v u→Q u s'):wpAny (model X.prog X.w) A (getAttr (.ref a) f b) Q E s:=by
  obtain ⟨mA,O,r,_,_,_⟩:=p4 I.hok e
  obtain ⟨u,hu,ru⟩:=pW.some_of (v:=v) (o:=mA f) (by rw [← l];exact r f)
  exact jw6 I.kIn O (c.get f) c.hd n hu (jt9 ru) (h u _ (I.tok _) ru)
theorem fF {m:Str} {g:Addr} {pl:Sem Bool} {Q:Value×List Value→Shared→Prop} (I:Inv X pins σ H s) (e:H a=some (.ins C dx fs)) (c:Cls X.K C) (k:oR X.K C m g) (l:fs.lookup m=none)
    (h:Q (.ref g,[.ref a]) s):wpAny (model X.prog X.w) A (getMethod (.ref a) m pl) Q E s:=by
  obtain ⟨mA,O,r,_,_,_⟩:=p4 I.hok e
  have hn:mA m=none:=pW.none_of (by rw [← l];exact r m)
  exact o6 I.kIn O (c.get m) k.at_ k.fn hn h
theorem lJ {y:V} {u:Value} {Q:Unit→Shared→Prop} (I:Inv X pins σ H s) (e:H a=some (.ins C dx fs)) (c:Cls X.K C) (n:vW X.K C f) (hl:fs.length < 1000) (ry:kI y u)
    (h:∀ s',Inv X pins σ (upd H a (.ins C dx (jt7 f y fs))) s'→Q () s'):wpAny (model X.prog X.w) A (setAttr (.ref a) f u) Q E s:=by
  obtain ⟨mA,O,r,wi,_,ho⟩:=p4 I.hok e
  have hz:(fs.map (·.1)).length≤sizeLine:=by rw [List.length_map,sizeLine_eq];omega
  refine ju5 I.kIn O c.sa c.po n.taker c.hd wi hz fun h' O' sb=>h _ ?_
  have hd:∃ o,h'.get? dx=some o:=let ⟨o,_,_,e',_⟩:=O'.ns;⟨o,e'⟩
  refine I.write (x:=a) (e:=dx) (by rw [e];exact True.intro) (.inr ho) (fun b q hb z=>(sb.2 b hb).trans z) hd ?_
  refine ⟨by rw [jV O.ne];exact ho,?_,O.ne,O'.obj,_,O'.ns,fun g=>?_,fun g hg=>?_⟩
  · have:=x9 f y fs;omega
  · show pW ((jt7 f y fs).lookup g) (if g=f then some u else mA g)
    rw [gK]
    by_cases q:g=f
    · rw [if_pos q,if_pos q];exact ry
    · rw [if_neg q,if_neg q];exact r g
  · by_cases q:g=f
    · rw [q];exact (x6 f y fs).1
    · refine (x6 f y fs).2 g (wi g fun z=>hg ?_)
      show (if g=f then some u else mA g)=none
      rw [if_neg q];exact z
theorem Inv.made (I:Inv X pins σ H s):Inv X pins σ (upd (upd H s.heap.objs.size (.own (s.heap.objs.size+1))) (s.heap.objs.size+1) (.ins C s.heap.objs.size []))
    { s with heap:=(s.heap.push W.emptyDict).push (W.instObj C s.heap.objs.size) }:=by
  have e1:(s.heap.push W.emptyDict).get? s.heap.objs.size=some W.emptyDict:=Heap.get?_push_size s.heap rfl
  have e2:((s.heap.push W.emptyDict).push (W.instObj C s.heap.objs.size)).get? (s.heap.objs.size+1)=some (W.instObj C s.heap.objs.size):=by
    have:=Heap.get?_push_size (s.heap.push W.emptyDict) (o:=W.instObj C s.heap.objs.size) rfl
    rwa [Heap.size_push] at this
  have e3:(s.heap.push W.emptyDict).Ns s.heap.objs.size (fun _=>none):=⟨W.emptyDict,#[],_,e1,rfl,(fun e he=>absurd he (by simp)),fun _=>rfl⟩
  have I1:=I.laid (a:=s.heap.objs.size) (o:=.own (s.heap.objs.size+1)) (h':=s.heap.push W.emptyDict) (t':=s.toks) (fun b u q=>Heap.get?_push_of_some _ q) (Nat.le_refl _) ⟨_,e1⟩
  refine I1.laid (a:=s.heap.objs.size+1) (o:=.ins C s.heap.objs.size []) (t':=s.toks) (fun b u q=>Heap.get?_push_of_some _ q) (Nat.le_of_eq (Heap.size_push _ _)) ?_
  have ne:s.heap.objs.size≠s.heap.objs.size+1:=Nat.ne_of_lt (Nat.lt_succ_self _)
  refine ⟨by rw [jV ne,jK],Nat.zero_le _,ne,e2,fun _=>none,(Heap.Ns1.of_empty e3).at fun o q=>Heap.get?_push_of_some _ q,fun _=>True.intro,fun y hy=>absurd rfl hy⟩
theorem jzJ {prog:Program} {w:World} {env:Env} {e:Expr} {f:Str} {pos:Pos} {s:Shared} {Q:Value→Shared→Prop} (hb:attributeBase e f env (eval e env)=eval e env)
    (h:wpAny (model prog w) A (eval e env) (fun o s₁=>wpAny (model prog w) A (getAttr o f true) Q E s₁) E s):wpAny (model prog w) A (eval (.Attribute e f pos) env) Q E s :=
  Attribute_any_ h (by rw [arm_eval_Attribute,hb])
end
def uQ (K:W.Frag) (ta:TE) (f:Str):TE:=fun σ H Q=>ta σ H fun x H1=>∃ a C dx fs v,x=.ref a∧H1 a=some (.ins C dx fs)∧Cls K C∧vW K C f∧fs.lookup f=some v∧Q v H1
def js3 (K:W.Frag) (ta tv:TE) (f:Str):TS:=fun D σ H=>tv σ H fun y H1=>ta σ H1 fun x H2=>∃ a C dx fs,x=.ref a∧H2 a=some (.ins C dx fs)∧Cls K C∧vW K C f∧fs.length < 1000 ∧
  D.nx σ (upd H2 a (.ins C dx (jt7 f y fs)))
section
variable {X:Cx} {o e value:Expr} {f:Str} {pos pos' tpos:Pos} {ta tv:TE}
theorem jf9 (he:PE X e ta) (hb:attributeBase e f X.env (eval e X.env)=eval e X.env):PE X (.Attribute e f pos) (uQ X.K ta f):=by
  intro pins s σ H Q I h
  refine jzJ hb (thn (he pins s σ H _ I h) fun u s1 ⟨x,H1,I1,rx,a,C,dx,fs,v,ex,ea,c,n,l,q⟩=>?_)
  subst ex
  obtain rfl:u=Value.ref a:=rx
  exact tH I1 ea c n l fun u' s2 I2 ru=>⟨v,H1,I2,ru,q⟩
theorem vQ (ha:PE X o ta) (hv:PE X value tv) (hs:swapsWith value (some (.Attribute o f pos')) pos.line X.env=pure false):PS X (.Assign [.Attribute o f pos'] value pos) (js3 X.K ta tv f):=by
  intro pins s σ H D I h
  refine plainObj_wpAny_Assign_Attribute (thn (hv pins s σ H _ I h) fun u s1 ⟨y,H1,I1,ry,q⟩=>thn (ha pins s1 σ H1 _ I1 q) fun ov s2 ⟨x,H2,I2,rx,a,C,dx,fs,ex,ea,c,n,l,q2⟩=>?_) hs
  subst ex
  obtain rfl:ov=Value.ref a:=rx
  exact lJ I2 ea c n l ry fun s3 I3=>⟨σ,_,I3,q2⟩
end
section
variable {X:Cx} {pins:List (Addr×Obj)} {σ:St} {H:Hp} {s:Shared} {A:Around} {E:Value→Shared→Prop} {Q:Value→Shared→Prop} {c:Value} {b:Bool}
end
structure wU (k:Nat) (A:Around):Prop where
  hd:A.handled=none
  dp:A.depth+3 * k+5 < recursionLimit
  un:A.units+16 * k+200 < cLine
theorem wU.mono {j k:Nat} {A:Around} (r:wU k A) (h:j≤k):wU j A:=⟨r.hd,by have:=r.dp;omega,by have:=r.un;omega⟩
theorem wU.deeper {k:Nat} {A:Around} (r:wU (k+1) A) (env:Env):wU k (A.deeper env) :=
  ⟨r.hd,by have:=r.dp;show A.depth+1+3 * k+5 < _;omega,by have:=r.un;show A.units+3+16 * k+200 < _;omega⟩
theorem wU.in1 {k:Nat} {A:Around} (r:wU (k+1) A):wU k A.in1 :=
  ⟨r.hd,by have:=r.dp;show A.depth+3 * k+5 < _;omega,by have:=r.un;show A.units+1+16 * k+200 < _;omega⟩
theorem tS {A:Around} {C:Addr} {us:List Value} {kw:List (Str×Value)}:(A.under (.builtin "type.__call__" ⟨.ref C :: us,kw⟩)).depth=A.depth+1:=by
  first | rfl | simp [Around.under,Code.weight,Code.isCreation,Code.isGuard,Code.isCaller,Code.frames,Code.isFrame,guardIds]
theorem tT {A:Around} {C:Addr} {us:List Value} {kw:List (Str×Value)}:(A.under (.builtin "type.__call__" ⟨.ref C :: us,kw⟩)).units=A.units+1:=by
  first | rfl | simp [Around.under,Code.cUnits,Code.frames,Code.isFrame]
theorem wU.make {k:Nat} {A:Around} (r:wU (k+1) A) (C:Addr) (us:List Value) (kw:List (Str×Value)):wU k (A.under (.builtin "type.__call__" ⟨.ref C :: us,kw⟩)) :=
  ⟨r.hd,by have:=r.dp;rw [tS];omega,by have:=r.un;rw [tT];omega⟩
theorem wU.depth {k:Nat} {A:Around} (r:wU k A):A.depth < recursionLimit:=by have:=r.dp;omega
theorem wU.units {k:Nat} {A:Around} (r:wU k A):A.units+64 < cLine:=by have:=r.un;omega
def kN:TA:=fun _ H Q=>Q [] H
def jN (ta:TE) (tr:TA):TA:=fun σ H Q=>ta σ H fun x H1=>tr σ H1 fun xs H2=>Q (x :: xs) H2
section
variable {X:Cx} {e:Expr} {es:List Expr} {te:TE} {t:TA} {pos:Pos}
theorem jQ:PA X [] kN:=fun _ _ _ _ H Q I h=>Calls.spliced_nil ⟨[],H,I,.nil,h⟩
theorem jJ (ha:PE X e te) (hr:PA X es t) (hs:starEach (e :: es) X.env=(false,eval e X.env) :: starEach es X.env:=by rfl):PA X (e :: es) (jN te t):=by
  intro pos pins s σ H Q I h
  rw [hs]
  show wpAny _ _ (spliced ((false,eval e X.env) :: backTo pos (starEach es X.env))) _ _ s
  refine Calls.spliced_cons (thn (ha pins s σ H _ I h) fun u s1 ⟨x,H1,I1,r1,q1⟩=>?_)
  exact thn (hr pos pins s1 σ H1 _ I1 q1) fun us s2 ⟨xs,H2,I2,r2,q2⟩=>⟨x :: xs,H2,I2,.cons r1 r2,q2⟩
def sS (t:TA):TE:=fun σ H Q=>t σ H fun xs H1=>xs.length≤sizeLine∧∀ p,H1 p=none→Q (.ref p) (upd H1 p (.tup xs))
def dJ (t:TA):TE:=fun σ H Q=>t σ H fun xs H1=>xs.length≤sizeLine∧∀ p,H1 p=none→Q (.ref p) (upd H1 p (.lst xs))
theorem v0 {x1} (h:PA X es t):PE X (.Tuple es x1 pos) (sS t):=by
  intro pins s σ H Q I hq
  refine wpAny_Tuple_spliced (thn (h pos pins s σ H _ I hq) fun us s1 ⟨xs,H1,I1,r,z,q⟩=>⟨by rw [← r.length];exact z,?_⟩)
  have hf:H1 s1.heap.objs.size=none:=I1.hok.fresh (Nat.le_refl _)
  refine ⟨.ref s1.heap.objs.size,upd H1 s1.heap.objs.size (.tup xs),I1.laid (t':=s1.toks) (fun b u e=>Heap.get?_push_of_some _ e) (Nat.le_refl _) ?_,rfl,q _ hf⟩
  exact ⟨z,us,r,⟨_,Heap.get?_push_size _ rfl,rfl,_,rfl⟩⟩
theorem kR (h:PA X es t):PE X (.List es pos) (dJ t):=by
  intro pins s σ H Q I hq
  refine wpAny_List_spliced (thn (h pos pins s σ H _ I hq) fun us s1 ⟨xs,H1,I1,r,z,q⟩=>⟨by rw [← r.length];exact z,?_⟩)
  have hf:H1 s1.heap.objs.size=none:=I1.hok.fresh (Nat.le_refl _)
  refine ⟨.ref s1.heap.objs.size,upd H1 s1.heap.objs.size (.lst xs),I1.laid (t':=s1.toks) (fun b u e=>Heap.get?_push_of_some _ e) (Nat.le_refl _) ?_,rfl,q _ hf⟩
  exact ⟨z,us,0,r,Heap.get?_push_size _ rfl⟩
end
abbrev Sp:=List V→Hp→VK→XK→Prop
abbrev CXT:=List Env→Hp→Shared→XK→Value→Shared→Prop
structure jz6 (P:Program) (w:World) (K:W.Frag) (mg:Str→Option Value) (base:Heap) (A:Around) (outer:List Env) (s:Shared) (H:Hp):Prop where
  frames:A.frames=some outer
  mod:Mod K mg base
  bs:∀ b o,base.get? b=some o→s.heap.get? b=some o∧H b=none
  bsz:base.objs.size≤s.heap.objs.size
  funs:s.heap.FunFrames base outer
  frf:∀ b∈frs outer,H b=none
  hok:HOk P w H s.heap
  bare:AllBare s.gens
def CE (outer:List Env) (P:Program) (w:World) (H:Hp) (s:Shared) (Q:VK) (u:Value) (s':Shared):Prop :=
  ∃ v H',s'.os=s.os∧AllBare s'.gens∧Un (frs outer) [] H H' s.heap s'.heap∧HOk P w H' s'.heap∧kI v u∧Q v H'
def CR (CX:CXT) (outer:List Env) (P:Program) (w:World) (H:Hp) (s:Shared) (Q:VK) (E:XK) (r:Result) (s':Shared):Prop :=
  match r with
  | .ok (.ret u)=>CE outer P w H s Q u s'
  | .ok _=>False
  | .error e=>CX outer H s E e s'
structure vA (P:Program) (w:World) (K:W.Frag) (mg:Str→Option Value) (base:Heap) (CX:CXT) (k:Nat) (f:Addr) (fd:FuncData) (ps:List Str) (sp:Sp):Prop where
  len:∀ vs H Q E,sp vs H Q E→vs.length=ps.length
  run:∀ (A:Around) (outer:List Env) (s:Shared) (H:Hp) (args:Args) (us:List Value) (vs:List V) (Q:VK) (E:XK),wU k A→jz6 P w K mg base A outer s H→BindsTo s fd args (ps.zip us)→kG vs us→sp vs H Q E →
    codeAny (model P w) A (.call (.ref f) args) (CR CX outer P w H s Q E) s
theorem vA.mono {P:Program} {w:World} {K:W.Frag} {mg:Str→Option Value} {base:Heap} {CX:CXT} {j k:Nat} {f:Addr} {fd:FuncData} {ps:List Str} {sp:Sp} (F:vA P w K mg base CX j f fd ps sp) (h:j≤k) :
    vA P w K mg base CX k f fd ps sp:=⟨F.len,fun A outer s H args us vs Q E hr=>F.run A outer s H args us vs Q E (hr.mono h)⟩
theorem jz6.make {P:Program} {w:World} {K:W.Frag} {mg:Str→Option Value} {base:Heap} {A:Around} {outer:List Env} {s:Shared} {H:Hp} (e:jz6 P w K mg base A outer s H) (C:Addr) (us:List Value) (kw:List (Str×Value)) :
    jz6 P w K mg base (A.under (.builtin "type.__call__" ⟨.ref C :: us,kw⟩)) outer s H:=⟨by first | exact e.frames | (simpa [Around.under,Code.envs,Code.isFrame,pushEnvs] using e.frames),e.mod,e.bs,e.bsz,e.funs,e.frf,e.hok,e.bare⟩
section
variable {X:Cx} {pins:List (Addr×Obj)} {σ:St} {H:Hp} {s s':Shared}
theorem Inv.env0 (I:Inv X pins σ H s):jz6 X.prog X.w X.K X.mg X.base X.A X.stack s H :=
  ⟨I.ok.frames,I.ok.mod,I.bs,Nat.le_trans I.ok.bsz I.sz,I.stack,I.stkFree,I.hok,I.bare⟩
theorem Inv.after {Q:VK} {u:Value} (I:Inv X pins σ H s) (h:CE X.stack X.prog X.w H s Q u s'):EP X pins σ Q u s':=by
  obtain ⟨v,H',os,bare,un,hok,r,q⟩:=h
  obtain ⟨hh,g,d,t,os'⟩:=s'
  obtain rfl:os'=s.os:=os
  exact ⟨v,H',I.call (h':=hh) (g':=g) (d':=d) (t':=t) (ch:=[]) un hok bare (fun b z=>absurd z (by simp)),r,q⟩
end
def vG (sp:Sp) (dvs:List V) (E:XK) (t:TA):TE:=fun σ H Q=>t σ H fun vs H1=>sp (vs++dvs) H1 Q E
def wM (C:Addr) (m:Str) (sp:Sp) (dvs:List V) (E:XK) (ta:TE) (t:TA):TE:=fun σ H Q=>ta σ H fun x H1=>∃ a dx fs,x=.ref a∧H1 a=some (.ins C dx fs)∧fs.lookup m=none ∧
  t σ H1 fun vs H2=>sp (x :: (vs++dvs)) H2 Q E
def rE (C:Addr) (sp:Sp) (dvs:List V) (E:XK) (t:TA):TE:=fun σ H Q=>t σ H fun vs H1=>∀ x dx,H1 x=none→H1 dx=none→dx≠x →
  sp (.ref x :: (vs++dvs)) (upd (upd H1 dx (.own x)) x (.ins C dx [])) (fun v H2=>v=.non∧Q (.ref x) H2) E
def j3 (K:W.Frag) (fd:FuncData) (ps:List Str) (ds:List Value):Prop :=
  ∀ (s:Shared) (us:List Value),K.In s.heap→(us++ds).length=ps.length→BindsTo s fd ⟨us,[]⟩ (ps.zip (us++ds))
theorem j3.all {K:W.Frag} {fd:FuncData} {ps:List Str} (h:∀ us:List Value,us.length=ps.length→bindArgs fd ⟨us,[]⟩=pure (ps.zip us)):j3 K fd ps []:=fun s us _ hl=>by
  rw [List.append_nil] at hl ⊢
  exact .of_eq (h us hl)
def yA (CX:CXT) (X:Cx) (E:XK):Prop:=∀ (pins:List (Addr×Obj)) (σ:St) (H:Hp) (s:Shared) (e:Value) (s':Shared),Inv X pins σ H s→CX X.stack H s E e s'→X.xe e s'
section
variable {X:Cx} {CX:CXT} {k:Nat} {f C:Addr} {fd:FuncData} {ps:List Str} {sp:Sp} {dvs:List V} {ds:List Value} {E:XK} {x m:Str} {p pos apos:Pos} {e o:Expr} {es:List Expr} {ta:TE} {t:TA}
theorem iT {pins:List (Addr×Obj)} {σ:St} {H:Hp} {s:Shared} {Q:VK} {us:List Value} {vs:List V} (F:vA X.prog X.w X.K X.mg X.base CX k f fd ps sp) (hr:wU k X.A) (hb:j3 X.K fd ps ds) (hd:kG dvs ds) (hx:yA CX X E)
    (I:Inv X pins σ H s) (r:kG vs us) (h:sp (vs++dvs) H Q E):wpAny (model X.prog X.w) X.A (call (.ref f) us) (EP X pins σ Q) X.xe s:=by
  have r2:kG (vs++dvs) (us++ds):=r.append hd
  have hl:(us++ds).length=ps.length:=by rw [← r2.length];exact F.len _ _ _ _ h
  refine wpAny_call (codeAny_mono (F.run X.A X.stack s H ⟨us,[]⟩ (us++ds) (vs++dvs) Q E hr I.env0 (hb s us I.kIn hl) r2 h) fun r s' hq=>?_)
  cases r with
  | error e=>exact hx pins σ H s e s' I hq
  | ok fl =>
    cases fl with
    | ret u=>exact I.after hq
    | next=>exact False.elim hq
    | brk=>exact False.elim hq
    | cont=>exact False.elim hq
theorem jP (F:vA X.prog X.w X.K X.mg X.base CX k f fd ps sp) (hr:wU k X.A) (hg:Gl X x) (hm:X.mg x=some (.ref f)) (hk:W.keepIn X.K (.ref f)=true) (hb:j3 X.K fd ps ds) (hd:kG dvs ds) (hx:yA CX X E)
    (ha:PA X (e :: es) t) (hdb:(x == ("__debug__":Str))=false:=by decide) (he:starEach (e :: es) X.env=(false,eval e X.env) :: starEach es X.env:=by rfl) (hpl:(backTo pos (starEach es X.env)).any (·.1)=false:=by rfl) :
    PE X (.Call (.Name x p) (e :: es) [] pos) (vG sp dvs E t):=by
  intro pins s σ H Q I h
  refine wpAny_Call_Name_kw (dI I hg hm ?_ hdb)
  refine W.callWith_K (h₀:=X.base) I.ok.mod.kin hk (thn (ha pos pins s σ H _ I h) fun us s1 ⟨vs,H1,I1,r,q⟩=>⟨I1.kIn,?_⟩) he hpl
  exact iT F hr hb hd hx I1 r q
theorem zR {pl:Sem Bool} (he:PE X o ta) (c:Cls X.K C) (hm:oR X.K C m f) (F:vA X.prog X.w X.K X.mg X.base CX k f fd ps sp) (hr:wU k X.A) (hb:j3 X.K fd ps ds) (hd:kG dvs ds) (hx:yA CX X E) (ha:PA X (e :: es) t)
    (hst:starEach (e :: es) X.env=(false,eval e X.env) :: starEach es X.env:=by rfl) (hpl:(backTo pos (starEach es X.env)).any (·.1)=false:=by rfl)
    (ht:eval (.Call (.Attribute o m apos) (e :: es) [] pos) X.env=(do
      let ov ← eval o X.env
      standAt apos.atName
      let (f,first) ← holding [ov] (getMethod ov m pl)
      callWith pos f first (backTo pos (starEach (e :: es) X.env)) (backToKw pos (keywordEach [] X.env))):=by rfl) :
    PE X (.Call (.Attribute o m apos) (e :: es) [] pos) (wM C m sp dvs E ta t):=by
  intro pins s σ H Q I h
  refine W.methodCall_KW (pl:=pl) (thn (he pins s σ H _ I h) fun u s1 ⟨x,H1,I1,rx,a,dx,fs,ex,ea,l,q⟩=>?_) ht
  subst ex
  obtain rfl:u=Value.ref a:=rx
  refine fF I1 ea c hm l ?_
  refine W.callWith_K (first:=[.ref a]) (h₀:=X.base) I.ok.mod.kin hm.kp (thn (ha pos pins s1 σ H1 _ I1 q) fun us s2 ⟨vs,H2,I2,r,q2⟩=>⟨I2.kIn,?_⟩) hst hpl
  exact iT (us:=.ref a :: us) (vs:=.ref a :: vs) F hr hb hd hx I2 (.cons rfl r) q2
theorem xY {pl:Sem Bool} (he:PE X o ta) (c:Cls X.K C) (hm:oR X.K C m f) (F:vA X.prog X.w X.K X.mg X.base CX k f fd ps sp) (hr:wU k X.A) (hb:j3 X.K fd ps ds) (hd:kG dvs ds) (hx:yA CX X E)
    (ht:eval (.Call (.Attribute o m apos) [] [] pos) X.env=(do
      let ov ← eval o X.env
      standAt apos.atName
      let (f,first) ← holding [ov] (getMethod ov m pl)
      callWith pos f first (backTo pos (starEach [] X.env)) (backToKw pos (keywordEach [] X.env))):=by rfl) :
    PE X (.Call (.Attribute o m apos) [] [] pos) (wM C m sp dvs E ta kN):=by
  intro pins s σ H Q I h
  refine W.methodCall_KW (pl:=pl) (thn (he pins s σ H _ I h) fun u s1 ⟨x,H1,I1,rx,a,dx,fs,ex,ea,l,q⟩=>?_) ht
  subst ex
  obtain rfl:u=Value.ref a:=rx
  refine fF I1 ea c hm l ?_
  exact W.callWith_K0 (first:=[.ref a]) I1.kIn hm.kp (iT (us:=[.ref a]) (vs:=[.ref a]) F hr hb hd hx I1 (.cons rfl .nil) q)
structure Mk (K:W.Frag) (C f:Addr):Prop where
  makes:W.makesIn K C=true
  init:W.findIn K (.ref C) "__init__"=some (some (.ref f))
  fn:W.isFn K (.ref f)=true
  kp:W.keepIn K (.ref C)=true
theorem sD {pins:List (Addr×Obj)} {σ:St} {H:Hp} {s:Shared} {Q:VK} {us:List Value} {vs:List V} (M:Mk X.K C f) (F:vA X.prog X.w X.K X.mg X.base CX k f fd ps sp) (hr:wU (k+1) X.A) (hb:j3 X.K fd ps ds) (hd:kG dvs ds)
    (hx:yA CX X E) (I:Inv X pins σ H s) (r:kG vs us)
    (h:∀ x dx,H x=none→H dx=none→dx≠x→sp (.ref x :: (vs++dvs)) (upd (upd H dx (.own x)) x (.ins C dx [])) (fun v H2=>v=.non∧Q (.ref x) H2) E) :
    wpAny (model X.prog X.w) X.A (call (.ref C) us) (EP X pins σ Q) X.xe s:=by
  have hq:=h (s.heap.objs.size+1) s.heap.objs.size (I.hok.fresh (Nat.le_succ _)) (I.hok.fresh (Nat.le_refl _)) (Nat.ne_of_lt (Nat.lt_succ_self _))
  have I2:=Inv.made (C:=C) I
  have r2:kG (V.ref (s.heap.objs.size+1) :: (vs++dvs)) (Value.ref (s.heap.objs.size+1) :: (us++ds)):=.cons rfl (r.append hd)
  have hl:(Value.ref (s.heap.objs.size+1) :: us++ds).length=ps.length:=by
    have e:=r2.length
    rw [F.len _ _ _ _ hq] at e
    exact e.symm
  refine wpAny_call (o9 (f:=f) I.kIn M.makes M.init (beq_iff_eq.mp M.fn) (codeAny_mono (F.run _ X.stack _ _ ⟨Value.ref (s.heap.objs.size+1) :: us,[]⟩ (Value.ref (s.heap.objs.size+1) :: (us++ds)) _ _ E (hr.make C us [])
    (I2.env0.make C us []) (hb _ (Value.ref (s.heap.objs.size+1) :: us) I2.kIn hl) r2 hq) fun r s' hq'=>?_))
  cases r with
  | error e=>exact hx pins σ _ _ e s' I2 hq'
  | ok fl =>
    cases fl with
    | ret u =>
      obtain ⟨v,H',I3,rv,ev,q3⟩:=I2.after hq'
      subst ev
      exact ⟨rv,⟨V.ref (s.heap.objs.size+1),H',I3,rfl,q3⟩⟩
    | next=>exact False.elim hq'
    | brk=>exact False.elim hq'
    | cont=>exact False.elim hq'
theorem gG (M:Mk X.K C f) (F:vA X.prog X.w X.K X.mg X.base CX k f fd ps sp) (hr:wU (k+1) X.A) (hg:Gl X x) (hm:X.mg x=some (.ref C)) (hb:j3 X.K fd ps ds) (hd:kG dvs ds) (hx:yA CX X E)
    (ha:PA X (e :: es) t) (hdb:(x == ("__debug__":Str))=false:=by decide) (he:starEach (e :: es) X.env=(false,eval e X.env) :: starEach es X.env:=by rfl) (hpl:(backTo pos (starEach es X.env)).any (·.1)=false:=by rfl) :
    PE X (.Call (.Name x p) (e :: es) [] pos) (rE C sp dvs E t):=by
  intro pins s σ H Q I h
  refine wpAny_Call_Name_kw (dI I hg hm ?_ hdb)
  refine W.callWith_K (h₀:=X.base) I.ok.mod.kin M.kp (thn (ha pos pins s σ H _ I h) fun us s1 ⟨vs,H1,I1,r,q⟩=>⟨I1.kIn,?_⟩) he hpl
  exact sD M F hr hb hd hx I1 r q
theorem jjK (M:Mk X.K C f) (F:vA X.prog X.w X.K X.mg X.base CX k f fd ps sp) (hr:wU (k+1) X.A) (hg:Gl X x) (hm:X.mg x=some (.ref C)) (hb:j3 X.K fd ps ds) (hd:kG dvs ds) (hx:yA CX X E)
    (hdb:(x == ("__debug__":Str))=false:=by decide):PE X (.Call (.Name x p) [] [] pos) (rE C sp dvs E kN):=by
  intro pins s σ H Q I h
  refine wpAny_Call_Name_kw (dI I hg hm ?_ hdb)
  exact W.callWith_K0 I.kIn M.kp (sD (us:=[]) M F hr hb hd hx I .nil h)
end
structure jD (N P:List Str) (sc:Scope):Prop where
  kind:sc.kind=.function
  co:sc.isCoroutine=false
  gen:sc.isGenerator=false
  nd:N.Nodup
  pre:N.take P.length=P
  par:∀ x∈P,sc.names.lookup x=some .local∨sc.names.lookup x=some .cell
  nofree:∀ y∈sc.names,y.2≠.free
theorem b9 {kindOf:Str→Option NameKind} {x:Str}:∀ {binds:List (Str×Value)} {m:Str→Option Value},(∀ v,(x,v)∉binds)→bindL kindOf binds m x=m x
  | [],_,_=>rfl
  | (n,v) :: r,m,h=>by
    unfold bindL
    rw [b9 fun w hw=>h w (List.mem_cons_of_mem _ hw)]
    split
    · have:x≠n:=by rintro rfl;exact h v List.mem_cons_self
      simp [this]
    · rfl
theorem bU {kindOf:Str→Option NameKind} {x:Str}:∀ {binds:List (Str×Value)} {m:Str→Option Value},(∀ v,(x,v)∉binds)→bindC kindOf binds m x=m x
  | [],_,_=>rfl
  | (n,v) :: r,m,h=>by
    unfold bindC
    rw [bU fun w hw=>h w (List.mem_cons_of_mem _ hw)]
    split
    · rfl
    · have:x≠n:=by rintro rfl;exact h v List.mem_cons_self
      simp [this]
theorem b8 {kindOf:Str→Option NameKind} {x:Str} {v:Value}:∀ {P:List Str} {vs:List Value} {i:Nat} {m:Str→Option Value},P.Nodup→P[i]? = some x→vs[i]? = some v→kindOf x=some .local →
    bindL kindOf (P.zip vs) m x=some v
  | [],_,_,_,_,h,_,_=>by simp at h
  | _ :: _,[],_,_,_,_,h,_=>by simp at h
  | p :: P,w :: vs,0,m,nd,h1,h2,hk=>by
    simp at h1 h2;subst h1;subst h2
    show bindL kindOf ((p,w) :: P.zip vs) m p=_
    unfold bindL
    rw [b9 fun v hv=>(List.nodup_cons.mp nd).1 (List.of_mem_zip hv).1,if_pos hk]
    simp
  | p :: P,w :: vs,i+1,m,nd,h1,h2,hk=>by
    show bindL kindOf ((p,w) :: P.zip vs) m x=_
    unfold bindL
    exact b8 (i:=i) (List.nodup_cons.mp nd).2 (by simpa using h1) (by simpa using h2) hk
theorem bO {kindOf:Str→Option NameKind} {x:Str} {v:Value}:∀ {P:List Str} {vs:List Value} {i:Nat} {m:Str→Option Value},P.Nodup→P[i]? = some x→vs[i]? = some v→kindOf x≠some .local →
    bindC kindOf (P.zip vs) m x=some v
  | [],_,_,_,_,h,_,_=>by simp at h
  | _ :: _,[],_,_,_,_,h,_=>by simp at h
  | p :: P,w :: vs,0,m,nd,h1,h2,hk=>by
    simp at h1 h2;subst h1;subst h2
    show bindC kindOf ((p,w) :: P.zip vs) m p=_
    unfold bindC
    rw [bU fun v hv=>(List.nodup_cons.mp nd).1 (List.of_mem_zip hv).1,if_neg hk]
    simp
  | p :: P,w :: vs,i+1,m,nd,h1,h2,hk=>by
    show bindC kindOf ((p,w) :: P.zip vs) m x=_
    unfold bindC
    exact bO (i:=i) (List.nodup_cons.mp nd).2 (by simpa using h1) (by simpa using h2) hk
def j7 (N:List Str) (vs:List V):St:=vs.map some++List.replicate (N.length - vs.length) none
def jkX (CX:CXT) (P:Program) (w:World) (K:W.Frag) (mg:Str→Option Value) (base:Heap) (N:List Str) (qual:Str) (scope:Scope) (f:Addr) (cd:Value) (A:Around) (outer:List Env) (s:Shared) (H:Hp) (E:XK):Cx where
  prog:=P
  w:=w
  K:=K
  mg:=mg
  base:=base
  A:=A.deeper (envOfC qual scope s.heap.objs.size f cd)
  N:=N
  s_0:=s
  H_0:=H
  env:=envOfC qual scope s.heap.objs.size f cd
  outer:=outer
  stack:=envOfC qual scope s.heap.objs.size f cd :: outer
  ex:=[]
  calm:=true
  fn:=fun _=>true
  pn:=[]
  xe:=fun e s'=>wpAny (model P w) (A.deeper (envOfC qual scope s.heap.objs.size f cd)) (leaving (envOfC qual scope s.heap.objs.size f cd) e) (fun _ s''=>CX outer H s E e s'') (fun e' s''=>CX outer H s E e' s'') s'
theorem nV {sc:Scope} {n:Nat} {x:Str} (h:sc.names.lookup x=some .cell):∃ c,(cellsFrom n sc.names []).lookup x=some c:=by
  have q:=W.cellsFrom_some sc.names n [] (.inl h)
  exact Option.isSome_iff_exists.mp q
theorem eZ {CX:CXT} {P:Program} {w:World} {K:W.Frag} {mg:Str→Option Value} {base:Heap} {N ps:List Str} {qual:Str} {scope:Scope} {f:Addr} {cd:Value} {A:Around} {outer:List Env} {s s1:Shared} {H:Hp} {E:XK} {us:List Value} {vs:List V}
    (S:jD N ps scope) (hd:A.handled=none) (e0:jz6 P w K mg base A outer s H) (hl:vs.length=ps.length) (r:kG vs us)
    (x:InCallC s s.heap.objs.size (bindL (envOfC qual scope s.heap.objs.size f cd).kindOf (ps.zip us) fun _=>none) (cellsFrom (s.heap.objs.size+1) scope.names []) (bindC (envOfC qual scope s.heap.objs.size f cd).kindOf (ps.zip us) fun _=>none) s1) :
    Inv (jkX CX P w K mg base N qual scope f cd A outer s H E) [] (j7 N vs) H s1:=by
  have hpl:ps.length≤N.length:=by have:=congrArg List.length S.pre;rw [List.length_take] at this;omega
  obtain ⟨h1,tk,rfl,hk⟩:=x.done
  have noA:∀ b:Addr,b∉(jkX CX P w K mg base N qual scope f cd A outer s H E).ex:=fun b z=>absurd (show b∈([]:List Addr) from z) (by simp)
  refine ⟨⟨e0.mod,S.kind,rfl,rfl,Nat.le_refl _,fun y z c h1 h2=>?_,fun y hy=>?_,fun y c _ h=>?_,fun _=>hd,Around.frames_deeper e0.frames,.inr ⟨rfl,rfl⟩,fun b z=>absurd z (noA b),e0.bs,e0.bsz,fun b _ _=>noA b,fun b z=>absurd z (noA b),e0.funs,e0.frf⟩,
    rfl,e0.bare,Un.kept hk,⟨_,x.toInCall.ns,fun i y v h1 h2 h3=>?_⟩,fun y c h=>⟨_,x.cell y c h⟩,e0.hok.fresh (Nat.le_refl _),fun y c h=>?_,fun p hp=>absurd (show p∈([]:List (Addr×Obj)) from hp) (by simp),e0.hok.kept hk,?_⟩
  · exact name_of_addr x.apart (PySem.mem_of_lookup h1) (PySem.mem_of_lookup h2)
  · have hy:scope.names.lookup y=some .cell∨scope.names.lookup y=some .free:=hy
    rcases hy with hy | hy
    · exact nV hy
    · exact absurd rfl (S.nofree _ (PySem.mem_of_lookup hy))
  · exact Nat.le_of_lt (x.above y c (PySem.mem_of_lookup h))
  · have hi:i < vs.length:=by
      unfold j7 at h2
      by_cases hi:i < vs.length
      · exact hi
      · rw [List.getElem?_append_right (by simpa using hi)] at h2
        rw [List.getElem?_replicate] at h2
        split at h2 <;> cases h2
    have ha:vs[i]? = some v:=by
      unfold j7 at h2
      rw [List.getElem?_append_left (by simpa using hi),List.getElem?_map] at h2
      cases e:vs[i]? with
      | none=>rw [e] at h2;cases h2
      | some a=>rw [e] at h2;cases h2;rfl
    obtain ⟨u,hu,rv⟩:=r.get ha
    have hp:ps[i]? = some y:=by
      rw [← S.pre,List.getElem?_take_of_lt (by omega)];exact h1
    have ndP:ps.Nodup:=by rw [← S.pre];exact S.nd.sublist (List.take_sublist _ _)
    refine ⟨u,rv,?_⟩
    rcases S.par y (List.mem_of_getElem? hp) with k | k
    · exact .inl ⟨k,b8 ndP hp hu k⟩
    · obtain ⟨c,e⟩:=nV (n:=s.heap.objs.size+1) k
      refine .inr ⟨.inl k,c,e,?_⟩
      have q:=x.cell y c e
      rw [bO ndP hp hu (by show scope.names.lookup y≠_;rw [k];decide)] at q
      exact q
  · exact e0.hok.fresh (Nat.le_of_lt (x.above y c (PySem.mem_of_lookup h)))
  · unfold j7
    show _=N.length
    rw [List.length_append,List.length_map,List.length_replicate]
    omega
theorem jgQ {CX:CXT} {P:Program} {w:World} {K:W.Frag} {mg:Str→Option Value} {base:Heap} {k:Nat} {f:Addr} {name qual:Str} {params:Arguments} {body:List Stmt} {scope:Scope} {dV kV doc pm cdv ct oc:Value} {an od:Option Addr}
    {osl:Array (Option Value)} {N ps:List Str} {sp:Sp} (lk:K.lookup f=some ⟨oc,od,.func (W.fnOf name qual params body scope dV kV doc pm an cdv ct),osl⟩) (hcd:W.codeIn K cdv qual=true) (S:jD N ps scope)
    (len:∀ vs H Q E,sp vs H Q E→vs.length=ps.length)
    (hbody:∀ (A:Around) (outer:List Env) (s:Shared) (H:Hp) (vs:List V) (Q:VK) (E:XK),wU k (A.deeper (envOfC qual scope s.heap.objs.size f cdv))→sp vs H Q E →
      ∃ t,PSs (jkX CX P w K mg base N qual scope f cdv A outer s H E) body t∧t { nx:=fun _ H'=>Q .non H',rt:=Q } (j7 N vs) H) :
    vA P w K mg base CX (k+1) f (W.fnOf name qual params body scope dV kV doc pm an cdv ct) ps sp:=by
  refine ⟨len,fun A outer s H args us vs Q E hr e0 hb r hsp=>?_⟩
  have hl:=len _ _ _ _ hsp
  have KX:K.In s.heap:=e0.mod.kin.keeps fun b o e=>(e0.bs b o e).1
  have lim:s.heap.NoLimit:=e0.mod.nolimit.keeps fun b o e=>(e0.bs b o e).1
  have hkind:∀ y∈ps.zip us,scope.names.lookup y.1=some .local∨(scope.names.lookup y.1=some .cell∧((cellsFrom (s.heap.objs.size+1) scope.names []).lookup y.1).isSome=true):=fun ⟨n,v⟩ hy=>by
    rcases S.par n (List.of_mem_zip hy).1 with q | q
    · exact .inl q
    · exact .inr ⟨q,W.cellsFrom_some _ _ _ (.inl q)⟩
  refine codeAny_call_function hr.depth (KX _ _ lk) rfl S.co S.gen rfl (W.codeRec_of KX hcd) (hb _ _ _ _ ?_)
  refine wpAny_newFunctionEnv_cells S.kind hkind fun env he s1 x=>?_
  subst he
  refine ⟨lim.keeps x.toInCall.keep,codeAny_func ?_⟩
  obtain ⟨t,ht,hq⟩:=hbody A outer s H vs Q E (hr.deeper _) hsp
  have I:Inv (jkX CX P w K mg base N qual scope f cdv A outer s H E) [] (j7 N vs) H s1:=eZ S hr.hd e0 hl r x
  refine wpAny_mono (ht [] s1 (j7 N vs) H _ I hq) (fun fl s' hs=>?_) fun e s' hs=>hs
  have fin:∀ {σ':St} {H':Hp} {v:V} {u:Value},Inv (jkX CX P w K mg base N qual scope f cdv A outer s H E) [] σ' H' s'→kI v u→Q v H'→CE outer P w H s Q u s' :=
    fun {σ' H' v u} J rv q=>⟨v,H',J.os,J.bare,J.base,J.hok,rv,q⟩
  cases fl with
  | ret u =>
    obtain ⟨v,σ',H',J,rv,q⟩:=hs
    exact fin J rv q
  | next =>
    obtain ⟨σ',H',J,q⟩:=hs
    exact fin (v:=V.non) (u:=Value.none) J rfl q
  | brk =>
    obtain ⟨_,_,_,q⟩:=hs
    exact False.elim q
  | cont =>
    obtain ⟨_,_,_,q⟩:=hs
    exact False.elim q
section
variable {X:Cx} {x:Str} {p pos:Pos} {e:Expr} {es:List Expr} {t:TA} {id T:String} {r:List V→Hp→VK→Prop}
def tCB (r:List V→Hp→VK→Prop) (t:TA):TE:=fun σ H Q=>t σ H fun vs H1=>r vs H1 Q
theorem jL (hc:uU X (.builtin id) r) (hg:Gl X x) (hm:X.mg x=none) (hv:bootBuiltins x=some (.builtin id)) (ha:PA X (e :: es) t) (hn:x≠"__name__":=by decide) (hdb:(x == ("__debug__":Str))=false:=by decide)
    (he:starEach (e :: es) X.env=(false,eval e X.env) :: starEach es X.env:=by rfl) (hpl:(backTo pos (starEach es X.env)).any (·.1)=false:=by rfl):PE X (.Call (.Name x p) (e :: es) [] pos) (tCB r t):=by
  intro pins s σ H Q I h
  refine wpAny_Call_Name_kw (wS I hg hm hv ?_ hn hdb)
  exact PyProof.Rows.callWith_builtin1 (thn (ha pos pins s σ H _ I h) fun us s1 ⟨vs,H1,I1,r1,q1⟩=>hc pins s1 σ H1 vs us Q I1 r1 q1) he hpl
theorem gY (hc:uU X (.type T) r) (hg:Gl X x) (hm:X.mg x=none) (hv:bootBuiltins x=some (.type T)) (ha:PA X (e :: es) t) (hn:x≠"__name__":=by decide) (hdb:(x == ("__debug__":Str))=false:=by decide)
    (he:starEach (e :: es) X.env=(false,eval e X.env) :: starEach es X.env:=by rfl) (hpl:(backTo pos (starEach es X.env)).any (·.1)=false:=by rfl):PE X (.Call (.Name x p) (e :: es) [] pos) (tCB r t):=by
  intro pins s σ H Q I h
  refine wpAny_Call_Name_kw (wS I hg hm hv ?_ hn hdb)
  exact PyProof.Rows.callWith_type1 (thn (ha pos pins s σ H _ I h) fun us s1 ⟨vs,H1,I1,r1,q1⟩=>hc pins s1 σ H1 vs us Q I1 r1 q1) he hpl
end
end L2
namespace HT
open PySem PyProof.Rows
section
open PySem.SeqAt
open PySem.AutoSeq1 (wpAny_loadPart')
open PySem.MeetsSeq PySem.MeetsSeq2 PySem.MeetsSeq3
end
section
variable {prog:Program} {w:World} {A:Around} {E:Value→Shared→Prop} {s:Shared}
theorem jzY {t b:Addr} {vs ws:List Value} {Q:Value→Shared→Prop} (ht:IsTup s.heap t vs.toArray) (hb:IsTup s.heap b ws.toArray) (hv:vs≠[])
    (h1:ws=[]→Q (.ref t) s) (h2:ws≠[]→Q (.ref s.heap.objs.size) { s with heap:=s.heap.push { cls:=.type "tuple",data:=.seq (vs++ws).toArray } })
    (hsz:vs.length+ws.length≤sizeLine):wpAny (model prog w) A (binaryOp .Add (.ref t) (.ref b)) Q E s:=by
  obtain ⟨⟨cls,dd,data,sl⟩,ho,hc,n,hd⟩:=id ht
  obtain ⟨⟨cls2,dd2,data2,sl2⟩,ho2,hc2,n2,hd2⟩:=id hb
  simp only at hc hd hc2 hd2
  subst hc hd hc2 hd2
  have e:vs.toArray++ws.toArray=(vs++ws).toArray:=by simp
  by_cases hw:ws=[]
  · exact concat_meets ⟨_,ho,rfl⟩ ⟨_,ho2,rfl⟩ noFill_tuple_add seq_tuple_add PySem.F.slot_tuple_add PySem.F.entry_tuple_add (PySem.F.args_tuple_add_2 _ _)
      (tuple_addW1 t b vs.toArray ws.toArray n n2 dd dd2 sl sl2 (by simpa using hv) (by simp [hw])) ⟨ho,ho2,h1 hw⟩
  · refine concat_meets ⟨_,ho,rfl⟩ ⟨_,ho2,rfl⟩ noFill_tuple_add seq_tuple_add PySem.F.slot_tuple_add PySem.F.entry_tuple_add (PySem.F.args_tuple_add_2 _ _)
      (tuple_addW2 t b vs.toArray ws.toArray n n2 dd dd2 sl sl2 (by simpa using hv) (by simpa using hw) (by rw [List.size_toArray,List.size_toArray];exact hsz)) ⟨ho,ho2,?_⟩
    rw [e]
    exact h2 hw
def sIx (n d:Nat):Option Int→Nat
  | none=>d
  | some v=>if v < 0 then (v+(n:Int)).toNat else min v.toNat n
theorem gC (n d k:Nat):sIx n d (some (k:Int))=min k n:=by
  show (if (k:Int) < 0 then ((k:Int)+(n:Int)).toNat else min (k:Int).toNat n)=min k n
  rw [if_neg (by omega),Int.toNat_natCast]
end
end HT
namespace L2
open PySem PySem.Spec PyProof.Rows
abbrev TO:=St→Hp→(Option Int→Hp→Prop)→Prop
def PO (X:Cx) (e:Option Expr) (t:TO):Prop :=
  ∀ (pins:List (Addr×Obj)) (s:Shared) (σ:St) (H:Hp) (Q:Option Int→Hp→Prop),Inv X pins σ H s→t σ H Q →
    wpAny (model X.prog X.w) X.A (evalPart e X.env) (fun u s'=>∃ o H',Inv X pins σ H' s'∧IsPart u o∧Q o H') X.xe s
def yN:TO:=fun _ H Q=>Q none H
def rO (t:TE):TO:=fun σ H Q=>t σ H fun x H1=>∃ i,x=.int i∧Q (some i) H1
section
variable {X:Cx} {e:Expr} {te:TE} {lo hi:Option Expr} {tl th:TO} {pos p2:Pos}
theorem iC:PO X none yN:=by
  intro pins s σ H Q I h
  rw [evalPart_none]
  exact wpAny_pure ⟨none,H,I,.none,h⟩
theorem uZ (h:PE X e te):PO X (some e) (rO te):=by
  intro pins s σ H Q I hw
  rw [evalPart_some]
  refine thn (h pins s σ H _ I hw) fun u s1 ⟨x,H1,I1,r1,q1⟩=>?_
  obtain ⟨i,rfl,q⟩:=q1
  obtain ⟨t,rfl⟩:=r1
  exact ⟨some i,H1,I1,.int i t,q⟩
def SlR (X:Cx) (r:V→Option Int→Option Int→Hp→VK→Prop):Prop :=
  ∀ (pins:List (Addr×Obj)) (s:Shared) (σ:St) (H:Hp) (x:V) (v vl vu:Value) (lo hi:Option Int) (sl:Addr) (Q:VK),Inv X pins σ H s→kI x v→s.heap.IsSliceOf sl vl vu .none→IsPart vl lo→IsPart vu hi→r x lo hi H Q →
    ∃ T id,typeLookup (.type T) "__getitem__"=pure (some (.builtin id))∧s.TypeIs v T∧wpAny (model X.prog X.w) X.A (getItem v (.ref sl)) (EP X pins σ Q) X.xe s
def tSl (r:V→Option Int→Option Int→Hp→VK→Prop) (te:TE) (tl th:TO):TE:=fun σ H Q=>te σ H fun x H1=>tl σ H1 fun l H2=>th σ H2 fun u H3=>r x l u H3 Q
theorem qR {r:V→Option Int→Option Int→Hp→VK→Prop} (hr:SlR X r) (he:PE X e te) (hl:PO X lo tl) (hu:PO X hi th):PE X (.Subscript e (.Slice lo hi none p2) pos) (tSl r te tl th):=by
  intro pins s σ H Q I h
  refine Subscript_ (thn (he pins s σ H _ I h) fun v s1 ⟨x,H1,I1,r1,q1⟩=>?_)
  refine wpAny_Slice (thn (hl pins s1 σ H1 _ I1 q1) fun vl s2 ⟨l,H2,I2,pl,q2⟩=>thn (hu pins s2 σ H2 _ I2 q2) fun vu s3 ⟨u,H3,I3,pu,q3⟩=>?_)
  rw [evalPart_none]
  refine wpAny_pure ?_
  have I4:Inv X pins σ H3 { s3 with heap:=s3.heap.push { cls:=.type "slice",data:=.fields #[vl,vu,.none] } }:=I3.kept (t':=s3.toks) fun b ob q=>Heap.get?_push_of_some _ q
  obtain ⟨T,id,hT,ht,hg⟩:=hr pins { s3 with heap:=s3.heap.push { cls:=.type "slice",data:=.fields #[vl,vu,.none] } } σ H3 x v vl vu l u s3.heap.objs.size Q I4 r1 (Heap.IsSliceOf.new ..) pl pu q3
  show wpAny (model X.prog X.w) X.A (subscriptTail e (.Slice lo hi none p2) v (.ref s3.heap.objs.size)) (EP X pins σ Q) X.xe { s3 with heap:=s3.heap.push { cls:=.type "slice",data:=.fields #[vl,vu,.none] } }
  exact tail_any (ops:=[.ref s3.heap.objs.size,v]) ht hT hg (by with_unfolding_all rfl)
def lM (xs:List V) (lo hi:Option Int):List V:=(xs.drop (HT.sIx xs.length 0 lo)).take (HT.sIx xs.length xs.length hi - HT.sIx xs.length 0 lo)
theorem pN (xs:List V) (lo hi:Option Int):(lM xs lo hi).length≤xs.length:=by
  unfold lM
  rw [List.length_take,List.length_drop]
  omega
def jd6 (K:W.Frag):R2:=fun x y H Q=>∃ a b xs ys,x=.ref a∧y=.ref b∧SqT K H a xs∧SqT K H b ys∧xs≠[]∧xs.length+ys.length≤sizeLine ∧
  (ys=[]→Q (.ref a) H)∧(ys≠[]→∀ p,H p=none→Q (.ref p) (upd H p (.tup (xs++ys))))
theorem kG.nil_iff {xs:List V} {us:List Value} (r:kG xs us):us=[]↔xs=[]:=by
  cases r with
  | nil=>simp
  | cons _ _=>simp
theorem jwX:OpR X (binaryOp .Add) (jd6 X.K):=by
  intro pins s σ H x y v u Q I rx ry h
  obtain ⟨a,b,xs,ys,rfl,rfl,ha,hb,hx,hz,q1,q2⟩:=h
  cases rx
  cases ry
  obtain ⟨its,r1,p1,_⟩:=I.tuple ha
  obtain ⟨its2,r2,p2,_⟩:=I.tuple hb
  refine HT.jzY p1 p2 (fun z=>hx (r1.nil_iff.mp z)) (fun z=>⟨.ref a,H,I,rfl,q1 (r2.nil_iff.mp z)⟩) (fun z=>?_) (by rw [← r1.length,← r2.length];exact hz)
  refine ⟨.ref s.heap.objs.size,_,I.laid (t':=s.toks) (o:=.tup (xs++ys)) (fun b ob q=>Heap.get?_push_of_some _ q) (Nat.le_refl _) ?_,rfl,q2 (fun w=>z (r2.nil_iff.mpr w)) _ (I.hok.fresh (Nat.le_refl _))⟩
  exact ⟨by rw [List.length_append];exact hz,_,r1.append r2,IsTup.new _ _⟩
end
def ixN (n:Nat) (i:Int):Option Nat:=if 0≤i then (if i < n then some i.toNat else none) else if -(n:Int)≤i then some (i+n).toNat else none
def atI {α:Type} (xs:List α) (i:Int):Option α:=(ixN xs.length i).bind fun j=>xs[j]?
theorem eW {n:Nat} {i:Int} {j:Nat} (h:ixN n i=some j):seqIndex? i n=some j∧j < n∧-(n:Int)≤i∧i < n:=by
  unfold ixN at h
  by_cases h0:0≤i
  · rw [if_pos h0] at h
    by_cases h1:i < n
    · rw [if_pos h1] at h
      have e:i.toNat=j:=Option.some.inj h
      exact ⟨by rw [seqIndex_of h0 h1,e],by omega,by omega,h1⟩
    · rw [if_neg h1] at h;cases h
  · rw [if_neg h0] at h
    by_cases h1:-(n:Int)≤i
    · rw [if_pos h1] at h
      have e:(i+n).toNat=j:=Option.some.inj h
      exact ⟨by rw [seqIndex_neg (by omega) h1,e],by omega,h1,by omega⟩
    · rw [if_neg h1] at h;cases h
theorem l3 {α:Type} {xs:List α} {i:Int} {v:α} (h:atI xs i=some v):∃ j,seqIndex? i xs.length=some j∧xs[j]? = some v∧j < xs.length∧-(xs.length:Int)≤i∧i < xs.length:=by
  unfold atI at h
  cases e:ixN xs.length i with
  | none=>rw [e] at h;cases h
  | some j =>
    rw [e] at h
    obtain ⟨h1,h2,h3,h4⟩:=eW e
    exact ⟨j,h1,h,h2,h3,h4⟩
def jz8 (b:Expr):Prop:=∀ o i,subscripted b false o i=operate [o,i] (getItem o i)
def IxR (X:Cx) (r:R2):Prop :=
  ∀ (value slice:Expr) (pins:List (Addr×Obj)) (s:Shared) (σ:St) (H:Hp) (x y:V) (v u:Value) (Q:VK),Inv X pins σ H s→kI x v→kI y u→r x y H Q →
    subscripted slice false v u=operate [v,u] (getItem v u)→wpAny (model X.prog X.w) X.A (subscriptTail value slice v u) (EP X pins σ Q) X.xe s
def MtR (X:Cx) (id:String) (r:V→List V→Hp→VK→Prop):Prop :=
  ∀ (pins:List (Addr×Obj)) (s:Shared) (σ:St) (H:Hp) (x:V) (xs:List V) (v:Value) (us:List Value) (Q:VK),Inv X pins σ H s→kI x v→kG xs us→r x xs H Q →
    wpAny (model X.prog X.w) X.A (call (.builtin id) (v :: us)) (EP X pins σ Q) X.xe s
section
variable {X:Cx} {a b:Expr} {ta tb:TE} {pos:Pos}
theorem vY {r:R2} (hr:IxR X r) (ha:PE X a ta) (hb:PE X b tb) (hs:jz8 b):PE X (.Subscript a b pos) (tOp r ta tb):=by
  intro pins s σ H Q I h
  exact Subscript_ (jpV ha hb I h fun v u s2 x y H2 I2 rx ry q=>hr a b pins s2 σ H2 x y v u Q I2 rx ry q (hs _ _))
def fZ (K:W.Frag):R2:=fun x y H Q=>∃ p xs i v,x=.ref p∧y=.int i∧SqL K H p xs∧atI xs i=some v∧Q v H
def jp4 (K:W.Frag):R2:=fun x y H Q=>∃ p xs i v,x=.ref p∧y=.int i∧SqT K H p xs∧atI xs i=some v∧Q v H
theorem jw7:IxR X (fZ X.K):=by
  intro value slice pins s σ H x y v u Q I rx ry h hs
  obtain ⟨p,xs,i,z,rfl,rfl,hq,he,q⟩:=h
  cases rx
  obtain ⟨t,rfl⟩:=ry
  obtain ⟨its,r,pl,hz⟩:=I.list hq
  obtain ⟨j,h1,h2,h3,h4,h5⟩:=l3 he
  obtain ⟨w,ew,rw'⟩:=r.get h2
  have hl:=r.length
  have hn:=nL
  have fin:EP X pins σ Q w s:=⟨z,H,I,rw',q⟩
  by_cases h0:0≤i
  · have hj:i.toNat=j:=by
      rw [seqIndex_of h0 h5] at h1
      exact Option.some.inj h1
    exact item_listR pl.isList h0 (by omega) (by rw [hj];simpa using ew) fin hs
  · have hj:(i+(its.toArray.size:Int)).toNat=j:=by
      rw [seqIndex_neg (by omega) h4] at h1
      rw [List.size_toArray,← hl]
      exact Option.some.inj h1
    exact subscriptTail_builtinR (x:=w) pl.isList.typeIs slot_list_getitem.lookup
      (wpAny_getItem_list_neg (Q:=fun r s'=>r=w∧EP X pins σ Q r s') pl.isList (by omega) (by rw [List.size_toArray] <;> omega) (by omega) (by rw [hj];simpa using ew) ⟨rfl,fin⟩) hs
theorem jh1:IxR X (jp4 X.K):=by
  intro value slice pins s σ H x y v u Q I rx ry h hs
  obtain ⟨p,xs,i,z,rfl,rfl,hq,he,q⟩:=h
  cases rx
  obtain ⟨t,rfl⟩:=ry
  obtain ⟨its,r,pl,hz⟩:=I.tuple hq
  obtain ⟨j,h1,h2,h3,h4,h5⟩:=l3 he
  obtain ⟨w,ew,rw'⟩:=r.get h2
  have hl:=r.length
  have hn:=nL
  have fin:EP X pins σ Q w s:=⟨z,H,I,rw',q⟩
  exact subscriptTail_builtinR (x:=w) pl.typeIs slot_tuple_getitem.lookup
    (getItem_tuple (j:=j) (Q:=fun r s'=>r=w∧EP X pins σ Q r s') pl (by omega) (by omega) (by rw [List.size_toArray,← hl];exact h1) (by simpa using ew) ⟨rfl,fin⟩) hs
theorem rP (lo hi:Option Int) (n:Nat):(sliceBounds lo hi none n).1=((HT.sIx n 0 lo:Nat):Int)∧(sliceBounds lo hi none n).2.1=((HT.sIx n n hi:Nat):Int)∧(sliceBounds lo hi none n).2.2=1:=by
  refine ⟨?_,?_,rfl⟩
  · cases lo with
    | none=>simp [sliceBounds,HT.sIx]
    | some i =>
      simp only [sliceBounds,HT.sIx,Option.getD_none,show (1:Int) > 0 by decide,if_true]
      by_cases h:i < 0
      · simp only [h,if_true] <;> omega
      · simp only [h,if_false] <;> omega
  · cases hi with
    | none=>simp [sliceBounds,HT.sIx]
    | some i =>
      simp only [sliceBounds,HT.sIx,Option.getD_none,show (1:Int) > 0 by decide,if_true]
      by_cases h:i < 0
      · simp only [h,if_true] <;> omega
      · simp only [h,if_false] <;> omega
theorem bH (its:List Value) (lo hi:Option Int):slicePick its.toArray lo hi none=((its.drop (HT.sIx its.length 0 lo)).take (HT.sIx its.length its.length hi - HT.sIx its.length 0 lo)).toArray:=by
  obtain ⟨h1,h2,h3⟩:=rP lo hi its.toArray.size
  unfold slicePick
  rw [h1,h2,h3]
  simp only [sliceRange_one,pick_run,List.size_toArray] <;> rfl
def jvY (K:W.Frag):V→Option Int→Option Int→Hp→VK→Prop:=fun x lo hi H Q=>∃ a xs,x=.ref a∧SqL K H a xs∧∀ p,H p=none→Q (.ref p) (upd H p (.lst (lM xs lo hi)))
theorem gM:SlR X (jvY X.K):=by
  intro pins s σ H x v vl vu lo hi sl Q I rx hs pl pu h
  obtain ⟨a,xs,rfl,hx,q⟩:=h
  cases rx
  obtain ⟨its,r,ht,hz⟩:=I.list hx
  have hlen:=r.length
  refine ⟨"list",_,slot_list_getitem.lookup,ht.isList.typeIs,?_⟩
  refine wpAny_getItem_list_slice ht.isList hs pl pu .none (by simp) ?_ (by rw [List.size_toArray] <;> omega)
  rw [bH,← hlen]
  refine ⟨.ref s.heap.objs.size,_,I.laid (t':=s.toks) (o:=.lst (lM xs lo hi)) (fun b ob q=>Heap.get?_push_of_some _ q) (Nat.le_refl _) ?_,rfl,q _ (I.hok.fresh (Nat.le_refl _))⟩
  exact ⟨Nat.le_trans (pN xs lo hi) hz,_,0,(r.drop (HT.sIx xs.length 0 lo)).take (HT.sIx xs.length xs.length hi - HT.sIx xs.length 0 lo),Heap.get?_push_size _ rfl⟩
def hW:V→Bool
  | .non=>true
  | .bl _=>true
  | .int _=>true
  | .str _=>true
  | _=>false
def eqV:V→V→Bool
  | .non,.non=>true
  | .bl a,.bl b=>a == b
  | .bl a,.int b=>(if a then 1 else 0) == b
  | .int a,.bl b=>a == (if b then 1 else 0)
  | .int a,.int b=>a == b
  | .str a,.str b=>a == b
  | _,_=>false
theorem jgZ {A:Around} {s:Shared} {y x:V} {u v:Value} (ry:kI y u) (rx:kI x v) (fy:hW y=true) (fx:hW x=true):SeqAt.EqAt A s u v (eqV y x):=by
  cases y with
  | non =>
    cases ry
    cases x with
    | non=>cases rx;exact SeqAt.EqAt.same _
    | bl b=>cases rx;exact SeqAt.EqAt.none_bool b
    | int b=>obtain ⟨t,rfl⟩:=rx;exact SeqAt.EqAt.none_int b t
    | str b=>obtain ⟨t,rfl⟩:=rx;exact SeqAt.EqAt.none_str b t
    | _=>exact absurd (show false=true from fx) Bool.false_ne_true
  | bl a =>
    cases ry
    cases x with
    | non=>cases rx;exact SeqAt.EqAt.bool_none a
    | bl b=>cases rx;exact SeqAt.EqAt.bool_bool a b
    | int b=>obtain ⟨t,rfl⟩:=rx;exact SeqAt.EqAt.bool_int a b t
    | str b=>obtain ⟨t,rfl⟩:=rx;exact SeqAt.EqAt.bool_str a b t
    | _=>exact absurd (show false=true from fx) Bool.false_ne_true
  | int a =>
    obtain ⟨t',rfl⟩:=ry
    cases x with
    | non=>cases rx;exact SeqAt.EqAt.int_none a t'
    | bl b=>cases rx;exact SeqAt.EqAt.int_bool a t' b
    | int b=>obtain ⟨t,rfl⟩:=rx;exact SeqAt.EqAt.int_int a t' b t
    | str b=>obtain ⟨t,rfl⟩:=rx;exact SeqAt.EqAt.int_str a t' b t
    | _=>exact absurd (show false=true from fx) Bool.false_ne_true
  | str a =>
    obtain ⟨t',rfl⟩:=ry
    cases x with
    | non=>cases rx;exact SeqAt.EqAt.str_none a t'
    | bl b=>cases rx;exact SeqAt.EqAt.str_bool a t' b
    | int b=>obtain ⟨t,rfl⟩:=rx;exact SeqAt.EqAt.str_int a t' b t
    | str b=>obtain ⟨t,rfl⟩:=rx;exact SeqAt.EqAt.str_str a t' b t
    | _=>exact absurd (show false=true from fx) Bool.false_ne_true
  | _=>exact absurd (show false=true from fy) Bool.false_ne_true
def eqU (x:V) (u:Value):Bool:=match u with
  | .none=>eqV .non x
  | .bool b=>eqV (.bl b) x
  | .int i _=>eqV (.int i) x
  | .str z _=>eqV (.str z) x
  | _=>false
theorem jv1 {x y:V} {u:Value} (r:kI y u) (f:hW y=true):eqU x u=eqV y x:=by
  cases y with
  | non=>cases r;rfl
  | bl b=>cases r;rfl
  | int i=>obtain ⟨t,rfl⟩:=r;rfl
  | str z=>obtain ⟨t,rfl⟩:=r;rfl
  | _=>exact absurd (show false=true from f) Bool.false_ne_true
theorem xP {x:V}:∀ {xs:List V} {us:List Value},kG xs us→xs.all hW=true→us.any (eqU x)=xs.any fun y=>eqV y x
  | _,_,.nil,_=>rfl
  | y :: xs,u :: us,.cons r t,f=>by
    rw [List.all_cons,Bool.and_eq_true] at f
    rw [List.any_cons,List.any_cons,jv1 r f.1,xP t f.2]
theorem qG {A:Around} {s:Shared} {x:V} {v:Value} (rx:kI x v) (fx:hW x=true):∀ {xs:List V} {us:List Value},kG xs us→xs.all hW=true→∀ u∈us,SeqAt.EqAt A s u v (eqU x u)
  | _,_,.nil,_=>fun u hu=>by cases hu
  | y :: xs,u :: us,.cons r t,f=>fun u' hu=>by
    rw [List.all_cons,Bool.and_eq_true] at f
    rcases List.mem_cons.mp hu with rfl | hu
    · rw [jv1 r f.1];exact jgZ r rx f.1 fx
    · exact qG rx fx t f.2 u' hu
def inV (x:V) (xs:List V):Bool:=xs.any fun y=>eqV y x
def rIn (K:W.Frag) (neg:Bool):R2:=fun x y H Q=>∃ p xs,y=.ref p∧(SqL K H p xs∨SqT K H p xs)∧hW x=true∧xs.all hW=true∧Q (.bl (if neg then !inV x xs else inV x xs)) H
theorem iJ:OpR X (compareOp .In) (rIn X.K false):=by
  intro pins s σ H x y v u Q I rx ry h
  obtain ⟨p,xs,rfl,hq,fx,fs,q⟩:=h
  cases ry
  rcases hq with hq | hq
  · obtain ⟨its,r,pl,hz⟩:=I.list hq
    refine SeqAt.in_listAt (eqU x) pl.isList (fun w hw=>qG rx fx r fs w (by simpa using hw)) ⟨.bl _,H,I,rfl,?_⟩
    rw [show its.toArray.any (eqU x)=its.any (eqU x) by simp,xP r fs]
    exact q
  · obtain ⟨its,r,pl,hz⟩:=I.tuple hq
    refine SeqAt.in_tupleAt (eqU x) pl (fun w hw=>qG rx fx r fs w (by simpa using hw)) ⟨.bl _,H,I,rfl,?_⟩
    rw [show its.toArray.any (eqU x)=its.any (eqU x) by simp,xP r fs]
    exact q
theorem rW:OpR X (compareOp .NotIn) (rIn X.K true):=by
  intro pins s σ H x y v u Q I rx ry h
  obtain ⟨p,xs,rfl,hq,fx,fs,q⟩:=h
  cases ry
  rcases hq with hq | hq
  · obtain ⟨its,r,pl,hz⟩:=I.list hq
    refine SeqAt.notIn_listAt (eqU x) pl.isList (fun w hw=>qG rx fx r fs w (by simpa using hw)) ⟨.bl _,H,I,rfl,?_⟩
    rw [show its.toArray.any (eqU x)=its.any (eqU x) by simp,xP r fs]
    exact q
  · obtain ⟨its,r,pl,hz⟩:=I.tuple hq
    refine SeqAt.notIn_tupleAt (eqU x) pl (fun w hw=>qG rx fx r fs w (by simpa using hw)) ⟨.bl _,H,I,rfl,?_⟩
    rw [show its.toArray.any (eqU x)=its.any (eqU x) by simp,xP r fs]
    exact q
theorem cV:uU X (.builtin "len") (fun xs H Q=>∃ p ys,xs=[.ref p]∧(SqL X.K H p ys∨SqT X.K H p ys)∧Q (.int ys.length) H):=by
  intro pins s σ H xs us Q I r h
  obtain ⟨p,ys,rfl,hq,q⟩:=h
  obtain ⟨u,rfl,rx⟩:=oX r
  cases rx
  have hn:=nL
  rcases hq with hq | hq
  · obtain ⟨its,r',pl,hz⟩:=I.list hq
    have hlen:=r'.length
    exact Calls.call_len_list pl.isList (by simp only [List.size_toArray] <;> omega) ⟨.int ys.length,H,I.tok _,⟨s.toks+1,by rw [List.size_toArray,hlen]⟩,q⟩
  · obtain ⟨its,r',pl,hz⟩:=I.tuple hq
    have hlen:=r'.length
    exact len_tuple pl (by simp only [List.size_toArray] <;> omega) ⟨.int ys.length,H,I.tok _,⟨s.toks+1,by rw [List.size_toArray,hlen]⟩,q⟩
theorem dM:uU X (.type "tuple") (fun xs H Q=>∃ p ys,xs=[.ref p]∧((SqL X.K H p ys∧∀ l,H l=none→Q (.ref l) (upd H l (.tup ys)))∨(SqT X.K H p ys∧Q (.ref p) H))):=by
  intro pins s σ H xs us Q I r h
  obtain ⟨p,ys,rfl,h⟩:=h
  obtain ⟨u,rfl,rx⟩:=oX r
  cases rx
  rcases h with ⟨hq,q⟩ | ⟨hq,q⟩
  · obtain ⟨its,r',pl,hz⟩:=I.list hq
    have hlen:=r'.length
    refine call_tuple_list pl.isList (fun h' kp=>?_) (by simp only [List.size_toArray] <;> omega)
    have I1:Inv X pins σ H { s with heap:=h' }:=I.kept (t':=s.toks) kp
    have I2:Inv X pins σ (upd H h'.objs.size (.tup ys)) { s with heap:=h'.push { cls:=.type "tuple",data:=.seq its.toArray } } :=
      I1.laid (t':=s.toks) (fun b o e=>Heap.get?_push_of_some _ e) (Nat.le_refl _) (show kS X.prog X.w _ _ _ (.tup ys) from ⟨hz,its,r',IsTup.new _ _⟩)
    exact ⟨.ref h'.objs.size,_,I2,rfl,q _ (I1.hok.fresh (Nat.le_refl _))⟩
  · obtain ⟨its,r',pl,hz⟩:=I.tuple hq
    exact call_tuple_same pl ⟨.ref p,H,I,rfl,q⟩
def tyV (K:W.Frag) (T:String) (x:V) (H:Hp):Prop:=match x with
  | .str _=>T="str"
  | .int _=>T="int"
  | .ref p=>(T="list"∧∃ xs,SqL K H p xs)∨(T="tuple"∧∃ o,K.lookup p=some o∧o.cls=.type "tuple"∧o.dict=none) ∨
      (T="dict"∧((∃ kvs,H p=some (.dK kvs))∨∃ kvs,H p=some (.dT kvs)))∨(T="set"∧∃ S n,H p=some (.set S n))
  | _=>False
theorem jz3 {pins:List (Addr×Obj)} {σ:St} {H:Hp} {s:Shared} {T:String} {x:V} {v:Value} (I:Inv X pins σ H s) (r:kI x v) (ty:tyV X.K T x H) :
    s.TypeIs v T∧∀ a,v=.ref a→∃ ob,s.heap.get? a=some ob∧ob.dict=none:=by
  cases x with
  | str z =>
    obtain ⟨t,rfl⟩:=r
    cases (show T="str" from ty)
    exact ⟨typeIs_str s z t,fun _ e=>nomatch e⟩
  | int i =>
    obtain ⟨t,rfl⟩:=r
    cases (show T="int" from ty)
    exact ⟨typeIs_int s i t,fun _ e=>nomatch e⟩
  | ref p =>
    cases r
    rcases ty with ⟨rfl,xs,hq⟩ | ⟨rfl,o,hk,hc,hd⟩ | ⟨rfl,hk⟩ | ⟨rfl,S,n,hk⟩
    · obtain ⟨its,_,pl,_⟩:=I.list hq
      refine ⟨pl.isList.typeIs,fun a e=>?_⟩
      cases e
      obtain ⟨o,n,e,c,hd,_⟩:=pl
      exact ⟨o,e,hd⟩
    · refine ⟨⟨o,I.kIn p o hk,hc⟩,fun a e=>?_⟩
      cases e
      exact ⟨o,I.kIn _ o hk,hd⟩
    · have z:∃ o,s.heap.get? p=some o∧o.ExactDict:=by
        rcases hk with ⟨kvs,hk⟩ | ⟨kvs,hk⟩
        · obtain ⟨_,_,_,_,o,_,_,e,ex,_⟩:=I.hok p _ hk
          exact ⟨o,e,ex⟩
        · obtain ⟨_,_,_,_,o,_,_,e,ex,_⟩:=I.hok p _ hk
          exact ⟨o,e,ex⟩
      obtain ⟨o,e,ex⟩:=z
      refine ⟨⟨o,e,ex.1⟩,fun a e2=>?_⟩
      cases e2
      exact ⟨o,e,ex.2.1⟩
    · obtain ⟨o,_,_,_,e,ex,_⟩:=I.hok p _ hk
      refine ⟨⟨o,e,ex.1⟩,fun a e2=>?_⟩
      cases e2
      exact ⟨o,e,ex.2.1⟩
  | _=>exact False.elim ty
def js4 (K:W.Frag) (T:String) (r:V→List V→Hp→VK→Prop) (to:TE):TE:=fun σ H Q=>to σ H fun x H1=>tyV K T x H1∧r x [] H1 Q
def tBM (K:W.Frag) (T:String) (r:V→List V→Hp→VK→Prop) (to:TE) (t:TA):TE:=fun σ H Q=>to σ H fun x H1=>tyV K T x H1∧t σ H1 fun xs H2=>r x xs H2 Q
variable {o e:Expr} {es:List Expr} {to:TE} {t:TA} {name:Str} {apos cpos:Pos} {T id:String} {r:V→List V→Hp→VK→Prop}
theorem jf8 (pa:PlainAttrs T) (slot:Slot T name id) (hty:typeOf (.builtin id)=pure (.type "method_descriptor")) (hm:MtR X id r) (ho:PE X o to)
    (hbase:attributeBase o name X.env (eval o X.env)=eval o X.env:=by rfl) (hline:(apos.endLine == cpos.line)=true:=by rfl):PE X (.Call (.Attribute o name apos) [] [] cpos) (js4 X.K T r to):=by
  intro pins s σ H Q I h
  refine wpAny_Call_method0_late hbase hline (thn (ho pins s σ H _ I h) fun v s1 ⟨x,H1,I1,r1,ty,q1⟩=>?_)
  obtain ⟨h1,h2⟩:=jz3 I1 r1 ty
  exact ⟨T,id,pa,slot,hty,h1,h2,Calls.callWith_builtin rfl (PySem.evalArgs_none (hm pins s1 σ H1 x [] v [] Q I1 r1 .nil q1))⟩
theorem qC (pa:PlainAttrs T) (slot:Slot T name id) (hty:typeOf (.builtin id)=pure (.type "method_descriptor")) (hm:MtR X id r) (ho:PE X o to) (ha:PA X (e :: es) t)
    (hbase:attributeBase o name X.env (eval o X.env)=eval o X.env:=by rfl)
    (hfew:((backTo cpos (starEach (e :: es) X.env)).all (fun x=>!x.1) && (backToKw cpos (keywordEach [] X.env)).all (fun x=>x.1.isSome)
      && decide ((e :: es).length+([]:List Keyword).length+(if ([]:List Keyword).isEmpty then 0 else 1) < 30))=true:=by rfl)
    (hline:(apos.endLine == cpos.line)=true:=by rfl) (hs:starEach (e :: es) X.env=(false,eval e X.env) :: starEach es X.env:=by rfl) (hplain:(backTo cpos (starEach es X.env)).any (·.1)=false:=by rfl) :
    PE X (.Call (.Attribute o name apos) (e :: es) [] cpos) (tBM X.K T r to t):=by
  intro pins s σ H Q I h
  refine wpAny_Call_method_late hbase hfew hline rfl (thn (ho pins s σ H _ I h) fun v s1 ⟨x,H1,I1,r1,ty,q1⟩=>?_)
  obtain ⟨h1,h2⟩:=jz3 I1 r1 ty
  refine ⟨T,id,pa,slot,hty,h1,h2,?_⟩
  have hA:=ha cpos pins s1 σ H1 _ I1 q1
  rw [hs] at hA ⊢
  refine Calls.callWith_builtin (by show (false || (backTo cpos (starEach es X.env)).any (·.1))=false;rw [hplain] <;> rfl) (Calls.evalArgs_plain ?_)
  exact thn hA fun us s2 ⟨vs,H2,I2,r2,q2⟩=>hm pins s2 σ H2 x vs v us Q I2 r1 r2 q2
end
def MtM (X:Cx) (id:String) (r:V→List V→Hp→VK→Prop):Prop :=
  ∀ (pins:List (Addr×Obj)) (s:Shared) (σ:St) (H:Hp) (x:V) (xs:List V) (v:Value) (us:List Value) (Q:VK),Inv X pins σ H s→kI x v→kG xs us→r x xs H Q →
    wpAny (model X.prog X.w) X.A (call (.builtin id) (v :: us)) (EP X pins σ Q) X.xe s
theorem kG.one:∀ {x:V} {us:List Value},kG [x] us→∃ u,us=[u]∧kI x u
  | _,_,.cons r .nil=>⟨_,rfl,r⟩
theorem kG.zero:∀ {us:List Value},kG [] us→us=[]
  | _,.nil=>rfl
theorem kG.eraseIdx:∀ {xs:List V} {us:List Value} (i:Nat),kG xs us→kG (xs.eraseIdx i) (us.eraseIdx i)
  | _,_,_,.nil=>.nil
  | _,_,0,.cons _ t=>t
  | _,_,i+1,.cons r t=>.cons r (kG.eraseIdx i t)
theorem kG.reverse {xs:List V} {us:List Value} (h:kG xs us):kG xs.reverse us.reverse:=by
  induction h with
  | nil=>exact .nil
  | cons r t ih=>rw [List.reverse_cons,List.reverse_cons];exact kG.append ih (.cons r .nil)
theorem cM {α:Type}:∀ (l:List α) (i:Nat),(l.eraseIdx i).length≤l.length
  | [],_=>Nat.le_refl _
  | _ :: _,0=>Nat.le_succ _
  | _ :: r,i+1=>Nat.succ_le_succ (cM r i)
section
variable {X:Cx} {pins:List (Addr×Obj)} {σ:St} {H:Hp} {s:Shared} {l b:Addr} {xs ys zs:List V}
theorem Inv.lset {its its':List Value} {n:Nat} {f:Array Value→Array Value} {t':Nat} (I:Inv X pins σ H s) (hH:H l=some (.lst xs))
    (e:s.heap.get? l=some { cls:=.type "list",data:=.seq its.toArray n }) (hf:f its.toArray=its'.toArray) (hv:kG ys its') (hz:ys.length≤sizeLine) :
    Inv X pins σ (upd H l (.lst ys)) { s with heap:=s.heap.update l (Obj.mapSeq f),toks:=t' }:=by
  have q:=PySem.IsL.update e f
  rw [hf] at q
  refine I.write (x:=l) (e:=l) (by rw [hH];exact trivial) (.inl rfl) (fun b' u hb hu=>(Heap.get?_update_other s.heap (Obj.mapSeq f) (Ne.symm hb)).trans hu) ⟨_,q⟩ ?_
  exact ⟨hz,its',_,hv,q⟩
theorem Inv.lnew {its:List Value} {t':Nat} (I:Inv X pins σ H s) (hv:kG ys its) (hz:ys.length≤sizeLine) :
    Inv X pins σ (upd H s.heap.objs.size (.lst ys)) { s with heap:=s.heap.push { cls:=.type "list",data:=.seq its.toArray },toks:=t' } :=
  I.laid (fun _ _ q=>Heap.get?_push_of_some _ q) (Nat.le_refl _) ⟨hz,its,0,hv,Heap.get?_push_size _ rfl⟩
theorem Inv.fresh (I:Inv X pins σ H s):H s.heap.objs.size=none:=I.hok.fresh (Nat.le_refl _)
theorem Inv.lstM (I:Inv X pins σ H s) (hH:H l=some (.lst xs)):xs.length≤sizeLine∧∃ (its:List Value) (n:Nat),kG xs its∧xs.length=its.length∧s.heap.get? l=some { cls:=.type "list",data:=.seq its.toArray n }:=by
  obtain ⟨z,its,n,r,e⟩:=I.hok l _ hH
  exact ⟨z,its,n,r,r.length,e⟩
theorem jj6 {n:Nat} (h:n≤sizeLine):Builtin.List.listTooLong n=false:=by
  unfold Builtin.List.listTooLong
  exact decide_eq_false (by omega)
end
section
variable {X:Cx}
def zS:V→List V→Hp→VK→Prop:=fun x vs H Q=>∃ l xs y,x=.ref l∧vs=[y]∧H l=some (.lst xs)∧xs.length < sizeLine∧Q .non (upd H l (.lst (xs++[y])))
theorem vD:MtM X "list.append" zS:=by
  intro pins s σ H x vs v us Q I rx rv h
  obtain ⟨l,xs,y,rfl,rfl,hH,hz,q⟩:=h
  cases rx
  obtain ⟨u,rfl,ru⟩:=rv.one
  obtain ⟨z,its,n,r,hl,e⟩:=I.lstM hH
  refine call_meets F.slot_list_append ⟨_,e,rfl⟩ F.entry_list_append (F.args_list_append_2 _ _) (PySem.list_append l its.toArray n u (by rw [List.size_toArray];omega)) ⟨e,?_⟩
  refine ⟨.non,_,I.lset (its':=its++[u]) hH e (by simp) (r.append (.cons ru .nil)) ?_,rfl,q⟩
  rw [List.length_append,List.length_singleton]
  omega
def bW:V→List V→Hp→VK→Prop:=fun x vs H Q=>∃ l b xs zs,x=.ref l∧vs=[.ref b]∧H l=some (.lst xs)∧H b=some (.lst zs)∧xs.length+zs.length≤sizeLine∧Q .non (upd H l (.lst (xs++zs)))
theorem gZ:MtM X "list.extend" bW:=by
  intro pins s σ H x vs v us Q I rx rv h
  obtain ⟨l,b,xs,zs,rfl,rfl,hH,hB,hz,q⟩:=h
  cases rx
  obtain ⟨u,rfl,ru⟩:=rv.one
  cases ru
  obtain ⟨z,its,n,r,hl,e⟩:=I.lstM hH
  obtain ⟨z2,its2,n2,r2,hl2,e2⟩:=I.lstM hB
  have hsz:its.toArray.size+its2.toArray.size≤sizeLine:=by rw [List.size_toArray,List.size_toArray];omega
  have hlong:¬ (!its.toArray.isEmpty && Builtin.List.listTooLong (its.toArray.size+its2.toArray.size))=true:=by
    rw [jj6 hsz,Bool.and_false]
    exact Bool.false_ne_true
  refine call_meets F.slot_list_extend ⟨_,e,rfl⟩ F.entry_list_extend (F.args_list_extend_2 _ _)
    (AutoSeq1.list_extend_list_list_0 l its.toArray n b its2.toArray n2 hlong (by rw [List.size_toArray];omega) (by omega)) ⟨e,e2,?_⟩
  refine ⟨.non,_,I.lset (its':=its++its2) hH e (by simp) (r.append r2) ?_,rfl,q⟩
  rw [List.length_append]
  omega
def jvX:V→List V→Hp→VK→Prop:=fun x vs H Q=>∃ l xs i k y,x=.ref l∧vs=[.int i]∧H l=some (.lst xs)∧-(2 ^ 63)≤i∧i < 2 ^ 63∧seqIndex? i xs.length=some k∧xs[k]? = some y∧Q y (upd H l (.lst (xs.eraseIdx k)))
theorem jj3:MtM X "list.pop" jvX:=by
  intro pins s σ H x vs v us Q I rx rv h
  obtain ⟨l,xs,i,k,y,rfl,rfl,hH,h1,h2,hk,hy,q⟩:=h
  cases rx
  obtain ⟨u,rfl,ru⟩:=rv.one
  obtain ⟨t,rfl⟩:=ru
  obtain ⟨z,its,n,r,hl,e⟩:=I.lstM hH
  obtain ⟨w,hw,rw'⟩:=r.get hy
  refine call_meets F.slot_list_pop ⟨_,e,rfl⟩ F.entry_list_pop (F.args_list_pop_2 _ _)
    (MeetsSeq.list_pop_at l its.toArray n i t k w (fitsIndex_both h1 h2) (by rw [List.size_toArray,← hl];exact hk) (by rw [← Array.getElem?_toList];exact hw) (by rw [List.size_toArray];omega)) ⟨e,?_⟩
  refine ⟨y,_,I.lset (its':=its.eraseIdx k) hH e ?_ (r.eraseIdx k) ?_,rw',q⟩
  · show its.toArray.eraseIdxIfInBounds k=(its.eraseIdx k).toArray
    rw [List.eraseIdxIfInBounds_toArray]
  · have:=cM xs k
    omega
def sX:V→List V→Hp→VK→Prop:=fun x vs H Q=>∃ l xs,x=.ref l∧vs=[]∧H l=some (.lst xs)∧Q .non (upd H l (.lst xs.reverse))
theorem tE:MtM X "list.reverse" sX:=by
  intro pins s σ H x vs v us Q I rx rv h
  obtain ⟨l,xs,rfl,rfl,hH,q⟩:=h
  cases rx
  have hus:=rv.zero
  subst hus
  obtain ⟨z,its,n,r,hl,e⟩:=I.lstM hH
  refine call_meets F.slot_list_reverse ⟨_,e,rfl⟩ F.entry_list_reverse (F.args_list_reverse_1 _) (AutoSeq1.list_reverse_list_0 l its.toArray n (by rw [List.size_toArray];omega)) ⟨e,?_⟩
  refine ⟨.non,_,I.lset (its':=its.reverse) hH e (by simp) r.reverse ?_,rfl,q⟩
  rw [List.length_reverse]
  omega
def jt3:R2:=fun x y H Q=>∃ l b xs zs,x=.ref l∧y=.ref b∧H l=some (.lst xs)∧H b=some (.lst zs)∧xs.length+zs.length≤sizeLine∧∀ p,H p=none→Q (.ref p) (upd H p (.lst (xs++zs)))
theorem jf5:OpR X (binaryOp .Add) jt3:=by
  intro pins s σ H x y v u Q I rx ry h
  obtain ⟨l,b,xs,zs,rfl,rfl,hH,hB,hz,q⟩:=h
  cases rx
  cases ry
  obtain ⟨z,its,n,r,hl,e⟩:=I.lstM hH
  obtain ⟨z2,its2,n2,r2,hl2,e2⟩:=I.lstM hB
  refine PySem.P.add_list e e2 ?_ (by rw [List.size_toArray,List.size_toArray];omega)
  have ea:its.toArray++its2.toArray=(its++its2).toArray:=by simp
  rw [ea]
  exact ⟨.ref _,_,I.lnew (t':=s.toks) (r.append r2) (by rw [List.length_append];omega),rfl,q _ I.fresh⟩
end
section
variable {prog:Program} {w:World} {A:Around} {E:Value→Shared→Prop} {s:Shared}
end
section
variable {X:Cx}
end
theorem kG.ints:∀ {ns:List Int} {us:List Value},kG (ns.map V.int) us→IntsAre us ns
  | [],us,h=>by
    rw [List.map_nil] at h
    cases h
    exact IntsAre.nil
  | n :: ns,us,h=>by
    rw [List.map_cons] at h
    cases h with
    | cons r t =>
      obtain ⟨k,rfl⟩:=r
      exact IntsAre.cons n k (kG.ints t)
theorem kG.bls:∀ {bs:List Bool} {us:List Value},kG (bs.map V.bl) us→us=bs.map Value.bool
  | [],us,h=>by
    rw [List.map_nil] at h
    cases h
    rfl
  | b :: bs,us,h=>by
    rw [List.map_cons] at h
    cases h with
    | cons r t =>
      cases r
      rw [kG.bls t,List.map_cons]
theorem kG.ref1 {a:Addr} {us:List Value} (r:kG [V.ref a] us):us=[Value.ref a]:=by
  cases r with
  | cons r t =>
    cases t
    cases r
    rfl
section
variable {prog:Program} {w:World} {A:Around} {E:Value→Shared→Prop} {s:Shared} {l:Addr} {its:List Value} {ns:List Int} {Q:Value→Shared→Prop}
theorem jq0 (hh:A.handled=none) (hl:s.heap.IsList l its.toArray) (hi:IntsAre its ns)
    (h:∀ h' tk t',(∀ b o,s.heap.get? b=some o→h'.get? b=some o)→Q (.int ns.sum t') { s with heap:=h',toks:=tk }):wpAny (model prog w) A (call (.builtin "sum") [.ref l]) Q E s:=by
  obtain ⟨xs,e⟩:=hi.allInts.items
  have hn:numsOf (intItems xs).toList=ns:=by rw [← e];exact hi.numsOf
  rw [nums_intItems] at hn
  rw [e] at hl
  refine PySem.sum_intListG hh hl fun h' tk t' hk=>?_
  have:=h h' tk t' hk
  rw [preSum_eq,List.take_of_length_le (by simp),hn];exact this
theorem jwJ (hh:A.handled=none) (hl:s.heap.IsList l its.toArray) (hi:IntsAre its ns) (hne:0 < ns.length)
    (h:∀ h' tk M t',(∀ b o,s.heap.get? b=some o→h'.get? b=some o)→M∈ns→(∀ a,a∈ns→M≤a)→Q (.int M t') { s with heap:=h',toks:=tk }):wpAny (model prog w) A (call (.builtin "min") [.ref l]) Q E s:=by
  obtain ⟨xs,e⟩:=hi.allInts.items
  have hn:numsOf (intItems xs).toList=ns:=by rw [← e];exact hi.numsOf
  rw [nums_intItems] at hn
  subst hn
  rw [e] at hl
  have hsz:0 < xs.size:=by simpa using hne
  refine PySem.min_intList hh hl hsz fun v h' tk hv hk=>?_
  obtain ⟨t,rfl⟩:=intItems_at hv
  obtain ⟨h1,h2⟩:=argBest_lt (numAt xs) (xs.size - 1)
  refine h h' tk _ t hk ?_ fun a ha=>?_
  · rw [numAt_eq];exact PySem.getD_mem (by rw [List.length_map,Array.length_toList];omega)
  · obtain ⟨j,hj,rfl⟩:=mem_getD ha
    rw [List.length_map,Array.length_toList] at hj
    rw [← numAt_eq];exact h2 j (by omega)
end
section
variable {X:Cx}
def jt5 (K:W.Frag):List V→Hp→VK→Prop:=fun vs H Q=>∃ (a:Addr) (ns:List Int),vs=[V.ref a]∧SqL K H a (ns.map V.int)∧Q (.int ns.sum) H
def jt4 (K:W.Frag):List V→Hp→VK→Prop:=fun vs H Q=>∃ (a:Addr) (ns:List Int),vs=[V.ref a]∧SqL K H a (ns.map V.int)∧0 < ns.length∧∀ m,m∈ns→(∀ y,y∈ns→m≤y)→Q (.int m) H
theorem aK (hc:X.calm=true):uU X (.builtin "sum") (jt5 X.K):=by
  intro pins s σ H vs us Q I r h
  obtain ⟨a,ns,rfl,hs,q⟩:=h
  obtain ⟨its,rv,hl,_⟩:=I.list hs
  rw [kG.ref1 r]
  exact jq0 (I.ok.hd hc) hl.isList rv.ints fun h' tk t' hk=>⟨.int _,H,I.kept hk,⟨_,rfl⟩,q⟩
theorem jg9 (hc:X.calm=true):uU X (.builtin "min") (jt4 X.K):=by
  intro pins s σ H vs us Q I r h
  obtain ⟨a,ns,rfl,hs,hne,q⟩:=h
  obtain ⟨its,rv,hl,_⟩:=I.list hs
  rw [kG.ref1 r]
  exact jwJ (I.ok.hd hc) hl.isList rv.ints hne fun h' tk m t' hk h1 h2=>⟨.int _,H,I.kept hk,⟨_,rfl⟩,q m h1 h2⟩
end
theorem dE {prog:Program} {w:World} {A:Around} {E:Value→Shared→Prop} {s:Shared} {l:Addr} {items:Array Value} {Q:Value→Shared→Prop} (hl:s.heap.IsList l items)
    (h:∀ s₂:Shared,s₂={ s with heap:=s.heap.push { cls:=.type "list_iterator",data:=.fields #[.ref l,.int 0 0] } } →
      (s₂.heap.IsListIter s.heap.objs.size l 0∧s₂.heap.IsList l items)→l≠s.heap.objs.size→Q (.ref s.heap.objs.size) s₂):wpAny (model prog w) A (pyIter (.ref l)) Q E s:=by
  have hlt:l < s.heap.objs.size:=by obtain ⟨_,e,_⟩:=hl;exact Heap.lt_size e
  exact wpAny_pyIter_list hl (h _ rfl ⟨⟨_,Heap.get?_push_size _ rfl,rfl,rfl⟩,hl.push _⟩ (Nat.ne_of_lt hlt))
theorem gO {prog:Program} {w:World} {A:Around} {bs:List Bool} {its:List Value} (e:its=bs.map Value.bool) :
    TruthOf prog w A (fun i v=>its.toArray[i]? = some v) (fun i=>bs.getD i false):=fun i v s Q E hv hq=>by
  have hv':its[i]? = some v:=by simpa using hv
  rw [e,List.getElem?_map] at hv'
  obtain ⟨b,hb,rfl⟩:=Option.map_eq_some_iff.mp hv'
  have hg:bs.getD i false=b:=by rw [List.getD_eq_getElem?_getD,hb] <;> rfl
  have hq':Q (bs.getD i false) s:=hq
  rw [hg] at hq'
  exact wpAny_truthy_bool hq'
theorem bA:∀ bs:List Bool,(List.range bs.length).any (fun i=>bs.getD i false)=bs.any id
  | []=>rfl
  | b :: bs=>by
    rw [List.length_cons,List.range_succ_eq_map,List.any_cons,List.any_map,List.any_cons,← bA bs]
    all_goals rfl
theorem bS:∀ bs:List Bool,(List.range bs.length).all (fun i=>bs.getD i false)=bs.all id
  | []=>rfl
  | b :: bs=>by
    rw [List.length_cons,List.range_succ_eq_map,List.all_cons,List.all_map,List.all_cons,← bS bs]
    all_goals rfl
section
variable {X:Cx}
def jt2 (K:W.Frag):List V→Hp→VK→Prop:=fun vs H Q=>∃ (a:Addr) (bs:List Bool),vs=[V.ref a]∧SqL K H a (bs.map V.bl)∧Q (.bl (bs.any id)) H
def jt1 (K:W.Frag):List V→Hp→VK→Prop:=fun vs H Q=>∃ (a:Addr) (bs:List Bool),vs=[V.ref a]∧SqL K H a (bs.map V.bl)∧Q (.bl (bs.all id)) H
theorem jg8 (hc:X.calm=true):uU X (.builtin "any") (jt2 X.K):=by
  intro pins s σ H vs us Q I r h
  obtain ⟨a,bs,rfl,hs,q⟩:=h
  obtain ⟨its,rv,hl,_⟩:=I.list hs
  rw [kG.ref1 r]
  have hb:=rv.bls
  refine call_any_walk (dE hl.isList fun s₂ e2 st hne=>?_)
  subst e2
  refine ⟨_,_,_,_,_,_,_,rfl,Walks.list (A:=X.A.in1) (I.ok.hd hc) _ a hne its.toArray,st,gO hb,fun h' tk hk=>?_⟩
  refine ⟨.bl _,H,I.kept fun b o eo=>hk b o (fun hmem=>?_) (Heap.get?_push_of_some _ eo),?_,q⟩
  · rcases List.mem_cons.mp hmem with e1 | hmem
    · exact absurd (e1 ▸ Heap.lt_size eo) (Nat.lt_irrefl _)
    · cases hmem
  · show Value.bool _=Value.bool _
    rw [← bA,hb,List.size_toArray,List.length_map]
theorem jkQ (hc:X.calm=true):uU X (.builtin "all") (jt1 X.K):=by
  intro pins s σ H vs us Q I r h
  obtain ⟨a,bs,rfl,hs,q⟩:=h
  obtain ⟨its,rv,hl,_⟩:=I.list hs
  rw [kG.ref1 r]
  have hb:=rv.bls
  refine call_all_walk (dE hl.isList fun s₂ e2 st hne=>?_)
  subst e2
  refine ⟨_,_,_,_,_,_,_,rfl,Walks.list (A:=X.A.in1) (I.ok.hd hc) _ a hne its.toArray,st,gO hb,fun h' tk hk=>?_⟩
  refine ⟨.bl _,H,I.kept fun b o eo=>hk b o (fun hmem=>?_) (Heap.get?_push_of_some _ eo),?_,q⟩
  · rcases List.mem_cons.mp hmem with e1 | hmem
    · exact absurd (e1 ▸ Heap.lt_size eo) (Nat.lt_irrefl _)
    · cases hmem
  · show Value.bool _=Value.bool _
    rw [← bS,hb,List.size_toArray,List.length_map]
end
abbrev jkW (h:Heap) (c:Addr) (v:Option Value):Prop:=h.IsCell c v
def jt6 (scope sc:Scope):Scope :=
  { scope with names:=scope.names.map fun (n,k)=>if (k == .free && sc.kind == .function && sc.names.lookup n == some .cell) then (n,.cell) else (n,k) }
def jE (cells:List (Str×Addr)):List (Str×NameKind)→List (Str×Addr)→List (Str×Addr)
  | [],acc=>acc
  | (n,k) :: r,acc=>if k == .free then jE cells r ((n,(cells.lookup n).getD 0) :: acc) else jE cells r acc
theorem yI (env:Env) (f:Str×NameKind→List (Str×Addr)→Sem (ForInStep (List (Str×Addr))))
    (hf:∀ n k c,f (n,k) c=if k == .free then (do let a ← cellOf env n;pure (.yield ((n,a) :: c))) else pure (.yield c)) :
    ∀ (names:List (Str×NameKind)) (acc:List (Str×Addr)),(∀ y∈names,y.2=.free→∃ c,env.cells.lookup y.1=some c)→forIn names acc f=pure (jE env.cells names acc)
  | [],acc,_=>by rw [List.forIn_nil];rfl
  | (n,k) :: r,acc,h=>by
    rw [List.forIn_cons,hf]
    have ih:=fun acc=>yI env f hf r acc fun y hy=>h y (List.mem_cons_of_mem _ hy)
    unfold jE
    by_cases hk:(k == NameKind.free)=true
    · rw [if_pos hk,if_pos hk]
      obtain ⟨c,hc⟩:=h (n,k) List.mem_cons_self (by simpa using hk)
      have e:cellOf env n=pure c:=by unfold cellOf;rw [hc]
      rw [e]
      have e2:(env.cells.lookup n).getD 0=c:=by rw [hc];rfl
      rw [e2]
      exact ih _
    · rw [if_neg hk,if_neg hk]
      exact ih _
theorem yJ {scope:Scope} {env:Env} (h:∀ y∈scope.names,y.2=.free→∃ c,env.cells.lookup y.1=some c):closureFor scope env=pure (jE env.cells scope.names []):=by
  simp only [closureFor]
  rw [yI env _ (fun n k c=>rfl) scope.names [] h]
  rfl
theorem uD {α:Type}:∀ {l:List (Str×α)} {n:Str} {c:α},(n,c)∈l→∃ c',l.lookup n=some c'
  | (k,v) :: r,n,c,h=>by
    rw [List.lookup_cons]
    cases hb:n == k with
    | true=>exact ⟨_,rfl⟩
    | false =>
      rcases List.mem_cons.mp h with e | h
      · cases e;simp at hb
      · exact uD h
theorem zF {cells:List (Str×Addr)}:∀ {names:List (Str×NameKind)} {acc:List (Str×Addr)} {n:Str} {c:Addr},(n,c)∈jE cells names acc→(n,c)∈acc∨((n,.free)∈names∧c=(cells.lookup n).getD 0)
  | [],_,_,_,h=>.inl h
  | (m,k) :: r,acc,n,c,h=>by
    unfold jE at h
    split at h
    · rename_i hk
      have hk:k=.free:=by simpa using hk
      rcases zF h with h | ⟨h1,h2⟩
      · rcases List.mem_cons.mp h with e | h
        · cases e;exact .inr ⟨hk ▸ List.mem_cons_self,rfl⟩
        · exact .inl h
      · exact .inr ⟨List.mem_cons_of_mem _ h1,h2⟩
    · rcases zF h with h | ⟨h1,h2⟩
      · exact .inl h
      · exact .inr ⟨List.mem_cons_of_mem _ h1,h2⟩
theorem uL {cells:List (Str×Addr)}:∀ {names:List (Str×NameKind)} {acc:List (Str×Addr)} {p:Str×Addr},p∈acc→p∈jE cells names acc
  | [],_,_,h=>h
  | (m,k) :: r,acc,p,h=>by
    unfold jE
    split
    · exact uL (List.mem_cons_of_mem _ h)
    · exact uL h
theorem wH {cells:List (Str×Addr)}:∀ {names:List (Str×NameKind)} {acc:List (Str×Addr)} {n:Str},(n,.free)∈names→(n,(cells.lookup n).getD 0)∈jE cells names acc
  | (m,k) :: r,acc,n,h=>by
    unfold jE
    rcases List.mem_cons.mp h with e | h
    · cases e
      exact uL List.mem_cons_self
    · split
      · exact wH h
      · exact wH h
theorem w8:∀ {names:List (Str×NameKind)} {h:Heap} {acc:List (Str×Addr)} {x:Str} {c:Addr},(x,c)∈cellsFrom h.objs.size names acc →
    (x,c)∈acc∨((x,.cell)∈names∧h.objs.size≤c∧jkW (pushCells h names) c none)
  | [],_,_,_,_,h=>.inl h
  | (n,k) :: r,h,acc,x,c,hm=>by
    unfold cellsFrom at hm
    unfold pushCells
    split at hm
    · rename_i hk
      rw [if_pos hk]
      have hk:k=.cell:=by simpa using hk
      rw [← Heap.size_push h { cls:=.type "cell",data:=.cell none }] at hm
      rcases w8 hm with hm | ⟨h1,h2,h3⟩
      · rcases List.mem_cons.mp hm with e | hm
        · cases e
          exact .inr ⟨hk ▸ List.mem_cons_self,Nat.le_refl _,_,pushCells_keeps r _ _ _ (Heap.get?_push_size _ rfl),rfl⟩
        · exact .inl hm
      · rw [Heap.size_push] at h2
        exact .inr ⟨List.mem_cons_of_mem _ h1,Nat.le_of_succ_le h2,h3⟩
    · rename_i hk
      rw [if_neg hk]
      rcases w8 hm with hm | ⟨h1,h2,h3⟩
      · exact .inl hm
      · exact .inr ⟨List.mem_cons_of_mem _ h1,h2,h3⟩
theorem qW:∀ {names:List (Str×NameKind)} {n:Nat} {acc:List (Str×Addr)} {p:Str×Addr},p∈acc→p∈cellsFrom n names acc
  | [],_,_,_,h=>h
  | (m,k) :: r,n,acc,p,h=>by
    unfold cellsFrom
    split
    · exact qW (List.mem_cons_of_mem _ h)
    · exact qW h
theorem xN:∀ {names:List (Str×NameKind)} {n:Nat} {acc:List (Str×Addr)} {x:Str},(x,.cell)∈names→∃ c,(x,c)∈cellsFrom n names acc
  | (m,k) :: r,n,acc,x,h=>by
    unfold cellsFrom
    rcases List.mem_cons.mp h with e | h
    · cases e
      exact ⟨n,qW List.mem_cons_self⟩
    · split
      · exact xN h
      · exact xN h
theorem xS:∀ {names:List (Str×NameKind)} {h:Heap} {acc:List (Str×Addr)} {x y:Str} {c:Addr},(∀ p∈acc,p.2 < h.objs.size)→(∀ x y c,(x,c)∈acc→(y,c)∈acc→x=y) →
    (x,c)∈cellsFrom h.objs.size names acc→(y,c)∈cellsFrom h.objs.size names acc→x=y
  | [],_,_,_,_,_,_,hi,h1,h2=>hi _ _ _ h1 h2
  | (n,k) :: r,h,acc,x,y,c,hl,hi,h1,h2=>by
    unfold cellsFrom at h1 h2
    split at h1
    · rename_i hk
      rw [if_pos hk] at h2
      rw [← Heap.size_push h { cls:=.type "cell",data:=.cell none }] at h1 h2
      refine xS (h:=h.push _) (fun p hp=>?_) (fun x y c a b=>?_) h1 h2
      · rw [Heap.size_push]
        rcases List.mem_cons.mp hp with rfl | hp
        · exact Nat.lt_succ_self _
        · exact Nat.lt_succ_of_lt (hl p hp)
      · rcases List.mem_cons.mp a with e | a <;> rcases List.mem_cons.mp b with e' | b
        · cases e;cases e';rfl
        · cases e;exact absurd (hl _ b) (Nat.lt_irrefl _)
        · cases e';exact absurd (hl _ a) (Nat.lt_irrefl _)
        · exact hi _ _ _ a b
    · rename_i hk
      rw [if_neg hk] at h2
      exact xS hl hi h1 h2
theorem mQ {M:Model} {A:Around} {E:Value→Shared→Prop} {s:Shared} {scope:Scope} {globals:Addr} {closure:List (Str×Addr)} {qual:Str} {func:Option Addr} {code:Value} {around:Env} {builtins:Addr} {Q:Env→Shared→Prop}
    (h:Q (newEnv scope s.heap.objs.size globals (cellsFrom (s.heap.objs.size+1) scope.names closure) qual func code (some around) builtins)
      { s with heap:=pushCells (s.heap.push { cls:=.type "dict",data:=.dict #[] }) scope.names }) :
    wpAny M A (newFunctionEnv scope globals closure [] qual func code (some around) builtins) Q E s:=by
  simp only [newFunctionEnv,Option.isSome_some,if_true]
  refine wpAny_bind (wpAny_alloc ?_)
  refine wpAny_bind (wpAny_layCells _ (fun n k c=>rfl) scope.names closure _ _ ?_)
  rw [show ({ s with heap:=s.heap.push { cls:=.type "dict",data:=.dict #[] } }:Shared).heap.objs.size=s.heap.objs.size+1 from Heap.size_push ..]
  rw [List.forIn_nil]
  exact wpAny_bind (wpAny_pure (wpAny_pure h))
theorem uE {sc:Scope}:∀ {names:List (Str×NameKind)} {x:Str} {k:NameKind},
    (names.map fun (n,k)=>if (k == NameKind.free && sc.kind == .function && sc.names.lookup n == some .cell) then (n,NameKind.cell) else (n,k)).lookup x=some k →
    ∃ k',names.lookup x=some k'∧(k=k'∨(k'=.free∧k=.cell))
  | [],_,_,h=>by simp at h
  | (n,k₀) :: r,x,k,h=>by
    have ih:=@uE sc r x k
    have h':List.lookup x ((if (k₀ == NameKind.free && sc.kind == .function && sc.names.lookup n == some .cell)=true then (n,NameKind.cell) else (n,k₀)) :: (r.map _))=some k:=h
    cases hx:x == n with
    | true =>
      simp only [List.lookup_cons,hx]
      by_cases hc:(k₀ == NameKind.free && sc.kind == .function && sc.names.lookup n == some .cell)=true
      · rw [if_pos hc] at h'
        simp only [List.lookup_cons,hx] at h'
        cases h'
        simp only [Bool.and_eq_true,beq_iff_eq] at hc
        exact ⟨k₀,rfl,.inr ⟨hc.1.1,rfl⟩⟩
      · rw [if_neg hc] at h'
        simp only [List.lookup_cons,hx] at h'
        cases h'
        exact ⟨_,rfl,.inl rfl⟩
    | false =>
      simp only [List.lookup_cons,hx]
      by_cases hc:(k₀ == NameKind.free && sc.kind == .function && sc.names.lookup n == some .cell)=true
      · rw [if_pos hc] at h'
        simp only [List.lookup_cons,hx] at h'
        exact ih h'
      · rw [if_neg hc] at h'
        simp only [List.lookup_cons,hx] at h'
        exact ih h'
structure pG (N:List Str) (sc scope:Scope) (own:List (Str×Nat)):Prop where
  kind:scope.kind=.function
  uniq:∀ y∈scope.names,scope.names.lookup y.1=some y.2
  ix:∀ p∈own,N[p.2]? = some p.1
  free:∀ y∈scope.names,y.2=.free→sc.names.lookup y.1=some .cell∨sc.names.lookup y.1=some .free
  own:∀ y∈scope.names,y.2=.local∨y.2=.cell→y.1∈own.map (·.1)∨y.1∉N
def v5 (σ:St):List Nat→St
  | []=>σ
  | v :: vs=>(v5 σ vs).set v none
theorem uI (σ:St):∀ vs:List Nat,(v5 σ vs).length=σ.length
  | []=>rfl
  | v :: vs=>by unfold v5;rw [List.length_set,uI σ vs]
theorem gU {σ:St} {i:Nat} {x:V}:∀ {vs:List Nat},(v5 σ vs)[i]? = some (some x)→σ[i]? = some (some x)∧i∉vs
  | [],h=>⟨h,by simp⟩
  | v :: vs,h=>by
    unfold v5 at h
    by_cases hi:v=i
    · subst hi
      by_cases hv:v < (v5 σ vs).length
      · rw [List.getElem?_set_self hv] at h;cases h
      · rw [List.getElem?_eq_none (by simpa using hv)] at h;cases h
    · rw [List.getElem?_set_ne hi] at h
      obtain ⟨h1,h2⟩:=gU h
      exact ⟨h1,by simp only [List.mem_cons,not_or];exact ⟨fun e=>hi e.symm,h2⟩⟩
abbrev Cx.blk (X:Cx) (s:Shared) (H:Hp) (scope:Scope) (cenv:Env) (fp:List Addr):Cx:={ X with s_0:=s,H_0:=H,env:=cenv,outer:=X.stack,ex:=fp,fn:=fun x=>scope.names.lookup x == some .cell,pn:=[],xe:=fun _ _=>False }
section
variable {X:Cx} {pins:List (Addr×Obj)} {σ:St} {H:Hp} {s:Shared}
theorem pD {scope:Scope} {own:List (Str×Nat)} {fp:List Addr} (I:Inv X pins σ H s) (ok:pG X.N X.env.scope scope own) (hN:X.N.Nodup) (hfp:∀ b∈fp,qJ X pins H b∧b < s.heap.objs.size) :
    Inv (X.blk s H scope (compEnvC scope (cellsFrom (s.heap.objs.size+1) scope.names (jE X.env.cells scope.names [])) s.heap.objs.size X.env) fp) [] (v5 σ (own.map (·.2))) H { s with heap:=pushCells (s.heap.push { cls:=.type "dict",data:=.dict #[] }) scope.names }:=by
  have hfree:∀ y∈scope.names,y.2=.free→∃ c,X.env.cells.lookup y.1=some c:=fun y hy e=>by
    rcases ok.free y hy e with k | k
    · exact I.ok.has _ (.inl k)
    · exact I.ok.has _ (.inr k)
  generalize hcenv:compEnvC scope (cellsFrom (s.heap.objs.size+1) scope.names (jE X.env.cells scope.names [])) s.heap.objs.size X.env=cenv
  have kp:∀ b o,s.heap.get? b=some o→(pushCells (s.heap.push { cls:=.type "dict",data:=.dict #[] }) scope.names).get? b=some o:=fun b o e=>pushCells_keeps _ _ _ _ (Heap.get?_push_of_some _ e)
  have hL:cenv.locals=s.heap.objs.size:=by rw [← hcenv];rfl
  have hcl:cenv.cells=cellsFrom (s.heap.objs.size+1) scope.names (jE X.env.cells scope.names []):=by rw [← hcenv];rfl
  have hsc:cenv.scope=jt6 scope X.env.scope:=by rw [← hcenv];rfl
  rw [← Heap.size_push s.heap { cls:=.type "dict",data:=.dict #[] }] at hcl
  have cm:∀ {y c},(y,c)∈jE X.env.cells scope.names []→X.env.cells.lookup y=some c∧c < s.heap.objs.size:=fun {y c} hm=>by
    rcases zF hm with hm | ⟨h1,rfl⟩
    · cases hm
    · obtain ⟨c,hc⟩:=hfree _ h1 rfl
      rw [hc]
      obtain ⟨w,z⟩:=I.cell _ _ hc
      exact ⟨rfl,z.lt⟩
  have mem:∀ {y c},cenv.cells.lookup y=some c→(X.env.cells.lookup y=some c∧c < s.heap.objs.size)∨(s.heap.objs.size+1≤c∧jkW (pushCells (s.heap.push { cls:=.type "dict",data:=.dict #[] }) scope.names) c none):=fun {y c} e=>by
    rw [hcl] at e
    rcases w8 (PySem.mem_of_lookup e) with hm | ⟨_,h2,h3⟩
    · exact .inl (cm hm)
    · rw [Heap.size_push] at h2;exact .inr ⟨h2,h3⟩
  have look:∀ {y},scope.names.lookup y=some .free→∃ c,cenv.cells.lookup y=some c∧X.env.cells.lookup y=some c:=fun {y} hl=>by
    have hy:(y,NameKind.free)∈scope.names:=PySem.mem_of_lookup hl
    obtain ⟨c',e'⟩:=uD (qW (names:=scope.names) (n:=(s.heap.push { cls:=.type "dict",data:=.dict #[] }).objs.size) (wH (cells:=X.env.cells) (acc:=[]) hy))
    rw [← hcl] at e'
    refine ⟨c',e',?_⟩
    rw [hcl] at e'
    rcases w8 (PySem.mem_of_lookup e') with hm | ⟨h1,_,_⟩
    · exact (cm hm).1
    · have:=ok.uniq _ h1
      rw [hl] at this;cases this
  have okB:(X.blk s H scope cenv fp).Ok:=by
    refine ⟨I.ok.mod,by show cenv.scope.kind=_;rw [hsc];exact ok.kind,by show cenv.globals=_;rw [← hcenv];exact I.ok.glob,by show cenv.builtins=_;rw [← hcenv];exact I.ok.blt,by show s.heap.objs.size≤cenv.locals;rw [hL];exact Nat.le_refl _,
      fun y z c e1 e2=>?_,fun y hy=>?_,fun y c z e=>?_,I.ok.hd,I.ok.frames,.inl rfl,fun b hb=>⟨?_,fun y c e z=>?_⟩,I.bs,Nat.le_trans I.ok.bsz I.sz,fun b o e hb=>?_,fun b hb z=>?_,I.stack,I.stkFree⟩
    · have e1:cenv.cells.lookup y=some c:=e1
      have e2:cenv.cells.lookup z=some c:=e2
      rw [hcl] at e1 e2
      refine xS (fun p hp=>?_) (fun y z c a b=>I.ok.inj y z c (cm a).1 (cm b).1) (PySem.mem_of_lookup e1) (PySem.mem_of_lookup e2)
      rw [Heap.size_push]
      exact Nat.lt_succ_of_lt (cm (y:=p.1) (c:=p.2) hp).2
    · show ∃ c,cenv.cells.lookup y=some c
      have key:∀ k,cenv.kindOf y=some k→(k=.cell∨k=.free)→∃ c,cenv.cells.lookup y=some c:=fun k hk hk'=>by
        unfold Env.kindOf at hk
        rw [hsc] at hk
        obtain ⟨k',e,r⟩:=uE hk
        have:k'=.cell∨k'=.free:=by
          rcases r with rfl | ⟨rfl,_⟩
          · exact hk'
          · exact .inr rfl
        rcases this with rfl | rfl
        · obtain ⟨c,hm⟩:=xN (n:=(s.heap.push { cls:=.type "dict",data:=.dict #[] }).objs.size) (acc:=jE X.env.cells scope.names []) (PySem.mem_of_lookup e)
          obtain ⟨c',e'⟩:=uD hm
          exact ⟨c',by rw [hcl];exact e'⟩
        · obtain ⟨c,h1,_⟩:=look e
          exact ⟨c,h1⟩
      rcases hy with hy | hy
      · exact key _ hy (.inl rfl)
      · exact key _ hy (.inr rfl)
    · have z:(scope.names.lookup y == some NameKind.cell)=true:=z
      have z:scope.names.lookup y=some .cell:=by simpa using z
      have e:cenv.cells.lookup y=some c:=e
      rw [hcl] at e
      rcases w8 (PySem.mem_of_lookup e) with hm | ⟨_,h2,_⟩
      · rcases zF hm with hm | ⟨h1,_⟩
        · cases hm
        · have q:=ok.uniq _ h1
          rw [z] at q;cases q
      · rw [Heap.size_push] at h2
        exact Nat.le_of_succ_le h2
    · show b≠cenv.locals
      rw [hL];exact Nat.ne_of_lt (hfp b hb).2
    · have e:cenv.cells.lookup y=some c:=e
      rcases mem e with ⟨h1,_⟩ | ⟨h1,_⟩
      · exact (hfp b hb).1.2.2.2.2.1 y c h1 z
      · have h2:s.heap.objs.size+1≤b:=by rw [← z];exact h1
        exact absurd (Nat.lt_of_lt_of_le (hfp b hb).2 (Nat.le_of_succ_le h2)) (Nat.lt_irrefl _)
    · rcases (hfp b hb).1.2.2.2.1 with z | z
      · exact I.ok.noex b o e z
      · exact absurd (Nat.lt_of_lt_of_le (Heap.lt_size e) (Nat.le_trans I.ok.bsz z)) (Nat.lt_irrefl _)
    · rcases List.mem_cons.mp (I.stkSub b z) with z | z
      · exact (hfp b hb).1.2.1 z
      · exact (hfp b hb).1.2.2.1 z
  refine ⟨okB,rfl,I.bare,Un.kept kp,⟨fun _=>none,?_,fun i y av e1 e2 e3=>?_⟩,fun y c e=>?_,?_,fun y c e=>?_,fun p hp=>?_,I.hok.kept kp,by rw [uI];exact I.len⟩
  · show Heap.Ns _ cenv.locals _
    rw [hL]
    exact Heap.Ns.keeps (Heap.Ns.new ..) fun b o e=>pushCells_keeps _ _ _ _ e
  · obtain ⟨e2,hne⟩:=gU e2
    have hfr:scope.names.lookup y=some .free∧(cenv.kindOf y=some .cell∨cenv.kindOf y=some .free):=by
      have key:∀ k,cenv.scope.names.lookup y=some k→k=.local∨k=.cell∨k=.free→scope.names.lookup y=some .free∧(cenv.kindOf y=some .cell∨cenv.kindOf y=some .free):=fun k hk hk'=>by
        have hk0:=hk
        rw [hsc] at hk
        obtain ⟨k',e,r⟩:=uE hk
        have no:¬ (k'=.local∨k'=.cell):=fun hh=>by
          rcases ok.own _ (PySem.mem_of_lookup e) hh with e' | e'
          · obtain ⟨p,hp,hpy⟩:=List.mem_map.mp e'
            have e3:=ok.ix p hp
            have:p.1=y:=hpy
            rw [this] at e3
            exact hne (List.mem_map.mpr ⟨p,hp,d8 hN e3 e1⟩)
          · exact e' (List.mem_of_getElem? e1)
        rcases r with rfl | ⟨rfl,rfl⟩
        · rcases hk' with rfl | rfl | rfl
          · exact absurd (.inl rfl) no
          · exact absurd (.inr rfl) no
          · exact ⟨e,.inr hk0⟩
        · exact ⟨e,.inl hk0⟩
      have e3:Vis cenv.scope y:=e3
      rcases e3 with e3 | e3 | e3
      · exact key _ e3 (.inl rfl)
      · exact key _ e3 (.inr (.inl rfl))
      · exact key _ e3 (.inr (.inr rfl))
    obtain ⟨m,hn,hl⟩:=I.loc
    have hvis:Vis X.env.scope y:=(ok.free _ (PySem.mem_of_lookup hfr.1) rfl).elim (fun k=>.inr (.inl k)) (fun k=>.inr (.inr k))
    obtain ⟨w,r,q⟩:=hl i y av e1 e2 hvis
    refine ⟨w,r,.inr ⟨hfr.2,?_⟩⟩
    obtain ⟨c,h1,h2⟩:=look hfr.1
    rcases q with ⟨k,_⟩ | ⟨_,c',e',z⟩
    · have k:X.env.scope.names.lookup y=some .local:=k
      rcases ok.free _ (PySem.mem_of_lookup hfr.1) rfl with k' | k' <;> rw [show X.env.scope.names.lookup y=_ from k'] at k <;> cases k
    · rw [h2] at e';cases e'
      exact ⟨c,h1,z.keeps kp⟩
  · have e:cenv.cells.lookup y=some c:=e
    rcases mem e with ⟨h1,_⟩ | ⟨_,z⟩
    · obtain ⟨w,z⟩:=I.cell y c h1
      exact ⟨w,z.keeps kp⟩
    · exact ⟨_,z⟩
  · show H cenv.locals=none
    rw [hL];exact I.hok.fresh (Nat.le_refl _)
  · have e:cenv.cells.lookup y=some c:=e
    rcases mem e with ⟨h1,_⟩ | ⟨h1,_⟩
    · exact I.freeC y c h1
    · exact I.hok.fresh (Nat.le_of_succ_le h1)
  · exact absurd (show p∈([]:List (Addr×Obj))++[] from hp) (by simp)
theorem jg3 {E:Value→Shared→Prop} {D:Addr} {xs:List V} {y:V} {v:Value} {Q:Value→Shared→Prop} (I:Inv X pins σ H s) (hD:H D=some (.lst xs)) (hz:xs.length < sizeLine) (r:kI y v)
    (h:∀ s',Inv X pins σ (upd H D (.lst (xs++[y]))) s'→Q .none s'):wpAny (model X.prog X.w) X.A (call (.builtin "list.append") [.ref D,v]) Q E s:=by
  obtain ⟨hz',its,n,ri,e⟩:=I.hok D _ hD
  have hl:=ri.length
  refine append_at (hsz:=by rw [List.size_toArray];omega) e fun h' sb ho'=>?_
  refine h { s with heap:=h' } (I.write (t':=s.toks) (by rw [hD];trivial) (.inl rfl) (fun b u hb q=>(sb.2 b hb).trans q) ⟨_,ho'⟩ ⟨by rw [List.length_append];exact hz,its++[v],n+1,ri.append (.cons r .nil),?_⟩)
  rw [ho']
  simp
def PTs (X:Cx) (ifs:List Expr) (t:TT):Prop :=
  ∀ (pins:List (Addr×Obj)) (s:Shared) (σ:St) (H:Hp) (Q:Bool→Hp→Prop),Inv X pins σ H s→t σ H Q →
    wpAny (model X.prog X.w) X.A (forIn ifs true fun c r=>if r=true then do let ok ← isTrue c X.env (eval c X.env);pure (ForInStep.yield ok) else pure (ForInStep.yield r)) (TP X pins σ Q) X.xe s
def sE:TT:=fun _ H Q=>Q true H
theorem v4:PTs X [] sE:=fun _ _ _ H _ I h=>wpAny_tests_nil ⟨H,I,h⟩
theorem zN {c:Expr} {t:TT} (h:PT X c t):PTs X [c] t:=fun pins s σ H Q I hw=>wpAny_tests_one (h pins s σ H Q I hw)
end
theorem jxX {α:Type} {t:Sem α} {Q Q':α→Shared→Prop} {M:Model} {A:Around} {E:Value→Shared→Prop} {s:Shared} (h:wpAny M A t Q (fun _ _=>False) s) (hQ:∀ a s,Q a s→Q' a s):wpAny M A t Q' E s:=wpAny_mono h hQ fun _ _ z=>False.elim z
theorem cQ {prog:Program} {w:World} {A:Around} {R:Result→Shared→Prop} {s:Shared} {elt target iter:Expr} {ifs:List Expr} {scope:Scope} {pos:Pos} {it acc:Value} {env:Env} (I:Nat→Shared→Prop)
    (turn:∀ n s,I n s→wpAny (model prog w) A (pyNext it) (fun r s₁=>match r with
      | none=>R (.ok .next) s₁
      | some v=>wpAny (model prog w) A (letOwnedTupleGo target it v) (fun _ s₁'=>wpAny (model prog w) A (assign target env v) (fun _ s₂ =>
          wpAny (model prog w) A (forIn ifs true fun c r=>if r=true then do let ok ← isTrue c env (eval c env);pure (ForInStep.yield ok) else pure (ForInStep.yield r)) (fun ok s₃ =>
            if ok=true then wpAny (model prog w) A (eval elt env) (fun x s₄ =>
              wpAny (model prog w) A (call (.builtin "list.append") [acc,x]) (fun _ s₅=>∃ m,m < n∧I m s₅) (notedBy (model prog w) A env fun e s'=>R (.error e) s') s₄) (notedBy (model prog w) A env fun e s'=>R (.error e) s') s₃
            else ∃ m,m < n∧I m s₃) (notedBy (model prog w) A env fun e s'=>R (.error e) s') s₂) (notedBy (model prog w) A env fun e s'=>R (.error e) s') s₁') (notedBy (model prog w) A env fun e s'=>R (.error e) s') s₁) (notedBy (model prog w) A env fun e s'=>R (.error e) s') s)
    (n:Nat) (h:I n s) :
    codeAny (model prog w) A (.compLoop (.ListComp elt [⟨target,iter,ifs,0⟩] scope pos) 0 it acc env) R s:=by
  refine codeAny_loop rfl I (fun n s hI=>?_) n h
  show wpAny _ A ((compTurn (.ListComp elt [⟨target,iter,ifs,0⟩] scope pos) 0 it acc env).onRaise (fun x=>do noteFrame x env;theTreesLotGoes x)) _ _ s
  refine wpAny_noted ?_
  rw [compTurn_list]
  refine wpAny_bind (wpAny_standAt (wpAny_bind (wpAny_mono (turn n s hI) (fun r s₁ h₁=>?_) fun _ _ h'=>h')))
  cases r with
  | none=>exact wpAny_pure h₁
  | some v =>
    refine wpAny_bind (wpAny_mono h₁ (fun _ s₁' h₁'=>?_) fun _ _ h'=>h')
    refine wpAny_bind (wpAny_mono h₁' (fun _ s₂ h₂=>wpAny_bind (wpAny_mono h₂ (fun ok s₃ h₃=>?_) fun _ _ h'=>h')) fun _ _ h'=>h')
    cases ok with
    | false=>exact wpAny_pure ⟨rfl,h₃⟩
    | true =>
      exact wpAny_bind (wpAny_bind (wpAny_mono h₃ (fun x s₄ h₄=>wpAny_bind (wpAny_mono h₄ (fun _ s₅ h₅=>wpAny_pure (wpAny_pure ⟨rfl,h₅⟩)) fun _ _ h'=>h')) fun _ _ h'=>h'))
section
variable {X:Cx}
def tLc (wi:TI) (g:TG) (tt:TT) (te:TE) (vs:List Nat):TE:=fun σ H Q=>wi σ H fun J H1=>∀ D,H1 D=none→∃ W:Nat→Nat→Hp→Prop,(∃ m,W 0 m (upd H1 D (.lst [])))∧∀ i m H,W i m H →
  (J.stop i H∧Q (.ref D) H)∨(J.go i H∧∃ Nx:Hp→Prop,(∀ H',Nx H'→∃ m',m' < m∧W (i+1) m' H')∧∀ x H',J.yld i H x H'→g x (v5 σ vs) H' fun σ2 H2=>v5 σ2 vs=v5 σ vs∧tt σ2 H2 fun b H3 =>
    if b=true then te σ2 H3 fun y H4=>∃ acc,H4 D=some (.lst acc)∧acc.length < sizeLine∧Nx (upd H4 D (.lst (acc++[y]))) else Nx H3)
theorem eY {pins:List (Addr×Obj)} {s:Shared} {σ:St} {H:Hp} {Q:VK} {elt tg iter:Expr} {ifs:List Expr} {scope:Scope} {own:List (Str×Nat)} {pos pos':Pos} {wi:TI} {g:TG} {tt:TT} {te:TE} {use:Option (Value→Sem Unit)} {Qf:Value→Shared→Prop}
    (hc:X.calm=true) (hN:X.N.Nodup) (I:Inv X pins σ H s) (hi:PI X tg iter wi) (ok:pG X.N X.env.scope scope own)
    (hg:∀ (s:Shared) (H:Hp) (C:Addr) (cl:List (Str×Addr)) (fp:List Addr),PG (X.blk s H scope (compEnvC scope cl C X.env) fp) tg g) (ht:∀ (s:Shared) (H:Hp) (C:Addr) (cl:List (Str×Addr)) (fp:List Addr),PTs (X.blk s H scope (compEnvC scope cl C X.env) fp) ifs tt)
    (he:∀ (s:Shared) (H:Hp) (C:Addr) (cl:List (Str×Addr)) (fp:List Addr),PE (X.blk s H scope (compEnvC scope cl C X.env) fp) elt te) (hs:∀ x,foldedSetIterable iter X.env x=pure x)
    (h:tLc wi g tt te (own.map (·.2)) σ H Q)
    (hRR:∀ D C s' m H',Inv X pins σ H' s'→Q (.ref D) H'→s'.heap.Ns C m→qJ X pins H' C→compPost (model X.prog X.w) X.A X.xe use Qf (.ref D) C (.ok .next) s') :
    wpAny (model X.prog X.w) X.A (comprehension (.ListComp elt [⟨tg,iter,ifs,0⟩] scope pos) scope X.env pos' (newList []) false (eval iter X.env) use) Qf X.xe s:=by
  have hfree:∀ y∈scope.names,y.2=.free→∃ c,X.env.cells.lookup y.1=some c:=fun y hy e=>by
    rcases ok.free y hy e with k | k
    · exact I.ok.has _ (.inl k)
    · exact I.ok.has _ (.inr k)
  refine wpAny_comprehension_free (use:=use) rfl hs (yJ hfree) ok.kind (fun y hy e=>by rw [ok.uniq y hy,e])
    (thn (hi pins s σ H _ I h) fun xv s1 hx=>thn hx fun itv s2 h2=>?_)
  obtain ⟨it,fp,tn,J,H2,e,I2,T,st2,f2,q⟩:=h2
  subst e
  refine wpAny_newObj_type (mQ ?_) (by show 0≤sizeLine;decide)
  generalize hD:s2.heap.objs.size=D
  have hDn:H2 D=none:=I2.hok.fresh (Nat.le_of_eq hD)
  obtain ⟨W,⟨m0,w0⟩,turn⟩:=q D hDn
  generalize hs3:({ s2 with heap:=s2.heap.push { cls:=.type "list",data:=.seq ([]:List Value).toArray } }:Shared)=s3
  have I3:Inv X pins σ (upd H2 D (.lst [])) s3:=by
    rw [← hs3]
    refine I2.laid (t':=s2.toks) (fun b o e=>Heap.get?_push_of_some _ e) (Nat.le_of_eq hD) ⟨Nat.zero_le _,[],0,.nil,?_⟩
    rw [← hD]
    exact Heap.get?_push_size _ rfl
  have h3:s3.heap=s2.heap.push { cls:=.type "list",data:=.seq ([]:List Value).toArray }:=by rw [← hs3]
  have sz:∀ b∈fp,b < s2.heap.objs.size:=fun b hb=>by
    obtain ⟨o,e,_⟩:=T.obj _ _ st2 b hb
    exact Heap.lt_size e
  have f3:∀ b∈fp,qJ X pins (upd H2 D (.lst [])) b∧b < s3.heap.objs.size:=fun b hb=>by
    have hlt:=sz b hb
    refine ⟨⟨?_,(f2 b hb).2⟩,by rw [h3,Heap.size_push];exact Nat.lt_succ_of_lt hlt⟩
    rw [jV (by rw [← hD];exact Nat.ne_of_lt hlt)]
    exact (f2 b hb).1
  have st3:tn 0 s3.heap:=T.keep _ _ _ st2 fun b _ o e=>by rw [h3];exact Heap.get?_push_of_some _ e
  have I4:=pD I3 ok hN f3
  have pg:=hg s3 (upd H2 D (.lst [])) s3.heap.objs.size (cellsFrom (s3.heap.objs.size+1) scope.names (jE X.env.cells scope.names [])) fp
  have pt:=ht s3 (upd H2 D (.lst [])) s3.heap.objs.size (cellsFrom (s3.heap.objs.size+1) scope.names (jE X.env.cells scope.names [])) fp
  have pe:=he s3 (upd H2 D (.lst [])) s3.heap.objs.size (cellsFrom (s3.heap.objs.size+1) scope.names (jE X.env.cells scope.names [])) fp
  show codeAny _ _ (.compStart (.ListComp elt [⟨tg,iter,ifs,0⟩] scope pos) 0 (.ref it) (.ref D) (compEnvC scope (cellsFrom (s3.heap.objs.size+1) scope.names (jE X.env.cells scope.names [])) s3.heap.objs.size X.env)) (compPost (model X.prog X.w) X.A X.xe use Qf (.ref D) s3.heap.objs.size) { s3 with heap:=pushCells (s3.heap.push { cls:=.type "dict",data:=.dict #[] }) scope.names }
  have nfp:∀ b∈fp,(upd H2 D (.lst [])) b=none:=fun b hb=>(f3 b hb).1.1
  generalize hce:compEnvC scope (cellsFrom (s3.heap.objs.size+1) scope.names (jE X.env.cells scope.names [])) s3.heap.objs.size X.env=ce at I4 pg pt pe ⊢
  have cL:ce.locals=s3.heap.objs.size:=by subst hce;rfl
  generalize hH3:upd H2 D (.lst [])=H3 at I3 I4 pg pt pe w0 nfp f3
  generalize hs4:({ s3 with heap:=pushCells (s3.heap.push { cls:=.type "dict",data:=.dict #[] }) scope.names }:Shared)=s4 at I4 ⊢
  have st4:tn 0 s4.heap:=T.keep _ _ _ st3 fun b _ o e=>by rw [← hs4];exact pushCells_keeps _ _ _ _ (Heap.get?_push_of_some _ e)
  have stat:∀ {σ':St} {H':Hp} {s':Shared},Inv (X.blk s3 H3 scope ce fp) [] σ' H' s'→(∀ b∈fp,H' b=none)→∀ b∈fp,qJ (X.blk s3 H3 scope ce fp) [] H' b:=fun {σ' H' s'} I' hn b hb =>
    ⟨hn b hb,(I'.ok.exf b hb).1,I'.ok.exfs b hb,.inl hb,fun x c e=>(I'.ok.exf b hb).2 x c e,fun p hp=>absurd (show p∈([]:List (Addr×Obj))++[] from hp) (by simp)⟩
  have loop:codeAny (model X.prog X.w) X.A (.compLoop (.ListComp elt [⟨tg,iter,ifs,0⟩] scope pos) 0 (.ref it) (.ref D) ce) (compPost (model X.prog X.w) X.A X.xe use Qf (.ref D) s3.heap.objs.size) s4:=by
    refine cQ (fun n s'=>∃ i H',Inv (X.blk s3 H3 scope ce fp) [] (v5 σ (own.map (·.2))) H' s'∧tn i s'.heap∧(∀ b∈fp,H' b=none)∧W i n H') ?_ m0 ⟨0,H3,I4,st4,nfp,w0⟩
    rintro n s5 ⟨i,H5,I5,st5,n5,w5⟩
    rcases turn i n H5 w5 with ⟨stop,qq⟩ | ⟨go,Nx,hNx,step⟩
    · have td:=T.done (X.blk s3 H3 scope ce fp) rfl rfl rfl hc i [] s5 _ H5 (fun _ _=>False) I5 (stat I5 n5) st5 stop
      refine jxX td fun r s6 ⟨hr,I6⟩=>?_
      subst hr
      have I7:Inv X pins σ H5 s6:=I3.call' (ch:=fp) I6.os I6.base I6.hok I6.bare fun b hb=>⟨(f3 b hb).1.2.2.2.1,(f3 b hb).1.2.1,(f3 b hb).1.2.2.2.2.1,(f3 b hb).1.2.2.2.2.2⟩
      have nC:H5 s3.heap.objs.size=none:=by
        have z:H5 ce.locals=none:=I6.free
        rw [cL] at z
        exact z
      obtain ⟨m,hn,_⟩:=I6.loc
      have hn:s6.heap.Ns ce.locals m:=hn
      rw [cL] at hn
      exact hRR D s3.heap.objs.size s6 m H5 I7 qq hn (I3.fpOk (Nat.le_refl _) nC)
    · have ti:=T.item (X.blk s3 H3 scope ce fp) rfl rfl rfl hc i [] s5 _ H5 (fun _ _=>False) I5 (stat I5 n5) st5 go
      refine jxX ti fun r s6 ⟨u,hr,h6⟩=>?_
      subst hr
      refine jxX h6 fun _ s7 ⟨x,H7,I7,r7,y7,st7,n7⟩=>?_
      have I7':=I7.pinned (stat I7 n7) (T.obj _ _ st7)
      refine jxX (pg _ s7 _ H7 x u _ I7' r7 (step x H7 y7)) fun _ s8 ⟨σ8,H8,I8,hw8,q8⟩=>?_
      refine jxX (pt _ s8 σ8 H8 _ I8 q8) fun b s9 ⟨H9,I9,q9⟩=>?_
      have fin:∀ {s':Shared} {H':Hp},Inv (X.blk s3 H3 scope ce fp) ([]++wW fp s7.heap) σ8 H' s'→Nx H'→∃ m,m < n∧∃ i H',Inv (X.blk s3 H3 scope ce fp) [] (v5 σ (own.map (·.2))) H' s'∧tn i s'.heap∧(∀ b∈fp,H' b=none)∧W i m H':=fun {s' H'} I' nx=>by
        obtain ⟨m',hm,w'⟩:=hNx H' nx
        have pin':∀ b∈fp,∀ o,s7.heap.get? b=some o→s'.heap.get? b=some o∧H' b=none:=fun b hb o e =>
          let z:=I'.pin (b,o) (List.mem_append_right _ (List.mem_append_right _ (yY hb e)))
          ⟨z.1,z.2.1⟩
        have hl:(v5 σ (own.map (·.2))).length=σ8.length:=by rw [← hw8,uI]
        refine ⟨m',hm,i+1,H',(I'.unpinned (pins:=[])).weak hl (fun j v e=>?_),T.keep _ _ _ st7 fun b hb o e=>(pin' b hb o e).1,fun b hb=>?_,w'⟩
        · rw [← hw8] at e
          exact (gU e).1
        · obtain ⟨o,e,_⟩:=T.obj _ _ st7 b hb
          exact (pin' b hb o e).2
      cases b with
      | false =>
        simp only [Bool.false_eq_true,if_false] at q9 ⊢
        exact fin I9 q9
      | true =>
        simp only [if_true] at q9 ⊢
        refine jxX (pe _ s9 σ8 H9 _ I9 q9) fun z s10 ⟨yv,H10,I10,r10,acc,hD10,hz10,nx⟩=>?_
        exact jg3 (X:=X.blk s3 H3 scope ce fp) I10 hD10 hz10 r10 fun s11 I11=>fin I11 nx
  exact codeAny_compStart_list loop (T.self X.A 0 _ _ _ st4 loop)
theorem jnV {elt tg iter:Expr} {ifs:List Expr} {scope:Scope} {own:List (Str×Nat)} {pos:Pos} {wi:TI} {g:TG} {tt:TT} {te:TE} (hc:X.calm=true) (hN:X.N.Nodup) (hi:PI X tg iter wi) (ok:pG X.N X.env.scope scope own)
    (hg:∀ (s:Shared) (H:Hp) (C:Addr) (cl:List (Str×Addr)) (fp:List Addr),PG (X.blk s H scope (compEnvC scope cl C X.env) fp) tg g) (ht:∀ (s:Shared) (H:Hp) (C:Addr) (cl:List (Str×Addr)) (fp:List Addr),PTs (X.blk s H scope (compEnvC scope cl C X.env) fp) ifs tt)
    (he:∀ (s:Shared) (H:Hp) (C:Addr) (cl:List (Str×Addr)) (fp:List Addr),PE (X.blk s H scope (compEnvC scope cl C X.env) fp) elt te) (hs:∀ x,foldedSetIterable iter X.env x=pure x:=by intro _;rfl) :
    PE X (.ListComp elt [⟨tg,iter,ifs,0⟩] scope pos) (tLc wi g tt te (own.map (·.2))):=by
  intro pins s σ H Q I h
  rw [eval_ListComp]
  refine eY hc hN I hi ok hg ht he hs h fun D C s' m H' I' q hn f=>⟨m,hn,fun h'' sb=>?_⟩
  obtain ⟨f0,f1,f2,f3,f4,f5⟩:=f
  exact ⟨.ref D,H',I'.turned (t':=s'.toks) (fun b o hb e=>(sb.2 b hb).trans e) f0 f1 f3 f4 f5,rfl,q⟩
theorem jjZ {i:Nat} {y:Str} {py:Pos} {elt tg iter:Expr} {ifs:List Expr} {scope:Scope} {own:List (Str×Nat)} {pos spos:Pos} {wi:TI} {g:TG} {tt:TT} {te:TE} (hc:X.calm=true) (hN:X.N.Nodup) (hy:X.N[i]? = some y) (hyl:X.env.scope.names.lookup y=some .local)
    (hsw:swapsWith (.ListComp elt [⟨tg,iter,ifs,0⟩] scope pos) (some (.Name y py)) spos.line X.env=pure true) (hi:PI X tg iter wi) (ok:pG X.N X.env.scope scope own)
    (hg:∀ (s:Shared) (H:Hp) (C:Addr) (cl:List (Str×Addr)) (fp:List Addr),PG (X.blk s H scope (compEnvC scope cl C X.env) fp) tg g) (ht:∀ (s:Shared) (H:Hp) (C:Addr) (cl:List (Str×Addr)) (fp:List Addr),PTs (X.blk s H scope (compEnvC scope cl C X.env) fp) ifs tt)
    (he:∀ (s:Shared) (H:Hp) (C:Addr) (cl:List (Str×Addr)) (fp:List Addr),PE (X.blk s H scope (compEnvC scope cl C X.env) fp) elt te) (hs:∀ x,foldedSetIterable iter X.env x=pure x:=by intro _;rfl) :
    PS X (.Assign [.Name y py] (.ListComp elt [⟨tg,iter,ifs,0⟩] scope pos) spos) (wI (tLc wi g tt te (own.map (·.2))) (jI i)):=by
  intro pins s σ H D I h
  rw [exec_Assign_Name_used _ _ _ _ hsw]
  refine wpAny_bind (wpAny_standAt (wpAny_bind ?_))
  show wpAny _ X.A (do let _ ← comprehension (.ListComp elt [⟨tg,iter,ifs,0⟩] scope pos) scope X.env (firstIterPos [⟨tg,iter,ifs,0⟩] pos) (newList []) false (eval iter X.env) (some (assign (.Name y py) X.env))) _ _ s
  have h:tLc wi g tt te (own.map (·.2)) σ H (fun x H1=>jI i x σ H1 D.nx):=h
  refine wpAny_bind (thn (eY (Qf:=fun _ s'=>SP X pins D .next s') hc hN I hi ok hg ht he hs h fun L C s' m H' I' q hn f=>?_) fun _ s' hq=>wpAny_pure (wpAny_pure hq))
  show wpAny _ _ (assign (.Name y py) X.env (.ref L)) _ _ _
  refine wpAny_assign_Name (rT (v:=V.ref L) I' hN hy (.inl hyl) rfl (fun s2 I2 ⟨a,sb,ha⟩=>?_) (.inr hyl))
  obtain ⟨f0,f1,f2,f3,f4,f5⟩:=f
  have haC:C≠a:=by
    rcases ha with z | z
    · rw [z];exact f1
    · exact fun e=>f4 y a z e.symm
  refine ⟨m,hn.sameBut sb haC,fun h3 sb3=>?_⟩
  exact ⟨_,H',I2.turned (t':=s2.toks) (fun b o hb e=>(sb3.2 b hb).trans e) f0 f1 f3 f4 f5,q⟩
theorem jq1 {elt:Expr} {gs:List Comprehension} {scope:Scope} {pos py:Pos} {y:Str} {l:Nat} {env:Env} (hk:env.scope.kind=.function) (hy:env.scope.names.lookup y=some .local) (hl:(py.line == pos.line)=true)
    (ha:(scope.names.any fun (n,k)=>n == y && (k == .local || k == .cell))=false):swapsWith (.ListComp elt gs scope pos) (some (.Name y py)) l env=pure true:=by
  have ky:env.kindOf y=some .local:=hy
  have hb:env.blockKind=.function:=by unfold Env.blockKind;rw [hk];rfl
  unfold swapsWith
  simp only [hb,ky,ha,Expr.pos,hl]
  rfl
end
def js0 (N:List Str) (sc scope:Scope) (own:List (Str×Nat)):Bool :=
  (match scope.kind with | .function=>true | _=>false) && (scope.names.all fun y=>decide (scope.names.lookup y.1=some y.2)) && (own.all fun p=>decide (N[p.2]? = some p.1)) &&
    (scope.names.all fun y=>match y.2 with
      | .free=>(match sc.names.lookup y.1 with | some .cell=>true | some .free=>true | _=>false)
      | .local=>decide (y.1∈own.map (·.1)) || decide (y.1∉N)
      | .cell=>decide (y.1∈own.map (·.1)) || decide (y.1∉N)
      | _=>true)
theorem nJ {N:List Str} {sc scope:Scope} {own:List (Str×Nat)} (h:js0 N sc scope own=true):pG N sc scope own:=by
  unfold js0 at h
  simp only [Bool.and_eq_true,List.all_eq_true,decide_eq_true_eq] at h
  obtain ⟨⟨⟨h1,h2⟩,h3⟩,h4⟩:=h
  refine ⟨?_,h2,h3,fun y hy e=>?_,fun y hy e=>?_⟩
  · split at h1
    · assumption
    · cases h1
  · have q:=h4 y hy
    simp only [e] at q
    split at q <;> first | exact .inl (by assumption) | exact .inr (by assumption) | cases q
  · have q:=h4 y hy
    rcases e with e | e <;> (simp only [e,Bool.or_eq_true,decide_eq_true_eq] at q;exact q)
section
variable {prog:Program} {w:World} {A:Around} {R:Result→Shared→Prop} {s:Shared} {elt t0 i0 t1 i1:Expr} {ifs0 ifs1:List Expr} {scope:Scope} {pos:Pos} {it acc:Value} {env:Env}
end
section
variable {X:Cx}
end
section
variable {κ:Type} [DecidableEq κ]
def z9 (kvs:List (κ×V)) (k:κ):Option V:=(kvs.find? fun kv=>decide (kv.1=k)).map (·.2)
def wL (kvs:List (κ×V)) (k:κ) (v:V):List (κ×V) :=
  if (kvs.any fun kv=>decide (kv.1=k))=true then kvs.map (fun kv=>if kv.1=k then (kv.1,v) else kv) else kvs++[(k,v)]
theorem vO {p:κ×V} {r:List (κ×V)} {k:κ} (e:p.1=k):z9 (p :: r) k=some p.2:=by simp [z9,List.find?_cons,e]
theorem vZ {p:κ×V} {r:List (κ×V)} {k:κ} (e:¬ p.1=k):z9 (p :: r) k=z9 r k:=by simp [z9,List.find?_cons,e]
theorem xD (k:κ):∀ kvs:List (κ×V),(kvs.any fun kv=>decide (kv.1=k))=(z9 kvs k).isSome
  | []=>rfl
  | p :: r=>by
    rw [List.any_cons]
    by_cases e:p.1=k
    · simp only [vO e,decide_eq_true e,Bool.true_or,Option.isSome_some]
    · rw [vZ e,decide_eq_false e,Bool.false_or];exact xD k r
theorem tK (k j:κ) (y:V):∀ kvs:List (κ×V),z9 (kvs.map fun kv=>if kv.1=k then (kv.1,y) else kv) j=(z9 kvs j).map fun x=>if j=k then y else x
  | []=>rfl
  | p :: r=>by
    have ih:=tK k j y r
    rw [List.map_cons]
    by_cases h:p.1=k
    · rw [if_pos h]
      by_cases e:p.1=j
      · rw [vO (p:=(p.1,y)) e,vO e,Option.map_some,if_pos (e.symm.trans h)]
      · rw [vZ (p:=(p.1,y)) e,vZ e,ih]
    · rw [if_neg h]
      by_cases e:p.1=j
      · rw [vO (p:=p) e,vO e,Option.map_some,if_neg (fun z=>h (e.trans z))]
      · rw [vZ (p:=p) e,vZ e,ih]
theorem r9 (k j:κ) (y:V):∀ kvs:List (κ×V),z9 kvs k=none→z9 (kvs++[(k,y)]) j=if j=k then some y else z9 kvs j
  | [],_=>by
    by_cases e:k=j
    · rw [if_pos e.symm];exact vO (p:=(k,y)) e
    · rw [if_neg (fun z=>e z.symm)];exact vZ (p:=(k,y)) e
  | p :: r,hn=>by
    rw [List.cons_append]
    have hk:¬ p.1=k:=fun z=>by rw [vO z] at hn;cases hn
    rw [vZ hk] at hn
    have ih:=r9 k j y r hn
    by_cases e:p.1=j
    · rw [vO e,vO e,if_neg (fun z=>hk (e.trans z))]
    · rw [vZ e,vZ e,ih]
theorem xB (kvs:List (κ×V)) (k j:κ) (y:V):z9 (wL kvs k y) j=if j=k then some y else z9 kvs j:=by
  unfold wL
  by_cases a:(kvs.any fun kv=>decide (kv.1=k))=true
  · rw [if_pos a,tK]
    rw [xD] at a
    by_cases e:j=k
    · obtain ⟨x,hx⟩:=Option.isSome_iff_exists.mp a
      rw [if_pos e,e,hx,Option.map_some,if_pos rfl]
    · rw [if_neg e]
      cases z9 kvs j with
      | none=>rfl
      | some x=>rw [Option.map_some,if_neg e]
  · rw [if_neg a]
    refine r9 k j y kvs ?_
    rw [xD] at a
    cases q:z9 kvs k with
    | none=>rfl
    | some x=>rw [q] at a;exact (a rfl).elim
theorem vJ (kvs:List (κ×V)) (k:κ) (v:V):(wL kvs k v).length≤kvs.length+1:=by
  unfold wL
  split
  · rw [List.length_map];omega
  · rw [List.length_append,List.length_cons,List.length_nil];omega
theorem pW.isSome_eq {o:Option V} {u:Option Value} (r:pW o u):o.isSome=u.isSome:=by
  cases o with
  | none=>cases u with
    | none=>rfl
    | some _=>exact (show False from r).elim
  | some _=>cases u with
    | none=>exact (show False from r).elim
    | some _=>rfl
theorem KV.val {kvs:List (κ×V)} {vs:List (κ×Value)} (r:KV kvs vs) (k:κ):pW (z9 kvs k) (valueAt vs k):=by
  unfold KV at r
  induction r with
  | nil=>exact True.intro
  | @cons p q ps qs h t ih =>
    obtain ⟨h1,h2⟩:=h
    by_cases e:p.1=k
    · have e':q.1=k:=h1.symm.trans e
      have b:valueAt (q :: qs) k=some q.2:=by simp [valueAt,List.find?_cons,e']
      rw [vO e,b];exact h2
    · have e':¬ q.1=k:=fun z=>e (h1.trans z)
      have b:valueAt (q :: qs) k=valueAt qs k:=by simp [valueAt,List.find?_cons,e']
      rw [vZ e,b];exact ih
theorem KV.any {kvs:List (κ×V)} {vs:List (κ×Value)} (r:KV kvs vs) (k:κ):(kvs.any fun kv=>decide (kv.1=k))=vs.any fun kv=>decide (kv.1=k):=by
  unfold KV at r
  induction r with
  | nil=>rfl
  | cons h t ih=>rw [List.any_cons,List.any_cons,ih,h.1]
theorem KV.repl {kvs:List (κ×V)} {vs:List (κ×Value)} (r:KV kvs vs) (k:κ) {y:V} {u:Value} (ry:kI y u) :
    KV (kvs.map fun kv=>if kv.1=k then (kv.1,y) else kv) (vs.map fun kv=>if kv.1=k then (kv.1,u) else kv):=by
  unfold KV at r ⊢
  induction r with
  | nil=>exact .nil
  | @cons p q ps qs h t ih =>
    rw [List.map_cons,List.map_cons]
    refine .cons ?_ ih
    obtain ⟨h1,h2⟩:=h
    by_cases e:p.1=k
    · rw [if_pos e,if_pos (h1.symm.trans e)];exact ⟨h1,ry⟩
    · rw [if_neg e,if_neg (fun z=>e (h1.trans z))];exact ⟨h1,h2⟩
theorem KV.put {kvs:List (κ×V)} {vs:List (κ×Value)} (r:KV kvs vs) (k:κ) {y:V} {u:Value} (ry:kI y u):KV (wL kvs k y) (stored vs k u):=by
  unfold wL stored
  rw [r.any k]
  by_cases e:(vs.any fun kv=>decide (kv.1=k))=true
  · rw [if_pos e,if_pos e];exact r.repl k ry
  · rw [if_neg e,if_neg e];exact Paired.snoc r ⟨rfl,ry⟩
theorem KV.length {kvs:List (κ×V)} {vs:List (κ×Value)} (r:KV kvs vs):kvs.length=vs.length:=Paired.length r
end
theorem tR {P:Program} {w:World} {k:Key} {u:Value} (r:kI (kV k) u):(j5 P w).is k u=true:=by
  cases k with
  | inl i=>obtain ⟨t,e⟩:=(show ∃ t,u=Value.int i t from r);subst e;exact mK P w i t
  | inr x=>obtain ⟨t,e⟩:=(show ∃ t,u=Value.str x t from r);subst e;exact mV P w x t
theorem cR {P:Program} {w:World}:∀ {ks:List Key} {us:List Value},kG (ks.map kV) us→ItemsAre (j5 P w) ks us
  | [],_,r=>by rw [List.map_nil] at r;cases r;exact .nil
  | k :: ks,_,r=>by
    rw [List.map_cons] at r
    cases r with
    | cons h t=>exact .cons (tR h) (cR t)
abbrev KT (H:Hp):List (List Key×V)→List (List Key×Addr×Value)→Prop:=Paired fun p q=>p.1=q.1∧H q.2.1=some (.tup (p.1.map kV))∧kI p.2 q.2.2
theorem KT.val {H:Hp} {kvs:List (List Key×V)} {xs:List (List Key×Addr×Value)} (r:KT H kvs xs) (k:List Key):pW (z9 kvs k) ((atKey xs k).map (·.2)):=by
  induction r with
  | nil=>exact True.intro
  | @cons p q ps qs h t ih =>
    obtain ⟨h1,_,h2⟩:=h
    by_cases e:p.1=k
    · have e':q.1=k:=h1.symm.trans e
      have b:atKey (q :: qs) k=some q.2:=by simp [atKey,List.find?_cons,e']
      rw [vO e,b];exact h2
    · have e':¬ q.1=k:=fun z=>e (h1.trans z)
      have b:atKey (q :: qs) k=atKey qs k:=by simp [atKey,List.find?_cons,e']
      rw [vZ e,b];exact ih
theorem KT.repl {H:Hp} {kvs:List (List Key×V)} {xs:List (List Key×Addr×Value)} (r:KT H kvs xs) (k:List Key) {y:V} {u:Value} (ry:kI y u) :
    KT H (kvs.map fun kv=>if kv.1=k then (kv.1,y) else kv) (xs.map (putAt k u)):=by
  induction r with
  | nil=>exact .nil
  | @cons p q ps qs h t ih =>
    rw [List.map_cons,List.map_cons]
    refine .cons ?_ ih
    obtain ⟨h1,h2,h3⟩:=h
    unfold putAt
    by_cases e:p.1=k
    · rw [if_pos e,if_pos (h1.symm.trans e)];exact ⟨h1,h2,ry⟩
    · rw [if_neg e,if_neg (fun z=>e (h1.trans z))];exact ⟨h1,h2,h3⟩
theorem KT.put {H:Hp} {kvs:List (List Key×V)} {xs:List (List Key×Addr×Value)} (r:KT H kvs xs) (k:List Key) {b:Addr} {y:V} {u:Value} (hb:H b=some (.tup (k.map kV))) (ry:kI y u) :
    KT H (wL kvs k y) (storedH xs k b u):=by
  have e:(kvs.any fun kv=>decide (kv.1=k))=(atKey xs k).isSome:=by
    rw [xD,(r.val k).isSome_eq,Option.isSome_map]
  unfold wL storedH
  rw [e]
  by_cases q:(atKey xs k).isSome=true
  · rw [if_pos q,if_pos q];exact r.repl k ry
  · rw [if_neg q,if_neg q];exact Paired.snoc r ⟨rfl,hb,ry⟩
theorem KT.keeps {H H':Hp} {kvs:List (List Key×V)} {xs:List (List Key×Addr×Value)} (r:KT H kvs xs) (ht:∀ b ys,H b=some (.tup ys)→H' b=some (.tup ys)):KT H' kvs xs :=
  Paired.mapP r fun _ _ z=>⟨z.1,ht _ _ z.2.1,z.2.2⟩
section
variable {P:Program} {w:World} {H:Hp} {h:Heap} {a:Addr}
theorem jd7 {u:HO} (ok:HOk P w H h) (e:Rd H a u):kS P w H h a u:=e.ok ok
theorem pL {kvs:List (Key×V)} (ok:HOk P w H h) (e:Rd H a (.dK kvs)):kvs.length≤sizeLine∧(a == sysModules)=false∧∃ vs,KV kvs vs∧h.DictOf (j5 P w) a vs :=
  show kS P w H h a (.dK kvs) from jd7 ok e
theorem jpQ {kvs:List (Key×V)} (ok:HOk P w H h) (e:H a=some (.dK kvs)):kvs.length≤sizeLine∧(a == sysModules)=false∧∃ vs,KV kvs vs∧h.DictOf (j5 P w) a vs:=pL ok (.inl e)
theorem x5 {ks:List Key} (ok:HOk P w H h) (e:H a=some (.tup (ks.map kV))):(tupleKind (j5 P w)).is h ks a:=by
  obtain ⟨_,its,r,o,h1,h2,n,h3⟩:=(show kS P w H h a (.tup (ks.map kV)) from ok a _ e)
  exact ⟨o,its.toArray,n,h1,h2,h3,by simpa using cR r⟩
theorem tQ {kvs:List (List Key×V)} (ok:HOk P w H h) (e:Rd H a (.dT kvs)):kvs.length≤sizeLine∧(a == sysModules)=false ∧
    ∃ xs,KT H kvs xs∧h.DictOfH (tupleKind (j5 P w)) a xs:=by
  obtain ⟨z,y,xs,r,o,es,ep,h1,h2,h3,h4,h5⟩:=(show kS P w H h a (.dT kvs) from jd7 ok e)
  refine ⟨z,y,xs,r,o,es,ep,h1,h2,h3,h4,fun x hx=>?_,h5⟩
  have all:∀ {l:List (List Key×V)} {m:List (List Key×Addr×Value)},KT H l m→∀ x∈m,(tupleKind (j5 P w)).is h x.1 x.2.1:=by
    intro l m q
    induction q with
    | nil=>intro x hx;exact nomatch hx
    | @cons p q ps qs hq t ih =>
      intro x hx
      rcases List.mem_cons.mp hx with e | hx
      · subst e
        exact x5 ok (by rw [← hq.1];exact hq.2.1)
      · exact ih x hx
  exact all r x hx
theorem jw3 {kvs:List (List Key×V)} (ok:HOk P w H h) (e:H a=some (.dT kvs)):kvs.length≤sizeLine∧(a == sysModules)=false ∧
    ∃ xs,KT H kvs xs∧h.DictOfH (tupleKind (j5 P w)) a xs:=tQ ok (.inl e)
end
def qO (H:Hp) (a:Addr) (y:V) (r:Option V):Prop :=
  (∃ kvs k,Rd H a (.dK kvs)∧y=kV k∧r=z9 kvs k)∨∃ kvs k b,Rd H a (.dT kvs)∧y=.ref b∧H b=some (.tup (k.map kV))∧r=z9 kvs k
def lR (H:Hp) (a:Addr) (y v:V) (H':Hp):Prop :=
  (∃ kvs k,H a=some (.dK kvs)∧y=kV k∧kvs.length < sizeLine∧H'=upd H a (.dK (wL kvs k v))) ∨
  ∃ kvs k b,H a=some (.dT kvs)∧y=.ref b∧H b=some (.tup (k.map kV))∧kvs.length < sizeLine∧H'=upd H a (.dT (wL kvs k v))
theorem qO.k {H:Hp} {a:Addr} {kvs:List (Key×V)} {k:Key} (e:H a=some (.dK kvs)):qO H a (kV k) (z9 kvs k):=.inl ⟨kvs,k,.inl e,rfl,rfl⟩
theorem qO.t {H:Hp} {a b:Addr} {kvs:List (List Key×V)} {k:List Key} (e:H a=some (.dT kvs)) (eb:H b=some (.tup (k.map kV))):qO H a (.ref b) (z9 kvs k):=.inr ⟨kvs,k,b,.inl e,rfl,eb,rfl⟩
theorem lR.k {H:Hp} {a:Addr} {kvs:List (Key×V)} {k:Key} {v:V} (e:H a=some (.dK kvs)) (hl:kvs.length < sizeLine):lR H a (kV k) v (upd H a (.dK (wL kvs k v))):=.inl ⟨kvs,k,e,rfl,hl,rfl⟩
theorem lR.t {H:Hp} {a b:Addr} {kvs:List (List Key×V)} {k:List Key} {v:V} (e:H a=some (.dT kvs)) (eb:H b=some (.tup (k.map kV))) (hl:kvs.length < sizeLine) :
    lR H a (.ref b) v (upd H a (.dT (wL kvs k v))):=.inr ⟨kvs,k,b,e,rfl,eb,hl,rfl⟩
section
variable {X:Cx} {pins:List (Addr×Obj)} {σ:St} {H:Hp} {s:Shared} {a:Addr} {y v:V} {u r:Value} {o:Option V} {A:Around} {E:Value→Shared→Prop}
theorem Inv.big (I:Inv X pins σ H s):sysModules < s.heap.objs.size:=by
  have h:mainGlobals < s.heap.objs.size:=(I.mod.glob.keeps I.bk).lt
  exact Nat.lt_trans (by decide) h
theorem aW {Q:Value→Shared→Prop} (hu:A.units+1 < cLine) (I:Inv X pins σ H s) (g:qO H a y (some v)) (ry:kI y u) (h:∀ w' s',Inv X pins σ H s'→kI v w'→Q w' s') :
    wpAny (model X.prog X.w) A (getItem (.ref a) u) Q E s:=by
  rcases g with ⟨kvs,k,e,ey,l⟩ | ⟨kvs,k,b,e,ey,eb,l⟩
  · subst ey
    obtain ⟨z,hd,vs,rel,dd⟩:=pL I.hok e
    obtain ⟨w',hw,rw'⟩:=pW.some_of (v:=v) (o:=valueAt vs k) (by rw [l];exact rel.val k)
    exact wpAny_getItem_of (tR ry) dd.mapOf hw (h w' _ (I.tok _) rw')
  · subst ey
    cases (show u=Value.ref b from ry)
    obtain ⟨z,hd,xs,rel,dd⟩:=tQ I.hok e
    obtain ⟨w',hw,rw'⟩:=pW.some_of (v:=v) (o:=(atKey xs k).map (·.2)) (by rw [l];exact rel.val k)
    obtain ⟨p,hp,hp2⟩:=Option.map_eq_some_iff.mp hw
    refine wpAny_getItem_heap (tupleKind_room_in1 hu) (x5 I.hok eb) dd hp ?_
    rw [hp2]
    exact h w' _ (I.tok _) rw'
theorem jsV {Q:Value→Shared→Prop} (hu:A.units+1 < cLine) (I:Inv X pins σ H s) (g:qO H a y o) (ry:kI y u) (h:∀ s',Inv X pins σ H s'→Q (.bool o.isSome) s') :
    wpAny (model X.prog X.w) A (compareOp .In u (.ref a)) Q E s:=by
  rcases g with ⟨kvs,k,e,ey,l⟩ | ⟨kvs,k,b,e,ey,eb,l⟩
  · subst ey
    obtain ⟨z,hd,vs,rel,dd⟩:=pL I.hok e
    refine wpAny_in_of (tR ry) hd dd.mapOf ?_
    rw [← (rel.val k).isSome_eq,← l]
    exact h _ (I.tok _)
  · subst ey
    cases (show u=Value.ref b from ry)
    obtain ⟨z,hd,xs,rel,dd⟩:=tQ I.hok e
    refine wpAny_in_heap (tupleKind_room_in1 hu) (x5 I.hok eb) hd dd ?_
    have q:=(rel.val k).isSome_eq
    rw [Option.isSome_map] at q
    rw [← q,← l]
    exact h _ (I.tok _)
theorem jw2 {Q:Value→Shared→Prop} (hu:A.units+1 < cLine) (I:Inv X pins σ H s) (g:qO H a y o) (ry:kI y u) (h:∀ s',Inv X pins σ H s'→Q (.bool (!o.isSome)) s') :
    wpAny (model X.prog X.w) A (compareOp .NotIn u (.ref a)) Q E s:=by
  rcases g with ⟨kvs,k,e,ey,l⟩ | ⟨kvs,k,b,e,ey,eb,l⟩
  · subst ey
    obtain ⟨z,hd,vs,rel,dd⟩:=pL I.hok e
    refine wpAny_notIn_of (tR ry) hd dd.mapOf ?_
    rw [← (rel.val k).isSome_eq,← l]
    exact h _ (I.tok _)
  · subst ey
    cases (show u=Value.ref b from ry)
    obtain ⟨z,hd,xs,rel,dd⟩:=tQ I.hok e
    refine wpAny_notIn_heap (tupleKind_room_in1 hu) (x5 I.hok eb) hd dd ?_
    have q:=(rel.val k).isSome_eq
    rw [Option.isSome_map] at q
    rw [← q,← l]
    exact h _ (I.tok _)
theorem dN {h':Heap} {t':Nat} {ob:HO} (I:Inv X pins σ H s) (mu:Mut (H a)) (hs:Heap.SameBut a s.heap h') (he:∃ q,h'.get? a=some q) (new:kS X.prog X.w (upd H a ob) h' a ob) :
    Inv X pins σ (upd H a ob) { s with heap:=h',toks:=t' } :=
  I.write (x:=a) (e:=a) mu (.inl rfl) (fun b q hb z=>(hs.2 b hb).trans z) he new
theorem jgK {P:Program} {w:World} {H':Hp} {h':Heap} {kvs:List (Key×V)} {vs:List (Key×Value)} (z:kvs.length≤sizeLine) (hd:(a == sysModules)=false) (rel:KV kvs vs) (dd:h'.DictOf (j5 P w) a vs) :
    kS P w H' h' a (.dK kvs):=⟨z,hd,vs,rel,dd⟩
theorem aQ {H':Hp} {Q:Unit→Shared→Prop} (hu:A.units+1 < cLine) (I:Inv X pins σ H s) (g:lR H a y v H') (ry:kI y u) (rv:kI v r) (h:∀ s',Inv X pins σ H' s'→Q () s') :
    wpAny (model X.prog X.w) A (setItem (.ref a) u r) Q E s:=by
  rcases g with ⟨kvs,k,e,ey,l,eH⟩ | ⟨kvs,k,b,e,ey,eb,l,eH⟩
  · subst ey eH
    obtain ⟨z,hd,vs,rel,dd⟩:=jpQ I.hok e
    have hz:vs.length≤sizeLine:=by rw [← rel.length];exact z
    have hl:(wL kvs k v).length≤sizeLine:=by have:=vJ kvs k v;omega
    refine wpAny_setItem_pairs (hsz:=hz) (tR ry) dd fun h' dd' hs=>h _ ?_
    have he:∃ q,h'.get? a=some q:=let ⟨q,_,_,hq,_⟩:=dd';⟨q,hq⟩
    exact dN I (by rw [e];exact True.intro) hs he (jgK hl hd (rel.put k rv) dd')
  · subst ey eH
    cases (show u=Value.ref b from ry)
    obtain ⟨z,hd,xs,rel,dd⟩:=jw3 I.hok e
    have hz:xs.length≤sizeLine:=by rw [← Paired.length rel];exact z
    have hl:(wL kvs k v).length≤sizeLine:=by have:=vJ kvs k v;omega
    refine wpAny_setItem_heap (hsz:=hz) (tupleKind_room_in1 hu) (x5 I.hok eb) dd fun h' dd' hs=>h _ ?_
    obtain ⟨q,es,ep,hq,h2,h3,h4,_,h5⟩:=dd'
    refine dN I (by rw [e];exact True.intro) hs ⟨q,hq⟩ ⟨hl,hd,_,(rel.put k eb rv).keeps fun c ys ec=>?_,q,es,ep,hq,h2,h3,h4,h5⟩
    rw [jV (j1 ec e (fun z=>nomatch z))]
    exact ec
end
section
variable {X:Cx} {pins:List (Addr×Obj)} {σ:St} {H:Hp} {s:Shared} {a:Addr} {kvs:List (Key×V)} {k:Key} {u:Value} {A:Around} {E:Value→Shared→Prop}
end
def jnY (i:Expr):Prop:=∀ ov iv,subscripted i false ov iv=operate [ov,iv] (getItem ov iv)
theorem juY {prog:Program} {w:World} {A:Around} {E:Value→Shared→Prop} {s:Shared} {env:Env} {value slice:Expr} {pos:Pos} {T id:String} {Q:Value→Shared→Prop}
    (hl:typeLookup (.type T) "__getitem__"=pure (some (.builtin id))) (hs:jnY slice)
    (h:wpAny (model prog w) A (eval value env) (fun o s₁=>wpAny (model prog w) A (eval slice env) (fun i s₂=>s₂.TypeIs o T∧wpAny (model prog w) A (getItem o i) Q E s₂) E s₁) E s) :
    wpAny (model prog w) A (eval (.Subscript value slice pos) env) Q E s:=by
  refine Subscript_ (wpAny_mono h (fun o s₁ h₁=>wpAny_mono h₁ (fun i s₂ h₂=>?_) fun _ _ x=>x) fun _ _ x=>x)
  obtain ⟨hT,h₂⟩:=h₂
  unfold subscriptTail
  refine wpAny_bind ?_
  rw [getitemInPython_of_ne hT.not_modules]
  refine wpAny_bind (wpAny_specialOf hT hl ?_)
  have fin:wpAny (model prog w) A (subscripted slice false o i) (fun r s₃=>wpAny (model prog w) A (letTemporaryGo value o r >>= fun _=>pure r) Q E s₃) E s₂:=by
    rw [hs o i]
    exact wpAny_operating (wpAny_mono h₂ (fun r s₃ h₃=>wpAny_bind (wpAny_letTemporaryGo (wpAny_pure h₃))) fun _ _ x=>x)
  first
    | exact wpAny_pure (wpAny_bind fin)
    | exact wpAny_bind (wpAny_pure (wpAny_bind fin))
    | exact wpAny_bind fin
theorem pT {X:Cx} {pins:List (Addr×Obj)} {σ:St} {H:Hp} {s:Shared} {a:Addr} {y:V} {o:Option V} (I:Inv X pins σ H s) (g:qO H a y o):s.TypeIs (.ref a) "dict":=by
  rcases g with ⟨kvs,k,e,_,_⟩ | ⟨kvs,k,b,e,_,_,_⟩
  · obtain ⟨_,_,vs,_,dd⟩:=pL I.hok e
    exact dd.typeIs
  · obtain ⟨_,_,xs,_,dd⟩:=tQ I.hok e
    exact dd.typeIs
def yM (td ty:TE):TE:=fun σ H Q=>td σ H fun x H1=>ty σ H1 fun y H2=>∃ a v,x=.ref a∧qO H2 a y (some v)∧Q v H2
def jp7 (ty td:TE):TE:=fun σ H Q=>ty σ H fun y H1=>td σ H1 fun x H2=>∃ a o,x=.ref a∧qO H2 a y o∧Q (.bl o.isSome) H2
def mL (ty td:TE):TE:=fun σ H Q=>ty σ H fun y H1=>td σ H1 fun x H2=>∃ a o,x=.ref a∧qO H2 a y o∧Q (.bl (!o.isSome)) H2
def t9 (td ty tv:TE):TS:=fun D σ H=>tv σ H fun v H1=>td σ H1 fun x H2=>ty σ H2 fun y H3=>∃ a H4,x=.ref a∧lR H3 a y v H4∧D.nx σ H4
section
variable {X:Cx} {o i e value:Expr} {pos pos' tpos:Pos} {td ty tv:TE}
theorem vI (hu:X.A.units+1 < cLine) (ho:PE X o td) (hi:PE X i ty) (hs:jnY i):PE X (.Subscript o i pos) (yM td ty):=by
  intro pins s σ H Q I h
  refine juY PySem.F.slot_dict_getitem.lookup hs (thn (ho pins s σ H _ I h) fun u s1 ⟨x,H1,I1,rx,q1⟩=>thn (hi pins s1 σ H1 _ I1 q1) fun iv s2 ⟨y,H2,I2,ry,a,v,ex,g,q2⟩=>?_)
  subst ex
  obtain rfl:u=Value.ref a:=rx
  exact ⟨pT I2 g,aW hu I2 g ry fun w' s3 I3 rw'=>⟨v,H2,I3,rw',q2⟩⟩
theorem iX (hu:X.A.units+1 < cLine) (hi:PE X i ty) (ho:PE X o td):PC X .In i o (jp7 ty td):=by
  intro pins s σ H Q I h
  refine thn (hi pins s σ H _ I h) fun iv s1 ⟨y,H1,I1,ry,q1⟩=>thn (ho pins s1 σ H1 _ I1 q1) fun u s2 ⟨x,H2,I2,rx,a,ov,ex,g,q2⟩=>?_
  subst ex
  obtain rfl:u=Value.ref a:=rx
  exact jsV hu I2 g ry fun s3 I3=>⟨.bl ov.isSome,H2,I3,rfl,q2⟩
theorem rQ (hu:X.A.units+1 < cLine) (hi:PE X i ty) (ho:PE X o td):PC X .NotIn i o (mL ty td):=by
  intro pins s σ H Q I h
  refine thn (hi pins s σ H _ I h) fun iv s1 ⟨y,H1,I1,ry,q1⟩=>thn (ho pins s1 σ H1 _ I1 q1) fun u s2 ⟨x,H2,I2,rx,a,ov,ex,g,q2⟩=>?_
  subst ex
  obtain rfl:u=Value.ref a:=rx
  exact jw2 hu I2 g ry fun s3 I3=>⟨.bl (!ov.isSome),H2,I3,rfl,q2⟩
theorem yC (hu:X.A.units+1 < cLine) (ho:PE X o td) (hi:PE X i ty) (hv:PE X value tv) (hs:swapsWith value (some (.Subscript o i pos')) pos.line X.env=pure false) :
    PS X (.Assign [.Subscript o i pos'] value pos) (t9 td ty tv):=by
  intro pins s σ H D I h
  refine wpAny_Assign_Subscript (thn (hv pins s σ H _ I h) fun r s1 ⟨v,H1,I1,rv,q1⟩=>thn (ho pins s1 σ H1 _ I1 q1) fun u s2 ⟨x,H2,I2,rx,q2⟩=>thn (hi pins s2 σ H2 _ I2 q2) fun iv s3 ⟨y,H3,I3,ry,a,H4,ex,g,q3⟩=>?_) hs
  subst ex
  obtain rfl:u=Value.ref a:=rx
  exact aQ hu I3 g ry rv fun s4 I4=>⟨σ,H4,I4,q3⟩
end
theorem o2 {P:Program} {w:World} {H:Hp} (h:Heap) (hb:sysModules < h.objs.size):kS P w H (h.push { cls:=.type "dict",data:=.dict #[] }) h.objs.size (.dK []) :=
  ⟨Nat.zero_le _,beq_eq_false_iff_ne.mpr (Ne.symm (Nat.ne_of_lt hb)),[],.nil,Heap.DictOf.new h⟩
theorem nY {P:Program} {w:World} {H:Hp} (h:Heap) (hb:sysModules < h.objs.size):kS P w H (h.push { cls:=.type "dict",data:=.dict #[] }) h.objs.size (.dT []) :=
  ⟨Nat.zero_le _,beq_eq_false_iff_ne.mpr (Ne.symm (Nat.ne_of_lt hb)),[],.nil,_,#[],0,Heap.get?_push_size _ rfl,⟨rfl,rfl,rfl⟩,rfl,rfl,List.nodup_nil⟩
def i7:TE:=fun _ H Q=>∀ p,H p=none→Q (.ref p) (upd H p (.dK []))
def rL:TE:=fun _ H Q=>∀ p,H p=none→Q (.ref p) (upd H p (.dT []))
section
variable {X:Cx} {pos:Pos}
theorem sZ:PE X (.Dict [] [] pos) i7:=fun pins s σ H Q I h =>
  wpAny_Dict_empty ⟨.ref s.heap.objs.size,_,I.laid (a:=s.heap.objs.size) (o:=.dK []) (t':=s.toks) (fun _ _ q=>Heap.get?_push_of_some _ q) (Nat.le_refl _) (o2 s.heap I.big),rfl,h _ (I.hok.fresh (Nat.le_refl _))⟩
theorem wR:PE X (.Dict [] [] pos) rL:=fun pins s σ H Q I h =>
  wpAny_Dict_empty ⟨.ref s.heap.objs.size,_,I.laid (a:=s.heap.objs.size) (o:=.dT []) (t':=s.toks) (fun _ _ q=>Heap.get?_push_of_some _ q) (Nat.le_refl _) (nY s.heap I.big),rfl,h _ (I.hok.fresh (Nat.le_refl _))⟩
end
def uS (kvs more:List (Key×V)):List (Key×V):=more.foldl (fun acc kv=>wL acc kv.1 kv.2) kvs
theorem KV.merge:∀ {more:List (Key×V)} {rs:List (Key×Value)} {kvs:List (Key×V)} {vs:List (Key×Value)},KV more rs→KV kvs vs→KV (uS kvs more) (merged vs rs):=by
  intro more rs kvs vs r
  unfold KV at r
  induction r generalizing kvs vs with
  | nil=>intro q;exact q
  | @cons p q ps qs h t ih =>
    intro r0
    have e:KV (wL kvs p.1 p.2) (stored vs q.1 q.2):=by
      have:=r0.put p.1 h.2
      rw [← h.1];exact this
    exact ih e
theorem qX:∀ (more kvs:List (Key×V)),(uS kvs more).length≤kvs.length+more.length
  | [],kvs=>by show kvs.length≤kvs.length+0;omega
  | p :: r,kvs=>by
    have h1:=qX r (wL kvs p.1 p.2)
    have h2:=vJ kvs p.1 p.2
    show (uS (wL kvs p.1 p.2) r).length≤_
    rw [List.length_cons];omega
structure M2 (X:Cx) (o:Expr) (m:Str) (apos:Pos) (e f:Expr) (cpos:Pos):Prop where
  base:attributeBase o m X.env (eval o X.env)=eval o X.env
  few:((backTo cpos (starEach [e,f] X.env)).all (fun x=>!x.1) && (backToKw cpos (keywordEach [] X.env)).all (fun x=>x.1.isSome)
    && decide (([e,f]:List Expr).length+([]:List Keyword).length+(if ([]:List Keyword).isEmpty then 0 else 1) < 30))=true
  line:(apos.endLine == cpos.line)=true
  trees:backTo cpos (starEach [e,f] X.env)=[(false,eval e X.env),(false,eval f X.env)]
def IsD (H:Hp) (a:Addr):Prop:=(∃ kvs,Rd H a (.dK kvs))∨∃ kvs,Rd H a (.dT kvs)
theorem jh0 {X:Cx} {pins:List (Addr×Obj)} {σ:St} {H:Hp} {s:Shared} {a:Addr} (I:Inv X pins σ H s) (d:IsD H a) :
    s.TypeIs (.ref a) "dict"∧(∀ b,Value.ref a=.ref b→∃ ob,s.heap.get? b=some ob∧ob.dict=none)∧(a == sysModules)=false:=by
  rcases d with ⟨kvs,e⟩ | ⟨kvs,e⟩
  · obtain ⟨_,hd,vs,_,dd⟩:=pL I.hok e
    refine ⟨dd.typeIs,fun b q=>?_,hd⟩
    cases q
    obtain ⟨ob,_,_,h1,h2,_⟩:=dd
    exact ⟨ob,h1,h2.2.1⟩
  · obtain ⟨_,hd,xs,_,dd⟩:=tQ I.hok e
    refine ⟨dd.typeIs,fun b q=>?_,hd⟩
    cases q
    obtain ⟨ob,_,_,h1,h2,_⟩:=dd
    exact ⟨ob,h1,h2.2.1⟩
section
variable {X:Cx} {pins:List (Addr×Obj)} {σ:St} {H:Hp} {s:Shared} {a:Addr} {y d:V} {u r:Value} {o:Option V} {A:Around} {E:Value→Shared→Prop}
end
section
variable {X:Cx} {pins:List (Addr×Obj)} {σ:St} {H:Hp} {s:Shared} {a:Addr} {y:V} {u:Value} {A:Around} {E:Value→Shared→Prop}
end
theorem tJ:entryFor table "dict.update.loop"=some Builtin.«dict.update.loop»:=entryFor_of_tree (by kernel_rfl)
theorem qA:plainId "dict.update.loop"=true:=by decide +kernel
section
variable {prog:Program} {w:World} {A:Around} {E:Value→Shared→Prop}
end
section
variable {X:Cx} {pins:List (Addr×Obj)} {σ:St} {H:Hp} {s:Shared} {h':Heap}
theorem Inv.turnedL {t':Nat} {ch:List Addr} (I:Inv X pins σ H s) (k:∀ b o,b∉ch→s.heap.get? b=some o→h'.get? b=some o) (hf:∀ b∈ch,qJ X pins H b):Inv X pins σ H { s with heap:=h',toks:=t' }:=by
  have nit:∀ b u,H b=some u→b∉ch:=fun b u e z=>by
    have q:=(hf b z).1
    rw [q] at e;cases e
  refine I.step (g':=s.gens) (d':=s.drawn) (ch:=ch) (fun b hb=>⟨(hf b hb).2.2.2.1,(hf b hb).2.1,(hf b hb).2.2.2.2.1,(hf b hb).2.2.2.2.2⟩) (fun b o _ _ hc e _=>k b o hc e) (fun b o _ _ hc e _=>⟨o.slots,k b o hc e⟩)
    (fun _ _ _ _ n=>n) (fun b o hc e=>⟨o,k b o hc e⟩) (fun _ _ e=>e) (fun _ _ _ e=>e) (fun b ps e=>⟨#[],by rw [e];simp⟩) (fun m hm=>?_) (fun b u e=>?_) I.bare
  · obtain ⟨o,es,ep,ho,r⟩:=hm
    exact ⟨o,es,ep,k _ o (fun z=>(hf _ z).2.1 rfl) ho,r⟩
  · refine (I.hok b u e).stay (fun c v hc q=>k c v ?_ q) (fun _ q=>q) fun _ _ q=>q
    rcases hc with z | z
    · rw [z];exact nit b u e
    · exact nit c _ z
theorem Inv.turnedNew {t':Nat} {ch:List Addr} {T:Addr} {ob:HO} (I:Inv X pins σ H s) (k:∀ b o,b∉ch→s.heap.get? b=some o→h'.get? b=some o) (hf:∀ b∈ch,qJ X pins H b) (hT:s.heap.objs.size≤T)
    (new:kS X.prog X.w (upd H T ob) h' T ob):Inv X pins σ (upd H T ob) { s with heap:=h',toks:=t' }:=by
  have hn:H T=none:=I.hok.fresh hT
  have nit:∀ b u,H b=some u→b∉ch:=fun b u e z=>by
    have q:=(hf b z).1
    rw [q] at e;cases e
  refine I.step (g':=s.gens) (d':=s.drawn) (ch:=ch) (fun b hb=>⟨(hf b hb).2.2.2.1,(hf b hb).2.1,(hf b hb).2.2.2.2.1,(hf b hb).2.2.2.2.2⟩) (fun b o _ _ hc e _=>k b o hc e) (fun b o _ _ hc e _=>⟨o.slots,k b o hc e⟩)
    (fun b o _ e n=>?_) (fun b o hc e=>⟨o,k b o hc e⟩) (fun b xs e=>?_) (fun b o u e=>?_) (fun b ps e=>⟨#[],?_⟩) (fun m hm=>?_) (fun b u e=>?_) I.bare
  · rw [jV (Nat.ne_of_lt (Nat.lt_of_lt_of_le (Heap.lt_size e) hT))];exact n
  · rw [jV (jX e hn)];exact e
  · rw [jV (jX e hn)];exact e
  · rw [jV (jX e hn),e];simp
  · obtain ⟨o,es,ep,ho,r⟩:=hm
    exact ⟨o,es,ep,k _ o (fun z=>(hf _ z).2.1 rfl) ho,r⟩
  · by_cases hb:b=T
    · subst hb
      rw [jK] at e
      cases e
      exact new
    · rw [jV hb] at e
      refine (I.hok b u e).stay (fun c v hc q=>k c v ?_ q) (fun c q=>by rw [jV (jX q hn)];exact q) fun c xs q=>by rw [jV (jX q hn)];exact q
      rcases hc with z | z
      · rw [z];exact nit b u e
      · exact nit c _ z
theorem Inv.lock {d:Addr} {u:HO} (I:Inv X pins σ H s) (h:H d=some u) (mu:Mut (some u)):∃ od,Inv X pins σ (upd H d (.frz od u)) s:=by
  have x:=I.hok d u h
  have ex:∃ od,s.heap.get? d=some od:=by
    cases u with
    | lst xs=>obtain ⟨_,_,_,_,e⟩:=x;exact ⟨_,e⟩
    | dK kvs=>obtain ⟨_,_,_,_,o,_,_,e,_⟩:=x;exact ⟨o,e⟩
    | dT kvs=>obtain ⟨_,_,_,_,o,_,_,e,_⟩:=x;exact ⟨o,e⟩
    | set S n=>obtain ⟨o,_,_,_,e,_⟩:=x;exact ⟨o,e⟩
    | ins C dx fs=>obtain ⟨_,_,_,e,_⟩:=x;exact ⟨_,e⟩
    | ext φ=>obtain ⟨_,⟨_,e⟩,_⟩:=x;exact ⟨_,e⟩
    | _=>exact False.elim mu
  obtain ⟨od,e⟩:=ex
  have new:kS X.prog X.w (upd H d (.frz od u)) s.heap d (.frz od u):=by
    refine ⟨e,x.stay (fun b v _ q=>q) (fun b q=>?_) fun b xs q=>?_⟩
    · rw [jV (fun z=>by rw [z,h] at q;cases q;exact mu)];exact q
    · rw [jV (fun z=>by rw [z,h] at q;cases q;exact mu)];exact q
  exact ⟨od,I.write (x:=d) (e:=d) (t':=s.toks) (h':=s.heap) (by rw [h];exact mu) (.inl rfl) (fun b v _ q=>q) ⟨od,e⟩ new⟩
theorem Inv.nofrz {d:Addr} {u:HO} (I:Inv X pins σ H s) (h:H d=some u) (mu:Mut (some u)):∀ o' u',X.H_0 d≠some (.frz o' u'):=fun o' u' e=>by
  have q:=I.base.frzs d o' u' e
  rw [h] at q
  cases q
  exact mu
theorem Inv.unlock {d:Addr} {od:Obj} {u:HO} (I:Inv X pins σ H s) (h:H d=some (.frz od u)) (hn:∀ o' u',X.H_0 d≠some (.frz o' u')):Inv X pins σ (upd H d u) s:=by
  have neH:∀ b o,H b=some o→(∀ o' u',o≠.frz o' u')→b≠d:=fun b o e hne z=>by
    rw [z,h] at e
    cases e
    exact hne _ _ rfl
  have neN:∀ b,H b=none→b≠d:=fun b e z=>by rw [z,h] at e;cases e
  refine ⟨I.ok,I.os,I.bare,⟨I.base.keep,I.base.slot,fun b o e n hx=>?_,I.base.there,fun b xs e=>?_,fun b o x e=>?_,fun b ps e=>?_⟩,I.loc,I.cell,?_,fun x c e=>?_,fun p hp=>?_,fun b o e=>?_,I.len⟩
  · rw [jV (neN b (I.base.free b o e n hx))];exact I.base.free b o e n hx
  · have q:=I.base.tups b xs e
    rw [jV (neH b _ q (fun _ _ z=>nomatch z))];exact q
  · have q:=I.base.frzs b o x e
    rw [jV (fun z=>by rw [z] at e;exact hn _ _ e)];exact q
  · obtain ⟨m,q⟩:=I.base.tbls b ps e
    exact ⟨m,by rw [jV (neH b _ q (fun _ _ z=>nomatch z))];exact q⟩
  · rw [jV (neN _ I.free)];exact I.free
  · rw [jV (neN c (I.freeC x c e))];exact I.freeC x c e
  · obtain ⟨e,n,r⟩:=I.pin p hp
    exact ⟨e,by rw [jV (neN _ n)];exact n,r⟩
  · by_cases hb:b=d
    · rw [hb,jK] at e
      cases e
      rw [hb]
      obtain ⟨_,x⟩:=I.hok d _ h
      exact x.stay (fun c v _ q=>q) (fun c q=>by rw [jV (neH c _ q (fun _ _ z=>nomatch z))];exact q) fun c xs q=>by rw [jV (neH c _ q (fun _ _ z=>nomatch z))];exact q
    · rw [jV hb] at e
      exact (I.hok b o e).stay (fun c v _ q=>q) (fun c q=>by rw [jV (neH c _ q (fun _ _ z=>nomatch z))];exact q) fun c xs q=>by rw [jV (neH c _ q (fun _ _ z=>nomatch z))];exact q
end
def jq2 (t:TS):TS:=fun D σ H=>∃ d u,H d=some u∧Mut (some u)∧∀ od,t ⟨fun σ' H'=>H' d=some (.frz od u)∧D.nx σ' (upd H' d u),fun v H'=>H' d=some (.frz od u)∧D.rt v (upd H' d u),fun σ' H'=>H' d=some (.frz od u)∧D.bk σ' (upd H' d u),fun σ' H'=>H' d=some (.frz od u)∧D.ct σ' (upd H' d u)⟩ σ (upd H d (.frz od u))
def i9 (t:TE):TE:=fun σ H Q=>∃ d u,H d=some u∧Mut (some u)∧∀ od,t σ (upd H d (.frz od u)) fun v H'=>H' d=some (.frz od u)∧Q v (upd H' d u)
section
variable {X:Cx}
theorem mD {st:Stmt} {t:TS} (h:PS X st t):PS X st (jq2 t):=by
  intro pins s σ H D I hw
  obtain ⟨d,u,hd,mu,hw⟩:=hw
  obtain ⟨od,I1⟩:=I.lock hd mu
  refine thn (h pins s σ _ _ I1 (hw od)) fun f s1 q=>?_
  cases f with
  | next=>obtain ⟨σ',H',I2,e,q⟩:=q;exact ⟨σ',_,I2.unlock e (I.nofrz hd mu),q⟩
  | brk=>obtain ⟨σ',H',I2,e,q⟩:=q;exact ⟨σ',_,I2.unlock e (I.nofrz hd mu),q⟩
  | cont=>obtain ⟨σ',H',I2,e,q⟩:=q;exact ⟨σ',_,I2.unlock e (I.nofrz hd mu),q⟩
  | ret v=>obtain ⟨x,σ',H',I2,r,e,q⟩:=q;exact ⟨x,σ',_,I2.unlock e (I.nofrz hd mu),r,q⟩
theorem iH {e:Expr} {t:TE} (h:PE X e t):PE X e (i9 t):=by
  intro pins s σ H Q I hw
  obtain ⟨d,u,hd,mu,hw⟩:=hw
  obtain ⟨od,I1⟩:=I.lock hd mu
  refine thn (h pins s σ _ _ I1 (hw od)) fun v s1 ⟨x,H1,I2,r,e2,q⟩=>?_
  exact ⟨x,_,I2.unlock e2 (I.nofrz hd mu),r,q⟩
theorem sW {tg:Expr} {pins:List (Addr×Obj)} {σ:St} {H:Hp} {s:Shared} {R:It→Hp→Prop} {J:It} {tn:Nat→Heap→Prop} {tk:Nat} (I:Inv X pins σ H s) (o:Obj)
    (T:oP X.prog X.w X.K tg J [s.heap.objs.size] s.heap.objs.size tn) (st:tn 0 (s.heap.push o)) (q:R J H):PIE X pins σ tg R (.ref s.heap.objs.size) { s with heap:=s.heap.push o,toks:=tk }:=by
  refine ⟨s.heap.objs.size,[s.heap.objs.size],tn,J,H,rfl,I.kept fun b ob e=>Heap.get?_push_of_some _ e,T,st,fun b hb=>?_,q⟩
  have e:b=s.heap.objs.size:=by simpa using hb
  subst e
  exact I.fpOk (Nat.le_refl _) (I.hok.fresh (Nat.le_refl _))
end
def Itc (lo c:Int) (n:Nat):It:=⟨fun i _=>i < n,fun i H x H'=>H'=H∧x=.int (lo+(i:Nat) * c),fun i _=>n≤i⟩
theorem mI {P:Program} {w:World} {K:PySem.W.Frag} {tg:Expr} (it:Addr) (lo c:Int) (n:Nat):oP P w K tg (Itc lo c n) [it] it (fun i h=>IsRangeIter h it (lo+(i:Nat) * c) ((n:Int) - (i:Nat)) c) where
  mem:=by simp
  obj:=fun i h st b hb=>by
    have e:b=it:=by simpa using hb
    subst e
    exact ⟨_,st,fun v z=>nomatch z⟩
  keep:=fun i h h' st k=>k it (by simp) _ st
  item:=by
    intro X hP hw hK hc i pins s σ H E I hf st hg
    subst hP hw hK
    obtain ⟨f0,f1,f2,f3,f4,f5⟩:=hf it (by simp)
    have W:=Walks.range (prog:=X.prog) (w:=X.w) (I.ok.hd hc) it lo c n
    refine W.item i s _ _ hg st fun v h' tk hv st' kk=>?_
    obtain ⟨t,rfl⟩:=hv
    have I1:Inv X pins σ H { s with heap:=h',toks:=tk }:=I.turned (fun b o hb e=>kk b o (by simpa using hb) e) f0 f1 f3 f4 f5
    exact ⟨_,rfl,aE (s:={ s with heap:=h',toks:=tk }) (n:="range_iterator") st' rfl rfl (by decide) ⟨.int (lo+(i:Nat) * c),H,I1,⟨t,rfl⟩,⟨rfl,rfl⟩,st',fun b hb=>(hf b hb).1⟩⟩
  done:=by
    intro X hP hw hK hc i pins s σ H E I hf st hg
    subst hP hw hK
    obtain ⟨f0,f1,f2,f3,f4,f5⟩:=hf it (by simp)
    exact wpAny_pyNext_range_end (I.ok.hd hc) st (by have:n≤i:=hg;omega) fun h' eb=>⟨rfl,I.turned (t':=s.toks) (fun b o hb e=>eb b o hb e) f0 f1 f3 f4 f5⟩
  self:=fun A i s Q E st h=>wpAny_pyIter_rangeiter st h
def RgC (i j c:Int) (n:Nat):Prop:=c≠0∧c.natAbs < 1073741824∧Builtin.Range.small i j c=true∧Builtin.Range.rangeSize i j c=n
theorem RgC.neg {i j:Int} (ha:-(2 ^ 62)≤i) (ha':i < 2 ^ 62) (hb:-(2 ^ 62)≤j) (hb':j < 2 ^ 62):RgC i j (-1) (i - j).toNat :=
  ⟨by decide,by decide,W.small_down ha ha' hb hb',W.rangeSize_downNat i j⟩
def jgY (ta:TA):TI:=fun σ H R=>ta σ H fun vs H1=>∃ (i j c:Int) (n:Nat),vs=[.int i,.int j,.int c]∧RgC i j c n∧R (Itc i c n) H1
section
variable {X:Cx} {tg:Expr}
theorem iB {a b c:Expr} {ta:TA} {p pos:Pos} (hg:Gl X "range") (hm:X.mg "range"=none) (ha:PA X [a,b,c] ta)
    (hs:starEach [a,b,c] X.env=(false,eval a X.env) :: starEach [b,c] X.env:=by rfl) (hpl:(backTo pos (starEach [b,c] X.env)).any (·.1)=false:=by rfl) :
    PI X tg (.Call (.Name "range" p) [a,b,c] [] pos) (jgY ta):=by
  intro pins s σ H R I h
  refine Call_ (wS I hg hm boot_range (PyProof.Rows.callWith_type1 (thn (ha pos pins s σ H _ I h) fun us s1 ⟨vs,H1,I1,r1,q1⟩=>?_) hs hpl))
  obtain ⟨i,j,k,n,e,⟨c0,c1,c2,c3⟩,q⟩:=q1
  subst e
  cases r1 with
  | cons r rr =>
    cases rr with
    | cons r' rr =>
      cases rr with
      | cons r'' rr =>
        cases rr
        obtain ⟨t,rfl⟩:=r
        obtain ⟨t',rfl⟩:=r'
        obtain ⟨t'',rfl⟩:=r''
        refine call_range_3 c0 ?_ (.inl (PyProof.noPylong_small c1))
        refine wpAny_pyIter_range (IsRange.new ..) c2 ?_
        have I2:Inv X pins σ H1 { s1 with heap:=s1.heap.push { cls:=.type "range",data:=.fields #[.int i t,.int j t',.int k t''] } }:=I1.kept (t':=s1.toks) fun b o e=>Heap.get?_push_of_some _ e
        refine sW (tk:=s1.toks) I2 _ (mI _ i k n) ?_ q
        have e1:i+((0:Nat):Int) * k=i:=by simp
        have e2:(n:Int) - ((0:Nat):Int)=Builtin.Range.rangeSize i j k:=by rw [c3];simp
        show IsRangeIter _ _ (i+((0:Nat):Int) * k) ((n:Int) - ((0:Nat):Int)) k
        rw [e1,e2]
        exact Heap.get?_push_size _ rfl
end
section
variable {prog:Program} {w:World} {A:Around} {E:Value→Shared→Prop} {s:Shared}
theorem xO {d:Addr} {o:Obj} {es:Array DictEntry} {ep:Nat} {Q:Value→Shared→Prop} (hd:(d == sysModules)=false) (ho:s.heap.get? d=some o) (hc:o.ExactDict) (hdat:o.data=.dict es ep)
    (hQ:Q (.ref s.heap.objs.size) { s with heap:=s.heap.push { cls:=.type "dict_keyiterator",data:=.fields #[.ref d,.int 0 0,.int es.size 0,.int ep 0] } }) :
    wpAny (model prog w) A (pyIter (.ref d)) Q E s:=by
  have hT:s.TypeIs (.ref d) "dict":=⟨o,ho,hc.1⟩
  refine wpAny_pyIter_slot hT F.slot_dict_iter (wpAny_call_entry F.slot_dict_iter hT F.entry_dict_iter ?_ (F.args_dict_iter_1 _))
  unfold Builtin.«dict.__iter__»
  refine wpAny_bind ?_
  unfold Builtin.Dict.dictSlotNone
  refine wpAny_bind (wpAny_notOrdered_dict hT ?_)
  show wpAny _ _ (pure (Value.ref d)) _ _ s
  refine wpAny_pure ?_
  show wpAny _ _ (Builtin.Dict.showsAll d >>= _) _ _ s
  unfold Builtin.Dict.showsAll
  rw [if_neg (by rw [hd];exact Bool.false_ne_true)]
  refine wpAny_bind (wpAny_pure ?_)
  refine wpAny_bind (wpAny_dictEntries ho hdat ?_)
  refine wpAny_bind (wpAny_dictEpoch ho hdat ?_)
  refine wpAny_bind (wpAny_newObj_type (wpAny_pure ⟨_,rfl,"dict_keyiterator",_,⟨_,Heap.get?_push_size _ rfl,rfl⟩,F.slot_dict_keyiterator_next.lookup,?_⟩))
  simpa [rawInt] using hQ
theorem qH {it d:Addr} {i n ep:Nat} {od:Obj} {es:Array DictEntry} {en:DictEntry} {Q:Option Value→Shared→Prop} (hit:s.heap.IsKeyIter it d i n ep) (hod:s.heap.get? d=some od) (hdd:od.data=.dict es ep)
    (hsz:es.size=n) (hx:es[i]? = some en) (hQ:∀ h',h'.IsKeyIter it d (i+1) n ep→Heap.SameBut it s.heap h'→Q (some en.key) { s with heap:=h' }):wpAny (model prog w) A (pyNext (.ref it)) Q E s:=by
  obtain ⟨o,ho,hc,hd⟩:=id hit
  unfold pyNext
  refine wpAny_bind (wpAny_attempt (wpAny_callSpecial?_slot (name:=Str.ofString "__next__") hit.typeIs F.slot_dict_keyiterator_next
    (wpAny_call_entry F.slot_dict_keyiterator_next hit.typeIs F.entry_dict_keyiterator_next ?_ (F.args_dict_keyiterator_next_1 _))))
  refine wpAny_bind (wpAny_pure ?_)
  refine wpAny_bind ?_
  refine wpAny_bind ?_
  first | refine wpAny_bind (wpAny_typeNameOfWhole_keyiter hit.typeIs (wpAny_pure ?_)) | refine wpAny_bind (wpAny_typeNameOf_keyiter hit.typeIs (wpAny_pure ?_))
  refine wpAny_bind (wpAny_fieldsOf ho hd ?_)
  have hown:Builtin.Dict_items.ownsTuple "dict_keyiterator"=false:=by decide
  simp only [hown,Bool.false_eq_true,if_false]
  show wpAny _ _ (if (Value.ref d == Value.none)=true then _ else _) _ _ s
  rw [if_neg (show ¬ ((Value.ref d == Value.none)=true) from Bool.false_ne_true)]
  refine wpAny_bind (wpAny_pure ?_)
  refine wpAny_bind (wpAny_dictEntries hod hdd ?_)
  rw [if_neg (by rw [hsz];simp)]
  refine wpAny_bind (wpAny_pure ?_)
  refine wpAny_bind (wpAny_dictEpoch hod hdd ?_)
  rw [if_neg (by simp)]
  refine wpAny_pure ?_
  obtain ⟨hlt',hen⟩:=Array.getElem?_eq_some_iff.mp hx
  simp only [show ¬ ((i:Int) < 0) from by omega,if_false,Int.toNat_natCast,Array.getElem?_eq_getElem hlt']
  refine wpAny_bind ?_
  first | refine wpAny_bind (wpAny_typeNameOfWhole_keyiter hit.typeIs (wpAny_pure ?_)) | refine wpAny_bind (wpAny_typeNameOf_keyiter hit.typeIs (wpAny_pure ?_))
  refine wpAny_bind (wpAny_isOneOf_keyiter hit.typeIs ?_)
  show wpAny _ _ (setField (.ref it) 1 (rawInt ((i:Int)+1)) >>= _) _ _ s
  refine wpAny_bind (wpAny_setField ho hd (by simp) ?_)
  have hit':(s.heap.update it (Obj.mapFields (·.setIfInBounds 1 (rawInt ((i:Int)+1))))).IsKeyIter it d (i+1) n ep :=
    ⟨_,Heap.get?_update_self _ ho (Obj.isFreed_of_fields (Obj.data_mapFields hd _)),(Obj.cls_mapFields ..).trans hc,by rw [Obj.data_mapFields hd];simp [rawInt]⟩
  refine wpAny_bind (wpAny_holding ?_)
  refine wpAny_bind (wpAny_isOneOf_keyiter (s:={ s with heap:=s.heap.update it (Obj.mapFields (·.setIfInBounds 1 (rawInt ((i:Int)+1)))) }) hit'.typeIs ?_)
  show wpAny _ _ (pure es[i].key) _ _ _
  rw [hen]
  exact wpAny_pure (wpAny_pure ⟨_,rfl,wpAny_pure (hQ _ hit' (Heap.SameBut.update ..))⟩)
theorem uV {it d:Addr} {i n ep:Nat} {od:Obj} {es:Array DictEntry} {Q:Option Value→Shared→Prop} (hh:A.handled=none) (hit:s.heap.IsKeyIter it d i n ep) (hod:s.heap.get? d=some od) (hdd:od.data=.dict es ep)
    (hsz:es.size=n) (hge:n≤i) (hQ:∀ h',Heap.ExtBut it s.heap h'→Q none { s with heap:=h' }):wpAny (model prog w) A (pyNext (.ref it)) Q E s:=by
  obtain ⟨o,ho,hc,hd⟩:=id hit
  unfold pyNext
  refine wpAny_bind (wpAny_attempt (wpAny_callSpecial?_slot (name:=Str.ofString "__next__") hit.typeIs F.slot_dict_keyiterator_next
    (wpAny_call_entry F.slot_dict_keyiterator_next hit.typeIs F.entry_dict_keyiterator_next ?_ (F.args_dict_keyiterator_next_1 _))))
  refine wpAny_bind (wpAny_pure ?_)
  refine wpAny_bind ?_
  refine wpAny_bind ?_
  first | refine wpAny_bind (wpAny_typeNameOfWhole_keyiter hit.typeIs (wpAny_pure ?_)) | refine wpAny_bind (wpAny_typeNameOf_keyiter hit.typeIs (wpAny_pure ?_))
  refine wpAny_bind (wpAny_fieldsOf ho hd ?_)
  have hown:Builtin.Dict_items.ownsTuple "dict_keyiterator"=false:=by decide
  simp only [hown,Bool.false_eq_true,if_false]
  show wpAny _ _ (if (Value.ref d == Value.none)=true then _ else _) _ _ s
  rw [if_neg (show ¬ ((Value.ref d == Value.none)=true) from Bool.false_ne_true)]
  refine wpAny_bind (wpAny_pure ?_)
  refine wpAny_bind (wpAny_dictEntries hod hdd ?_)
  rw [if_neg (by rw [hsz];simp)]
  refine wpAny_bind (wpAny_pure ?_)
  refine wpAny_bind (wpAny_dictEpoch hod hdd ?_)
  rw [if_neg (by simp)]
  refine wpAny_pure ?_
  have hge':es.size≤i:=by rw [hsz];exact hge
  simp only [show ¬ ((i:Int) < 0) from by omega,if_false,Int.toNat_natCast,Array.getElem?_eq_none hge']
  refine wpAny_bind ?_
  first | refine wpAny_bind (wpAny_typeNameOfWhole_keyiter hit.typeIs (wpAny_pure ?_)) | refine wpAny_bind (wpAny_typeNameOf_keyiter hit.typeIs (wpAny_pure ?_))
  show wpAny _ _ (setField (.ref it) 0 .none >>= _) _ _ s
  refine wpAny_bind (wpAny_setField ho hd (by simp) ?_)
  show wpAny _ _ (newExc (.type "StopIteration") [] >>= _) _ _ _
  refine wpAny_bind ?_
  simp only [newExc,newTuple]
  refine wpAny_bind (wpAny_newObj_type ?_ (by size_fits))
  refine wpAny_bind (m:=firstArgMember _ _) (wpAny_of_eq (a:=Value.none) (by first | rfl | (simp only [firstArgMember];rfl)) ?_)
  refine wpAny_newObj_type ?_ (by size_fits)
  simp only [raiseNew]
  refine wpAny_bind (wpAny_handled ?_)
  rw [show A.in1.handled=none from hh]
  refine wpAny_bind (wpAny_pure (wpAny_throw ?_))
  refine wpAny_bind (wpAny_isInstance (T:="StopIteration") (b:=true) ⟨_,Heap.get?_push_size _ rfl,rfl⟩ isSubtype_stop ?_)
  exact wpAny_pure (hQ _ (((Heap.SameBut.update ..).extBut.push _).push _))
end
theorem jh6 {κ:Type} {kvs:List (κ×V)} {vs:List (κ×Value)} (h:KV kvs vs):∀ {i:Nat} {k:κ} {v:V},kvs[i]? = some (k,v)→∃ u,vs[i]? = some (k,u)∧kI v u:=by
  unfold KV at h
  induction h with
  | nil=>intro i k v e;simp at e
  | @cons a b l₁ l₂ r t ih =>
    intro i k v e
    cases i with
    | zero =>
      simp only [List.getElem?_cons_zero,Option.some.injEq] at e
      subst e
      refine ⟨b.2,?_,r.2⟩
      simp only [List.getElem?_cons_zero]
      exact congrArg some (Prod.ext r.1.symm rfl)
    | succ j =>
      simp only [List.getElem?_cons_succ] at e ⊢
      exact ih e
theorem yH {α β:Type} {G:α→β→Prop} {l₁:List α} {l₂:List β} (h:Paired G l₁ l₂):∀ {i:Nat} {a:α},l₁[i]? = some a→∃ b,l₂[i]? = some b∧G a b:=by
  induction h with
  | nil=>intro i a e;simp at e
  | @cons a b l₁ l₂ r t ih =>
    intro i a' e
    cases i with
    | zero =>
      simp only [List.getElem?_cons_zero,Option.some.injEq] at e
      subst e
      exact ⟨b,rfl,r⟩
    | succ j =>
      simp only [List.getElem?_cons_succ] at e ⊢
      exact ih e
theorem jjQ {k:Key} {u:Value} (h:xU k u=true):kI (kV k) u:=by
  rcases kF h with ⟨i,t,rfl,rfl⟩ | ⟨x,t,rfl,rfl⟩
  · exact ⟨t,rfl⟩
  · exact ⟨t,rfl⟩
section
variable {X:Cx} {pins:List (Addr×Obj)} {σ:St} {H:Hp} {s:Shared} {d:Addr} {o:Obj}
theorem Inv.frzK {kvs:List (Key×V)} (I:Inv X pins σ H s) (h:H d=some (.frz o (.dK kvs))) :
    (d == sysModules)=false∧s.heap.get? d=some o∧o.ExactDict∧∃ (es:Array DictEntry) (ep:Nat) (vs:List (Key×Value)),o.data=.dict es ep∧es.size=kvs.length∧KV kvs vs∧s.heap.DictAt (j5 X.prog X.w) d vs ep:=by
  obtain ⟨hd,z,hs,vs,kv,o',es,ep,ho,hx,hdt,r⟩:=I.hok d _ h
  rw [hd] at ho
  cases ho
  refine ⟨hs,hd,hx,es,ep,vs,hdt,?_,kv,o,es,hd,hx,hdt,r⟩
  have l1:=r.2.1.length
  have l2:kvs.length=vs.length:=Paired.length kv
  rw [Array.length_toList] at l1
  omega
theorem Inv.frzT {kvs:List (List Key×V)} (I:Inv X pins σ H s) (h:H d=some (.frz o (.dT kvs))) :
    (d == sysModules)=false∧s.heap.get? d=some o∧o.ExactDict∧∃ (es:Array DictEntry) (ep:Nat),o.data=.dict es ep∧es.size=kvs.length ∧
      ∀ (i:Nat) (k:List Key) (v:V),kvs[i]? = some (k,v)→∃ (en:DictEntry) (q:Addr),es[i]? = some en∧en.key=.ref q∧H q=some (.tup (k.map kV)):=by
  obtain ⟨hd,z,hs,xs,pr,o',es,ep,ho,hx,hdt,he,_⟩:=I.hok d _ h
  rw [hd] at ho
  cases ho
  refine ⟨hs,hd,hx,es,ep,hdt,?_,fun i k v e=>?_⟩
  · have l1:es.size=xs.length:=size_of_entries he
    have l2:kvs.length=xs.length:=Paired.length pr
    omega
  · obtain ⟨b,hb,e1,e2,_⟩:=yH pr e
    have q:=entry_at he i
    rw [hb] at q
    exact ⟨_,b.2.1,q,rfl,e2⟩
end
def Itk (d:Addr) (o:Obj) (kvs:List (Key×V)):It :=
  ⟨fun i H=>H d=some (.frz o (.dK kvs))∧i < kvs.length,fun i H x H'=>H'=H∧∃ k v,kvs[i]? = some (k,v)∧x=kV k,fun i H=>H d=some (.frz o (.dK kvs))∧kvs.length≤i⟩
def jp9 (d:Addr) (o:Obj) (kvs:List (List Key×V)):It :=
  ⟨fun i H=>H d=some (.frz o (.dT kvs))∧i < kvs.length,fun i H x H'=>H'=H∧∃ (k:List Key) (v:V) (q:Addr),kvs[i]? = some (k,v)∧x=.ref q∧H q=some (.tup (k.map kV)),fun i H=>H d=some (.frz o (.dT kvs))∧kvs.length≤i⟩
theorem yK {o:Obj} {es es':Array DictEntry} {ep ep':Nat} (h:o.data=.dict es ep) (h':o.data=.dict es' ep'):es'=es∧ep'=ep:=by
  rw [h] at h'
  cases h'
  exact ⟨rfl,rfl⟩
section
variable {P:Program} {w:World} {K:W.Frag} {tg:Expr} {d:Addr} {o:Obj} {es:Array DictEntry} {ep:Nat}
theorem oV {kvs:List (Key×V)} (it:Addr) (hod:o.data=.dict es ep):oP P w K tg (Itk d o kvs) [it] it (fun i h=>h.IsKeyIter it d i kvs.length ep) where
  mem:=by simp
  obj:=fun i h st b hb=>by
    have e:b=it:=by simpa using hb
    subst e
    obtain ⟨oi,e,c,dd⟩:=st
    exact ⟨oi,e,fun v z=>by rw [dd] at z;cases z⟩
  keep:=fun i h h' st k=>st.at fun oi e=>k it (by simp) oi e
  item:=by
    intro X hP hw hK hc i pins s σ H E I hf st hg
    subst hP hw hK
    obtain ⟨hd,hi⟩:=hg
    obtain ⟨f0,f1,f2,f3,f4,f5⟩:=hf it (by simp)
    obtain ⟨hs,hgd,hx,es',ep',vs,hdt,hsz,kv,hm⟩:=I.frzK hd
    obtain ⟨rfl,rfl⟩:=yK hod hdt
    obtain ⟨⟨k,v⟩,hkv⟩:∃ p,kvs[i]? = some p:=⟨kvs[i],List.getElem?_eq_getElem hi⟩
    obtain ⟨u,hu,ru⟩:=jh6 kv hkv
    have hl:kvs.length=vs.length:=Paired.length kv
    rw [hl] at st
    refine wpAny_pyNext_dict_item st hm hu fun key h' hkey st' sb=>?_
    have I1:Inv X pins σ H { s with heap:=h' }:=I.turned (t':=s.toks) (fun b ob hb e=>(sb.2 b hb).trans e) f0 f1 f3 f4 f5
    obtain ⟨oi,e,c,dd⟩:=id st'
    refine ⟨key,rfl,aE (s:={ s with heap:=h' }) e c dd (by decide) ⟨kV k,H,I1,jjQ (show xU k key=true from hkey),⟨rfl,k,v,hkv,rfl⟩,?_,fun b hb=>(hf b hb).1⟩⟩
    show h'.IsKeyIter it d (i+1) kvs.length _
    rw [hl]
    exact st'
  done:=by
    intro X hP hw hK hc i pins s σ H E I hf st hg
    subst hP hw hK
    obtain ⟨hd,hi⟩:=hg
    obtain ⟨f0,f1,f2,f3,f4,f5⟩:=hf it (by simp)
    obtain ⟨hs,hgd,hx,es',ep',vs,hdt,hsz,kv,hm⟩:=I.frzK hd
    obtain ⟨rfl,rfl⟩:=yK hod hdt
    exact uV (I.ok.hd hc) st hgd hdt hsz hi fun h' eb=>⟨rfl,I.turned (t':=s.toks) (fun b ob hb e=>eb b ob hb e) f0 f1 f3 f4 f5⟩
  self:=fun A i s Q E st h=>wpAny_pyIter_keyiter st h
theorem lH {kvs:List (List Key×V)} (it:Addr) (hod:o.data=.dict es ep):oP P w K tg (jp9 d o kvs) [it] it (fun i h=>h.IsKeyIter it d i kvs.length ep) where
  mem:=by simp
  obj:=fun i h st b hb=>by
    have e:b=it:=by simpa using hb
    subst e
    obtain ⟨oi,e,c,dd⟩:=st
    exact ⟨oi,e,fun v z=>by rw [dd] at z;cases z⟩
  keep:=fun i h h' st k=>st.at fun oi e=>k it (by simp) oi e
  item:=by
    intro X hP hw hK hc i pins s σ H E I hf st hg
    subst hP hw hK
    obtain ⟨hd,hi⟩:=hg
    obtain ⟨f0,f1,f2,f3,f4,f5⟩:=hf it (by simp)
    obtain ⟨hs,hgd,hx,es',ep',hdt,hsz,ent⟩:=I.frzT hd
    obtain ⟨rfl,rfl⟩:=yK hod hdt
    obtain ⟨⟨k,v⟩,hkv⟩:∃ p,kvs[i]? = some p:=⟨kvs[i],List.getElem?_eq_getElem hi⟩
    obtain ⟨en,q,hen,hkey,hq⟩:=ent i k v hkv
    refine qH st hgd hdt hsz hen fun h' st' sb=>?_
    have I1:Inv X pins σ H { s with heap:=h' }:=I.turned (t':=s.toks) (fun b ob hb e=>(sb.2 b hb).trans e) f0 f1 f3 f4 f5
    obtain ⟨oi,e,c,dd⟩:=id st'
    exact ⟨en.key,rfl,aE (s:={ s with heap:=h' }) e c dd (by decide) ⟨.ref q,H,I1,hkey,⟨rfl,k,v,q,hkv,rfl,hq⟩,st',fun b hb=>(hf b hb).1⟩⟩
  done:=by
    intro X hP hw hK hc i pins s σ H E I hf st hg
    subst hP hw hK
    obtain ⟨hd,hi⟩:=hg
    obtain ⟨f0,f1,f2,f3,f4,f5⟩:=hf it (by simp)
    obtain ⟨hs,hgd,hx,es',ep',hdt,hsz,ent⟩:=I.frzT hd
    obtain ⟨rfl,rfl⟩:=yK hod hdt
    exact uV (I.ok.hd hc) st hgd hdt hsz hi fun h' eb=>⟨rfl,I.turned (t':=s.toks) (fun b ob hb e=>eb b ob hb e) f0 f1 f3 f4 f5⟩
  self:=fun A i s Q E st h=>by
    refine wpAny_pyIter_slot st.typeIs F.slot_dict_keyiterator_iter (wpAny_call_entry F.slot_dict_keyiterator_iter st.typeIs F.entry_dict_keyiterator_iter ?_ (F.args_dict_keyiterator_iter_1 _))
    show wpAny _ _ (ret (.ref it)) _ _ s
    exact wpAny_pure ⟨_,rfl,"dict_keyiterator",_,st.typeIs,F.slot_dict_keyiterator_next.lookup,h⟩
end
def tF (td:TE):TI:=fun σ H R=>td σ H fun x H1=>∃ d o,x=.ref d∧((∃ kvs,H1 d=some (.frz o (.dK kvs))∧R (Itk d o kvs) H1)∨∃ kvs,H1 d=some (.frz o (.dT kvs))∧R (jp9 d o kvs) H1)
section
variable {X:Cx} {tg e:Expr} {td:TE} {apos cpos:Pos}
theorem gH (he:PE X e td):PI X tg e (tF td):=by
  intro pins s σ H R I h
  refine thn (he pins s σ H _ I h) fun u s1 ⟨x,H1,I1,rx,d,o,ex,q⟩=>?_
  subst ex
  obtain rfl:u=Value.ref d:=rx
  rcases q with ⟨kvs,hd,q⟩ | ⟨kvs,hd,q⟩
  · obtain ⟨hs,hgd,hx,es,ep,vs,hdt,hsz,kv,hm⟩:=I1.frzK hd
    refine xO hs hgd hx hdt (sW (tk:=s1.toks) I1 _ (oV _ hdt) ⟨_,Heap.get?_push_size _ rfl,rfl,?_⟩ q)
    rw [hsz] <;> rfl
  · obtain ⟨hs,hgd,hx,es,ep,hdt,hsz,ent⟩:=I1.frzT hd
    refine xO hs hgd hx hdt (sW (tk:=s1.toks) I1 _ (lH _ hdt) ⟨_,Heap.get?_push_size _ rfl,rfl,?_⟩ q)
    rw [hsz] <;> rfl
end
def Ite (K:W.Frag) (a:Addr):It :=
  ⟨fun i H=>∃ (xs:List V) (x:V),SqL K H a xs∧xs[i]? = some x,fun i H v H'=>∃ T x,v=.ref T∧H T=none∧H'=upd H T (.tup [.int (i:Nat),x])∧∀ xs,SqL K H a xs→xs[i]? = some x,fun i H=>∃ xs:List V,SqL K H a xs∧xs.length≤i⟩
theorem oK {P:Program} {w:World} {K:W.Frag} {elts:List Expr} {kk:Nat} {tpos:Pos} (a e it:Addr) :
    oP P w K (.Tuple elts kk tpos) (Ite K a) [e,it] e (fun i h=>(∃ old,IsEnum h e it ((i:Nat):Int) old)∧h.IsListIter it a i∧e≠it) where
  mem:=by simp
  obj:=fun i h st b hb=>by
    obtain ⟨⟨old,he⟩,⟨o,ho,hc,hd⟩,_⟩:=st
    have e':b=e∨b=it:=by simpa using hb
    rcases e' with z | z
    · rw [z];exact ⟨_,he,fun v q=>nomatch q⟩
    · rw [z];exact ⟨o,ho,fun v q=>by rw [hd] at q;cases q⟩
  keep:=fun i h h' st k=>let ⟨⟨old,he⟩,hi,hne⟩:=st;⟨⟨old,k e (by simp) _ he⟩,hi.at fun o q=>k it (by simp) o q,hne⟩
  item:=by
    intro X hP hw hK hc i pins s σ H E I hf st hg
    subst hP hw hK
    obtain ⟨⟨old,he⟩,hit,hne⟩:=st
    obtain ⟨xs,x,hq,hx⟩:=hg
    obtain ⟨its,rv,p,hz⟩:=I.list hq
    obtain ⟨u,hu,ru⟩:=rv.get hx
    have hel:e < s.heap.objs.size:=Heap.lt_size he
    have hil:it < s.heap.objs.size:=by obtain ⟨_,q,_⟩:=hit;exact Heap.lt_size q
    refine wpAny_pyNext_enum_item he hit p.isList (x:=u) (by simpa using hu) hne fun h' ho hit' hT hsz hk=>?_
    refine ⟨_,rfl,wpAny_letOwnedTupleGo_enum (s:={ s with heap:=h',toks:=s.toks+1 }) ho fun h'' he' sb=>?_⟩
    have hT2:h''.get? s.heap.objs.size=some { cls:=.type "tuple",data:=.seq #[.int i s.toks,u] }:=(sb.2 _ (Nat.ne_of_gt hel)).trans hT
    have new:kS X.prog X.w (upd H s.heap.objs.size (.tup [.int (i:Nat),x])) h'' s.heap.objs.size (.tup [.int (i:Nat),x]) :=
      ⟨by show 2≤sizeLine;decide,[.int i s.toks,u],.cons ⟨_,rfl⟩ (.cons ru .nil),⟨_,hT2,rfl,_,rfl⟩⟩
    have I1:Inv X pins σ (upd H s.heap.objs.size (.tup [.int (i:Nat),x])) { s with heap:=h'',toks:=s.toks+1 } :=
      I.turnedNew (ch:=[e,it]) (fun b ob hb q=>(sb.2 b (fun z=>hb (by simp [z]))).trans (hk b ob (fun z=>hb (by simp [z])) (fun z=>hb (by simp [z])) q)) hf (Nat.le_refl _) new
    refine ⟨.ref s.heap.objs.size,_,I1,rfl,⟨_,x,rfl,I.hok.fresh (Nat.le_refl _),rfl,fun ys hy=>by rw [I.list_inj hy hq];exact hx⟩,⟨⟨u,?_⟩,hit'.at fun o q=>(sb.2 it (Ne.symm hne)).trans q,hne⟩,fun b hb=>?_⟩
    · have e1:((i+1:Nat):Int)=(i:Int)+1:=by omega
      rw [e1];exact he'
    · have hb':b < s.heap.objs.size:=by
        have e':b=e∨b=it:=by simpa using hb
        rcases e' with z | z
        · rw [z];exact hel
        · rw [z];exact hil
      rw [jV (Nat.ne_of_lt hb')]
      exact (hf b hb).1
  done:=by
    intro X hP hw hK hc i pins s σ H E I hf st hg
    subst hP hw hK
    obtain ⟨⟨old,he⟩,hit,hne⟩:=st
    obtain ⟨xs,hq,hx⟩:=hg
    obtain ⟨its,rv,p,hz⟩:=I.list hq
    obtain ⟨f0,f1,f2,f3,f4,f5⟩:=hf it (by simp)
    have hl:=rv.length
    exact wpAny_pyNext_enum_end (I.ok.hd hc) he hit p.isList (by simp;omega) fun h' eb=>⟨rfl,I.turned (t':=s.toks) (fun b o hb q=>eb b o hb q) f0 f1 f3 f4 f5⟩
  self:=fun A i s Q E st h=>let ⟨⟨_,he⟩,_⟩:=st;wpAny_pyIter_enum he h
def o8 (K:W.Frag) (ta:TA):TI:=fun σ H R=>ta σ H fun vs H1=>∃ a xs,vs=[.ref a]∧SqL K H1 a xs∧R (Ite K a) H1
theorem mG {X:Cx} {e:Expr} {ta:TA} {p pos tpos:Pos} {elts:List Expr} {kk:Nat} (hg:Gl X "enumerate") (hm:X.mg "enumerate"=none) (ha:PA X [e] ta) (hs:starEach [e] X.env=[(false,eval e X.env)]:=by rfl) :
    PI X (.Tuple elts kk tpos) (.Call (.Name "enumerate" p) [e] [] pos) (o8 X.K ta):=by
  intro pins s σ H R I h
  refine Call_ (wS I hg hm boot_enumerate (PyProof.Rows.callWith_type1 (thn (ha pos pins s σ H _ I h) fun us s1 ⟨vs,H1,I1,r1,q1⟩=>?_) hs rfl))
  obtain ⟨a,xs,ex,hq,q⟩:=q1
  subst ex
  cases r1 with
  | cons r rr =>
    cases rr
    cases r
    obtain ⟨its,rv,p',hz⟩:=I1.list hq
    refine call_enumerate_list p'.isList fun h' he hit hsz hk=>wpAny_pyIter_enum he ?_
    have I2:Inv X pins σ H1 { s1 with heap:=h' }:=I1.kept (t':=s1.toks) hk
    refine ⟨s1.heap.objs.size+1,[s1.heap.objs.size+1,s1.heap.objs.size],_,_,H1,rfl,I2,oK a (s1.heap.objs.size+1) s1.heap.objs.size,⟨⟨.none,he⟩,hit,Nat.succ_ne_self _⟩,fun b hb=>?_,q⟩
    have e':b=s1.heap.objs.size+1∨b=s1.heap.objs.size:=by simpa using hb
    have hle:s1.heap.objs.size≤b:=by
      rcases e' with z | z
      · rw [z];exact Nat.le_add_right _ _
      · rw [z];exact Nat.le_refl _
    exact I1.fpOk hle (I1.hok.fresh hle)
theorem cJ:bootBuiltins "zip"=some (.type "zip"):=by decide +kernel
end L2
section
namespace Bits
open PySem PyProof.Rows
end Bits
end
section
namespace TL
open PySem PySem.Builtin PySem.Builtin.Str PySem.StrLaws
end TL
end
namespace L2
open PySem PySem.Spec PyProof.Rows
section
variable {X:Cx}
end
end L2
namespace Att
open PySem PySem.W PySem.Calls PyProof.Rows
section
variable {prog:Program} {w:World} {A:Around} {E:Value→Shared→Prop} {s:Shared} {K:Frag}
end
end Att
namespace L2
open PySem PySem.Spec PyProof.Rows
abbrev KOf {K:W.Frag} {h:Heap} (_:K.In h):W.Frag:=K
def zC (s:Stmt) (j:Nat):Stmt:=match s with
  | .ClassDef _ _ _ body _ _ _ _ _ _ _=>body.getD j (.Pass ⟨0,0,0,0⟩)
  | _=>.Pass ⟨0,0,0,0⟩
def jB (s:Stmt):Arguments:=match s with
  | .FunctionDef _ a _ _ _ _ _ _ _ _=>a
  | _=>{ posonlyargs:=[],args:=[],vararg:=none,kwonlyargs:=[],kw_defaults:=[],kwarg:=none,defaults:=[] }
def jF (s:Stmt):List Stmt:=match s with
  | .FunctionDef _ _ b _ _ _ _ _ _ _=>b
  | _=>[]
def jW (s:Stmt):Scope:=match s with
  | .FunctionDef _ _ _ _ _ _ sc _ _ _=>sc
  | _=>{ kind:=.function,names:=[],isGenerator:=false,isCoroutine:=false }
abbrev CX0:CXT:=fun _ _ _ _ _ _=>False
abbrev E0:XK:=fun _ _ _=>False
theorem jU {X:Cx}:yA CX0 X E0:=fun _ _ _ _ _ _ _ h=>h.elim
structure Fun (K:W.Frag) (x qual:Str) (st:Stmt) (f:Addr) (fd:FuncData):Prop where
  ex:∃ (oc:Value) (od:Option Addr) (kV doc pm:Value) (an:Option Addr) (cdv ct:Value) (osl:Array (Option Value)),
    fd=W.fnOf x qual (jB st) (jF st) (jW st) .none kV doc pm an cdv ct∧K.lookup f=some ⟨oc,od,.func fd,osl⟩∧W.codeIn K cdv qual=true
  kp:W.keepIn K (.ref f)=true
section
variable {P:Program} {w:World} {K:W.Frag} {mg:Str→Option Value} {base:Heap}
theorem Fun.ok {x qual:Str} {st:Stmt} {f:Addr} {fd:FuncData} {N ps:List Str} {k:Nat} {sp:Sp} (F:Fun K x qual st f fd) (S:jD N ps (jW st)) (len:∀ vs H Q E,sp vs H Q E→vs.length=ps.length)
    (hbody:∀ (cdv:Value) (A:Around) (outer:List Env) (s:Shared) (H:Hp) (vs:List V) (Q:VK) (E:XK),wU k (A.deeper (envOfC qual (jW st) s.heap.objs.size f cdv))→sp vs H Q E →
      ∃ t,PSs (jkX CX0 P w K mg base N qual (jW st) f cdv A outer s H E).nox (jF st) t∧t { nx:=fun _ H'=>Q .non H',rt:=Q } (j7 N vs) H):vA P w K mg base CX0 (k+1) f fd ps sp:=by
  obtain ⟨oc,od,kV,doc,pm,an,cdv,ct,osl,rfl,lk,hcd⟩:=F.ex
  refine jgQ lk hcd S len fun A outer s H vs Q E hr hsp=>?_
  obtain ⟨t,h,q⟩:=hbody cdv A outer s H vs Q E hr hsp
  exact ⟨t,h.nox,q⟩
theorem Fun.binds {x qual:Str} {st:Stmt} {f:Addr} {fd:FuncData} {ps:List Str} (F:Fun K x qual st f fd)
    (h:∀ (kV doc pm:Value) (an:Option Addr) (cdv ct:Value) (us:List Value),us.length=ps.length→bindArgs (W.fnOf x qual (jB st) (jF st) (jW st) .none kV doc pm an cdv ct) ⟨us,[]⟩=pure (ps.zip us)):j3 K fd ps []:=by
  obtain ⟨oc,od,kV,doc,pm,an,cdv,ct,osl,rfl,lk,hcd⟩:=F.ex
  exact .all (h kV doc pm an cdv ct)
theorem jO {x qual:Str} {st:Stmt} {f:Addr} {oc:Value} {od an:Option Addr} {osl:Array (Option Value)} {kV doc pm cdv ct:Value} (l:K.lookup f=some ⟨oc,od,.func (W.fnOf x qual (jB st) (jF st) (jW st) .none kV doc pm an cdv ct),osl⟩)
    (c:W.codeIn K cdv qual=true) (k:W.keepIn K (.ref f)=true):Fun K x qual st f (W.fnOf x qual (jB st) (jF st) (jW st) .none kV doc pm an cdv ct):=⟨⟨oc,od,kV,doc,pm,an,cdv,ct,osl,rfl,l,c⟩,k⟩
end
theorem kE {A:Around} {k:Nat} (hr:wU k A):A.units+1 < cLine:=Nat.lt_of_le_of_lt (Nat.add_le_add_left (by decide:1≤64) _) hr.units
section
variable {X:Cx}
theorem pv (i:Nat) {x:Str} {pos:Pos} (hN:X.N[i]? = some x:=by rfl) (hv:Vis X.env.scope x:=by first | exact Or.inl rfl | exact Or.inr (Or.inl rfl) | exact Or.inr (Or.inr rfl)) (hd:(x == ("__debug__":Str))=false:=by decide)
    (hcd:(x == ("__classdict__":Str))=false:=by decide):PE X (.Name x pos) (j4 i):=jfW hN hv hd hcd
end
theorem wY {c A B:Prop} [Decidable c] (h1:c→A) (h2:¬ c→B):if c then A else B:=by
  by_cases h:c
  · rw [if_pos h]
    exact h1 h
  · rw [if_neg h]
    exact h2 h
def jG (H H':Hp):Prop:=∀ b o,H b=some o→H' b=some o
theorem jG.refl (H:Hp):jG H H:=fun _ _ h=>h
theorem jG.trans {H H1 H2:Hp} (a:jG H H1) (b:jG H1 H2):jG H H2:=fun c o h=>b c o (a c o h)
theorem jG.free {H H':Hp} (e:jG H H') {l:Addr} (h:H' l=Option.none):H l=Option.none:=by
  cases q:H l with
  | none=>rfl
  | some o =>
    rw [e l o q] at h
    cases h
theorem jG.seq {K:W.Frag} {H H':Hp} {a:Addr} {xs:List V} (e:jG H H') (h:SqL K H a xs):SqL K H' a xs:=by
  rcases h with (h | ⟨o,h⟩) | h
  · exact .inl (.inl (e _ _ h))
  · exact .inl (.inr ⟨o,e _ _ h⟩)
  · exact .inr h
theorem jG.made {H H1:Hp} {x dx C:Addr} (nx:H x=Option.none) (nd:H dx=Option.none) (k:∀ b o,(upd (upd H dx (.own x)) x (.ins C dx [])) b=some o→b≠x→H1 b=some o):jG H H1:=fun b o e =>
  k b o (by rw [jV (jX e nx),jV (jX e nd)];exact e) (jX e nx)
end L2
section
namespace L2
open PySem PySem.Spec PyProof.Rows
open PySem.W (WData Codec OpenSpec Well WellAll ReadsW ReadsAllW)
mutual
inductive Dw (K:W.Frag) (H:Hp):V→WData→Prop
  | non:Dw K H .non .none
  | bl (b:Bool):Dw K H (.bl b) (.bool b)
  | int (i:Int):Dw K H (.int i) (.int i)
  | str (x:Str):Dw K H (.str x) (.str x)
  | byt (b:Array UInt8):Dw K H (.byt b) (.bytes b.toList)
  | lst {a:Addr} {xs:List V} {ds:List WData}:SqL K H a xs→qU K H xs ds→Dw K H (.ref a) (.list ds)
  | tup {a:Addr} {xs:List V} {ds:List WData}:SqT K H a xs→qU K H xs ds→Dw K H (.ref a) (.tuple ds)
inductive qU (K:W.Frag) (H:Hp):List V→List WData→Prop
  | nil:qU K H [] []
  | cons {v:V} {vs:List V} {d:WData} {ds:List WData}:Dw K H v d→qU K H vs ds→qU K H (v :: vs) (d :: ds)
end
theorem aB {K:W.Frag} {H:Hp}:∀ ns:List Int,qU K H (ns.map V.int) (ns.map WData.int)
  | []=>.nil
  | n :: r=>.cons (.int n) (aB r)
theorem eK {K:W.Frag} {H:Hp}:∀ (ns:List Int) (xs:List V),qU K H xs (ns.map WData.int)→xs=ns.map V.int
  | [],xs,h=>by
    cases h
    rfl
  | n :: r,xs,h=>by
    cases h with
    | cons h1 h2 =>
      cases h1
      rw [eK r _ h2] <;> rfl
section
variable {P:Program} {w:World} {K:W.Frag} {H:Hp} {h:Heap} {R:W.WRecords} {cl:Str→Option Addr}
theorem jr7 {a:Addr} {xs:List V} (hok:HOk P w H h) (KX:K.In h) (q:SqL K H a xs):∃ (its:List Value) (o:Obj) (n:Nat),kG xs its∧h.get? a=some o∧o.cls=.type "list"∧o.data=.seq its.toArray n:=by
  rcases q with q | ⟨o,its,n,e,hc,_,hd,_,hv⟩
  · obtain ⟨_,its,n,hv,e⟩:=(show kS P w H h a (.lst xs) from q.ok hok)
    exact ⟨its,_,n,hv,e,rfl,rfl⟩
  · exact ⟨its.toList,o,n,hv,KX _ _ e,hc,by simp [hd]⟩
theorem jr8 {a:Addr} {xs:List V} (hok:HOk P w H h) (KX:K.In h) (q:SqT K H a xs):∃ (its:List Value) (o:Obj) (n:Nat),kG xs its∧h.get? a=some o∧o.cls=.type "tuple"∧o.data=.seq its.toArray n:=by
  rcases q with q | ⟨o,its,n,e,hc,hd,_,hv⟩
  · obtain ⟨_,its,hv,o,e,hc,n,hd⟩:=(show kS P w H h a (.tup xs) from q.ok hok)
    exact ⟨its,o,n,hv,e,hc,hd⟩
  · exact ⟨its.toList,o,n,hv,KX _ _ e,hc,by simp [hd]⟩
mutual
theorem Dw.reads (hok:HOk P w H h) (KX:K.In h):∀ (d:WData) (v:V) (u:Value),Dw K H v d→kI v u→∃ as,ReadsW R cl h u d as
  | .none,_,_,x,r=>by
    cases x
    cases r
    exact ⟨_,ReadsW.none⟩
  | .bool b,_,_,x,r=>by
    cases x
    cases r
    exact ⟨_,ReadsW.bool b⟩
  | .int i,_,_,x,r=>by
    cases x
    obtain ⟨t,rfl⟩:=r
    exact ⟨_,ReadsW.int i t⟩
  | .str s,_,_,x,r=>by
    cases x
    obtain ⟨t,rfl⟩:=r
    exact ⟨_,ReadsW.str s t⟩
  | .bytes b,_,_,x,r=>by
    cases x
    obtain ⟨t,rfl⟩:=r
    exact ⟨_,ReadsW.bytes _ t⟩
  | .list ds,_,_,x,r=>by
    cases x with
    | lst hs ha =>
      cases r
      obtain ⟨its,o,n,rv,ho,hc,hd⟩:=jr7 hok KX hs
      obtain ⟨as,hr⟩:=Dw.readsAll hok KX ds _ its ha rv
      exact ⟨_,ReadsW.list ho hc hd hr⟩
  | .tuple ds,_,_,x,r=>by
    cases x with
    | tup hs ha =>
      cases r
      obtain ⟨its,o,n,rv,ho,hc,hd⟩:=jr8 hok KX hs
      obtain ⟨as,hr⟩:=Dw.readsAll hok KX ds _ its ha rv
      exact ⟨_,ReadsW.tuple ho hc hd hr⟩
  | .float _,_,_,x,_=>by cases x
  | .dict _,_,_,x,_=>by cases x
  | .bytearray _,_,_,x,_=>by cases x
  | .set _,_,_,x,_=>by cases x
  | .frozenset _,_,_,x,_=>by cases x
  | .obj _ _,_,_,x,_=>by cases x
theorem Dw.readsAll (hok:HOk P w H h) (KX:K.In h):∀ (ds:List WData) (vs:List V) (us:List Value),qU K H vs ds→kG vs us→∃ as,ReadsAllW R cl h us ds as
  | [],_,_,x,r=>by
    cases x
    cases r
    exact ⟨_,ReadsAllW.nil⟩
  | d :: ds,_,_,x,r=>by
    cases x with
    | cons h1 h2 =>
      cases r with
      | cons r1 r2 =>
        obtain ⟨as,q1⟩:=Dw.reads hok KX d _ _ h1 r1
        obtain ⟨bs,q2⟩:=Dw.readsAll hok KX ds _ _ h2 r2
        exact ⟨_,ReadsAllW.cons q1 q2⟩
end
end
mutual
def plW:WData→Bool
  | .none=>true
  | .bool _=>true
  | .int _=>true
  | .str _=>true
  | .bytes _=>true
  | .list xs=>lS xs
  | .tuple xs=>lS xs
  | _=>false
def lS:List WData→Bool
  | []=>true
  | x :: r=>plW x && lS r
end
theorem sQ {α:Type} {f:α→WData} (h:∀ a,plW (f a)=true):∀ l:List α,lS (l.map f)=true
  | []=>rfl
  | x :: r=>by
    show (plW (f x) && lS (r.map f))=true
    rw [h x,sQ h r] <;> rfl
theorem yU:∀ (c:Codec) (a:c.denote),plW (c.enc a)=true
  | .unit,_=>rfl
  | .bool,_=>rfl
  | .int _ _,_=>rfl
  | .nat _ _,_=>rfl
  | .u8,_=>rfl
  | .bytes _ _,_=>rfl
  | .text _ _ _ _,_=>rfl
  | .list _ _ c,a=>sQ (fun x=>yU c x) a
  | .pair c d,a=>by
    show (plW (c.enc a.1) && (plW (d.enc a.2) && true))=true
    rw [yU c a.1,yU d a.2] <;> rfl
  | .triple c d e,a=>by
    show (plW (c.enc a.1) && (plW (d.enc a.2.1) && (plW (e.enc a.2.2) && true)))=true
    rw [yU c a.1,yU d a.2.1,yU e a.2.2] <;> rfl
  | .option c,none=>rfl
  | .option c,some x=>yU c x
theorem rY:∀ (cs:List Codec) (a:Codec.denoteAll cs),lS (Codec.encAll cs a)=true
  | [],_=>rfl
  | c :: cs,a=>by
    show (plW (c.enc a.1) && lS (Codec.encAll cs a.2))=true
    rw [yU c a.1,rY cs a.2] <;> rfl
theorem yT:∀ {xs:List WData} {d:WData},d∈xs→d.weight≤WData.weightAll xs
  | [],d,h=>absurd h (by simp)
  | x :: r,d,h=>by
    show d.weight≤x.weight+1+WData.weightAll r
    rcases List.mem_cons.mp h with e | m
    · rw [e]
      omega
    · have z:=yT m
      omega
def toV:Value→V
  | .none=>.non
  | .bool b=>.bl b
  | .int i _=>.int i
  | .str x _=>.str x
  | .bytes b _=>.byt b
  | .ref a=>.ref a
  | _=>.non
def OkU (A:List Addr):Value→Prop
  | .none=>True
  | .bool _=>True
  | .int _ _=>True
  | .str _ _=>True
  | .bytes _ _=>True
  | .ref a=>a∈A
  | _=>False
theorem OkU.mono {A B:List Addr} (h:∀ a∈A,a∈B):∀ {u:Value},OkU A u→OkU B u:=fun {u} x=>by
  cases u with
  | ref a=>exact h a x
  | none=>trivial
  | bool b=>trivial
  | int i t=>trivial
  | str s t=>trivial
  | bytes b t=>trivial
  | _=>exact False.elim x
theorem jjX {A:List Addr} {u:Value} (x:OkU A u):kI (toV u) u:=by
  cases u with
  | ref a=>rfl
  | none=>rfl
  | bool b=>rfl
  | int i t=>exact ⟨t,rfl⟩
  | str s t=>exact ⟨t,rfl⟩
  | bytes b t=>exact ⟨t,rfl⟩
  | _=>exact False.elim x
theorem uP {A:List Addr}:∀ {vs:List Value},(∀ u∈vs,OkU A u)→kG (vs.map toV) vs
  | [],_=>.nil
  | u :: r,h=>.cons (jjX (h u (List.mem_cons_self ..))) (uP fun x hx=>h x (List.mem_cons_of_mem _ hx))
def y3 (h:Heap) (A:List Addr) (a:Addr):Prop:=∃ vs:List Value,vs.length≤sizeLine∧(∀ u∈vs,OkU A u) ∧
  (h.get? a=some { cls:=.type "list",data:=.seq vs.toArray }∨h.get? a=some { cls:=.type "tuple",data:=.seq vs.toArray })
theorem y3.mono {h:Heap} {A B:List Addr} {a:Addr} (k:∀ a∈A,a∈B) (x:y3 h A a):y3 h B a:=by
  obtain ⟨vs,h1,h2,h3⟩:=x
  exact ⟨vs,h1,fun u hu=>(h2 u hu).mono k,h3⟩
theorem wN {P:Params} {h:Heap}:∀ {vs:List Value} {ds:List WData},WellAll P h vs ds→vs.length=ds.length
  | _,_,.nil=>rfl
  | _,_,.cons _ b=>by
    show _+1=_+1
    rw [wN b]
theorem pV {P:Params} {h:Heap} {v:Value} {ds:List WData} (x:Well P h v (.list ds)):∃ (a:Addr) (vs:List Value),v=.ref a∧h.get? a=some { cls:=.type "list",data:=.seq vs.toArray }∧WellAll P h vs ds:=by
  cases x with
  | list ho hall=>exact ⟨_,_,rfl,ho,hall⟩
theorem dX {P:Params} {h:Heap} {v:Value} {ds:List WData} (x:Well P h v (.tuple ds)):∃ (a:Addr) (vs:List Value),v=.ref a∧h.get? a=some { cls:=.type "tuple",data:=.seq vs.toArray }∧WellAll P h vs ds:=by
  cases x with
  | tuple ho hall=>exact ⟨_,_,rfl,ho,hall⟩
theorem pK {P:Params} {h:Heap} {us:List Value} {d:WData} {ds:List WData} (x:WellAll P h us (d :: ds)):∃ (v:Value) (vs:List Value),us=v :: vs∧Well P h v d∧WellAll P h vs ds:=by
  cases x with
  | cons a b=>exact ⟨_,_,rfl,a,b⟩
theorem eB {n:Nat} (h:n≤1048576):n≤sizeLine:=Nat.le_trans h (by decide)
section
variable {P:Params} {h:Heap}
mutual
theorem oM:∀ (d:WData) (v:Value),Well P h v d→plW d=true→d.weight≤1048576→∃ A:List Addr,OkU A v∧∀ a∈A,y3 h A a
  | .none,_,x,_,_=>by
    cases x
    exact ⟨[],trivial,fun a m=>absurd m (by simp)⟩
  | .bool b,_,x,_,_=>by
    cases x
    exact ⟨[],trivial,fun a m=>absurd m (by simp)⟩
  | .int i,_,x,_,_=>by
    cases x
    exact ⟨[],trivial,fun a m=>absurd m (by simp)⟩
  | .str s,_,x,_,_=>by
    cases x
    exact ⟨[],trivial,fun a m=>absurd m (by simp)⟩
  | .bytes b,_,x,_,_=>by
    cases x
    exact ⟨[],trivial,fun a m=>absurd m (by simp)⟩
  | .list ds,_,x,p,z=>by
    obtain ⟨a,vs,rfl,ho,hall⟩:=pV x
    have z2:WData.weightAll ds≤1048576:=z
    obtain ⟨A,h1,h2⟩:=xV ds _ hall p fun d hd=>Nat.le_trans (yT hd) z2
    have k:∀ b∈A,b∈a :: A:=fun b hb=>List.mem_cons_of_mem _ hb
    refine ⟨a :: A,List.mem_cons_self ..,fun b hb=>?_⟩
    rcases List.mem_cons.mp hb with e | m
    · rw [e]
      exact ⟨vs,eB (by rw [wN hall];exact Nat.le_trans (W.length_le_weightAllW ds) z2),fun u hu=>(h1 u hu).mono k,.inl ho⟩
    · exact (h2 b m).mono k
  | .tuple ds,_,x,p,z=>by
    obtain ⟨a,vs,rfl,ho,hall⟩:=dX x
    have z2:WData.weightAll ds≤1048576:=z
    obtain ⟨A,h1,h2⟩:=xV ds _ hall p fun d hd=>Nat.le_trans (yT hd) z2
    have k:∀ b∈A,b∈a :: A:=fun b hb=>List.mem_cons_of_mem _ hb
    refine ⟨a :: A,List.mem_cons_self ..,fun b hb=>?_⟩
    rcases List.mem_cons.mp hb with e | m
    · rw [e]
      exact ⟨vs,eB (by rw [wN hall];exact Nat.le_trans (W.length_le_weightAllW ds) z2),fun u hu=>(h1 u hu).mono k,.inr ho⟩
    · exact (h2 b m).mono k
  | .float _,_,_,p,_=>Bool.noConfusion (show false=true from p)
  | .dict _,_,_,p,_=>Bool.noConfusion (show false=true from p)
  | .bytearray _,_,_,p,_=>Bool.noConfusion (show false=true from p)
  | .set _,_,_,p,_=>Bool.noConfusion (show false=true from p)
  | .frozenset _,_,_,p,_=>Bool.noConfusion (show false=true from p)
  | .obj _ _,_,_,p,_=>Bool.noConfusion (show false=true from p)
theorem xV:∀ (ds:List WData) (vs:List Value),WellAll P h vs ds→lS ds=true→(∀ d∈ds,d.weight≤1048576)→∃ A:List Addr,(∀ u∈vs,OkU A u)∧∀ a∈A,y3 h A a
  | [],_,x,_,_=>by
    cases x
    exact ⟨[],fun u m=>absurd m (by simp),fun a m=>absurd m (by simp)⟩
  | d :: ds,_,x,p,z=>by
    obtain ⟨v,vs,rfl,x1,x2⟩:=pK x
    have q:plW d=true∧lS ds=true:=Bool.and_eq_true_iff.mp p
    obtain ⟨A,a1,a2⟩:=oM d v x1 q.1 (z d (List.mem_cons_self ..))
    obtain ⟨B,b1,b2⟩:=xV ds vs x2 q.2 fun e he=>z e (List.mem_cons_of_mem _ he)
    have kA:∀ b∈A,b∈A++B:=fun b hb=>List.mem_append.mpr (.inl hb)
    have kB:∀ b∈B,b∈A++B:=fun b hb=>List.mem_append.mpr (.inr hb)
    refine ⟨A++B,fun u hu=>?_,fun b hb=>?_⟩
    · rcases List.mem_cons.mp hu with e | m
      · rw [e]
        exact a1.mono kA
      · exact (b1 u m).mono kB
    · rcases List.mem_append.mp hb with m | m
      · exact (a2 b m).mono kA
      · exact (b2 b m).mono kB
end
end
def jp0 (o:Obj):Option HO:=match o.data with
  | .seq vs _=>if (o.cls == Value.type "list")=true then some (.frz o (.lst (vs.toList.map toV))) else some (.frz o (.tup (vs.toList.map toV)))
  | _=>none
def dD (K:W.Frag) (h:Heap) (A:List Addr):Hp:=fun b=>if b∈A then (if (K.lookup b).isNone=true then (h.get? b).bind jp0 else none) else none
def jg0 (H:Hp):Prop:=∀ b,H b=none∨∃ o u,H b=some (.frz o u)
theorem nR (vs:List Value):jp0 { cls:=.type "list",data:=.seq vs.toArray }=some (.frz { cls:=.type "list",data:=.seq vs.toArray } (.lst (vs.map toV))):=by
  show (if (Value.type "list" == Value.type "list")=true then some (HO.frz { cls:=.type "list",data:=.seq vs.toArray } (.lst (vs.toArray.toList.map toV))) else some (HO.frz { cls:=.type "list",data:=.seq vs.toArray } (.tup (vs.toArray.toList.map toV))))=_
  rw [if_pos (beq_self_eq_true _)]
theorem nP (vs:List Value):jp0 { cls:=.type "tuple",data:=.seq vs.toArray }=some (.frz { cls:=.type "tuple",data:=.seq vs.toArray } (.tup (vs.map toV))):=by
  show (if (Value.type "tuple" == Value.type "list")=true then some (HO.frz { cls:=.type "tuple",data:=.seq vs.toArray } (.lst (vs.toArray.toList.map toV))) else some (HO.frz { cls:=.type "tuple",data:=.seq vs.toArray } (.tup (vs.toArray.toList.map toV))))=_
  rw [if_neg (by decide)]
section
variable {P:Program} {w:World} {K:W.Frag} {h:Heap} {A:List Addr}
theorem dC {b:Addr} {o:Obj} (hb:b∈A) (hk:K.lookup b=none) (e:h.get? b=some o):dD K h A b=jp0 o:=by
  unfold dD
  rw [if_pos hb,hk,if_pos (show (none:Option Obj).isNone=true from rfl),e] <;> rfl
theorem jwV {b:Addr} {u:HO} (q:dD K h A b=some u):b∈A∧K.lookup b=none:=by
  unfold dD at q
  by_cases hb:b∈A
  · rw [if_pos hb] at q
    cases hk:K.lookup b with
    | none=>exact ⟨hb,rfl⟩
    | some o =>
      rw [hk,if_neg (by simp)] at q
      cases q
  · rw [if_neg hb] at q
    cases q
theorem dR (ar:∀ a∈A,y3 h A a) {b:Addr} {u:HO} (q:dD K h A b=some u):K.lookup b=none∧∃ vs:List Value,vs.length≤sizeLine∧(∀ u∈vs,OkU A u) ∧
    ((h.get? b=some { cls:=.type "list",data:=.seq vs.toArray }∧u=.frz { cls:=.type "list",data:=.seq vs.toArray } (.lst (vs.map toV))) ∨
     (h.get? b=some { cls:=.type "tuple",data:=.seq vs.toArray }∧u=.frz { cls:=.type "tuple",data:=.seq vs.toArray } (.tup (vs.map toV)))):=by
  obtain ⟨hb,hk⟩:=jwV q
  obtain ⟨vs,h1,h2,h3⟩:=ar b hb
  refine ⟨hk,vs,h1,h2,?_⟩
  rcases h3 with e | e
  · rw [dC hb hk e,nR] at q
    exact .inl ⟨e,(Option.some.inj q).symm⟩
  · rw [dC hb hk e,nP] at q
    exact .inr ⟨e,(Option.some.inj q).symm⟩
theorem lU (ar:∀ a∈A,y3 h A a):jg0 (dD K h A):=fun b=>by
  cases q:dD K h A b with
  | none=>exact .inl rfl
  | some u =>
    obtain ⟨_,vs,_,_,⟨_,e⟩ | ⟨_,e⟩⟩:=dR ar q
    · exact .inr ⟨_,_,by rw [e]⟩
    · exact .inr ⟨_,_,by rw [e]⟩
theorem jz9 (ar:∀ a∈A,y3 h A a):HOk P w (dD K h A) h:=fun b u q=>by
  obtain ⟨_,vs,h1,h2,⟨e,rfl⟩ | ⟨e,rfl⟩⟩:=dR ar q
  · exact ⟨e,by rw [List.length_map];exact h1,vs,_,uP h2,e⟩
  · exact ⟨e,by rw [List.length_map];exact h1,vs,uP h2,_,e,rfl,_,rfl⟩
theorem bX {c c':Value} {vs us:List Value} (e:(some { cls:=c,data:=.seq vs.toArray }:Option Obj)=some { cls:=c',data:=.seq us.toArray }):c=c'∧vs=us:=by
  have e1:=Option.some.inj e
  have e2:c=c':=congrArg Obj.cls e1
  have e3:Data.seq vs.toArray=Data.seq us.toArray:=congrArg Obj.data e1
  injection e3 with e4
  refine ⟨e2,?_⟩
  have e5:=congrArg Array.toList e4
  simpa using e5
theorem jsJ (KX:K.In h) (ar:∀ a∈A,y3 h A a) {a:Addr} {vs:List Value} (ha:a∈A) (e:h.get? a=some { cls:=.type "list",data:=.seq vs.toArray }):(∀ u∈vs,OkU A u)∧SqL K (dD K h A) a (vs.map toV):=by
  obtain ⟨us,h1,h2,h3⟩:=ar a ha
  have hu:us=vs:=by
    rcases h3 with q | q
    · rw [e] at q
      exact (bX q).2.symm
    · rw [e] at q
      exact absurd (Value.type.inj (bX q).1) (by decide)
  subst hu
  refine ⟨h2,?_⟩
  cases hk:K.lookup a with
  | none=>exact .inl (.inr ⟨_,by rw [dC ha hk e,nR]⟩)
  | some o =>
    have e2:=KX a o hk
    rw [e] at e2
    obtain rfl:=Option.some.inj e2
    exact .inr ⟨_,us.toArray,_,hk,rfl,rfl,rfl,by rw [List.size_toArray];exact h1,by simpa using uP h2⟩
theorem jsK (KX:K.In h) (ar:∀ a∈A,y3 h A a) {a:Addr} {vs:List Value} (ha:a∈A) (e:h.get? a=some { cls:=.type "tuple",data:=.seq vs.toArray }):(∀ u∈vs,OkU A u)∧SqT K (dD K h A) a (vs.map toV):=by
  obtain ⟨us,h1,h2,h3⟩:=ar a ha
  have hu:us=vs:=by
    rcases h3 with q | q
    · rw [e] at q
      exact absurd (Value.type.inj (bX q).1) (by decide)
    · rw [e] at q
      exact (bX q).2.symm
  subst hu
  refine ⟨h2,?_⟩
  cases hk:K.lookup a with
  | none=>exact .inl (.inr ⟨_,by rw [dC ha hk e,nP]⟩)
  | some o =>
    have e2:=KX a o hk
    rw [e] at e2
    obtain rfl:=Option.some.inj e2
    exact .inr ⟨_,us.toArray,_,hk,rfl,rfl,by rw [List.size_toArray];exact h1,by simpa using uP h2⟩
mutual
theorem jgV {Pm:Params} (KX:K.In h) (ar:∀ a∈A,y3 h A a):∀ (d:WData) (v:Value),Well Pm h v d→plW d=true→OkU A v→Dw K (dD K h A) (toV v) d
  | .none,_,x,_,_=>by
    cases x
    exact .non
  | .bool b,_,x,_,_=>by
    cases x
    exact .bl b
  | .int i,_,x,_,_=>by
    cases x
    exact .int i
  | .str s,_,x,_,_=>by
    cases x
    exact .str s
  | .bytes b,_,x,_,_=>by
    cases x
    have z:=Dw.byt (K:=K) (H:=dD K h A) b.toArray
    exact z
  | .list ds,_,x,p,hu=>by
    obtain ⟨a,vs,rfl,ho,hall⟩:=pV x
    obtain ⟨h2,hs⟩:=jsJ KX ar hu ho
    exact .lst hs (nG KX ar ds _ hall p h2)
  | .tuple ds,_,x,p,hu=>by
    obtain ⟨a,vs,rfl,ho,hall⟩:=dX x
    obtain ⟨h2,hs⟩:=jsK KX ar hu ho
    exact .tup hs (nG KX ar ds _ hall p h2)
  | .float _,_,_,p,_=>Bool.noConfusion (show false=true from p)
  | .dict _,_,_,p,_=>Bool.noConfusion (show false=true from p)
  | .bytearray _,_,_,p,_=>Bool.noConfusion (show false=true from p)
  | .set _,_,_,p,_=>Bool.noConfusion (show false=true from p)
  | .frozenset _,_,_,p,_=>Bool.noConfusion (show false=true from p)
  | .obj _ _,_,_,p,_=>Bool.noConfusion (show false=true from p)
theorem nG {Pm:Params} (KX:K.In h) (ar:∀ a∈A,y3 h A a):∀ (ds:List WData) (vs:List Value),WellAll Pm h vs ds→lS ds=true→(∀ u∈vs,OkU A u)→qU K (dD K h A) (vs.map toV) ds
  | [],_,x,_,_=>by
    cases x
    exact .nil
  | d :: ds,_,x,p,hu=>by
    obtain ⟨v,vs,rfl,x1,x2⟩:=pK x
    have q:plW d=true∧lS ds=true:=Bool.and_eq_true_iff.mp p
    exact .cons (jgV KX ar d v x1 q.1 (hu _ (List.mem_cons_self ..))) (nG KX ar ds vs x2 q.2 fun u m=>hu u (List.mem_cons_of_mem _ m))
end
end
theorem hG {ds:List WData} (h:WData.layableAll ds=true):∀ d∈ds,d.weight≤1048576:=fun d hd =>
  (W.layableW_iff.mp (List.all_eq_true.mp h d hd)).2.2
theorem fG:∀ (cs:List Codec) (a:Codec.denoteAll cs),(Codec.encAll cs a).length=cs.length
  | [],_=>rfl
  | c :: cs,a=>by
    show (Codec.encAll cs a.2).length+1=cs.length+1
    rw [fG cs a.2]
end L2
end
namespace L2
open PySem PySem.Spec PyProof.Rows
def hZ (c:Addr) (qual:Str):HO:=.ext fun h=>h.CodeRec (.ref c) qual
def fnO (f:Addr) (fd:Value→Value→Value→FuncData):HO:=.ext fun h=>∃ doc pm ctv,h.get? f=some { cls:=.type "function",data:=.func (fd doc pm ctv) }
def Tab (P:Addr) (pos:Pos) (qual:Str) (H:Hp):Prop:=H P=some (.tbl #[])∨∃ c,H P=some (.tbl #[rawInt pos.line,rawInt pos.col,.ref c])∧H c=some (hZ c qual)
structure g0 (mg:Str→Option Value) (base:Heap) (c P:Addr):Prop where
  code:W.CodeHd base c P
  bm:base.BuiltinsAt mg P
  gl:mainGlobals≠P
theorem o1 {P:Program} {w:World} {H:Hp} {h:Heap} {c:Addr} {qual:Str} (r:h.CodeRec (.ref c) qual):kS P w H h c (hZ c qual):=by
  refine ⟨r,?_,fun h1 h2 r1 k=>?_⟩
  · obtain ⟨c',oc,vs,t,e,hoc,_⟩:=r
    cases e
    exact ⟨oc,hoc⟩
  · obtain ⟨c',oc,vs,t,e,hoc,hd⟩:=r1
    cases e
    exact ⟨c,oc,vs,t,rfl,k _ hoc,hd⟩
theorem jv2 {P:Program} {w:World} {H:Hp} {h:Heap} {f:Addr} {fd:Value→Value→Value→FuncData} {doc pm ctv:Value} (e:h.get? f=some { cls:=.type "function",data:=.func (fd doc pm ctv) }):kS P w H h f (fnO f fd) :=
  ⟨⟨doc,pm,ctv,e⟩,⟨_,e⟩,fun h1 h2 ⟨d,p,c,r⟩ k=>⟨d,p,c,k _ r⟩⟩
theorem bL {pos:Pos} {c:Addr}:codeAmong pos (#[rawInt pos.line,rawInt pos.col,.ref c]:Array Value).toList=some (.ref c):=by
  simp [codeAmong,rawInt]
theorem bT {pos:Pos}:codeAmong pos (#[]:Array Value).toList=none:=by simp [codeAmong]
section
variable {X:Cx} {pins:List (Addr×Obj)} {σ:St} {H H':Hp} {s:Shared} {h':Heap} {P:Addr} {ps more:Array Value} {t':Nat}
theorem Inv.grow (I:Inv X pins σ H s) (hP:H P=some (.tbl ps)) (hx:∀ b o,b≠P→s.heap.get? b=some o→h'.get? b=some o) (hP':h'.get? P=some { cls:=.none,data:=.fields (ps++more) })
    (hH:∀ b,b≠P→b < s.heap.objs.size→H' b=H b) (hHP:H' P=some (.tbl (ps++more))) (new:∀ b o,s.heap.objs.size≤b→H' b=some o→kS X.prog X.w H' h' b o) :
    Inv X pins σ H' { s with heap:=h',toks:=t' }:=by
  have ne:∀ b,H b=none→b≠P:=fun b n z=>by rw [z,hP] at n;cases n
  have ne2:∀ b u,H b=some u→(∀ ps,u≠.tbl ps)→b≠P:=fun b u e n z=>by rw [z,hP] at e;cases e;exact n _ rfl
  have lt:∀ {b u},H b=some u→b < s.heap.objs.size:=fun e=>I.hok.lt e
  refine I.un ⟨fun b o e n _ _=>hx b o (ne b n) e,fun b o e n _ _=>⟨o.slots,hx b o (ne b n) e⟩,fun b o e n _=>by rw [hH b (ne b n) (Heap.lt_size e)];exact n,fun b o e _=>?_,fun b xs e=>?_,fun b o u e=>?_,fun b qs e=>?_⟩ fun b u e=>?_
  · by_cases z:b=P
    · exact ⟨_,z ▸ hP'⟩
    · exact ⟨o,hx b o z e⟩
  · rw [hH b (ne2 b _ e fun _ z=>nomatch z) (lt e)];exact e
  · rw [hH b (ne2 b _ e fun _ z=>nomatch z) (lt e)];exact e
  · by_cases z:b=P
    · subst z
      rw [hP] at e
      cases e
      exact ⟨more,hHP⟩
    · exact ⟨#[],by rw [hH b z (lt e),e];simp⟩
  · by_cases z:b=P
    · subst z
      rw [hHP] at e
      cases e
      exact hP'
    · by_cases l:b < s.heap.objs.size
      · have e1:=e
        rw [hH b z l] at e1
        refine (I.hok b u e1).stay (fun c v hc q=>hx c v ?_ q) (fun c q=>?_) fun c xs q=>?_
        · rcases hc with rfl | hc
          · exact z
          · exact ne2 c _ hc fun _ z=>nomatch z
        · rw [hH c (ne2 c _ q fun _ z=>nomatch z) (lt q)];exact q
        · rw [hH c (ne2 c _ q fun _ z=>nomatch z) (lt q)];exact q
      · exact new b u (Nat.le_of_not_lt l) e
def iR (P:Addr) (pos:Pos) (qual:Str) (fd:Addr→Value→Value→Value→FuncData) (H:Hp) (Q:VK):Prop :=
  Tab P pos qual H∧∀ (f c:Addr) (H':Hp),H f=none→H' f=some (fnO f (fd c))→H' c=some (hZ c qual)→Tab P pos qual H'→(∀ b o,H b=some o→b≠P→H' b=some o)→Q (.ref f) H'
def jp1 (name qual:Str) (params:Arguments) (body:Expr) (scope:Scope) (cl:List (Str×Addr)) (c:Addr):Value→Value→Value→FuncData:=fun _ pm ctv=>W.kla_fn name qual params body scope cl pm (.ref c) ctv
def jpW (name qual:Str) (params:Arguments) (body:List Stmt) (scope:Scope) (cl:List (Str×Addr)) (c:Addr):Value→Value→Value→FuncData:=fun doc pm ctv=>W.fnX name qual params body scope cl .none .none doc pm none (.ref c) ctv
theorem g0.at {mg:Str→Option Value} {c:Addr} (N:g0 mg X.base c P) (I:Inv X pins σ H s):W.CodeHd s.heap c P∧s.heap.BuiltinsAt mg P:=⟨N.code.keeps I.bk,N.bm.keeps I.bk⟩
theorem cI {Q:VK} {pos:Pos} {qual:Str} {fd:Addr→Value→Value→Value→FuncData} {c:Addr} {m:Sem Value} (I:Inv X pins σ H s) (h:iR P pos qual fd H Q)
    (miss:s.heap.get? P=some (W.tabObj #[])→(∀ (c':Addr) (ctv doc pm:Value) (h':Heap) (tk:Nat),Heap.ExtBut P s.heap h'→s.heap.objs.size≤c'→c' < h'.objs.size→h'.CodeRec (.ref c') qual→h'.get? P=some (W.tabObj (#[]++#[rawInt pos.line,rawInt pos.col,.ref c'])) →
      EP X pins σ Q (.ref h'.objs.size) { s with heap:=h'.push { cls:=.type "function",data:=.func (fd c' doc pm ctv) },toks:=tk })→wpAny (model X.prog X.w) X.A m (EP X pins σ Q) X.xe s)
    (hit:∀ c':Addr,s.heap.get? P=some (W.tabObj #[rawInt pos.line,rawInt pos.col,.ref c'])→(∀ (ctv doc pm:Value) (h':Heap) (tk:Nat),(∀ b o,s.heap.get? b=some o→h'.get? b=some o)→s.heap.objs.size≤h'.objs.size →
      EP X pins σ Q (.ref h'.objs.size) { s with heap:=h'.push { cls:=.type "function",data:=.func (fd c' doc pm ctv) },toks:=tk })→wpAny (model X.prog X.w) X.A m (EP X pins σ Q) X.xe s) :
    wpAny (model X.prog X.w) X.A m (EP X pins σ Q) X.xe s:=by
  obtain ⟨hT,k⟩:=h
  rcases hT with hP | ⟨c',hP,hc'⟩
  · have eP:s.heap.get? P=some (W.tabObj #[]):=I.hok P _ hP
    refine miss eP fun c' ctv doc pm h' tk hx hge hlt hrec htb=>?_
    have cP:c'≠P:=fun z=>absurd (Nat.lt_of_lt_of_le (Heap.lt_size eP) (z ▸ hge)) (Nat.lt_irrefl _)
    have fP:h'.objs.size≠P:=fun z=>absurd (Nat.lt_trans (Nat.lt_of_lt_of_le (Heap.lt_size eP) hge) hlt) (by rw [z];exact Nat.lt_irrefl _)
    have fc:c'≠h'.objs.size:=Nat.ne_of_lt hlt
    have hf0:H h'.objs.size=none:=I.hok.fresh (Nat.le_trans hge (Nat.le_of_lt hlt))
    have hc0:H c'=none:=I.hok.fresh hge
    have g1:(h'.push { cls:=.type "function",data:=.func (fd c' doc pm ctv) }).get? h'.objs.size=some { cls:=.type "function",data:=.func (fd c' doc pm ctv) }:=Heap.get?_push_size _ rfl
    have eH':∀ b,b≠P→b≠c'→b≠h'.objs.size→(upd (upd (upd H P (.tbl (#[]++#[rawInt pos.line,rawInt pos.col,.ref c']))) c' (hZ c' qual)) h'.objs.size (fnO h'.objs.size (fd c'))) b=H b:=fun b b1 b2 b3=>by rw [jV b3,jV b2,jV b1]
    have eP':(upd (upd (upd H P (.tbl (#[]++#[rawInt pos.line,rawInt pos.col,.ref c']))) c' (hZ c' qual)) h'.objs.size (fnO h'.objs.size (fd c'))) P=some (.tbl (#[]++#[rawInt pos.line,rawInt pos.col,.ref c'])):=by rw [jV fP.symm,jV cP.symm,jK]
    have ec':(upd (upd (upd H P (.tbl (#[]++#[rawInt pos.line,rawInt pos.col,.ref c']))) c' (hZ c' qual)) h'.objs.size (fnO h'.objs.size (fd c'))) c'=some (hZ c' qual):=by rw [jV fc,jK]
    refine ⟨.ref h'.objs.size,_,I.grow (H':=upd (upd (upd H P (.tbl (#[]++#[rawInt pos.line,rawInt pos.col,.ref c']))) c' (hZ c' qual)) h'.objs.size (fnO h'.objs.size (fd c'))) (more:=#[rawInt pos.line,rawInt pos.col,.ref c']) hP (fun b o n e=>Heap.get?_push_of_some _ (hx b o n e)) (Heap.get?_push_of_some _ htb) (fun b n l=>?_) eP' (fun b o l e=>?_),rfl,k _ c' _ hf0 jK ec' (.inr ⟨c',by rw [eP'];simp,ec'⟩) fun b o e n=>?_⟩
    · exact eH' b n (fun z=>absurd (Nat.lt_of_lt_of_le l hge) (by rw [z];exact Nat.lt_irrefl _)) (fun z=>absurd (Nat.lt_of_lt_of_le l (Nat.le_trans hge (Nat.le_of_lt hlt))) (by rw [z];exact Nat.lt_irrefl _))
    · by_cases z1:b=h'.objs.size
      · subst z1
        rw [jK] at e
        cases e
        exact jv2 g1
      · by_cases z2:b=c'
        · subst z2
          rw [ec'] at e
          cases e
          refine o1 ?_
          obtain ⟨c2,oc,vs,t,e1,hoc,hd⟩:=hrec
          exact ⟨c2,oc,vs,t,e1,Heap.get?_push_of_some _ hoc,hd⟩
        · by_cases z3:b=P
          · exact absurd (Nat.lt_of_lt_of_le (Heap.lt_size eP) (z3 ▸ l)) (Nat.lt_irrefl _)
          · rw [eH' b z3 z2 z1,I.hok.fresh l] at e
            cases e
    · rw [eH' b n (jX e hc0) (jX e hf0)];exact e
  · have eP:s.heap.get? P=some (W.tabObj #[rawInt pos.line,rawInt pos.col,.ref c']):=I.hok P _ hP
    refine hit c' eP fun ctv doc pm h' tk hk hsz=>?_
    have hf0:H h'.objs.size=none:=I.hok.fresh hsz
    have n1:∀ b o,H b=some o→b≠h'.objs.size:=fun b o e=>jX e hf0
    refine ⟨.ref h'.objs.size,_,I.laid (a:=h'.objs.size) (o:=fnO h'.objs.size (fd c')) (fun b o e=>Heap.get?_push_of_some _ (hk b o e)) hsz (jv2 (Heap.get?_push_size _ rfl)),rfl,k _ c' _ hf0 jK ?_ ?_ fun b o e n=>?_⟩
    · rw [jV (n1 _ _ hc')];exact hc'
    · exact .inr ⟨c',by rw [jV (n1 _ _ hP)];exact hP,by rw [jV (n1 _ _ hc')];exact hc'⟩
    · rw [jV (n1 _ _ e)];exact e
def js6 (P:Addr) (pos:Pos) (qual:Str) (fd:Addr→Value→Value→Value→FuncData):TE:=fun _ H Q=>iR P pos qual fd H Q
theorem jfJ {params:Arguments} {body:Expr} {scope:Scope} {pos:Pos} {c:Addr} (N:g0 X.mg X.base c P) (hcode:X.env.code=.ref c) (hdef:defaultsOf params X.env=([],[]):=by rfl) (hfree:∀ y∈scope.names,y.2=.free→X.env.kindOf y.1=some .cell:=by decide) :
    PE X (.Lambda params body scope pos) (js6 P pos (X.env.qual++"<lambda>") (jp1 "<lambda>" (X.env.qual++"<lambda>") params body scope (jE X.env.cells scope.names []))):=by
  intro pins s σ H Q I h
  have hcl:closureFor scope X.env=pure (jE X.env.cells scope.names []):=yJ fun y hy e=>I.ok.has y.1 (.inl (hfree y hy e))
  obtain ⟨hC,hb⟩:=N.at I
  refine W.kla_eval hdef (cI (c:=c) I h (fun eP fin=>?_) fun c' eP fin=>?_)
  · exact W.kla_makeFunction hcl I.ok.glob (I.mod.glob.keeps I.bk) hcode hC eP trivial bT N.gl hb fun c' ctv h' tk hx hge hlt hrec htb=>fin c' ctv .none _ h' tk hx hge hlt hrec htb
  · exact W.kla_makeFunctionHit hcl I.ok.glob (I.mod.glob.keeps I.bk) hcode hC eP (by simp [TriplesOk,rawInt]) bL hb fun ctv h' tk hk hsz=>fin ctv .none _ h' tk hk hsz
def js5 (i:Nat) (P:Addr) (pos:Pos) (qual:Str) (fd:Addr→Value→Value→Value→FuncData):TS:=fun D σ H=>iR P pos qual fd H fun v H'=>D.nx (σ.set i (some v)) H'
theorem jd0 {i:Nat} {name:Str} {params:Arguments} {body:List Stmt} {scope:Scope} {pos:Pos} {c:Addr} (hN:X.N.Nodup) (hi:X.N[i]? = some name) (hx:Loc X.env.scope name) (N:g0 X.mg X.base c P) (hcode:X.env.code=.ref c)
    (hd0:params.defaults=[]:=by rfl) (hk0:params.kw_defaults=[]:=by rfl) (ha:annTrees params none X.env=[]:=by rfl) (hfree:∀ y∈scope.names,y.2=.free→X.env.kindOf y.1=some .cell:=by decide)
    (hf:X.fn name=true∨X.env.scope.names.lookup name=some .local:=by first | exact .inl rfl | exact .inr rfl | assumption) :
    PS X (.FunctionDef name params body [] none [] scope none name pos) (js5 i P pos (qualnameIn X.env name name) (jpW name (qualnameIn X.env name name) params body scope (jE X.env.cells scope.names []))):=by
  intro pins s σ H D I h
  have hcl:closureFor scope X.env=pure (jE X.env.cells scope.names []):=yJ fun y hy e=>I.ok.has y.1 (.inl (hfree y hy e))
  obtain ⟨hC,hb⟩:=N.at I
  refine W.nestDef_K hd0 hk0 ha (thn (cI (c:=c) (Q:=fun v H'=>D.nx (σ.set i (some v)) H') I h (fun eP fin=>?_) fun c' eP fin=>?_) fun v s1 ⟨x,H1,I1,r1,q1⟩=>xH I1 hN hi hx r1 (fun s2 I2=>⟨_,H1,I2,q1⟩) hf)
  · exact W.makeFunction_K hcl I.ok.glob (I.mod.glob.keeps I.bk) hcode hC eP trivial bT N.gl hb fun c' ctv doc h' tk hx hge hlt hrec htb=>fin c' ctv doc _ h' tk hx hge hlt hrec htb
  · exact W.makeFunction_hit hcl I.ok.glob (I.mod.glob.keeps I.bk) hcode hC eP (by simp [TriplesOk,rawInt]) bL hb fun ctv doc h' tk hk hsz=>fin ctv doc _ h' tk hk hsz
end
structure u0 (N0:List Str) (sc0:Scope) (p:Str) (fs:List (Str×Nat)) (sc:Scope):Prop where
  kind:sc.kind=.function
  co:sc.isCoroutine=false
  gen:sc.isGenerator=false
  par:sc.names.lookup p=some .local
  fre:∀ x∈fs,sc.names.lookup x.1=some .free∧sc0.names.lookup x.1=some .cell∧N0[x.2]? = some x.1
  cel:∀ y∈sc.names,y.2≠.cell
  all:∀ y∈sc.names,y.2=.free→sc0.names.lookup y.1=some .cell
def cxC (X:Cx) (N:List Str) (qual:Str) (scope:Scope) (f c:Addr) (A:Around) (s:Shared) (H:Hp):Cx where
  prog:=X.prog
  w:=X.w
  K:=X.K
  mg:=X.mg
  base:=X.base
  A:=A.deeper (W.envX qual scope s.heap.objs.size f (.ref c) (jE X.env.cells scope.names []))
  N:=N
  s_0:=s
  H_0:=H
  env:=W.envX qual scope s.heap.objs.size f (.ref c) (jE X.env.cells scope.names [])
  outer:=X.stack
  stack:=W.envX qual scope s.heap.objs.size f (.ref c) (jE X.env.cells scope.names []) :: X.stack
  ex:=[]
  calm:=true
  fn:=fun _=>false
  pn:=[]
  xe:=fun _ _=>False
def gN (σ:St) (v:V) (fs:List (Str×Nat)):St:=some v :: fs.map fun x=>(σ[x.2]?).getD none
section
variable {X:Cx} {pins:List (Addr×Obj)} {σ:St} {H:Hp} {s:Shared} {A:Around} {p:Str} {fs:List (Str×Nat)} {sc:Scope} {qual:Str} {f c:Addr} {v:V} {u:Value}
theorem eV {h1:Heap} {tk:Nat} (I:Inv X pins σ H s) (S:u0 X.N X.env.scope p fs sc) (hd:A.handled=none) (hA:A.frames=some X.stack) (r:kI v u)
    (hns:h1.Ns s.heap.objs.size (fun y=>[(p,u)].reverse.lookup y)) (hk:∀ b o,s.heap.get? b=some o→h1.get? b=some o) :
    Inv (cxC X (p :: fs.map (·.1)) qual sc f c A s H) [] (gN σ v fs) H { s with heap:=h1,toks:=tk }:=by
  have look:∀ {x:Str} {a:Addr},(jE X.env.cells sc.names []).lookup x=some a→X.env.cells.lookup x=some a:=fun {x a} e=>by
    rcases zF (PySem.mem_of_lookup e) with h | ⟨h1,h2⟩
    · cases h
    · obtain ⟨a',ha'⟩:=I.ok.has x (.inl (S.all _ h1 rfl))
      rw [h2,ha'];rfl
  have has:∀ x:Str,sc.names.lookup x=some .free→∃ a,(jE X.env.cells sc.names []).lookup x=some a:=fun x e=>uD (wH (PySem.mem_of_lookup e))
  have noA:∀ b:Addr,b∉([]:List Addr):=fun b z=>nomatch z
  refine ⟨⟨I.ok.mod,S.kind,rfl,rfl,Nat.le_refl _,fun x y a e1 e2=>I.ok.inj x y a (look e1) (look e2),fun x hx=>?_,fun x a z=>(nomatch z),fun _=>hd,Around.frames_deeper hA,.inr ⟨rfl,rfl⟩,fun b z=>absurd z (noA b),I.bs,Nat.le_trans I.ok.bsz I.sz,fun b _ _=>noA b,fun b z=>absurd z (noA b),I.stack,I.stkFree⟩,
    rfl,I.bare,Un.kept hk,⟨_,hns,fun i x w h1 h2 h3=>?_⟩,fun x a e=>?_,I.hok.fresh (Nat.le_refl _),fun x a e=>I.freeC x a (look e),fun p hp=>absurd (show p∈([]:List (Addr×Obj)) from hp) (by simp),I.hok.kept hk,?_⟩
  · have hx:sc.names.lookup x=some .cell∨sc.names.lookup x=some .free:=hx
    rcases hx with hx | hx
    · exact absurd rfl (S.cel _ (PySem.mem_of_lookup hx))
    · exact has x hx
  · have h1:(p :: fs.map (·.1))[i]? = some x:=h1
    have h2:(some v :: fs.map fun x=>(σ[x.2]?).getD none)[i]? = some (some w):=h2
    cases i with
    | zero =>
      have e1:p=x:=by simpa using h1
      have e2:v=w:=by simpa using h2
      subst e1 e2
      exact ⟨u,r,.inl ⟨S.par,by simp⟩⟩
    | succ j =>
      rw [List.getElem?_cons_succ,List.getElem?_map] at h1 h2
      cases e:fs[j]? with
      | none=>rw [e] at h1;cases h1
      | some q =>
        rw [e] at h1 h2
        have e1:q.1=x:=by simpa using h1
        have e2:(σ[q.2]?).getD none=some w:=by simpa using h2
        have e3:σ[q.2]? = some (some w):=by
          cases e4:σ[q.2]? with
          | none=>rw [e4] at e2;cases e2
          | some z=>rw [e4] at e2;rw [show z=some w from e2]
        obtain ⟨f1,f2,f3⟩:=S.fre q (List.mem_of_getElem? e)
        obtain ⟨m,hn,hl⟩:=I.loc
        obtain ⟨u',r',l⟩:=hl q.2 q.1 w f3 e3 (.inr (.inl f2))
        refine ⟨u',r',.inr ⟨.inr (show sc.names.lookup x=some .free from e1 ▸ f1),?_⟩⟩
        rcases l with ⟨l,_⟩ | ⟨_,a,ha,z⟩
        · have l:X.env.scope.names.lookup q.1=some .local:=l
          rw [f2] at l;cases l
        · obtain ⟨a',ha'⟩:=has x (e1 ▸ f1)
          have ea:=look ha'
          rw [← e1,ha] at ea
          cases ea
          obtain ⟨o,ho,hd⟩:=z
          exact ⟨a,ha',o,hk _ _ ho,hd⟩
  · obtain ⟨w,o,ho,hd⟩:=I.cell x a (look e)
    exact ⟨w,o,hk _ _ ho,hd⟩
  · show (some v :: fs.map fun x=>(σ[x.2]?).getD none).length=(p :: fs.map (·.1)).length
    rw [List.length_cons,List.length_cons,List.length_map,List.length_map]
theorem aJ {σ':St} {H':Hp} {s':Shared} {N:List Str} {Q:VK} {x:V} {y:Value} (J:Inv (cxC X N qual sc f c A s H) [] σ' H' s') (r:kI x y) (q:Q x H'):CE X.stack X.prog X.w H s Q y s':=⟨x,H',J.os,J.bare,J.base,J.hok,r,q⟩
theorem ju4 {name:Str} {params:Arguments} {body:Expr} {Q:VK} {k:Nat} (I:Inv X pins σ H s) (S:u0 X.N X.env.scope p fs sc) (hr:wU (k+1) A) (hA:A.frames=some X.stack) (r:kI v u)
    (hf:H f=some (fnO f (jp1 name qual params body sc (jE X.env.cells sc.names []) c))) (hc:H c=some (hZ c qual)) (hb:∀ pm ctv,bindArgs (jp1 name qual params body sc (jE X.env.cells sc.names []) c .none pm ctv) ⟨[u],[]⟩=pure [(p,u)])
    (hbody:∃ t,PE (cxC X (p :: fs.map (·.1)) qual sc f c A s H) body t∧t (gN σ v fs) H Q) :
    wpAny (model X.prog X.w) A (call (.ref f) [u]) (EP X pins σ Q) (fun _ _=>False) s:=by
  obtain ⟨⟨doc,pm,ctv,ef⟩,_⟩:=I.hok f _ hf
  obtain ⟨hrec,_⟩:=I.hok c _ hc
  obtain ⟨t,ht,hq⟩:=hbody
  have lift:∀ (y:Value) (s':Shared),CE X.stack X.prog X.w H s Q y s'→EP X pins σ Q y s':=fun y s' h=>I.after h
  refine wpAny_call (codeAny_mono (R:=fun r s'=>match r with | .ok (.ret y)=>CE X.stack X.prog X.w H s Q y s' | _=>False) ?_ fun r s' h=>?_)
  · refine W.kla_callFunE hr.depth ef rfl S.co S.gen rfl hrec ?_
    have e:=hb pm ctv
    have e:bindArgs (jp1 name qual params body sc (jE X.env.cells sc.names []) c doc pm ctv) ⟨[u],[]⟩=pure [(p,u)]:=e
    rw [e]
    refine wpAny_pure (wpAny_newFunctionEnv S.cel (fun y hy=>by rw [List.mem_singleton.mp hy];exact S.par) (fun h1 hns hsb=>⟨(I.nolimit).fresh _ hsb,?_⟩) S.kind)
    have hk1:∀ b o,s.heap.get? b=some o→h1.get? b=some o:=fun b o e=>hsb.extBut b o (Nat.ne_of_lt (Heap.lt_size e)) (Heap.get?_push_of_some _ e)
    refine W.kla_codeExpr (wpAny_mono (ht [] _ (gN σ v fs) H Q (eV I S hr.hd hA r hns hk1) hq) (fun y s' ⟨x,H',J,r,q⟩=>aJ J r q) fun _ _ z=>z.elim)
  · cases r with
    | error e=>exact h.elim
    | ok fl =>
      cases fl with
      | ret y=>exact lift y s' h
      | next=>exact h.elim
      | brk=>exact h.elim
      | cont=>exact h.elim
theorem ju3 {name:Str} {params:Arguments} {body:List Stmt} {Q:VK} {k:Nat} (I:Inv X pins σ H s) (S:u0 X.N X.env.scope p fs sc) (hr:wU (k+1) A) (hA:A.frames=some X.stack) (r:kI v u)
    (hf:H f=some (fnO f (jpW name qual params body sc (jE X.env.cells sc.names []) c))) (hc:H c=some (hZ c qual)) (hb:∀ doc pm ctv,BindsTo s (jpW name qual params body sc (jE X.env.cells sc.names []) c doc pm ctv) ⟨[u],[]⟩ [(p,u)])
    (hbody:∃ t,PSs (cxC X (p :: fs.map (·.1)) qual sc f c A s H) body t∧t { nx:=fun _ H'=>Q .non H',rt:=Q } (gN σ v fs) H) :
    wpAny (model X.prog X.w) A (call (.ref f) [u]) (EP X pins σ Q) (fun _ _=>False) s:=by
  obtain ⟨⟨doc,pm,ctv,ef⟩,_⟩:=I.hok f _ hf
  obtain ⟨hrec,_⟩:=I.hok c _ hc
  obtain ⟨t,ht,hq⟩:=hbody
  have lift:∀ (y:Value) (s':Shared),CE X.stack X.prog X.w H s Q y s'→EP X pins σ Q y s':=fun y s' h=>I.after h
  refine wpAny_call (codeAny_mono (R:=fun r s'=>match r with | .ok (.ret y)=>CE X.stack X.prog X.w H s Q y s' | _=>False) ?_ fun r s' h=>?_)
  · refine codeAny_call_def hr.depth ef rfl I.nolimit hrec rfl (hb doc pm ctv) S.cel (fun y hy=>by rw [List.mem_singleton.mp hy];exact S.par) (fun h1 hns hk1=>?_) S.co S.gen S.kind
    refine wpAny_mono (ht [] _ (gN σ v fs) H _ (eV (qual:=qual) (f:=f) (c:=c) I S hr.hd hA r hns hk1) hq) (fun fl s' h=>?_) fun _ _ z=>z.elim
    cases fl with
    | ret y =>
      obtain ⟨x,σ',H',J,r,q⟩:=h
      exact aJ J r q
    | next =>
      obtain ⟨σ',H',J,q⟩:=h
      exact aJ (x:=V.non) (y:=Value.none) J rfl q
    | brk =>
      obtain ⟨_,_,_,q⟩:=h
      exact q.elim
    | cont =>
      obtain ⟨_,_,_,q⟩:=h
      exact q.elim
  · cases r with
    | error e=>exact h.elim
    | ok fl =>
      cases fl with
      | ret y=>exact lift y s' h
      | next=>exact h.elim
      | brk=>exact h.elim
      | cont=>exact h.elim
end
section
variable {X:Cx} {pins:List (Addr×Obj)} {σ:St} {H:Hp} {s:Shared}
theorem qJ.to {H':Hp} {b:Addr} (h:qJ X pins H b) (n:H' b=none):qJ X pins H' b:=⟨n,h.2⟩
def q0 (X:Cx) (σ:St) (q:Addr) (ys:List V) (J:Hp→Prop) (kf:Nat→Int):Prop :=
  ∀ (i:Nat) (y:V) (u:Value) (pins:List (Addr×Obj)) (s:Shared) (H:Hp),ys[i]? = some y→kI y u→Inv X pins σ H s→J H →
    wpAny (model X.prog X.w) X.A.in1 (call (.ref q) [u]) (EP X pins σ fun v H'=>v=.int (kf i)∧J H') (fun _ _=>False) s
def dH (kf:Nat→Int) (n i:Nat):Prop:=∀ j,j < n→kf i≤kf j∧(j < i→kf i < kf j)
theorem jj1 {l q S It:Addr} {ys:List V} {J:Hp→Prop} {kf:Nat→Int} {R:Result→Shared→Prop} (hc:X.calm=true) (hJ:∀ H,J H→SqL X.K H l ys) (hlI:l≠It) (hSI:S≠It) (turn:q0 X σ q ys J kf)
    (fin:∀ (i:Nat) (y:V) (u:Value) (s':Shared) (H':Hp),ys[i]? = some y→kI y u→dH kf ys.length i→Inv X pins σ H' s'→J H'→R (.ok (.ret u)) s') :
    ∀ (r j i:Nat) (s:Shared) (H:Hp) (yb:V) (vb:Value) (tb:Tok) (c:Nat),ys.length - (j+1)=r→j+1≤ys.length→Inv X pins σ H s→J H→qJ X pins H S→qJ X pins H It →
      s.heap.get? S=some (seqObj "list" #[vb,.int (kf i) tb] c)→s.heap.IsListIter It l (j+1)→ys[i]? = some yb→kI yb vb→i≤j→dH kf (j+1) i →
      codeAny (model X.prog X.w) X.A (.builtin "min.loop" ⟨[.ref It,.ref q,.ref S],[]⟩) R s:=by
  have hname:(toString "min"++toString ".loop":String)="min.loop":=by decide
  intro r
  induction r with
  | zero =>
    intro j i s H yb vb tb c hr hj I hH fS fI hS hit hyb rb hij hbest
    have hin:j+1=ys.length:=by omega
    obtain ⟨its,rv,pl,_⟩:=I.list (hJ H hH)
    have W:=Walks.list (prog:=X.prog) (w:=X.w) (A:=X.A.in1) (I.ok.hd hc) It l hlI its.toArray
    have hsz:its.toArray.size=ys.length:=by rw [List.size_toArray,rv.length]
    refine codeAny_builtin PySem.F.entry_min_loop ?_
    rw [Around.under_plainId PySem.F.plain_min_loop _]
    show wpAny _ X.A.in1 (seqItems? (.ref S) >>= _) _ _ _
    refine wpAny_bind (wpAny_seqItems hS rfl ?_)
    show wpAny _ X.A.in1 (tryCatch (pyNext (.ref It)) _ >>= _) _ _ _
    refine wpAny_bind (wpAny_tryCatch (W.done _ _ _ ⟨by rw [hsz,← hin];exact hit,pl.isList⟩ fun h' tk' hk'=>?_))
    have I1:Inv X pins σ H { s with heap:=h',toks:=tk' }:=I.turned (fun b o hb e=>hk' b o (by simpa using hb) e) fI.1 fI.2.1 fI.2.2.2.1 fI.2.2.2.2.1 fI.2.2.2.2.2
    have hS':=hk' S _ (by simpa using hSI) hS
    have s1:=Heap.SameBut.update h' S (Obj.mapSeq fun _=>(#[]:Array Value))
    show wpAny _ X.A.in1 (updateSeq S (fun _=>#[]) >>= _) _ _ _
    refine wpAny_bind ?_
    refine wpAny_updateSeq hS' rfl (wpAny_bind (wpAny_letGo (wpAny_pure ?_)))
    exact fin i yb vb _ H hyb rb (hin ▸ hbest) (I1.turned (t':=tk') (fun b o hb e=>(s1.2 b hb).trans e) fS.1 fS.2.1 fS.2.2.2.1 fS.2.2.2.2.1 fS.2.2.2.2.2) hH
  | succ r ih =>
    intro j i s H yb vb tb c hr hj I hH fS fI hS hit hyb rb hij hbest
    have hlt:j+1 < ys.length:=by omega
    obtain ⟨its,rv,pl,_⟩:=I.list (hJ H hH)
    have W:=Walks.list (prog:=X.prog) (w:=X.w) (A:=X.A.in1) (I.ok.hd hc) It l hlI its.toArray
    have hsz:its.toArray.size=ys.length:=by rw [List.size_toArray,rv.length]
    refine codeAny_builtin PySem.F.entry_min_loop ?_
    rw [Around.under_plainId PySem.F.plain_min_loop _]
    show wpAny _ X.A.in1 (seqItems? (.ref S) >>= _) _ _ _
    refine wpAny_bind (wpAny_seqItems hS rfl ?_)
    show wpAny _ X.A.in1 (tryCatch (pyNext (.ref It)) _ >>= _) _ _ _
    refine wpAny_bind (wpAny_tryCatch (W.item (j+1) _ _ _ (by rw [hsz];exact hlt) ⟨hit,pl.isList⟩ fun v h' tk' hP hst' hk'=>?_))
    obtain ⟨y,hy⟩:∃ y,ys[j+1]? = some y:=⟨_,List.getElem?_eq_getElem hlt⟩
    have ry:kI y v:=by
      obtain ⟨u,hu,ru⟩:=rv.get hy
      have hv:its[j+1]? = some v:=by simpa using hP
      rw [hu] at hv
      cases hv
      exact ru
    obtain ⟨oI',hoI',hoc,hod⟩:=id hst'.1
    have I1:Inv X pins σ H { s with heap:=h',toks:=tk' }:=I.turned (fun b o hb e=>hk' b o (by simpa using hb) e) fI.1 fI.2.1 fI.2.2.2.1 fI.2.2.2.2.1 fI.2.2.2.2.2
    have hS':=hk' S _ (by simpa using hSI) hS
    have both:∀ b∈[S,It],qJ X pins H b:=fun b hb=>by
      rcases List.mem_cons.mp hb with rfl | hb
      · exact fS
      · rw [List.mem_singleton.mp hb];exact fI
    have I2:=I1.pinned (fp:=[S,It]) both fun b hb=>by
      rcases List.mem_cons.mp hb with rfl | hb
      · exact ⟨_,hS',fun v z=>nomatch z⟩
      · rw [List.mem_singleton.mp hb];exact ⟨oI',hoI',fun v z=>by rw [hod] at z;cases z⟩
    have pS:(S,seqObj "list" #[vb,.int (kf i) tb] c)∈wW [S,It] h':=List.mem_filterMap.mpr ⟨S,by simp,by rw [hS'];rfl⟩
    have pI:(It,oI')∈wW [S,It] h':=List.mem_filterMap.mpr ⟨It,by simp,by rw [hoI'];rfl⟩
    show wpAny _ X.A.in1 (tryCatch (holding [v] (call (.ref q) [v])) _ >>= _) _ _ _
    refine wpAny_bind (wpAny_tryCatch (wpAny_holding (wpAny_mono (turn (j+1) y v _ _ H hy ry I2 hH) (fun x s'' he=>?_) fun _ _ hF=>hF.elim)))
    obtain ⟨x',H2,I3,r2,rfl,hH2⟩:=he
    obtain ⟨t2,rfl⟩:=r2
    obtain ⟨nS2,zS2,_⟩:=I3.pin _ (List.mem_append_right _ (List.mem_append_right _ pS))
    obtain ⟨nI2,zI2,_⟩:=I3.pin _ (List.mem_append_right _ (List.mem_append_right _ pI))
    have I4:=I3.unpinned
    have hit2:s''.heap.IsListIter It l (j+1+1):=⟨oI',nI2,hoc,hod⟩
    show wpAny _ X.A.in1 (tryCatch (holding [v,.int (kf (j+1)) t2] (richCompare .Lt (.int (kf (j+1)) t2) (.int (kf i) tb) >>= _)) _ >>= _) _ _ _
    refine wpAny_bind (wpAny_tryCatch (wpAny_holding (wpAny_bind (CmpOf.ints_lt (prog:=X.prog) (w:=X.w) (A:=X.A.in1) (P:=fun i v=>∃ t,v=.int (kf i) t) kf (fun i v h=>h) (j+1) i _ _ _ _ _ ⟨t2,rfl⟩ ⟨tb,rfl⟩ ?_))))
    refine wpAny_bind (wpAny_holding (wpAny_truthy_bool ?_))
    refine wpAny_bind (wpAny_letGo (wpAny_pure ?_))
    by_cases hb':kf (j+1) < kf i
    · have s1:=Heap.SameBut.update s''.heap S (Obj.mapSeq fun _=>#[v,.int (kf (j+1)) t2])
      obtain ⟨c2,hc2⟩:∃ c2,(s''.heap.update S (Obj.mapSeq fun _=>#[v,.int (kf (j+1)) t2])).get? S=some (seqObj "list" #[v,.int (kf (j+1)) t2] c2):=⟨_,get?_update_seq nS2 fun _=>#[v,.int (kf (j+1)) t2]⟩
      simp only [hb',decide_true,if_true]
      refine wpAny_bind ?_
      refine wpAny_updateSeq nS2 rfl (wpAny_bind (wpAny_letGo ?_))
      rw [hname]
      refine wpAny_pure ⟨plainId_quiet PySem.F.plain_min_loop _,ih (j+1) (j+1) _ H2 y v t2 c2 (by omega) hlt (I4.turned (t':=s''.toks) (fun b o hb e=>(s1.2 b hb).trans e) zS2 fS.2.1 fS.2.2.2.1 fS.2.2.2.2.1 fS.2.2.2.2.2) hH2 (fS.to zS2) (fI.to zI2) hc2 ⟨oI',(s1.2 It hSI.symm).trans nI2,hoc,hod⟩ hy ry (Nat.le_refl _) fun j' hj'=>?_⟩
      by_cases e:j'=j+1
      · subst e
        exact ⟨by omega,fun _=>by omega⟩
      · have hb1:=hbest j' (by omega)
        have hb2:=hb1.1
        exact ⟨by omega,fun _=>by omega⟩
    · simp only [hb',decide_false,Bool.false_eq_true,if_false]
      refine wpAny_bind (wpAny_letGo ?_)
      rw [hname]
      refine wpAny_pure ⟨plainId_quiet PySem.F.plain_min_loop _,ih (j+1) i _ H2 yb vb tb c (by omega) hlt I4 hH2 (fS.to zS2) (fI.to zI2) nS2 hit2 hyb rb (by omega) fun j' hj'=>?_⟩
      by_cases e:j'=j+1
      · subst e
        exact ⟨by omega,fun _=>by omega⟩
      · exact hbest j' (by omega)
theorem pR {l q:Addr} {ys:List V} {J:Hp→Prop} {kf:Nat→Int} {Q:VK} {E:Value→Shared→Prop} (hc:X.calm=true) (I:Inv X pins σ H s) (hJ:∀ H,J H→SqL X.K H l ys) (hH:J H) (hne:0 < ys.length) (turn:q0 X σ q ys J kf)
    (fin:∀ (i:Nat) (y:V) (H':Hp),ys[i]? = some y→dH kf ys.length i→J H'→Q y H') :
    wpAny (model X.prog X.w) X.A (call (.builtin "min") [.ref l] [(Str.ofString "key",.ref q)]) (EP X pins σ Q) E s:=by
  have hname:(toString "min"++toString ".loop":String)="min.loop":=by decide
  obtain ⟨its,rv,pl,_⟩:=I.list (hJ H hH)
  have hls:=pl.isList
  have hll:l < s.heap.objs.size:=pl.lt
  refine kmk_tree PySem.F.kind_min PySem.F.plain_min PySem.F.entry_min (kmk_min_key _ _) ?_
  show wpAny _ X.A.in1 (Builtin.Builtins.bindParams "min" ["key","default"] 0 ⟨[],[(Str.ofString "key",.ref q)]⟩ >>= _) _ _ s
  refine wpAny_bind (wpAny_of_eq (show Builtin.Builtins.bindParams "min" ["key","default"] 0 ⟨[],[(Str.ofString "key",.ref q)]⟩=pure [some (.ref q),none] from rfl) ?_)
  refine wpAny_bind (wpAny_pure ?_)
  refine wpAny_bind (wpAny_pyIter_list hls ?_)
  refine wpAny_bind (wpAny_newList ?_ (Nat.zero_le _))
  rw [hname]
  generalize eI:({ cls:=.type "list_iterator",data:=.fields #[.ref l,.int 0 0] }:Obj)=oI
  have hS:(s.heap.push oI).objs.size=s.heap.objs.size+1:=size_push' ..
  have hlI:l≠s.heap.objs.size:=Nat.ne_of_lt hll
  have hSI:(s.heap.push oI).objs.size≠s.heap.objs.size:=by rw [hS];exact Nat.ne_of_gt (Nat.lt_succ_self _)
  refine wpAny_pure ⟨plainId_quiet PySem.F.plain_min_loop _,?_⟩
  have gI:((s.heap.push oI).push (seqObj "list" #[] 0)).get? s.heap.objs.size=some oI:=Heap.get?_push_of_some _ (Heap.get?_push_size _ (by rw [← eI];rfl))
  have gS:((s.heap.push oI).push (seqObj "list" #[] 0)).get? (s.heap.push oI).objs.size=some (seqObj "list" #[] 0):=Heap.get?_push_size _ rfl
  have I0:Inv X pins σ H { s with heap:=(s.heap.push oI).push (seqObj "list" #[] 0) }:=I.kept (t':=s.toks) fun b o e=>Heap.get?_push_of_some _ (Heap.get?_push_of_some _ e)
  have fI:qJ X pins H s.heap.objs.size:=I.fpOk (Nat.le_refl _) (I.hok.fresh (Nat.le_refl _))
  have fS:qJ X pins H (s.heap.push oI).objs.size:=I.fpOk (by rw [hS];exact Nat.le_succ _) (I.hok.fresh (by rw [hS];exact Nat.le_succ _))
  generalize (s.heap.push oI).objs.size=S at *
  generalize s.heap.objs.size=It at *
  obtain ⟨its',rv',pl',_⟩:=I0.list (hJ H hH)
  have W:=Walks.list (prog:=X.prog) (w:=X.w) (A:=X.A.in1) (I.ok.hd hc) It l hlI its'.toArray
  have hsz:its'.toArray.size=ys.length:=by rw [List.size_toArray,rv'.length]
  refine codeAny_builtin PySem.F.entry_min_loop ?_
  rw [Around.under_plainId PySem.F.plain_min_loop _]
  show wpAny _ X.A.in1 (seqItems? (.ref _) >>= _) _ _ _
  refine wpAny_bind (wpAny_seqItems gS rfl ?_)
  show wpAny _ X.A.in1 (tryCatch (pyNext (.ref It)) _ >>= _) _ _ _
  refine wpAny_bind (wpAny_tryCatch (W.item 0 _ _ _ (by rw [hsz];exact hne) ⟨⟨_,gI,by rw [← eI],by rw [← eI];rfl⟩,pl'.isList⟩ fun v h' tk' hP hst' hk'=>?_))
  obtain ⟨y,hy⟩:∃ y,ys[0]? = some y:=⟨_,List.getElem?_eq_getElem hne⟩
  have ry:kI y v:=by
    obtain ⟨u,hu,ru⟩:=rv'.get hy
    have hv:its'[0]? = some v:=by simpa using hP
    rw [hu] at hv
    cases hv
    exact ru
  obtain ⟨oI',hoI',hoc,hod⟩:=id hst'.1
  have I1:Inv X pins σ H { s with heap:=h',toks:=tk' }:=I0.turned (fun b o hb e=>hk' b o (by simpa using hb) e) fI.1 fI.2.1 fI.2.2.2.1 fI.2.2.2.2.1 fI.2.2.2.2.2
  have hS':=hk' S _ (by simpa using hSI) gS
  have both:∀ b∈[S,It],qJ X pins H b:=fun b hb=>by
    rcases List.mem_cons.mp hb with rfl | hb
    · exact fS
    · rw [List.mem_singleton.mp hb];exact fI
  have I2:=I1.pinned (fp:=[S,It]) both fun b hb=>by
    rcases List.mem_cons.mp hb with rfl | hb
    · exact ⟨_,hS',fun v z=>nomatch z⟩
    · rw [List.mem_singleton.mp hb];exact ⟨oI',hoI',fun v z=>by rw [hod] at z;cases z⟩
  have pS:(S,seqObj "list" #[] 0)∈wW [S,It] h':=List.mem_filterMap.mpr ⟨S,by simp,by rw [hS'];rfl⟩
  have pI:(It,oI')∈wW [S,It] h':=List.mem_filterMap.mpr ⟨It,by simp,by rw [hoI'];rfl⟩
  show wpAny _ X.A.in1 (tryCatch (holding [v] (call (.ref q) [v])) _ >>= _) _ _ _
  refine wpAny_bind (wpAny_tryCatch (wpAny_holding (wpAny_mono (turn 0 y v _ _ H hy ry I2 hH) (fun x s'' he=>?_) fun _ _ hF=>hF.elim)))
  obtain ⟨x',H2,I3,r2,rfl,hH2⟩:=he
  obtain ⟨t2,rfl⟩:=r2
  obtain ⟨nS2,zS2,_⟩:=I3.pin _ (List.mem_append_right _ (List.mem_append_right _ pS))
  obtain ⟨nI2,zI2,_⟩:=I3.pin _ (List.mem_append_right _ (List.mem_append_right _ pI))
  have I4:=I3.unpinned
  have s1:=Heap.SameBut.update s''.heap S (Obj.mapSeq fun _=>#[v,.int (kf 0) t2])
  obtain ⟨c2,hc2⟩:∃ c2,(s''.heap.update S (Obj.mapSeq fun _=>#[v,.int (kf 0) t2])).get? S=some (seqObj "list" #[v,.int (kf 0) t2] c2):=⟨_,get?_update_seq nS2 fun _=>#[v,.int (kf 0) t2]⟩
  show wpAny _ X.A.in1 (updateSeq S (fun _=>#[v,.int (kf 0) t2]) >>= _) _ _ _
  refine wpAny_bind ?_
  refine wpAny_updateSeq nS2 rfl ?_
  rw [hname]
  refine wpAny_pure ⟨plainId_quiet PySem.F.plain_min_loop _,jj1 (pins:=pins) (R:=fun r s'=>match r with | .ok (.ret v)=>EP X pins σ Q v s' | .ok _=>False | .error e=>E e s') hc hJ hlI hSI turn (fun i y u s' H' h1 h2 h3 h4 h5=>⟨y,H',h4,h2,fin i y H' h1 h3 h5⟩) _ 0 0 _ H2 y v t2 c2 rfl hne (I4.turned (t':=s''.toks) (fun b o hb e=>(s1.2 b hb).trans e) zS2 fS.2.1 fS.2.2.2.1 fS.2.2.2.2.1 fS.2.2.2.2.2) hH2 (fS.to zS2) (fI.to zI2) hc2 ⟨oI',(s1.2 _ hSI.symm).trans nI2,hoc,hod⟩ hy ry (Nat.le_refl _) fun j' hj'=>?_⟩
  have e:j'=0:=by omega
  subst e
  exact ⟨by omega,fun h=>absurd h (Nat.lt_irrefl _)⟩
def jrZ (X:Cx) (tl tk:TE):TE:=fun σ H Q=>tl σ H fun x H1=>tk σ H1 fun f H2=>∃ (l q:Addr) (ys:List V) (J:Hp→Prop) (kf:Nat→Int),x=.ref l∧f=.ref q∧J H2∧(∀ H,J H→SqL X.K H l ys)∧0 < ys.length∧q0 X σ q ys J kf ∧
  ∀ (i:Nat) (y:V) (H':Hp),ys[i]? = some y→dH kf ys.length i→J H'→Q y H'
theorem jzW:bootBuiltins "min"=some (.builtin "min"):=by decide +kernel
theorem ju0 {e ek:Expr} {tl tk:TE} {p pos kp:Pos} (hc:X.calm=true) (hg:Gl X "min") (hm:X.mg "min"=none) (ha:PE X e tl) (hk:PE X ek tk)
    (he:backTo pos (starEach [e] X.env)=[(false,eval e X.env)]:=by rfl) :
    PE X (.Call (.Name "min" p) [e] [⟨some "key",ek,kp⟩] pos) (jrZ X tl tk):=by
  intro pins s σ H Q I h
  refine wpAny_Call_Name_kw (wS I hg hm jzW ?_)
  refine callWith_kw (he:=he) ?_ (hplain:=by rw [he];rfl)
  rw [he]
  refine Calls.spliced_cons (thn (ha pins s σ H _ I h) fun u s1 ⟨x,H1,I1,r1,q1⟩=>Calls.spliced_nil (kws_cons (thn (hk pins s1 σ H1 _ I1 q1) fun w s2 ⟨z,H2,I2,r2,q2⟩=>kws_nil ?_)))
  obtain ⟨l,q,ys,J,kf,ex,ez,hJ0,hJ,hne,turn,fin⟩:=q2
  subst ex ez
  cases r1
  cases r2
  exact pR hc I2 hJ hJ0 hne turn fin
end
section
variable {X:Cx} {pins:List (Addr×Obj)} {σ:St} {H:Hp} {s:Shared}
def dG (kf:Nat→Int) (n i:Nat):Prop:=∀ j,j < n→kf j≤kf i∧(j < i→kf j < kf i)
theorem jj0 {l q S It:Addr} {ys:List V} {J:Hp→Prop} {kf:Nat→Int} {R:Result→Shared→Prop} (hc:X.calm=true) (hJ:∀ H,J H→SqL X.K H l ys) (hlI:l≠It) (hSI:S≠It) (turn:q0 X σ q ys J kf)
    (fin:∀ (i:Nat) (y:V) (u:Value) (s':Shared) (H':Hp),ys[i]? = some y→kI y u→dG kf ys.length i→Inv X pins σ H' s'→J H'→R (.ok (.ret u)) s') :
    ∀ (r j i:Nat) (s:Shared) (H:Hp) (yb:V) (vb:Value) (tb:Tok) (c:Nat),ys.length - (j+1)=r→j+1≤ys.length→Inv X pins σ H s→J H→qJ X pins H S→qJ X pins H It →
      s.heap.get? S=some (seqObj "list" #[vb,.int (kf i) tb] c)→s.heap.IsListIter It l (j+1)→ys[i]? = some yb→kI yb vb→i≤j→dG kf (j+1) i →
      codeAny (model X.prog X.w) X.A (.builtin "max.loop" ⟨[.ref It,.ref q,.ref S],[]⟩) R s:=by
  have hname:(toString "max"++toString ".loop":String)="max.loop":=by decide
  intro r
  induction r with
  | zero =>
    intro j i s H yb vb tb c hr hj I hH fS fI hS hit hyb rb hij hbest
    have hin:j+1=ys.length:=by omega
    obtain ⟨its,rv,pl,_⟩:=I.list (hJ H hH)
    have W:=Walks.list (prog:=X.prog) (w:=X.w) (A:=X.A.in1) (I.ok.hd hc) It l hlI its.toArray
    have hsz:its.toArray.size=ys.length:=by rw [List.size_toArray,rv.length]
    refine codeAny_builtin PySem.F.entry_max_loop ?_
    rw [Around.under_plainId PySem.F.plain_max_loop _]
    show wpAny _ X.A.in1 (seqItems? (.ref S) >>= _) _ _ _
    refine wpAny_bind (wpAny_seqItems hS rfl ?_)
    show wpAny _ X.A.in1 (tryCatch (pyNext (.ref It)) _ >>= _) _ _ _
    refine wpAny_bind (wpAny_tryCatch (W.done _ _ _ ⟨by rw [hsz,← hin];exact hit,pl.isList⟩ fun h' tk' hk'=>?_))
    have I1:Inv X pins σ H { s with heap:=h',toks:=tk' }:=I.turned (fun b o hb e=>hk' b o (by simpa using hb) e) fI.1 fI.2.1 fI.2.2.2.1 fI.2.2.2.2.1 fI.2.2.2.2.2
    have hS':=hk' S _ (by simpa using hSI) hS
    have s1:=Heap.SameBut.update h' S (Obj.mapSeq fun _=>(#[]:Array Value))
    show wpAny _ X.A.in1 (updateSeq S (fun _=>#[]) >>= _) _ _ _
    refine wpAny_bind ?_
    refine wpAny_updateSeq hS' rfl (wpAny_bind (wpAny_letGo (wpAny_pure ?_)))
    exact fin i yb vb _ H hyb rb (hin ▸ hbest) (I1.turned (t':=tk') (fun b o hb e=>(s1.2 b hb).trans e) fS.1 fS.2.1 fS.2.2.2.1 fS.2.2.2.2.1 fS.2.2.2.2.2) hH
  | succ r ih =>
    intro j i s H yb vb tb c hr hj I hH fS fI hS hit hyb rb hij hbest
    have hlt:j+1 < ys.length:=by omega
    obtain ⟨its,rv,pl,_⟩:=I.list (hJ H hH)
    have W:=Walks.list (prog:=X.prog) (w:=X.w) (A:=X.A.in1) (I.ok.hd hc) It l hlI its.toArray
    have hsz:its.toArray.size=ys.length:=by rw [List.size_toArray,rv.length]
    refine codeAny_builtin PySem.F.entry_max_loop ?_
    rw [Around.under_plainId PySem.F.plain_max_loop _]
    show wpAny _ X.A.in1 (seqItems? (.ref S) >>= _) _ _ _
    refine wpAny_bind (wpAny_seqItems hS rfl ?_)
    show wpAny _ X.A.in1 (tryCatch (pyNext (.ref It)) _ >>= _) _ _ _
    refine wpAny_bind (wpAny_tryCatch (W.item (j+1) _ _ _ (by rw [hsz];exact hlt) ⟨hit,pl.isList⟩ fun v h' tk' hP hst' hk'=>?_))
    obtain ⟨y,hy⟩:∃ y,ys[j+1]? = some y:=⟨_,List.getElem?_eq_getElem hlt⟩
    have ry:kI y v:=by
      obtain ⟨u,hu,ru⟩:=rv.get hy
      have hv:its[j+1]? = some v:=by simpa using hP
      rw [hu] at hv
      cases hv
      exact ru
    obtain ⟨oI',hoI',hoc,hod⟩:=id hst'.1
    have I1:Inv X pins σ H { s with heap:=h',toks:=tk' }:=I.turned (fun b o hb e=>hk' b o (by simpa using hb) e) fI.1 fI.2.1 fI.2.2.2.1 fI.2.2.2.2.1 fI.2.2.2.2.2
    have hS':=hk' S _ (by simpa using hSI) hS
    have both:∀ b∈[S,It],qJ X pins H b:=fun b hb=>by
      rcases List.mem_cons.mp hb with rfl | hb
      · exact fS
      · rw [List.mem_singleton.mp hb];exact fI
    have I2:=I1.pinned (fp:=[S,It]) both fun b hb=>by
      rcases List.mem_cons.mp hb with rfl | hb
      · exact ⟨_,hS',fun v z=>nomatch z⟩
      · rw [List.mem_singleton.mp hb];exact ⟨oI',hoI',fun v z=>by rw [hod] at z;cases z⟩
    have pS:(S,seqObj "list" #[vb,.int (kf i) tb] c)∈wW [S,It] h':=List.mem_filterMap.mpr ⟨S,by simp,by rw [hS'];rfl⟩
    have pI:(It,oI')∈wW [S,It] h':=List.mem_filterMap.mpr ⟨It,by simp,by rw [hoI'];rfl⟩
    show wpAny _ X.A.in1 (tryCatch (holding [v] (call (.ref q) [v])) _ >>= _) _ _ _
    refine wpAny_bind (wpAny_tryCatch (wpAny_holding (wpAny_mono (turn (j+1) y v _ _ H hy ry I2 hH) (fun x s'' he=>?_) fun _ _ hF=>hF.elim)))
    obtain ⟨x',H2,I3,r2,rfl,hH2⟩:=he
    obtain ⟨t2,rfl⟩:=r2
    obtain ⟨nS2,zS2,_⟩:=I3.pin _ (List.mem_append_right _ (List.mem_append_right _ pS))
    obtain ⟨nI2,zI2,_⟩:=I3.pin _ (List.mem_append_right _ (List.mem_append_right _ pI))
    have I4:=I3.unpinned
    have hit2:s''.heap.IsListIter It l (j+1+1):=⟨oI',nI2,hoc,hod⟩
    show wpAny _ X.A.in1 (tryCatch (holding [v,.int (kf (j+1)) t2] (richCompare .Gt (.int (kf (j+1)) t2) (.int (kf i) tb) >>= _)) _ >>= _) _ _ _
    refine wpAny_bind (wpAny_tryCatch (wpAny_holding (wpAny_bind (CmpOf.ints_gt (prog:=X.prog) (w:=X.w) (A:=X.A.in1) (P:=fun i v=>∃ t,v=.int (kf i) t) kf (fun i v h=>h) (j+1) i _ _ _ _ _ ⟨t2,rfl⟩ ⟨tb,rfl⟩ ?_))))
    refine wpAny_bind (wpAny_holding (wpAny_truthy_bool ?_))
    refine wpAny_bind (wpAny_letGo (wpAny_pure ?_))
    by_cases hb':kf (j+1) > kf i
    · have s1:=Heap.SameBut.update s''.heap S (Obj.mapSeq fun _=>#[v,.int (kf (j+1)) t2])
      obtain ⟨c2,hc2⟩:∃ c2,(s''.heap.update S (Obj.mapSeq fun _=>#[v,.int (kf (j+1)) t2])).get? S=some (seqObj "list" #[v,.int (kf (j+1)) t2] c2):=⟨_,get?_update_seq nS2 fun _=>#[v,.int (kf (j+1)) t2]⟩
      simp only [hb',decide_true,if_true]
      refine wpAny_bind ?_
      refine wpAny_updateSeq nS2 rfl (wpAny_bind (wpAny_letGo ?_))
      rw [hname]
      refine wpAny_pure ⟨plainId_quiet PySem.F.plain_max_loop _,ih (j+1) (j+1) _ H2 y v t2 c2 (by omega) hlt (I4.turned (t':=s''.toks) (fun b o hb e=>(s1.2 b hb).trans e) zS2 fS.2.1 fS.2.2.2.1 fS.2.2.2.2.1 fS.2.2.2.2.2) hH2 (fS.to zS2) (fI.to zI2) hc2 ⟨oI',(s1.2 It hSI.symm).trans nI2,hoc,hod⟩ hy ry (Nat.le_refl _) fun j' hj'=>?_⟩
      by_cases e:j'=j+1
      · subst e
        exact ⟨by omega,fun _=>by omega⟩
      · have hb1:=hbest j' (by omega)
        have hb2:=hb1.1
        exact ⟨by omega,fun _=>by omega⟩
    · simp only [hb',decide_false,Bool.false_eq_true,if_false]
      refine wpAny_bind (wpAny_letGo ?_)
      rw [hname]
      refine wpAny_pure ⟨plainId_quiet PySem.F.plain_max_loop _,ih (j+1) i _ H2 yb vb tb c (by omega) hlt I4 hH2 (fS.to zS2) (fI.to zI2) nS2 hit2 hyb rb (by omega) fun j' hj'=>?_⟩
      by_cases e:j'=j+1
      · subst e
        exact ⟨by omega,fun _=>by omega⟩
      · exact hbest j' (by omega)
theorem pC {l q:Addr} {ys:List V} {J:Hp→Prop} {kf:Nat→Int} {Q:VK} {E:Value→Shared→Prop} (hc:X.calm=true) (I:Inv X pins σ H s) (hJ:∀ H,J H→SqL X.K H l ys) (hH:J H) (hne:0 < ys.length) (turn:q0 X σ q ys J kf)
    (fin:∀ (i:Nat) (y:V) (H':Hp),ys[i]? = some y→dG kf ys.length i→J H'→Q y H') :
    wpAny (model X.prog X.w) X.A (call (.builtin "max") [.ref l] [(Str.ofString "key",.ref q)]) (EP X pins σ Q) E s:=by
  have hname:(toString "max"++toString ".loop":String)="max.loop":=by decide
  obtain ⟨its,rv,pl,_⟩:=I.list (hJ H hH)
  have hls:=pl.isList
  have hll:l < s.heap.objs.size:=pl.lt
  refine kmk_tree PySem.F.kind_max PySem.F.plain_max PySem.F.entry_max (kmk_max_key _ _) ?_
  show wpAny _ X.A.in1 (Builtin.Builtins.bindParams "max" ["key","default"] 0 ⟨[],[(Str.ofString "key",.ref q)]⟩ >>= _) _ _ s
  refine wpAny_bind (wpAny_of_eq (show Builtin.Builtins.bindParams "max" ["key","default"] 0 ⟨[],[(Str.ofString "key",.ref q)]⟩=pure [some (.ref q),none] from rfl) ?_)
  refine wpAny_bind (wpAny_pure ?_)
  refine wpAny_bind (wpAny_pyIter_list hls ?_)
  refine wpAny_bind (wpAny_newList ?_ (Nat.zero_le _))
  rw [hname]
  generalize eI:({ cls:=.type "list_iterator",data:=.fields #[.ref l,.int 0 0] }:Obj)=oI
  have hS:(s.heap.push oI).objs.size=s.heap.objs.size+1:=size_push' ..
  have hlI:l≠s.heap.objs.size:=Nat.ne_of_lt hll
  have hSI:(s.heap.push oI).objs.size≠s.heap.objs.size:=by rw [hS];exact Nat.ne_of_gt (Nat.lt_succ_self _)
  refine wpAny_pure ⟨plainId_quiet PySem.F.plain_max_loop _,?_⟩
  have gI:((s.heap.push oI).push (seqObj "list" #[] 0)).get? s.heap.objs.size=some oI:=Heap.get?_push_of_some _ (Heap.get?_push_size _ (by rw [← eI];rfl))
  have gS:((s.heap.push oI).push (seqObj "list" #[] 0)).get? (s.heap.push oI).objs.size=some (seqObj "list" #[] 0):=Heap.get?_push_size _ rfl
  have I0:Inv X pins σ H { s with heap:=(s.heap.push oI).push (seqObj "list" #[] 0) }:=I.kept (t':=s.toks) fun b o e=>Heap.get?_push_of_some _ (Heap.get?_push_of_some _ e)
  have fI:qJ X pins H s.heap.objs.size:=I.fpOk (Nat.le_refl _) (I.hok.fresh (Nat.le_refl _))
  have fS:qJ X pins H (s.heap.push oI).objs.size:=I.fpOk (by rw [hS];exact Nat.le_succ _) (I.hok.fresh (by rw [hS];exact Nat.le_succ _))
  generalize (s.heap.push oI).objs.size=S at *
  generalize s.heap.objs.size=It at *
  obtain ⟨its',rv',pl',_⟩:=I0.list (hJ H hH)
  have W:=Walks.list (prog:=X.prog) (w:=X.w) (A:=X.A.in1) (I.ok.hd hc) It l hlI its'.toArray
  have hsz:its'.toArray.size=ys.length:=by rw [List.size_toArray,rv'.length]
  refine codeAny_builtin PySem.F.entry_max_loop ?_
  rw [Around.under_plainId PySem.F.plain_max_loop _]
  show wpAny _ X.A.in1 (seqItems? (.ref _) >>= _) _ _ _
  refine wpAny_bind (wpAny_seqItems gS rfl ?_)
  show wpAny _ X.A.in1 (tryCatch (pyNext (.ref It)) _ >>= _) _ _ _
  refine wpAny_bind (wpAny_tryCatch (W.item 0 _ _ _ (by rw [hsz];exact hne) ⟨⟨_,gI,by rw [← eI],by rw [← eI];rfl⟩,pl'.isList⟩ fun v h' tk' hP hst' hk'=>?_))
  obtain ⟨y,hy⟩:∃ y,ys[0]? = some y:=⟨_,List.getElem?_eq_getElem hne⟩
  have ry:kI y v:=by
    obtain ⟨u,hu,ru⟩:=rv'.get hy
    have hv:its'[0]? = some v:=by simpa using hP
    rw [hu] at hv
    cases hv
    exact ru
  obtain ⟨oI',hoI',hoc,hod⟩:=id hst'.1
  have I1:Inv X pins σ H { s with heap:=h',toks:=tk' }:=I0.turned (fun b o hb e=>hk' b o (by simpa using hb) e) fI.1 fI.2.1 fI.2.2.2.1 fI.2.2.2.2.1 fI.2.2.2.2.2
  have hS':=hk' S _ (by simpa using hSI) gS
  have both:∀ b∈[S,It],qJ X pins H b:=fun b hb=>by
    rcases List.mem_cons.mp hb with rfl | hb
    · exact fS
    · rw [List.mem_singleton.mp hb];exact fI
  have I2:=I1.pinned (fp:=[S,It]) both fun b hb=>by
    rcases List.mem_cons.mp hb with rfl | hb
    · exact ⟨_,hS',fun v z=>nomatch z⟩
    · rw [List.mem_singleton.mp hb];exact ⟨oI',hoI',fun v z=>by rw [hod] at z;cases z⟩
  have pS:(S,seqObj "list" #[] 0)∈wW [S,It] h':=List.mem_filterMap.mpr ⟨S,by simp,by rw [hS'];rfl⟩
  have pI:(It,oI')∈wW [S,It] h':=List.mem_filterMap.mpr ⟨It,by simp,by rw [hoI'];rfl⟩
  show wpAny _ X.A.in1 (tryCatch (holding [v] (call (.ref q) [v])) _ >>= _) _ _ _
  refine wpAny_bind (wpAny_tryCatch (wpAny_holding (wpAny_mono (turn 0 y v _ _ H hy ry I2 hH) (fun x s'' he=>?_) fun _ _ hF=>hF.elim)))
  obtain ⟨x',H2,I3,r2,rfl,hH2⟩:=he
  obtain ⟨t2,rfl⟩:=r2
  obtain ⟨nS2,zS2,_⟩:=I3.pin _ (List.mem_append_right _ (List.mem_append_right _ pS))
  obtain ⟨nI2,zI2,_⟩:=I3.pin _ (List.mem_append_right _ (List.mem_append_right _ pI))
  have I4:=I3.unpinned
  have s1:=Heap.SameBut.update s''.heap S (Obj.mapSeq fun _=>#[v,.int (kf 0) t2])
  obtain ⟨c2,hc2⟩:∃ c2,(s''.heap.update S (Obj.mapSeq fun _=>#[v,.int (kf 0) t2])).get? S=some (seqObj "list" #[v,.int (kf 0) t2] c2):=⟨_,get?_update_seq nS2 fun _=>#[v,.int (kf 0) t2]⟩
  show wpAny _ X.A.in1 (updateSeq S (fun _=>#[v,.int (kf 0) t2]) >>= _) _ _ _
  refine wpAny_bind ?_
  refine wpAny_updateSeq nS2 rfl ?_
  rw [hname]
  refine wpAny_pure ⟨plainId_quiet PySem.F.plain_max_loop _,jj0 (pins:=pins) (R:=fun r s'=>match r with | .ok (.ret v)=>EP X pins σ Q v s' | .ok _=>False | .error e=>E e s') hc hJ hlI hSI turn (fun i y u s' H' h1 h2 h3 h4 h5=>⟨y,H',h4,h2,fin i y H' h1 h3 h5⟩) _ 0 0 _ H2 y v t2 c2 rfl hne (I4.turned (t':=s''.toks) (fun b o hb e=>(s1.2 b hb).trans e) zS2 fS.2.1 fS.2.2.2.1 fS.2.2.2.2.1 fS.2.2.2.2.2) hH2 (fS.to zS2) (fI.to zI2) hc2 ⟨oI',(s1.2 _ hSI.symm).trans nI2,hoc,hod⟩ hy ry (Nat.le_refl _) fun j' hj'=>?_⟩
  have e:j'=0:=by omega
  subst e
  exact ⟨by omega,fun h=>absurd h (Nat.lt_irrefl _)⟩
def jrV (X:Cx) (tl tk:TE):TE:=fun σ H Q=>tl σ H fun x H1=>tk σ H1 fun f H2=>∃ (l q:Addr) (ys:List V) (J:Hp→Prop) (kf:Nat→Int),x=.ref l∧f=.ref q∧J H2∧(∀ H,J H→SqL X.K H l ys)∧0 < ys.length∧q0 X σ q ys J kf ∧
  ∀ (i:Nat) (y:V) (H':Hp),ys[i]? = some y→dG kf ys.length i→J H'→Q y H'
theorem jzZ:bootBuiltins "max"=some (.builtin "max"):=by decide +kernel
theorem jwY {e ek:Expr} {tl tk:TE} {p pos kp:Pos} (hc:X.calm=true) (hg:Gl X "max") (hm:X.mg "max"=none) (ha:PE X e tl) (hk:PE X ek tk)
    (he:backTo pos (starEach [e] X.env)=[(false,eval e X.env)]:=by rfl) :
    PE X (.Call (.Name "max" p) [e] [⟨some "key",ek,kp⟩] pos) (jrV X tl tk):=by
  intro pins s σ H Q I h
  refine wpAny_Call_Name_kw (wS I hg hm jzZ ?_)
  refine callWith_kw (he:=he) ?_ (hplain:=by rw [he];rfl)
  rw [he]
  refine Calls.spliced_cons (thn (ha pins s σ H _ I h) fun u s1 ⟨x,H1,I1,r1,q1⟩=>Calls.spliced_nil (kws_cons (thn (hk pins s1 σ H1 _ I1 q1) fun w s2 ⟨z,H2,I2,r2,q2⟩=>kws_nil ?_)))
  obtain ⟨l,q,ys,J,kf,ex,ez,hJ0,hJ,hne,turn,fin⟩:=q2
  subst ex ez
  cases r1
  cases r2
  exact pC hc I2 hJ hJ0 hne turn fin
end
theorem Fun.okC {P:Program} {w:World} {K:W.Frag} {mg:Str→Option Value} {base:Heap} {x qual:Str} {st:Stmt} {f c:Addr} {fd:FuncData} {N ps:List Str} {k:Nat} {sp:Sp} (F:Fun K x qual st f fd) (hc:fd.code=.ref c) (S:jD N ps (jW st)) (len:∀ vs H Q E,sp vs H Q E→vs.length=ps.length)
    (hbody:∀ (A:Around) (outer:List Env) (s:Shared) (H:Hp) (vs:List V) (Q:VK) (E:XK),wU k (A.deeper (envOfC qual (jW st) s.heap.objs.size f (.ref c)))→sp vs H Q E →
      ∃ t,PSs (jkX CX0 P w K mg base N qual (jW st) f (.ref c) A outer s H E).nox (jF st) t∧t { nx:=fun _ H'=>Q .non H',rt:=Q } (j7 N vs) H):vA P w K mg base CX0 (k+1) f fd ps sp:=by
  obtain ⟨oc,od,kV,doc,pm,an,cdv,ct,osl,rfl,lk,hcd⟩:=F.ex
  have hc:cdv=.ref c:=hc
  subst hc
  refine jgQ lk hcd S len fun A outer s H vs Q E hr hsp=>?_
  obtain ⟨t,h,q⟩:=hbody A outer s H vs Q E hr hsp
  exact ⟨t,h.nox,q⟩
def kT (h:Heap) (l:Addr) (xs:Array Value):Bool→Prop
  | true=>h.IsList l xs
  | false=>h.IsTuple l xs
def kK (h:Heap) (i l:Addr) (k:Nat):Bool→Prop
  | true=>h.IsListIter i l k
  | false=>h.IsTupleIter i l k
def itO (l:Addr):Bool→Obj
  | true=>{ cls:=.type "list_iterator",data:=.fields #[.ref l,.int 0 0] }
  | false=>{ cls:=.type "tuple_iterator",data:=.fields #[.ref l,.int 0 0] }
section
variable {h h':Heap} {i l b:Addr} {k:Nat} {xs:Array Value} {κ:Bool}
theorem kT.ext (x:kT h l xs κ) (hs:Heap.ExtBut b h h') (n:l≠b):kT h' l xs κ:=by
  cases κ
  · exact Heap.IsTuple.extBut x hs n
  · exact Heap.IsList.extBut x hs n
theorem kT.push (x:kT h l xs κ) (o:Obj):kT (h.push o) l xs κ:=by
  cases κ
  · exact Heap.IsTuple.push x o
  · exact Heap.IsList.push x o
theorem kT.lt (x:kT h l xs κ):l < h.objs.size:=by
  cases κ
  · obtain ⟨_,e,_⟩:=x;exact Heap.lt_size e
  · obtain ⟨_,e,_⟩:=x;exact Heap.lt_size e
theorem kK.ext (x:kK h i l k κ) (hs:Heap.ExtBut b h h') (n:i≠b):kK h' i l k κ:=by
  cases κ
  · exact Heap.IsTupleIter.extBut x hs n
  · exact Heap.IsListIter.extBut x hs n
theorem kK.at (x:kK h i l k κ) (e:∀ o,h.get? i=some o→h'.get? i=some o):kK h' i l k κ:=by
  cases κ
  · exact Heap.IsTupleIter.at x e
  · exact Heap.IsListIter.at x e
theorem kK.obj (x:kK h i l k κ):∃ o,h.get? i=some o∧∀ v,o.data≠.cell v:=by
  cases κ
  · obtain ⟨o,e,_,d⟩:=x;exact ⟨o,e,fun v z=>by rw [d] at z;cases z⟩
  · obtain ⟨o,e,_,d⟩:=x;exact ⟨o,e,fun v z=>by rw [d] at z;cases z⟩
theorem kK.of (e:h.get? i=some (itO l κ)):kK h i l 0 κ:=by
  cases κ
  · exact ⟨_,e,rfl,rfl⟩
  · exact ⟨_,e,rfl,rfl⟩
theorem nM:(itO l κ).isFreed=false:=by cases κ <;> rfl
end
section
variable {prog:Program} {w:World} {A:Around} {E:Value→Shared→Prop} {s:Shared}
theorem d7 {it l:Addr} {i:Nat} {items} {x:Value} {Q:Value→Shared→Prop} (hit:s.heap.IsTupleIter it l i) (hl:s.heap.IsTuple l items) (hx:items[i]? = some x)
    (hQ:∀ h',h'.IsTupleIter it l (i+1)→Heap.SameBut it s.heap h'→Q x { s with heap:=h' }):wpAny (model prog w) A (Builtin.SmallTypes.nextOf (.ref it)) Q E s:=by
  obtain ⟨o,ho,hc,hd⟩:=id hit
  obtain ⟨ol,hol,_,nl,hdl⟩:=hl
  unfold Builtin.SmallTypes.nextOf
  refine wpAny_bind (wpAny_callSpecial?_slot (name:=Str.ofString "__next__") hit.typeIs F.slot_tuple_iterator_next (wpAny_call_entry F.slot_tuple_iterator_next hit.typeIs F.entry_tuple_iterator_next ?_ (F.args_tuple_iterator_next_1 _)))
  show wpAny _ _ (field (.ref it) 0 >>= _) _ _ s
  refine wpAny_bind (wpAny_field ho hd (x:=.ref l) rfl ?_)
  show wpAny _ _ (if (Value.ref l == Value.none)=true then _ else _) _ _ s
  rw [if_neg (show ¬ ((Value.ref l == Value.none)=true) from Bool.false_ne_true)]
  show wpAny _ _ (field (.ref it) 1 >>= _) _ _ s
  refine wpAny_bind (wpAny_field ho hd (x:=.int i 0) rfl ?_)
  show wpAny _ _ (seqItems? (.ref l) >>= _) _ _ s
  refine wpAny_bind (wpAny_seqItems hol hdl ?_)
  simp only [Int.toNat_natCast,hx]
  refine wpAny_bind (wpAny_setField ho hd (by simp) (wpAny_pure ⟨x,rfl,wpAny_pure (hQ _ ?_ (Heap.SameBut.update ..))⟩))
  exact ⟨_,Heap.get?_update_self _ ho (Obj.isFreed_of_fields (Obj.data_mapFields hd _)),(Obj.cls_mapFields ..).trans hc,by rw [Obj.data_mapFields hd];simp [rawInt]⟩
theorem cO {it l:Addr} {i:Nat} {items} {Q:Value→Shared→Prop} (hh:A.handled=none) (hit:s.heap.IsTupleIter it l i) (hl:s.heap.IsTuple l items) (hx:items[i]? = none)
    (hE:∀ h' e,Heap.ExtBut it s.heap h'→(∃ o,h'.get? e=some o∧o.cls=.type "StopIteration")→E (.ref e) { s with heap:=h' }):wpAny (model prog w) A (Builtin.SmallTypes.nextOf (.ref it)) Q E s:=by
  obtain ⟨o,ho,hc,hd⟩:=id hit
  obtain ⟨ol,hol,_,nl,hdl⟩:=hl
  unfold Builtin.SmallTypes.nextOf
  refine wpAny_bind (wpAny_callSpecial?_slot (name:=Str.ofString "__next__") hit.typeIs F.slot_tuple_iterator_next (wpAny_call_entry F.slot_tuple_iterator_next hit.typeIs F.entry_tuple_iterator_next ?_ (F.args_tuple_iterator_next_1 _)))
  show wpAny _ _ (field (.ref it) 0 >>= _) _ _ s
  refine wpAny_bind (wpAny_field ho hd (x:=.ref l) rfl ?_)
  show wpAny _ _ (if (Value.ref l == Value.none)=true then _ else _) _ _ s
  rw [if_neg (show ¬ ((Value.ref l == Value.none)=true) from Bool.false_ne_true)]
  show wpAny _ _ (field (.ref it) 1 >>= _) _ _ s
  refine wpAny_bind (wpAny_field ho hd (x:=.int i 0) rfl ?_)
  show wpAny _ _ (seqItems? (.ref l) >>= _) _ _ s
  refine wpAny_bind (wpAny_seqItems hol hdl ?_)
  simp only [Int.toNat_natCast,hx]
  refine wpAny_bind (wpAny_rule (wpAny_bind (wpAny_setField ho hd (by simp) ?_)))
  show wpAny _ _ (newExc (.type "StopIteration") [] >>= _) _ _ _
  refine wpAny_bind ?_
  simp only [newExc,newTuple]
  refine wpAny_bind (wpAny_newObj_type ?_ (by size_fits))
  refine wpAny_bind (m:=firstArgMember _ _) (wpAny_of_eq (a:=Value.none) (by first | rfl | (simp only [firstArgMember];rfl)) ?_)
  refine wpAny_newObj_type ?_ (by size_fits)
  simp only [raiseNew]
  refine wpAny_bind (wpAny_handled ?_)
  first | rw [show A.in1.handled=none from hh] | rw [hh]
  refine wpAny_bind (wpAny_pure (wpAny_throw ?_))
  exact hE _ _ (((Heap.SameBut.update ..).extBut.push _).push _) ⟨_,Heap.get?_push_size _ rfl,rfl⟩
theorem vV {κ:Bool} {it l:Addr} {i:Nat} {items:Array Value} {x:Value} {Q:Value→Shared→Prop} (hit:kK s.heap it l i κ) (hl:kT s.heap l items κ) (hx:items[i]? = some x)
    (hQ:∀ h',kK h' it l (i+1) κ→Heap.SameBut it s.heap h'→Q x { s with heap:=h' }):wpAny (model prog w) A (Builtin.SmallTypes.nextOf (.ref it)) Q E s:=by
  cases κ
  · exact d7 hit hl hx hQ
  · exact wpAny_nextOf_list_item hit hl hx hQ
theorem zI {κ:Bool} {it l:Addr} {i:Nat} {items:Array Value} {Q:Value→Shared→Prop} (hh:A.handled=none) (hit:kK s.heap it l i κ) (hl:kT s.heap l items κ) (hx:items[i]? = none)
    (hE:∀ h' e,Heap.ExtBut it s.heap h'→(∃ o,h'.get? e=some o∧o.cls=.type "StopIteration")→E (.ref e) { s with heap:=h' }):wpAny (model prog w) A (Builtin.SmallTypes.nextOf (.ref it)) Q E s:=by
  cases κ
  · exact cO hh hit hl hx hE
  · exact wpAny_nextOf_list_end hh hit hl hx hE
theorem oH {κ μ:Bool} {z TI TO i1 i2 l1 l2:Addr} {k1 k2:Nat} {xs ys:Array Value} {x y a b:Value} {Q:Value→Shared→Prop} (D:ZipApart z TI TO i1 i2 l1 l2)
    (hz:IsZip s.heap z TI TO .none) (hTI:IsPair s.heap TI (.ref i1) (.ref i2)) (hTO:IsPair s.heap TO a b)
    (h1:kK s.heap i1 l1 k1 κ) (h2:kK s.heap i2 l2 k2 μ) (hl1:kT s.heap l1 xs κ) (hl2:kT s.heap l2 ys μ) (hx:xs[k1]? = some x) (hy:ys[k2]? = some y)
    (hQ:∀ h',IsZip h' z TI TO (rawInt s.heap.objs.size)→IsPair h' TO x y→kK h' i1 l1 (k1+1) κ→kK h' i2 l2 (k2+1) μ→IsPair h' s.heap.objs.size x y→h'.objs.size=s.heap.objs.size+1 →
      (∀ c o,c≠z→c≠TO→c≠i1→c≠i2→s.heap.get? c=some o→h'.get? c=some o)→Q (.ref s.heap.objs.size) { s with heap:=h' }) :
    wpAny (model prog w) A (Builtin.«zip.__next__» ⟨[.ref z],[]⟩) (fun fin s'=>∃ v,fin=.done (.ret v)∧Q v s') E s:=by
  show wpAny _ _ (field (.ref z) 2 >>= _) _ _ _
  refine wpAny_bind (wpAny_field hz rfl (x:=.bool false) rfl ?_)
  show wpAny _ _ (field (.ref z) 3 >>= _) _ _ _
  refine wpAny_bind (wpAny_field hz rfl (x:=.ref TI) rfl ?_)
  refine wpAny_bind (wpAny_seqItems hTI rfl ?_)
  show wpAny _ _ (Builtin.SmallTypes.ownedTupleIsFree (.ref z) >>= _) _ _ _
  refine wpAny_bind ?_
  unfold Builtin.SmallTypes.ownedTupleIsFree
  refine wpAny_bind (wpAny_field hz rfl (x:=.none) rfl (wpAny_pure ?_))
  simp only [if_true]
  refine wpAny_bind (wpAny_rule ?_)
  refine wpAny_bind (wpAny_field hz rfl (x:=.ref TO) rfl ?_)
  refine wpAny_bind (wpAny_setField_rec hz (by simp) fun h₁ hz₁ hs₁=>?_)
  replace hz₁:IsZip h₁ z TI TO .ellipsis:=hz₁
  refine wpAny_bind ?_
  simp only [List.zipIdx_cons,List.zipIdx_nil,List.forIn_cons,List.forIn_nil]
  refine wpAny_bind (wpAny_bind (wpAny_onRaise ?_))
  show wpAny _ _ (Builtin.SmallTypes.nextOf (.ref i1) >>= _) _ _ _
  refine wpAny_bind (vV (h1.ext hs₁.extBut D.i1z) (hl1.ext hs₁.extBut D.l1z) hx fun h₂ h1₂ hs₂=>wpAny_pure ?_)
  have hTO₂:IsPair h₂ TO a b:=hs₂.extBut _ _ D.TOi1 (hs₁.extBut _ _ D.TOz hTO)
  refine wpAny_bind (wpAny_seqItems hTO₂ rfl ?_)
  refine wpAny_bind (wpAny_updateSeq_pair hTO₂ fun h₃ hTO₃ hs₃=>?_)
  replace hTO₃:IsPair h₃ TO x b:=hTO₃
  refine wpAny_bind (wpAny_letGo (wpAny_pure ?_))
  refine wpAny_bind (wpAny_bind (wpAny_onRaise ?_))
  show wpAny _ _ (Builtin.SmallTypes.nextOf (.ref i2) >>= _) _ _ _
  refine wpAny_bind (vV (((h2.ext hs₁.extBut D.i2z).ext hs₂.extBut D.i12.symm).ext hs₃.extBut D.TOi2.symm)
    (((hl2.ext hs₁.extBut D.l2z).ext hs₂.extBut D.l2i1).ext hs₃.extBut D.l2TO) hy fun h₄ h2₄ hs₄=>wpAny_pure ?_)
  have hTO₄:IsPair h₄ TO x b:=hs₄.extBut _ _ D.TOi2 hTO₃
  refine wpAny_bind (wpAny_seqItems hTO₄ rfl ?_)
  refine wpAny_bind (wpAny_updateSeq_pair hTO₄ fun h₅ hTO₅ hs₅=>?_)
  replace hTO₅:IsPair h₅ TO x y:=hTO₅
  refine wpAny_bind (wpAny_letGo (wpAny_pure (wpAny_pure ?_)))
  refine wpAny_bind (wpAny_seqItems hTO₅ rfl ?_)
  refine wpAny_bind (wpAny_newTuple ?_)
  have hsz:h₅.objs.size=s.heap.objs.size:=by rw [hs₅.1,hs₄.1,hs₃.1,hs₂.1,hs₁.1]
  have hz₅:IsZip h₅ z TI TO .ellipsis:=hs₅.extBut _ _ D.TOz.symm (hs₄.extBut _ _ D.i2z.symm (hs₃.extBut _ _ D.TOz.symm (hs₂.extBut _ _ D.i1z.symm hz₁)))
  have hk₅:∀ c o,c≠z→c≠TO→c≠i1→c≠i2→s.heap.get? c=some o→h₅.get? c=some o:=fun c o c1 c2 c3 c4 e =>
    hs₅.extBut _ _ c2 (hs₄.extBut _ _ c4 (hs₃.extBut _ _ c2 (hs₂.extBut _ _ c3 (hs₁.extBut _ _ c1 e))))
  have h1₅:kK h₅ i1 l1 (k1+1) κ:=((h1₂.ext hs₃.extBut D.TOi1.symm).ext hs₄.extBut D.i12).ext hs₅.extBut D.TOi1.symm
  have h2₅:kK h₅ i2 l2 (k2+1) μ:=h2₄.ext hs₅.extBut D.TOi2.symm
  have hzlt:z < h₅.objs.size:=Heap.lt_size hz₅
  show wpAny _ _ (Builtin.SmallTypes.ownedTupleHandOut (.ref z) (.ref h₅.objs.size) >>= _) _ _ _
  refine wpAny_bind ?_
  unfold Builtin.SmallTypes.ownedTupleHandOut
  have hz₆:IsZip (h₅.push { cls:=.type "tuple",data:=.seq #[x,y] }) z TI TO .ellipsis:=Heap.get?_push_of_some _ hz₅
  refine wpAny_bind (wpAny_setField_rec hz₆ (by simp) fun h₇ hz₇ hs₇=>?_)
  replace hz₇:IsZip h₇ z TI TO (rawInt h₅.objs.size):=hz₇
  refine wpAny_setField_rec hz₇ (by simp) fun h₈ hz₈ hs₈=>?_
  replace hz₈:IsZip h₈ z TI TO (rawInt h₅.objs.size):=hz₈
  have up:∀ c o,c≠z→h₅.get? c=some o→h₈.get? c=some o:=fun c o c1 e=>hs₈.extBut _ _ c1 (hs₇.extBut _ _ c1 (Heap.get?_push_of_some _ e))
  have hT₈:IsPair h₈ h₅.objs.size x y:=hs₈.extBut _ _ (Nat.ne_of_gt hzlt) (hs₇.extBut _ _ (Nat.ne_of_gt hzlt) (Heap.get?_push_size _ rfl))
  have hz8:h₈.objs.size=h₅.objs.size+1:=by rw [hs₈.1,hs₇.1,Heap.size_push]
  rw [hsz] at hz₈ hT₈ hz8
  refine wpAny_pure ⟨_,rfl,?_⟩
  show Q (.ref h₅.objs.size) _
  rw [hsz]
  exact hQ h₈ hz₈ (up _ _ D.TOz hTO₅) (h1₅.at fun o e=>up _ o D.i1z e) (h2₅.at fun o e=>up _ o D.i2z e) hT₈ hz8 fun c o c1 c2 c3 c4 e=>up c o c1 (hk₅ c o c1 c2 c3 c4 e)
theorem jkV {κ μ:Bool} {z TI TO i1 i2 l1 l2:Addr} {k1 k2:Nat} {xs ys:Array Value} {a b:Value} {Q:Fin→Shared→Prop} (hh:A.handled=none) (D:ZipApart z TI TO i1 i2 l1 l2)
    (hz:IsZip s.heap z TI TO .none) (hTI:IsPair s.heap TI (.ref i1) (.ref i2)) (hTO:IsPair s.heap TO a b)
    (h1:kK s.heap i1 l1 k1 κ) (h2:kK s.heap i2 l2 k2 μ) (hl1:kT s.heap l1 xs κ) (hl2:kT s.heap l2 ys μ) (hend:xs[k1]? = none∨ys[k2]? = none)
    (hE:∀ h' e,(∀ c o,c≠z→c≠TO→c≠i1→c≠i2→s.heap.get? c=some o→h'.get? c=some o)→(∃ o,h'.get? e=some o∧o.cls=.type "StopIteration")→E (.ref e) { s with heap:=h' }) :
    wpAny (model prog w) A (Builtin.«zip.__next__» ⟨[.ref z],[]⟩) Q E s:=by
  show wpAny _ _ (field (.ref z) 2 >>= _) _ _ _
  refine wpAny_bind (wpAny_field hz rfl (x:=.bool false) rfl ?_)
  show wpAny _ _ (field (.ref z) 3 >>= _) _ _ _
  refine wpAny_bind (wpAny_field hz rfl (x:=.ref TI) rfl ?_)
  refine wpAny_bind (wpAny_seqItems hTI rfl ?_)
  show wpAny _ _ (Builtin.SmallTypes.ownedTupleIsFree (.ref z) >>= _) _ _ _
  refine wpAny_bind ?_
  unfold Builtin.SmallTypes.ownedTupleIsFree
  refine wpAny_bind (wpAny_field hz rfl (x:=.none) rfl (wpAny_pure ?_))
  simp only [if_true]
  refine wpAny_bind (wpAny_rule ?_)
  refine wpAny_bind (wpAny_field hz rfl (x:=.ref TO) rfl ?_)
  refine wpAny_bind (wpAny_setField_rec hz (by simp) fun h₁ hz₁ hs₁=>?_)
  replace hz₁:IsZip h₁ z TI TO .ellipsis:=hz₁
  refine wpAny_bind ?_
  simp only [List.zipIdx_cons,List.zipIdx_nil,List.forIn_cons,List.forIn_nil]
  refine wpAny_bind (wpAny_bind (wpAny_onRaise ?_))
  show wpAny _ _ (Builtin.SmallTypes.nextOf (.ref i1) >>= _) _ _ _
  cases hx:xs[k1]? with
  | none =>
    refine wpAny_bind (zI hh (h1.ext hs₁.extBut D.i1z) (hl1.ext hs₁.extBut D.l1z) hx fun h₂ e hs₂ he=>?_)
    obtain ⟨oe,hoe,hce⟩:=he
    have hz₂:IsZip h₂ z TI TO .ellipsis:=hs₂ _ _ D.i1z.symm hz₁
    have hez:e≠z:=fun x=>by subst x;rw [hz₂] at hoe;cases hoe;simp at hce
    refine wpAny_setField_rec hz₂ (by simp) fun h₃ _ hs₃=>hE h₃ e (fun c o c1 _ c3 _ x=>hs₃.extBut _ _ c1 (hs₂ _ _ c3 (hs₁.extBut _ _ c1 x))) ⟨oe,hs₃.extBut _ _ hez hoe,hce⟩
  | some x =>
    have hy:ys[k2]? = none:=by rcases hend with h | h;rw [hx] at h;cases h;exact h
    refine wpAny_bind (vV (h1.ext hs₁.extBut D.i1z) (hl1.ext hs₁.extBut D.l1z) hx fun h₂ h1₂ hs₂=>wpAny_pure ?_)
    have hTO₂:IsPair h₂ TO a b:=hs₂.extBut _ _ D.TOi1 (hs₁.extBut _ _ D.TOz hTO)
    refine wpAny_bind (wpAny_seqItems hTO₂ rfl ?_)
    refine wpAny_bind (wpAny_updateSeq_pair hTO₂ fun h₃ hTO₃ hs₃=>?_)
    refine wpAny_bind (wpAny_letGo (wpAny_pure ?_))
    refine wpAny_bind (wpAny_bind (wpAny_onRaise ?_))
    show wpAny _ _ (Builtin.SmallTypes.nextOf (.ref i2) >>= _) _ _ _
    refine wpAny_bind (zI hh (((h2.ext hs₁.extBut D.i2z).ext hs₂.extBut D.i12.symm).ext hs₃.extBut D.TOi2.symm)
      (((hl2.ext hs₁.extBut D.l2z).ext hs₂.extBut D.l2i1).ext hs₃.extBut D.l2TO) hy fun h₄ e hs₄ he=>?_)
    obtain ⟨oe,hoe,hce⟩:=he
    have hz₄:IsZip h₄ z TI TO .ellipsis:=hs₄ _ _ D.i2z.symm (hs₃.extBut _ _ D.TOz.symm (hs₂.extBut _ _ D.i1z.symm hz₁))
    have hez:e≠z:=fun x=>by subst x;rw [hz₄] at hoe;cases hoe;simp at hce
    refine wpAny_setField_rec hz₄ (by simp) fun h₅ _ hs₅=>hE h₅ e (fun c o c1 c2 c3 c4 x=>hs₅.extBut _ _ c1 (hs₄ _ _ c4 (hs₃.extBut _ _ c2 (hs₂.extBut _ _ c3 (hs₁.extBut _ _ c1 x))))) ⟨oe,hs₅.extBut _ _ hez hoe,hce⟩
theorem wA {κ μ:Bool} {z TI TO i1 i2 l1 l2:Addr} {k1 k2:Nat} {xs ys:Array Value} {x y a b:Value} {Q:Option Value→Shared→Prop} (D:ZipApart z TI TO i1 i2 l1 l2)
    (hz:IsZip s.heap z TI TO .none) (hTI:IsPair s.heap TI (.ref i1) (.ref i2)) (hTO:IsPair s.heap TO a b)
    (h1:kK s.heap i1 l1 k1 κ) (h2:kK s.heap i2 l2 k2 μ) (hl1:kT s.heap l1 xs κ) (hl2:kT s.heap l2 ys μ) (hx:xs[k1]? = some x) (hy:ys[k2]? = some y)
    (hQ:∀ h',IsZip h' z TI TO (rawInt s.heap.objs.size)→IsPair h' TO x y→kK h' i1 l1 (k1+1) κ→kK h' i2 l2 (k2+1) μ→IsPair h' s.heap.objs.size x y→h'.objs.size=s.heap.objs.size+1 →
      (∀ c o,c≠z→c≠TO→c≠i1→c≠i2→s.heap.get? c=some o→h'.get? c=some o)→Q (some (.ref s.heap.objs.size)) { s with heap:=h' }) :
    wpAny (model prog w) A (pyNext (.ref z)) Q E s:=by
  have hT:s.TypeIs (.ref z) "zip":=⟨_,hz,rfl⟩
  unfold pyNext
  exact wpAny_bind (wpAny_attempt (wpAny_callSpecial?_slot (name:=Str.ofString "__next__") hT F.slot_zip_next
    (wpAny_call_entry F.slot_zip_next hT F.entry_zip_next
      (oH D hz hTI hTO h1 h2 hl1 hl2 hx hy fun h' a1 a2 a3 a4 a5 a6 a7=>wpAny_pure (hQ h' a1 a2 a3 a4 a5 a6 a7)) (F.args_zip_next_1 _))))
theorem uW {κ μ:Bool} {z TI TO i1 i2 l1 l2:Addr} {k1 k2:Nat} {xs ys:Array Value} {a b:Value} {Q:Option Value→Shared→Prop} (hh:A.handled=none) (D:ZipApart z TI TO i1 i2 l1 l2)
    (hz:IsZip s.heap z TI TO .none) (hTI:IsPair s.heap TI (.ref i1) (.ref i2)) (hTO:IsPair s.heap TO a b)
    (h1:kK s.heap i1 l1 k1 κ) (h2:kK s.heap i2 l2 k2 μ) (hl1:kT s.heap l1 xs κ) (hl2:kT s.heap l2 ys μ) (hend:xs[k1]? = none∨ys[k2]? = none)
    (hQ:∀ h',(∀ c o,c≠z→c≠TO→c≠i1→c≠i2→s.heap.get? c=some o→h'.get? c=some o)→Q none { s with heap:=h' }):wpAny (model prog w) A (pyNext (.ref z)) Q E s:=by
  have hT:s.TypeIs (.ref z) "zip":=⟨_,hz,rfl⟩
  unfold pyNext
  refine wpAny_bind (wpAny_attempt (wpAny_callSpecial?_slot (name:=Str.ofString "__next__") hT F.slot_zip_next
    (wpAny_call_entry F.slot_zip_next hT F.entry_zip_next (jkV hh D hz hTI hTO h1 h2 hl1 hl2 hend fun h' e hk he=>?_) (F.args_zip_next_1 _))))
  obtain ⟨o,ho,hc⟩:=he
  refine wpAny_bind (wpAny_isInstance (T:="StopIteration") (b:=true) ⟨o,ho,hc⟩ isSubtype_stop ?_)
  exact wpAny_pure (hQ _ hk)
theorem fO {κ:Bool} {l:Addr} {xs:Array Value} {Q:Value→Shared→Prop} (hl:kT s.heap l xs κ) (h:Q (.ref s.heap.objs.size) { s with heap:=s.heap.push (itO l κ) }):wpAny (model prog w) A (pyIter (.ref l)) Q E s:=by
  cases κ
  · exact wpAny_pyIter_tuple hl h
  · exact wpAny_pyIter_list hl h
end
def zS1 (h:Heap) (l1:Addr) (κ:Bool):Heap:=h.push (itO l1 κ)
def zS2 (h:Heap) (l1 l2:Addr) (κ μ:Bool):Heap:=(zS1 h l1 κ).push (itO l2 μ)
def zS3 (h:Heap) (l1 l2:Addr) (κ μ:Bool):Heap:=(zS2 h l1 l2 κ μ).push { cls:=.type "tuple",data:=.seq #[.ref h.objs.size,.ref (zS1 h l1 κ).objs.size] }
def zS4 (h:Heap) (l1 l2:Addr) (κ μ:Bool):Heap:=(zS3 h l1 l2 κ μ).push { cls:=.type "tuple",data:=.seq #[.none,.none] }
def zS5 (h:Heap) (l1 l2:Addr) (κ μ:Bool):Heap:=(zS4 h l1 l2 κ μ).push { cls:=.type "zip",data:=.fields #[.none,.bool false,.bool false,.ref (zS2 h l1 l2 κ μ).objs.size,.ref (zS3 h l1 l2 κ μ).objs.size] }
theorem tL (κ μ:Bool) (l1 l2:Addr) (xs ys:Array Value) :
    Meets (Builtin.«zip.__new__» ⟨[.type "zip",.ref l1,.ref l2],[]⟩) (fun _ R s=>kT s.heap l1 xs κ∧kT s.heap l2 ys μ ∧
      R (.ok (.ret (.ref (zS4 s.heap l1 l2 κ μ).objs.size))) { s with heap:=zS5 s.heap l1 l2 κ μ }) :=
  .of_wp fun prog w A R s h=>by
    obtain ⟨hp,g,d,tk,os⟩:=s;obtain ⟨hl1,hl2,h⟩:=h
    have hsub:=sub_zip
    have hL1:kT (Shared.heap ⟨hp,g,d,tk,os⟩) l1 xs κ:=hl1
    have hL2:kT (Shared.heap ⟨hp.push (itO l1 κ),g,d,tk,os⟩) l2 ys μ:=hl2.push _
    wp_walk using fO hL1,fO hL2
    exact ⟨_,rfl,h⟩
section
variable {prog:Program} {w:World} {A:Around} {E:Value→Shared→Prop} {s:Shared}
theorem cZ {κ μ:Bool} {l1 l2:Addr} {xs ys:Array Value} {Q:Value→Shared→Prop} (hl1:kT s.heap l1 xs κ) (hl2:kT s.heap l2 ys μ)
    (h:∀ h',IsZip h' (s.heap.objs.size+4) (s.heap.objs.size+2) (s.heap.objs.size+3) .none→IsPair h' (s.heap.objs.size+2) (.ref s.heap.objs.size) (.ref (s.heap.objs.size+1)) →
      IsPair h' (s.heap.objs.size+3) .none .none→kK h' s.heap.objs.size l1 0 κ→kK h' (s.heap.objs.size+1) l2 0 μ→h'.objs.size=s.heap.objs.size+5 →
      (∀ c o,s.heap.get? c=some o→h'.get? c=some o)→Q (.ref (s.heap.objs.size+4)) { s with heap:=h' }) :
    wpAny (model prog w) A (call (.type "zip") [.ref l1,.ref l2]) Q E s:=by
  refine callType_new F.called_zip (by decide) (F.typeCall_zip_2 _ _) (F.newCall_zip_2 _ _) (fun obj=>F.args_object_init_3 obj _ _) F.entry_zip_new (tL κ μ l1 l2 xs ys) ⟨hl1,hl2,?_⟩
  have z1:(zS1 s.heap l1 κ).objs.size=s.heap.objs.size+1:=Heap.size_push ..
  have z2:(zS2 s.heap l1 l2 κ μ).objs.size=s.heap.objs.size+2:=by unfold zS2;rw [Heap.size_push,z1]
  have z3:(zS3 s.heap l1 l2 κ μ).objs.size=s.heap.objs.size+3:=by unfold zS3;rw [Heap.size_push,z2]
  have z4:(zS4 s.heap l1 l2 κ μ).objs.size=s.heap.objs.size+4:=by unfold zS4;rw [Heap.size_push,z3]
  have z5:(zS5 s.heap l1 l2 κ μ).objs.size=s.heap.objs.size+5:=by unfold zS5;rw [Heap.size_push,z4]
  have g5:(zS5 s.heap l1 l2 κ μ).get? (zS4 s.heap l1 l2 κ μ).objs.size=some _:=Heap.get?_push_size _ rfl
  have g4:(zS5 s.heap l1 l2 κ μ).get? (zS3 s.heap l1 l2 κ μ).objs.size=some _:=Heap.get?_push_of_some _ (Heap.get?_push_size _ rfl)
  have g3:(zS5 s.heap l1 l2 κ μ).get? (zS2 s.heap l1 l2 κ μ).objs.size=some _:=Heap.get?_push_of_some _ (Heap.get?_push_of_some _ (Heap.get?_push_size _ rfl))
  have g2:(zS5 s.heap l1 l2 κ μ).get? (zS1 s.heap l1 κ).objs.size=some _:=Heap.get?_push_of_some _ (Heap.get?_push_of_some _ (Heap.get?_push_of_some _ (Heap.get?_push_size _ nM)))
  have g1:(zS5 s.heap l1 l2 κ μ).get? s.heap.objs.size=some _:=Heap.get?_push_of_some _ (Heap.get?_push_of_some _ (Heap.get?_push_of_some _ (Heap.get?_push_of_some _ (Heap.get?_push_size _ nM))))
  show _∧_
  rw [z2,z3,z4] at g5
  rw [z1,z2] at g3
  rw [z3] at g4
  rw [z1] at g2
  rw [z4]
  exact ⟨⟨_,g5,rfl⟩,h _ g5 g3 g4 (kK.of g1) (kK.of g2) z5 fun c o x =>
    Heap.get?_push_of_some _ (Heap.get?_push_of_some _ (Heap.get?_push_of_some _ (Heap.get?_push_of_some _ (Heap.get?_push_of_some _ x))))⟩
end
def SqA (K:W.Frag) (H:Hp) (a:Addr) (xs:List V):Bool→Prop
  | true=>SqL K H a xs
  | false=>SqT K H a xs
theorem Inv.seqA {X:Cx} {pins:List (Addr×Obj)} {σ:St} {H:Hp} {s:Shared} {a:Addr} {xs:List V} {κ:Bool} (I:Inv X pins σ H s) (h:SqA X.K H a xs κ):∃ its:List Value,kG xs its∧kT s.heap a its.toArray κ∧xs.length≤sizeLine:=by
  cases κ
  · obtain ⟨its,r,p,z⟩:=I.tuple h
    exact ⟨its,r,p,z⟩
  · obtain ⟨its,r,p,z⟩:=I.list h
    exact ⟨its,r,p.isList,z⟩
theorem Inv.seqA_inj {X:Cx} {pins:List (Addr×Obj)} {σ:St} {H:Hp} {s:Shared} {a:Addr} {xs ys:List V} {κ:Bool} (I:Inv X pins σ H s) (h:SqA X.K H a xs κ) (h':SqA X.K H a ys κ):xs=ys:=by
  cases κ
  · exact I.tuple_inj h h'
  · exact I.list_inj h h'
def oC (K:W.Frag) (a b:Addr) (κ μ:Bool):It :=
  ⟨fun i H=>∃ (xs ys:List V) (x y:V),SqA K H a xs κ∧SqA K H b ys μ∧xs[i]? = some x∧ys[i]? = some y,
    fun i H v H'=>∃ T x y,v=.ref T∧H T=none∧H'=upd H T (.tup [x,y])∧(∀ xs,SqA K H a xs κ→xs[i]? = some x)∧∀ ys,SqA K H b ys μ→ys[i]? = some y,
    fun i H=>∃ xs ys:List V,SqA K H a xs κ∧SqA K H b ys μ∧(xs.length≤i∨ys.length≤i)⟩
theorem oW {κ μ:Bool} {P:Program} {w:World} {K:W.Frag} {elts:List Expr} {kk:Nat} {tpos:Pos} {a b z TI TO i1 i2:Addr} (D:ZipApart z TI TO i1 i2 a b) :
    oP P w K (.Tuple elts kk tpos) (oC K a b κ μ) [z,TI,TO,i1,i2] z (fun i h=>IsZip h z TI TO .none∧IsPair h TI (.ref i1) (.ref i2)∧(∃ x y,IsPair h TO x y)∧kK h i1 a i κ∧kK h i2 b i μ) where
  mem:=by simp
  obj:=fun i h st c hc=>by
    obtain ⟨hz,hTI,⟨x,y,hTO⟩,h1,h2⟩:=st
    have e':c=z∨c=TI∨c=TO∨c=i1∨c=i2:=by simpa using hc
    rcases e' with q | q | q | q | q
    · rw [q];exact ⟨_,hz,fun v q=>nomatch q⟩
    · rw [q];exact ⟨_,hTI,fun v q=>nomatch q⟩
    · rw [q];exact ⟨_,hTO,fun v q=>nomatch q⟩
    · rw [q];exact h1.obj
    · rw [q];exact h2.obj
  keep:=fun i h h' st k=>by
    obtain ⟨hz,hTI,⟨x,y,hTO⟩,h1,h2⟩:=st
    exact ⟨k z (by simp) _ hz,k TI (by simp) _ hTI,⟨x,y,k TO (by simp) _ hTO⟩,h1.at fun o q=>k i1 (by simp) o q,h2.at fun o q=>k i2 (by simp) o q⟩
  item:=by
    intro X hP hw hK hc i pins s σ H E I hf st hg
    subst hP hw hK
    obtain ⟨hz,hTI,⟨x0,y0,hTO⟩,h1,h2⟩:=st
    obtain ⟨xs,ys,x,y,hqx,hqy,hx,hy⟩:=hg
    obtain ⟨its,rv,p,_⟩:=I.seqA hqx
    obtain ⟨its2,rv2,p2,_⟩:=I.seqA hqy
    obtain ⟨u,hu,ru⟩:=rv.get hx
    obtain ⟨u2,hu2,ru2⟩:=rv2.get hy
    have hzl:z < s.heap.objs.size:=Heap.lt_size hz
    refine wA D hz hTI hTO h1 h2 p p2 (x:=u) (y:=u2) (by simpa using hu) (by simpa using hu2) fun h' z' TO' h1' h2' hT hsz hk=>?_
    refine ⟨_,rfl,wpAny_letOwnedTupleGo_zip (s:={ s with heap:=h' }) z' fun h'' z'' sb=>?_⟩
    have hT2:h''.get? s.heap.objs.size=some { cls:=.type "tuple",data:=.seq #[u,u2] }:=(sb.2 _ (Nat.ne_of_gt hzl)).trans hT
    have new:kS X.prog X.w (upd H s.heap.objs.size (.tup [x,y])) h'' s.heap.objs.size (.tup [x,y]) :=
      ⟨by show 2≤sizeLine;decide,[u,u2],.cons ru (.cons ru2 .nil),⟨_,hT2,rfl,_,rfl⟩⟩
    have I1:Inv X pins σ (upd H s.heap.objs.size (.tup [x,y])) { s with heap:=h'' } :=
      I.turnedNew (t':=s.toks) (ch:=[z,TI,TO,i1,i2]) (fun c o hb q=>(sb.2 c (fun q'=>hb (by simp [q']))).trans (hk c o (fun q'=>hb (by simp [q'])) (fun q'=>hb (by simp [q'])) (fun q'=>hb (by simp [q'])) (fun q'=>hb (by simp [q'])) q)) hf (Nat.le_refl _) new
    refine ⟨.ref s.heap.objs.size,_,I1,rfl,⟨_,x,y,rfl,I.hok.fresh (Nat.le_refl _),rfl,fun l hl=>by rw [I.seqA_inj hl hqx];exact hx,fun l hl=>by rw [I.seqA_inj hl hqy];exact hy⟩,⟨z'',?_,⟨u,u2,?_⟩,?_,?_⟩,fun c hcm=>?_⟩
    · exact (sb.2 _ D.TIz).trans (hk _ _ D.TIz D.TITO D.TIi1 D.TIi2 hTI)
    · exact (sb.2 _ D.TOz).trans TO'
    · exact h1'.at fun o q=>(sb.2 _ D.i1z).trans q
    · exact h2'.at fun o q=>(sb.2 _ D.i2z).trans q
    · have hlt:c < s.heap.objs.size:=by
        have e':c=z∨c=TI∨c=TO∨c=i1∨c=i2:=by simpa using hcm
        rcases e' with q | q | q | q | q
        · rw [q];exact hzl
        · rw [q];exact Heap.lt_size hTI
        · rw [q];exact Heap.lt_size hTO
        · rw [q];obtain ⟨_,e1,_⟩:=h1.obj;exact Heap.lt_size e1
        · rw [q];obtain ⟨_,e2,_⟩:=h2.obj;exact Heap.lt_size e2
      rw [jV (Nat.ne_of_lt hlt)]
      exact (hf c hcm).1
  done:=by
    intro X hP hw hK hc i pins s σ H E I hf st hg
    subst hP hw hK
    obtain ⟨hz,hTI,⟨x0,y0,hTO⟩,h1,h2⟩:=st
    obtain ⟨xs,ys,hqx,hqy,hend⟩:=hg
    obtain ⟨its,rv,p,_⟩:=I.seqA hqx
    obtain ⟨its2,rv2,p2,_⟩:=I.seqA hqy
    have l1:=rv.length
    have l2:=rv2.length
    have he:its.toArray[i]? = none∨its2.toArray[i]? = none:=by
      rcases hend with q | q
      · exact .inl (by simp;omega)
      · exact .inr (by simp;omega)
    exact uW (I.ok.hd hc) D hz hTI hTO h1 h2 p p2 he fun h' hk=>⟨rfl,I.turnedL (t':=s.toks) (ch:=[z,TI,TO,i1,i2]) (fun c o hb q =>
      hk c o (fun q'=>hb (by simp [q'])) (fun q'=>hb (by simp [q'])) (fun q'=>hb (by simp [q'])) (fun q'=>hb (by simp [q'])) q) hf⟩
  self:=fun A i s Q E st h=>wpAny_pyIter_zip st.1 h
def p3 (K:W.Frag) (κ μ:Bool) (ta:TA):TI:=fun σ H R=>ta σ H fun vs H1=>∃ a b xs ys,vs=[.ref a,.ref b]∧SqA K H1 a xs κ∧SqA K H1 b ys μ∧R (oC K a b κ μ) H1
theorem yB (κ μ:Bool) {X:Cx} {e e2:Expr} {ta:TA} {p pos tpos:Pos} {elts:List Expr} {kk:Nat} (hg:Gl X "zip") (hm:X.mg "zip"=none) (ha:PA X [e,e2] ta)
    (hs:starEach [e,e2] X.env=(false,eval e X.env) :: starEach [e2] X.env:=by rfl) (hpl:(backTo pos (starEach [e2] X.env)).any (·.1)=false:=by rfl) :
    PI X (.Tuple elts kk tpos) (.Call (.Name "zip" p) [e,e2] [] pos) (p3 X.K κ μ ta):=by
  intro pins s σ H R I h
  refine Call_ (wS I hg hm cJ (PyProof.Rows.callWith_type1 (thn (ha pos pins s σ H _ I h) fun us s1 ⟨vs,H1,I1,r1,q1⟩=>?_) hs hpl))
  obtain ⟨a,b,xs,ys,ex,hqx,hqy,q⟩:=q1
  subst ex
  cases r1 with
  | cons r rr =>
    cases rr with
    | cons r' rr =>
      cases rr
      cases r
      cases r'
      obtain ⟨its,rv,p1,_⟩:=I1.seqA hqx
      obtain ⟨its2,rv2,p2,_⟩:=I1.seqA hqy
      have la:a < s1.heap.objs.size:=p1.lt
      have lb:b < s1.heap.objs.size:=p2.lt
      refine cZ p1 p2 fun h' hz hTI hTO h1 h2 hsz hk=>wpAny_pyIter_zip hz ?_
      have I2:Inv X pins σ H1 { s1 with heap:=h' }:=I1.kept (t':=s1.toks) hk
      refine ⟨s1.heap.objs.size+4,[s1.heap.objs.size+4,s1.heap.objs.size+2,s1.heap.objs.size+3,s1.heap.objs.size,s1.heap.objs.size+1],_,_,H1,rfl,I2,oW (W.ktu_apart s1.heap.objs.size a b la lb),⟨hz,hTI,⟨_,_,hTO⟩,h1,h2⟩,fun c hcm=>?_,q⟩
      have e':c=s1.heap.objs.size+4∨c=s1.heap.objs.size+2∨c=s1.heap.objs.size+3∨c=s1.heap.objs.size∨c=s1.heap.objs.size+1:=by simpa using hcm
      have hle:s1.heap.objs.size≤c:=by
        rcases e' with z | z | z | z | z
        · rw [z];exact Nat.le_add_right _ _
        · rw [z];exact Nat.le_add_right _ _
        · rw [z];exact Nat.le_add_right _ _
        · rw [z];exact Nat.le_refl _
        · rw [z];exact Nat.le_add_right _ _
      exact I1.fpOk hle (I1.hok.fresh hle)
theorem bR:typeLookup (.type "zip") "keys"=pure none:=am_miss_of_fast (by first | decide +kernel | rfl)
theorem xJ:typeLookup (.type "zip") "__getattr__"=pure none:=by rw [typeLookup_type,builtinLookup_eq_fast];kernel_rfl
theorem wO:entryFor table "zip.__getattribute__"=some Builtin.«object.__getattribute__» :=
  entryFor_alias (id':="object.__getattribute__") (by kernel_rfl) (by decide +kernel) (by decide +kernel) (by kernel_rfl)
theorem hU (a:Addr) (fs:Array Value) (name:Str) (u:Tok) (hmiss:typeLookup (.type "zip") name=pure none) (hname:(["__module__","__name__","__qualname__","__doc__","__annotations__"]:List Str).contains name=false) (hsz:name.length+100≤sizeLine:=by size_fits) :
    Meets (Builtin.«object.__getattribute__» ⟨[.ref a,.str name u],[]⟩) (fun A R s=>s.heap.get? a=some { cls:=.type "zip",dict:=none,data:=.fields fs,slots:=#[] }∧raisesAttr (.ref a) name A R s) :=
  Meets.of_wp fun prog w A R s hs=>by
    obtain ⟨hp,g,d,tk,os⟩:=s
    obtain ⟨hx,hs⟩:=hs
    have hT:(⟨hp,g,d,tk,os⟩:Shared).TypeIs (.ref a) "zip":=⟨_,hx,rfl⟩
    unfold Builtin.«object.__getattribute__»
    repeat (any_goals (first | assumption | wp_step))
    simp only [hname,Bool.false_eq_true,if_false]
    repeat (any_goals (first | assumption | wp_step))
    exact wpAny_raiseAttrError hs.1 hs.2 (attrMsg_fits (by decide +kernel) hsz)
section
variable {prog:Program} {w:World} {A:Around} {E:Value→Shared→Prop}
theorem jj2 {s:Shared} {a:Addr} {fs:Array Value} {Q:Option Value→Shared→Prop} (hx:s.heap.get? a=some { cls:=.type "zip",dict:=none,data:=.fields fs,slots:=#[] }) (hA:A.handled=none)
    (h:∀ h' tk,(∀ b ob,s.heap.get? b=some ob→h'.get? b=some ob)→Q none { s with heap:=h',toks:=tk }):wpAny (model prog w) A (getAttr? (.ref a) "keys") Q E s:=by
  obtain ⟨hp,g,d,tk,os⟩:=s
  have hT:∀ tk',(⟨hp,g,d,tk',os⟩:Shared).TypeIs (.ref a) "zip":=fun _=>⟨_,hx,rfl⟩
  have hmiss:=bR
  have hname:(["__module__","__name__","__qualname__","__doc__","__annotations__"]:List Str).contains "keys"=false:=by decide +kernel
  have hsz:("keys":Str).length+100≤sizeLine:=by first | size_fits | decide +kernel
  have f1:=sub_AttributeError
  have f3:=PySem.F.slot_zip_getattribute.lookup
  have f4:=PySem.F.slot_zip_getattribute.bind (.ref a)
  have f5:=xJ
  unfold getAttr? getAttrBy? getAttrBy
  repeat (any_goals (first | assumption | exact hT _ | ((with_reducible show wpAny _ _ (call (Value.builtin "zip.__getattribute__") _ _) _ _ _);refine call_meets PySem.F.slot_zip_getattribute (hT _) wO (PySem.F.args_zip_getattribute_2 _ _) (hU a fs "keys" _ hmiss hname hsz) ⟨hx,hA,fun h' tk' e hx'=>?_⟩) | wp_step))
  obtain ⟨t',u',he⟩:=hx'.there
  show wpAny _ _ (getattributeRaised _ _ _ _ _ _ _) _ _ _
  unfold getattributeRaised
  repeat (any_goals (first | assumption | wp_step))
  all_goals first | exact h _ _ hx'.keeps | (dsimp only;repeat (any_goals (first | assumption | exact h _ _ hx'.keeps | wp_step)))
end
abbrev fQ (h:Heap) (z TI TO:Addr) (T:Addr) (b:Bool):Prop :=
  h.get? z=some { cls:=.type "zip",dict:=none,data:=.fields #[rawInt T,.bool b,.bool false,.ref TI,.ref TO],slots:=#[] }
theorem m7 {M:Model} {A:Around} {E:Value→Shared→Prop} {s:Shared} {a:Addr} {Q:Option Obj→Shared→Prop} (h:Q (s.heap.get? a) s):wpAny M A (loadIfAlive a) Q E s:=fun Γ p _=>by
  unfold loadIfAlive
  rw [Sem.wp_loadIfAlive]
  exact h
section
variable {prog:Program} {w:World} {A:Around} {E:Value→Shared→Prop} {s:Shared}
theorem eE {z TI TO T:Addr} {b:Bool} {oT:Obj} {Q:Bool→Shared→Prop} (hz:fQ s.heap z TI TO T b) (hT:s.heap.get? T=some oT)
    (hQ:∀ h',fQ h' z TI TO T true→(∀ c o,c≠z→s.heap.get? c=some o→h'.get? c=some o)→h'.objs.size=s.heap.objs.size→Q false { s with heap:=h' }):wpAny (model prog w) A (Builtin.SmallTypes.ownedTupleIsFree (.ref z)) Q E s:=by
  unfold Builtin.SmallTypes.ownedTupleIsFree
  refine wpAny_bind (wpAny_field hz rfl (x:=rawInt T) rfl ?_)
  show wpAny _ _ (loadIfAlive ((T:Int).toNat) >>= _) _ _ _
  rw [Int.toNat_natCast]
  refine wpAny_bind (m7 ?_)
  rw [hT]
  simp only [Option.isNone_some,Bool.false_eq_true,if_false]
  show wpAny _ _ (field (.ref z) 1 >>= _) _ _ _
  refine wpAny_bind (wpAny_field hz rfl (x:=.bool b) rfl ?_)
  cases b with
  | true =>
    rw [if_neg (by decide)]
    exact wpAny_pure (hQ s.heap hz (fun _ _ _ e=>e) rfl)
  | false =>
    rw [if_pos (by decide)]
    refine wpAny_bind (wpAny_setField_rec hz (by simp) fun h1 hz1 hs1=>wpAny_pure ?_)
    exact hQ h1 hz1 (fun c o n e=>hs1.extBut _ _ n e) hs1.1
theorem oG {κ μ:Bool} {z TI TO T i1 i2 l1 l2:Addr} {b:Bool} {oT:Obj} {k1 k2:Nat} {xs ys:Array Value} {x y:Value} {Q:Value→Shared→Prop} (D:ZipApart z TI TO i1 i2 l1 l2)
    (hz:fQ s.heap z TI TO T b) (hT:s.heap.get? T=some oT) (hTI:IsPair s.heap TI (.ref i1) (.ref i2))
    (h1:kK s.heap i1 l1 k1 κ) (h2:kK s.heap i2 l2 k2 μ) (hl1:kT s.heap l1 xs κ) (hl2:kT s.heap l2 ys μ) (hx:xs[k1]? = some x) (hy:ys[k2]? = some y)
    (hQ:∀ h',fQ h' z TI TO T true→kK h' i1 l1 (k1+1) κ→kK h' i2 l2 (k2+1) μ→IsPair h' s.heap.objs.size x y →
      (∀ c o,c≠z→c≠i1→c≠i2→s.heap.get? c=some o→h'.get? c=some o)→Q (.ref s.heap.objs.size) { s with heap:=h' }) :
    wpAny (model prog w) A (Builtin.«zip.__next__» ⟨[.ref z],[]⟩) (fun fin s'=>∃ v,fin=.done (.ret v)∧Q v s') E s:=by
  show wpAny _ _ (field (.ref z) 2 >>= _) _ _ _
  refine wpAny_bind (wpAny_field hz rfl (x:=.bool false) rfl ?_)
  show wpAny _ _ (field (.ref z) 3 >>= _) _ _ _
  refine wpAny_bind (wpAny_field hz rfl (x:=.ref TI) rfl ?_)
  refine wpAny_bind (wpAny_seqItems hTI rfl ?_)
  show wpAny _ _ (Builtin.SmallTypes.ownedTupleIsFree (.ref z) >>= _) _ _ _
  refine wpAny_bind (eE hz hT fun g1 z1 k1' e1=>?_)
  simp only [Bool.false_eq_true,if_false]
  rw [← Array.forIn_toList]
  simp only [List.forIn_cons,List.forIn_nil]
  have x1:Heap.ExtBut z s.heap g1:=fun c o n e=>k1' c o n e
  refine wpAny_bind (wpAny_bind ?_)
  refine wpAny_bind (wpAny_holding ?_)
  show wpAny _ _ (Builtin.SmallTypes.nextOf (.ref i1) >>= _) _ _ _
  refine wpAny_bind (vV (h1.ext x1 D.i1z) (hl1.ext x1 D.l1z) hx fun g2 it1 sb2=>wpAny_pure ?_)
  refine wpAny_pure ?_
  refine wpAny_bind (wpAny_bind (wpAny_holding ?_))
  show wpAny _ _ (Builtin.SmallTypes.nextOf (.ref i2) >>= _) _ _ _
  refine wpAny_bind (vV ((h2.ext x1 D.i2z).ext sb2.extBut D.i12.symm) ((hl2.ext x1 D.l2z).ext sb2.extBut D.l2i1) hy fun g3 it2 sb3=>wpAny_pure ?_)
  refine wpAny_pure ?_
  refine wpAny_pure ?_
  refine wpAny_bind (wpAny_newTuple ?_ (by show 2≤sizeLine;decide))
  have hsz:g3.objs.size=s.heap.objs.size:=by rw [sb3.1,sb2.1,e1]
  refine wpAny_pure ⟨_,rfl,?_⟩
  rw [hsz]
  have up:∀ c o,g3.get? c=some o→(g3.push { cls:=.type "tuple",data:=.seq #[x,y] }).get? c=some o:=fun c o e=>Heap.get?_push_of_some _ e
  refine hQ _ (up _ _ (sb3.extBut _ _ D.i2z.symm (sb2.extBut _ _ D.i1z.symm z1))) ((it1.ext sb3.extBut D.i12).at fun o e=>up _ _ e) (it2.at fun o e=>up _ _ e) ?_ fun c o n1 n2 n3 e=>up _ _ (sb3.extBut _ _ n3 (sb2.extBut _ _ n2 (k1' c o n1 e)))
  rw [← hsz]
  exact Heap.get?_push_size _ rfl
theorem jkK {κ μ:Bool} {z TI TO T i1 i2 l1 l2:Addr} {b:Bool} {oT:Obj} {k1 k2:Nat} {xs ys:Array Value} {Q:Fin→Shared→Prop} (hh:A.handled=none) (D:ZipApart z TI TO i1 i2 l1 l2)
    (hz:fQ s.heap z TI TO T b) (hT:s.heap.get? T=some oT) (hTI:IsPair s.heap TI (.ref i1) (.ref i2))
    (h1:kK s.heap i1 l1 k1 κ) (h2:kK s.heap i2 l2 k2 μ) (hl1:kT s.heap l1 xs κ) (hl2:kT s.heap l2 ys μ) (hend:xs[k1]? = none∨ys[k2]? = none)
    (hE:∀ h' e,(∀ c o,c≠z→c≠i1→c≠i2→s.heap.get? c=some o→h'.get? c=some o)→(∃ o,h'.get? e=some o∧o.cls=.type "StopIteration")→E (.ref e) { s with heap:=h' }) :
    wpAny (model prog w) A (Builtin.«zip.__next__» ⟨[.ref z],[]⟩) Q E s:=by
  show wpAny _ _ (field (.ref z) 2 >>= _) _ _ _
  refine wpAny_bind (wpAny_field hz rfl (x:=.bool false) rfl ?_)
  show wpAny _ _ (field (.ref z) 3 >>= _) _ _ _
  refine wpAny_bind (wpAny_field hz rfl (x:=.ref TI) rfl ?_)
  refine wpAny_bind (wpAny_seqItems hTI rfl ?_)
  show wpAny _ _ (Builtin.SmallTypes.ownedTupleIsFree (.ref z) >>= _) _ _ _
  refine wpAny_bind (eE hz hT fun g1 z1 k1' e1=>?_)
  simp only [Bool.false_eq_true,if_false]
  rw [← Array.forIn_toList]
  simp only [List.forIn_cons,List.forIn_nil]
  have x1:Heap.ExtBut z s.heap g1:=fun c o n e=>k1' c o n e
  refine wpAny_bind (wpAny_bind ?_)
  refine wpAny_bind (wpAny_holding ?_)
  show wpAny _ _ (Builtin.SmallTypes.nextOf (.ref i1) >>= _) _ _ _
  cases hx:xs[k1]? with
  | none =>
    exact wpAny_bind (zI hh (h1.ext x1 D.i1z) (hl1.ext x1 D.l1z) hx fun g2 e eb he=>hE g2 e (fun c o n1 n2 n3 q=>eb _ _ n2 (k1' c o n1 q)) he)
  | some x =>
    have hy:ys[k2]? = none:=by rcases hend with h | h;rw [hx] at h;cases h;exact h
    refine wpAny_bind (vV (h1.ext x1 D.i1z) (hl1.ext x1 D.l1z) hx fun g2 it1 sb2=>wpAny_pure ?_)
    refine wpAny_pure ?_
    refine wpAny_bind (wpAny_bind (wpAny_holding ?_))
    show wpAny _ _ (Builtin.SmallTypes.nextOf (.ref i2) >>= _) _ _ _
    exact wpAny_bind (zI hh ((h2.ext x1 D.i2z).ext sb2.extBut D.i12.symm) ((hl2.ext x1 D.l2z).ext sb2.extBut D.l2i1) hy fun g3 e eb he=>hE g3 e (fun c o n1 n2 n3 q=>eb _ _ n3 (sb2.extBut _ _ n2 (k1' c o n1 q))) he)
end
section
variable {prog:Program} {w:World} {A:Around} {E:Value→Shared→Prop}
def ZOk (h:Heap) (z TI TO S i1 i2:Addr):Prop:=IsZip h z TI TO .none∨∃ T b x y,fQ h z TI TO T b∧IsPair h T x y∧T≠S∧T≠z∧T≠TO∧T≠i1∧T≠i2
theorem jj5 {κ μ:Bool} {s:Shared} {z TI TO S i1 i2 l1 l2:Addr} {k:Nat} {xs ys:Array Value} {x y:Value} {Q:Option Value→Shared→Prop} (D:ZipApart z TI TO i1 i2 l1 l2) (hS:S < s.heap.objs.size) (hz:ZOk s.heap z TI TO S i1 i2) (hTI:IsPair s.heap TI (.ref i1) (.ref i2)) (hTO:∃ a b,IsPair s.heap TO a b)
    (h1:kK s.heap i1 l1 k κ) (h2:kK s.heap i2 l2 k μ) (hl1:kT s.heap l1 xs κ) (hl2:kT s.heap l2 ys μ) (hx:xs[k]? = some x) (hy:ys[k]? = some y)
    (hQ:∀ h',ZOk h' z TI TO S i1 i2→(∃ a b,IsPair h' TO a b)→kK h' i1 l1 (k+1) κ→kK h' i2 l2 (k+1) μ→IsPair h' s.heap.objs.size x y →
      (∀ c o,c≠z→c≠TO→c≠i1→c≠i2→s.heap.get? c=some o→h'.get? c=some o)→Q (some (.ref s.heap.objs.size)) { s with heap:=h' }) :
    wpAny (model prog w) A (pyNext (.ref z)) Q E s:=by
  obtain ⟨a,b,hTO⟩:=hTO
  rcases hz with hz | ⟨T,bb,x',y',hz,hT,n1,n2,n3,n4,n5⟩
  · have lt:∀ {c o},s.heap.get? c=some o→s.heap.objs.size≠c:=fun e=>Nat.ne_of_gt (Heap.lt_size e)
    refine wA D hz hTI hTO h1 h2 hl1 hl2 hx hy fun h' a1 a2 a3 a4 a5 a6 a7=>hQ h' (.inr ⟨s.heap.objs.size,false,x,y,a1,a5,Nat.ne_of_gt hS,lt hz,lt hTO,?_,?_⟩) ⟨x,y,a2⟩ a3 a4 a5 a7
    · obtain ⟨_,e,_⟩:=h1.obj;exact lt e
    · obtain ⟨_,e,_⟩:=h2.obj;exact lt e
  · have hty:s.TypeIs (.ref z) "zip":=⟨_,hz,rfl⟩
    unfold pyNext
    refine wpAny_bind (wpAny_attempt (wpAny_callSpecial?_slot (name:=Str.ofString "__next__") hty F.slot_zip_next
      (wpAny_call_entry F.slot_zip_next hty F.entry_zip_next (oG D hz hT hTI h1 h2 hl1 hl2 hx hy fun h' a1 a2 a3 a4 a5=>wpAny_pure ?_) (F.args_zip_next_1 _))))
    exact hQ h' (.inr ⟨T,true,x',y',a1,a5 _ _ n2 n4 n5 hT,n1,n2,n3,n4,n5⟩) ⟨a,b,a5 _ _ D.TOz D.TOi1 D.TOi2 hTO⟩ a2 a3 a4 fun c o c1 _ c3 c4 e=>a5 c o c1 c3 c4 e
theorem jw5 {κ μ:Bool} {s:Shared} {z TI TO S i1 i2 l1 l2:Addr} {k:Nat} {xs ys:Array Value} {Q:Option Value→Shared→Prop} (hh:A.handled=none) (D:ZipApart z TI TO i1 i2 l1 l2) (hz:ZOk s.heap z TI TO S i1 i2) (hTI:IsPair s.heap TI (.ref i1) (.ref i2)) (hTO:∃ a b,IsPair s.heap TO a b)
    (h1:kK s.heap i1 l1 k κ) (h2:kK s.heap i2 l2 k μ) (hl1:kT s.heap l1 xs κ) (hl2:kT s.heap l2 ys μ) (hend:xs[k]? = none∨ys[k]? = none)
    (hQ:∀ h',(∀ c o,c≠z→c≠TO→c≠i1→c≠i2→s.heap.get? c=some o→h'.get? c=some o)→Q none { s with heap:=h' }) :
    wpAny (model prog w) A (pyNext (.ref z)) Q E s:=by
  obtain ⟨a,b,hTO⟩:=hTO
  rcases hz with hz | ⟨T,bb,x',y',hz,hT,_⟩
  · exact uW hh D hz hTI hTO h1 h2 hl1 hl2 hend hQ
  · have hty:s.TypeIs (.ref z) "zip":=⟨_,hz,rfl⟩
    unfold pyNext
    refine wpAny_bind (wpAny_attempt (wpAny_callSpecial?_slot (name:=Str.ofString "__next__") hty F.slot_zip_next
      (wpAny_call_entry F.slot_zip_next hty F.entry_zip_next (jkK hh D hz hT hTI h1 h2 hl1 hl2 hend fun h' e hk he=>?_) (F.args_zip_next_1 _))))
    obtain ⟨o,ho,hc⟩:=he
    refine wpAny_bind (wpAny_isInstance (T:="StopIteration") (b:=true) ⟨o,ho,hc⟩ isSubtype_stop ?_)
    exact wpAny_pure (hQ _ fun c o c1 _ c3 c4 e=>hk c o c1 c3 c4 e)
theorem r8 {κ μ:Bool} {R:Result→Shared→Prop} {S z TI TO i1 i2 l1 l2:Addr} {xs ys:Array Value} {res:Value} (hh:A.handled=none) (D:ZipApart z TI TO i1 i2 l1 l2) (Sz:S≠z) (STI:S≠TI) (STO:S≠TO) (Si1:S≠i1) (Si2:S≠i2) (Sl1:S≠l1) (Sl2:S≠l2) :
    ∀ (rest:List (Key×Value)) (i:Nat) (acc:List (Key×Value)) (ix:Int) (t:Tok) (s:Shared),acc.length+rest.length≤sizeLine →
      (∀ (j:Nat) (q:Key×Value),rest[j]? = some q→∃ u:Value,xs[i+j]? = some u∧ys[i+j]? = some q.2∧xU q.1 u=true)→(xs[i+rest.length]? = none∨ys[i+rest.length]? = none) →
      ZOk s.heap z TI TO S i1 i2→IsPair s.heap TI (.ref i1) (.ref i2)→(∃ a b,IsPair s.heap TO a b)→kK s.heap i1 l1 i κ→kK s.heap i2 l2 i μ→kT s.heap l1 xs κ→kT s.heap l2 ys μ→s.heap.DictOf (j5 prog w) S acc →
      (∀ h' tk,h'.DictOf (j5 prog w) S (merged acc rest)→(∀ b o,b≠S→b≠z→b≠TO→b≠i1→b≠i2→s.heap.get? b=some o→h'.get? b=some o)→R (.ok (.ret res)) { s with heap:=h',toks:=tk }) →
      codeAny (model prog w) A (.builtin "dict.update.loop" ⟨[.ref S,.ref z,.int ix t,res],[]⟩) R s
  | [],i,acc,ix,t,s,hln,ht,hend,hz,hTI,hTO,h1,h2,hl1,hl2,hm,hR=>by
    refine codeAny_builtin tJ ?_
    rw [Around.under_plainId qA _]
    show wpAny _ A.in1 (pyNext (.ref z) >>= _) _ _ s
    refine wpAny_bind (jw5 (A:=A.in1) hh D hz hTI hTO h1 h2 hl1 hl2 (by simpa using hend) fun h' hk=>?_)
    show wpAny _ A.in1 (Builtin.Dict.addKeywords S [] >>= _) _ _ _
    refine wpAny_bind (wpAny_pure (wpAny_pure ?_))
    exact hR h' s.toks (hm.at fun o e=>hk _ _ Sz STO Si1 Si2 e) fun b o _ b1 b2 b3 b4 e=>hk b o b1 b2 b3 b4 e
  | q :: rest,i,acc,ix,t,s,hln,ht,hend,hz,hTI,hTO,h1,h2,hl1,hl2,hm,hR=>by
    obtain ⟨u,hu,hv,hk⟩:=ht 0 q rfl
    rw [List.length_cons] at hln
    have hSl:S < s.heap.objs.size:=by obtain ⟨o,_,_,e,_⟩:=hm;exact Heap.lt_size e
    refine codeAny_builtin tJ ?_
    rw [Around.under_plainId qA _]
    show wpAny _ A.in1 (pyNext (.ref z) >>= _) _ _ s
    refine wpAny_bind (jj5 (x:=u) (y:=q.2) D hSl hz hTI hTO h1 h2 hl1 hl2 (by simpa using hu) (by simpa using hv) fun g1 hz1 hTO1 it1 it2 hT1 k1=>?_)
    have nT:s.heap.objs.size≠S:=Nat.ne_of_gt hSl
    show wpAny _ A.in1 (holding [Value.ref s.heap.objs.size] _ >>= _) _ _ _
    refine wpAny_bind (wpAny_holding ?_)
    refine wpAny_bind (wpAny_tryCatch ?_)
    unfold Builtin.Dict.pairItems
    refine wpAny_bind (wpAny_typeOf (T:="tuple") ⟨_,hT1,rfl⟩ ?_)
    rw [if_pos (by first | decide | rfl | simp)]
    refine wpAny_bind (wpAny_seqItems hT1 rfl (wpAny_pure ?_))
    show wpAny _ A.in1 (holding [u,q.2] (dictSet S u q.2)) _ _ _
    have hm1:g1.DictOf (j5 prog w) S acc:=hm.at fun o e=>k1 _ _ Sz STO Si1 Si2 e
    refine wpAny_holding (wpAny_dictSet_pairs (knd:=j5 prog w) (k:=q.1) hk hm1 (fun h2' hm2 hs2=>?_) (by omega))
    refine wpAny_pure ⟨plainId_quiet qA _,r8 (κ:=κ) (μ:=μ) (xs:=xs) (ys:=ys) hh D Sz STI STO Si1 Si2 Sl1 Sl2 rest (i+1) (stored acc q.1 q.2) (ix+1) 0 _ ?_ (fun j q' e=>?_) ?_ ?_ ?_ ?_ ?_ ?_ ?_ ?_ hm2 fun h' tk hd' k=>?_⟩
    · have z:=stored_length_le acc q.1 q.2
      omega
    · obtain ⟨u',a1,a2,a3⟩:=ht (j+1) q' (by simpa using e)
      exact ⟨u',by rw [show i+1+j=i+(j+1) by omega];exact a1,by rw [show i+1+j=i+(j+1) by omega];exact a2,a3⟩
    · rw [show i+1+rest.length=i+(q :: rest).length by rw [List.length_cons];omega];exact hend
    · rcases hz1 with hz1 | ⟨T,b,x,y,hz1,hT,n1,n2,n3,n4,n5⟩
      · exact .inl (hs2.extBut _ _ Sz.symm hz1)
      · exact .inr ⟨T,b,x,y,hs2.extBut _ _ Sz.symm hz1,hs2.extBut _ _ n1 hT,n1,n2,n3,n4,n5⟩
    · exact hs2.extBut _ _ STI.symm (k1 _ _ D.TIz D.TITO D.TIi1 D.TIi2 hTI)
    · obtain ⟨a,b,e⟩:=hTO1
      exact ⟨a,b,hs2.extBut _ _ STO.symm e⟩
    · exact it1.at fun o e=>hs2.extBut _ _ Si1.symm e
    · exact it2.at fun o e=>hs2.extBut _ _ Si2.symm e
    · cases κ
      · exact (Heap.IsTuple.at hl1 fun o e=>k1 _ _ D.l1z D.l1TO D.l1i1 D.l1i2 e).at fun o e=>hs2.extBut _ _ Sl1.symm e
      · exact (Heap.IsList.at hl1 fun o e=>k1 _ _ D.l1z D.l1TO D.l1i1 D.l1i2 e).at fun o e=>hs2.extBut _ _ Sl1.symm e
    · cases μ
      · exact (Heap.IsTuple.at hl2 fun o e=>k1 _ _ D.l2z D.l2TO D.l2i1 D.l2i2 e).at fun o e=>hs2.extBut _ _ Sl2.symm e
      · exact (Heap.IsList.at hl2 fun o e=>k1 _ _ D.l2z D.l2TO D.l2i1 D.l2i2 e).at fun o e=>hs2.extBut _ _ Sl2.symm e
    · exact hR h' tk hd' fun c oc c0 c1 c2 c3 c4 e=>k c oc c0 c1 c2 c3 c4 (hs2.extBut c oc c0 (k1 c oc c1 c2 c3 c4 e))
theorem dP {κ μ:Bool} {s:Shared} {z TI TO i1 i2 l1 l2:Addr} {xs ys:Array Value} {prs:List (Key×Value)} {Q:Value→Shared→Prop} (hh:A.handled=none) (D:ZipApart z TI TO i1 i2 l1 l2) (hz:IsZip s.heap z TI TO .none) (hTI:IsPair s.heap TI (.ref i1) (.ref i2)) (hTO:IsPair s.heap TO .none .none)
    (h1:kK s.heap i1 l1 0 κ) (h2:kK s.heap i2 l2 0 μ) (hl1:kT s.heap l1 xs κ) (hl2:kT s.heap l2 ys μ) (hln:prs.length≤sizeLine)
    (ht:∀ (j:Nat) (q:Key×Value),prs[j]? = some q→∃ u:Value,xs[j]? = some u∧ys[j]? = some q.2∧xU q.1 u=true) (hend:xs[prs.length]? = none∨ys[prs.length]? = none)
    (h:∀ h' tk,h'.DictOf (j5 prog w) s.heap.objs.size (merged [] prs)→(∀ b o,b≠z→b≠TO→b≠i1→b≠i2→s.heap.get? b=some o→h'.get? b=some o)→Q (.ref s.heap.objs.size) { s with heap:=h',toks:=tk }) :
    wpAny (model prog w) A (call (.type "dict") [.ref z]) Q E s:=by
  refine callType_codes (Q₁:=fun obj s₁=>obj=.ref s.heap.objs.size∧s₁={ s with heap:=s.heap.push { cls:=.type "dict",data:=.dict #[] } }) PySem.F.kt_called_dict (PySem.F.kt_typeCall_dict_1 _) PySem.F.entry_dict_init (kt_code_dict_new _ ⟨rfl,rfl⟩) ?_
  rintro obj s₁ ⟨rfl,rfl⟩
  have hnew:(s.heap.push { cls:=.type "dict",data:=.dict #[] }).DictOf (j5 prog w) s.heap.objs.size []:=Heap.DictOf.new s.heap
  have k0:∀ b o,s.heap.get? b=some o→(s.heap.push { cls:=.type "dict",data:=.dict #[] }).get? b=some o:=fun b o e=>Heap.get?_push_of_some _ e
  refine ⟨hnew.typeIs,PySem.F.args_dict_init_2 _ _,?_⟩
  unfold Builtin.«dict.__init__»
  refine wpAny_bind ?_
  unfold Builtin.Dict.selfAndRest
  refine wpAny_bind (wpAny_notOrdered_dict hnew.typeIs ?_)
  show wpAny _ _ (pure (s.heap.objs.size,[Value.ref z])) _ _ _
  refine wpAny_pure ?_
  show wpAny _ _ (Builtin.Dict.updateFrom "dict.__init__" s.heap.objs.size (.ref z) [] .none) _ _ _
  unfold Builtin.Dict.updateFrom
  refine wpAny_bind (wpAny_typeOf (T:="zip") ⟨_,k0 _ _ hz,rfl⟩ ?_)
  rw [if_pos (by first | decide | rfl | simp)]
  refine wpAny_bind (jj2 (k0 _ _ hz) hh fun g1 tk1 hk1=>?_)
  rw [if_pos (show (none:Option Value).isNone=true from rfl)]
  refine wpAny_bind (wpAny_rule ?_)
  have k1:∀ b o,s.heap.get? b=some o→g1.get? b=some o:=fun b o e=>hk1 _ _ (k0 _ _ e)
  refine wpAny_bind (wpAny_pyIter_zip (k1 _ _ hz) ?_)
  have lt:∀ {c o},s.heap.get? c=some o→s.heap.objs.size≠c:=fun e=>Nat.ne_of_gt (Heap.lt_size e)
  have li1:s.heap.objs.size≠i1:=by obtain ⟨_,e,_⟩:=h1.obj;exact lt e
  have li2:s.heap.objs.size≠i2:=by obtain ⟨_,e,_⟩:=h2.obj;exact lt e
  have key:=r8 (prog:=prog) (w:=w) (A:=A.in1) (R:=wants (fun r s₂=>r=.none∧Q (.ref s.heap.objs.size) s₂) E) (S:=s.heap.objs.size) (κ:=κ) (μ:=μ) (xs:=xs) (ys:=ys) (res:=Value.none) hh D (lt hz) (lt hTI) (lt hTO) li1 li2 (Nat.ne_of_gt hl1.lt) (Nat.ne_of_gt hl2.lt) prs 0 [] 0 0
    { s with heap:=g1,toks:=tk1 } (by rw [List.length_nil,Nat.zero_add];exact hln) (fun j q e=>by rw [Nat.zero_add];exact ht j q e) (by rw [Nat.zero_add];exact hend) (.inl (k1 _ _ hz)) (k1 _ _ hTI) ⟨_,_,k1 _ _ hTO⟩ (h1.at fun o e=>k1 _ _ e) (h2.at fun o e=>k1 _ _ e)
    (by
      cases κ
      · exact Heap.IsTuple.at hl1 fun o e=>k1 _ _ e
      · exact Heap.IsList.at hl1 fun o e=>k1 _ _ e)
    (by
      cases μ
      · exact Heap.IsTuple.at hl2 fun o e=>k1 _ _ e
      · exact Heap.IsList.at hl2 fun o e=>k1 _ _ e) (hnew.at fun o e=>hk1 _ _ e)
    (fun h' tk hd' k=>⟨rfl,h h' tk hd' fun b o b1 b2 b3 b4 e=>k b o (lt e).symm b1 b2 b3 b4 (k1 _ _ e)⟩)
  first
    | exact wpAny_pure ⟨plainId_quiet qA _,key⟩
    | exact wpAny_bind (wpAny_pure (wpAny_pure ⟨plainId_quiet qA _,key⟩))
end
section
variable {X:Cx}
theorem oS:bootBuiltins "dict"=some (.type "dict"):=by decide +kernel
theorem pJ (X:Cx):∀ {ks:List Key} {us:List Value},kG (ks.map kV) us→∀ (j:Nat) (k:Key),ks[j]? = some k→∃ u,us[j]? = some u∧xU k u=true
  | [],_,_,j,k,e=>by simp at e
  | k0 :: ks,us,r,j,k,e=>by
    rw [List.map_cons] at r
    cases r with
    | cons h t =>
      cases j with
      | zero =>
        have e':k0=k:=by simpa using e
        subst e'
        exact ⟨_,rfl,tR (P:=X.prog) (w:=X.w) h⟩
      | succ j =>
        obtain ⟨u,hu,hk⟩:=pJ X t j k (by simpa using e)
        exact ⟨u,by simpa using hu,hk⟩
def uR (K:W.Frag) (κ μ:Bool) (ta:TA):TE:=fun σ H Q=>ta σ H fun vs H1=>∃ (a b:Addr) (ks:List Key) (ys:List V),vs=[.ref a,.ref b]∧SqA K H1 a (ks.map kV) κ∧SqA K H1 b ys μ∧∀ p,H1 p=none→Q (.ref p) (upd H1 p (.dK (uS [] (ks.zip ys))))
theorem t8 (κ μ:Bool) {e e2:Expr} {ta:TA} {p p2 pos pos2:Pos} (hc:X.calm=true) (hg0:Gl X "dict") (hm0:X.mg "dict"=none) (hg:Gl X "zip") (hm:X.mg "zip"=none) (ha:PA X [e,e2] ta)
    (h0:starEach [.Call (.Name "zip" p2) [e,e2] [] pos2] X.env=[(false,eval (.Call (.Name "zip" p2) [e,e2] [] pos2) X.env)]:=by rfl)
    (hs:starEach [e,e2] X.env=(false,eval e X.env) :: starEach [e2] X.env:=by rfl) (hpl:(backTo pos2 (starEach [e2] X.env)).any (·.1)=false:=by rfl) :
    PE X (.Call (.Name "dict" p) [.Call (.Name "zip" p2) [e,e2] [] pos2] [] pos) (uR X.K κ μ ta):=by
  intro pins s σ H Q I h
  refine Call_ (wS I hg0 hm0 oS (PyProof.Rows.callWith_type1 ?_ h0 rfl))
  rw [h0]
  refine Calls.spliced_cons ?_
  refine Call_ (wS I hg hm cJ (PyProof.Rows.callWith_type1 (thn (ha pos2 pins s σ H _ I h) fun us s1 ⟨vs,H1,I1,r1,q1⟩=>?_) hs hpl))
  obtain ⟨a,b,ks,ys,ex,hqx,hqy,q⟩:=q1
  subst ex
  cases r1 with
  | cons r rr =>
    cases rr with
    | cons r' rr =>
      cases rr
      cases r
      cases r'
      obtain ⟨its,rv,p1,z1⟩:=I1.seqA hqx
      obtain ⟨its2,rv2,p2,z2⟩:=I1.seqA hqy
      have la:a < s1.heap.objs.size:=p1.lt
      have lb:b < s1.heap.objs.size:=p2.lt
      refine cZ p1 p2 fun h' hz hTI hTO h1 h2 hsz hk=>?_
      refine Calls.spliced_nil ?_
      have I2:Inv X pins σ H1 { s1 with heap:=h' }:=I1.kept (t':=s1.toks) hk
      have D:=W.ktu_apart s1.heap.objs.size a b la lb
      obtain ⟨itA,rvA,pA,zA⟩:=I2.seqA hqx
      obtain ⟨itB,rvB,pB,zB⟩:=I2.seqA hqy
      have lA:=rvA.length
      have lB:=rvB.length
      rw [List.length_map] at lA
      have fp:∀ c,s1.heap.objs.size≤c→qJ X pins H1 c:=fun c hc=>I1.fpOk hc (I1.hok.fresh hc)
      obtain ⟨prs,hprs⟩:∃ prs:List (Key×Value),prs=ks.zip itB:=⟨_,rfl⟩
      have rel:KV (ks.zip ys) prs:=by
        rw [hprs]
        clear hprs hqx hqy q rv rv2 p1 p2 z1 z2 pA pB zA zB rvA lA lB
        induction ks generalizing ys itB with
        | nil=>exact .nil
        | cons k ks ih =>
          cases rvB with
          | nil=>exact .nil
          | cons hx t=>exact .cons ⟨rfl,hx⟩ (ih _ _ t)
      refine dP (prs:=prs) (A:=X.A) (I.ok.hd hc) D hz hTI hTO h1 h2 pA pB ?_ (fun j w e=>?_) ?_ fun h'' tk hd' kk=>?_
      · rw [hprs,List.length_zip]
        exact Nat.le_trans (Nat.min_le_right _ _) (by rw [← lB];exact z2)
      · rw [hprs,List.getElem?_zip_eq_some] at e
        obtain ⟨u,hu,hk'⟩:=pJ X rvA j w.1 e.1
        exact ⟨u,by simpa using hu,by simpa using e.2,hk'⟩
      · rw [hprs,List.length_zip]
        rcases Nat.le_total ks.length itB.length with hle | hle
        · refine .inl ?_
          rw [Nat.min_eq_left hle]
          simp
          omega
        · refine .inr ?_
          rw [Nat.min_eq_right hle]
          simp
      · have hm':(h'.objs.size == sysModules)=false:=beq_eq_false_iff_ne.mpr (Nat.ne_of_gt I2.big)
        have hlen:(uS [] (ks.zip ys)).length≤sizeLine:=by
          refine Nat.le_trans (qX _ []) ?_
          rw [List.length_nil,Nat.zero_add,List.length_zip]
          exact Nat.le_trans (Nat.min_le_right _ _) z2
        have hin:∀ c∈[s1.heap.objs.size+4,s1.heap.objs.size+3,s1.heap.objs.size,s1.heap.objs.size+1],s1.heap.objs.size≤c:=fun c hc=>by
          have e':c=s1.heap.objs.size+4∨c=s1.heap.objs.size+3∨c=s1.heap.objs.size∨c=s1.heap.objs.size+1:=by simpa using hc
          rcases e' with z | z | z | z <;> rw [z] <;> first | exact Nat.le_add_right _ _ | exact Nat.le_refl _
        refine ⟨.ref h'.objs.size,upd H1 h'.objs.size (.dK (uS [] (ks.zip ys))),I2.turnedNew (t':=tk) (ch:=[s1.heap.objs.size+4,s1.heap.objs.size+3,s1.heap.objs.size,s1.heap.objs.size+1]) (fun c o hc e=>kk c o (fun z=>hc (by simp [z])) (fun z=>hc (by simp [z])) (fun z=>hc (by simp [z])) (fun z=>hc (by simp [z])) e) (fun c hc=>fp c (hin c hc)) (Nat.le_refl _) (show kS X.prog X.w _ _ _ (.dK (uS [] (ks.zip ys))) from ⟨hlen,hm',merged [] prs,KV.merge rel .nil,hd'⟩),rfl,q _ (I2.hok.fresh (Nat.le_refl _))⟩
end
section
variable {prog:Program} {w:World} {A:Around} {E:Value→Shared→Prop} {s:Shared}
theorem cS (d:Addr) (hd:(d == sysModules)=false) :
    MeetsIn prog w (Builtin.«dict.items» ⟨[.ref d],[]⟩) (fun _ R s=>s.TypeIs (.ref d) "dict" ∧
      R (.ok (.ret (.ref s.heap.objs.size))) { s with heap:=s.heap.push { cls:=.type "dict_items",data:=.fields #[.ref d] } }) :=
  .of_wp fun A R s ⟨hm,h⟩=>by
    unfold Builtin.«dict.items»
    refine wpAny_bind ?_
    unfold Builtin.Dict.noArgs
    refine wpAny_bind (wpAny_notOrdered_dict hm ?_)
    show wpAny _ _ (pure d) _ _ s
    refine wpAny_pure ?_
    show wpAny _ _ (Builtin.Dict.showsAll d >>= _) _ _ s
    unfold Builtin.Dict.showsAll
    rw [if_neg (by rw [hd];exact Bool.false_ne_true)]
    refine wpAny_bind (wpAny_pure ?_)
    exact wpAny_bind (wpAny_newObj_type (wpAny_pure ⟨_,rfl,h⟩))
theorem p5 {v d:Addr} {od:Obj} {es:Array DictEntry} {ep n:Nat} {Q:Value→Shared→Prop} (hv:s.heap.IsItemsView v d) (ho:s.heap.get? d=some od) (hdat:od.data=.dict es ep) (hsz:es.size=n)
    (hQ:Q (.ref s.heap.objs.size) { s with heap:=s.heap.push { cls:=.type "dict_itemiterator",data:=.fields #[.none,.bool false,.ref d,.int 0 0,.int n 0,.int ep 0,.none,.none] } }) :
    wpAny (model prog w) A (pyIter (.ref v)) Q E s:=by
  obtain ⟨ov,hov,hcv,hdv⟩:=id hv
  refine wpAny_pyIter_slot hv.typeIs F.slot_dict_items_iter (wpAny_call_entry F.slot_dict_items_iter hv.typeIs F.entry_dict_items_iter ?_ (F.args_dict_items_iter_1 _))
  unfold Builtin.«dict_items.__iter__»
  refine wpAny_bind (wpAny_pure ?_)
  refine wpAny_bind ?_
  unfold Builtin.Dict_items.dictOf
  refine wpAny_bind (wpAny_field hov hdv (x:=.ref d) rfl (wpAny_pure ?_))
  refine wpAny_bind ?_
  unfold Builtin.Dict_items.newIterator
  refine wpAny_bind (wpAny_dictEntries ho hdat ?_)
  refine wpAny_bind (wpAny_dictEpoch ho hdat ?_)
  have hown:Builtin.Dict_items.ownsTuple "dict_itemiterator"=true:=by decide
  simp only [hown,if_true]
  refine wpAny_newObj_type (wpAny_pure ⟨_,rfl,"dict_itemiterator",_,⟨_,Heap.get?_push_size _ rfl,rfl⟩,F.slot_dict_itemiterator_next.lookup,?_⟩)
    (by simp only [sizeOk,Builtin.Dict_items.ownedTupleFields,List.size_toArray,List.length_append,List.length_cons,List.length_nil,sizeLine_eq];omega)
  simpa [rawInt,hsz,Builtin.Dict_items.ownedTupleFields] using hQ
theorem tI {it d:Addr} {i n ep:Nat} {od:Obj} {es:Array DictEntry} {en:DictEntry} {ok ov:Value} {Q:Option Value→Shared→Prop} (hit:IsItemIter s.heap it d i n ep ok ov)
    (hod:s.heap.get? d=some od) (hdd:od.data=.dict es ep) (hsz:es.size=n) (hx:es[i]? = some en)
    (hQ:∀ h',IsItemIterOut h' it d (i+1) n ep en.key en.val s.heap.objs.size →
      h'.get? s.heap.objs.size=some { cls:=.type "tuple",data:=.seq #[en.key,en.val] }→h'.objs.size=s.heap.objs.size+1 →
      (∀ b o,b≠it→s.heap.get? b=some o→h'.get? b=some o)→Q (some (.ref s.heap.objs.size)) { s with heap:=h' }) :
    wpAny (model prog w) A (pyNext (.ref it)) Q E s:=by
  obtain ⟨hp,g,dr,tk,os⟩:=s
  have hT:Shared.TypeIs ⟨hp,g,dr,tk,os⟩ (.ref it) "dict_itemiterator":=⟨_,hit,rfl⟩
  obtain ⟨hlt',hen⟩:=Array.getElem?_eq_some_iff.mp hx
  unfold pyNext
  refine wpAny_bind (wpAny_attempt (wpAny_callSpecial?_slot (name:=Str.ofString "__next__") hT F.slot_dict_itemiterator_next
    (wpAny_call_entry F.slot_dict_itemiterator_next hT F.entry_dict_itemiterator_next ?_ (F.args_dict_itemiterator_next_1 _))))
  refine wpAny_bind (wpAny_pure ?_)
  refine wpAny_bind ?_
  refine wpAny_bind ?_
  first | refine wpAny_bind (wpAny_typeNameOfWhole_itemiter hT (wpAny_pure ?_)) | refine wpAny_bind (wpAny_typeNameOf_itemiter hT (wpAny_pure ?_))
  refine wpAny_bind (wpAny_fieldsOf hit rfl ?_)
  have hown:Builtin.Dict_items.ownsTuple "dict_itemiterator"=true:=by decide
  simp only [hown,if_true]
  show wpAny _ _ (if (Value.ref d == Value.none)=true then _ else _) _ _ _
  rw [if_neg (show ¬ ((Value.ref d == Value.none)=true) from Bool.false_ne_true)]
  refine wpAny_bind (wpAny_pure ?_)
  refine wpAny_bind (wpAny_dictEntries hod hdd ?_)
  rw [if_neg (by rw [hsz];simp)]
  refine wpAny_bind (wpAny_pure ?_)
  refine wpAny_bind (wpAny_dictEpoch hod hdd ?_)
  rw [if_neg (by simp)]
  refine wpAny_pure ?_
  simp only [show ¬ ((i:Int) < 0) from by omega,if_false,Int.toNat_natCast,Array.getElem?_eq_getElem hlt',hen]
  refine wpAny_bind ?_
  first | refine wpAny_bind (wpAny_typeNameOfWhole_itemiter hT (wpAny_pure ?_)) | refine wpAny_bind (wpAny_typeNameOf_itemiter hT (wpAny_pure ?_))
  refine wpAny_bind (wpAny_isOneOf_itemiter hT ?_)
  show wpAny _ _ (setField (.ref it) 3 (rawInt ((i:Int)+1)) >>= _) _ _ ⟨hp,g,dr,tk,os⟩
  refine wpAny_bind (wpAny_setField_rec hit (by simp) fun h₁ he₁ hs₁=>?_)
  replace hs₁:Heap.SameBut it hp h₁:=hs₁
  replace he₁:IsItemIter h₁ it d (i+1) n ep ok ov:=by
    have e:((i+1:Nat):Int)=(i:Int)+1:=by omega
    unfold IsItemIter;rw [e];simpa [rawInt] using he₁
  have hT₁:Shared.TypeIs ⟨h₁,g,dr,tk,os⟩ (.ref it) "dict_itemiterator":=⟨_,he₁,rfl⟩
  refine wpAny_bind (wpAny_holding ?_)
  refine wpAny_bind (wpAny_isOneOf_itemiter hT₁ ?_)
  refine wpAny_bind (wpAny_isOneOf_itemiter hT₁ ?_)
  show wpAny _ _ (Builtin.Dict_items.pairFromOwner (.ref it) 6 en.key en.val) _ _ ⟨h₁,g,dr,tk,os⟩
  unfold Builtin.Dict_items.pairFromOwner
  refine wpAny_bind (wpAny_newTuple ?_)
  have he₂:IsItemIter (h₁.push { cls:=.type "tuple",data:=.seq #[en.key,en.val] }) it d (i+1) n ep ok ov:=Heap.get?_push_of_some _ he₁
  generalize hh₂:h₁.push { cls:=.type "tuple",data:=.seq #[en.key,en.val] }=h₂ at he₂
  have hz₁:h₁.objs.size=hp.objs.size:=hs₁.1
  have hil:it < hp.objs.size:=Heap.lt_size hit
  have ht₂:h₂.get? hp.objs.size=some { cls:=.type "tuple",data:=.seq #[en.key,en.val] }:=by rw [← hh₂,← hz₁];exact Heap.get?_push_size _ rfl
  have hz₂:h₂.objs.size=hp.objs.size+1:=by rw [← hh₂,Heap.size_push,hz₁]
  have hk₂:∀ b o,b≠it→hp.get? b=some o→h₂.get? b=some o:=fun b o hb e=>by rw [← hh₂];exact Heap.get?_push_of_some _ (hs₁.extBut b o hb e)
  show wpAny _ _ (Builtin.Dict_items.ownedTupleIsFree (.ref it) >>= _) _ _ ⟨h₂,g,dr,tk,os⟩
  rw [hz₁]
  clear hh₂ he₁ hs₁ hT₁ hz₁ h₁
  refine wpAny_bind ?_
  unfold Builtin.Dict_items.ownedTupleIsFree
  refine wpAny_bind (wpAny_field he₂ rfl (x:=.none) rfl (wpAny_pure ?_))
  simp only [if_true]
  refine wpAny_bind (wpAny_field he₂ rfl (x:=ok) rfl ?_)
  refine wpAny_bind (wpAny_field he₂ rfl (x:=ov) rfl ?_)
  refine wpAny_bind (wpAny_setField_rec he₂ (by simp) fun h₃ he₃ hs₃=>?_)
  replace hs₃:Heap.SameBut it h₂ h₃:=hs₃
  replace he₃:IsItemIter h₃ it d (i+1) n ep en.key ov:=he₃
  refine wpAny_bind (wpAny_setField_rec he₃ (by simp) fun h₄ he₄ hs₄=>?_)
  replace hs₄:Heap.SameBut it h₃ h₄:=hs₄
  replace he₄:IsItemIter h₄ it d (i+1) n ep en.key en.val:=he₄
  refine wpAny_bind (wpAny_setField_rec he₄ (by simp) fun h₅ he₅ hs₅=>?_)
  replace hs₅:Heap.SameBut it h₄ h₅:=hs₅
  replace he₅:IsItemIterOut h₅ it d (i+1) n ep en.key en.val hp.objs.size:=he₅
  refine wpAny_bind (wpAny_setField_rec he₅ (by simp) fun h₆ he₆ hs₆=>?_)
  replace hs₆:Heap.SameBut it h₅ h₆:=hs₆
  replace he₆:IsItemIterOut h₆ it d (i+1) n ep en.key en.val hp.objs.size:=he₆
  refine wpAny_bind (wpAny_letGo (wpAny_pure (wpAny_pure ⟨_,rfl,wpAny_pure (hQ h₆ he₆ ?_ ?_ ?_)⟩)))
  · exact hs₆.extBut _ _ (Nat.ne_of_gt hil) (hs₅.extBut _ _ (Nat.ne_of_gt hil) (hs₄.extBut _ _ (Nat.ne_of_gt hil) (hs₃.extBut _ _ (Nat.ne_of_gt hil) ht₂)))
  · show h₆.objs.size=hp.objs.size+1
    rw [hs₆.1,hs₅.1,hs₄.1,hs₃.1,hz₂]
  · exact fun b o hb e=>hs₆.extBut b o hb (hs₅.extBut b o hb (hs₄.extBut b o hb (hs₃.extBut b o hb (hk₂ b o hb e))))
theorem aR {it d:Addr} {i n ep:Nat} {od:Obj} {es:Array DictEntry} {ok ov:Value} {Q:Option Value→Shared→Prop} (hh:A.handled=none) (hit:IsItemIter s.heap it d i n ep ok ov)
    (hod:s.heap.get? d=some od) (hdd:od.data=.dict es ep) (hsz:es.size=n) (hge:n≤i) (hQ:∀ h',Heap.ExtBut it s.heap h'→Q none { s with heap:=h' }):wpAny (model prog w) A (pyNext (.ref it)) Q E s:=by
  have hT:s.TypeIs (.ref it) "dict_itemiterator":=⟨_,hit,rfl⟩
  unfold pyNext
  refine wpAny_bind (wpAny_attempt (wpAny_callSpecial?_slot (name:=Str.ofString "__next__") hT F.slot_dict_itemiterator_next
    (wpAny_call_entry F.slot_dict_itemiterator_next hT F.entry_dict_itemiterator_next ?_ (F.args_dict_itemiterator_next_1 _))))
  refine wpAny_bind (wpAny_pure ?_)
  refine wpAny_bind ?_
  refine wpAny_bind ?_
  first | refine wpAny_bind (wpAny_typeNameOfWhole_itemiter hT (wpAny_pure ?_)) | refine wpAny_bind (wpAny_typeNameOf_itemiter hT (wpAny_pure ?_))
  refine wpAny_bind (wpAny_fieldsOf hit rfl ?_)
  have hown:Builtin.Dict_items.ownsTuple "dict_itemiterator"=true:=by decide
  simp only [hown,if_true]
  show wpAny _ _ (if (Value.ref d == Value.none)=true then _ else _) _ _ s
  rw [if_neg (show ¬ ((Value.ref d == Value.none)=true) from Bool.false_ne_true)]
  refine wpAny_bind (wpAny_pure ?_)
  refine wpAny_bind (wpAny_dictEntries hod hdd ?_)
  rw [if_neg (by rw [hsz];simp)]
  refine wpAny_bind (wpAny_pure ?_)
  refine wpAny_bind (wpAny_dictEpoch hod hdd ?_)
  rw [if_neg (by simp)]
  refine wpAny_pure ?_
  simp only [show ¬ ((i:Int) < 0) from by omega,if_false,Int.toNat_natCast,Array.getElem?_eq_none (show es.size≤i by omega)]
  refine wpAny_bind ?_
  first | refine wpAny_bind (wpAny_typeNameOfWhole_itemiter hT (wpAny_pure ?_)) | refine wpAny_bind (wpAny_typeNameOf_itemiter hT (wpAny_pure ?_))
  show wpAny _ _ (setField (.ref it) 2 .none >>= _) _ _ s
  refine wpAny_bind (wpAny_setField hit rfl (by simp) ?_)
  show wpAny _ _ (newExc (.type "StopIteration") [] >>= _) _ _ _
  refine wpAny_bind ?_
  simp only [newExc,newTuple]
  refine wpAny_bind (wpAny_newObj_type ?_ (by size_fits))
  refine wpAny_bind (m:=firstArgMember _ _) (wpAny_of_eq (a:=Value.none) (by first | rfl | (simp only [firstArgMember];rfl)) ?_)
  refine wpAny_newObj_type ?_ (by size_fits)
  simp only [raiseNew]
  refine wpAny_bind (wpAny_handled ?_)
  rw [show A.in1.handled=none from hh]
  refine wpAny_bind (wpAny_pure (wpAny_throw ?_))
  refine wpAny_bind (wpAny_isInstance (T:="StopIteration") (b:=true) ⟨_,Heap.get?_push_size _ rfl,rfl⟩ isSubtype_stop ?_)
  exact wpAny_pure (hQ _ (((Heap.SameBut.update ..).extBut.push _).push _))
end
theorem Inv.frzTV {X:Cx} {pins:List (Addr×Obj)} {σ:St} {H:Hp} {s:Shared} {d:Addr} {o:Obj} {kvs:List (List Key×V)} (I:Inv X pins σ H s) (h:H d=some (.frz o (.dT kvs))) :
    (d == sysModules)=false∧s.heap.get? d=some o∧o.ExactDict∧∃ (es:Array DictEntry) (ep:Nat),o.data=.dict es ep∧es.size=kvs.length ∧
      ∀ (i:Nat) (k:List Key) (v:V),kvs[i]? = some (k,v)→∃ (en:DictEntry) (q:Addr),es[i]? = some en∧en.key=.ref q∧H q=some (.tup (k.map kV))∧kI v en.val:=by
  obtain ⟨hd,z,hs,xs,pr,o',es,ep,ho,hx,hdt,he,_⟩:=I.hok d _ h
  rw [hd] at ho
  cases ho
  refine ⟨hs,hd,hx,es,ep,hdt,?_,fun i k v e=>?_⟩
  · have l1:es.size=xs.length:=size_of_entries he
    have l2:kvs.length=xs.length:=Paired.length pr
    omega
  · obtain ⟨b,hb,e1,e2,e3⟩:=yH pr e
    have q:=entry_at he i
    rw [hb] at q
    exact ⟨_,b.2.1,q,rfl,e2,e3⟩
def jp8 (d:Addr) (o:Obj) (kvs:List (List Key×V)):It :=
  ⟨fun i H=>H d=some (.frz o (.dT kvs))∧i < kvs.length,fun i H x H'=>∃ (T q:Addr) (k:List Key) (v:V),kvs[i]? = some (k,v)∧x=.ref T∧H q=some (.tup (k.map kV))∧H T=none∧H'=upd H T (.tup [.ref q,v]),fun i H=>H d=some (.frz o (.dT kvs))∧kvs.length≤i⟩
theorem mE {P:Program} {w:World} {K:W.Frag} {d:Addr} {o:Obj} {es:Array DictEntry} {ep:Nat} {kvs:List (List Key×V)} {elts:List Expr} {kk:Nat} {tpos:Pos} (it:Addr) (hod:o.data=.dict es ep) :
    oP P w K (.Tuple elts kk tpos) (jp8 d o kvs) [it] it (fun i h=>∃ ok ov,IsItemIter h it d i kvs.length ep ok ov) where
  mem:=by simp
  obj:=fun i h st b hb=>by
    have e:b=it:=by simpa using hb
    subst e
    obtain ⟨ok,ov,e⟩:=st
    exact ⟨_,e,fun v z=>nomatch z⟩
  keep:=fun i h h' st k=>let ⟨ok,ov,e⟩:=st;⟨ok,ov,k it (by simp) _ e⟩
  item:=by
    intro X hP hw hK hc i pins s σ H E I hf st hg
    subst hP hw hK
    obtain ⟨hd,hi⟩:=hg
    obtain ⟨hs,hgd,hx,es',ep',hdt,hsz,ent⟩:=I.frzTV hd
    obtain ⟨rfl,rfl⟩:=yK hod hdt
    obtain ⟨⟨k,v⟩,hkv⟩:∃ p,kvs[i]? = some p:=⟨kvs[i],List.getElem?_eq_getElem hi⟩
    obtain ⟨en,q,hen,hkey,hq,rv⟩:=ent i k v hkv
    obtain ⟨ok,ov,he⟩:=st
    have hlt:it < s.heap.objs.size:=Heap.lt_size he
    refine tI he hgd hdt hsz hen fun h' ho hT hz hk=>?_
    refine ⟨_,rfl,wpAny_letOwnedTupleGo_items (s:={ s with heap:=h' }) ho fun h'' he' sb=>?_⟩
    have hT2:h''.get? s.heap.objs.size=some { cls:=.type "tuple",data:=.seq #[en.key,en.val] }:=(sb.2 _ (Nat.ne_of_gt hlt)).trans hT
    have new:kS X.prog X.w (upd H s.heap.objs.size (.tup [.ref q,v])) h'' s.heap.objs.size (.tup [.ref q,v]) :=
      ⟨by show 2≤sizeLine;decide,[en.key,en.val],.cons hkey (.cons rv .nil),⟨_,hT2,rfl,_,rfl⟩⟩
    have I1:Inv X pins σ (upd H s.heap.objs.size (.tup [.ref q,v])) { s with heap:=h'' } :=
      I.turnedNew (t':=s.toks) (ch:=[it]) (fun b ob hb e=>(sb.2 b (by simpa using hb)).trans (hk b ob (by simpa using hb) e)) hf (Nat.le_refl _) new
    refine ⟨.ref s.heap.objs.size,_,I1,rfl,⟨_,q,k,v,hkv,rfl,hq,I.hok.fresh (Nat.le_refl _),rfl⟩,⟨_,_,he'⟩,fun b hb=>?_⟩
    have e:b=it:=by simpa using hb
    rw [e,jV (Nat.ne_of_lt hlt)]
    exact (hf it (by simp)).1
  done:=by
    intro X hP hw hK hc i pins s σ H E I hf st hg
    subst hP hw hK
    obtain ⟨hd,hi⟩:=hg
    obtain ⟨f0,f1,f2,f3,f4,f5⟩:=hf it (by simp)
    obtain ⟨hs,hgd,hx,es',ep',hdt,hsz,ent⟩:=I.frzTV hd
    obtain ⟨rfl,rfl⟩:=yK hod hdt
    obtain ⟨ok,ov,he⟩:=st
    exact aR (I.ok.hd hc) he hgd hdt hsz hi fun h' eb=>⟨rfl,I.turned (t':=s.toks) (fun b ob hb e=>eb b ob hb e) f0 f1 f3 f4 f5⟩
  self:=fun A i s Q E st h=>let ⟨_,_,e⟩:=st;W.kcp_self e h
def eJ (td:TE):TI:=fun σ H R=>td σ H fun x H1=>∃ d o kvs,x=.ref d∧H1 d=some (.frz o (.dT kvs))∧R (jp8 d o kvs) H1
theorem iF {X:Cx} {e:Expr} {td:TE} {apos cpos:Pos} {elts:List Expr} {kk:Nat} {tpos:Pos} (he:PE X e td) (hbase:attributeBase e "items" X.env (eval e X.env)=eval e X.env:=by rfl) (hline:(apos.endLine == cpos.line)=true:=by rfl) :
    PI X (.Tuple elts kk tpos) (.Call (.Attribute e "items" apos) [] [] cpos) (eJ td):=by
  intro pins s σ H R I h
  refine wpAny_Call_method (T:="dict") (id:="dict.items") hbase rfl hline F.plainAttrs_dict F.slot_dict_items F.type_dict_items (thn (he pins s σ H _ I h) fun u s1 ⟨x,H1,I1,rx,d,o,kvs,ex,hd,q⟩=>?_)
  subst ex
  obtain rfl:u=Value.ref d:=rx
  obtain ⟨hs,hgd,hx,es,ep,hdt,hsz,ent⟩:=I1.frzTV hd
  have hT:s1.TypeIs (.ref d) "dict":=⟨o,hgd,hx.1⟩
  refine ⟨hT,fun a e=>by cases e;exact ⟨o,hgd,hx.2.1⟩,?_⟩
  have I2:Inv X pins σ H1 { s1 with heap:=s1.heap.push { cls:=.type "dict_items",data:=.fields #[.ref d] } }:=I1.kept (t':=s1.toks) fun b ob q=>Heap.get?_push_of_some _ q
  have fin:wpAny (model X.prog X.w) X.A (pyIter (.ref s1.heap.objs.size)) (PIE X pins σ (.Tuple elts kk tpos) R) X.xe { s1 with heap:=s1.heap.push { cls:=.type "dict_items",data:=.fields #[.ref d] } }:=by
    refine p5 (d:=d) ⟨_,Heap.get?_push_size _ rfl,rfl,rfl⟩ (Heap.get?_push_of_some _ hgd) hdt hsz (sW (tk:=s1.toks) I2 _ (mE _ hdt) ⟨.none,.none,?_⟩ q)
    exact Heap.get?_push_size _ rfl
  show wpAny _ _ (callWith cpos (.builtin "dict.items") [.ref d] [] []) _ X.xe s1
  exact method_meetsIn F.slot_dict_items F.entry_dict_items rfl (PySem.evalArgs_none ⟨rfl,hT,F.args_dict_items_1 _,_,cS d hs,hT,fin⟩)
section
variable {prog:Program} {w:World} {K:Type} [DecidableEq K] {knd:HeapKind prog w K} {A:Around} {E:Value→Shared→Prop} {s:Shared}
theorem gR {d a:Addr} {xs:List (K×Addr×Value)} {k:K} {v:Value} {Q:Value→Shared→Prop} (hu:knd.room A) (hkey:knd.is s.heap k a) (hm:s.heap.DictOfH knd d xs)
    (h1:∀ p,atKey xs k=some p→Q p.2 { s with toks:=s.toks+knd.draws k })
    (h2:atKey xs k=none→∀ h',h'.DictOfH knd d (storedH xs k a v)→Heap.SameBut d s.heap h'→Q v { s with heap:=h',toks:=s.toks+knd.draws k })
    (hsz:xs.length≤sizeLine):wpAny (model prog w) A (dictSetDefault d (.ref a) v) Q E s:=by
  obtain ⟨o,es,ep,ho,hc,hd,he,his,hn⟩:=hm
  unfold dictSetDefault
  try with_reducible refine wpAny_holding ?_
  refine wpAny_bind (knd.pyHash hu hkey ?_)
  refine wpAny_bind (wpAny_dictFind_heap (s:={ s with toks:=s.toks+knd.draws k }) hu hkey ho hd he his hn ?_ ?_)
  · intro hno
    have hnot:k∉xs.map (·.1):=not_mem_keys_of_get hno
    refine wpAny_bind (wpAny_rule (wpAny_bind (wpAny_updateDictKeys (hz:=by have e:=size_of_entries he;omega) (s:={ s with toks:=s.toks+knd.draws k }) ho hd (wpAny_pure (h2 (atKey_none_of_get hno) _ ⟨_,_,ep+1,Heap.get?_update_self _ ho (Obj.isFreed_of_dict (Obj.data_mapDictKeys hd _)),
      hc.mapDictKeys _,Obj.data_mapDictKeys hd _,?_,?_,?_⟩ (Heap.SameBut.update ..))))))
    · rw [storedH_new (atKey_none_of_get hno)]
      simp [he,entryOfKey]
    · rw [storedH_new (atKey_none_of_get hno)]
      intro x hx
      rcases List.mem_append.mp hx with hx | hx
      · exact knd.keeps (his x hx) ho hd (Heap.SameBut.update ..)
      · simp only [List.mem_singleton] at hx
        subst hx
        exact knd.keeps hkey ho hd (Heap.SameBut.update ..)
    · rw [storedH_new (atKey_none_of_get hno)]
      rw [List.map_append,List.nodup_append]
      refine ⟨hn,by simp,?_⟩
      intro x hx y hy
      simp only [List.map_cons,List.map_nil,List.mem_singleton] at hy
      subst hy
      exact fun e=>hnot (e ▸ hx)
  · intro j p hj
    refine wpAny_bind (wpAny_dictEntries (s:={ s with toks:=s.toks+knd.draws k }) ho hd ?_)
    rw [entry_at he j,hj]
    exact wpAny_bind (wpAny_rule (wpAny_pure (h1 p (atKey_of_get hn hj))))
theorem yX {a:Addr} {k:K} (d:Addr) (hd:(d == sysModules)=false) (dflt:Value) :
    MeetsIn prog w (Builtin.«dict.setdefault» ⟨[.ref d,.ref a,dflt],[]⟩) (fun A R s=>knd.room A.in1∧∃ xs,knd.is s.heap k a∧s.heap.DictOfH knd d xs∧xs.length≤sizeLine ∧
      (∀ p,atKey xs k=some p→R (.ok (.ret p.2)) { s with toks:=s.toks+knd.draws k }) ∧
      (atKey xs k=none→∀ h',h'.DictOfH knd d (storedH xs k a dflt)→Heap.SameBut d s.heap h'→R (.ok (.ret dflt)) { s with heap:=h',toks:=s.toks+knd.draws k })) :=
  .of_wp fun A R s ⟨hu,xs,hkey,hm,hz,h1,h2⟩=>by
    unfold Builtin.«dict.setdefault»
    refine wpAny_bind ?_
    unfold Builtin.Dict.keyAndDefault
    refine wpAny_bind (wpAny_notOrdered_dict hm.typeIs ?_)
    show wpAny _ _ (pure (d,Value.ref a,some dflt)) _ _ s
    refine wpAny_pure ?_
    show wpAny _ _ (if (d == sysModules)=true then _ else (dictSetDefault d (.ref a) dflt >>= _)) _ _ s
    rw [if_neg (by rw [hd];exact Bool.false_ne_true)]
    exact wpAny_bind (gR hu hkey hm (fun p hp=>wpAny_pure ⟨p.2,rfl,h1 p hp⟩) (fun hn h' hm' hs'=>wpAny_pure ⟨dflt,rfl,h2 hn h' hm' hs'⟩) hz)
end
def oJ (td ty tx:TE):TE:=fun σ H Q=>td σ H fun x H1=>∃ a,x=.ref a∧IsD H1 a∧ty σ H1 fun y H2=>tx σ H2 fun z H3=>∃ (kvs:List (List Key×V)) (k:List Key) (b:Addr),H3 a=some (.dT kvs)∧y=.ref b∧H3 b=some (.tup (k.map kV))∧kvs.length < sizeLine ∧
  (∀ v,z9 kvs k=some v→Q v H3)∧(z9 kvs k=none→Q z (upd H3 a (.dT (wL kvs k z))))
theorem rX {X:Cx} {o e f:Expr} {td ty tx:TE} {apos cpos:Pos} (hu:X.A.units+1 < cLine) (ho:PE X o td) (he:PE X e ty) (hf:PE X f tx) (m:M2 X o "setdefault" apos e f cpos):PE X (.Call (.Attribute o "setdefault" apos) [e,f] [] cpos) (oJ td ty tx):=by
  intro pins s σ H Q I h
  refine wpAny_Call_method m.base m.few m.line PySem.F.plainAttrs_dict PySem.F.slot_dict_setdefault PySem.F.type_dict_setdefault (thn (ho pins s σ H _ I h) fun u s1 ⟨x,H1,I1,rx,a,ex,d,q1⟩=>?_)
  subst ex
  obtain rfl:u=Value.ref a:=rx
  obtain ⟨t1,t2,_⟩:=jh0 I1 d
  refine ⟨t1,t2,?_⟩
  rw [m.trees]
  refine Calls.callWith_builtin rfl (Calls.evalArgs_plain (Calls.spliced_cons (thn (he pins s1 σ H1 _ I1 q1) fun iv s2 ⟨y,H2,I2,ry,q2⟩ =>
    Calls.spliced_cons (thn (hf pins s2 σ H2 _ I2 q2) fun fv s3 ⟨z,H3,I3,rz,kvs,k,b,ea,ey,eb,hl,qs,qn⟩=>Calls.spliced_nil ?_))))
  subst ey
  cases (show iv=Value.ref b from ry)
  obtain ⟨zz,hd,xs,rel,dd⟩:=jw3 I3.hok ea
  have hz:xs.length≤sizeLine:=by rw [← Paired.length rel];exact zz
  refine call_meetsIn PySem.F.slot_dict_setdefault dd.typeIs PySem.F.entry_dict_setdefault (PySem.F.args_dict_setdefault_3 _ _ _) (yX (knd:=tupleKind (j5 X.prog X.w)) (k:=k) a hd fv) ⟨tupleKind_room_in1 hu,xs,x5 I3.hok eb,dd,hz,fun p hp=>?_,fun hn h' dd' hs=>?_⟩
  · have r:=rel.val k
    rw [hp] at r
    cases e:z9 kvs k with
    | none=>rw [e] at r;exact r.elim
    | some v =>
      rw [e] at r
      exact ⟨v,H3,I3.tok _,r,qs v e⟩
  · have r:=rel.val k
    rw [hn] at r
    cases e:z9 kvs k with
    | some v=>rw [e] at r;exact r.elim
    | none =>
      obtain ⟨q,es,ep,hq,h2,h3,h4,_,h5⟩:=dd'
      have hl2:(wL kvs k z).length≤sizeLine:=by have:=vJ kvs k z;omega
      refine ⟨z,upd H3 a (.dT (wL kvs k z)),dN I3 (by rw [ea];exact True.intro) hs ⟨q,hq⟩ ⟨hl2,hd,_,(rel.put k eb rz).keeps fun c ys ec=>?_,q,es,ep,hq,h2,h3,h4,h5⟩,rz,qn e⟩
      rw [jV (j1 ec ea (fun z=>nomatch z))]
      exact ec
section
variable {prog:Program} {w:World} {A:Around}
theorem m6 (hh:A.handled=none) (I d:Addr) (hne:d≠I) (od:Obj) (es:Array DictEntry) (ep:Nat) (hdd:od.data=.dict es ep) :
    Walks prog w A I [I,d] [I] es.size (fun i v=>∃ en,es[i]? = some en∧v=en.key) (fun i h=>h.IsKeyIter I d i es.size ep∧h.get? d=some od) where
  sub:=fun b hb=>by simp at hb;simp [hb]
  frame:=fun _ _ _ st hk=>⟨st.1.at fun o e=>hk I (by simp) o e,hk d (by simp) _ st.2⟩
  item:=fun i s Q E hi st hQ=>by
    refine qH st.1 st.2 hdd rfl (en:=es[i]) (by simp [hi]) fun h' hit' hs'=>?_
    exact hQ _ h' s.toks ⟨es[i],by simp [hi],rfl⟩ ⟨hit',hs'.extBut _ _ hne st.2⟩ fun b o hb e=>hs'.extBut b o (fun h=>hb (by simp [h])) e
  done:=fun s Q E st hQ=>uV hh st.1 st.2 hdd rfl (Nat.le_refl _) fun h' he'=>hQ h' s.toks fun b o hb e=>he' b o (fun h=>hb (by simp [h])) e
  self:=fun A i s Q st h=>by
    refine wpAny_pyIter_slot st.1.typeIs F.slot_dict_keyiterator_iter (wpAny_call_entry F.slot_dict_keyiterator_iter st.1.typeIs F.entry_dict_keyiterator_iter ?_ (F.args_dict_keyiterator_iter_1 _))
    show wpAny _ _ (ret (.ref I)) _ _ _
    exact wpAny_pure ⟨_,rfl,"dict_keyiterator",_,st.1.typeIs,F.slot_dict_keyiterator_next.lookup,h⟩
theorem i5 {d:Addr} {od:Obj} {es:Array DictEntry} {ep:Nat} (lo:(d == sysModules)=false) (hx:od.ExactDict) (hdd:od.data=.dict es ep) :
    W.KdlSrc prog w "dict" d d es.size (fun i v=>∃ en,es[i]? = some en∧v=en.key) (fun h=>h.get? d=some od) where
  type:=fun _ hm=>⟨od,hm,hx.1⟩
  there:=fun _ hm=>⟨Heap.lt_size hm,Heap.lt_size hm⟩
  keep:=fun _ _ hm hk=>hk d (.inl rfl) _ hm
  notList:=by decide
  notTuple:=by decide
  hint:=fun _ _ _ _ hm hq=>W.kdl_hint_dict ⟨od,hm,hx.1⟩ hq
  iter:=fun _ _ hh hm=>⟨_,_,(fun _ _ hq=>xO lo hm hx hdd hq),m6 hh _ d (Nat.ne_of_lt (Heap.lt_size hm)) od es ep hdd,⟨⟨_,Heap.get?_push_size _ rfl,rfl,rfl⟩,Heap.get?_push_of_some _ hm⟩⟩
end
section
variable {X:Cx}
theorem xM (hc:X.calm=true):uU X (.type "list") (fun xs H Q=>∃ (d:Addr) (kvs:List (List Key×V)),xs=[.ref d]∧Rd H d (.dT kvs) ∧
    ∀ (l:Addr) (qs:List Addr),H l=none→qs.length=kvs.length→(∀ (i:Nat) (k:List Key) (v:V),kvs[i]? = some (k,v)→∃ q,qs[i]? = some q∧H q=some (.tup (k.map kV)))→Q (.ref l) (upd H l (.lst (qs.map V.ref)))):=by
  intro pins s σ H xs us Q I r h
  obtain ⟨d,kvs,rfl,hR,q⟩:=h
  obtain ⟨u,rfl,rx⟩:=oX r
  cases rx
  obtain ⟨z,lo,xs,rel,o,es,ep,ho,hx,hdt,he,_⟩:=(show kS X.prog X.w H s.heap d (.dT kvs) from hR.ok I.hok)
  have l1:es.size=xs.length:=size_of_entries he
  have l2:kvs.length=xs.length:=Paired.length rel
  refine W.kdl_call (i5 lo hx hdt) (I.ok.hd hc) ho (by omega) fun h' tk acc' c' hk hS hacc=>?_
  have ea:acc'=((xs.map (·.2.1)).map Value.ref).toArray:=by
    apply Array.ext_getElem?
    intro i
    by_cases hi:i < es.size
    · obtain ⟨v,hv⟩:∃ v,acc'[i]? = some v:=⟨_,Array.getElem?_eq_getElem (by rw [hacc.1];exact hi)⟩
      obtain ⟨en,hen,rfl⟩:=hacc.2 i v hv
      rw [hv]
      have e1:=entry_at he i
      rw [hen] at e1
      cases e2:xs[i]? with
      | none=>rw [e2] at e1;cases e1
      | some p =>
        rw [e2] at e1
        cases e1
        simp [e2,entryOfKey]
    · rw [Array.getElem?_eq_none (by rw [hacc.1];omega),Array.getElem?_eq_none (by simp;omega)]
  have hz:((xs.map (·.2.1)).map V.ref).length≤sizeLine:=by rw [List.length_map,List.length_map];omega
  have rr:∀ l:List Addr,kG (l.map V.ref) (l.map Value.ref):=fun l=>by
    induction l with
    | nil=>exact .nil
    | cons a l ih=>exact .cons rfl ih
  refine ⟨.ref s.heap.objs.size,_,I.laid (a:=s.heap.objs.size) (o:=.lst ((xs.map (·.2.1)).map V.ref)) (t':=tk) hk (Nat.le_refl _) ⟨hz,_,c',rr _,by rw [hS,ea]⟩,rfl,q _ _ (I.hok.fresh (Nat.le_refl _)) (by rw [List.length_map];omega) fun i k v e=>?_⟩
  obtain ⟨p,hp,e1,e2,_⟩:=yH rel e
  exact ⟨p.2.1,by rw [List.getElem?_map,hp];rfl,e2⟩
def rA (td:TE):TE:=fun σ H Q=>td σ H fun x H1=>∃ (d:Addr) (kvs:List (Key×V)),x=.ref d∧Rd H1 d (.dK kvs)∧∀ l,H1 l=none→Q (.ref l) (upd H1 l (.lst (kvs.map (·.2))))
theorem oA:bootBuiltins "list"=some (.type "list"):=by decide +kernel
theorem mY {e:Expr} {td:TE} {p pos apos cpos:Pos} (hc:X.calm=true) (hg:Gl X "list") (hm:X.mg "list"=none) (he:PE X e td)
    (h0:starEach [.Call (.Attribute e "values" apos) [] [] cpos] X.env=[(false,eval (.Call (.Attribute e "values" apos) [] [] cpos) X.env)]:=by rfl)
    (hbase:attributeBase e "values" X.env (eval e X.env)=eval e X.env:=by rfl) (hline:(apos.endLine == cpos.line)=true:=by rfl) :
    PE X (.Call (.Name "list" p) [.Call (.Attribute e "values" apos) [] [] cpos] [] pos) (rA td):=by
  intro pins s σ H Q I h
  refine Call_ (wS I hg hm oA (PyProof.Rows.callWith_type1 ?_ h0 rfl))
  rw [h0]
  refine Calls.spliced_cons ?_
  refine wpAny_Call_method (T:="dict") (id:="dict.values") hbase rfl hline F.plainAttrs_dict F.slot_dict_values F.type_dict_values (thn (he pins s σ H _ I h) fun u s1 ⟨x,H1,I1,rx,d,kvs,ex,hR,q⟩=>?_)
  subst ex
  obtain rfl:u=Value.ref d:=rx
  obtain ⟨z,lo,vs,rel,dd⟩:=pL I1.hok hR
  have hl:kvs.length=vs.length:=Paired.length rel
  refine ⟨dd.typeIs,dd.mapOf.noDict,?_⟩
  have I2:Inv X pins σ H1 { s1 with heap:=s1.heap.push { cls:=.type "dict_values",data:=.fields #[.ref d] } }:=I1.kept (t':=s1.toks) fun b ob q=>Heap.get?_push_of_some _ q
  show wpAny _ _ (callWith cpos (.builtin "dict.values") [.ref d] [] []) _ X.xe s1
  refine method_meetsIn F.slot_dict_values F.entry_dict_values rfl (PySem.evalArgs_none ⟨rfl,dd.typeIs,F.args_dict_values_1 _,_,meets_dict_values (j5 X.prog X.w) d lo,⟨vs,dd⟩,Calls.spliced_nil ?_⟩)
  obtain ⟨ep,hat⟩:=dd.dictAt
  refine W.kdl_call (W.kdl_values (knd:=j5 X.prog X.w) (kvs:=vs) (ep:=ep) (d:=d)) (I.ok.hd hc) ⟨⟨_,Heap.get?_push_size _ rfl,rfl,rfl⟩,hat.push _⟩ (by omega) fun h' tk acc' c' hk hS hacc=>?_
  have ea:acc'.toList=vs.map (·.2):=W.kdl_vals_eq acc'.toList (by rw [Array.length_toList];exact hacc.1) fun j v e=>hacc.2 j v (by rw [← Array.getElem?_toList];exact e)
  have rr:∀ {a:List (Key×V)} {b:List (Key×Value)},KV a b→kG (a.map (·.2)) (b.map (·.2)):=fun h=>by
    induction h with
    | nil=>exact .nil
    | cons h _ ih=>exact .cons h.2 ih
  refine ⟨.ref (s1.heap.push { cls:=.type "dict_values",data:=.fields #[.ref d] }).objs.size,_,I2.laid (o:=.lst (kvs.map (·.2))) (t':=tk) hk (Nat.le_refl _) ⟨by rw [List.length_map];exact z,_,c',rr rel,?_⟩,rfl,q _ (I2.hok.fresh (Nat.le_refl _))⟩
  rw [hS,← ea]
end
section
variable {X:Cx} {pins:List (Addr×Obj)} {σ:St} {H:Hp}
theorem lO {R:Result→Shared→Prop} {l It:Addr} {as:List Addr} {xss:List (List V)} (hc:X.calm=true) (hlI:l≠It) (hl:SqL X.K H l (as.map V.ref)) (hxs:∀ (i:Nat) (xs:List V),xss[i]? = some xs→∃ a,as[i]? = some a∧SqL X.K H a xs) (hlen:xss.length=as.length) (fI:qJ X pins H It)
    (fin:∀ s',Inv X pins σ H s'→R (.ok (.ret (.bool (xss.all fun xs=>!xs.isEmpty)))) s') :
    ∀ (k i:Nat) (s:Shared),as.length - i=k→i≤as.length→Inv X pins σ H s→s.heap.IsListIter It l i→(∀ xs∈xss.take i,xs.isEmpty=false)→codeAny (model X.prog X.w) X.A (.builtin "all.loop" ⟨[.ref It],[]⟩) R s:=by
  intro k
  induction k with
  | zero =>
    intro i s hk hi I hit hall
    have hin:i=as.length:=by omega
    subst hin
    obtain ⟨its,rv,pl,_⟩:=I.list hl
    have hsz:its.toArray.size=as.length:=by rw [List.size_toArray,← rv.length,List.length_map]
    have W:=Walks.list (prog:=X.prog) (w:=X.w) (A:=X.A.in1) (I.ok.hd hc) It l hlI its.toArray
    refine codeAny_builtin F.entry_all_loop ?_
    rw [Around.under_plainId F.plain_all_loop _]
    show wpAny _ X.A.in1 (pyNext (.ref It) >>= _) _ _ s
    refine wpAny_bind (W.done s _ _ ⟨by rw [hsz];exact hit,pl.isList⟩ fun h' tk hk'=>?_)
    refine wpAny_bind (wpAny_rule (wpAny_pure ?_))
    have e:(xss.all fun xs=>!xs.isEmpty)=true:=by
      rw [List.all_eq_true]
      intro xs hx
      rw [List.take_of_length_le (by omega)] at hall
      rw [hall xs hx];rfl
    have:=fin { s with heap:=h',toks:=tk } (I.turned (fun b o hb e=>hk' b o (by simpa using hb) e) fI.1 fI.2.1 fI.2.2.2.1 fI.2.2.2.2.1 fI.2.2.2.2.2)
    rw [e] at this
    exact this
  | succ k ih =>
    intro i s hk hi I hit hall
    have hlt:i < as.length:=by omega
    obtain ⟨its,rv,pl,_⟩:=I.list hl
    have hsz:its.toArray.size=as.length:=by rw [List.size_toArray,← rv.length,List.length_map]
    have W:=Walks.list (prog:=X.prog) (w:=X.w) (A:=X.A.in1) (I.ok.hd hc) It l hlI its.toArray
    refine codeAny_builtin F.entry_all_loop ?_
    rw [Around.under_plainId F.plain_all_loop _]
    show wpAny _ X.A.in1 (pyNext (.ref It) >>= _) _ _ s
    refine wpAny_bind (W.item i s _ _ (by rw [hsz];exact hlt) ⟨hit,pl.isList⟩ fun v h' tk hP hst' hk'=>?_)
    obtain ⟨xs,hx⟩:∃ xs,xss[i]? = some xs:=⟨_,List.getElem?_eq_getElem (by omega)⟩
    obtain ⟨a,ha,hq⟩:=hxs i xs hx
    have ev:v=.ref a:=by
      obtain ⟨u,hu,ru⟩:=rv.get (i:=i) (x:=.ref a) (by rw [List.getElem?_map,ha];rfl)
      have hv:its[i]? = some v:=by simpa using hP
      rw [hu] at hv
      cases hv
      exact ru
    subst ev
    have I1:Inv X pins σ H { s with heap:=h',toks:=tk }:=I.turned (fun b o hb e=>hk' b o (by simpa using hb) e) fI.1 fI.2.1 fI.2.2.2.1 fI.2.2.2.2.1 fI.2.2.2.2.2
    obtain ⟨itx,rvx,plx,zx⟩:=I1.list hq
    have eb:(!itx.toArray.isEmpty) = !xs.isEmpty:=by
      have:=rvx.length
      cases xs <;> cases itx <;> simp_all
    refine wpAny_bind (wpAny_holding (wpAny_truthy_list plx.isList ?_ ?_))
    · have:=rvx.length
      have h1:itx.toArray.size≤sizeLine:=by rw [List.size_toArray];omega
      have h2:(sizeLine:Nat)=16777216:=sizeLine_eq
      rw [h2] at h1
      omega
    · rw [eb]
      refine wpAny_bind (wpAny_letGo ?_)
      have I2:=I1.tok (tk+1+1)
      cases hb:xs.isEmpty with
      | false =>
        simp only [Bool.not_false,if_true]
        refine wpAny_pure ⟨plainId_quiet F.plain_all_loop _,ih (i+1) _ (by omega) hlt I2 hst'.1 fun ys hy=>?_⟩
        rw [List.take_add_one,hx] at hy
        rcases List.mem_append.mp hy with hy | hy
        · exact hall ys hy
        · have:ys=xs:=by simpa using hy
          rw [this];exact hb
      | true =>
        simp only [Bool.not_true,Bool.false_eq_true,if_false]
        refine wpAny_bind (wpAny_rule (wpAny_pure ?_))
        have e:(xss.all fun xs=>!xs.isEmpty)=false:=by
          rw [List.all_eq_false]
          exact ⟨xs,List.mem_of_getElem? hx,by rw [hb];decide⟩
        have:=fin _ I2
        rw [e] at this
        exact this
theorem jw1 (hc:X.calm=true):uU X (.builtin "all") (fun vs H Q=>∃ (a:Addr) (as:List Addr) (xss:List (List V)),vs=[V.ref a]∧SqL X.K H a (as.map V.ref)∧xss.length=as.length∧(∀ (i:Nat) (xs:List V),xss[i]? = some xs→∃ a,as[i]? = some a∧SqL X.K H a xs)∧Q (.bl (xss.all fun xs=>!xs.isEmpty)) H):=by
  intro pins s σ H vs us Q I r h
  obtain ⟨a,as,xss,rfl,hs,hlen,hxs,q⟩:=h
  obtain ⟨its,rv,hl,_⟩:=I.list hs
  rw [kG.ref1 r]
  refine call_function_tree F.kind_all F.plain_all F.entry_all (F.args_all1 _) ?_
  unfold Builtin.«all»
  refine wpAny_bind (m:=oneArg "all" _) (wpAny_pure ?_)
  refine wpAny_bind (dE hl.isList fun s₂ e2 st hne=>?_)
  subst e2
  refine wpAny_pure ⟨plainId_quiet F.plain_all_loop _,lO (pins:=pins) (σ:=σ) (H:=H) hc hne hs hxs hlen (I.fpOk (Nat.le_refl _) (I.hok.fresh (Nat.le_refl _))) (fun s' I'=>⟨.bl _,H,I',rfl,q⟩) _ 0 _ rfl (Nat.zero_le _) (I.kept (t':=s.toks) fun b o e=>Heap.get?_push_of_some _ e) st.1 fun xs hx=>by simp at hx⟩
end
theorem jzQ:bootBuiltins "set"=some (.type "set"):=by decide +kernel
theorem cH (ns:List Int):firstMet (fun i=>ns.getD i 0) ns.length=ns.foldl step_dedup []:=by
  unfold firstMet
  congr 1
  apply List.ext_getElem?
  intro i
  rw [List.getElem?_map]
  by_cases h:i < ns.length
  · rw [List.getElem?_range h,List.getElem?_eq_getElem h]
    simp [h]
  · rw [List.getElem?_eq_none (by simpa using h),List.getElem?_eq_none (by simpa using h)];rfl
section
variable {X:Cx}
theorem dQ:∀ {ns:List Int} {us:List Value},kG (ns.map V.int) us→IntsAre us ns
  | [],us,r=>by
    rw [List.map_nil] at r
    cases r
    exact .nil
  | n :: ns,us,r=>by
    rw [List.map_cons] at r
    cases r with
    | cons h t =>
      obtain ⟨tk,rfl⟩:=h
      exact .cons n tk (dQ t)
theorem pP (hc:X.calm=true):uU X (.type "set") (fun xs H Q=>∃ (p:Addr) (ns:List Int),xs=[.ref p]∧SqL X.K H p (ns.map V.int)∧ns.length+1 < 4096∧∀ (l:Addr) (S:Int→Bool),H l=none→Q (.ref l) (upd H l (.set S (ns.foldl step_dedup []).length))):=by
  intro pins s σ H xs us Q I r h
  obtain ⟨p,ns,rfl,hq,hb,q⟩:=h
  obtain ⟨u,rfl,rx⟩:=oX r
  cases rx
  obtain ⟨its,rv,pl,hz⟩:=I.list hq
  have hl:=rv.length
  rw [List.length_map] at hl
  have hs:its.toArray.size=ns.length:=by rw [List.size_toArray,hl]
  refine call_set_list (I.ok.hd hc) pl.isList (ns:=ns) (by simpa using dQ rv) (by rw [hs];exact hb) fun h' tk hS hk=>?_
  rw [hs,cH] at hS
  exact ⟨.ref s.heap.objs.size,_,I.laid (t':=tk) (fun b o e=>hk b o (Heap.lt_size e) e) (Nat.le_refl _) (show kS X.prog X.w _ h' _ (.set _ _) from hS),rfl,q _ _ (I.hok.fresh (Nat.le_refl _))⟩
theorem l8:uU X (.builtin "len") (fun xs H Q=>∃ a S n,xs=[V.ref a]∧H a=some (.set S n)∧Q (.int (n:Nat)) H):=by
  intro pins s σ H xs us Q I r h
  obtain ⟨a,S,n,rfl,ha,q⟩:=h
  obtain ⟨u,rfl,rx⟩:=oX r
  cases rx
  obtain ⟨o,es,ep,t,ho,hx,hd,_,_,hb,hf,hn⟩:=(show kS X.prog X.w H s.heap a (.set S n) from I.hok a _ ha)
  have hb':es.size < 4096:=hb
  refine call_len_set ho hx hd hf (by omega) ⟨.int (n:Nat),H,I.tok _,⟨_,by rw [hn]⟩,q⟩
end
def i8 (tk tv:TE):TE:=fun σ H Q=>∀ p,H p=none→tk σ (upd H p (.dT [])) fun y H1=>tv σ H1 fun v H2=>∃ (b:Addr) (k:List Key),y=.ref b∧H2 p=some (.dT [])∧H2 b=some (.tup (k.map kV))∧Q (.ref p) (upd H2 p (.dT [(k,v)]))
theorem iY {X:Cx} {ke ve:Expr} {tk tv:TE} {pos:Pos} (hu:X.A.units+1 < cLine) (hk:PE X ke tk) (hv:PE X ve tv):PE X (.Dict [some ke] [ve] pos) (i8 tk tv):=by
  intro pins s σ H Q I q
  have hn:=I.hok.fresh (Nat.le_refl s.heap.objs.size)
  have I1:=I.laid (a:=s.heap.objs.size) (o:=.dT []) (h':=s.heap.push { cls:=.type "dict",data:=.dict #[] }) (t':=s.toks) (fun _ _ q=>Heap.get?_push_of_some _ q) (Nat.le_refl _) (nY s.heap I.big)
  have hl:(pairTrees [some ke] [ve] X.env pos).length=1:=pairTrees_length _ _ _ _ rfl rfl
  rw [arm_eval_Dict,zip_pairTrees _ _ _ _ rfl rfl,dictDisplay_pairs _ (fun h=>by rw [h] at hl;cases hl) (by rw [hl];decide)]
  refine wpAny_bind (wpAny_standAt (wpAny_bind (wpAny_subDict_any (by rw [hl];decide) ?_)))
  refine pairTrees_cons_walk (thn (hk pins _ σ _ _ I1 (q _ hn)) fun u s1 ⟨y,H1,I2,ry,q1⟩=>thn (hv pins s1 σ H1 _ I2 q1) fun w2 s2 ⟨v,H2,I3,rv,b,k,ey,ep,eb,q2⟩=>pairTrees_nil_walk ?_)
  subst ey
  cases (show u=Value.ref b from ry)
  obtain ⟨zz,hd,xs,rel,dd⟩:=jw3 I3.hok ep
  cases rel
  unfold storeAll
  simp only [List.forIn_cons,List.forIn_nil]
  refine wpAny_bind (wpAny_bind (wpAny_dictSet_heap (knd:=tupleKind (j5 X.prog X.w)) (k:=k) (show (tupleKind (j5 X.prog X.w)).room X.A from Nat.lt_of_succ_lt hu) (x5 I3.hok eb) dd (fun h' dd' hs=>wpAny_pure ?_) (Nat.zero_le _)))
  refine wpAny_pure (wpAny_pure ?_)
  obtain ⟨o,es,ep',hq,h2,h3,h4,_,h5⟩:=dd'
  have rel2:KT H2 (wL [] k v) (storedH [] k b w2):=KT.put (kvs:=[]) .nil k eb rv
  refine ⟨.ref s.heap.objs.size,upd H2 s.heap.objs.size (.dT [(k,v)]),dN I3 (by rw [ep];exact True.intro) hs ⟨o,hq⟩ ⟨by show 1≤sizeLine;decide,hd,_,rel2.keeps fun c ys ec=>?_,o,es,ep',hq,h2,h3,h4,h5⟩,rfl,q2⟩
  rw [jV (j1 ec ep (fun z=>nomatch z))]
  exact ec
end L2
namespace Y
open PySem PySem.Spec PyProof.Rows L2
theorem lG (t b:Addr) (xs:Array Value) (n n2:Nat) (dd dd2:Option Addr) (sl sl2:Array (Option Value)) :
    Meets (Builtin.«tuple.__add__» ⟨[.ref t,.ref b],[]⟩) (fun _ R s=>s.heap.get? t=some { cls:=.type "tuple",dict:=dd,data:=.seq #[] n,slots:=sl }∧s.heap.get? b=some { cls:=.type "tuple",dict:=dd2,data:=.seq xs n2,slots:=sl2 }∧R (.ok (.ret (.ref b))) s) :=
  .of_wp fun prog w A R s h=>by
    obtain ⟨hp,g,d,tk,os⟩:=s
    obtain ⟨ht,hb,h⟩:=h
    have f1:=AutoSeq1.idx_int
    have f2:=AutoSeq1.sub_tuple_tuple
    have f3:=AutoSeq1.sub_list_list
    have f4:=AutoSeq1.sub_tuple_list
    have f5:=AutoSeq1.sub_list_tuple
    wp_walk
    all_goals (try exact ⟨_,rfl,h⟩)
section
variable {prog:Program} {w:World} {A:Around} {E:Value→Shared→Prop} {s:Shared}
theorem jzX {t b:Addr} {ws:List Value} {Q:Value→Shared→Prop} (ht:IsTup s.heap t ([]:List Value).toArray) (hb:IsTup s.heap b ws.toArray) (h:Q (.ref b) s):wpAny (model prog w) A (binaryOp .Add (.ref t) (.ref b)) Q E s:=by
  obtain ⟨⟨cls,dd,data,sl⟩,ho,hc,n,hd⟩:=id ht
  obtain ⟨⟨cls2,dd2,data2,sl2⟩,ho2,hc2,n2,hd2⟩:=id hb
  simp only at hc hd hc2 hd2
  subst hc hd hc2 hd2
  exact concat_meets ⟨_,ho,rfl⟩ ⟨_,ho2,rfl⟩ noFill_tuple_add seq_tuple_add PySem.F.slot_tuple_add PySem.F.entry_tuple_add (PySem.F.args_tuple_add_2 _ _) (lG t b ws.toArray n n2 dd dd2 sl sl2) ⟨ho,ho2,h⟩
end
section
variable {X:Cx}
theorem pgn (i:Nat) {x:Str} {pos:Pos} (hN:X.N.Nodup) (hi:X.N[i]? = some x:=by rfl) (hx:Loc X.env.scope x:=by first | exact Or.inl rfl | exact Or.inr rfl) (hf:X.fn x=true∨X.env.scope.names.lookup x=some .local:=by first | exact Or.inl rfl | exact Or.inr rfl):PG X (.Name x pos) (jI i):=ju1 hN hi hx hf
theorem pgt (K:W.Frag) (n:Nat) {es:List Expr} {k:Nat} {t:TGs} {pos:Pos} (h:PGs X es t) (hK:X.K=K:=by rfl) (hc:X.calm=true:=by rfl) (hn:(assignEach es X.env).length=n:=by rfl) (hst:(assignEach es X.env).findIdx? (·.1)=none:=by rfl):PG X (.Tuple es k pos) (js1 K n t):=by
  subst hK;exact jfQ hc h hn hst
theorem zJ (K:W.Frag) {e:Expr} {f:Str} {ta:TE} {pos:Pos} (he:PE X e ta) (hK:X.K=K:=by rfl) (hb:attributeBase e f X.env (eval e X.env)=eval e X.env:=by rfl):PE X (.Attribute e f pos) (uQ K ta f):=by subst hK;exact jf9 he hb
theorem jd5 (K:W.Frag) {a:Expr} {ta:TE} (ha:PE X a ta) (hK:X.K=K:=by rfl) (he:∀ whole,isTrue a X.env whole=(do let v ← whole;standAt a.pos;holding [v] (truthy v)):=by intro _;rfl):PT X a (fun σ H Q=>ta σ H fun x H'=>∃ k,jpK K x H' k∧Q k H'):=by subst hK;exact jjW ha he
theorem e9 (K:W.Frag) (hK:X.K=K:=by rfl):OpR X (compareOp .In) (rIn K false):=by subst hK;exact iJ
theorem qD (K:W.Frag) (hK:X.K=K:=by rfl):OpR X (compareOp .NotIn) (rIn K true):=by subst hK;exact rW
theorem jwQ (K:W.Frag) (hK:X.K=K:=by rfl):OpR X (binaryOp .Add) (fun x y H Q=>∃ a b ys,x=.ref a∧y=.ref b∧SqT K H a []∧SqT K H b ys∧Q (.ref b) H):=by
  subst hK
  intro pins s σ H x y v u Q I rx ry h
  obtain ⟨a,b,ys,rfl,rfl,ha,hb,q⟩:=h
  cases rx
  cases ry
  obtain ⟨its,r1,p1,_⟩:=I.tuple ha
  cases r1
  obtain ⟨its2,r2,p2,_⟩:=I.tuple hb
  exact jzX p1 p2 ⟨.ref b,H,I,rfl,q⟩
theorem jj7 (K:W.Frag) (hK:X.K=K:=by rfl):OpR X (binaryOp .Add) (fun x y H Q=>jd6 K x y H Q∨∃ a b ys,x=.ref a∧y=.ref b∧SqT K H a []∧SqT K H b ys∧Q (.ref b) H):=by
  subst hK;exact jwX.or (jwQ X.K)
theorem jT (K:W.Frag) (hK:X.K=K:=by rfl):IxR X (fZ K):=by subst hK;exact jw7
theorem p7 (K:W.Frag) (hK:X.K=K:=by rfl):IxR X (jp4 K):=by subst hK;exact jh1
theorem j8 (K:W.Frag) (hK:X.K=K:=by rfl):uU X (.builtin "len") (fun xs H Q=>∃ p ys,xs=[.ref p]∧(SqL K H p ys∨SqT K H p ys)∧Q (.int (ys.length:Nat)) H):=by subst hK;exact cV
theorem pdz (K:W.Frag) (κ μ:Bool) {e e2:Expr} {ta:TA} {p p2 pos pos2:Pos} (hm0:X.mg "dict"=none) (hm:X.mg "zip"=none) (ha:PA X [e,e2] ta) (hK:X.K=K:=by rfl) (hc:X.calm=true:=by rfl) (hg0:Gl X "dict":=by rfl) (hg:Gl X "zip":=by rfl)
    (h0:starEach [.Call (.Name "zip" p2) [e,e2] [] pos2] X.env=[(false,eval (.Call (.Name "zip" p2) [e,e2] [] pos2) X.env)]:=by rfl)
    (hs:starEach [e,e2] X.env=(false,eval e X.env) :: starEach [e2] X.env:=by rfl) (hpl:(backTo pos2 (starEach [e2] X.env)).any (·.1)=false:=by rfl) :
    PE X (.Call (.Name "dict" p) [.Call (.Name "zip" p2) [e,e2] [] pos2] [] pos) (uR K κ μ ta):=by subst hK;exact t8 κ μ hc hg0 hm0 hg hm ha h0 hs hpl
theorem plc (own:List (Str×Nat)) {elt tg iter:Expr} {ifs:List Expr} {scope:Scope} {pos:Pos} {wi:TI} {g:TG} {tt:TT} {te:TE} (hN:X.N.Nodup) (hi:PI X tg iter wi)
    (hg:∀ (s:Shared) (H:Hp) (C:Addr) (cl:List (Str×Addr)) (fp:List Addr),PG (X.blk s H scope (compEnvC scope cl C X.env) fp) tg g) (ht:∀ (s:Shared) (H:Hp) (C:Addr) (cl:List (Str×Addr)) (fp:List Addr),PTs (X.blk s H scope (compEnvC scope cl C X.env) fp) ifs tt)
    (he:∀ (s:Shared) (H:Hp) (C:Addr) (cl:List (Str×Addr)) (fp:List Addr),PE (X.blk s H scope (compEnvC scope cl C X.env) fp) elt te) (ok:pG X.N X.env.scope scope own:=by exact nJ rfl) (hc:X.calm=true:=by rfl) (hs:∀ x,foldedSetIterable iter X.env x=pure x:=by intro _;rfl) :
    PE X (.ListComp elt [⟨tg,iter,ifs,0⟩] scope pos) (tLc wi g tt te (own.map (·.2))):=jnV hc hN hi ok hg ht he hs
theorem jd4 (i:Nat) (own:List (Str×Nat)) {y:Str} {py:Pos} {elt tg iter:Expr} {ifs:List Expr} {scope:Scope} {pos spos:Pos} {wi:TI} {g:TG} {tt:TT} {te:TE} (hN:X.N.Nodup) (hi:PI X tg iter wi)
    (hg:∀ (s:Shared) (H:Hp) (C:Addr) (cl:List (Str×Addr)) (fp:List Addr),PG (X.blk s H scope (compEnvC scope cl C X.env) fp) tg g) (ht:∀ (s:Shared) (H:Hp) (C:Addr) (cl:List (Str×Addr)) (fp:List Addr),PTs (X.blk s H scope (compEnvC scope cl C X.env) fp) ifs tt)
    (he:∀ (s:Shared) (H:Hp) (C:Addr) (cl:List (Str×Addr)) (fp:List Addr),PE (X.blk s H scope (compEnvC scope cl C X.env) fp) elt te) (hy:X.N[i]? = some y:=by rfl) (hyl:X.env.scope.names.lookup y=some .local:=by rfl)
    (hsw:swapsWith (.ListComp elt [⟨tg,iter,ifs,0⟩] scope pos) (some (.Name y py)) spos.line X.env=pure true:=by exact jq1 rfl rfl rfl rfl) (ok:pG X.N X.env.scope scope own:=by exact nJ rfl) (hc:X.calm=true:=by rfl) (hs:∀ x,foldedSetIterable iter X.env x=pure x:=by intro _;rfl) :
    PS X (.Assign [.Name y py] (.ListComp elt [⟨tg,iter,ifs,0⟩] scope pos) spos) (wI (tLc wi g tt te (own.map (·.2))) (jI i)):=jjZ hc hN hy hyl hsw hi ok hg ht he hs
theorem yR {tg iter:Expr} {body:List Stmt} {wi:TI} {g:TG} {tb:TS} {pos:Pos} (hi:PI X tg iter wi) (hg:PG X tg g) (hb:PSs X body tb) (hp:PassesOwn (model X.prog X.w) X.A X.env X.xe:=by exact PassesOwn.never) (hc:X.calm=true:=by rfl)
    (hs:∀ x,foldedSetIterable iter X.env x=pure x:=by intro _;rfl):PS X (.For tg iter body [] pos) (jnW wi g tb):=jd1 hp hc hi hg hb hs
theorem kJ (i:Nat) {x:Str} {e:Expr} {te:TE} {pos pos':Pos} (hN:X.N.Nodup) (he:PE X e te) (hi:X.N[i]? = some x:=by rfl) (hx:Loc X.env.scope x:=by first | exact Or.inl rfl | exact Or.inr rfl) (hs:swapsWith e (some (.Name x pos')) pos.line X.env=pure false:=by rfl) (hf:X.fn x=true∨X.env.scope.names.lookup x=some .local:=by first | exact Or.inl rfl | exact Or.inr rfl) :
    PS X (.Assign [.Name x pos'] e pos) (wI te (jI i)):=jd2 hN hi hx he hs hf
theorem jd3 (i:Nat) {x:Str} {op:Operator} {e:Expr} {te:TE} {ti:TIp} {pos pos':Pos} (hN:X.N.Nodup) (he:PE X e te) (ho:PIp X op ti) (hi:X.N[i]? = some x:=by rfl) (hx:Loc X.env.scope x:=by first | exact Or.inl rfl | exact Or.inr rfl) (hf:X.fn x=true∨X.env.scope.names.lookup x=some .local:=by first | exact Or.inl rfl | exact Or.inr rfl) :
    PS X (.AugAssign (.Name x pos') op e pos) (jp6 i te ti):=jfY hN hi hx he ho
end
theorem le1 {F:FuncData} {ps:List Str} (h:∀ a0:Value,bindArgs F ⟨[a0],[]⟩=pure (ps.zip [a0])):∀ us:List Value,us.length=1→bindArgs F ⟨us,[]⟩=pure (ps.zip us)
  | [a0],_=>h a0
theorem le2 {F:FuncData} {ps:List Str} (h:∀ a0 a1:Value,bindArgs F ⟨[a0,a1],[]⟩=pure (ps.zip [a0,a1])):∀ us:List Value,us.length=2→bindArgs F ⟨us,[]⟩=pure (ps.zip us)
  | [a0,a1],_=>h a0 a1
theorem le3 {F:FuncData} {ps:List Str} (h:∀ a0 a1 a2:Value,bindArgs F ⟨[a0,a1,a2],[]⟩=pure (ps.zip [a0,a1,a2])):∀ us:List Value,us.length=3→bindArgs F ⟨us,[]⟩=pure (ps.zip us)
  | [a0,a1,a2],_=>h a0 a1 a2
theorem le4 {F:FuncData} {ps:List Str} (h:∀ a0 a1 a2 a3:Value,bindArgs F ⟨[a0,a1,a2,a3],[]⟩=pure (ps.zip [a0,a1,a2,a3])):∀ us:List Value,us.length=4→bindArgs F ⟨us,[]⟩=pure (ps.zip us)
  | [a0,a1,a2,a3],_=>h a0 a1 a2 a3
theorem le5 {F:FuncData} {ps:List Str} (h:∀ a0 a1 a2 a3 a4:Value,bindArgs F ⟨[a0,a1,a2,a3,a4],[]⟩=pure (ps.zip [a0,a1,a2,a3,a4])):∀ us:List Value,us.length=5→bindArgs F ⟨us,[]⟩=pure (ps.zip us)
  | [a0,a1,a2,a3,a4],_=>h a0 a1 a2 a3 a4
theorem le6 {F:FuncData} {ps:List Str} (h:∀ a0 a1 a2 a3 a4 a5:Value,bindArgs F ⟨[a0,a1,a2,a3,a4,a5],[]⟩=pure (ps.zip [a0,a1,a2,a3,a4,a5])):∀ us:List Value,us.length=6→bindArgs F ⟨us,[]⟩=pure (ps.zip us)
  | [a0,a1,a2,a3,a4,a5],_=>h a0 a1 a2 a3 a4 a5
def top (i:Nat):Stmt:=PySem.Challenge.pw_trainseatsyard_s01_answers.main.body.getD i (.Pass ⟨0,0,0,0⟩)
abbrev jq9:Stmt:=zC (top 14) 0
abbrev jqJ:Stmt:=zC (top 15) 0
abbrev jqK:Stmt:=zC (top 15) 1
abbrev jqV:Stmt:=zC (top 15) 2
abbrev jqZ:Stmt:=zC (top 15) 3
abbrev jqW:Stmt:=zC (top 15) 4
abbrev jqQ:Stmt:=zC (top 15) 5
abbrev jqX:Stmt:=zC (top 15) 6
abbrev jqY:Stmt:=zC (top 15) 7
abbrev jy0:Stmt:=top 17
abbrev jy1:Stmt:=top 18
abbrev jy2:Stmt:=top 19
abbrev jy3:Stmt:=top 20
abbrev jy4:Stmt:=top 21
abbrev jy5:Stmt:=top 22
abbrev jy6:Stmt:=top 23
abbrev jy7:Stmt:=top 24
abbrev jy8:Stmt:=top 25
abbrev jy9:Stmt:=top 26
abbrev jyJ:Stmt:=top 27
abbrev jyK:Stmt:=zC (top 29) 0
abbrev jyV:Stmt:=top 30
abbrev jyZ:Stmt:=top 31
abbrev jyW:Stmt:=top 32
abbrev jyQ:Stmt:=zC (top 33) 0
abbrev jyX:Stmt:=top 34
abbrev jyY:Stmt:=top 35
abbrev jx0:Stmt:=top 36
abbrev jx1:Stmt:=top 37
abbrev jx2:Stmt:=top 38
abbrev iL:Stmt:=top 39
abbrev jx3:Stmt:=top 40
abbrev jx4:Stmt:=top 41
abbrev jx5:Stmt:=top 42
abbrev jx6:Stmt:=top 44
abbrev jx7:Stmt:=top 45
abbrev lT:Stmt:=top 46
abbrev jx8:Stmt:=top 47
abbrev jx9:Stmt:=top 48
abbrev jxJ:Stmt:=top 58
abbrev jxK:Stmt:=top 59
abbrev jxV:Stmt:=top 60
abbrev jxZ:Stmt:=top 61
abbrev jxW:Stmt:=top 62
abbrev jxQ:Stmt:=top 63
def wF (x_start x_to x_group x_wished:V):List (Str×V):=[("start",x_start),("to",x_to),("group",x_group),("wished",x_wished)]
theorem xE {x_start x_to x_group x_wished:V}:(wF x_start x_to x_group x_wished).lookup ("start":Str)=some x_start:=rfl
theorem cB {x_start x_to x_group x_wished:V}:(wF x_start x_to x_group x_wished).lookup ("to":Str)=some x_to:=rfl
theorem zD {x_start x_to x_group x_wished:V}:(wF x_start x_to x_group x_wished).lookup ("group":Str)=some x_group:=rfl
theorem y6 {x_start x_to x_group x_wished:V}:(wF x_start x_to x_group x_wished).lookup ("wished":Str)=some x_wished:=rfl
def jS (x_legs x_seats x_move x_wish x_apart x_beside x_riders:V):List (Str×V):=[("legs",x_legs),("seats",x_seats),("move",x_move),("wish",x_wish),("apart",x_apart),("beside",x_beside),("riders",x_riders)]
theorem kZ {x_legs x_seats x_move x_wish x_apart x_beside x_riders:V}:(jS x_legs x_seats x_move x_wish x_apart x_beside x_riders).lookup ("legs":Str)=some x_legs:=rfl
theorem fJ {x_legs x_seats x_move x_wish x_apart x_beside x_riders v:V}:jt7 "legs" v (jS x_legs x_seats x_move x_wish x_apart x_beside x_riders)=jS v x_seats x_move x_wish x_apart x_beside x_riders:=rfl
theorem vE {x_legs x_seats x_move x_wish x_apart x_beside x_riders:V}:(jS x_legs x_seats x_move x_wish x_apart x_beside x_riders).lookup ("seats":Str)=some x_seats:=rfl
theorem gD {x_legs x_seats x_move x_wish x_apart x_beside x_riders v:V}:jt7 "seats" v (jS x_legs x_seats x_move x_wish x_apart x_beside x_riders)=jS x_legs v x_move x_wish x_apart x_beside x_riders:=rfl
theorem z0 {x_legs x_seats x_move x_wish x_apart x_beside x_riders:V}:(jS x_legs x_seats x_move x_wish x_apart x_beside x_riders).lookup ("move":Str)=some x_move:=rfl
theorem fK {x_legs x_seats x_move x_wish x_apart x_beside x_riders v:V}:jt7 "move" v (jS x_legs x_seats x_move x_wish x_apart x_beside x_riders)=jS x_legs x_seats v x_wish x_apart x_beside x_riders:=rfl
theorem hX {x_legs x_seats x_move x_wish x_apart x_beside x_riders:V}:(jS x_legs x_seats x_move x_wish x_apart x_beside x_riders).lookup ("wish":Str)=some x_wish:=rfl
theorem fV {x_legs x_seats x_move x_wish x_apart x_beside x_riders v:V}:jt7 "wish" v (jS x_legs x_seats x_move x_wish x_apart x_beside x_riders)=jS x_legs x_seats x_move v x_apart x_beside x_riders:=rfl
theorem xI {x_legs x_seats x_move x_wish x_apart x_beside x_riders:V}:(jS x_legs x_seats x_move x_wish x_apart x_beside x_riders).lookup ("apart":Str)=some x_apart:=rfl
theorem gF {x_legs x_seats x_move x_wish x_apart x_beside x_riders v:V}:jt7 "apart" v (jS x_legs x_seats x_move x_wish x_apart x_beside x_riders)=jS x_legs x_seats x_move x_wish v x_beside x_riders:=rfl
theorem vB {x_legs x_seats x_move x_wish x_apart x_beside x_riders:V}:(jS x_legs x_seats x_move x_wish x_apart x_beside x_riders).lookup ("beside":Str)=some x_beside:=rfl
theorem y8 {x_legs x_seats x_move x_wish x_apart x_beside x_riders v:V}:jt7 "beside" v (jS x_legs x_seats x_move x_wish x_apart x_beside x_riders)=jS x_legs x_seats x_move x_wish x_apart v x_riders:=rfl
theorem kH {x_legs x_seats x_move x_wish x_apart x_beside x_riders:V}:(jS x_legs x_seats x_move x_wish x_apart x_beside x_riders).lookup ("riders":Str)=some x_riders:=rfl
theorem y9 {x_legs x_seats x_move x_wish x_apart x_beside x_riders v:V}:jt7 "riders" v (jS x_legs x_seats x_move x_wish x_apart x_beside x_riders)=jS x_legs x_seats x_move x_wish x_apart x_beside v:=rfl
theorem x8 {x_legs x_seats x_move x_wish x_apart x_beside x_riders:V}:(jS x_legs x_seats x_move x_wish x_apart x_beside x_riders).length=7:=rfl
theorem n6 {x_legs x_seats x_move x_wish x_apart x_beside x_riders:V}:(jS x_legs x_seats x_move x_wish x_apart x_beside x_riders).lookup ("begins":Str)=none:=rfl
theorem n8 {x_legs x_seats x_move x_wish x_apart x_beside x_riders:V}:(jS x_legs x_seats x_move x_wish x_apart x_beside x_riders).lookup ("pair":Str)=none:=rfl
theorem n9 {x_legs x_seats x_move x_wish x_apart x_beside x_riders:V}:(jS x_legs x_seats x_move x_wish x_apart x_beside x_riders).lookup ("rider":Str)=none:=rfl
theorem sJ {x_legs x_seats x_move x_wish x_apart x_beside x_riders:V}:(jS x_legs x_seats x_move x_wish x_apart x_beside x_riders).lookup ("drop":Str)=none:=rfl
theorem gW {x_legs x_seats x_move x_wish x_apart x_beside x_riders:V}:(jS x_legs x_seats x_move x_wish x_apart x_beside x_riders).lookup ("aboard":Str)=none:=rfl
theorem cU {x_legs x_seats x_move x_wish x_apart x_beside x_riders:V}:(jS x_legs x_seats x_move x_wish x_apart x_beside x_riders).lookup ("how_full":Str)=none:=rfl
theorem jv8 {x_legs x_seats x_move x_wish x_apart x_beside x_riders:V}:(jS x_legs x_seats x_move x_wish x_apart x_beside x_riders).lookup ("has_too_few_seats":Str)=none:=rfl
def xW (x_price x_ways:V):List (Str×V):=[("price",x_price),("ways",x_ways)]
theorem k8 {x_price x_ways:V}:(xW x_price x_ways).lookup ("price":Str)=some x_price:=rfl
theorem v8 {x_price x_ways:V}:(xW x_price x_ways).lookup ("ways":Str)=some x_ways:=rfl
def xQ (x_sittings x_moves:V):List (Str×V):=[("sittings",x_sittings),("moves",x_moves)]
set_option genInjectivity false in
structure Adr where
  C_Rider:Addr
  C_Train:Addr
  C_Least:Addr
  C_Stays:Addr
  f_qa:Addr
  d_qa:FuncData
  f_qb:Addr
  d_qb:FuncData
  f_qc:Addr
  d_qc:FuncData
  f_qd:Addr
  d_qd:FuncData
  f_qe:Addr
  d_qe:FuncData
  f_qf:Addr
  d_qf:FuncData
  f_qg:Addr
  d_qg:FuncData
  f_qh:Addr
  d_qh:FuncData
  f_qi:Addr
  d_qi:FuncData
  f_qj:Addr
  d_qj:FuncData
  f_qk:Addr
  d_qk:FuncData
  f_ql:Addr
  d_ql:FuncData
  f_qm:Addr
  d_qm:FuncData
  f_qn:Addr
  d_qn:FuncData
  f_qo:Addr
  d_qo:FuncData
  f_qp:Addr
  d_qp:FuncData
  f_qq:Addr
  d_qq:FuncData
  f_qr:Addr
  d_qr:FuncData
  f_qs:Addr
  d_qs:FuncData
  f_qt:Addr
  d_qt:FuncData
  f_qu:Addr
  d_qu:FuncData
  f_qv:Addr
  d_qv:FuncData
  f_qw:Addr
  d_qw:FuncData
  f_qx:Addr
  d_qx:FuncData
  f_qy:Addr
  d_qy:FuncData
  f_qz:Addr
  d_qz:FuncData
  f_xa:Addr
  d_xa:FuncData
  f_xb:Addr
  d_xb:FuncData
  f_xc:Addr
  d_xc:FuncData
  f_xd:Addr
  d_xd:FuncData
  f_xe:Addr
  d_xe:FuncData
  f_xf:Addr
  d_xf:FuncData
  f_xg:Addr
  d_xg:FuncData
  f_xh:Addr
  d_xh:FuncData
  f_xi:Addr
  d_xi:FuncData
  f_xj:Addr
  d_xj:FuncData
  f_xk:Addr
  d_xk:FuncData
  f_xl:Addr
  d_xl:FuncData
  f_xm:Addr
  d_xm:FuncData
  f_xn:Addr
  d_xn:FuncData
  f_xo:Addr
  d_xo:FuncData
  f_xp:Addr
  d_xp:FuncData
  f_xq:Addr
  d_xq:FuncData
  f_xr:Addr
  d_xr:FuncData
  f_xs:Addr
  d_xs:FuncData
  c_xe:Addr
  c_xk:Addr
  k_MOST_LEGS:Tok
  k_MOST_SEATS:Tok
  k_MOST_COST:Tok
  k_MOST_GROUP:Tok
  k_MOST_RIDERS:Tok
  k_DONE:Tok
  k_OUT_OF_BOUNDS:Tok
  k_NOT_THERE:Tok
  k_NO_NEW_PAIR:Tok
  k_NO_PLAN:Tok
  k_NO_ROOM_FOR_RIDERS:Tok
  k_TOO_FEW_SEATS:Tok
  k_NO_SEAT_FREE:Tok
  k_BEGINS:Tok
  k_PAIR:Tok
  k_RIDER:Tok
  k_DROP:Tok
  k_FULL:Tok
  k_BEST:Tok
  k_COST:Tok
  k_WIDTHS:Addr
structure Txt (K:W.Frag) (mg:Str→Option Value) (a:Adr):Prop where
  cl_Rider:Cls K a.C_Rider
  g_Rider:mg "Rider"=some (.ref a.C_Rider)
  no_Rider_start:vW K a.C_Rider "start"
  no_Rider_to:vW K a.C_Rider "to"
  no_Rider_group:vW K a.C_Rider "group"
  no_Rider_wished:vW K a.C_Rider "wished"
  M_Rider:Mk K a.C_Rider a.f_qa
  cl_Train:Cls K a.C_Train
  g_Train:mg "Train"=some (.ref a.C_Train)
  no_Train_legs:vW K a.C_Train "legs"
  no_Train_seats:vW K a.C_Train "seats"
  no_Train_move:vW K a.C_Train "move"
  no_Train_wish:vW K a.C_Train "wish"
  no_Train_apart:vW K a.C_Train "apart"
  no_Train_beside:vW K a.C_Train "beside"
  no_Train_riders:vW K a.C_Train "riders"
  M_Train:Mk K a.C_Train a.f_qb
  cl_Least:Cls K a.C_Least
  g_Least:mg "Least"=some (.ref a.C_Least)
  no_Least_price:vW K a.C_Least "price"
  no_Least_ways:vW K a.C_Least "ways"
  M_Least:Mk K a.C_Least a.f_qu
  cl_Stays:Cls K a.C_Stays
  g_Stays:mg "Stays"=some (.ref a.C_Stays)
  no_Stays_sittings:vW K a.C_Stays "sittings"
  no_Stays_moves:vW K a.C_Stays "moves"
  M_Stays:Mk K a.C_Stays a.f_qy
  F_qa:Fun K "__init__" "Rider.__init__" jq9 a.f_qa a.d_qa
  b_qa:j3 K a.d_qa ["self","start","to","group","wished"] []
  F_qb:Fun K "__init__" "Train.__init__" jqJ a.f_qb a.d_qb
  b_qb:j3 K a.d_qb ["self"] []
  F_qc:Fun K "begins" "Train.begins" jqK a.f_qc a.d_qc
  b_qc:j3 K a.d_qc ["self","legs","seats","move","wish","apart"] []
  m_qc:oR K a.C_Train "begins" a.f_qc
  F_qd:Fun K "pair" "Train.pair" jqV a.f_qd a.d_qd
  b_qd:j3 K a.d_qd ["self","a","b"] []
  m_qd:oR K a.C_Train "pair" a.f_qd
  F_qe:Fun K "rider" "Train.rider" jqZ a.f_qe a.d_qe
  b_qe:j3 K a.d_qe ["self","start","to","group","wished"] []
  m_qe:oR K a.C_Train "rider" a.f_qe
  F_qf:Fun K "drop" "Train.drop" jqW a.f_qf a.d_qf
  b_qf:j3 K a.d_qf ["self","i"] []
  m_qf:oR K a.C_Train "drop" a.f_qf
  F_qg:Fun K "aboard" "Train.aboard" jqQ a.f_qg a.d_qg
  b_qg:j3 K a.d_qg ["self","leg"] []
  m_qg:oR K a.C_Train "aboard" a.f_qg
  F_qh:Fun K "how_full" "Train.how_full" jqX a.f_qh a.d_qh
  b_qh:j3 K a.d_qh ["self"] []
  m_qh:oR K a.C_Train "how_full" a.f_qh
  F_qi:Fun K "has_too_few_seats" "Train.has_too_few_seats" jqY a.f_qi a.d_qi
  b_qi:j3 K a.d_qi ["self"] []
  m_qi:oR K a.C_Train "has_too_few_seats" a.f_qi
  F_qj:Fun K "wishes_not_kept" "wishes_not_kept" jy0 a.f_qj a.d_qj
  b_qj:j3 K a.d_qj ["train","seated"] []
  g_qj:mg "wishes_not_kept"=some (.ref a.f_qj)
  F_qk:Fun K "are_one_group" "are_one_group" jy1 a.f_qk a.d_qk
  b_qk:j3 K a.d_qk ["train","i","j"] []
  g_qk:mg "are_one_group"=some (.ref a.f_qk)
  F_ql:Fun K "pairs_apart" "pairs_apart" jy2 a.f_ql a.d_ql
  b_ql:j3 K a.d_ql ["train","seated"] []
  g_ql:mg "pairs_apart"=some (.ref a.f_ql)
  F_qm:Fun K "leg_cost" "leg_cost" jy3 a.f_qm a.d_qm
  b_qm:j3 K a.d_qm ["train","seated"] []
  g_qm:mg "leg_cost"=some (.ref a.f_qm)
  F_qn:Fun K "moves_between" "moves_between" jy4 a.f_qn a.d_qn
  b_qn:j3 K a.d_qn ["seated","seated_behind"] []
  g_qn:mg "moves_between"=some (.ref a.f_qn)
  F_qo:Fun K "moves_of" "moves_of" jy5 a.f_qo a.d_qo
  b_qo:j3 K a.d_qo ["plan"] []
  g_qo:mg "moves_of"=some (.ref a.f_qo)
  F_qp:Fun K "cost_of" "cost_of" jy6 a.f_qp a.d_qp
  b_qp:j3 K a.d_qp ["train","plan"] []
  g_qp:mg "cost_of"=some (.ref a.f_qp)
  F_qq:Fun K "rows_of" "rows_of" jy7 a.f_qq a.d_qq
  b_qq:j3 K a.d_qq ["told"] []
  g_qq:mg "rows_of"=some (.ref a.f_qq)
  F_qr:Fun K "seats_those_aboard" "seats_those_aboard" jy8 a.f_qr a.d_qr
  b_qr:j3 K a.d_qr ["train","leg","row"] []
  g_qr:mg "seats_those_aboard"=some (.ref a.f_qr)
  F_qs:Fun K "is_plan" "is_plan" jy9 a.f_qs a.d_qs
  b_qs:j3 K a.d_qs ["train","rows"] []
  g_qs:mg "is_plan"=some (.ref a.f_qs)
  F_qt:Fun K "cost" "cost" jyJ a.f_qt a.d_qt
  b_qt:j3 K a.d_qt ["train","told"] []
  g_qt:mg "cost"=some (.ref a.f_qt)
  F_qu:Fun K "__init__" "Least.__init__" jyK a.f_qu a.d_qu
  b_qu:j3 K a.d_qu ["self","price","ways"] []
  F_qv:Fun K "least_of" "least_of" jyV a.f_qv a.d_qv
  b_qv:j3 K a.d_qv ["prices","ways"] []
  g_qv:mg "least_of"=some (.ref a.f_qv)
  F_qw:Fun K "sittings_of" "sittings_of" jyZ a.f_qw a.d_qw
  b_qw:j3 K a.d_qw ["seats","riders"] []
  g_qw:mg "sittings_of"=some (.ref a.f_qw)
  F_qx:Fun K "moved" "moved" jyW a.f_qx a.d_qx
  b_qx:j3 K a.d_qx ["sitting","other"] []
  g_qx:mg "moved"=some (.ref a.f_qx)
  F_qy:Fun K "__init__" "Stays.__init__" jyQ a.f_qy a.d_qy
  b_qy:j3 K a.d_qy ["self","seats","riders"] []
  F_qz:Fun K "part_of" "part_of" jyX a.f_qz a.d_qz
  b_qz:j3 K a.d_qz ["sitting","aboard","some"] []
  g_qz:mg "part_of"=some (.ref a.f_qz)
  F_xa:Fun K "least_by_part" "least_by_part" jyY a.f_xa a.d_xa
  b_xa:j3 K a.d_xa ["table","aboard","some"] []
  g_xa:mg "least_by_part"=some (.ref a.f_xa)
  F_xb:Fun K "least_with_moves" "least_with_moves" jx0 a.f_xb a.d_xb
  b_xb:j3 K a.d_xb ["move","stays","behind"] []
  g_xb:mg "least_with_moves"=some (.ref a.f_xb)
  F_xc:Fun K "table_of" "table_of" jx1 a.f_xc a.d_xc
  b_xc:j3 K a.d_xc ["train","leg","staying","onward"] []
  g_xc:mg "table_of"=some (.ref a.f_xc)
  F_xd:Fun K "tables_of" "tables_of" jx2 a.f_xd a.d_xd
  b_xd:j3 K a.d_xd ["train"] []
  g_xd:mg "tables_of"=some (.ref a.f_xd)
  F_xe:Fun K "earliest_seated" "earliest_seated" iL a.f_xe a.d_xe
  b_xe:j3 K a.d_xe ["train","leg","table","seated_before"] []
  g_xe:mg "earliest_seated"=some (.ref a.f_xe)
  F_xf:Fun K "earliest_plan" "earliest_plan" jx3 a.f_xf a.d_xf
  b_xf:j3 K a.d_xf ["train","tables"] []
  g_xf:mg "earliest_plan"=some (.ref a.f_xf)
  F_xg:Fun K "seats_of" "seats_of" jx4 a.f_xg a.d_xg
  b_xg:j3 K a.d_xg ["plan","i"] []
  g_xg:mg "seats_of"=some (.ref a.f_xg)
  F_xh:Fun K "best" "best" jx5 a.f_xh a.d_xh
  b_xh:j3 K a.d_xh ["train"] []
  g_xh:mg "best"=some (.ref a.f_xh)
  F_xi:Fun K "free_seats" "free_seats" jx6 a.f_xi a.d_xi
  b_xi:j3 K a.d_xi ["train","seated"] []
  g_xi:mg "free_seats"=some (.ref a.f_xi)
  F_xj:Fun K "free_until" "free_until" jx7 a.f_xj a.d_xj
  b_xj:j3 K a.d_xj ["free","seat","leg","to"] []
  g_xj:mg "free_until"=some (.ref a.f_xj)
  F_xk:Fun K "seat_from" "seat_from" lT a.f_xk a.d_xk
  b_xk:j3 K a.d_xk ["free","leg","to"] []
  g_xk:mg "seat_from"=some (.ref a.f_xk)
  F_xl:Fun K "seats_on_the_way" "seats_on_the_way" jx8 a.f_xl a.d_xl
  b_xl:j3 K a.d_xl ["free","start","to"] []
  g_xl:mg "seats_on_the_way"=some (.ref a.f_xl)
  F_xm:Fun K "more" "more" jx9 a.f_xm a.d_xm
  b_xm:j3 K a.d_xm ["train","start","to"] []
  g_xm:mg "more"=some (.ref a.f_xm)
  F_xn:Fun K "end_of" "end_of" jxJ a.f_xn a.d_xn
  b_xn:j3 K a.d_xn ["calls","at"] []
  g_xn:mg "end_of"=some (.ref a.f_xn)
  F_xo:Fun K "change_by" "change_by" jxK a.f_xo a.d_xo
  b_xo:j3 K a.d_xo ["train","call","told"] []
  g_xo:mg "change_by"=some (.ref a.f_xo)
  F_xp:Fun K "look_by" "look_by" jxV a.f_xp a.d_xp
  b_xp:j3 K a.d_xp ["train","call","told"] []
  g_xp:mg "look_by"=some (.ref a.f_xp)
  F_xq:Fun K "laid_out" "laid_out" jxZ a.f_xq a.d_xq
  b_xq:j3 K a.d_xq ["number","lists"] []
  g_xq:mg "laid_out"=some (.ref a.f_xq)
  F_xr:Fun K "answer_of" "answer_of" jxW a.f_xr a.d_xr
  b_xr:j3 K a.d_xr ["train","call","told"] []
  g_xr:mg "answer_of"=some (.ref a.f_xr)
  F_xs:Fun K "answers" "answers" jxQ a.f_xs a.d_xs
  b_xs:j3 K a.d_xs ["calls"] []
  g_xs:mg "answers"=some (.ref a.f_xs)
  hc_xe:a.d_xe.code=.ref a.c_xe
  hc_xk:a.d_xk.code=.ref a.c_xk
  g_MOST_LEGS:mg "MOST_LEGS"=some (.int (8) a.k_MOST_LEGS)
  g_MOST_SEATS:mg "MOST_SEATS"=some (.int (5) a.k_MOST_SEATS)
  g_MOST_COST:mg "MOST_COST"=some (.int (10000) a.k_MOST_COST)
  g_MOST_GROUP:mg "MOST_GROUP"=some (.int (9) a.k_MOST_GROUP)
  g_MOST_RIDERS:mg "MOST_RIDERS"=some (.int (20) a.k_MOST_RIDERS)
  g_DONE:mg "DONE"=some (.int (0) a.k_DONE)
  g_OUT_OF_BOUNDS:mg "OUT_OF_BOUNDS"=some (.int (-1) a.k_OUT_OF_BOUNDS)
  g_NOT_THERE:mg "NOT_THERE"=some (.int (-2) a.k_NOT_THERE)
  g_NO_NEW_PAIR:mg "NO_NEW_PAIR"=some (.int (-3) a.k_NO_NEW_PAIR)
  g_NO_PLAN:mg "NO_PLAN"=some (.int (-3) a.k_NO_PLAN)
  g_NO_ROOM_FOR_RIDERS:mg "NO_ROOM_FOR_RIDERS"=some (.int (-5) a.k_NO_ROOM_FOR_RIDERS)
  g_TOO_FEW_SEATS:mg "TOO_FEW_SEATS"=some (.int (-6) a.k_TOO_FEW_SEATS)
  g_NO_SEAT_FREE:mg "NO_SEAT_FREE"=some (.int (-7) a.k_NO_SEAT_FREE)
  g_BEGINS:mg "BEGINS"=some (.int (0) a.k_BEGINS)
  g_PAIR:mg "PAIR"=some (.int (1) a.k_PAIR)
  g_RIDER:mg "RIDER"=some (.int (2) a.k_RIDER)
  g_DROP:mg "DROP"=some (.int (3) a.k_DROP)
  g_FULL:mg "FULL"=some (.int (4) a.k_FULL)
  g_BEST:mg "BEST"=some (.int (5) a.k_BEST)
  g_COST:mg "COST"=some (.int (6) a.k_COST)
  g_WIDTHS:mg "WIDTHS"=some (.ref a.k_WIDTHS)
  s_WIDTHS:∀ H:Hp,SqT K H a.k_WIDTHS [.int (5),.int (2),.int (4),.int (1),.int (0),.int (0),.int (1),.int (2)]
  n_all:mg "all"=none
  n_any:mg "any"=none
  n_dict:mg "dict"=none
  n_enumerate:mg "enumerate"=none
  n_len:mg "len"=none
  n_list:mg "list"=none
  n_max:mg "max"=none
  n_min:mg "min"=none
  n_range:mg "range"=none
  n_set:mg "set"=none
  n_sum:mg "sum"=none
  n_tuple:mg "tuple"=none
  n_zip:mg "zip"=none
  bb_xs:∀ (s:Shared) (us:List Value),us.length=(["calls"]:List Str).length→BindsTo s a.d_xs ⟨us,[]⟩ ((["calls"]:List Str).zip us)
theorem jg2 {K:W.Frag} {h:Heap} {mg:Str→Option Value} {fa:Addr} (X:K.In h) (G:h.Ns mainGlobals mg) (hfa:mg "answers"=some (.ref fa)) {C_Rider C_Train C_Least C_Stays f_qa f_qb f_qc f_qd f_qe f_qf f_qg f_qh f_qi f_qj f_qk f_ql f_qm f_qn f_qo f_qp f_qq f_qr f_qs f_qt f_qu f_qv f_qw f_qx f_qy f_qz f_xa f_xb f_xc f_xd f_xe ca_xe f_xf f_xg f_xh f_xi f_xj f_xk ca_xk f_xl f_xm f_xn f_xo f_xp f_xq f_xr f_xs t_WIDTHS:Addr} {od_qa an_qa od_qb an_qb od_qc an_qc od_qd an_qd od_qe an_qe od_qf an_qf od_qg an_qg od_qh an_qh od_qi an_qi od_qj an_qj od_qk an_qk od_ql an_ql od_qm an_qm od_qn an_qn od_qo an_qo od_qp an_qp od_qq an_qq od_qr an_qr od_qs an_qs od_qt an_qt od_qu an_qu od_qv an_qv od_qw an_qw od_qx an_qx od_qy an_qy od_qz an_qz od_xa an_xa od_xb an_xb od_xc an_xc od_xd an_xd od_xe an_xe od_xf an_xf od_xg an_xg od_xh an_xh od_xi an_xi od_xj an_xj od_xk an_xk od_xl an_xl od_xm an_xm od_xn an_xn od_xo an_xo od_xp an_xp od_xq an_xq od_xr an_xr od_xs an_xs cd_WIDTHS:Option Addr} {sl_qa sl_qb sl_qc sl_qd sl_qe sl_qf sl_qg sl_qh sl_qi sl_qj sl_qk sl_ql sl_qm sl_qn sl_qo sl_qp sl_qq sl_qr sl_qs sl_qt sl_qu sl_qv sl_qw sl_qx sl_qy sl_qz sl_xa sl_xb sl_xc sl_xd sl_xe sl_xf sl_xg sl_xh sl_xi sl_xj sl_xk sl_xl sl_xm sl_xn sl_xo sl_xp sl_xq sl_xr sl_xs cs_WIDTHS:Array (Option Value)} {oc_qa kV_qa dc_qa pm_qa ct_qa cd_qa oc_qb kV_qb dc_qb pm_qb ct_qb cd_qb oc_qc kV_qc dc_qc pm_qc ct_qc cd_qc oc_qd kV_qd dc_qd pm_qd ct_qd cd_qd oc_qe kV_qe dc_qe pm_qe ct_qe cd_qe oc_qf kV_qf dc_qf pm_qf ct_qf cd_qf oc_qg kV_qg dc_qg pm_qg ct_qg cd_qg oc_qh kV_qh dc_qh pm_qh ct_qh cd_qh oc_qi kV_qi dc_qi pm_qi ct_qi cd_qi oc_qj kV_qj dc_qj pm_qj ct_qj cd_qj oc_qk kV_qk dc_qk pm_qk ct_qk cd_qk oc_ql kV_ql dc_ql pm_ql ct_ql cd_ql oc_qm kV_qm dc_qm pm_qm ct_qm cd_qm oc_qn kV_qn dc_qn pm_qn ct_qn cd_qn oc_qo kV_qo dc_qo pm_qo ct_qo cd_qo oc_qp kV_qp dc_qp pm_qp ct_qp cd_qp oc_qq kV_qq dc_qq pm_qq ct_qq cd_qq oc_qr kV_qr dc_qr pm_qr ct_qr cd_qr oc_qs kV_qs dc_qs pm_qs ct_qs cd_qs oc_qt kV_qt dc_qt pm_qt ct_qt cd_qt oc_qu kV_qu dc_qu pm_qu ct_qu cd_qu oc_qv kV_qv dc_qv pm_qv ct_qv cd_qv oc_qw kV_qw dc_qw pm_qw ct_qw cd_qw oc_qx kV_qx dc_qx pm_qx ct_qx cd_qx oc_qy kV_qy dc_qy pm_qy ct_qy cd_qy oc_qz kV_qz dc_qz pm_qz ct_qz cd_qz oc_xa kV_xa dc_xa pm_xa ct_xa cd_xa oc_xb kV_xb dc_xb pm_xb ct_xb cd_xb oc_xc kV_xc dc_xc pm_xc ct_xc cd_xc oc_xd kV_xd dc_xd pm_xd ct_xd cd_xd oc_xe kV_xe dc_xe pm_xe ct_xe oc_xf kV_xf dc_xf pm_xf ct_xf cd_xf oc_xg kV_xg dc_xg pm_xg ct_xg cd_xg oc_xh kV_xh dc_xh pm_xh ct_xh cd_xh oc_xi kV_xi dc_xi pm_xi ct_xi cd_xi oc_xj kV_xj dc_xj pm_xj ct_xj cd_xj oc_xk kV_xk dc_xk pm_xk ct_xk oc_xl kV_xl dc_xl pm_xl ct_xl cd_xl oc_xm kV_xm dc_xm pm_xm ct_xm cd_xm oc_xn kV_xn dc_xn pm_xn ct_xn cd_xn oc_xo kV_xo dc_xo pm_xo ct_xo cd_xo oc_xp kV_xp dc_xp pm_xp ct_xp cd_xp oc_xq kV_xq dc_xq pm_xq ct_xq cd_xq oc_xr kV_xr dc_xr pm_xr ct_xr cd_xr oc_xs kV_xs dc_xs pm_xs ct_xs cd_xs:Value} {t_MOST_LEGS t_MOST_SEATS t_MOST_COST t_MOST_GROUP t_MOST_RIDERS t_DONE t_OUT_OF_BOUNDS t_NOT_THERE t_NO_NEW_PAIR t_NO_PLAN t_NO_ROOM_FOR_RIDERS t_TOO_FEW_SEATS t_NO_SEAT_FREE t_BEGINS t_PAIR t_RIDER t_DROP t_FULL t_BEST t_COST u_WIDTHS_0 u_WIDTHS_1 u_WIDTHS_2 u_WIDTHS_3 u_WIDTHS_4 u_WIDTHS_5 u_WIDTHS_6 u_WIDTHS_7:Tok} {n_WIDTHS:Nat}
    (a_Rider:W.nsIn K mainGlobals "Rider"=some (some (.ref C_Rider)))
    (a_Train:W.nsIn K mainGlobals "Train"=some (some (.ref C_Train)))
    (a_Least:W.nsIn K mainGlobals "Least"=some (some (.ref C_Least)))
    (a_Stays:W.nsIn K mainGlobals "Stays"=some (some (.ref C_Stays)))
    (a_qa:W.findIn K (.ref C_Rider) "__init__"=some (some (.ref f_qa)))
    (i_qa:W.isFn K (.ref f_qa)=true)
    (l_qa:K.lookup f_qa=some ⟨oc_qa,od_qa,.func (W.fnOf "__init__" "Rider.__init__" (jB jq9) (jF jq9) (jW jq9) .none kV_qa dc_qa pm_qa an_qa cd_qa ct_qa),sl_qa⟩)
    (c_qa:W.codeIn K cd_qa "Rider.__init__"=true)
    (k_qa:W.keepIn K (.ref f_qa)=true)
    (a_qb:W.findIn K (.ref C_Train) "__init__"=some (some (.ref f_qb)))
    (i_qb:W.isFn K (.ref f_qb)=true)
    (l_qb:K.lookup f_qb=some ⟨oc_qb,od_qb,.func (W.fnOf "__init__" "Train.__init__" (jB jqJ) (jF jqJ) (jW jqJ) .none kV_qb dc_qb pm_qb an_qb cd_qb ct_qb),sl_qb⟩)
    (c_qb:W.codeIn K cd_qb "Train.__init__"=true)
    (k_qb:W.keepIn K (.ref f_qb)=true)
    (a_qc:W.findIn K (.ref C_Train) "begins"=some (some (.ref f_qc)))
    (i_qc:W.isFn K (.ref f_qc)=true)
    (l_qc:K.lookup f_qc=some ⟨oc_qc,od_qc,.func (W.fnOf "begins" "Train.begins" (jB jqK) (jF jqK) (jW jqK) .none kV_qc dc_qc pm_qc an_qc cd_qc ct_qc),sl_qc⟩)
    (c_qc:W.codeIn K cd_qc "Train.begins"=true)
    (k_qc:W.keepIn K (.ref f_qc)=true)
    (a_qd:W.findIn K (.ref C_Train) "pair"=some (some (.ref f_qd)))
    (i_qd:W.isFn K (.ref f_qd)=true)
    (l_qd:K.lookup f_qd=some ⟨oc_qd,od_qd,.func (W.fnOf "pair" "Train.pair" (jB jqV) (jF jqV) (jW jqV) .none kV_qd dc_qd pm_qd an_qd cd_qd ct_qd),sl_qd⟩)
    (c_qd:W.codeIn K cd_qd "Train.pair"=true)
    (k_qd:W.keepIn K (.ref f_qd)=true)
    (a_qe:W.findIn K (.ref C_Train) "rider"=some (some (.ref f_qe)))
    (i_qe:W.isFn K (.ref f_qe)=true)
    (l_qe:K.lookup f_qe=some ⟨oc_qe,od_qe,.func (W.fnOf "rider" "Train.rider" (jB jqZ) (jF jqZ) (jW jqZ) .none kV_qe dc_qe pm_qe an_qe cd_qe ct_qe),sl_qe⟩)
    (c_qe:W.codeIn K cd_qe "Train.rider"=true)
    (k_qe:W.keepIn K (.ref f_qe)=true)
    (a_qf:W.findIn K (.ref C_Train) "drop"=some (some (.ref f_qf)))
    (i_qf:W.isFn K (.ref f_qf)=true)
    (l_qf:K.lookup f_qf=some ⟨oc_qf,od_qf,.func (W.fnOf "drop" "Train.drop" (jB jqW) (jF jqW) (jW jqW) .none kV_qf dc_qf pm_qf an_qf cd_qf ct_qf),sl_qf⟩)
    (c_qf:W.codeIn K cd_qf "Train.drop"=true)
    (k_qf:W.keepIn K (.ref f_qf)=true)
    (a_qg:W.findIn K (.ref C_Train) "aboard"=some (some (.ref f_qg)))
    (i_qg:W.isFn K (.ref f_qg)=true)
    (l_qg:K.lookup f_qg=some ⟨oc_qg,od_qg,.func (W.fnOf "aboard" "Train.aboard" (jB jqQ) (jF jqQ) (jW jqQ) .none kV_qg dc_qg pm_qg an_qg cd_qg ct_qg),sl_qg⟩)
    (c_qg:W.codeIn K cd_qg "Train.aboard"=true)
    (k_qg:W.keepIn K (.ref f_qg)=true)
    (a_qh:W.findIn K (.ref C_Train) "how_full"=some (some (.ref f_qh)))
    (i_qh:W.isFn K (.ref f_qh)=true)
    (l_qh:K.lookup f_qh=some ⟨oc_qh,od_qh,.func (W.fnOf "how_full" "Train.how_full" (jB jqX) (jF jqX) (jW jqX) .none kV_qh dc_qh pm_qh an_qh cd_qh ct_qh),sl_qh⟩)
    (c_qh:W.codeIn K cd_qh "Train.how_full"=true)
    (k_qh:W.keepIn K (.ref f_qh)=true)
    (a_qi:W.findIn K (.ref C_Train) "has_too_few_seats"=some (some (.ref f_qi)))
    (i_qi:W.isFn K (.ref f_qi)=true)
    (l_qi:K.lookup f_qi=some ⟨oc_qi,od_qi,.func (W.fnOf "has_too_few_seats" "Train.has_too_few_seats" (jB jqY) (jF jqY) (jW jqY) .none kV_qi dc_qi pm_qi an_qi cd_qi ct_qi),sl_qi⟩)
    (c_qi:W.codeIn K cd_qi "Train.has_too_few_seats"=true)
    (k_qi:W.keepIn K (.ref f_qi)=true)
    (a_qj:W.nsIn K mainGlobals "wishes_not_kept"=some (some (.ref f_qj)))
    (l_qj:K.lookup f_qj=some ⟨oc_qj,od_qj,.func (W.fnOf "wishes_not_kept" "wishes_not_kept" (jB jy0) (jF jy0) (jW jy0) .none kV_qj dc_qj pm_qj an_qj cd_qj ct_qj),sl_qj⟩)
    (c_qj:W.codeIn K cd_qj "wishes_not_kept"=true)
    (k_qj:W.keepIn K (.ref f_qj)=true)
    (a_qk:W.nsIn K mainGlobals "are_one_group"=some (some (.ref f_qk)))
    (l_qk:K.lookup f_qk=some ⟨oc_qk,od_qk,.func (W.fnOf "are_one_group" "are_one_group" (jB jy1) (jF jy1) (jW jy1) .none kV_qk dc_qk pm_qk an_qk cd_qk ct_qk),sl_qk⟩)
    (c_qk:W.codeIn K cd_qk "are_one_group"=true)
    (k_qk:W.keepIn K (.ref f_qk)=true)
    (a_ql:W.nsIn K mainGlobals "pairs_apart"=some (some (.ref f_ql)))
    (l_ql:K.lookup f_ql=some ⟨oc_ql,od_ql,.func (W.fnOf "pairs_apart" "pairs_apart" (jB jy2) (jF jy2) (jW jy2) .none kV_ql dc_ql pm_ql an_ql cd_ql ct_ql),sl_ql⟩)
    (c_ql:W.codeIn K cd_ql "pairs_apart"=true)
    (k_ql:W.keepIn K (.ref f_ql)=true)
    (a_qm:W.nsIn K mainGlobals "leg_cost"=some (some (.ref f_qm)))
    (l_qm:K.lookup f_qm=some ⟨oc_qm,od_qm,.func (W.fnOf "leg_cost" "leg_cost" (jB jy3) (jF jy3) (jW jy3) .none kV_qm dc_qm pm_qm an_qm cd_qm ct_qm),sl_qm⟩)
    (c_qm:W.codeIn K cd_qm "leg_cost"=true)
    (k_qm:W.keepIn K (.ref f_qm)=true)
    (a_qn:W.nsIn K mainGlobals "moves_between"=some (some (.ref f_qn)))
    (l_qn:K.lookup f_qn=some ⟨oc_qn,od_qn,.func (W.fnOf "moves_between" "moves_between" (jB jy4) (jF jy4) (jW jy4) .none kV_qn dc_qn pm_qn an_qn cd_qn ct_qn),sl_qn⟩)
    (c_qn:W.codeIn K cd_qn "moves_between"=true)
    (k_qn:W.keepIn K (.ref f_qn)=true)
    (a_qo:W.nsIn K mainGlobals "moves_of"=some (some (.ref f_qo)))
    (l_qo:K.lookup f_qo=some ⟨oc_qo,od_qo,.func (W.fnOf "moves_of" "moves_of" (jB jy5) (jF jy5) (jW jy5) .none kV_qo dc_qo pm_qo an_qo cd_qo ct_qo),sl_qo⟩)
    (c_qo:W.codeIn K cd_qo "moves_of"=true)
    (k_qo:W.keepIn K (.ref f_qo)=true)
    (a_qp:W.nsIn K mainGlobals "cost_of"=some (some (.ref f_qp)))
    (l_qp:K.lookup f_qp=some ⟨oc_qp,od_qp,.func (W.fnOf "cost_of" "cost_of" (jB jy6) (jF jy6) (jW jy6) .none kV_qp dc_qp pm_qp an_qp cd_qp ct_qp),sl_qp⟩)
    (c_qp:W.codeIn K cd_qp "cost_of"=true)
    (k_qp:W.keepIn K (.ref f_qp)=true)
    (a_qq:W.nsIn K mainGlobals "rows_of"=some (some (.ref f_qq)))
    (l_qq:K.lookup f_qq=some ⟨oc_qq,od_qq,.func (W.fnOf "rows_of" "rows_of" (jB jy7) (jF jy7) (jW jy7) .none kV_qq dc_qq pm_qq an_qq cd_qq ct_qq),sl_qq⟩)
    (c_qq:W.codeIn K cd_qq "rows_of"=true)
    (k_qq:W.keepIn K (.ref f_qq)=true)
    (a_qr:W.nsIn K mainGlobals "seats_those_aboard"=some (some (.ref f_qr)))
    (l_qr:K.lookup f_qr=some ⟨oc_qr,od_qr,.func (W.fnOf "seats_those_aboard" "seats_those_aboard" (jB jy8) (jF jy8) (jW jy8) .none kV_qr dc_qr pm_qr an_qr cd_qr ct_qr),sl_qr⟩)
    (c_qr:W.codeIn K cd_qr "seats_those_aboard"=true)
    (k_qr:W.keepIn K (.ref f_qr)=true)
    (a_qs:W.nsIn K mainGlobals "is_plan"=some (some (.ref f_qs)))
    (l_qs:K.lookup f_qs=some ⟨oc_qs,od_qs,.func (W.fnOf "is_plan" "is_plan" (jB jy9) (jF jy9) (jW jy9) .none kV_qs dc_qs pm_qs an_qs cd_qs ct_qs),sl_qs⟩)
    (c_qs:W.codeIn K cd_qs "is_plan"=true)
    (k_qs:W.keepIn K (.ref f_qs)=true)
    (a_qt:W.nsIn K mainGlobals "cost"=some (some (.ref f_qt)))
    (l_qt:K.lookup f_qt=some ⟨oc_qt,od_qt,.func (W.fnOf "cost" "cost" (jB jyJ) (jF jyJ) (jW jyJ) .none kV_qt dc_qt pm_qt an_qt cd_qt ct_qt),sl_qt⟩)
    (c_qt:W.codeIn K cd_qt "cost"=true)
    (k_qt:W.keepIn K (.ref f_qt)=true)
    (a_qu:W.findIn K (.ref C_Least) "__init__"=some (some (.ref f_qu)))
    (i_qu:W.isFn K (.ref f_qu)=true)
    (l_qu:K.lookup f_qu=some ⟨oc_qu,od_qu,.func (W.fnOf "__init__" "Least.__init__" (jB jyK) (jF jyK) (jW jyK) .none kV_qu dc_qu pm_qu an_qu cd_qu ct_qu),sl_qu⟩)
    (c_qu:W.codeIn K cd_qu "Least.__init__"=true)
    (k_qu:W.keepIn K (.ref f_qu)=true)
    (a_qv:W.nsIn K mainGlobals "least_of"=some (some (.ref f_qv)))
    (l_qv:K.lookup f_qv=some ⟨oc_qv,od_qv,.func (W.fnOf "least_of" "least_of" (jB jyV) (jF jyV) (jW jyV) .none kV_qv dc_qv pm_qv an_qv cd_qv ct_qv),sl_qv⟩)
    (c_qv:W.codeIn K cd_qv "least_of"=true)
    (k_qv:W.keepIn K (.ref f_qv)=true)
    (a_qw:W.nsIn K mainGlobals "sittings_of"=some (some (.ref f_qw)))
    (l_qw:K.lookup f_qw=some ⟨oc_qw,od_qw,.func (W.fnOf "sittings_of" "sittings_of" (jB jyZ) (jF jyZ) (jW jyZ) .none kV_qw dc_qw pm_qw an_qw cd_qw ct_qw),sl_qw⟩)
    (c_qw:W.codeIn K cd_qw "sittings_of"=true)
    (k_qw:W.keepIn K (.ref f_qw)=true)
    (a_qx:W.nsIn K mainGlobals "moved"=some (some (.ref f_qx)))
    (l_qx:K.lookup f_qx=some ⟨oc_qx,od_qx,.func (W.fnOf "moved" "moved" (jB jyW) (jF jyW) (jW jyW) .none kV_qx dc_qx pm_qx an_qx cd_qx ct_qx),sl_qx⟩)
    (c_qx:W.codeIn K cd_qx "moved"=true)
    (k_qx:W.keepIn K (.ref f_qx)=true)
    (a_qy:W.findIn K (.ref C_Stays) "__init__"=some (some (.ref f_qy)))
    (i_qy:W.isFn K (.ref f_qy)=true)
    (l_qy:K.lookup f_qy=some ⟨oc_qy,od_qy,.func (W.fnOf "__init__" "Stays.__init__" (jB jyQ) (jF jyQ) (jW jyQ) .none kV_qy dc_qy pm_qy an_qy cd_qy ct_qy),sl_qy⟩)
    (c_qy:W.codeIn K cd_qy "Stays.__init__"=true)
    (k_qy:W.keepIn K (.ref f_qy)=true)
    (a_qz:W.nsIn K mainGlobals "part_of"=some (some (.ref f_qz)))
    (l_qz:K.lookup f_qz=some ⟨oc_qz,od_qz,.func (W.fnOf "part_of" "part_of" (jB jyX) (jF jyX) (jW jyX) .none kV_qz dc_qz pm_qz an_qz cd_qz ct_qz),sl_qz⟩)
    (c_qz:W.codeIn K cd_qz "part_of"=true)
    (k_qz:W.keepIn K (.ref f_qz)=true)
    (a_xa:W.nsIn K mainGlobals "least_by_part"=some (some (.ref f_xa)))
    (l_xa:K.lookup f_xa=some ⟨oc_xa,od_xa,.func (W.fnOf "least_by_part" "least_by_part" (jB jyY) (jF jyY) (jW jyY) .none kV_xa dc_xa pm_xa an_xa cd_xa ct_xa),sl_xa⟩)
    (c_xa:W.codeIn K cd_xa "least_by_part"=true)
    (k_xa:W.keepIn K (.ref f_xa)=true)
    (a_xb:W.nsIn K mainGlobals "least_with_moves"=some (some (.ref f_xb)))
    (l_xb:K.lookup f_xb=some ⟨oc_xb,od_xb,.func (W.fnOf "least_with_moves" "least_with_moves" (jB jx0) (jF jx0) (jW jx0) .none kV_xb dc_xb pm_xb an_xb cd_xb ct_xb),sl_xb⟩)
    (c_xb:W.codeIn K cd_xb "least_with_moves"=true)
    (k_xb:W.keepIn K (.ref f_xb)=true)
    (a_xc:W.nsIn K mainGlobals "table_of"=some (some (.ref f_xc)))
    (l_xc:K.lookup f_xc=some ⟨oc_xc,od_xc,.func (W.fnOf "table_of" "table_of" (jB jx1) (jF jx1) (jW jx1) .none kV_xc dc_xc pm_xc an_xc cd_xc ct_xc),sl_xc⟩)
    (c_xc:W.codeIn K cd_xc "table_of"=true)
    (k_xc:W.keepIn K (.ref f_xc)=true)
    (a_xd:W.nsIn K mainGlobals "tables_of"=some (some (.ref f_xd)))
    (l_xd:K.lookup f_xd=some ⟨oc_xd,od_xd,.func (W.fnOf "tables_of" "tables_of" (jB jx2) (jF jx2) (jW jx2) .none kV_xd dc_xd pm_xd an_xd cd_xd ct_xd),sl_xd⟩)
    (c_xd:W.codeIn K cd_xd "tables_of"=true)
    (k_xd:W.keepIn K (.ref f_xd)=true)
    (a_xe:W.nsIn K mainGlobals "earliest_seated"=some (some (.ref f_xe)))
    (l_xe:K.lookup f_xe=some ⟨oc_xe,od_xe,.func (W.fnOf "earliest_seated" "earliest_seated" (jB iL) (jF iL) (jW iL) .none kV_xe dc_xe pm_xe an_xe (.ref ca_xe) ct_xe),sl_xe⟩)
    (c_xe:W.codeIn K (.ref ca_xe) "earliest_seated"=true)
    (k_xe:W.keepIn K (.ref f_xe)=true)
    (a_xf:W.nsIn K mainGlobals "earliest_plan"=some (some (.ref f_xf)))
    (l_xf:K.lookup f_xf=some ⟨oc_xf,od_xf,.func (W.fnOf "earliest_plan" "earliest_plan" (jB jx3) (jF jx3) (jW jx3) .none kV_xf dc_xf pm_xf an_xf cd_xf ct_xf),sl_xf⟩)
    (c_xf:W.codeIn K cd_xf "earliest_plan"=true)
    (k_xf:W.keepIn K (.ref f_xf)=true)
    (a_xg:W.nsIn K mainGlobals "seats_of"=some (some (.ref f_xg)))
    (l_xg:K.lookup f_xg=some ⟨oc_xg,od_xg,.func (W.fnOf "seats_of" "seats_of" (jB jx4) (jF jx4) (jW jx4) .none kV_xg dc_xg pm_xg an_xg cd_xg ct_xg),sl_xg⟩)
    (c_xg:W.codeIn K cd_xg "seats_of"=true)
    (k_xg:W.keepIn K (.ref f_xg)=true)
    (a_xh:W.nsIn K mainGlobals "best"=some (some (.ref f_xh)))
    (l_xh:K.lookup f_xh=some ⟨oc_xh,od_xh,.func (W.fnOf "best" "best" (jB jx5) (jF jx5) (jW jx5) .none kV_xh dc_xh pm_xh an_xh cd_xh ct_xh),sl_xh⟩)
    (c_xh:W.codeIn K cd_xh "best"=true)
    (k_xh:W.keepIn K (.ref f_xh)=true)
    (a_xi:W.nsIn K mainGlobals "free_seats"=some (some (.ref f_xi)))
    (l_xi:K.lookup f_xi=some ⟨oc_xi,od_xi,.func (W.fnOf "free_seats" "free_seats" (jB jx6) (jF jx6) (jW jx6) .none kV_xi dc_xi pm_xi an_xi cd_xi ct_xi),sl_xi⟩)
    (c_xi:W.codeIn K cd_xi "free_seats"=true)
    (k_xi:W.keepIn K (.ref f_xi)=true)
    (a_xj:W.nsIn K mainGlobals "free_until"=some (some (.ref f_xj)))
    (l_xj:K.lookup f_xj=some ⟨oc_xj,od_xj,.func (W.fnOf "free_until" "free_until" (jB jx7) (jF jx7) (jW jx7) .none kV_xj dc_xj pm_xj an_xj cd_xj ct_xj),sl_xj⟩)
    (c_xj:W.codeIn K cd_xj "free_until"=true)
    (k_xj:W.keepIn K (.ref f_xj)=true)
    (a_xk:W.nsIn K mainGlobals "seat_from"=some (some (.ref f_xk)))
    (l_xk:K.lookup f_xk=some ⟨oc_xk,od_xk,.func (W.fnOf "seat_from" "seat_from" (jB lT) (jF lT) (jW lT) .none kV_xk dc_xk pm_xk an_xk (.ref ca_xk) ct_xk),sl_xk⟩)
    (c_xk:W.codeIn K (.ref ca_xk) "seat_from"=true)
    (k_xk:W.keepIn K (.ref f_xk)=true)
    (a_xl:W.nsIn K mainGlobals "seats_on_the_way"=some (some (.ref f_xl)))
    (l_xl:K.lookup f_xl=some ⟨oc_xl,od_xl,.func (W.fnOf "seats_on_the_way" "seats_on_the_way" (jB jx8) (jF jx8) (jW jx8) .none kV_xl dc_xl pm_xl an_xl cd_xl ct_xl),sl_xl⟩)
    (c_xl:W.codeIn K cd_xl "seats_on_the_way"=true)
    (k_xl:W.keepIn K (.ref f_xl)=true)
    (a_xm:W.nsIn K mainGlobals "more"=some (some (.ref f_xm)))
    (l_xm:K.lookup f_xm=some ⟨oc_xm,od_xm,.func (W.fnOf "more" "more" (jB jx9) (jF jx9) (jW jx9) .none kV_xm dc_xm pm_xm an_xm cd_xm ct_xm),sl_xm⟩)
    (c_xm:W.codeIn K cd_xm "more"=true)
    (k_xm:W.keepIn K (.ref f_xm)=true)
    (a_xn:W.nsIn K mainGlobals "end_of"=some (some (.ref f_xn)))
    (l_xn:K.lookup f_xn=some ⟨oc_xn,od_xn,.func (W.fnOf "end_of" "end_of" (jB jxJ) (jF jxJ) (jW jxJ) .none kV_xn dc_xn pm_xn an_xn cd_xn ct_xn),sl_xn⟩)
    (c_xn:W.codeIn K cd_xn "end_of"=true)
    (k_xn:W.keepIn K (.ref f_xn)=true)
    (a_xo:W.nsIn K mainGlobals "change_by"=some (some (.ref f_xo)))
    (l_xo:K.lookup f_xo=some ⟨oc_xo,od_xo,.func (W.fnOf "change_by" "change_by" (jB jxK) (jF jxK) (jW jxK) .none kV_xo dc_xo pm_xo an_xo cd_xo ct_xo),sl_xo⟩)
    (c_xo:W.codeIn K cd_xo "change_by"=true)
    (k_xo:W.keepIn K (.ref f_xo)=true)
    (a_xp:W.nsIn K mainGlobals "look_by"=some (some (.ref f_xp)))
    (l_xp:K.lookup f_xp=some ⟨oc_xp,od_xp,.func (W.fnOf "look_by" "look_by" (jB jxV) (jF jxV) (jW jxV) .none kV_xp dc_xp pm_xp an_xp cd_xp ct_xp),sl_xp⟩)
    (c_xp:W.codeIn K cd_xp "look_by"=true)
    (k_xp:W.keepIn K (.ref f_xp)=true)
    (a_xq:W.nsIn K mainGlobals "laid_out"=some (some (.ref f_xq)))
    (l_xq:K.lookup f_xq=some ⟨oc_xq,od_xq,.func (W.fnOf "laid_out" "laid_out" (jB jxZ) (jF jxZ) (jW jxZ) .none kV_xq dc_xq pm_xq an_xq cd_xq ct_xq),sl_xq⟩)
    (c_xq:W.codeIn K cd_xq "laid_out"=true)
    (k_xq:W.keepIn K (.ref f_xq)=true)
    (a_xr:W.nsIn K mainGlobals "answer_of"=some (some (.ref f_xr)))
    (l_xr:K.lookup f_xr=some ⟨oc_xr,od_xr,.func (W.fnOf "answer_of" "answer_of" (jB jxW) (jF jxW) (jW jxW) .none kV_xr dc_xr pm_xr an_xr cd_xr ct_xr),sl_xr⟩)
    (c_xr:W.codeIn K cd_xr "answer_of"=true)
    (k_xr:W.keepIn K (.ref f_xr)=true)
    (a_xs:W.nsIn K mainGlobals "answers"=some (some (.ref f_xs)))
    (l_xs:K.lookup f_xs=some ⟨oc_xs,od_xs,.func (W.fnOf "answers" "answers" (jB jxQ) (jF jxQ) (jW jxQ) .none kV_xs dc_xs pm_xs an_xs cd_xs ct_xs),sl_xs⟩)
    (c_xs:W.codeIn K cd_xs "answers"=true)
    (k_xs:W.keepIn K (.ref f_xs)=true)
    (pg_Rider:W.plainGet K C_Rider Str.empty=true)
    (hd_Rider:W.hasDictIn K C_Rider=true)
    (po_Rider:W.plainOver K C_Rider=true)
    (sa_Rider:W.findIn K (.ref C_Rider) "__setattr__"=some (some (.builtin "object.__setattr__")))
    (mk_Rider:W.makesIn K C_Rider=true)
    (kc_Rider:W.keepIn K (.ref C_Rider)=true)
    (no_Rider_start:W.findIn K (.ref C_Rider) "start"=some none)
    (no_Rider_to:W.findIn K (.ref C_Rider) "to"=some none)
    (no_Rider_group:W.findIn K (.ref C_Rider) "group"=some none)
    (no_Rider_wished:W.findIn K (.ref C_Rider) "wished"=some none)
    (pg_Train:W.plainGet K C_Train Str.empty=true)
    (hd_Train:W.hasDictIn K C_Train=true)
    (po_Train:W.plainOver K C_Train=true)
    (sa_Train:W.findIn K (.ref C_Train) "__setattr__"=some (some (.builtin "object.__setattr__")))
    (mk_Train:W.makesIn K C_Train=true)
    (kc_Train:W.keepIn K (.ref C_Train)=true)
    (no_Train_legs:W.findIn K (.ref C_Train) "legs"=some none)
    (no_Train_seats:W.findIn K (.ref C_Train) "seats"=some none)
    (no_Train_move:W.findIn K (.ref C_Train) "move"=some none)
    (no_Train_wish:W.findIn K (.ref C_Train) "wish"=some none)
    (no_Train_apart:W.findIn K (.ref C_Train) "apart"=some none)
    (no_Train_beside:W.findIn K (.ref C_Train) "beside"=some none)
    (no_Train_riders:W.findIn K (.ref C_Train) "riders"=some none)
    (pg_Least:W.plainGet K C_Least Str.empty=true)
    (hd_Least:W.hasDictIn K C_Least=true)
    (po_Least:W.plainOver K C_Least=true)
    (sa_Least:W.findIn K (.ref C_Least) "__setattr__"=some (some (.builtin "object.__setattr__")))
    (mk_Least:W.makesIn K C_Least=true)
    (kc_Least:W.keepIn K (.ref C_Least)=true)
    (no_Least_price:W.findIn K (.ref C_Least) "price"=some none)
    (no_Least_ways:W.findIn K (.ref C_Least) "ways"=some none)
    (pg_Stays:W.plainGet K C_Stays Str.empty=true)
    (hd_Stays:W.hasDictIn K C_Stays=true)
    (po_Stays:W.plainOver K C_Stays=true)
    (sa_Stays:W.findIn K (.ref C_Stays) "__setattr__"=some (some (.builtin "object.__setattr__")))
    (mk_Stays:W.makesIn K C_Stays=true)
    (kc_Stays:W.keepIn K (.ref C_Stays)=true)
    (no_Stays_sittings:W.findIn K (.ref C_Stays) "sittings"=some none)
    (no_Stays_moves:W.findIn K (.ref C_Stays) "moves"=some none)
    (a_MOST_LEGS:W.nsIn K mainGlobals "MOST_LEGS"=some (some (.int (8) t_MOST_LEGS)))
    (a_MOST_SEATS:W.nsIn K mainGlobals "MOST_SEATS"=some (some (.int (5) t_MOST_SEATS)))
    (a_MOST_COST:W.nsIn K mainGlobals "MOST_COST"=some (some (.int (10000) t_MOST_COST)))
    (a_MOST_GROUP:W.nsIn K mainGlobals "MOST_GROUP"=some (some (.int (9) t_MOST_GROUP)))
    (a_MOST_RIDERS:W.nsIn K mainGlobals "MOST_RIDERS"=some (some (.int (20) t_MOST_RIDERS)))
    (a_DONE:W.nsIn K mainGlobals "DONE"=some (some (.int (0) t_DONE)))
    (a_OUT_OF_BOUNDS:W.nsIn K mainGlobals "OUT_OF_BOUNDS"=some (some (.int (-1) t_OUT_OF_BOUNDS)))
    (a_NOT_THERE:W.nsIn K mainGlobals "NOT_THERE"=some (some (.int (-2) t_NOT_THERE)))
    (a_NO_NEW_PAIR:W.nsIn K mainGlobals "NO_NEW_PAIR"=some (some (.int (-3) t_NO_NEW_PAIR)))
    (a_NO_PLAN:W.nsIn K mainGlobals "NO_PLAN"=some (some (.int (-3) t_NO_PLAN)))
    (a_NO_ROOM_FOR_RIDERS:W.nsIn K mainGlobals "NO_ROOM_FOR_RIDERS"=some (some (.int (-5) t_NO_ROOM_FOR_RIDERS)))
    (a_TOO_FEW_SEATS:W.nsIn K mainGlobals "TOO_FEW_SEATS"=some (some (.int (-6) t_TOO_FEW_SEATS)))
    (a_NO_SEAT_FREE:W.nsIn K mainGlobals "NO_SEAT_FREE"=some (some (.int (-7) t_NO_SEAT_FREE)))
    (a_BEGINS:W.nsIn K mainGlobals "BEGINS"=some (some (.int (0) t_BEGINS)))
    (a_PAIR:W.nsIn K mainGlobals "PAIR"=some (some (.int (1) t_PAIR)))
    (a_RIDER:W.nsIn K mainGlobals "RIDER"=some (some (.int (2) t_RIDER)))
    (a_DROP:W.nsIn K mainGlobals "DROP"=some (some (.int (3) t_DROP)))
    (a_FULL:W.nsIn K mainGlobals "FULL"=some (some (.int (4) t_FULL)))
    (a_BEST:W.nsIn K mainGlobals "BEST"=some (some (.int (5) t_BEST)))
    (a_COST:W.nsIn K mainGlobals "COST"=some (some (.int (6) t_COST)))
    (a_WIDTHS:W.nsIn K mainGlobals "WIDTHS"=some (some (.ref t_WIDTHS)))
    (s_WIDTHS:K.lookup t_WIDTHS=some ⟨.type "tuple",cd_WIDTHS,.seq #[.int (5) u_WIDTHS_0,.int (2) u_WIDTHS_1,.int (4) u_WIDTHS_2,.int (1) u_WIDTHS_3,.int (0) u_WIDTHS_4,.int (0) u_WIDTHS_5,.int (1) u_WIDTHS_6,.int (2) u_WIDTHS_7] n_WIDTHS,cs_WIDTHS⟩)
    (n_all:W.nsIn K mainGlobals "all"=some none)
    (n_any:W.nsIn K mainGlobals "any"=some none)
    (n_dict:W.nsIn K mainGlobals "dict"=some none)
    (n_enumerate:W.nsIn K mainGlobals "enumerate"=some none)
    (n_len:W.nsIn K mainGlobals "len"=some none)
    (n_list:W.nsIn K mainGlobals "list"=some none)
    (n_max:W.nsIn K mainGlobals "max"=some none)
    (n_min:W.nsIn K mainGlobals "min"=some none)
    (n_range:W.nsIn K mainGlobals "range"=some none)
    (n_set:W.nsIn K mainGlobals "set"=some none)
    (n_sum:W.nsIn K mainGlobals "sum"=some none)
    (n_tuple:W.nsIn K mainGlobals "tuple"=some none)
    (n_zip:W.nsIn K mainGlobals "zip"=some none) :
    ∃ a:Adr,a.f_xs=fa∧Txt K mg a:=by
  have e:=hfa.symm.trans (W.mg_of X G a_xs)
  cases e
  have F_qa:=jO (st:=jq9) l_qa c_qa k_qa
  have F_qb:=jO (st:=jqJ) l_qb c_qb k_qb
  have F_qc:=jO (st:=jqK) l_qc c_qc k_qc
  have F_qd:=jO (st:=jqV) l_qd c_qd k_qd
  have F_qe:=jO (st:=jqZ) l_qe c_qe k_qe
  have F_qf:=jO (st:=jqW) l_qf c_qf k_qf
  have F_qg:=jO (st:=jqQ) l_qg c_qg k_qg
  have F_qh:=jO (st:=jqX) l_qh c_qh k_qh
  have F_qi:=jO (st:=jqY) l_qi c_qi k_qi
  have F_qj:=jO (st:=jy0) l_qj c_qj k_qj
  have F_qk:=jO (st:=jy1) l_qk c_qk k_qk
  have F_ql:=jO (st:=jy2) l_ql c_ql k_ql
  have F_qm:=jO (st:=jy3) l_qm c_qm k_qm
  have F_qn:=jO (st:=jy4) l_qn c_qn k_qn
  have F_qo:=jO (st:=jy5) l_qo c_qo k_qo
  have F_qp:=jO (st:=jy6) l_qp c_qp k_qp
  have F_qq:=jO (st:=jy7) l_qq c_qq k_qq
  have F_qr:=jO (st:=jy8) l_qr c_qr k_qr
  have F_qs:=jO (st:=jy9) l_qs c_qs k_qs
  have F_qt:=jO (st:=jyJ) l_qt c_qt k_qt
  have F_qu:=jO (st:=jyK) l_qu c_qu k_qu
  have F_qv:=jO (st:=jyV) l_qv c_qv k_qv
  have F_qw:=jO (st:=jyZ) l_qw c_qw k_qw
  have F_qx:=jO (st:=jyW) l_qx c_qx k_qx
  have F_qy:=jO (st:=jyQ) l_qy c_qy k_qy
  have F_qz:=jO (st:=jyX) l_qz c_qz k_qz
  have F_xa:=jO (st:=jyY) l_xa c_xa k_xa
  have F_xb:=jO (st:=jx0) l_xb c_xb k_xb
  have F_xc:=jO (st:=jx1) l_xc c_xc k_xc
  have F_xd:=jO (st:=jx2) l_xd c_xd k_xd
  have F_xe:=jO (st:=iL) l_xe c_xe k_xe
  have F_xf:=jO (st:=jx3) l_xf c_xf k_xf
  have F_xg:=jO (st:=jx4) l_xg c_xg k_xg
  have F_xh:=jO (st:=jx5) l_xh c_xh k_xh
  have F_xi:=jO (st:=jx6) l_xi c_xi k_xi
  have F_xj:=jO (st:=jx7) l_xj c_xj k_xj
  have F_xk:=jO (st:=lT) l_xk c_xk k_xk
  have F_xl:=jO (st:=jx8) l_xl c_xl k_xl
  have F_xm:=jO (st:=jx9) l_xm c_xm k_xm
  have F_xn:=jO (st:=jxJ) l_xn c_xn k_xn
  have F_xo:=jO (st:=jxK) l_xo c_xo k_xo
  have F_xp:=jO (st:=jxV) l_xp c_xp k_xp
  have F_xq:=jO (st:=jxZ) l_xq c_xq k_xq
  have F_xr:=jO (st:=jxW) l_xr c_xr k_xr
  have F_xs:=jO (st:=jxQ) l_xs c_xs k_xs
  exact ⟨⟨C_Rider,C_Train,C_Least,C_Stays,f_qa,_,f_qb,_,f_qc,_,f_qd,_,f_qe,_,f_qf,_,f_qg,_,f_qh,_,f_qi,_,f_qj,_,f_qk,_,f_ql,_,f_qm,_,f_qn,_,f_qo,_,f_qp,_,f_qq,_,f_qr,_,f_qs,_,f_qt,_,f_qu,_,f_qv,_,f_qw,_,f_qx,_,f_qy,_,f_qz,_,f_xa,_,f_xb,_,f_xc,_,f_xd,_,f_xe,_,f_xf,_,f_xg,_,f_xh,_,f_xi,_,f_xj,_,f_xk,_,f_xl,_,f_xm,_,f_xn,_,f_xo,_,f_xp,_,f_xq,_,f_xr,_,fa,_,ca_xe,ca_xk,t_MOST_LEGS,t_MOST_SEATS,t_MOST_COST,t_MOST_GROUP,t_MOST_RIDERS,t_DONE,t_OUT_OF_BOUNDS,t_NOT_THERE,t_NO_NEW_PAIR,t_NO_PLAN,t_NO_ROOM_FOR_RIDERS,t_TOO_FEW_SEATS,t_NO_SEAT_FREE,t_BEGINS,t_PAIR,t_RIDER,t_DROP,t_FULL,t_BEST,t_COST,t_WIDTHS⟩,rfl,⟨(⟨pg_Rider,hd_Rider,po_Rider,sa_Rider⟩),
    (W.mg_of X G a_Rider),
    (no_Rider_start),
    (no_Rider_to),
    (no_Rider_group),
    (no_Rider_wished),
    (⟨mk_Rider,a_qa,i_qa,kc_Rider⟩),
    (⟨pg_Train,hd_Train,po_Train,sa_Train⟩),
    (W.mg_of X G a_Train),
    (no_Train_legs),
    (no_Train_seats),
    (no_Train_move),
    (no_Train_wish),
    (no_Train_apart),
    (no_Train_beside),
    (no_Train_riders),
    (⟨mk_Train,a_qb,i_qb,kc_Train⟩),
    (⟨pg_Least,hd_Least,po_Least,sa_Least⟩),
    (W.mg_of X G a_Least),
    (no_Least_price),
    (no_Least_ways),
    (⟨mk_Least,a_qu,i_qu,kc_Least⟩),
    (⟨pg_Stays,hd_Stays,po_Stays,sa_Stays⟩),
    (W.mg_of X G a_Stays),
    (no_Stays_sittings),
    (no_Stays_moves),
    (⟨mk_Stays,a_qy,i_qy,kc_Stays⟩),
    (F_qa),
    (F_qa.binds (ps:=["self","start","to","group","wished"]) fun _ _ _ _ _ _=>le5 fun _ _ _ _ _=>rfl),
    (F_qb),
    (F_qb.binds (ps:=["self"]) fun _ _ _ _ _ _=>le1 fun _=>rfl),
    (F_qc),
    (F_qc.binds (ps:=["self","legs","seats","move","wish","apart"]) fun _ _ _ _ _ _=>le6 fun _ _ _ _ _ _=>rfl),
    (⟨a_qc,i_qc,k_qc⟩),
    (F_qd),
    (F_qd.binds (ps:=["self","a","b"]) fun _ _ _ _ _ _=>le3 fun _ _ _=>rfl),
    (⟨a_qd,i_qd,k_qd⟩),
    (F_qe),
    (F_qe.binds (ps:=["self","start","to","group","wished"]) fun _ _ _ _ _ _=>le5 fun _ _ _ _ _=>rfl),
    (⟨a_qe,i_qe,k_qe⟩),
    (F_qf),
    (F_qf.binds (ps:=["self","i"]) fun _ _ _ _ _ _=>le2 fun _ _=>rfl),
    (⟨a_qf,i_qf,k_qf⟩),
    (F_qg),
    (F_qg.binds (ps:=["self","leg"]) fun _ _ _ _ _ _=>le2 fun _ _=>rfl),
    (⟨a_qg,i_qg,k_qg⟩),
    (F_qh),
    (F_qh.binds (ps:=["self"]) fun _ _ _ _ _ _=>le1 fun _=>rfl),
    (⟨a_qh,i_qh,k_qh⟩),
    (F_qi),
    (F_qi.binds (ps:=["self"]) fun _ _ _ _ _ _=>le1 fun _=>rfl),
    (⟨a_qi,i_qi,k_qi⟩),
    (F_qj),
    (F_qj.binds (ps:=["train","seated"]) fun _ _ _ _ _ _=>le2 fun _ _=>rfl),
    (W.mg_of X G a_qj),
    (F_qk),
    (F_qk.binds (ps:=["train","i","j"]) fun _ _ _ _ _ _=>le3 fun _ _ _=>rfl),
    (W.mg_of X G a_qk),
    (F_ql),
    (F_ql.binds (ps:=["train","seated"]) fun _ _ _ _ _ _=>le2 fun _ _=>rfl),
    (W.mg_of X G a_ql),
    (F_qm),
    (F_qm.binds (ps:=["train","seated"]) fun _ _ _ _ _ _=>le2 fun _ _=>rfl),
    (W.mg_of X G a_qm),
    (F_qn),
    (F_qn.binds (ps:=["seated","seated_behind"]) fun _ _ _ _ _ _=>le2 fun _ _=>rfl),
    (W.mg_of X G a_qn),
    (F_qo),
    (F_qo.binds (ps:=["plan"]) fun _ _ _ _ _ _=>le1 fun _=>rfl),
    (W.mg_of X G a_qo),
    (F_qp),
    (F_qp.binds (ps:=["train","plan"]) fun _ _ _ _ _ _=>le2 fun _ _=>rfl),
    (W.mg_of X G a_qp),
    (F_qq),
    (F_qq.binds (ps:=["told"]) fun _ _ _ _ _ _=>le1 fun _=>rfl),
    (W.mg_of X G a_qq),
    (F_qr),
    (F_qr.binds (ps:=["train","leg","row"]) fun _ _ _ _ _ _=>le3 fun _ _ _=>rfl),
    (W.mg_of X G a_qr),
    (F_qs),
    (F_qs.binds (ps:=["train","rows"]) fun _ _ _ _ _ _=>le2 fun _ _=>rfl),
    (W.mg_of X G a_qs),
    (F_qt),
    (F_qt.binds (ps:=["train","told"]) fun _ _ _ _ _ _=>le2 fun _ _=>rfl),
    (W.mg_of X G a_qt),
    (F_qu),
    (F_qu.binds (ps:=["self","price","ways"]) fun _ _ _ _ _ _=>le3 fun _ _ _=>rfl),
    (F_qv),
    (F_qv.binds (ps:=["prices","ways"]) fun _ _ _ _ _ _=>le2 fun _ _=>rfl),
    (W.mg_of X G a_qv),
    (F_qw),
    (F_qw.binds (ps:=["seats","riders"]) fun _ _ _ _ _ _=>le2 fun _ _=>rfl),
    (W.mg_of X G a_qw),
    (F_qx),
    (F_qx.binds (ps:=["sitting","other"]) fun _ _ _ _ _ _=>le2 fun _ _=>rfl),
    (W.mg_of X G a_qx),
    (F_qy),
    (F_qy.binds (ps:=["self","seats","riders"]) fun _ _ _ _ _ _=>le3 fun _ _ _=>rfl),
    (F_qz),
    (F_qz.binds (ps:=["sitting","aboard","some"]) fun _ _ _ _ _ _=>le3 fun _ _ _=>rfl),
    (W.mg_of X G a_qz),
    (F_xa),
    (F_xa.binds (ps:=["table","aboard","some"]) fun _ _ _ _ _ _=>le3 fun _ _ _=>rfl),
    (W.mg_of X G a_xa),
    (F_xb),
    (F_xb.binds (ps:=["move","stays","behind"]) fun _ _ _ _ _ _=>le3 fun _ _ _=>rfl),
    (W.mg_of X G a_xb),
    (F_xc),
    (F_xc.binds (ps:=["train","leg","staying","onward"]) fun _ _ _ _ _ _=>le4 fun _ _ _ _=>rfl),
    (W.mg_of X G a_xc),
    (F_xd),
    (F_xd.binds (ps:=["train"]) fun _ _ _ _ _ _=>le1 fun _=>rfl),
    (W.mg_of X G a_xd),
    (F_xe),
    (F_xe.binds (ps:=["train","leg","table","seated_before"]) fun _ _ _ _ _ _=>le4 fun _ _ _ _=>rfl),
    (W.mg_of X G a_xe),
    (F_xf),
    (F_xf.binds (ps:=["train","tables"]) fun _ _ _ _ _ _=>le2 fun _ _=>rfl),
    (W.mg_of X G a_xf),
    (F_xg),
    (F_xg.binds (ps:=["plan","i"]) fun _ _ _ _ _ _=>le2 fun _ _=>rfl),
    (W.mg_of X G a_xg),
    (F_xh),
    (F_xh.binds (ps:=["train"]) fun _ _ _ _ _ _=>le1 fun _=>rfl),
    (W.mg_of X G a_xh),
    (F_xi),
    (F_xi.binds (ps:=["train","seated"]) fun _ _ _ _ _ _=>le2 fun _ _=>rfl),
    (W.mg_of X G a_xi),
    (F_xj),
    (F_xj.binds (ps:=["free","seat","leg","to"]) fun _ _ _ _ _ _=>le4 fun _ _ _ _=>rfl),
    (W.mg_of X G a_xj),
    (F_xk),
    (F_xk.binds (ps:=["free","leg","to"]) fun _ _ _ _ _ _=>le3 fun _ _ _=>rfl),
    (W.mg_of X G a_xk),
    (F_xl),
    (F_xl.binds (ps:=["free","start","to"]) fun _ _ _ _ _ _=>le3 fun _ _ _=>rfl),
    (W.mg_of X G a_xl),
    (F_xm),
    (F_xm.binds (ps:=["train","start","to"]) fun _ _ _ _ _ _=>le3 fun _ _ _=>rfl),
    (W.mg_of X G a_xm),
    (F_xn),
    (F_xn.binds (ps:=["calls","at"]) fun _ _ _ _ _ _=>le2 fun _ _=>rfl),
    (W.mg_of X G a_xn),
    (F_xo),
    (F_xo.binds (ps:=["train","call","told"]) fun _ _ _ _ _ _=>le3 fun _ _ _=>rfl),
    (W.mg_of X G a_xo),
    (F_xp),
    (F_xp.binds (ps:=["train","call","told"]) fun _ _ _ _ _ _=>le3 fun _ _ _=>rfl),
    (W.mg_of X G a_xp),
    (F_xq),
    (F_xq.binds (ps:=["number","lists"]) fun _ _ _ _ _ _=>le2 fun _ _=>rfl),
    (W.mg_of X G a_xq),
    (F_xr),
    (F_xr.binds (ps:=["train","call","told"]) fun _ _ _ _ _ _=>le3 fun _ _ _=>rfl),
    (W.mg_of X G a_xr),
    (F_xs),
    (F_xs.binds (ps:=["calls"]) fun _ _ _ _ _ _=>le1 fun _=>rfl),
    (W.mg_of X G a_xs),
    (rfl),
    (rfl),
    (W.mg_of X G a_MOST_LEGS),
    (W.mg_of X G a_MOST_SEATS),
    (W.mg_of X G a_MOST_COST),
    (W.mg_of X G a_MOST_GROUP),
    (W.mg_of X G a_MOST_RIDERS),
    (W.mg_of X G a_DONE),
    (W.mg_of X G a_OUT_OF_BOUNDS),
    (W.mg_of X G a_NOT_THERE),
    (W.mg_of X G a_NO_NEW_PAIR),
    (W.mg_of X G a_NO_PLAN),
    (W.mg_of X G a_NO_ROOM_FOR_RIDERS),
    (W.mg_of X G a_TOO_FEW_SEATS),
    (W.mg_of X G a_NO_SEAT_FREE),
    (W.mg_of X G a_BEGINS),
    (W.mg_of X G a_PAIR),
    (W.mg_of X G a_RIDER),
    (W.mg_of X G a_DROP),
    (W.mg_of X G a_FULL),
    (W.mg_of X G a_BEST),
    (W.mg_of X G a_COST),
    (W.mg_of X G a_WIDTHS),
    (fun H=>.inr ⟨_,_,_,s_WIDTHS,rfl,rfl,by show 8≤sizeLine;decide,(.cons ⟨_,rfl⟩ (.cons ⟨_,rfl⟩ (.cons ⟨_,rfl⟩ (.cons ⟨_,rfl⟩ (.cons ⟨_,rfl⟩ (.cons ⟨_,rfl⟩ (.cons ⟨_,rfl⟩ (.cons ⟨_,rfl⟩ .nil))))))))⟩),
    (W.mg_none_of X G n_all),
    (W.mg_none_of X G n_any),
    (W.mg_none_of X G n_dict),
    (W.mg_none_of X G n_enumerate),
    (W.mg_none_of X G n_len),
    (W.mg_none_of X G n_list),
    (W.mg_none_of X G n_max),
    (W.mg_none_of X G n_min),
    (W.mg_none_of X G n_range),
    (W.mg_none_of X G n_set),
    (W.mg_none_of X G n_sum),
    (W.mg_none_of X G n_tuple),
    (W.mg_none_of X G n_zip),
    (fun s us hu=>match us,hu with | [_],_=>.of_eq rfl)⟩⟩
theorem j2 {X:Cx} {x:Str} {i:Int} {k:Tok} {pos:Pos} (hg:Gl X x) (hm:X.mg x=some (.int i k)) (hd:(x == ("__debug__":Str))=false:=by decide):PE X (.Name x pos) (tC (.int i)):=iG hg hm ⟨_,rfl⟩ hd
theorem kO {H:Hp} {p q:Addr} {o:HO}:(upd H p o q=none)=(q≠p∧H q=none):=by
  unfold upd
  by_cases h:q=p
  · rw [if_pos h];simp [h]
  · rw [if_neg h];simp [h]
theorem uN {CX:CXT} {P:Program} {w:World} {K:W.Frag} {mg:Str→Option Value} {base:Heap} {N:List Str} {qual:Str} {scope:Scope} {f:Addr} {cd:Value} {A:Around} {outer:List Env} {s:Shared} {H:Hp} {E:XK}:(jkX CX P w K mg base N qual scope f cd A outer s H E).K=K:=rfl
theorem qQ {c d A B:Prop} [Decidable c] [Decidable d]:(if c then A else if d then A else B)=if c∨d then A else B:=by
  by_cases h:c
  · rw [if_pos h,if_pos (.inl h)]
  · by_cases g:d
    · rw [if_neg h,if_pos g,if_pos (.inr g)]
    · rw [if_neg h,if_neg g,if_neg (fun z=>z.elim h g)]
theorem vF:bootBuiltins "len"=some (.builtin "len"):=by decide +kernel
theorem jg6:bootBuiltins "max"=some (.builtin "max"):=by decide +kernel
theorem jg7:bootBuiltins "min"=some (.builtin "min"):=by decide +kernel
theorem l6:bootBuiltins "sum"=some (.builtin "sum"):=by decide +kernel
theorem jg5:bootBuiltins "any"=some (.builtin "any"):=by decide +kernel
theorem l5:bootBuiltins "all"=some (.builtin "all"):=by decide +kernel
theorem jzV:bootBuiltins "list"=some (.type "list"):=by decide +kernel
theorem oE:bootBuiltins "tuple"=some (.type "tuple"):=by decide +kernel
theorem l9 {X:Cx} (hc:X.calm=true):uU X (.builtin "max") (fun xs H Q=>∃ i j k,xs=[.int i,.int j,.int k]∧Q (.int (if j > i then (if k > j then k else j) else (if k > i then k else i))) H):=by
  intro pins s σ H xs us Q I r h
  obtain ⟨i,j,k,rfl,q⟩:=h
  cases r with
  | cons r1 r =>
    cases r with
    | cons r2 r =>
      cases r with
      | cons r3 r =>
        cases r
        obtain ⟨t1,rfl⟩:=r1
        obtain ⟨t2,rfl⟩:=r2
        obtain ⟨t3,rfl⟩:=r3
        refine max_three_ints (I.ok.hd hc) fun h' tk kk=>⟨_,H,I.kept kk,?_,q⟩
        by_cases h1:j > i
        · rw [if_pos h1,if_pos h1]
          by_cases h2:k > j
          · rw [if_pos h2,if_pos h2];exact ⟨_,rfl⟩
          · rw [if_neg h2,if_neg h2];exact ⟨_,rfl⟩
        · rw [if_neg h1,if_neg h1]
          by_cases h2:k > i
          · rw [if_pos h2,if_pos h2];exact ⟨_,rfl⟩
          · rw [if_neg h2,if_neg h2];exact ⟨_,rfl⟩
def jq5:Option Nat→Int
  | none=>0
  | some s=>(s:Int)+1
def xC (a:Adr) (H:Hp) (q:Addr) (r:Sw77.Rider):Prop:=∃ dx,H q=some (.ins a.C_Rider dx (wF (.int r.from_) (.int r.to) (.int r.group) (.int (jq5 r.wish))))
abbrev TK:=List (List Key×V)
structure jH (a:Adr) (H:Hp) (p d l:Addr) (t:Sw77.Train) (dx:Addr) (kvs:TK) (as:List Addr):Prop where
  tr:H p=some (.ins a.C_Train dx (jS (.int t.legs) (.int t.seats) (.int t.costs.move) (.int t.costs.wish) (.int t.costs.apart) (.ref d) (.ref l)))
  dic:H d=some (.dT kvs)
  bes:∀ x y:Nat,(z9 kvs [.inl (x:Int),.inl (y:Int)]).isSome=t.beside x y
  few:kvs.length≤2 * t.pairs.length
  lst:H l=some (.lst (as.map V.ref))
  len:as.length=t.riders.length
  rid:∀ (i:Nat) (q:Addr) (r:Sw77.Rider),as[i]? = some q→t.riders[i]? = some r→xC a H q r
section
variable {P:Program} {w:World} {K:W.Frag} {mg:Str→Option Value} {base:Heap} {a:Adr}
def mP (a:Adr):Sp:=fun vs H Q _=>∃ (p dx:Addr) (s t g u:V),vs=[.ref p,s,t,g,u]∧H p=some (.ins a.C_Rider dx []) ∧
  ∀ H':Hp,H' p=some (.ins a.C_Rider dx (wF s t g u))→(∀ b o,H b=some o→b≠p→H' b=some o)→Q .non H'
theorem jd8:jD ["self","start","to","group","wished"] ["self","start","to","group","wished"] (jW jq9):=⟨rfl,rfl,rfl,by decide +kernel,rfl,by decide +kernel,by decide +kernel⟩
theorem jpX (T:Txt K mg a):vA P w K mg base CX0 1 a.f_qa a.d_qa ["self","start","to","group","wished"] (mP a):=by
  have nd:=jd8.nd
  refine T.F_qa.ok jd8 (fun vs H Q E h=>?_) (fun cdv A outer s H vs Q E hr h=>?_)
  · obtain ⟨p,dx,_,_,_,_,rfl,_⟩:=h
    rfl
  · obtain ⟨p,dx,x1,x2,x3,x4,rfl,hp,k⟩:=h
    refine ⟨_,(jZ (vQ (pv 0) (pv 1) rfl)
(jZ (vQ (pv 0) (pv 2) rfl)
(jZ (vQ (pv 0) (pv 3) rfl)
(jY (vQ (pv 0) (pv 4) rfl))))),?_⟩
    refine ⟨_,rfl,_,rfl,p,_,dx,_,rfl,hp,T.cl_Rider,T.no_Rider_start,(by show 0 < 1000;decide),?_⟩
    refine ⟨_,rfl,_,rfl,p,_,dx,_,rfl,jK,T.cl_Rider,T.no_Rider_to,(by show 1 < 1000;decide),?_⟩
    refine ⟨_,rfl,_,rfl,p,_,dx,_,rfl,jK,T.cl_Rider,T.no_Rider_group,(by show 2 < 1000;decide),?_⟩
    refine ⟨_,rfl,_,rfl,p,_,dx,_,rfl,jK,T.cl_Rider,T.no_Rider_wished,(by show 3 < 1000;decide),?_⟩
    exact k _ jK fun b o e hb=>by rw [jV hb,jV hb,jV hb,jV hb];exact e
end
def w6 (a:Adr) (H:Hp) (p d l:Addr) (t:Sw77.Train) (x:Sw77.Call) (Q:VK):Prop :=
  ∀ (H':Hp) (d' l' dx':Addr) (kvs':TK) (as':List Addr),jH a H' p d' l' (Sw77.step t x).1 dx' kvs' as'→(∀ b o,H b=some o→b≠p→b≠d→b≠l→H' b=some o)→(d'=d∨H d'=none)→(l'=l∨H l'=none)→Q (.int (Sw77.step t x).2.v) H'
section
variable {P:Program} {w:World} {K:W.Frag} {mg:Str→Option Value} {base:Heap} {a:Adr}
theorem w6.no {H H':Hp} {p d l:Addr} {t:Sw77.Train} {x:Sw77.Call} {Q:VK} {dx:Addr} {kvs:TK} {as:List Addr} {z:Int} (k:w6 a H p d l t x Q) (e:Sw77.step t x=(t,Sw77.ok z)) (X:jH a H p d l t dx kvs as) (s:jG H H') (X':jH a H' p d l t dx kvs as):Q (.int z) H':=by
  have:=k H' d l dx kvs as (by rw [e];exact X') (fun b o h _ _ _=>s b o h) (.inl rfl) (.inl rfl)
  rw [e] at this
  exact this
def jk1 (a:Adr):Sp:=fun vs H Q _=>∃ (p d l:Addr) (t:Sw77.Train) (dx:Addr) (kvs:TK) (as:List Addr) (n s m w c:Nat),vs=[.ref p,.int n,.int s,.int m,.int w,.int c]∧jH a H p d l t dx kvs as∧w6 a H p d l t (.begins n s ⟨m,w,c⟩) Q
theorem jdJ:jD ["self","legs","seats","move","wish","apart"] ["self","legs","seats","move","wish","apart"] (jW jqK):=⟨rfl,rfl,rfl,by decide +kernel,rfl,by decide +kernel,by decide +kernel⟩
theorem jm0 (T:Txt K mg a):vA P w K mg base CX0 1 a.f_qc a.d_qc ["self","legs","seats","move","wish","apart"] (jk1 a):=by
  have nd:=jdJ.nd
  refine T.F_qc.ok jdJ (fun vs H Q E h=>?_) (fun cdv A outer s H vs Q E hr h=>?_)
  · obtain ⟨p,d,l,t,dx,kvs,as,_,_,_,_,_,rfl,_⟩:=h
    rfl
  · obtain ⟨p,d,l,t,dx,kvs,as,n,s,m,w,c,rfl,X,k⟩:=h
    refine ⟨_,(jZ (zV (PW.pt (bZ (jR rV (pv 1) jA (j0 _)) (bZ (jR rK (pv 1) (j2 rfl T.g_MOST_LEGS) (j0 _)) (bZ (jR rV (pv 2) jA (j0 _)) (fE (jR rK (pv 2) (j2 rfl T.g_MOST_SEATS) (j0 _)))))))
(jY (jC (j2 rfl T.g_OUT_OF_BOUNDS)))
j6)
(jZ (zV (jR rK (jL (l9 rfl) rfl T.n_max jg6 (jJ (pv 3) (jJ (pv 4) (jJ (pv 5) jQ)))) (j2 rfl T.g_MOST_COST) (j0 _))
(jY (jC (j2 rfl T.g_OUT_OF_BOUNDS)))
j6)
(jZ (vQ (pv 0) (pv 1) rfl)
(jZ (vQ (pv 0) (pv 2) rfl)
(jZ (vQ (pv 0) (pv 3) rfl)
(jZ (vQ (pv 0) (pv 4) rfl)
(jZ (vQ (pv 0) (pv 5) rfl)
(jZ (vQ (pv 0) wR rfl)
(jZ (vQ (pv 0) (kR jQ) rfl)
(jY (jC (j2 rfl T.g_DONE)))))))))))),?_⟩
    have e0:j7 ["self","legs","seats","move","wish","apart"] [.ref p,.int n,.int s,.int m,.int w,.int c]=[some (.ref p),some (.int n),some (.int s),some (.int m),some (.int w),some (.int c)]:=rfl
    rw [e0]
    simp only [zH,gE,tOr,vH,tOp,j4,List.getElem?_cons_succ,List.getElem?_cons_zero,Option.some.injEq,tC,rI0,V.int.injEq,V.bl.injEq,zU,zT,tCB,jN,kN,List.cons.injEq,and_true,js3,uN,rL,kO,dJ,exists_and_left,exists_eq_left',V.ref.injEq,jK,HO.ins.injEq,mU,and_assoc,X.tr,x8,(by decide:7 < 1000),fJ,gD,fK,fV,gF,true_and,T.cl_Train,T.no_Train_legs,T.no_Train_seats,T.no_Train_move,T.no_Train_wish,T.no_Train_apart,decide_eq_true_eq,if_true,qQ]
    refine wY (fun h=>?_) (fun h=>?_)
    · exact k.no (Steps.bE (by omega)) X (jG.refl _) X
    · rintro q ⟨nq,-,-,-,-,hq⟩
      simp only [jV nq.symm,jK,Option.some.injEq,HO.ins.injEq,and_assoc,exists_and_left,exists_eq_left',x8,(by decide:7 < 1000),y8,true_and,T.cl_Train,T.no_Train_beside]
      refine ⟨Nat.zero_le _,?_⟩
      rintro r ⟨nr,nrq,-,-,-,-,-,hr'⟩
      simp only [jV nr.symm,jK,Option.some.injEq,HO.ins.injEq,and_assoc,exists_and_left,exists_eq_left',x8,(by decide:7 < 1000),y9,true_and,T.cl_Train,T.no_Train_riders]
      have e1:=Steps.bI (t:=t) (n:=n) (s:=s) (m:=m) (w:=w) (c:=c) (by omega) (by omega) (by omega) (by omega) (by omega) (by omega) (by omega)
      unfold w6 at k
      rw [e1] at k
      refine k _ q r dx [] [] ⟨jK,?_,fun _ _=>rfl,Nat.zero_le _,?_,rfl,fun i q r h=>(by simp at h)⟩ (fun b o e h1 h2 h3=>?_) (.inr hq) (.inr hr')
      · rw [jV nq,jV nrq.symm,jV nq,jK]
      · rw [jV nr,jK];rfl
      · rw [jV h1,jV (jX e hr'),jV h1,jV (jX e hq),jV h1];exact e
end
theorem cX {α β:Type} (f:α→β):∀ (l:List α) (i:Nat),(l.map f).eraseIdx i=(l.eraseIdx i).map f
  | [],_=>rfl
  | _ :: _,0=>rfl
  | x :: l,i+1=>by
    show f x :: (l.map f).eraseIdx i=f x :: (l.eraseIdx i).map f
    rw [cX f l i]
theorem p6 {n i:Nat} (h:i < n):ixN n (i:Int)=some i:=by
  unfold ixN
  rw [if_pos (by omega),if_pos (by omega),Int.toNat_natCast]
theorem jG.new {H:Hp} {q:Addr} {o:HO} (h:H q=none):jG H (upd H q o):=fun b u e=>by
  rw [jV (jX e h)];exact e
theorem xC.same {a:Adr} {H H':Hp} {q:Addr} {r:Sw77.Rider} (s:jG H H') (h:xC a H q r):xC a H' q r:=let ⟨dx,e⟩:=h;⟨dx,s _ _ e⟩
theorem jH.same {a:Adr} {H H':Hp} {p d l:Addr} {t:Sw77.Train} {dx:Addr} {kvs:TK} {as:List Addr} (X:jH a H p d l t dx kvs as) (s:jG H H'):jH a H' p d l t dx kvs as :=
  ⟨s _ _ X.tr,s _ _ X.dic,X.bes,X.few,s _ _ X.lst,X.len,fun i q r h1 h2=>(X.rid i q r h1 h2).same s⟩
section
variable {P:Program} {w:World} {K:W.Frag} {mg:Str→Option Value} {base:Heap} {a:Adr}
def jr6 (a:Adr):Sp:=fun vs H Q _=>∃ (p d l:Addr) (t:Sw77.Train) (dx:Addr) (kvs:TK) (as:List Addr) (x y:Nat),vs=[.ref p,.int x,.int y]∧jH a H p d l t dx kvs as∧t.pairs.length≤1000∧w6 a H p d l t (.pair x y) Q
theorem jdK:jD ["self","a","b"] ["self","a","b"] (jW jqV):=⟨rfl,rfl,rfl,by decide +kernel,rfl,by decide +kernel,by decide +kernel⟩
theorem jm1 (T:Txt K mg a):vA P w K mg base CX0 1 a.f_qd a.d_qd ["self","a","b"] (jr6 a):=by
  have nd:=jdK.nd
  refine T.F_qd.ok jdK (fun vs H Q E h=>?_) (fun cdv A outer s H vs Q E hr h=>?_)
  · obtain ⟨p,d,l,t,dx,kvs,as,_,_,rfl,_⟩:=h
    rfl
  · obtain ⟨p,d,l,t,dx,kvs,as,x,y,rfl,X,hlen,k⟩:=h
    have hu:=kE hr
    refine ⟨_,(jZ (zV (PW.pt (bZ (jR jj8 (pv 1) (zJ K (pv 0)) (j0 _)) (fE (jR jj8 (pv 2) (zJ K (pv 0)) (j0 _)))))
(jY (jC (j2 rfl T.g_NOT_THERE)))
j6)
(jZ (zV (PW.pt (bZ (jR h9 (pv 1) (pv 2) (j0 _)) (fE (rD (iX hu (v0 (jJ (pv 1) (jJ (pv 2) jQ))) (zJ K (pv 0)))))))
(jY (jC (j2 rfl T.g_NO_NEW_PAIR)))
j6)
(jZ (yC hu (zJ K (pv 0)) (v0 (jJ (pv 1) (jJ (pv 2) jQ))) jjJ rfl)
(jZ (yC hu (zJ K (pv 0)) (v0 (jJ (pv 2) (jJ (pv 1) jQ))) jjJ rfl)
(jY (jC (j2 rfl T.g_DONE))))))),?_⟩
    have e0:j7 ["self","a","b"] [.ref p,.int x,.int y]=[some (.ref p),some (.int x),some (.int y)]:=rfl
    rw [e0]
    simp only [zH,gE,tOr,vH,tOp,j4,List.getElem?_cons_succ,List.getElem?_cons_zero,Option.some.injEq,uQ,rI0,V.bl.injEq,zU,tC,zT,rEq,f8,t9,sS,jN,kN,exists_and_left,exists_eq_left',V.ref.injEq,X.tr,HO.ins.injEq,and_assoc,vB,T.cl_Train,T.no_Train_beside,true_and,if_true,tB,jp7,kO,decide_eq_true_eq,V.int.injEq,vE,T.no_Train_seats,qQ]
    refine wY (fun h=>k.no (Steps.sV (by omega)) X (jG.refl _) X) (fun h=>?_)
    refine wY (fun h2=>k.no (Steps.d9 (by omega) (by omega) (.inl (by omega))) X (jG.refl _) X) (fun h2=>?_)
    have l2:∀ v u:V,[v,u].length≤sizeLine:=fun _ _=>by show 2≤sizeLine;decide
    refine ⟨l2 _ _,?_⟩
    intro q hq
    have s1:jG H (upd H q (.tup [.int x,.int y])):=jG.new hq
    simp only [s1 _ _ X.tr,Option.some.injEq,HO.ins.injEq,and_assoc,exists_and_left,exists_eq_left',vB,V.ref.injEq,T.cl_Train,T.no_Train_beside,true_and]
    refine ⟨_,qO.t (k:=[.inl (x:Int),.inl (y:Int)]) (s1 _ _ X.dic) jK,?_⟩
    rw [X.bes]
    refine wY (fun h3=>k.no (Steps.d9 (by omega) (by omega) (.inr h3)) X s1 (X.same s1)) (fun h3=>?_)
    refine ⟨l2 _ _,?_⟩
    rintro q2 ⟨n2,hq2⟩
    have s2:jG (upd H q (.tup [.int x,.int y])) (upd (upd H q (.tup [.int x,.int y])) q2 (.tup [.int x,.int y])):=jG.new (by rw [jV n2];exact hq2)
    have hl1:kvs.length < sizeLine:=Nat.lt_of_le_of_lt X.few (Nat.lt_of_le_of_lt (Nat.mul_le_mul_left 2 hlen) (by decide))
    refine ⟨_,lR.t (k:=[.inl (x:Int),.inl (y:Int)]) (s2 _ _ (s1 _ _ X.dic)) jK hl1,?_⟩
    have npd:p≠d:=j1 X.tr X.dic (by intro z;cases z)
    have e2:(upd (upd (upd H q (.tup [.int x,.int y])) q2 (.tup [.int x,.int y])) d (.dT (wL kvs [.inl (x:Int),.inl (y:Int)] (.bl true)))) p=_:=(jV npd).trans (s2 _ _ (s1 _ _ X.tr))
    simp only [e2,Option.some.injEq,HO.ins.injEq,kO,and_assoc,exists_and_left,exists_eq_left',vB,V.ref.injEq,T.cl_Train,T.no_Train_beside,true_and]
    refine ⟨l2 _ _,?_⟩
    rintro q3 ⟨n3,n4,n5,hq3⟩
    have hl2:(wL kvs [.inl (x:Int),.inl (y:Int)] (.bl true)).length < sizeLine:=by
      have h5:=vJ kvs [.inl (x:Int),.inl (y:Int)] (.bl true)
      have h6:=X.few
      exact Nat.lt_of_le_of_lt (show _≤2001 by omega) (by decide)
    refine ⟨_,lR.t (k:=[.inl (y:Int),.inl (x:Int)]) (by rw [jV n3.symm];exact jK) jK hl2,?_⟩
    have e3:=Steps.iZ (t:=t) (a:=x) (b:=y) (by omega) (by omega) (by omega) (by simpa using h3)
    unfold w6 at k
    rw [e3] at k
    have dq:d≠q:=jX X.dic hq
    have dq2:d≠q2:=jX X.dic hq2
    have fr:∀ b o,H b=some o→b≠d→(upd (upd (upd (upd (upd H q (.tup [.int x,.int y])) q2 (.tup [.int x,.int y])) d (.dT (wL kvs [.inl (x:Int),.inl (y:Int)] (.bl true)))) q3 (.tup [.int y,.int x])) d (.dT (wL (wL kvs [.inl (x:Int),.inl (y:Int)] (.bl true)) [.inl (y:Int),.inl (x:Int)] (.bl true)))) b=some o:=fun b o e hb=>by
      rw [jV hb,jV (jX e hq3),jV hb]
      exact s2 _ _ (s1 _ _ e)
    refine k _ d l dx _ as ⟨fr _ _ X.tr npd,jK,fun x' y'=>?_,?_,fr _ _ X.lst (j1 X.lst X.dic (by intro z;cases z)),X.len,fun i b r h1 h2=>?_⟩ (fun b o e h1 h2 h3=>fr b o e h2) (.inl rfl) (.inl rfl)
    · rw [xB,xB,Steps.pH,← X.bes x' y']
      have hk:∀ u v u' v':Nat,(([.inl (u:Int),.inl (v:Int)]:List Key)=[.inl (u':Int),.inl (v':Int)])↔(u=u'∧v=v'):=fun u v u' v'=>by
        simp;omega
      by_cases h6:x'=y∧y'=x
      · rw [if_pos ((hk _ _ _ _).mpr h6)];simp [h6.1,h6.2]
      · rw [if_neg (fun z=>h6 ((hk _ _ _ _).mp z))]
        by_cases h7:x'=x∧y'=y
        · rw [if_pos ((hk _ _ _ _).mpr h7)];simp [h7.1,h7.2]
        · rw [if_neg (fun z=>h7 ((hk _ _ _ _).mp z))]
          have h8:((x == x' && y == y') || (x == y' && y == x'))=false:=by
            rw [Bool.or_eq_false_iff,Bool.and_eq_false_iff,Bool.and_eq_false_iff]
            simp only [beq_eq_false_iff_ne]
            omega
          rw [h8,Bool.or_false]
    · have h5:=vJ kvs [.inl (x:Int),.inl (y:Int)] (.bl true)
      have h6:=vJ (wL kvs [.inl (x:Int),.inl (y:Int)] (.bl true)) [.inl (y:Int),.inl (x:Int)] (.bl true)
      have h7:=X.few
      show _≤2 * (t.pairs++[(x,y)]).length
      rw [List.length_append,List.length_singleton]
      omega
    · obtain ⟨dx',e⟩:=X.rid i b r h1 h2
      exact ⟨dx',fr _ _ e (j1 e X.dic (by intro z;cases z))⟩
def jr1 (a:Adr):Sp:=fun vs H Q _=>∃ (p d l:Addr) (t:Sw77.Train) (dx:Addr) (kvs:TK) (as:List Addr) (i:Nat),vs=[.ref p,.int i]∧i < 4294967296∧jH a H p d l t dx kvs as∧w6 a H p d l t (.drop i) Q
theorem jdZ:jD ["self","i"] ["self","i"] (jW jqW):=⟨rfl,rfl,rfl,by decide +kernel,rfl,by decide +kernel,by decide +kernel⟩
theorem jm3 (T:Txt K mg a):vA P w K mg base CX0 1 a.f_qf a.d_qf ["self","i"] (jr1 a):=by
  have nd:=jdZ.nd
  refine T.F_qf.ok jdZ (fun vs H Q E h=>?_) (fun cdv A outer s H vs Q E hr h=>?_)
  · obtain ⟨p,d,l,t,dx,kvs,as,_,rfl,_⟩:=h
    rfl
  · obtain ⟨p,d,l,t,dx,kvs,as,i,rfl,hi,X,k⟩:=h
    refine ⟨_,(jZ (zV (jR jj8 (pv 1) (jL (j8 K) rfl T.n_len vF (jJ (zJ K (pv 0)) jQ)) (j0 _))
(jY (jC (j2 rfl T.g_NOT_THERE)))
j6)
(jZ (vP (qC PySem.F.plainAttrs_list PySem.F.slot_list_pop PySem.F.type_list_pop jj3 (zJ K (pv 0)) (jJ (pv 1) jQ)))
(jY (jC (j2 rfl T.g_DONE))))),?_⟩
    have e0:j7 ["self","i"] [.ref p,.int i]=[some (.ref p),some (.int i)]:=rfl
    rw [e0]
    simp only [zH,gE,vH,tOp,j4,List.getElem?_cons_succ,List.getElem?_cons_zero,Option.some.injEq,tCB,jN,uQ,kN,List.cons.injEq,and_true,rI0,V.int.injEq,V.bl.injEq,zU,tC,zT,qT,tBM,uN,jvX,exists_and_left,exists_eq_left',V.ref.injEq,X.tr,HO.ins.injEq,and_assoc,kH,T.cl_Train,T.no_Train_riders,true_and,decide_eq_true_eq]
    refine ⟨_,.inl (SqL.of X.lst),?_⟩
    rw [List.length_map,X.len]
    refine wY (fun h=>k.no (Steps.aF (by omega)) X (jG.refl _) X) (fun h=>?_)
    refine ⟨.inl ⟨rfl,_,SqL.of X.lst⟩,_,X.lst,by omega,by omega,i,?_⟩
    have e1:=Steps.aD (t:=t) (i:=i) (by omega)
    obtain ⟨q,hq⟩:∃ q,as[i]? = some q:=⟨_,List.getElem?_eq_getElem (by rw [X.len];omega)⟩
    refine ⟨?_,.ref q,by rw [List.getElem?_map,hq];rfl,?_⟩
    · exact (eW (p6 (by rw [List.length_map,X.len];omega))).1
    · unfold w6 at k
      rw [e1] at k
      have np:p≠l:=j1 X.tr X.lst (by intro z;cases z)
      have nd':d≠l:=j1 X.dic X.lst (by intro z;cases z)
      refine k _ d l dx kvs (as.eraseIdx i) ⟨by rw [jV np];exact X.tr,by rw [jV nd'];exact X.dic,X.bes,X.few,by rw [jK,cX],?_,?_⟩ (fun b o e h1 h2 h3=>by rw [jV h3];exact e) (.inl rfl) (.inl rfl)
      · show (as.eraseIdx i).length=(t.riders.eraseIdx i).length
        rw [List.length_eraseIdx,List.length_eraseIdx,X.len]
      · intro j b r h1 h2
        have h2:(t.riders.eraseIdx i)[j]? = some r:=h2
        rw [List.getElem?_eraseIdx] at h1 h2
        have:xC a H b r:=by
          by_cases hj:j < i
          · rw [if_pos hj] at h1 h2;exact X.rid _ _ _ h1 h2
          · rw [if_neg hj] at h1 h2;exact X.rid _ _ _ h1 h2
        obtain ⟨dx',e⟩:=this
        exact ⟨dx',by rw [jV (j1 e X.lst (by intro z;cases z))];exact e⟩
end
section
variable {P:Program} {w:World} {K:PySem.W.Frag} {mg:Str→Option Value} {base:Heap} {a:Adr}
theorem jq6 (w:Nat):jq5 (Steps.zY w)=(w:Int):=by
  unfold Steps.zY
  by_cases h:w=0
  · rw [if_pos h,h];rfl
  · rw [if_neg h]
    show ((w - 1:Nat):Int)+1=w
    omega
def juV (a:Adr):Sp:=fun vs H Q _=>∃ (p d l:Addr) (t:Sw77.Train) (dx:Addr) (kvs:TK) (as:List Addr) (x y g u:Nat),vs=[.ref p,.int x,.int y,.int g,.int u]∧jH a H p d l t dx kvs as∧t.riders.length≤20∧w6 a H p d l t (.rider ⟨x,y,g,Steps.zY u⟩) Q
theorem jdV:jD ["self","start","to","group","wished"] ["self","start","to","group","wished"] (jW jqZ):=⟨rfl,rfl,rfl,by decide +kernel,rfl,by decide +kernel,by decide +kernel⟩
theorem jm2 (T:Txt K mg a):vA P w K mg base CX0 3 a.f_qe a.d_qe ["self","start","to","group","wished"] (juV a):=by
  have nd:=jdV.nd
  have G_Rider:=jpX (P:=P) (w:=w) (base:=base) T
  refine T.F_qe.ok jdV (fun vs H Q E h=>?_) (fun cdv A outer s H vs Q E hr h=>?_)
  · obtain ⟨p,d,l,t,dx,kvs,as,_,_,_,_,rfl,_⟩:=h
    rfl
  · obtain ⟨p,d,l,t,dx,kvs,as,x,y,g,u,rfl,X,hlen,k⟩:=h
    refine ⟨_,(jZ (zV (PW.pt (bZ (jR jj9 (pv 2) (pv 1) (j0 _)) (bZ (jR rK (pv 2) (zJ K (pv 0)) (j0 _)) (fE (jR rK (pv 3) (j2 rfl T.g_MOST_GROUP) (j0 _))))))
(jY (jC (j2 rfl T.g_OUT_OF_BOUNDS)))
j6)
(jZ (zV (jR rK (pv 4) (zJ K (pv 0)) (j0 _))
(jY (jC (j2 rfl T.g_NOT_THERE)))
j6)
(jZ (zV (jR jj8 (jL (j8 K) rfl T.n_len vF (jJ (zJ K (pv 0)) jQ)) (j2 rfl T.g_MOST_RIDERS) (j0 _))
(jY (jC (j2 rfl T.g_NO_ROOM_FOR_RIDERS)))
j6)
(jZ (vP (qC PySem.F.plainAttrs_list PySem.F.slot_list_append PySem.F.type_list_append vD (zJ K (pv 0)) (jJ (gG T.M_Rider G_Rider hr rfl T.g_Rider T.b_qa .nil jU (jJ (pv 1) (jJ (pv 2) (jJ (pv 3) (jJ (pv 4) jQ))))) jQ)))
(jY (jC (zK iK (jL (j8 K) rfl T.n_len vF (jJ (zJ K (pv 0)) jQ)) jA))))))),?_⟩
    have e0:j7 ["self","start","to","group","wished"] [.ref p,.int x,.int y,.int g,.int u]=[some (.ref p),some (.int x),some (.int y),some (.int g),some (.int u)]:=rfl
    rw [e0]
    simp only [zH,gE,tOr,vH,tOp,j4,List.getElem?_cons_succ,List.getElem?_cons_zero,Option.some.injEq,rI0,V.bl.injEq,zU,tC,zT,uQ,tCB,jN,kN,List.cons.injEq,and_true,V.int.injEq,qT,tBM,uN,rE,List.append_nil,zS,exists_and_left,exists_eq_left',V.ref.injEq,X.tr,HO.ins.injEq,and_assoc,kH,T.cl_Train,T.no_Train_riders,true_and,decide_eq_true_eq,vE,T.no_Train_seats,if_true,qQ,kZ,T.no_Train_legs]
    refine wY (fun h=>k.no (Steps.iM (by omega)) X (jG.refl _) X) (fun h=>?_)
    refine wY (fun h2=>k.no (Steps.iN (by omega) (by omega)) X (jG.refl _) X) (fun h2=>?_)
    refine ⟨_,.inl (SqL.of X.lst),?_⟩
    rw [List.length_map,X.len]
    refine wY (fun h3=>k.no (Steps.iS (by omega) (by omega) (by omega)) X (jG.refl _) X) (fun h3=>?_)
    refine ⟨.inl ⟨rfl,_,SqL.of X.lst⟩,?_⟩
    intro q dq hq hdq ndq
    refine ⟨q,dq,_,_,_,_,rfl,jK,fun H2 c2 k2=>⟨rfl,?_⟩⟩
    have s2:jG H H2:=jG.made hq hdq k2
    have npl:p≠l:=j1 X.tr X.lst (by intro z;cases z)
    have e2:(upd H2 l (.lst (as.map V.ref++[.ref q]))) p=_:=(jV npl).trans (s2 _ _ X.tr)
    refine ⟨_,s2 _ _ X.lst,Nat.lt_of_le_of_lt (show _≤20 by rw [List.length_map,X.len];exact hlen) (by decide),?_⟩
    simp only [e2,Option.some.injEq,HO.ins.injEq,and_assoc,exists_and_left,exists_eq_left',kH,V.ref.injEq,T.cl_Train,T.no_Train_riders,true_and]
    refine ⟨_,.inl (SqL.of jK),?_⟩
    have e3:=Steps.jjY (t:=t) (a:=x) (b:=y) (g:=g) (w:=u) (by omega) (by omega) (by omega)
    unfold w6 at k
    rw [e3] at k
    have e4:(((as.map V.ref++[V.ref q]).length:Nat):Int) - 1=(t.riders.length:Nat):=by
      rw [List.length_append,List.length_map,X.len,List.length_singleton]
      omega
    rw [e4]
    refine k _ d l dx kvs (as++[q]) ⟨e2,by rw [jV (j1 X.dic X.lst (by intro z;cases z))];exact s2 _ _ X.dic,X.bes,X.few,by rw [jK,List.map_append];rfl,?_,?_⟩ (fun b o e h1 h2 h3=>by rw [jV h3];exact s2 _ _ e) (.inl rfl) (.inl rfl)
    · show (as++[q]).length=(t.riders++[_]).length
      rw [List.length_append,List.length_append,X.len];rfl
    · intro i b r h5 h6
      have h6:(t.riders++[⟨x,y,g,Steps.zY u⟩])[i]? = some r:=h6
      by_cases hi:i < as.length
      · rw [List.getElem?_append_left hi] at h5
        rw [List.getElem?_append_left (by rw [← X.len];exact hi)] at h6
        obtain ⟨dx',e⟩:=X.rid i b r h5 h6
        exact ⟨dx',by rw [jV (j1 e X.lst (by intro z;cases z))];exact s2 _ _ e⟩
      · rw [List.getElem?_append_right (by omega)] at h5
        rw [List.getElem?_append_right (by rw [← X.len];omega)] at h6
        have h7:i - as.length=0:=by
          cases e:i - as.length with
          | zero=>rfl
          | succ n=>rw [e] at h5;simp at h5
        rw [h7] at h5
        rw [← X.len,h7] at h6
        have h5:q=b:=Option.some.inj h5
        have h6:(⟨x,y,g,Steps.zY u⟩:Sw77.Rider)=r:=Option.some.inj h6
        subst h5
        subst h6
        refine ⟨dq,?_⟩
        rw [jV (j1 c2 (s2 _ _ X.lst) (by intro z;cases z)),c2,jq6]
end
section
variable {P:Program} {w:World} {K:PySem.W.Frag} {mg:Str→Option Value} {base:Heap} {a:Adr}
def mN (a:Adr):Sp:=fun vs H Q _=>∃ (p dx:Addr),vs=[.ref p]∧H p=some (.ins a.C_Train dx []) ∧
  ∀ (H':Hp) (d l:Addr),jH a H' p d l Sw77.init dx [] []→(∀ b o,H b=some o→b≠p→H' b=some o)→H d=none→H l=none→Q .non H'
theorem jd9:jD ["self"] ["self"] (jW jqJ):=⟨rfl,rfl,rfl,by decide +kernel,rfl,by decide +kernel,by decide +kernel⟩
theorem jpY (T:Txt K mg a):vA P w K mg base CX0 1 a.f_qb a.d_qb ["self"] (mN a):=by
  have nd:=jd9.nd
  refine T.F_qb.ok jd9 (fun vs H Q E h=>?_) (fun cdv A outer s H vs Q E hr h=>?_)
  · obtain ⟨p,dx,rfl,_⟩:=h
    rfl
  · obtain ⟨p,dx,rfl,hp,k⟩:=h
    refine ⟨_,(jZ (vQ (pv 0) jA rfl)
(jZ (vQ (pv 0) jA rfl)
(jZ (vQ (pv 0) jA rfl)
(jZ (vQ (pv 0) jA rfl)
(jZ (vQ (pv 0) jA rfl)
(jZ (vQ (pv 0) wR rfl)
(jY (vQ (pv 0) (kR jQ) rfl)))))))),?_⟩
    have z:∀ n:Nat,n≤6→n < 1000:=fun n h=>by omega
    refine ⟨_,rfl,p,_,dx,_,rfl,hp,T.cl_Train,T.no_Train_legs,z 0 (by decide),?_⟩
    refine ⟨_,rfl,p,_,dx,_,rfl,jK,T.cl_Train,T.no_Train_seats,z 1 (by decide),?_⟩
    refine ⟨_,rfl,p,_,dx,_,rfl,jK,T.cl_Train,T.no_Train_move,z 2 (by decide),?_⟩
    refine ⟨_,rfl,p,_,dx,_,rfl,jK,T.cl_Train,T.no_Train_wish,z 3 (by decide),?_⟩
    refine ⟨_,rfl,p,_,dx,_,rfl,jK,T.cl_Train,T.no_Train_apart,z 4 (by decide),?_⟩
    intro q hq
    have nq:q≠p:=fun e=>by rw [e,jK] at hq;cases hq
    refine ⟨_,rfl,p,_,dx,_,rfl,(jV nq.symm).trans jK,T.cl_Train,T.no_Train_beside,z 5 (by decide),?_⟩
    refine ⟨Nat.zero_le _,fun r hr'=>?_⟩
    have nr:r≠p:=fun e=>by rw [e,jK] at hr';cases hr'
    have nrq:r≠q:=fun e=>by rw [e,jV nq,jK] at hr';cases hr'
    refine ⟨_,rfl,p,_,dx,_,rfl,(jV nr.symm).trans jK,T.cl_Train,T.no_Train_riders,z 6 (by decide),?_⟩
    rw [jV nq,jV nq,jV nq,jV nq,jV nq] at hq
    rw [jV nr,jV nrq,jV nr,jV nr,jV nr,jV nr,jV nr] at hr'
    refine k _ q r ⟨jK,?_,fun _ _=>rfl,Nat.zero_le _,?_,rfl,fun i b r h=>(by simp at h)⟩ (fun b o e h1=>?_) hq hr'
    · rw [jV nq,jV nrq.symm,jV nq,jK]
    · rw [jV nr,jK];rfl
    · rw [jV h1,jV (jX e hr'),jV h1,jV (jX e hq),jV h1,jV h1,jV h1,jV h1,jV h1];exact e
end
def LcP (H1:Hp) (D:Addr) (f:Nat→List V) (i:Nat) (H:Hp):Prop:=jG H1 H∧H D=some (.lst (f i))
theorem jh7 {J:It} {n:Nat} {g:TG} {tt:TT} {te:TE} {vs:List Nat} {σ:L2.St} {H1:Hp} {D:Addr} {Qd:Hp→Prop} (f:Nat→List V) (h1:H1 D=none) (h0:f 0=[])
    (go:∀ i H,i < n→jG H1 H→J.go i H) (stop:∀ H,jG H1 H→J.stop n H)
    (hs:∀ i H x H',i < n→LcP H1 D f i H→J.yld i H x H'→g x (v5 σ vs) H' fun σ2 H2=>v5 σ2 vs=v5 σ vs∧tt σ2 H2 fun b H3 =>
      if b=true then te σ2 H3 fun y H4=>∃ acc,H4 D=some (.lst acc)∧acc.length < sizeLine∧LcP H1 D f (i+1) (upd H4 D (.lst (acc++[y]))) else LcP H1 D f (i+1) H3)
    (hd:∀ H,jG H1 H→H D=some (.lst (f n))→Qd H) :
    ∃ W:Nat→Nat→Hp→Prop,(∃ m,W 0 m (upd H1 D (.lst [])))∧∀ i m H,W i m H →
      (J.stop i H∧Qd H)∨(J.go i H∧∃ Nx:Hp→Prop,(∀ H',Nx H'→∃ m',m' < m∧W (i+1) m' H')∧∀ x H',J.yld i H x H'→g x (v5 σ vs) H' fun σ2 H2=>v5 σ2 vs=v5 σ vs∧tt σ2 H2 fun b H3 =>
        if b=true then te σ2 H3 fun y H4=>∃ acc,H4 D=some (.lst acc)∧acc.length < sizeLine∧Nx (upd H4 D (.lst (acc++[y]))) else Nx H3):=by
  refine ⟨fun i m H=>m=n - i∧i≤n∧LcP H1 D f i H,⟨n,by simp,Nat.zero_le _,jG.new h1,by rw [jK,h0]⟩,?_⟩
  rintro i m H ⟨rfl,hi,p⟩
  by_cases hlt:i < n
  · exact .inr ⟨go i H hlt p.1,LcP H1 D f (i+1),fun H' p'=>⟨n - (i+1),by omega,rfl,hlt,p'⟩,fun x H' y=>hs i H x H' hlt p y⟩
  · have e:i=n:=by omega
    subst e
    exact .inl ⟨stop H p.1,hd H p.1 p.2⟩
def m9 (g:TG) (tt:TT) (te:TE) (vs:List Nat) (σ:L2.St) (Q:VK) (J:It) (H1:Hp):Prop:=∀ D,H1 D=none→∃ W:Nat→Nat→Hp→Prop,(∃ m,W 0 m (upd H1 D (.lst [])))∧∀ i m H,W i m H →
  (J.stop i H∧Q (.ref D) H)∨(J.go i H∧∃ Nx:Hp→Prop,(∀ H',Nx H'→∃ m',m' < m∧W (i+1) m' H')∧∀ x H',J.yld i H x H'→g x (v5 σ vs) H' fun σ2 H2=>v5 σ2 vs=v5 σ vs∧tt σ2 H2 fun b H3 =>
    if b=true then te σ2 H3 fun y H4=>∃ acc,H4 D=some (.lst acc)∧acc.length < sizeLine∧Nx (upd H4 D (.lst (acc++[y]))) else Nx H3)
theorem vX {wi:TI} {g:TG} {tt:TT} {te:TE} {vs:List Nat} {σ:L2.St} {H:Hp} {Q:VK}:tLc wi g tt te vs σ H Q=wi σ H (m9 g tt te vs σ Q):=rfl
theorem lcb {J:It} {n:Nat} {g:TG} {tt:TT} {te:TE} {vs:List Nat} {σ:L2.St} {H1:Hp} {Q:VK} (f:Nat→List V) (h0:f 0=[])
    (go:∀ i H,i < n→jG H1 H→J.go i H) (stop:∀ H,jG H1 H→J.stop n H)
    (hs:∀ D i H x H',H1 D=none→i < n→LcP H1 D f i H→J.yld i H x H'→g x (v5 σ vs) H' fun σ2 H2=>v5 σ2 vs=v5 σ vs∧tt σ2 H2 fun b H3 =>
      if b=true then te σ2 H3 fun y H4=>∃ acc,H4 D=some (.lst acc)∧acc.length < sizeLine∧LcP H1 D f (i+1) (upd H4 D (.lst (acc++[y]))) else LcP H1 D f (i+1) H3)
    (hd:∀ D H,H1 D=none→jG H1 H→H D=some (.lst (f n))→Q (.ref D) H):m9 g tt te vs σ Q J H1 :=
  fun D hD=>jh7 f hD h0 go stop (fun i H x H' hi p y=>hs D i H x H' hD hi p y) fun H s e=>hd D H hD s e
def lI (g:TG) (tb:TS) (D:lL) (σ:L2.St) (J:It) (H1:Hp):Prop:=∃ W:Nat→Nat→L2.St→Hp→Prop,(∃ m,W 0 m σ H1)∧∀ i m σ H,W i m σ H →
  (J.stop i H∧D.nx σ H)∨(J.go i H∧∃ N:L2.St→Hp→Prop,(∀ σ' H',N σ' H'→∃ m',m' < m∧W (i+1) m' σ' H')∧∀ x H',J.yld i H x H'→g x σ H' fun σ2 H2=>tb { D with nx:=N,ct:=N,bk:=D.nx } σ2 H2)
theorem zQ {wi:TI} {g:TG} {tb:TS} {D:lL} {σ:L2.St} {H:Hp}:jnW wi g tb D σ H=wi σ H (lI g tb D σ):=rfl
theorem lcY {H1 H H4:Hp} {D:Addr} {f:Nat→List V} {i:Nat} {y:V} (p:LcP H1 D f i H) (h1:H1 D=none) (s:jG H H4) (e:f (i+1)=f i++[y]) (hl:(f i).length < sizeLine) :
    ∃ acc,H4 D=some (.lst acc)∧acc.length < sizeLine∧LcP H1 D f (i+1) (upd H4 D (.lst (acc++[y]))) :=
  ⟨f i,s _ _ p.2,hl,fun b o z=>by rw [jV (jX z h1)];exact s _ _ (p.1 _ _ z),by rw [jK,e]⟩
theorem lcN {H1 H H3:Hp} {D:Addr} {f:Nat→List V} {i:Nat} (p:LcP H1 D f i H) (s:jG H H3) (e:f (i+1)=f i):LcP H1 D f (i+1) H3:=⟨p.1.trans s,by rw [e];exact s _ _ p.2⟩
theorem tG {J:It} {n:Nat} {g:TG} {tb:TS} {D:lL} {σ:L2.St} {H:Hp} (Pv:Nat→L2.St→Hp→Prop) (h0:Pv 0 σ H) (go:∀ i σ H,i < n→Pv i σ H→J.go i H) (stop:∀ σ H,Pv n σ H→J.stop n H)
    (hs:∀ i σ H x H',i < n→Pv i σ H→J.yld i H x H'→g x σ H' fun σ2 H2=>tb { D with nx:=Pv (i+1),ct:=Pv (i+1),bk:=D.nx } σ2 H2) (hd:∀ σ H,Pv n σ H→D.nx σ H) :
    lI g tb D σ J H:=by
  refine ⟨fun i m σ H=>m=n - i∧i≤n∧Pv i σ H,⟨n,by simp,Nat.zero_le _,h0⟩,?_⟩
  rintro i m σ H ⟨rfl,hi,p⟩
  by_cases hlt:i < n
  · exact .inr ⟨go i σ H hlt p,Pv (i+1),fun σ' H' p'=>⟨n - (i+1),by omega,rfl,hlt,p'⟩,fun x H' y=>hs i σ H x H' hlt p y⟩
  · have e:i=n:=by omega
    subst e
    exact .inl ⟨stop σ H p,hd σ H p⟩
def fm {α:Type} (xs:List α) (p:α→Bool) (v:α→V) (i:Nat):List V:=((xs.take i).filter p).map v
section
variable {α:Type} {xs:List α} {p:α→Bool} {v:α→V} {i:Nat} {x:α}
theorem kC:fm xs p v 0=[]:=rfl
theorem vL (h:xs[i]? = some x) (hp:p x=true):fm xs p v (i+1)=fm xs p v i++[v x]:=by
  unfold fm;rw [List.take_add_one,h];simp [hp]
theorem y4 (h:xs[i]? = some x) (hp:p x=false):fm xs p v (i+1)=fm xs p v i:=by
  unfold fm;rw [List.take_add_one,h];simp [hp]
theorem vT {n:Nat} (h:xs.length=n):fm xs p v n=(xs.filter p).map v:=by
  unfold fm;rw [List.take_of_length_le (by omega)]
theorem jgW:(fm xs p v i).length≤xs.length:=by
  unfold fm;rw [List.length_map]
  exact Nat.le_trans (List.length_filter_le _ _) (by rw [List.length_take];omega)
theorem wV {m:Nat} (h:xs.length≤m) (hm:m < 16777216):(fm xs p v i).length < sizeLine:=by
  have:=jgW (xs:=xs) (p:=p) (v:=v) (i:=i)
  rw [sizeLine_eq];omega
end
def vN (n:Nat):V:=.int (n:Int)
def vNs (l:List Nat):List V:=l.map vN
section
variable {P:Program} {w:World} {K:W.Frag} {mg:Str→Option Value} {base:Heap} {a:Adr}
def jk0 (a:Adr):Sp:=fun vs H Q _=>∃ (p d l:Addr) (t:Sw77.Train) (dx:Addr) (kvs:TK) (as:List Addr) (k:Nat),vs=[.ref p,.int k]∧jH a H p d l t dx kvs as∧t.riders.length≤20 ∧
  ∀ (H':Hp) (q:Addr),jG H H'→H q=none→H' q=some (.lst (vNs (t.on k)))→Q (.ref q) H'
theorem jdW:jD ["self","leg","i","one"] ["self","leg"] (jW jqQ):=⟨rfl,rfl,rfl,by decide +kernel,rfl,by decide +kernel,by decide +kernel⟩
theorem tO (T:Txt K mg a):vA P w K mg base CX0 1 a.f_qg a.d_qg ["self","leg"] (jk0 a):=by
  have nd:=jdW.nd
  refine T.F_qg.ok jdW (fun vs H Q E h=>?_) (fun cdv A outer s H vs Q E hr h=>?_)
  · obtain ⟨p,d,l,t,dx,kvs,as,k,rfl,_⟩:=h
    rfl
  · obtain ⟨p,d,l,t,dx,kvs,as,k,rfl,X,hlen,kk⟩:=h
    refine ⟨_,(jY (jC (plc [("i",2),("one",3)] nd (mG rfl T.n_enumerate (jJ (zJ K (pv 0)) jQ)) (by intro _ _ _ _ _;exact (pgt K 2 (j9 (pgn 2 nd) (j9 (pgn 3 nd) z6)))) (by intro _ _ _ _ _;exact (zN (PW.pt (rB (jR jj9 (zJ K (pv 3)) (pv 1) (j0 _)) (bV (jR rV (pv 1) (zJ K (pv 3)) (j0 _))))))) (by intro _ _ _ _ _;exact (pv 2))))),?_⟩
    have e0:j7 ["self","leg","i","one"] [.ref p,.int k]=[some (.ref p),some (.int k),none,none]:=rfl
    rw [e0]
    simp only [zU,uN,List.map_cons,List.map_nil,vX,o8,jN,uQ,j4,List.getElem?_cons_zero,Option.some.injEq,kN,List.cons.injEq,and_true,exists_and_left,exists_eq_left',V.ref.injEq,X.tr,HO.ins.injEq,and_assoc,kH,T.cl_Train,T.no_Train_riders,true_and]
    refine ⟨_,SqL.of X.lst,?_⟩
    refine lcb (J:=Ite K l) (n:=as.length) (fm (List.range as.length) (fun i=>(t.riders[i]?).any fun r=>decide (r.from_≤k) && decide (k < r.to)) vN) kC (fun i H' hi s=>?_) (fun H' s=>?_) (fun D i H' x H2 hD hi pv hy=>?_) (fun D H' hD s e=>?_)
    · exact ⟨_,.ref as[i],SqL.of (s _ _ X.lst),by simp [hi]⟩
    · exact ⟨_,SqL.of (s _ _ X.lst),by simp⟩
    · obtain ⟨TT,x1,rfl,hT,rfl,hx⟩:=hy
      have hx:=hx _ (SqL.of (pv.1 _ _ X.lst))
      obtain ⟨q,hq⟩:∃ q,as[i]? = some q:=⟨_,List.getElem?_eq_getElem hi⟩
      rw [List.getElem?_map,hq] at hx
      have hx:V.ref q=x1:=by simpa using hx
      subst hx
      obtain ⟨r,hr'⟩:∃ r,t.riders[i]? = some r:=⟨_,List.getElem?_eq_getElem (by rw [← X.len];exact hi)⟩
      obtain ⟨dx',er⟩:=X.rid i q r hq hr'
      have sT:jG H' (upd H' TT (.tup [.int (i:Nat),.ref q])):=jG.new hT
      have er2:=sT _ _ (pv.1 _ _ er)
      refine ⟨TT,_,rfl,SqT.of jK,rfl,?_⟩
      simp only [xA,List.cons.injEq,jI,aL,v5,List.set_cons_succ,List.set_cons_zero,jrJ,vH,tOp,uQ,j4,List.getElem?_cons_succ,List.getElem?_cons_zero,Option.some.injEq,rI0,V.bl.injEq,exists_eq_left',decide_eq_true_eq,exists_and_left,V.int.injEq,Bool.false_eq_true,if_false,true_and,and_assoc,V.ref.injEq,er2,HO.ins.injEq,cB,T.cl_Rider,T.no_Rider_to,xE,T.no_Rider_start]
      have ri:(List.range as.length)[i]? = some i:=by simp [hi]
      refine wY (fun h1=>wY (fun h2=>lcY pv hD sT (vL ri ?_) (wV (m:=20) (by simp;rw [X.len];exact hlen) (by decide))) (fun h2=>lcN pv sT (y4 ri ?_))) (fun h1=>lcN pv sT (y4 ri ?_)) <;> rw [hr'] <;> simp <;> omega
    · rw [vT (by simp)] at e
      refine kk H' D s hD ?_
      rw [e]
      show some (HO.lst (((List.range as.length).filter _).map vN))=_
      rw [X.len]
      rfl
end
section
variable {P:Program} {w:World} {K:PySem.W.Frag} {mg:Str→Option Value} {base:Heap} {a:Adr}
theorem v6 {α:Type} (l:List α):l.filter (fun _=>true)=l:=by simp
def uA (t:Sw77.Train):List Nat:=(List.range t.legs).map fun k=>(t.on k).length
def iI (a:Adr):Sp:=fun vs H Q _=>∃ (p d l:Addr) (t:Sw77.Train) (dx:Addr) (kvs:TK) (as:List Addr),vs=[.ref p]∧jH a H p d l t dx kvs as∧t.riders.length≤20∧t.legs≤8 ∧
  ∀ (H':Hp) (q:Addr),jG H H'→H q=none→H' q=some (.lst (vNs (uA t)))→Q (.ref q) H'
theorem jdQ:jD ["self","leg"] ["self"] (jW jqX):=⟨rfl,rfl,rfl,by decide +kernel,rfl,by decide +kernel,by decide +kernel⟩
theorem jhJ (T:Txt K mg a):vA P w K mg base CX0 3 a.f_qh a.d_qh ["self"] (iI a):=by
  have nd:=jdQ.nd
  have G_qg:=tO (P:=P) (w:=w) (base:=base) T
  refine T.F_qh.ok jdQ (fun vs H Q E h=>?_) (fun cdv A outer s H vs Q E hr h=>?_)
  · obtain ⟨p,d,l,t,dx,kvs,as,rfl,_⟩:=h
    rfl
  · obtain ⟨p,d,l,t,dx,kvs,as,rfl,X,hlen,hlegs,kk⟩:=h
    have hr:=hr.mono (by decide:1≤2)
    refine ⟨_,(jY (jC (plc [("leg",1)] nd (zM rfl T.n_range (jJ (zJ K (pv 0)) jQ)) (by intro _ _ _ _ _;exact (pgn 1 nd)) (by intro _ _ _ _ _;exact v4) (by intro _ _ _ _ _;exact (jL (j8 K) rfl T.n_len vF (jJ (zR (pv 0) T.cl_Train T.m_qg G_qg hr T.b_qg .nil jU (jJ (pv 1) jQ)) jQ)))))),?_⟩
    have e0:j7 ["self","leg"] [.ref p]=[some (.ref p),none]:=rfl
    rw [e0]
    simp only [zU,exists_and_left,List.map_cons,List.map_nil,vX,cC,jN,uQ,j4,List.getElem?_cons_zero,Option.some.injEq,kN,List.cons.injEq,and_true,exists_eq_left',V.ref.injEq,X.tr,HO.ins.injEq,and_assoc,kZ,V.int.injEq,T.cl_Train,T.no_Train_legs,true_and]
    refine ⟨by omega,by omega,?_⟩
    refine lcb (J:=Itr 0 t.legs) (n:=t.legs) (fm (List.range t.legs) (fun _=>true) fun k=>vN (t.on k).length) kC (fun i H' hi s=>hi) (fun H' s=>Nat.le_refl _) (fun D i H' x H2 hD hi pv hy=>?_) (fun D H' hD s e=>?_)
    · obtain ⟨rfl,rfl⟩:=hy
      have X':=X.same pv.1
      simp only [jI,v5,List.set_cons_succ,List.set_cons_zero,Int.zero_add,sE,tCB,jN,wM,j4,List.getElem?_cons_zero,Option.some.injEq,List.getElem?_cons_succ,kN,List.append_nil,List.cons.injEq,and_true,exists_eq_left',exists_and_left,V.ref.injEq,X'.tr,HO.ins.injEq,true_and,and_assoc,gW,if_true]
      refine ⟨p,d,l,t,dx,kvs,as,i,rfl,X',hlen,fun H3 q s3 hq eq=>⟨q,rfl,_,.inl (SqL.of eq),?_⟩⟩
      rw [show vNs (t.on i)=(t.on i).map vN from rfl,List.length_map]
      exact lcY pv hD s3 (vL (by simp [hi]) rfl) (wV (m:=8) (by simpa using hlegs) (by decide))
    · rw [vT (by simp),v6] at e
      refine kk H' D s hD ?_
      rw [e]
      simp [vNs,uA]
def jk7 (a:Adr):Sp:=fun vs H Q _=>∃ (p d l:Addr) (t:Sw77.Train) (dx:Addr) (kvs:TK) (as:List Addr),vs=[.ref p]∧jH a H p d l t dx kvs as∧t.riders.length≤20∧t.legs≤8 ∧
  ∀ H':Hp,jG H H'→Q (.bl t.crowded.isSome) H'
theorem jdX:jD ["self","many"] ["self"] (jW jqY):=⟨rfl,rfl,rfl,by decide +kernel,rfl,by decide +kernel,by decide +kernel⟩
theorem jhK (T:Txt K mg a):vA P w K mg base CX0 5 a.f_qi a.d_qi ["self"] (jk7 a):=by
  have nd:=jdX.nd
  have G_qh:=jhJ (P:=P) (w:=w) (base:=base) T
  refine T.F_qi.ok jdX (fun vs H Q E h=>?_) (fun cdv A outer s H vs Q E hr h=>?_)
  · obtain ⟨p,d,l,t,dx,kvs,as,rfl,_⟩:=h
    rfl
  · obtain ⟨p,d,l,t,dx,kvs,as,rfl,X,hlen,hlegs,kk⟩:=h
    have hr:=hr.mono (by decide:3≤4)
    refine ⟨_,(jY (jC (jL (jg8 rfl) rfl T.n_any jg5 (jJ (plc [("many",1)] nd (v3 (xY (pv 0) T.cl_Train T.m_qh G_qh hr T.b_qh .nil jU)) (by intro _ _ _ _ _;exact (pgn 1 nd)) (by intro _ _ _ _ _;exact v4) (by intro _ _ _ _ _;exact (bJ rK (pv 1) (zJ K (pv 0)) (j0 _)))) jQ)))),?_⟩
    have e0:j7 ["self","many"] [.ref p]=[some (.ref p),none]:=rfl
    rw [e0]
    simp only [zU,tCB,jN,uN,List.map_cons,List.map_nil,kN,vX,yZ,wM,j4,List.getElem?_cons_zero,Option.some.injEq,List.append_nil,exists_and_left,exists_eq_left',V.ref.injEq,X.tr,HO.ins.injEq,true_and,and_assoc,cU]
    refine ⟨p,d,l,t,dx,kvs,as,rfl,X,hlen,hlegs,fun H1 q s1 hq eq=>⟨q,rfl,⟨_,SqL.of eq⟩,?_⟩⟩
    have X1:=X.same s1
    refine lcb (J:=Itl K q) (n:=(uA t).length) (fm (uA t) (fun _=>true) fun m=>V.bl (decide (t.seats < m))) kC (fun i H' hi s=>⟨_,vN (uA t)[i],SqL.of (s _ _ eq),by simp [vNs,hi]⟩) (fun H' s=>⟨_,SqL.of (s _ _ eq),by simp [vNs]⟩) (fun D i H' x H2 hD hi pv hy=>?_) (fun D H' hD s e=>?_)
    · obtain ⟨rfl,hx⟩:=hy
      have hx:=hx _ (SqL.of (pv.1 _ _ eq))
      obtain ⟨m,hm⟩:∃ m,(uA t)[i]? = some m:=⟨_,List.getElem?_eq_getElem hi⟩
      rw [vNs,List.getElem?_map,hm] at hx
      have hx:vN m=x:=by simpa using hx
      subst hx
      have X':=X1.same pv.1
      simp only [jI,v5,List.set_cons_succ,List.set_cons_zero,vN,sE,tOp,j4,List.getElem?_cons_succ,List.getElem?_cons_zero,Option.some.injEq,uQ,rI0,exists_and_left,exists_eq_left',V.ref.injEq,X'.tr,HO.ins.injEq,and_assoc,vE,V.int.injEq,T.cl_Train,T.no_Train_seats,true_and,if_true]
      refine lcY pv hD (jG.refl _) ?_ (wV (m:=8) (by simpa [uA] using hlegs) (by decide))
      rw [vL hm rfl]
      simp
    · rw [vT rfl,v6] at e
      refine ⟨D,(uA t).map fun m=>decide (t.seats < m),rfl,SqL.of (by rw [e,List.map_map];rfl),?_⟩
      have ec:((uA t).map fun m=>decide (t.seats < m)).any id=t.crowded.isSome:=by
        unfold Sw77.Train.crowded uA
        rw [Bool.eq_iff_iff,List.find?_isSome,List.any_eq_true]
        simp
      rw [ec]
      exact kk H' (s1.trans s)
end
abbrev Pl:=List (Nat×Nat)
def kQ (l:Pl):List (Key×V):=l.map fun x=>(Sum.inl (x.1:Int),vN x.2)
theorem qS (l:Pl) (i:Nat):(kQ l)[i]? = (l[i]?).map fun x=>(Sum.inl (x.1:Int),vN x.2):=by unfold kQ;rw [List.getElem?_map]
theorem zZ (l:Pl):(kQ l).length=l.length:=by unfold kQ;rw [List.length_map]
theorem zW:∀ (l:Pl) (i:Nat),z9 (kQ l) (Sum.inl (i:Int))=(l.lookup i).map vN
  | [],i=>rfl
  | x :: l,i=>by
    obtain ⟨j,s⟩:=x
    have ih:=zW l i
    unfold z9 kQ at ih ⊢
    rw [List.map_cons,List.find?_cons]
    by_cases h:i=j
    · subst h;simp
    · have h1:(decide ((Sum.inl (j:Int):Key)=Sum.inl (i:Int)))=false:=by simp;omega
      have h2:(i == j)=false:=by simpa using h
      rw [h1,List.lookup_cons,h2]
      exact ih
theorem yQ:∀ {l:Pl} {x:Nat×Nat},(l.map (·.1)).Nodup→x∈l→l.lookup x.1=some x.2
  | y :: l,x,nd,h=>by
    rw [List.map_cons,List.nodup_cons] at nd
    rw [List.lookup_cons]
    rcases List.mem_cons.mp h with rfl | h
    · simp
    · have h2:(x.1 == y.1)=false:=by
        rw [beq_eq_false_iff_ne]
        intro e
        exact nd.1 (e ▸ List.mem_map_of_mem h)
      rw [h2]
      exact yQ nd.2 h
theorem jH.other {a:Adr} {H:Hp} {p d l:Addr} {t:Sw77.Train} {dx:Addr} {kvs:TK} {as:List Addr} (X:jH a H p d l t dx kvs as) {b:Addr} {u o:HO} (hb:H b=some u) (h1:∀ C x f,u≠.ins C x f) (h2:∀ k,u≠.dT k) (h3:∀ k,u≠.lst k):jH a (upd H b o) p d l t dx kvs as :=
  ⟨by rw [jV (j1 X.tr hb fun e=>h1 _ _ _ e.symm)];exact X.tr,by rw [jV (j1 X.dic hb fun e=>h2 _ e.symm)];exact X.dic,X.bes,X.few,by rw [jV (j1 X.lst hb fun e=>h3 _ e.symm)];exact X.lst,X.len,fun i q r e1 e2=>by
    obtain ⟨dx',e⟩:=X.rid i q r e1 e2
    exact ⟨dx',by rw [jV (j1 e hb fun e=>h1 _ _ _ e.symm)];exact e⟩⟩
theorem jH.lockK {a:Adr} {H:Hp} {p d l:Addr} {t:Sw77.Train} {dx:Addr} {kvs:TK} {as:List Addr} (X:jH a H p d l t dx kvs as) {b:Addr} {u:List (Key×V)} {o:HO} (hb:H b=some (.dK u)):jH a (upd H b o) p d l t dx kvs as :=
  X.other hb (fun _ _ _ z=>nomatch z) (fun _ z=>nomatch z) (fun _ z=>nomatch z)
theorem jG.unlock {H H':Hp} {d:Addr} {u o:HO} (hd:H d=some u) (s:jG (upd H d o) H'):jG H (upd H' d u):=fun b v e=>by
  by_cases h:b=d
  · subst h;rw [jK,← hd,e]
  · rw [jV h];exact s b v (by rw [jV h];exact e)
theorem jH.at {a:Adr} {H:Hp} {p d l:Addr} {t:Sw77.Train} {dx:Addr} {kvs:TK} {as:List Addr} (X:jH a H p d l t dx kvs as) {i:Nat} (h:i < t.riders.length):∃ q r dx',atI (as.map V.ref) (i:Int)=some (.ref q)∧t.riders[i]? = some r∧H q=some (.ins a.C_Rider dx' (wF (.int r.from_) (.int r.to) (.int r.group) (.int (jq5 r.wish)))):=by
  have h1:i < as.length:=by rw [X.len];exact h
  obtain ⟨dx',e⟩:=X.rid i as[i] t.riders[i] (List.getElem?_eq_getElem h1) (List.getElem?_eq_getElem h)
  refine ⟨as[i],t.riders[i],dx',?_,List.getElem?_eq_getElem h,e⟩
  unfold atI
  rw [p6 (by rw [List.length_map];exact h1)]
  simp [h1]
def uO (t:Sw77.Train) (x:Nat×Nat):Bool:=match (t.riders[x.1]?).bind (·.wish) with
  | some w=>decide (w≠x.2)
  | none=>false
def qF (t:Sw77.Train) (i j:Nat):Bool:=match t.riders[i]?,t.riders[j]? with
  | some x,some y=>decide (x.group≠0) && decide (x.group=y.group)
  | _,_=>false
def kM (t:Sw77.Train) (x y:Nat×Nat):Bool:=decide (x.1 < y.1) && (qF t x.1 y.1 && !t.beside x.2 y.2)
structure jq8 (t:Sw77.Train) (l:Pl):Prop where
  nd:(l.map (·.1)).Nodup
  lt:∀ x∈l,x.1 < t.riders.length
  few:l.length≤20
section
variable {P:Program} {w:World} {K:W.Frag} {mg:Str→Option Value} {base:Heap} {a:Adr}
def jk8 (a:Adr):Sp:=fun vs H Q _=>∃ (p d l:Addr) (t:Sw77.Train) (dx:Addr) (kvs:TK) (as:List Addr) (sd:Addr) (pl:Pl),vs=[.ref p,.ref sd]∧jH a H p d l t dx kvs as∧H sd=some (.dK (kQ pl))∧jq8 t pl ∧
  ∀ H':Hp,jG H H'→Q (.int ((pl.filter (uO t)).length:Nat)) H'
theorem jdY:jD ["train","seated","i"] ["train","seated"] (jW jy0):=⟨rfl,rfl,rfl,by decide +kernel,rfl,by decide +kernel,by decide +kernel⟩
theorem jm4 (T:Txt K mg a):vA P w K mg base CX0 3 a.f_qj a.d_qj ["train","seated"] (jk8 a):=by
  have nd:=jdY.nd
  refine T.F_qj.ok jdY (fun vs H Q E h=>?_) (fun cdv A outer s H vs Q E hr h=>?_)
  · obtain ⟨p,d,l,t,dx,kvs,as,sd,pl,rfl,X,hs,ok,kk⟩:=h
    rfl
  · obtain ⟨p,d,l,t,dx,kvs,as,sd,pl,rfl,X,hs,ok,kk⟩:=h
    have hu:=kE hr
    refine ⟨_,(jY (jC (jL (j8 K) rfl T.n_len vF (jJ (iH (plc [("i",2)] nd (gH (pv 1)) (by intro _ _ _ _ _;exact (pgn 2 nd)) (by intro _ _ _ _ _;exact (zN (jR (qD K) (zJ K (vY (jT K) (zJ K (pv 0)) (pv 2) (fun _ _=>rfl))) (v0 (jJ jA (jJ (zK zX (vI hu (pv 1) (pv 2) (fun _ _=>rfl)) jA) jQ))) rfl))) (by intro _ _ _ _ _;exact (pv 2)))) jQ)))),?_⟩
    rw [show j7 ["train","seated","i"] [.ref p,.ref sd]=[some (.ref p),some (.ref sd),none] from rfl]
    simp only [zU,tCB,jN,i9,List.map_cons,List.map_nil,kN,List.cons.injEq,and_true,exists_and_left,vX,tF,j4,List.getElem?_cons_succ,List.getElem?_cons_zero,Option.some.injEq,exists_eq_left',V.ref.injEq]
    refine ⟨sd,_,hs,trivial,fun od=>?_⟩
    have X1:=X.lockK (o:=.frz od (.dK (kQ pl))) hs
    generalize hH1:upd H sd (.frz od (.dK (kQ pl)))=H1 at X1
    have hz:H1 sd=some (.frz od (.dK (kQ pl))):=by rw [← hH1,jK]
    refine ⟨od,.inl ⟨_,hz,?_⟩⟩
    refine lcb (n:=pl.length) (fm pl (uO t) fun x=>vN x.1) kC (fun i H' hi s=>⟨s _ _ hz,by rw [zZ];exact hi⟩) (fun H' s=>⟨s _ _ hz,by rw [zZ];exact Nat.le_refl _⟩) (fun D i H' x H2 hD hi pv hy=>?_) (fun D H' hD s e=>?_)
    · obtain ⟨rfl,kq,vq,hk,rfl⟩:=hy
      obtain ⟨x,hx⟩:∃ x,pl[i]? = some x:=⟨_,List.getElem?_eq_getElem hi⟩
      rw [qS,hx] at hk
      obtain ⟨rfl,rfl⟩:Sum.inl (x.1:Int)=kq∧vN x.2=vq:=by simpa using hk
      have X':=X1.same pv.1
      have hm:=List.mem_of_getElem? hx
      obtain ⟨q,r,dx',e1,e2,e3⟩:=X'.at (ok.lt x hm)
      simp only [jI,v5,List.set_cons_succ,List.set_cons_zero,kV,vH,tOp,uQ,j4,List.getElem?_cons_zero,Option.some.injEq,List.getElem?_cons_succ,fZ,sS,jN,tC,yM,rI0,V.int.injEq,kN,exists_eq_left',exists_and_left,V.ref.injEq,X'.tr,HO.ins.injEq,and_assoc,kH,T.cl_Train,T.no_Train_riders,true_and]
      refine ⟨_,SqL.of X'.lst,_,e1,q,rfl,_,_,_,e3,T.cl_Rider,T.no_Rider_wished,_,y6,vN x.2,.inl ⟨_,Sum.inl (x.1:Int),.inr ⟨od,pv.1 _ _ hz⟩,rfl,by rw [zW,yQ ok.nd hm];rfl⟩,_,rfl,by show 2≤sizeLine;decide,fun b hb=>?_⟩
      refine ⟨b,_,rfl,.inr (SqT.of jK),rfl,rfl,_,rfl,?_⟩
      have hw:(if true=true then !inV (V.int (jq5 r.wish)) [V.int 0,V.int ((x.2:Int)+1)] else inV (V.int (jq5 r.wish)) [V.int 0,V.int ((x.2:Int)+1)])=uO t x:=by
        unfold uO
        rw [e2]
        cases h:r.wish with
        | none=>simp [jq5,inV,eqV,h]
        | some w =>
          simp only [jq5,inV,eqV,h,Option.bind_some,List.any_cons,List.any_nil,if_true]
          by_cases hw:w=x.2
          · subst hw;simp
          · have h1:((0:Int) == (w:Int)+1)=false:=by rw [beq_eq_false_iff_ne];omega
            have h2:((x.2:Int)+1 == (w:Int)+1)=false:=by rw [beq_eq_false_iff_ne];omega
            rw [h1,h2];simp [hw]
      rw [hw]
      have sb:jG H2 (upd H2 b (.tup [V.int 0,V.int ((x.2:Int)+1)])):=jG.new hb
      refine wY (fun h=>lcY pv hD sb (vL hx h) (wV (m:=20) ok.few (by decide))) (fun h=>lcN pv sb (y4 hx (by simpa using h)))
    · rw [vT rfl] at e
      simp only [V.ref.injEq,exists_eq_left']
      refine ⟨s _ _ hz,_,.inl (SqL.of ((jV (j1 e (s _ _ hz) (fun z=>nomatch z))).trans e)),?_⟩
      rw [List.length_map]
      exact kk _ (jG.unlock hs (by rw [hH1];exact s))
def lZ (a:Adr):Sp:=fun vs H Q _=>∃ (p d l:Addr) (t:Sw77.Train) (dx:Addr) (kvs:TK) (as:List Addr) (i j:Nat),vs=[.ref p,.int i,.int j]∧jH a H p d l t dx kvs as∧i < t.riders.length∧j < t.riders.length∧Q (.bl (qF t i j)) H
theorem jb0:jD ["train","i","j"] ["train","i","j"] (jW jy1):=⟨rfl,rfl,rfl,by decide +kernel,rfl,by decide +kernel,by decide +kernel⟩
theorem jm5 (T:Txt K mg a):vA P w K mg base CX0 3 a.f_qk a.d_qk ["train","i","j"] (lZ a):=by
  have nd:=jb0.nd
  refine T.F_qk.ok jb0 (fun vs H Q E h=>?_) (fun cdv A outer s H vs Q E hr h=>?_)
  · obtain ⟨p,d,l,t,dx,kvs,as,i,j,rfl,X,hi,hj,kk⟩:=h
    rfl
  · obtain ⟨p,d,l,t,dx,kvs,as,i,j,rfl,X,hi,hj,kk⟩:=h
    have hu:=kE hr
    refine ⟨_,(jY (jC (jf7 (bJ mX (zJ K (vY (jT K) (zJ K (pv 0)) (pv 1) (fun _ _=>rfl))) jA (j0 _)) (jfV (bJ h9 (zJ K (vY (jT K) (zJ K (pv 0)) (pv 1) (fun _ _=>rfl))) (zJ K (vY (jT K) (zJ K (pv 0)) (pv 2) (fun _ _=>rfl))) (j0 _)))))),?_⟩
    rw [show j7 ["train","i","j"] [.ref p,.int i,.int j]=[some (.ref p),some (.int i),some (.int j)] from rfl]
    obtain ⟨q1,r1,dx1,a1,a2,a3⟩:=X.at hi
    obtain ⟨q2,r2,dx2,b1,b2,b3⟩:=X.at hj
    simp only [zU,jrK,tOp,uQ,j4,List.getElem?_cons_zero,Option.some.injEq,List.getElem?_cons_succ,fZ,tC,rNe,f8,V.bl.injEq,rEq,exists_and_left,exists_eq_left',V.int.injEq,V.ref.injEq,X.tr,HO.ins.injEq,and_assoc,kH,T.cl_Train,T.no_Train_riders,true_and]
    refine ⟨_,SqL.of X.lst,_,a1,q1,rfl,_,_,_,a3,T.cl_Rider,T.no_Rider_group,_,zD,rfl,?_⟩
    have eg:qF t i j=(decide (r1.group≠0) && decide (r1.group=r2.group)):=by unfold qF;rw [a2,b2]
    rw [eg] at kk
    refine wY (fun h=>?_) (fun h=>?_)
    · have h:r1.group≠0:=by simpa using h
      refine ⟨_,SqL.of X.lst,_,a1,q1,rfl,_,_,_,a3,T.cl_Rider,T.no_Rider_group,_,zD,_,SqL.of X.lst,_,b1,q2,rfl,_,_,_,b3,T.cl_Rider,T.no_Rider_group,_,zD,rfl,?_⟩
      have e:decide (V.int (r1.group:Int)=V.int (r2.group:Int))=decide (r1.group=r2.group):=by simp;omega
      rw [e]
      simpa [h] using kk
    · have h:r1.group=0:=by simpa using h
      simpa [h] using kk
def pairsApart (t:Sw77.Train) (l:Pl):Nat:=(l.map fun x=>(l.filter fun y=>kM t x y).length).sum
def ju7 (a:Adr):Sp:=fun vs H Q _=>∃ (p d l:Addr) (t:Sw77.Train) (dx:Addr) (kvs:TK) (as:List Addr) (sd:Addr) (pl:Pl),vs=[.ref p,.ref sd]∧jH a H p d l t dx kvs as∧H sd=some (.dK (kQ pl))∧jq8 t pl ∧
  ∀ H':Hp,jG H H'→Q (.int (pairsApart t pl:Nat)) H'
theorem jb1:jD ["train","seated","apart","i","j"] ["train","seated"] (jW jy2):=⟨rfl,rfl,rfl,by decide +kernel,rfl,by decide +kernel,by decide +kernel⟩
theorem jm6 (T:Txt K mg a):vA P w K mg base CX0 5 a.f_ql a.d_ql ["train","seated"] (ju7 a):=by
  have nd:=jb1.nd
  have G_qk:=(jm5 (P:=P) (w:=w) (base:=base) T).mono (k:=4) (by decide)
  refine T.F_ql.ok jb1 (fun vs H Q E h=>?_) (fun cdv A outer s H vs Q E hr h=>?_)
  · obtain ⟨p,d,l,t,dx,kvs,as,sd,pl,rfl,X,hs,ok,kk⟩:=h
    rfl
  · obtain ⟨p,d,l,t,dx,kvs,as,sd,pl,rfl,X,hs,ok,kk⟩:=h
    have hu:=kE hr
    refine ⟨_,(jZ (kJ 2 nd jA)
(jZ (mD (yR (gH (pv 1)) (pgn 3 nd)
(jY (yR (gH (pv 1)) (pgn 4 nd)
(jY (zV (PW.pt (rB (jR rV (pv 3) (pv 4) (j0 _)) (rB (jd5 K (jP G_qk hr rfl T.g_qk T.F_qk.kp T.b_qk .nil jU (jJ (pv 0) (jJ (pv 3) (jJ (pv 4) jQ))))) (bV (rD (rQ hu (v0 (jJ (vI hu (pv 1) (pv 3) (fun _ _=>rfl)) (jJ (vI hu (pv 1) (pv 4) (fun _ _=>rfl)) jQ))) (zJ K (pv 0))))))))
(jY (jd3 2 nd jA jv4))
j6))))))
(jY (jC (pv 2))))),?_⟩
    rw [show j7 ["train","seated","apart","i","j"] [.ref p,.ref sd]=[some (.ref p),some (.ref sd),none,none,none] from rfl]
    simp only [zH,wI,tC,jI,jq2,vG,jN,j4,kN,List.append_nil,zU,List.set_cons_succ,List.set_cons_zero,zQ,tF,List.getElem?_cons_succ,List.getElem?_cons_zero,Option.some.injEq,exists_and_left,exists_eq_left',V.ref.injEq]
    refine ⟨sd,_,hs,trivial,fun od=>⟨od,.inl ⟨kQ pl,jK,?_⟩⟩⟩
    have X1:=X.lockK (o:=.frz od (.dK (kQ pl))) hs
    have hz:upd H sd (.frz od (.dK (kQ pl))) sd=some (.frz od (.dK (kQ pl))):=jK
    generalize hH1:upd H sd (.frz od (.dK (kQ pl)))=H1 at X1 hz
    refine tG (J:=Itk sd od (kQ pl)) (n:=pl.length) (fun i σ H'=>jG H1 H'∧∃ u v,σ=[some (.ref p),some (.ref sd),some (vN ((pl.take i).map fun x=>(pl.filter fun y=>kM t x y).length).sum),u,v]) ⟨jG.refl _,none,none,rfl⟩ (fun i σ H' hi h=>⟨h.1 _ _ hz,by rw [zZ];exact hi⟩) (fun σ H' h=>⟨h.1 _ _ hz,by rw [zZ];exact Nat.le_refl _⟩) (fun i σ H' x H2 hi h hy=>?_) (fun σ H' h=>?_)
    · obtain ⟨rfl,kq,vq,hk,rfl⟩:=hy
      obtain ⟨s1,u1,v1,rfl⟩:=h
      obtain ⟨x,hx⟩:∃ x,pl[i]? = some x:=⟨_,List.getElem?_eq_getElem hi⟩
      rw [qS,hx] at hk
      obtain ⟨rfl,rfl⟩:Sum.inl (x.1:Int)=kq∧vN x.2=vq:=by simpa using hk
      have hm:=List.mem_of_getElem? hx
      simp only [jI,kV,List.set_cons_succ,List.set_cons_zero,zQ,tF,j4,List.getElem?_cons_succ,List.getElem?_cons_zero,Option.some.injEq,exists_and_left,exists_eq_left',V.ref.injEq]
      refine ⟨od,.inl ⟨_,s1 _ _ hz,?_⟩⟩
      refine tG (J:=Itk sd od (kQ pl)) (n:=pl.length) (fun j σ H'=>jG H1 H'∧∃ v,σ=[some (.ref p),some (.ref sd),some (vN (((pl.take i).map fun x=>(pl.filter fun y=>kM t x y).length).sum+((pl.take j).filter fun y=>kM t x y).length)),some (vN x.1),v]) ⟨s1,v1,rfl⟩ (fun j σ H' hi h=>⟨h.1 _ _ hz,by rw [zZ];exact hi⟩) (fun σ H' h=>⟨h.1 _ _ hz,by rw [zZ];exact Nat.le_refl _⟩) (fun j σ H3 y' H4 hj h hy=>?_) (fun σ H3 h=>?_)
      · obtain ⟨rfl,kq,vq,hk,rfl⟩:=hy
        obtain ⟨s2,v2,rfl⟩:=h
        obtain ⟨y,hy⟩:∃ y,pl[j]? = some y:=⟨_,List.getElem?_eq_getElem hj⟩
        rw [qS,hy] at hk
        obtain ⟨rfl,rfl⟩:Sum.inl (y.1:Int)=kq∧vN y.2=vq:=by simpa using hk
        have hn:=List.mem_of_getElem? hy
        have X':=X1.same s2
        have no:kM t x y=false→((pl.take (j+1)).filter fun y=>kM t x y).length=((pl.take j).filter fun y=>kM t x y).length:=fun h=>by rw [List.take_add_one,hy];simp [h]
        have yes:kM t x y=true→((pl.take (j+1)).filter fun y=>kM t x y).length=((pl.take j).filter fun y=>kM t x y).length+1:=fun h=>by rw [List.take_add_one,hy];simp [h]
        simp only [jI,gE,jrJ,vH,tOp,j4,vN,kV,List.set_cons_succ,List.set_cons_zero,List.getElem?_cons_succ,List.getElem?_cons_zero,Option.some.injEq,rI0,V.bl.injEq,tB,mL,sS,jN,yM,kN,uQ,jp6,tC,ipI,V.int.injEq,List.cons.injEq,and_true,true_and,exists_and_left,exists_eq_left',zT,V.ref.injEq,Bool.false_eq_true,if_false,decide_eq_true_eq]
        refine wY (fun h1=>?_) (fun h1=>?_)
        · have h1:x.1 < y.1:=by omega
          refine ⟨p,d,l,t,dx,kvs,as,x.1,y.1,rfl,X',ok.lt x hm,ok.lt y hn,_,rfl,?_⟩
          refine wY (fun h2=>?_) (fun h2=>⟨s2,?_,_,rfl⟩)
          · refine ⟨vN x.2,.inl ⟨_,Sum.inl (x.1:Int),.inr ⟨od,s2 _ _ hz⟩,rfl,by rw [zW,yQ ok.nd hm];rfl⟩,vN y.2,.inl ⟨_,Sum.inl (y.1:Int),.inr ⟨od,s2 _ _ hz⟩,rfl,by rw [zW,yQ ok.nd hn];rfl⟩,by show 2≤sizeLine;decide,fun b hb=>?_⟩
            have sb:jG H4 (upd H4 b (.tup [vN x.2,vN y.2])):=jG.new hb
            refine ⟨_,_,_,sb _ _ X'.tr,T.cl_Train,T.no_Train_beside,_,vB,d,rfl,_,qO.t (k:=[.inl (x.2:Int),.inl (y.2:Int)]) (sb _ _ X'.dic) jK,?_⟩
            rw [X.bes]
            refine wY (fun h3=>⟨s2.trans sb,?_,_,rfl⟩) (fun h3=>⟨s2.trans sb,?_,_,rfl⟩)
            · rw [yes (by unfold kM;simp [h1,h2];simpa using h3)];omega
            · rw [no (by unfold kM;simp [h1,h2];simpa using h3)]
          · rw [no (by unfold kM;simp [h1];intro z;exact absurd z h2)]
        · refine ⟨s2,?_,_,rfl⟩
          rw [no (by unfold kM;simp;intro z;omega)]
      · obtain ⟨s2,v2,rfl⟩:=h
        refine ⟨s2,some (vN x.1),v2,?_⟩
        rw [List.take_of_length_le (Nat.le_refl _),List.take_add_one,hx]
        simp
    · obtain ⟨s2,u2,v2,rfl⟩:=h
      refine ⟨s2 _ _ hz,_,rfl,?_⟩
      rw [List.take_of_length_le (Nat.le_refl _)]
      exact kk _ (jG.unlock hs (by rw [hH1];exact s2))
def legCost (t:Sw77.Train) (l:Pl):Nat:=t.costs.wish * (l.filter (uO t)).length+t.costs.apart * pairsApart t l
def iU (a:Adr):Sp:=fun vs H Q _=>∃ (p d l:Addr) (t:Sw77.Train) (dx:Addr) (kvs:TK) (as:List Addr) (sd:Addr) (pl:Pl),vs=[.ref p,.ref sd]∧jH a H p d l t dx kvs as∧H sd=some (.dK (kQ pl))∧jq8 t pl∧t.costs.wish≤10000∧t.costs.apart≤10000 ∧
  ∀ H':Hp,jG H H'→Q (.int (legCost t pl:Nat)) H'
theorem jb2:jD ["train","seated"] ["train","seated"] (jW jy3):=⟨rfl,rfl,rfl,by decide +kernel,rfl,by decide +kernel,by decide +kernel⟩
theorem jhV (T:Txt K mg a):vA P w K mg base CX0 7 a.f_qm a.d_qm ["train","seated"] (iU a):=by
  have nd:=jb2.nd
  have G_qj:=(jm4 (P:=P) (w:=w) (base:=base) T).mono (k:=6) (by decide)
  have G_ql:=(jm6 (P:=P) (w:=w) (base:=base) T).mono (k:=6) (by decide)
  refine T.F_qm.ok jb2 (fun vs H Q E h=>?_) (fun cdv A outer s H vs Q E hr h=>?_)
  · obtain ⟨p,d,l,t,dx,kvs,as,sd,pl,rfl,X,hs,ok,hw,ha,kk⟩:=h
    rfl
  · obtain ⟨p,d,l,t,dx,kvs,as,sd,pl,rfl,X,hs,ok,hw,ha,kk⟩:=h
    have hu:=kE hr
    refine ⟨_,(jY (jC (zK zX (zK rZ (zJ K (pv 0)) (jP G_qj hr rfl T.g_qj T.F_qj.kp T.b_qj .nil jU (jJ (pv 0) (jJ (pv 1) jQ)))) (zK rZ (zJ K (pv 0)) (jP G_ql hr rfl T.g_ql T.F_ql.kp T.b_ql .nil jU (jJ (pv 0) (jJ (pv 1) jQ))))))),?_⟩
    rw [show j7 ["train","seated"] [.ref p,.ref sd]=[some (.ref p),some (.ref sd)] from rfl]
    simp only [zU,tOp,uQ,j4,List.getElem?_cons_zero,Option.some.injEq,vG,jN,List.getElem?_cons_succ,kN,List.append_nil,rI,jxY,rI0,V.int.injEq,exists_and_left,exists_eq_left',V.ref.injEq,X.tr,HO.ins.injEq,and_assoc,hX,T.cl_Train,T.no_Train_wish,true_and]
    refine ⟨p,d,l,t,dx,kvs,as,sd,pl,rfl,X,hs,ok,fun H1 s1=>⟨_,rfl,.inl ⟨by omega,by omega⟩,_,_,_,s1 _ _ X.tr,T.cl_Train,T.no_Train_apart,_,xI,?_⟩⟩
    refine ⟨p,d,l,t,dx,kvs,as,sd,pl,rfl,X.same s1,s1 _ _ hs,ok,fun H2 s2=>⟨_,rfl,_,rfl,.inl ⟨by omega,by omega⟩,?_⟩⟩
    have e:(t.costs.wish:Int) * ((pl.filter (uO t)).length:Nat)+(t.costs.apart:Int) * (pairsApart t pl:Nat)=(legCost t pl:Nat):=by unfold legCost;push_cast;rfl
    rw [e]
    exact kk H2 (s1.trans s2)
def mvd (m:Pl) (x:Nat×Nat):Bool:=match m.lookup x.1 with
  | some s=>decide (x.2≠s)
  | none=>false
def movesB (l m:Pl):Nat:=(l.filter (mvd m)).length
def juJ:Sp:=fun vs H Q _=>∃ (d1 d2:Addr) (l m:Pl),vs=[.ref d1,.ref d2]∧H d1=some (.dK (kQ l))∧H d2=some (.dK (kQ m))∧d1≠d2∧(l.map (·.1)).Nodup∧l.length≤20 ∧
  ∀ H':Hp,jG H H'→Q (.int (movesB l m:Nat)) H'
theorem jb3:jD ["seated","seated_behind","i"] ["seated","seated_behind"] (jW jy4):=⟨rfl,rfl,rfl,by decide +kernel,rfl,by decide +kernel,by decide +kernel⟩
theorem jhZ (T:Txt K mg a):vA P w K mg base CX0 3 a.f_qn a.d_qn ["seated","seated_behind"] (juJ):=by
  have nd:=jb3.nd
  refine T.F_qn.ok jb3 (fun vs H Q E h=>?_) (fun cdv A outer s H vs Q E hr h=>?_)
  · obtain ⟨d1,d2,l,m,rfl,h1,h2,hne,nl,hl,kk⟩:=h
    rfl
  · obtain ⟨d1,d2,l,m,rfl,h1,h2,hne,nl,hl,kk⟩:=h
    have hu:=kE hr
    refine ⟨_,(jY (jC (jL (j8 K) rfl T.n_len vF (jJ (iH (plc [("i",2)] nd (gH (pv 0)) (by intro _ _ _ _ _;exact (pgn 2 nd)) (by intro _ _ _ _ _;exact (zN (PW.pt (rB (rD (iX hu (pv 2) (pv 1))) (bV (jR mX (vI hu (pv 0) (pv 2) (fun _ _=>rfl)) (vI hu (pv 1) (pv 2) (fun _ _=>rfl)) (j0 _))))))) (by intro _ _ _ _ _;exact (pv 2)))) jQ)))),?_⟩
    rw [show j7 ["seated","seated_behind","i"] [.ref d1,.ref d2]=[some (.ref d1),some (.ref d2),none] from rfl]
    simp only [zU,tCB,jN,i9,List.map_cons,List.map_nil,kN,List.cons.injEq,and_true,exists_and_left,vX,tF,j4,List.getElem?_cons_zero,Option.some.injEq,exists_eq_left',V.ref.injEq]
    refine ⟨d1,_,h1,trivial,fun od=>?_⟩
    have hz:upd H d1 (.frz od (.dK (kQ l))) d1=some (.frz od (.dK (kQ l))):=jK
    have h2':upd H d1 (.frz od (.dK (kQ l))) d2=some (.dK (kQ m)):=by rw [jV hne.symm];exact h2
    generalize hH1:upd H d1 (.frz od (.dK (kQ l)))=H1 at hz h2'
    refine ⟨od,.inl ⟨_,hz,?_⟩⟩
    refine lcb (n:=l.length) (fm l (mvd m) fun x=>vN x.1) kC (fun i H' hi s=>⟨s _ _ hz,by rw [zZ];exact hi⟩) (fun H' s=>⟨s _ _ hz,by rw [zZ];exact Nat.le_refl _⟩) (fun D i H' x H2 hD hi pv hy=>?_) (fun D H' hD s e=>?_)
    · obtain ⟨rfl,kq,vq,hk,rfl⟩:=hy
      obtain ⟨x,hx⟩:∃ x,l[i]? = some x:=⟨_,List.getElem?_eq_getElem hi⟩
      rw [qS,hx] at hk
      obtain ⟨rfl,rfl⟩:Sum.inl (x.1:Int)=kq∧vN x.2=vq:=by simpa using hk
      have hm:=List.mem_of_getElem? hx
      have g1:qO H2 d1 (V.int (x.1:Int)) (some (vN x.2)):=.inl ⟨_,Sum.inl (x.1:Int),.inr ⟨od,pv.1 _ _ hz⟩,rfl,by rw [zW,yQ nl hm];rfl⟩
      have g2:qO H2 d2 (V.int (x.1:Int)) ((m.lookup x.1).map vN):=.inl ⟨_,Sum.inl (x.1:Int),.inl (pv.1 _ _ h2'),rfl,(zW m x.1).symm⟩
      simp only [jI,v5,List.set_cons_succ,List.set_cons_zero,kV,jrJ,tB,jp7,j4,List.getElem?_cons_succ,List.getElem?_cons_zero,Option.some.injEq,V.bl.injEq,vH,tOp,yM,rNe,f8,exists_eq_left',exists_and_left,V.ref.injEq,Bool.false_eq_true,if_false,true_and]
      refine ⟨_,g2,?_⟩
      cases hl2:m.lookup x.1 with
      | none =>
        refine wY (fun h=>by simp at h) (fun _=>lcN pv (jG.refl _) (y4 hx (by unfold mvd;rw [hl2])))
      | some s2 =>
        rw [hl2] at g2
        refine wY (fun _=>⟨_,g1,_,g2,rfl,?_⟩) (fun h=>by simp at h)
        have e:decide (vN x.2=vN s2)=decide (x.2=s2):=by unfold vN;simp;omega
        rw [e]
        refine wY (fun h=>lcY pv hD (jG.refl _) (vL hx (by unfold mvd;rw [hl2];simpa using h)) (wV (m:=20) hl (by decide))) (fun h=>lcN pv (jG.refl _) (y4 hx (by unfold mvd;rw [hl2];simpa using h)))
    · rw [vT rfl] at e
      simp only [V.ref.injEq,exists_eq_left']
      refine ⟨s _ _ hz,_,.inl (SqL.of ((jV (j1 e (s _ _ hz) (fun z=>nomatch z))).trans e)),?_⟩
      rw [List.length_map]
      exact kk _ (jG.unlock h1 (by rw [hH1];exact s))
structure wJ (H:Hp) (pp:Addr) (ds:List Addr) (ls:List Pl):Prop where
  lst:H pp=some (.lst (ds.map V.ref))
  len:ds.length=ls.length
  nd:ds.Nodup
  at':∀ (i:Nat) (d:Addr) (l:Pl),ds[i]? = some d→ls[i]? = some l→H d=some (.dK (kQ l))
theorem wJ.same {H H':Hp} {pp:Addr} {ds:List Addr} {ls:List Pl} (X:wJ H pp ds ls) (s:jG H H'):wJ H' pp ds ls:=⟨s _ _ X.lst,X.len,X.nd,fun i d l h1 h2=>s _ _ (X.at' i d l h1 h2)⟩
theorem vK {α:Type} {xs:List α} {i:Nat} {x:α} (h:xs[i]? = some x):atI xs (i:Int)=some x:=by
  have hi:i < xs.length:=(List.getElem?_eq_some_iff.mp h).1
  unfold atI
  rw [p6 hi]
  exact h
def movesOf (ls:List Pl):Nat:=((List.range (ls.length - 1)).map fun k=>movesB (ls.getD k []) (ls.getD (k+1) [])).sum
theorem xZ:∀ l:List Nat,((l.map fun n:Nat=>(n:Int)).sum)=((l.sum:Nat):Int)
  | []=>rfl
  | x :: l=>by rw [List.map_cons,List.sum_cons,List.sum_cons,xZ l];push_cast;rfl
def i3:Sp:=fun vs H Q _=>∃ (pp:Addr) (ds:List Addr) (ls:List Pl),vs=[.ref pp]∧wJ H pp ds ls∧ls.length≤20∧(∀ l∈ls,(l.map (·.1)).Nodup∧l.length≤20) ∧
  ∀ H':Hp,jG H H'→Q (.int (movesOf ls:Nat)) H'
theorem jb4:jD ["plan","leg"] ["plan"] (jW jy5):=⟨rfl,rfl,rfl,by decide +kernel,rfl,by decide +kernel,by decide +kernel⟩
theorem jhW (T:Txt K mg a):vA P w K mg base CX0 5 a.f_qo a.d_qo ["plan"] (i3):=by
  have nd:=jb4.nd
  have G_qn:=(jhZ (P:=P) (w:=w) (base:=base) T).mono (k:=4) (by decide)
  refine T.F_qo.ok jb4 (fun vs H Q E h=>?_) (fun cdv A outer s H vs Q E hr h=>?_)
  · obtain ⟨pp,ds,ls,rfl,X,hl,ok,kk⟩:=h
    rfl
  · obtain ⟨pp,ds,ls,rfl,X,hl,ok,kk⟩:=h
    have hu:=kE hr
    refine ⟨_,(jY (jC (jL (aK rfl) rfl T.n_sum l6 (jJ (plc [("leg",1)] nd (zM rfl T.n_range (jJ (zK iK (jL (j8 K) rfl T.n_len vF (jJ (pv 0) jQ)) jA) jQ)) (by intro _ _ _ _ _;exact (pgn 1 nd)) (by intro _ _ _ _ _;exact v4) (by intro _ _ _ _ _;exact (jP G_qn hr rfl T.g_qn T.F_qn.kp T.b_qn .nil jU (jJ (vY (jT K) (pv 0) (pv 1) (fun _ _=>rfl)) (jJ (vY (jT K) (pv 0) (zK zX (pv 1) jA) (fun _ _=>rfl)) jQ))))) jQ)))),?_⟩
    rw [show j7 ["plan","leg"] [.ref pp]=[some (.ref pp),none] from rfl]
    simp only [zU,tCB,jN,exists_and_left,List.map_cons,List.map_nil,kN,uN,vX,cC,tOp,j4,List.getElem?_cons_zero,Option.some.injEq,List.cons.injEq,and_true,tC,rI0,V.int.injEq,exists_eq_left',V.ref.injEq]
    refine ⟨_,.inl (SqL.of X.lst),?_⟩
    rw [List.length_map,X.len]
    have en:((ls.length:Int) - 1).toNat=ls.length - 1:=by omega
    rw [en]
    refine ⟨by omega,by omega,?_⟩
    refine lcb (J:=Itr 0 (ls.length - 1)) (n:=ls.length - 1) (fm (List.range (ls.length - 1)) (fun _=>true) fun k=>vN (movesB (ls.getD k []) (ls.getD (k+1) []))) kC (fun i H' hi s=>hi) (fun H' s=>Nat.le_refl _) (fun D i H' x H2 hD hi pv hy=>?_) (fun D H' hD s e=>?_)
    · obtain ⟨rfl,rfl⟩:=hy
      have X':=X.same pv.1
      obtain ⟨d1,e1⟩:∃ d,ds[i]? = some d:=⟨_,List.getElem?_eq_getElem (by rw [X.len];omega)⟩
      obtain ⟨d2,e2⟩:∃ d,ds[i+1]? = some d:=⟨_,List.getElem?_eq_getElem (by rw [X.len];omega)⟩
      have f1:ls[i]? = some (ls.getD i []):=by rw [List.getD_eq_getElem?_getD,List.getElem?_eq_getElem (by omega)];rfl
      have f2:ls[i+1]? = some (ls.getD (i+1) []):=by rw [List.getD_eq_getElem?_getD,List.getElem?_eq_getElem (by omega)];rfl
      have hne:d1≠d2:=fun e=>by
        obtain ⟨a1,b1⟩:=List.getElem?_eq_some_iff.mp e1
        obtain ⟨a2,b2⟩:=List.getElem?_eq_some_iff.mp e2
        have:=(List.getElem_inj X.nd).mp (b1.trans (e.trans b2.symm))
        omega
      obtain ⟨n1,m1⟩:=ok _ (List.mem_of_getElem? f1)
      simp only [jI,v5,List.set_cons_succ,List.set_cons_zero,Int.zero_add,sE,vG,jN,tOp,j4,List.getElem?_cons_zero,Option.some.injEq,List.getElem?_cons_succ,fZ,tC,rI0,V.int.injEq,kN,List.append_nil,exists_and_left,exists_eq_left',V.ref.injEq,if_true,true_and]
      refine ⟨_,SqL.of X'.lst,V.ref d1,vK (by rw [List.getElem?_map,e1];rfl),_,SqL.of X'.lst,V.ref d2,vK (i:=i+1) (by rw [List.getElem?_map,e2];rfl),?_⟩
      exact ⟨d1,d2,_,_,rfl,X'.at' i d1 _ e1 f1,X'.at' _ d2 _ e2 f2,hne,n1,m1,fun H3 s3=>lcY pv hD s3 (vL (by simp [hi]) rfl) (wV (m:=20) (by simp;omega) (by decide))⟩
    · rw [vT (by simp),v6] at e
      refine ⟨D,((List.range (ls.length - 1)).map fun k=>movesB (ls.getD k []) (ls.getD (k+1) [])).map fun n:Nat=>(n:Int),rfl,SqL.of (by rw [e,List.map_map,List.map_map];rfl),?_⟩
      rw [xZ]
      exact kk H' s
def planCost (t:Sw77.Train) (ls:List Pl):Nat:=t.costs.move * movesOf ls+(ls.map (legCost t)).sum
def jk3 (a:Adr):Sp:=fun vs H Q _=>∃ (p d l:Addr) (t:Sw77.Train) (dx:Addr) (kvs:TK) (as:List Addr) (pp:Addr) (ds:List Addr) (ls:List Pl),vs=[.ref p,.ref pp]∧jH a H p d l t dx kvs as∧wJ H pp ds ls∧ls.length≤20∧(∀ l∈ls,jq8 t l) ∧
  t.costs.move≤10000∧t.costs.wish≤10000∧t.costs.apart≤10000∧∀ H':Hp,jG H H'→Q (.int (planCost t ls:Nat)) H'
theorem jb5:jD ["train","plan","seated"] ["train","plan"] (jW jy6):=⟨rfl,rfl,rfl,by decide +kernel,rfl,by decide +kernel,by decide +kernel⟩
theorem jm7 (T:Txt K mg a):vA P w K mg base CX0 9 a.f_qp a.d_qp ["train","plan"] (jk3 a):=by
  have nd:=jb5.nd
  have G_qo:=(jhW (P:=P) (w:=w) (base:=base) T).mono (k:=8) (by decide)
  have G_qm:=(jhV (P:=P) (w:=w) (base:=base) T).mono (k:=8) (by decide)
  refine T.F_qp.ok jb5 (fun vs H Q E h=>?_) (fun cdv A outer s H vs Q E hr h=>?_)
  · obtain ⟨p,d,l,t,dx,kvs,as,pp,ds,ls,rfl,X,Y,hl,ok,c1,c2,c3,kk⟩:=h
    rfl
  · obtain ⟨p,d,l,t,dx,kvs,as,pp,ds,ls,rfl,X,Y,hl,ok,c1,c2,c3,kk⟩:=h
    have hu:=kE hr
    refine ⟨_,(jY (jC (zK zX (zK rZ (zJ K (pv 0)) (jP G_qo hr rfl T.g_qo T.F_qo.kp T.b_qo .nil jU (jJ (pv 1) jQ))) (jL (aK rfl) rfl T.n_sum l6 (jJ (plc [("seated",2)] nd (v3 (pv 1)) (by intro _ _ _ _ _;exact (pgn 2 nd)) (by intro _ _ _ _ _;exact v4) (by intro _ _ _ _ _;exact (jP G_qm hr rfl T.g_qm T.F_qm.kp T.b_qm .nil jU (jJ (pv 0) (jJ (pv 2) jQ))))) jQ))))),?_⟩
    rw [show j7 ["train","plan","seated"] [.ref p,.ref pp]=[some (.ref p),some (.ref pp),none] from rfl]
    simp only [zU,tOp,uQ,j4,List.getElem?_cons_zero,Option.some.injEq,vG,jN,List.getElem?_cons_succ,kN,List.append_nil,rI,jxY,tCB,uN,List.map_cons,List.map_nil,rI0,V.int.injEq,exists_and_left,exists_eq_left',vX,yZ,V.ref.injEq,X.tr,HO.ins.injEq,and_assoc,z0,T.cl_Train,T.no_Train_move,true_and]
    refine ⟨pp,ds,ls,rfl,Y,hl,fun l h=>⟨(ok l h).nd,(ok l h).few⟩,fun H1 s1=>⟨_,rfl,.inl ⟨by omega,by omega⟩,⟨_,SqL.of (s1 _ _ Y.lst)⟩,?_⟩⟩
    have X1:=X.same s1
    have Y1:=Y.same s1
    refine lcb (J:=Itl K pp) (n:=ls.length) (fm ls (fun _=>true) fun l=>vN (legCost t l)) kC (fun i H' hi s=>⟨_,V.ref (ds[i]'(by rw [Y.len];exact hi)),SqL.of (s _ _ Y1.lst),by simp [Y.len,hi]⟩) (fun H' s=>⟨_,SqL.of (s _ _ Y1.lst),by simp [Y.len]⟩) (fun D i H' x H2 hD hi pv hy=>?_) (fun D H' hD s e=>?_)
    · obtain ⟨rfl,hx⟩:=hy
      have hx:=hx _ (SqL.of (pv.1 _ _ Y1.lst))
      obtain ⟨d1,e1⟩:∃ d,ds[i]? = some d:=⟨_,List.getElem?_eq_getElem (by rw [Y.len];omega)⟩
      obtain ⟨l1,f1⟩:∃ l,ls[i]? = some l:=⟨_,List.getElem?_eq_getElem hi⟩
      rw [List.getElem?_map,e1] at hx
      have hx:V.ref d1=x:=by simpa using hx
      subst hx
      have X':=X1.same pv.1
      have Y':=Y1.same pv.1
      simp only [jI,v5,List.set_cons_succ,List.set_cons_zero,sE,vG,jN,j4,List.getElem?_cons_zero,Option.some.injEq,List.getElem?_cons_succ,kN,List.append_nil,exists_eq_left',if_true,true_and]
      exact ⟨p,d,l,t,dx,kvs,as,d1,l1,rfl,X',Y'.at' i d1 l1 e1 f1,ok l1 (List.mem_of_getElem? f1),c2,c3,fun H3 s3=>lcY pv hD s3 (vL f1 rfl) (wV (m:=20) hl (by decide))⟩
    · rw [vT rfl,v6] at e
      refine ⟨D,(ls.map (legCost t)).map fun n:Nat=>(n:Int),rfl,SqL.of (by rw [e,List.map_map,List.map_map];rfl),_,rfl,?_⟩
      rw [xZ]
      have e2:(t.costs.move:Int) * (movesOf ls:Nat)+((ls.map (legCost t)).sum:Nat)=(planCost t ls:Nat):=by unfold planCost;push_cast;rfl
      rw [e2]
      exact kk H' (s1.trans s)
end
def enc (rs:List (List Nat)):List Nat:=rs.flatMap fun r=>r.length :: r
theorem uG (a b:List (List Nat)):enc (a++b)=enc a++enc b:=by unfold enc;rw [List.flatMap_append]
theorem aC (r:List Nat):enc [r]=r.length :: r:=by unfold enc;simp
structure vM (H:Hp) (rr:Addr) (qs:List Addr) (rs:List (List Nat)):Prop where
  lst:H rr=some (.lst (qs.map V.ref))
  len:qs.length=rs.length
  at':∀ (i:Nat) (q:Addr) (r:List Nat),qs[i]? = some q→rs[i]? = some r→H q=some (.lst (vNs r))
theorem vM.same {H H':Hp} {pp:Addr} {ds:List Addr} {ls:List (List Nat)} (X:vM H pp ds ls) (s:jG H H'):vM H' pp ds ls:=⟨s _ _ X.lst,X.len,fun i d l h1 h2=>s _ _ (X.at' i d l h1 h2)⟩
theorem jgJ:∀ (l acc:List Int),(l.foldl step_dedup acc).length≤acc.length+l.length
  | [],acc=>Nat.le_refl _
  | x :: l,acc=>by
    rw [List.foldl_cons,List.length_cons]
    have h1:=jgJ l (step_dedup acc x)
    have h2:=step_length acc x
    split at h2 <;> omega
theorem jkY:∀ (l acc:List Int),(l.foldl step_dedup acc).length=acc.length+l.length↔(∀ x∈l,x∉acc)∧l.Nodup
  | [],acc=>by simp
  | x :: l,acc=>by
    rw [List.foldl_cons,List.length_cons]
    have ih:=jkY l (step_dedup acc x)
    have hle:=jgJ l (step_dedup acc x)
    by_cases h:x∈acc
    · have e:step_dedup acc x=acc:=by unfold step_dedup;rw [if_pos (by simpa using h)]
      rw [e] at hle ⊢
      constructor
      · intro z;omega
      · intro z;exact absurd h (z.1 x (by simp))
    · have e:step_dedup acc x=acc++[x]:=by unfold step_dedup;rw [if_neg (by simpa using h)]
      rw [e] at ih ⊢
      rw [List.length_append,List.length_singleton] at ih
      rw [show acc.length+(l.length+1)=acc.length+1+l.length by omega,ih,List.nodup_cons]
      simp only [List.mem_append,List.mem_singleton,List.mem_cons,not_or]
      constructor
      · rintro ⟨a1,a2⟩
        exact ⟨fun y hy=>by rcases hy with rfl | hy;exact h;exact (a1 y hy).1,fun hx=>(by have z:=(a1 x hx).2;simp at z),a2⟩
      · rintro ⟨a1,a2,a3⟩
        exact ⟨fun y hy=>⟨a1 y (.inr hy),by simp;intro e;exact a2 (e ▸ hy)⟩,a3⟩
theorem dW:∀ l:List Nat,Sw77.unlike l=true↔l.Nodup
  | []=>by simp [Sw77.unlike]
  | x :: l=>by
    unfold Sw77.unlike
    rw [Bool.and_eq_true,dW l,List.nodup_cons]
    simp
theorem aX (r:List Nat):decide (((r.map fun n:Nat=>(n:Int)).foldl step_dedup []).length=r.length)=Sw77.unlike r:=by
  have h:=jkY (r.map fun n:Nat=>(n:Int)) []
  rw [List.length_nil,Nat.zero_add,List.length_map] at h
  rw [Bool.eq_iff_iff,decide_eq_true_eq,h,dW]
  constructor
  · rintro ⟨_,z⟩
    exact (List.pairwise_map.mp z).imp fun h e=>h (by rw [e])
  · intro z
    exact ⟨fun x _=>by simp,List.Pairwise.map _ (fun a b hab=>by omega) z⟩
theorem iP {qs:List Addr} {r:List Nat} (h:qs≠[]):HO.lst (qs.map V.ref)≠HO.lst (vNs r):=by
  cases qs with
  | nil=>exact absurd rfl h
  | cons q qs =>
    cases r with
    | nil=>intro z;cases z
    | cons x r=>intro z;cases z
theorem aV (A B C:List V):lM (A++(B++C)) (some ((A.length:Nat):Int)) (some ((A.length+B.length:Nat):Int))=B:=by
  unfold lM
  rw [HT.gC,HT.gC,List.length_append,List.length_append,Nat.min_eq_left (by omega),Nat.min_eq_left (by omega),List.drop_left]
  rw [show A.length+B.length - A.length=B.length by omega,List.take_left]
theorem pE:∀ rs:List (List Nat),rs.length≤(enc rs).length
  | []=>Nat.le_refl _
  | r :: rs=>by
    have:=pE rs
    unfold enc at this ⊢
    rw [List.flatMap_cons,List.length_append,List.length_cons,List.length_cons];omega
section
variable {P:Program} {w:World} {K:W.Frag} {mg:Str→Option Value} {base:Heap} {a:Adr}
def jk6:Sp:=fun vs H Q _=>∃ (tq:Addr) (n:Nat) (rs:List (List Nat)),vs=[.ref tq]∧H tq=some (.lst (vNs (n :: enc rs)))∧(enc rs).length≤1000 ∧
  ∀ (H':Hp) (rr:Addr) (qs:List Addr),jG H H'→vM H' rr qs rs→H rr=none→Q (.ref rr) H'
theorem jb6:jD ["told","rows","at","behind"] ["told"] (jW jy7):=⟨rfl,rfl,rfl,by decide +kernel,rfl,by decide +kernel,by decide +kernel⟩
theorem jm8 (T:Txt K mg a):vA P w K mg base CX0 3 a.f_qq a.d_qq ["told"] (jk6):=by
  have nd:=jb6.nd
  refine T.F_qq.ok jb6 (fun vs H Q E h=>?_) (fun cdv A outer s H vs Q E hr h=>?_)
  · obtain ⟨tq,n,rs,rfl,ht,hl,kk⟩:=h
    rfl
  · obtain ⟨tq,n,rs,rfl,ht,hl,kk⟩:=h
    have hu:=kE hr
    refine ⟨_,(jZ (kJ 1 nd (kR jQ))
(jZ (kJ 2 nd jA)
(jZ (bK PassesOwn.never (jR rV (pv 2) (jL (j8 K) rfl T.n_len vF (jJ (pv 0) jQ)) (j0 _))
(jZ (kJ 3 nd (zK zX (zK zX (pv 2) jA) (vY (jT K) (pv 0) (pv 2) (fun _ _=>rfl))))
(jZ (vP (qC PySem.F.plainAttrs_list PySem.F.slot_list_append PySem.F.type_list_append vD (pv 1) (jJ (qR gM (pv 0) (uZ (zK zX (pv 2) jA)) (uZ (pv 3))) jQ)))
(jY (kJ 2 nd (pv 3))))))
(jY (jC (pv 1)))))),?_⟩
    rw [show j7 ["told","rows","at","behind"] [.ref tq]=[some (.ref tq),none,none,none] from rfl]
    simp only [zH,wI,dJ,kN,jI,tC,exists_and_left,uN,List.set_cons_succ,List.set_cons_zero]
    refine ⟨Nat.zero_le _,fun L hL=>?_⟩
    refine jkJ (fun σ H'=>∃ (j:Nat) (qs:List Addr) (u:Option V),j≤rs.length∧σ=[some (.ref tq),some (.ref L),some (vN (1+(enc (rs.take j)).length)),u]∧jG H H'∧vM H' L qs (rs.take j)) (fun σ H'=>match σ with | [_,_,some (.int i),_]=>2000 - i.toNat | _=>0) ⟨0,[],none,Nat.zero_le _,rfl,jG.new hL,⟨jK,rfl,fun i q r h=>by simp at h⟩⟩ (fun σ H' h=>?_) (fun σ H' Q Q' hq h=>?_)
    · obtain ⟨j,qs,u,hj,rfl,s1,R⟩:=h
      simp only [vH,tOp,j4,vN,List.getElem?_cons_succ,List.getElem?_cons_zero,Option.some.injEq,tCB,jN,kN,List.cons.injEq,and_true,rI0,V.int.injEq,V.bl.injEq,zH,wI,tC,fZ,jI,qT,tBM,List.set_cons_succ,List.set_cons_zero,tSl,rO,jvY,zS,true_and,and_assoc,exists_and_left,exists_eq_left',V.ref.injEq,zU,decide_eq_true_eq]
      refine ⟨_,.inl (SqL.of (s1 _ _ ht)),?_⟩
      have elen:(vNs (n :: enc rs)).length=1+(enc rs).length:=by unfold vNs;rw [List.length_map,List.length_cons];omega
      rw [elen]
      have split:enc rs=enc (rs.take j)++enc (rs.drop j):=by rw [← uG,List.take_append_drop]
      refine wY (fun h=>?_) (fun h=>?_)
      · have hj':j < rs.length:=by
          rcases Nat.lt_or_ge j rs.length with z | z
          · exact z
          · rw [List.take_of_length_le z] at h;omega
        obtain ⟨r,hr'⟩:∃ r,rs[j]? = some r:=⟨_,List.getElem?_eq_getElem hj'⟩
        have ed:rs.drop j=r :: rs.drop (j+1):=by rw [List.drop_eq_getElem_cons hj'];rw [List.getElem?_eq_getElem hj'] at hr';rw [Option.some.inj hr']
        have et:enc (rs.take (j+1))=enc (rs.take j)++(r.length :: r):=by rw [List.take_add_one,hr',uG];rw [← aC r];rfl
        have e2:enc rs=enc (rs.take j)++((r.length :: r)++enc (rs.drop (j+1))):=by
          rw [split,ed];congr 1
        have hall:(n :: enc rs)=(n :: enc (rs.take j))++((r.length :: r)++enc (rs.drop (j+1))):=by rw [e2];rfl
        have hat:(vNs (n :: enc rs))[1+(enc (rs.take j)).length]? = some (vN r.length):=by
          rw [hall,vNs,List.getElem?_map,List.getElem?_append_right (by rw [List.length_cons];omega)]
          rw [List.length_cons,show 1+(enc (rs.take j)).length - ((enc (rs.take j)).length+1)=0 by omega]
          rfl
        have hln:(enc (rs.take j)).length+(r.length+1)≤(enc rs).length:=by rw [e2,List.length_append,List.length_append,List.length_cons];omega
        refine ⟨_,SqL.of (s1 _ _ ht),_,vK hat,_,rfl,.inl ⟨rfl,_,SqL.of R.lst⟩,_,SqL.of (s1 _ _ ht),fun b hb=>?_⟩
        have hcut:lM (vNs (n :: enc rs)) (some (((1+(enc (rs.take j)).length:Nat):Int)+1)) (some (((1+(enc (rs.take j)).length:Nat):Int)+1+(r.length:Int)))=vNs r:=by
          have h1:vNs (n :: enc rs)=vNs (n :: enc (rs.take j)++[r.length])++(vNs r++vNs (enc (rs.drop (j+1)))):=by
            rw [hall];unfold vNs;rw [← List.map_append,← List.map_append];simp
          have h2:((1+(enc (rs.take j)).length:Nat):Int)+1=((vNs (n :: enc (rs.take j)++[r.length])).length:Nat):=by unfold vNs;rw [List.length_map,List.length_append,List.length_cons,List.length_singleton];omega
          have h3:((1+(enc (rs.take j)).length:Nat):Int)+1+(r.length:Int)=((vNs (n :: enc (rs.take j)++[r.length])).length+(vNs r).length:Nat):=by unfold vNs;rw [List.length_map,List.length_map,List.length_append,List.length_cons,List.length_singleton];omega
          rw [h3,h2,h1]
          exact aV _ _ _
        rw [hcut]
        have sb:jG H' (upd H' b (.lst (vNs r))):=jG.new hb
        have hbL:b≠L:=(jX R.lst hb).symm
        refine ⟨_,sb _ _ R.lst,?_,⟨j+1,hj',?_,?_,qs++[b],?_⟩,?_⟩
        · rw [List.length_map,R.len,List.length_take,sizeLine_eq]
          have:=pE rs
          omega
        · rw [et,List.length_append,List.length_cons];push_cast;omega
        · intro c o e
          rw [jV (jX e hL)]
          exact sb _ _ (s1 _ _ e)
        · refine ⟨by rw [jK,List.map_append];rfl,by rw [List.length_append,R.len,List.length_take,List.length_take,List.length_singleton];omega,fun i q r' h1 h2=>?_⟩
          rw [List.take_add_one,hr'] at h2
          have lq:qs.length=j:=by rw [R.len,List.length_take];omega
          rcases Nat.lt_or_ge i j with hi | hi
          · rw [List.getElem?_append_left (by omega)] at h1
            rw [List.getElem?_append_left (by rw [List.length_take];omega)] at h2
            have e:=R.at' i q r' h1 h2
            have e:=sb _ _ e
            rw [jV (j1 e (sb _ _ R.lst) fun z=>iP (qs:=qs) (r:=r') (fun w=>by rw [w] at h1;simp at h1) z.symm)]
            exact e
          · rw [List.getElem?_append_right (by omega)] at h1
            rw [List.getElem?_append_right (by rw [List.length_take];omega),List.length_take] at h2
            have ei:i=j:=by
              rcases Nat.lt_or_ge j i with z | z
              · rw [List.getElem?_eq_none (by simp;omega)] at h1;cases h1
              · omega
            subst ei
            have h1:b=q:=by rw [lq,Nat.sub_self] at h1;simpa using h1
            have h2:r=r':=by rw [Nat.min_eq_left (by omega),Nat.sub_self] at h2;simpa using h2
            subst h1 h2
            rw [jV hbL,jK]
        · rw [show (((1+(enc (rs.take j)).length:Nat):Int)+1+(r.length:Int)).toNat=1+(enc (rs.take j)).length+1+r.length by omega,Int.toNat_natCast]
          omega
      · have hj':j=rs.length:=by
          rcases Nat.lt_or_ge j rs.length with z | z
          · have ed:rs.drop j=rs[j] :: rs.drop (j+1):=List.drop_eq_getElem_cons z
            have:0 < (enc (rs.drop j)).length:=by rw [ed];unfold enc;rw [List.flatMap_cons];simp
            rw [split,List.length_append] at h
            omega
          · omega
        subst hj'
        rw [List.take_of_length_le (Nat.le_refl _)] at R
        exact kk H' L qs s1 R hL
    · obtain ⟨v,h1,u,h2,b,h3,x,h4,i,j,e1,e2,c,e3,h5⟩:=h
      exact ⟨v,h1,u,h2,b,h3,x,h4,i,j,e1,e2,c,e3,hq _ _ h5⟩
def juZ (a:Adr):Sp:=fun vs H Q _=>∃ (p d l:Addr) (t:Sw77.Train) (dx:Addr) (kvs:TK) (as:List Addr) (k:Nat) (rq:Addr) (r:List Nat),vs=[.ref p,.int k,.ref rq]∧jH a H p d l t dx kvs as∧t.riders.length≤20∧H rq=some (.lst (vNs r))∧r.length≤1000 ∧
  ∀ H':Hp,jG H H'→Q (.bl (decide (r.length=(t.on k).length) && (Sw77.unlike r && r.all fun s=>decide (s < t.seats)))) H'
theorem jb7:jD ["train","leg","row","seat"] ["train","leg","row"] (jW jy8):=⟨rfl,rfl,rfl,by decide +kernel,rfl,by decide +kernel,by decide +kernel⟩
theorem jm9 (T:Txt K mg a):vA P w K mg base CX0 3 a.f_qr a.d_qr ["train","leg","row"] (juZ a):=by
  have nd:=jb7.nd
  have G_qg:=(tO (P:=P) (w:=w) (base:=base) T).mono (k:=2) (by decide)
  refine T.F_qr.ok jb7 (fun vs H Q E h=>?_) (fun cdv A outer s H vs Q E hr h=>?_)
  · obtain ⟨p,d,l,t,dx,kvs,as,k,rq,r,rfl,X,hlen,hr0,hrl,kk⟩:=h
    rfl
  · obtain ⟨p,d,l,t,dx,kvs,as,k,rq,r,rfl,X,hlen,hr0,hrl,kk⟩:=h
    have hu:=kE hr
    refine ⟨_,(jZ (zV (PW.pt (bZ (jR mX (jL (j8 K) rfl T.n_len vF (jJ (pv 2) jQ)) (jL (j8 K) rfl T.n_len vF (jJ (zR (pv 0) T.cl_Train T.m_qg G_qg hr T.b_qg .nil jU (jJ (pv 1) jQ)) jQ)) (j0 _)) (fE (jR mX (jL l8 rfl T.n_len vF (jJ (gY (pP rfl) rfl T.n_set jzQ (jJ (pv 2) jQ)) jQ)) (jL (j8 K) rfl T.n_len vF (jJ (pv 2) jQ)) (j0 _)))))
(jY (jC jjJ))
j6)
(jY (jC (jL (jkQ rfl) rfl T.n_all l5 (jJ (plc [("seat",3)] nd (v3 (pv 2)) (by intro _ _ _ _ _;exact (pgn 3 nd)) (by intro _ _ _ _ _;exact v4) (by intro _ _ _ _ _;exact (bJ rV (pv 3) (zJ K (pv 0)) (j0 _)))) jQ))))),?_⟩
    rw [show j7 ["train","leg","row","seat"] [.ref p,.int k,.ref rq]=[some (.ref p),some (.int k),some (.ref rq),none] from rfl]
    simp only [zH,gE,tOr,vH,tOp,tCB,jN,j4,List.getElem?_cons_succ,List.getElem?_cons_zero,Option.some.injEq,kN,List.cons.injEq,and_true,wM,List.append_nil,rNe,f8,V.int.injEq,V.bl.injEq,zU,tC,zT,uN,List.map_cons,List.map_nil,vX,yZ,exists_eq_left',V.ref.injEq,if_true,true_and,exists_and_left,jK,X.tr,HO.ins.injEq,and_assoc,gW]
    refine ⟨_,.inl (SqL.of hr0),?_⟩
    refine ⟨p,d,l,t,dx,kvs,as,k,rfl,X,hlen,fun H1 q s1 hq eq=>⟨q,rfl,_,.inl (SqL.of eq),?_⟩⟩
    have X1:=X.same s1
    have hr1:=s1 _ _ hr0
    have el:decide (((vNs r).length:Int)=((vNs (t.on k)).length:Int))=decide (r.length=(t.on k).length):=by unfold vNs;rw [List.length_map,List.length_map];simp;omega
    rw [el]
    refine wY (fun h=>?_) (fun h=>?_)
    · have e:r.length≠(t.on k).length:=by simpa using h
      have:=kk H1 s1
      simpa [e] using this
    · have e:r.length=(t.on k).length:=by simpa using h
      refine ⟨r.map fun n:Nat=>(n:Int),SqL.of (by rw [hr1,List.map_map];rfl),by rw [List.length_map];omega,fun b S hb=>?_⟩
      generalize hn:((r.map fun n:Nat=>(n:Int)).foldl step_dedup []).length=nn
      have sb:jG H1 (upd H1 b (.set S nn)):=jG.new hb
      refine ⟨S,nn,rfl,_,.inl (SqL.of (sb _ _ hr1)),?_⟩
      have el2:decide ((nn:Int)=((vNs r).length:Int))=Sw77.unlike r:=by
        rw [← aX r,hn];unfold vNs;rw [List.length_map];simp;omega
      rw [el2]
      refine wY (fun h2=>?_) (fun h2=>⟨⟨_,SqL.of (sb _ _ hr1)⟩,?_⟩)
      · have h2:Sw77.unlike r=false:=by simpa using h2
        have:=kk _ (s1.trans sb)
        simpa [h2] using this
      · have h2:Sw77.unlike r=true:=by simpa using h2
        have hr2:=sb _ _ hr1
        have X2:=X1.same sb
        refine lcb (J:=Itl K rq) (n:=r.length) (fm r (fun _=>true) fun m=>V.bl (decide (m < t.seats))) kC (fun i H' hi s=>⟨_,vN r[i],SqL.of (s _ _ hr2),by simp [vNs,hi]⟩) (fun H' s=>⟨_,SqL.of (s _ _ hr2),by simp [vNs]⟩) (fun D i H' x H2 hD hi pv hy=>?_) (fun D H' hD s e=>?_)
        · obtain ⟨rfl,hx⟩:=hy
          have hx:=hx _ (SqL.of (pv.1 _ _ hr2))
          obtain ⟨m,hm⟩:∃ m,r[i]? = some m:=⟨_,List.getElem?_eq_getElem hi⟩
          rw [vNs,List.getElem?_map,hm] at hx
          have hx:vN m=x:=by simpa using hx
          subst hx
          have X':=X2.same pv.1
          simp only [jI,v5,List.set_cons_succ,List.set_cons_zero,vN,sE,tOp,j4,List.getElem?_cons_succ,List.getElem?_cons_zero,Option.some.injEq,uQ,rI0,exists_and_left,exists_eq_left',V.ref.injEq,X'.tr,HO.ins.injEq,and_assoc,vE,V.int.injEq,T.cl_Train,T.no_Train_seats,true_and,if_true]
          refine lcY pv hD (jG.refl _) ?_ (wV (m:=1000) hrl (by decide))
          rw [vL hm rfl]
          simp
        · rw [vT rfl,v6] at e
          refine ⟨D,r.map fun m=>decide (m < t.seats),rfl,SqL.of (by rw [e,List.map_map];rfl),?_⟩
          have:=kk H' (s1.trans (sb.trans s))
          rw [h2,‹r.length=(t.on k).length›] at this
          rw [List.all_map]
          simpa using this
def LrP (H1:Hp) (D:Addr) (os:List HO) (i:Nat) (H:Hp):Prop:=jG H1 H∧∃ ds:List Addr,H D=some (.lst (ds.map V.ref))∧ds.length=i∧ds.Nodup∧D∉ds∧(∀ d∈ds,H1 d=none)∧∀ (k:Nat) (d:Addr) (o:HO),ds[k]? = some d→os[k]? = some o→H d=some o
theorem lcg {J:It} {n:Nat} {g:TG} {tt:TT} {te:TE} {vs:List Nat} {σ:L2.St} {H1:Hp} {Q:VK} (Pv:Addr→Nat→Hp→Prop) (h0:∀ D,H1 D=none→Pv D 0 (upd H1 D (.lst [])))
    (go:∀ D i H,i < n→Pv D i H→J.go i H) (stop:∀ D H,Pv D n H→J.stop n H)
    (hs:∀ D i H x H',H1 D=none→i < n→Pv D i H→J.yld i H x H'→g x (v5 σ vs) H' fun σ2 H2=>v5 σ2 vs=v5 σ vs∧tt σ2 H2 fun b H3 =>
      if b=true then te σ2 H3 fun y H4=>∃ acc,H4 D=some (.lst acc)∧acc.length < sizeLine∧Pv D (i+1) (upd H4 D (.lst (acc++[y]))) else Pv D (i+1) H3)
    (hd:∀ D H,H1 D=none→Pv D n H→Q (.ref D) H):m9 g tt te vs σ Q J H1:=by
  intro D hD
  refine ⟨fun i m H=>m=n - i∧i≤n∧Pv D i H,⟨n,by simp,Nat.zero_le _,h0 D hD⟩,?_⟩
  rintro i m H ⟨rfl,hi,p⟩
  by_cases hlt:i < n
  · exact .inr ⟨go D i H hlt p,Pv D (i+1),fun H' p'=>⟨n - (i+1),by omega,rfl,hlt,p'⟩,fun x H' y=>hs D i H x H' hD hlt p y⟩
  · have e:i=n:=by omega
    subst e
    exact .inl ⟨stop D H p,hd D H hD p⟩
theorem lcr {J:It} {n:Nat} {g:TG} {tt:TT} {te:TE} {vs:List Nat} {σ:L2.St} {H1:Hp} {Q:VK} (os:List HO)
    (go:∀ i H,i < n→jG H1 H→J.go i H) (stop:∀ H,jG H1 H→J.stop n H)
    (hs:∀ D i H x H',H1 D=none→i < n→LrP H1 D os i H→J.yld i H x H'→g x (v5 σ vs) H' fun σ2 H2=>v5 σ2 vs=v5 σ vs∧tt σ2 H2 fun b H3 =>
      if b=true then te σ2 H3 fun y H4=>∃ acc,H4 D=some (.lst acc)∧acc.length < sizeLine∧LrP H1 D os (i+1) (upd H4 D (.lst (acc++[y]))) else LrP H1 D os (i+1) H3)
    (hd:∀ D H,H1 D=none→LrP H1 D os n H→Q (.ref D) H):m9 g tt te vs σ Q J H1 :=
  lcg (fun D i H=>LrP H1 D os i H) (fun D hD=>⟨jG.new hD,[],jK,rfl,List.nodup_nil,by simp,by simp,fun k d o h=>by simp at h⟩) (fun D i H hi p=>go i H hi p.1) (fun D H p=>stop H p.1) hs hd
theorem jp2 {H1 H H4:Hp} {D b:Addr} {os:List HO} {i:Nat} {o:HO} (p:LrP H1 D os i H) (h1:H1 D=none) (s:jG H H4) (hb:H b=none) (eb:H4 b=some o) (ho:os[i]? = some o) (hl:i < 16777216) :
    ∃ acc,H4 D=some (.lst acc)∧acc.length < sizeLine∧LrP H1 D os (i+1) (upd H4 D (.lst (acc++[.ref b]))):=by
  obtain ⟨s1,ds,e1,e2,e3,e4,e5,e6⟩:=p
  have nbD:b≠D:=(jX e1 hb).symm
  have hb1:H1 b=none:=s1.free hb
  have nin:b∉ds:=fun z=>by
    obtain ⟨k,hk,ek⟩:=List.getElem_of_mem z
    rcases Nat.lt_or_ge k os.length with hk' | hk'
    · have:=e6 k b os[k] (by rw [List.getElem?_eq_getElem hk,ek]) (List.getElem?_eq_getElem hk')
      rw [hb] at this;cases this
    · have:i < os.length:=(List.getElem?_eq_some_iff.mp ho).1
      omega
  refine ⟨ds.map V.ref,s _ _ e1,by rw [List.length_map,e2,sizeLine_eq];exact hl,fun c u z=>?_,ds++[b],?_,?_,?_,?_,?_,fun k d u h2 h3=>?_⟩
  · rw [jV (jX z h1)];exact s _ _ (s1 _ _ z)
  · rw [jK,List.map_append];rfl
  · rw [List.length_append,e2];rfl
  · rw [List.nodup_append]
    refine ⟨e3,by simp,fun x hx y hy=>?_⟩
    have hy:y=b:=by simpa using hy
    subst hy
    exact fun e=>nin (e ▸ hx)
  · simp;exact ⟨e4,nbD.symm⟩
  · intro d hd
    rcases List.mem_append.mp hd with hd | hd
    · exact e5 d hd
    · rw [show d=b by simpa using hd];exact hb1
  · rcases Nat.lt_or_ge k ds.length with hk | hk
    · rw [List.getElem?_append_left hk] at h2
      have:=e6 k d u h2 h3
      rw [jV (show d≠D from fun z=>e4 (z ▸ List.mem_of_getElem? h2))]
      exact s _ _ this
    · rw [List.getElem?_append_right hk] at h2
      have ek:k=ds.length:=by
        rcases Nat.lt_or_ge ds.length k with z | z
        · rw [List.getElem?_eq_none (by simp;omega)] at h2;cases h2
        · omega
      subst ek
      have h2:b=d:=by simpa using h2
      subst h2
      rw [e2,ho] at h3
      cases h3
      rw [jV nbD];exact eb
theorem m8:∀ (a b:List Nat),(a.zip b).map (·.1)=a.take b.length
  | [],_=>by simp
  | _ :: _,[]=>by simp
  | x :: a,y :: b=>by rw [List.zip_cons_cons,List.map_cons,m8 a b];rfl
theorem uX {a b:List Nat} (h:a.Nodup):((a.zip b).map (·.1)).Nodup:=by rw [m8];exact h.sublist (List.take_sublist _ _)
theorem fR:∀ (m acc:List (Key×V)),(acc.map (·.1)++m.map (·.1)).Nodup→uS acc m=acc++m
  | [],acc,_=>by show acc=acc++[];simp
  | (k,v) :: m,acc,nd=>by
    show uS (wL acc k v) m=_
    have hk:k∉acc.map (·.1):=fun z=>by
      rw [List.nodup_append] at nd
      exact nd.2.2 k z k (by simp) rfl
    have e:wL acc k v=acc++[(k,v)]:=by
      unfold wL
      rw [if_neg]
      simp only [List.any_eq_true,decide_eq_true_eq,not_exists,not_and]
      intro x hx e
      exact hk (e ▸ List.mem_map_of_mem hx)
    rw [e,fR m (acc++[(k,v)]) (by simpa using nd)]
    simp
theorem uC {on r:List Nat} (nd:on.Nodup):uS [] ((on.map fun i:Nat=>(Sum.inl (i:Int):Key)).zip (vNs r))=kQ (on.zip r):=by
  have e:(on.map fun i:Nat=>(Sum.inl (i:Int):Key)).zip (vNs r)=kQ (on.zip r):=by
    unfold kQ vNs
    rw [List.zip_map]
    rfl
  rw [e,fR _ _ ?_]
  · rfl
  · unfold kQ
    rw [List.map_nil,List.nil_append,List.map_map]
    have h1:((on.zip r).map (·.1)).Nodup:=uX nd
    have h2:(on.zip r).map ((fun x:Key×V=>x.1) ∘ fun x:Nat×Nat=>((Sum.inl (x.1:Int):Key),vN x.2))=((on.zip r).map (·.1)).map fun i:Nat=>(Sum.inl (i:Int):Key):=by rw [List.map_map];rfl
    rw [h2]
    exact List.Pairwise.map _ (fun a b hab=>by intro z;exact hab (by have:=Sum.inl.inj z;omega)) h1
theorem wE (t:Sw77.Train) (k:Nat):(t.on k).Nodup:=List.Nodup.sublist List.filter_sublist List.nodup_range
theorem jf3 {t:Sw77.Train} {k i:Nat} (h:i∈t.on k):i < t.riders.length:=by
  unfold Sw77.Train.on at h
  rw [List.mem_filter] at h
  simpa using h.1
theorem sK (t:Sw77.Train) (k:Nat):(t.on k).length≤t.riders.length:=by
  unfold Sw77.Train.on
  exact Nat.le_trans (List.length_filter_le _ _) (by simp)
theorem jfX {t:Sw77.Train} (k:Nat) (r:List Nat) (h:t.riders.length≤20):jq8 t ((t.on k).zip r) :=
  ⟨uX (wE t k),fun x hx=>jf3 (List.of_mem_zip hx).1,by have:=sK t k;rw [List.length_zip];omega⟩
def jk4 (a:Adr):Sp:=fun vs H Q _=>∃ (p d l:Addr) (t:Sw77.Train) (dx:Addr) (kvs:TK) (as:List Addr) (rr:Addr) (qs:List Addr) (rs:List (List Nat)),vs=[.ref p,.ref rr]∧jH a H p d l t dx kvs as∧t.riders.length≤20∧vM H rr qs rs∧rs.length≤1000∧(∀ r∈rs,r.length≤1000) ∧
  ∀ H':Hp,jG H H'→Q (.bl (t.planOk rs)) H'
theorem jb8:jD ["train","rows","leg","row"] ["train","rows"] (jW jy9):=⟨rfl,rfl,rfl,by decide +kernel,rfl,by decide +kernel,by decide +kernel⟩
theorem jmJ (T:Txt K mg a):vA P w K mg base CX0 5 a.f_qs a.d_qs ["train","rows"] (jk4 a):=by
  have nd:=jb8.nd
  have G_qr:=(jm9 (P:=P) (w:=w) (base:=base) T).mono (k:=4) (by decide)
  refine T.F_qs.ok jb8 (fun vs H Q E h=>?_) (fun cdv A outer s H vs Q E hr h=>?_)
  · obtain ⟨p,d,l,t,dx,kvs,as,rr,qs,rs,rfl,X,hlen,R,hl,hls,kk⟩:=h
    rfl
  · obtain ⟨p,d,l,t,dx,kvs,as,rr,qs,rs,rfl,X,hlen,R,hl,hls,kk⟩:=h
    have hu:=kE hr
    refine ⟨_,(jZ (zV (jR mX (jL (j8 K) rfl T.n_len vF (jJ (pv 1) jQ)) (zJ K (pv 0)) (j0 _))
(jY (jC jjJ))
j6)
(jY (jC (jL (jkQ rfl) rfl T.n_all l5 (jJ (plc [("leg",2),("row",3)] nd (mG rfl T.n_enumerate (jJ (pv 1) jQ)) (by intro _ _ _ _ _;exact (pgt K 2 (j9 (pgn 2 nd) (j9 (pgn 3 nd) z6)))) (by intro _ _ _ _ _;exact v4) (by intro _ _ _ _ _;exact (jP G_qr hr rfl T.g_qr T.F_qr.kp T.b_qr .nil jU (jJ (pv 0) (jJ (pv 2) (jJ (pv 3) jQ)))))) jQ))))),?_⟩
    rw [show j7 ["train","rows","leg","row"] [.ref p,.ref rr]=[some (.ref p),some (.ref rr),none,none] from rfl]
    simp only [zH,gE,vH,tOp,tCB,jN,j4,List.getElem?_cons_succ,List.getElem?_cons_zero,Option.some.injEq,kN,List.cons.injEq,and_true,uQ,rNe,f8,V.bl.injEq,zU,tC,zT,uN,List.map_cons,List.map_nil,vX,o8,exists_and_left,exists_eq_left',V.ref.injEq,X.tr,HO.ins.injEq,and_assoc,kZ,V.int.injEq,true_and,T.cl_Train,T.no_Train_legs]
    refine ⟨_,.inl (SqL.of R.lst),?_⟩
    rw [List.length_map,R.len]
    have el:decide ((rs.length:Int)=(t.legs:Int))=decide (rs.length=t.legs):=by simp;omega
    rw [el]
    refine wY (fun h=>?_) (fun h=>⟨_,SqL.of R.lst,?_⟩)
    · have e:rs.length≠t.legs:=by simpa using h
      have:=kk H (jG.refl _)
      unfold Sw77.Train.planOk at this
      simpa [e] using this
    · have e:rs.length=t.legs:=by simpa using h
      refine lcb (J:=Ite K rr) (n:=rs.length) (fm rs.zipIdx (fun _=>true) fun x=>V.bl (decide (x.1.length=(t.on x.2).length) && (Sw77.unlike x.1 && x.1.all fun s=>decide (s < t.seats)))) kC (fun i H' hi s=>⟨_,V.ref (qs[i]'(by rw [R.len];exact hi)),SqL.of (s _ _ R.lst),by simp [R.len,hi]⟩) (fun H' s=>⟨_,SqL.of (s _ _ R.lst),by simp [R.len]⟩) (fun D i H' x H2 hD hi pv hy=>?_) (fun D H' hD s e2=>?_)
      · obtain ⟨TT,x1,rfl,hT,rfl,hx⟩:=hy
        have hx:=hx _ (SqL.of (pv.1 _ _ R.lst))
        obtain ⟨q,hq⟩:∃ q,qs[i]? = some q:=⟨_,List.getElem?_eq_getElem (by rw [R.len];exact hi)⟩
        obtain ⟨r,hr'⟩:∃ r,rs[i]? = some r:=⟨_,List.getElem?_eq_getElem hi⟩
        rw [List.getElem?_map,hq] at hx
        have hx:V.ref q=x1:=by simpa using hx
        subst hx
        have sT:jG H' (upd H' TT (.tup [.int (i:Nat),.ref q])):=jG.new hT
        refine ⟨TT,_,rfl,SqT.of jK,rfl,?_⟩
        simp only [xA,List.cons.injEq,jI,aL,v5,List.set_cons_succ,List.set_cons_zero,sE,vG,jN,j4,List.getElem?_cons_zero,Option.some.injEq,List.getElem?_cons_succ,kN,List.append_nil,exists_eq_left',if_true,true_and,and_assoc,exists_and_left]
        exact ⟨p,d,l,t,dx,kvs,as,i,q,r,rfl,X.same (pv.1.trans sT),hlen,sT _ _ (pv.1 _ _ (R.at' i q r hq hr')),hls r (List.mem_of_getElem? hr'),fun H3 s3=>lcY pv hD (sT.trans s3) (vL (x:=(r,i)) (by simp [hr']) rfl) (wV (m:=1000) (by simpa using hl) (by decide))⟩
      · rw [vT (by simp),v6] at e2
        refine ⟨D,rs.zipIdx.map fun x=>(decide (x.1.length=(t.on x.2).length) && (Sw77.unlike x.1 && x.1.all fun s=>decide (s < t.seats))),rfl,SqL.of (by rw [e2,List.map_map];rfl),?_⟩
        have:=kk H' s
        unfold Sw77.Train.planOk at this
        rw [show decide (rs.length=t.legs)=true by simpa using e,Bool.true_and] at this
        rw [List.all_map]
        exact this
def jr0 (a:Adr):Sp:=fun vs H Q _=>∃ (p d l:Addr) (t:Sw77.Train) (dx:Addr) (kvs:TK) (as:List Addr) (tq:Addr) (n:Nat) (rs:List (List Nat)),vs=[.ref p,.ref tq]∧jH a H p d l t dx kvs as∧t.riders.length≤20∧t.legs≤8∧t.costs.move≤10000∧t.costs.wish≤10000∧t.costs.apart≤10000 ∧
  H tq=some (.lst (vNs (n :: enc rs)))∧(enc rs).length≤1000 ∧
  (t.planOk rs=false→∀ (H':Hp) (q1 q2:Addr),jG H H'→H' q1=some (.tup [.int (-3),.ref q2])→H' q2=some (.lst [])→Q (.ref q1) H') ∧
  (t.planOk rs=true→∀ (H':Hp) (q1 q2 q3:Addr),jG H H'→H' q1=some (.tup [vN (planCost t (rs.zipIdx.map fun x=>(t.on x.2).zip x.1)),.ref q2])→H' q2=some (.lst [.ref q3])→H' q3=some (.lst [vN (movesOf (rs.zipIdx.map fun x=>(t.on x.2).zip x.1))])→Q (.ref q1) H')
theorem jb9:jD ["train","told","rows","plan","leg","row"] ["train","told"] (jW jyJ):=⟨rfl,rfl,rfl,by decide +kernel,rfl,by decide +kernel,by decide +kernel⟩
theorem jmK (T:Txt K mg a):vA P w K mg base CX0 11 a.f_qt a.d_qt ["train","told"] (jr0 a):=by
  have nd:=jb9.nd
  have G_qq:=(jm8 (P:=P) (w:=w) (base:=base) T).mono (k:=10) (by decide)
  have G_qs:=(jmJ (P:=P) (w:=w) (base:=base) T).mono (k:=10) (by decide)
  have G_qg:=(tO (P:=P) (w:=w) (base:=base) T).mono (k:=10) (by decide)
  have G_qp:=(jm7 (P:=P) (w:=w) (base:=base) T).mono (k:=10) (by decide)
  have G_qo:=(jhW (P:=P) (w:=w) (base:=base) T).mono (k:=10) (by decide)
  refine T.F_qt.ok jb9 (fun vs H Q E h=>?_) (fun cdv A outer s H vs Q E hr h=>?_)
  · obtain ⟨p,d,l,t,dx,kvs,as,tq,n,rs,rfl,X,hlen,hlegs,c1,c2,c3,ht,hl,kn,kk⟩:=h
    rfl
  · obtain ⟨p,d,l,t,dx,kvs,as,tq,n,rs,rfl,X,hlen,hlegs,c1,c2,c3,ht,hl,kn,kk⟩:=h
    have hu:=kE hr
    refine ⟨_,(jZ (kJ 2 nd (jP G_qq hr rfl T.g_qq T.F_qq.kp T.b_qq .nil jU (jJ (pv 1) jQ)))
(jZ (zV (jvQ (jd5 K (jP G_qs hr rfl T.g_qs T.F_qs.kp T.b_qs .nil jU (jJ (pv 0) (jJ (pv 2) jQ)))))
(jY (jC (v0 (jJ (j2 rfl T.g_NO_PLAN) (jJ (kR jQ) jQ)))))
j6)
(jZ (jd4 3 [("leg",4),("row",5)] nd (mG rfl T.n_enumerate (jJ (pv 2) jQ)) (by intro _ _ _ _ _;exact (pgt K 2 (j9 (pgn 4 nd) (j9 (pgn 5 nd) z6)))) (by intro _ _ _ _ _;exact v4) (by intro _ _ _ _ _;exact (pdz K true true T.n_dict T.n_zip (jJ (zR (pv 0) T.cl_Train T.m_qg G_qg hr T.b_qg .nil jU (jJ (pv 4) jQ)) (jJ (pv 5) jQ)))))
(jY (jC (v0 (jJ (jP G_qp hr rfl T.g_qp T.F_qp.kp T.b_qp .nil jU (jJ (pv 0) (jJ (pv 3) jQ))) (jJ (kR (jJ (kR (jJ (jP G_qo hr rfl T.g_qo T.F_qo.kp T.b_qo .nil jU (jJ (pv 3) jQ)) jQ)) jQ)) jQ)))))))),?_⟩
    rw [show j7 ["train","told","rows","plan","leg","row"] [.ref p,.ref tq]=[some (.ref p),some (.ref tq),none,none,none,none] from rfl]
    simp only [zH,wI,vG,jN,j4,List.getElem?_cons_succ,List.getElem?_cons_zero,Option.some.injEq,kN,List.append_nil,jI,gE,jnQ,List.set_cons_succ,List.set_cons_zero,zU,sS,tC,dJ,kO,zT,uN,List.map_cons,List.map_nil,exists_eq_left',vX,o8,List.cons.injEq,and_true,exists_and_left]
    have hrl:rs.length≤1000:=Nat.le_trans (pE rs) hl
    have hrow:∀ r∈rs,r.length≤1000:=fun r hr'=>by
      obtain ⟨u,v,e⟩:=List.append_of_mem hr'
      rw [e,uG,List.length_append] at hl
      have:(enc (r :: v)).length=(r.length+1)+(enc v).length:=by unfold enc;rw [List.flatMap_cons,List.length_append,List.length_cons]
      omega
    refine ⟨tq,n,rs,rfl,ht,hl,fun H1 rr qs s1 R hrr=>?_⟩
    have X1:=X.same s1
    refine ⟨p,d,l,t,dx,kvs,as,rr,qs,rs,rfl,X1,hlen,R,hrl,hrow,fun H2 s2=>⟨_,rfl,?_⟩⟩
    refine wY (fun h=>⟨Nat.zero_le _,fun b hb=>⟨by show 2≤sizeLine;decide,fun c hc=>?_⟩⟩) (fun h=>?_)
    · have h:t.planOk rs=false:=by simpa using h
      have sb:jG H2 (upd H2 b (.lst [])):=jG.new hb
      have sc:jG (upd H2 b (.lst [])) (upd (upd H2 b (.lst [])) c (.tup [V.int (-3),V.ref b])):=jG.new (by rw [jV hc.1];exact hc.2)
      exact kn h _ c b (s1.trans (s2.trans (sb.trans sc))) jK (by rw [jV hc.1.symm,jK])
    · have h:t.planOk rs=true:=by simpa using h
      have X2:=X1.same s2
      have R2:=R.same s2
      have hlg:rs.length=t.legs:=by unfold Sw77.Train.planOk at h;simp at h;exact h.1
      generalize hls:(rs.zipIdx.map fun x=>(t.on x.2).zip x.1)=ls at kk
      have lsl:ls.length=rs.length:=by rw [← hls];simp
      refine ⟨rr,rfl,_,SqL.of R2.lst,?_⟩
      refine lcr (J:=Ite K rr) (n:=rs.length) (ls.map fun l=>HO.dK (kQ l)) (fun i H' hi s=>⟨_,V.ref (qs[i]'(by rw [R.len];exact hi)),SqL.of (s _ _ R2.lst),by simp [R.len,hi]⟩) (fun H' s=>⟨_,SqL.of (s _ _ R2.lst),by simp [R.len]⟩) (fun D i H' x H3 hD hi pv hy=>?_) (fun D H' hD pv=>?_)
      · obtain ⟨TT,x1,rfl,hT,rfl,hx⟩:=hy
        have hx:=hx _ (SqL.of (pv.1 _ _ R2.lst))
        obtain ⟨q,hq⟩:∃ q,qs[i]? = some q:=⟨_,List.getElem?_eq_getElem (by rw [R.len];exact hi)⟩
        obtain ⟨r,hr'⟩:∃ r,rs[i]? = some r:=⟨_,List.getElem?_eq_getElem hi⟩
        rw [List.getElem?_map,hq] at hx
        have hx:V.ref q=x1:=by simpa using hx
        subst hx
        have sT:jG H' (upd H' TT (.tup [.int (i:Nat),.ref q])):=jG.new hT
        have X3:=X2.same (pv.1.trans sT)
        refine ⟨TT,_,rfl,SqT.of jK,rfl,?_⟩
        simp only [xA,List.cons.injEq,jI,aL,v5,List.set_cons_succ,List.set_cons_zero,sE,uR,jN,wM,j4,List.getElem?_cons_zero,Option.some.injEq,List.getElem?_cons_succ,kN,List.append_nil,and_true,and_assoc,exists_and_left,exists_eq_left',V.ref.injEq,X3.tr,HO.ins.injEq,true_and,gW,if_true]
        refine ⟨p,d,l,t,dx,kvs,as,i,rfl,X3,hlen,fun H4 q4 s4 hq4 e4=>?_⟩
        show ∃ a,_
        have hrt:ls[i]? = some ((t.on i).zip r):=by rw [← hls,List.getElem?_map];simp [hr']
        refine ⟨q4,rfl,(t.on i).map fun j:Nat=>(Sum.inl (j:Int):Key),SqL.of (by rw [e4,List.map_map];rfl),vNs r,SqL.of (s4 _ _ (sT _ _ (pv.1 _ _ (R2.at' i q r hq hr')))),fun b hb=>?_⟩
        rw [uC (wE t i)]
        exact jp2 pv hD (sT.trans (s4.trans (jG.new hb))) ((sT.trans s4).free hb) jK (by rw [List.getElem?_map,hrt];rfl) (by omega)
      · obtain ⟨s3,ds,e1,e2,e3,e4,e5,e6⟩:=pv
        have Y:wJ H' D ds ls:=⟨e1,by rw [e2,lsl],e3,fun k d l h1 h2=>e6 k d _ h1 (by rw [List.getElem?_map,h2];rfl)⟩
        have oks:∀ l∈ls,jq8 t l:=fun l hl'=>by
          rw [← hls] at hl'
          obtain ⟨x,_,rfl⟩:=List.mem_map.mp hl'
          exact jfX _ _ hlen
        refine ⟨p,d,l,t,dx,kvs,as,D,ds,ls,rfl,X2.same s3,Y,by omega,oks,c1,c2,c3,fun H4 s4=>?_⟩
        refine ⟨D,ds,ls,rfl,Y.same s4,by omega,fun l h=>⟨(oks l h).nd,(oks l h).few⟩,fun H5 s5=>⟨by show 1≤sizeLine;decide,fun b hb=>⟨by show 1≤sizeLine;decide,fun c hc=>⟨by show 2≤sizeLine;decide,fun g hg=>?_⟩⟩⟩⟩
        refine kk h _ g c b (s1.trans (s2.trans (s3.trans (s4.trans (s5.trans ((jG.new hb).trans ((jG.new (by rw [jV hc.1];exact hc.2)).trans (jG.new (by rw [jV hg.1,jV hg.2.1];exact hg.2.2))))))))) jK ?_ ?_
        · rw [jV hg.1.symm,jK]
        · rw [jV hg.2.1.symm,jV hc.1.symm,jK];rfl
end
def minL:List Nat→Nat
  | []=>0
  | [x]=>x
  | x :: y :: l=>min x (minL (y :: l))
theorem eS:∀ {l:List Nat} {x:Nat},x∈l→minL l≤x
  | [y],x,h=>by
                    have:x=y:=by simpa using h
                    subst this;exact Nat.le_refl _
  | y :: z :: l,x,h=>by
    show min y (minL (z :: l))≤x
    rcases List.mem_cons.mp h with rfl | h
    · exact Nat.min_le_left _ _
    · exact Nat.le_trans (Nat.min_le_right _ _) (eS h)
theorem nI:∀ {l:List Nat},l≠[]→minL l∈l
  | [y],_=>by simp [minL]
  | y :: z :: l,_=>by
    show min y (minL (z :: l))∈_
    rcases Nat.le_total y (minL (z :: l)) with h | h
    · rw [Nat.min_eq_left h];simp
    · rw [Nat.min_eq_right h];exact List.mem_cons_of_mem _ (nI (by simp))
theorem eN {l:List Nat} {m:Nat} (h:m∈l) (h2:∀ y∈l,m≤y):m=minL l:=Nat.le_antisymm (h2 _ (nI (fun e=>by rw [e] at h;cases h))) (eS h)
def dO (ns ms:List Nat):Nat×Nat:=(minL ns,(((ms.zip ns).filter fun x=>decide (x.2=minL ns)).map (·.1)).sum)
def w4 (a:Adr) (H:Hp) (q:Addr) (c:Nat×Nat):Prop:=∃ dx,H q=some (.ins a.C_Least dx (xW (vN c.1) (vN c.2)))
theorem w4.same {a:Adr} {H H':Hp} {q:Addr} {c:Nat×Nat} (s:jG H H') (h:w4 a H q c):w4 a H' q c:=let ⟨dx,e⟩:=h;⟨dx,s _ _ e⟩
def mvCount (r s:List Nat):Nat:=((r.zip s).filter fun x=>decide (x.1≠x.2)).length
def kW (r ab some:List Nat):List Nat:=((ab.zip r).filter fun x=>decide (x.1∈some)).map (·.2)
theorem uF (l:List Nat):(vNs l).all hW=true:=by
  unfold vNs;rw [List.all_map,List.all_eq_true];intro x _;rfl
theorem dL (l:List Nat) (x:Nat):(if false=true then !inV (vN x) (vNs l) else inV (vN x) (vNs l))=decide (x∈l):=by
  unfold inV vNs
  rw [if_neg (by decide),Bool.eq_iff_iff,List.any_map,List.any_eq_true,decide_eq_true_eq]
  constructor
  · rintro ⟨y,hy,e⟩
    have e:((y:Int) == (x:Int))=true:=e
    have:y=x:=by have:=eq_of_beq e;omega
    exact this ▸ hy
  · intro h
    exact ⟨x,h,by show ((x:Int) == (x:Int))=true;simp⟩
theorem yG (l:List Nat) (x:Nat):(if true=true then !inV (vN x) (vNs l) else inV (vN x) (vNs l)) = !decide (x∈l):=by
  have:=dL l x
  rw [if_neg (by decide)] at this
  rw [if_pos rfl,this]
theorem jkZ {K:W.Frag} {H:Hp} {p q:Addr} {as bs:List Nat} {κ μ:Bool} {i:Nat} (hp:SqA K H p (vNs as) κ) (hq:SqA K H q (vNs bs) μ) (hi:i < (as.zip bs).length):(oC K p q κ μ).go i H:=by
  rw [List.length_zip] at hi
  exact ⟨_,_,vN (as[i]'(by omega)),vN (bs[i]'(by omega)),hp,hq,by unfold vNs;rw [List.getElem?_map,List.getElem?_eq_getElem (by omega)];rfl,by unfold vNs;rw [List.getElem?_map,List.getElem?_eq_getElem (by omega)];rfl⟩
theorem bP {K:W.Frag} {H:Hp} {p q:Addr} {as bs:List Nat} {κ μ:Bool} (hp:SqA K H p (vNs as) κ) (hq:SqA K H q (vNs bs) μ):(oC K p q κ μ).stop (as.zip bs).length H:=by
  refine ⟨_,_,hp,hq,?_⟩
  unfold vNs
  rw [List.length_zip,List.length_map,List.length_map];omega
theorem tZ {K:W.Frag} {H H':Hp} {p q:Addr} {as bs:List Nat} {κ μ:Bool} {i:Nat} {x:V} (hp:SqA K H p (vNs as) κ) (hq:SqA K H q (vNs bs) μ) (hi:i < (as.zip bs).length) (hy:(oC K p q κ μ).yld i H x H') :
    ∃ (T:Addr) (c d:Nat),x=.ref T∧H T=none∧H'=upd H T (.tup [vN c,vN d])∧(as.zip bs)[i]? = some (c,d):=by
  obtain ⟨T,x1,x2,rfl,hT,rfl,h1,h2⟩:=hy
  rw [List.length_zip] at hi
  have h1:=h1 _ hp
  have h2:=h2 _ hq
  unfold vNs at h1 h2
  rw [List.getElem?_map,List.getElem?_eq_getElem (by omega)] at h1 h2
  have h1:vN (as[i]'(by omega))=x1:=by simpa using h1
  have h2:vN (bs[i]'(by omega))=x2:=by simpa using h2
  subst h1 h2
  exact ⟨T,_,_,rfl,hT,rfl,by rw [List.getElem?_zip_eq_some];exact ⟨List.getElem?_eq_getElem (by omega),List.getElem?_eq_getElem (by omega)⟩⟩
section
variable {P:Program} {w:World} {K:W.Frag} {mg:Str→Option Value} {base:Heap} {a:Adr}
def mR (a:Adr):Sp:=fun vs H Q _=>∃ (p dx:Addr) (s t:V),vs=[.ref p,s,t]∧H p=some (.ins a.C_Least dx []) ∧
  ∀ H':Hp,H' p=some (.ins a.C_Least dx (xW s t))→(∀ b o,H b=some o→b≠p→H' b=some o)→Q .non H'
theorem jbJ:jD ["self","price","ways"] ["self","price","ways"] (jW jyK):=⟨rfl,rfl,rfl,by decide +kernel,rfl,by decide +kernel,by decide +kernel⟩
theorem jwW (T:Txt K mg a):vA P w K mg base CX0 1 a.f_qu a.d_qu ["self","price","ways"] (mR a):=by
  have nd:=jbJ.nd
  refine T.F_qu.ok jbJ (fun vs H Q E h=>?_) (fun cdv A outer s H vs Q E hr h=>?_)
  · obtain ⟨p,dx,x1,x2,rfl,hp,k⟩:=h
    rfl
  · obtain ⟨p,dx,x1,x2,rfl,hp,k⟩:=h
    have hu:=kE hr
    refine ⟨_,(jZ (vQ (pv 0) (pv 1) rfl)
(jY (vQ (pv 0) (pv 2) rfl))),?_⟩
    rw [show j7 ["self","price","ways"] [.ref p,x1,x2]=[some (.ref p),some (x1),some (x2)] from rfl]
    refine ⟨_,rfl,_,rfl,p,_,dx,_,rfl,hp,T.cl_Least,T.no_Least_price,(by show 0 < 1000;decide),?_⟩
    refine ⟨_,rfl,_,rfl,p,_,dx,_,rfl,jK,T.cl_Least,T.no_Least_ways,(by show 1 < 1000;decide),?_⟩
    exact k _ jK fun b o e hb=>by rw [jV hb,jV hb];exact e
def iO (a:Adr):Sp:=fun vs H Q _=>∃ (p q:Addr) (ns ms:List Nat),vs=[.ref p,.ref q]∧H p=some (.lst (vNs ns))∧H q=some (.lst (vNs ms))∧ns≠[]∧ns.length=ms.length∧ns.length≤100000 ∧
  ∀ (H':Hp) (b:Addr),jG H H'→H b=none→w4 a H' b (dO ns ms)→Q (.ref b) H'
theorem jbK:jD ["prices","ways","price","many","other"] ["prices","ways"] (jW jyV):=⟨rfl,rfl,rfl,by decide +kernel,rfl,by decide +kernel,by decide +kernel⟩
theorem jhQ (T:Txt K mg a):vA P w K mg base CX0 3 a.f_qv a.d_qv ["prices","ways"] (iO a):=by
  have nd:=jbK.nd
  have G_Least:=(jwW (P:=P) (w:=w) (base:=base) T).mono (k:=1) (by decide)
  refine T.F_qv.ok jbK (fun vs H Q E h=>?_) (fun cdv A outer s H vs Q E hr h=>?_)
  · obtain ⟨p,q,ns,ms,rfl,hp,hq,hne,hlen,hl,kk⟩:=h
    rfl
  · obtain ⟨p,q,ns,ms,rfl,hp,hq,hne,hlen,hl,kk⟩:=h
    have hu:=kE hr
    refine ⟨_,(jZ (kJ 2 nd (jL (jg9 rfl) rfl T.n_min jg7 (jJ (pv 0) jQ)))
(jY (jC (gG T.M_Least G_Least hr rfl T.g_Least T.b_qu .nil jU (jJ (pv 2) (jJ (jL (aK rfl) rfl T.n_sum l6 (jJ (plc [("many",3),("other",4)] nd (yB true true rfl T.n_zip (jJ (pv 1) (jJ (pv 0) jQ))) (by intro _ _ _ _ _;exact (pgt K 2 (j9 (pgn 3 nd) (j9 (pgn 4 nd) z6)))) (by intro _ _ _ _ _;exact (zN (jR h9 (pv 4) (pv 2) (j0 _)))) (by intro _ _ _ _ _;exact (pv 3))) jQ)) jQ)))))),?_⟩
    rw [show j7 ["prices","ways","price","many","other"] [.ref p,.ref q]=[some (.ref p),some (.ref q),none,none,none] from rfl]
    simp only [zH,wI,tCB,jN,j4,List.getElem?_cons_zero,Option.some.injEq,kN,uN,jI,zU,rE,List.set_cons_succ,List.set_cons_zero,List.getElem?_cons_succ,List.map_cons,List.map_nil,List.append_nil,vX,p3,List.cons.injEq,and_true,and_assoc,exists_and_left,exists_eq_left',V.ref.injEq]
    refine ⟨p,ns.map fun n:Nat=>(n:Int),rfl,SqL.of (by rw [hp,List.map_map];rfl),by rw [List.length_map];exact List.length_pos_iff.mpr hne,fun m hm hmin=>?_⟩
    obtain ⟨m,hm',rfl⟩:=List.mem_map.mp hm
    have em:m=minL ns:=eN hm' fun y hy=>by have:=hmin y (List.mem_map_of_mem hy);omega
    subst em
    refine ⟨vNs ms,SqL.of hq,vNs ns,SqL.of hp,?_⟩
    have sqq:∀ {H'},jG H H'→SqA K H' q (vNs ms) true:=fun s=>SqL.of (s _ _ hq)
    have sqp:∀ {H'},jG H H'→SqA K H' p (vNs ns) true:=fun s=>SqL.of (s _ _ hp)
    refine lcb (n:=(ms.zip ns).length) (fm (ms.zip ns) (fun x=>decide (x.2=minL ns)) fun x=>vN x.1) kC (fun i H' hi s=>jkZ (sqq s) (sqp s) hi) (fun H' s=>bP (sqq s) (sqp s)) (fun D i H' x H2 hD hi pv hy=>?_) (fun D H' hD s e=>?_)
    · obtain ⟨T',c,d,rfl,hT,rfl,hx⟩:=tZ (sqq pv.1) (sqp pv.1) hi hy
      have sT:jG H' (upd H' T' (.tup [vN c,vN d])):=jG.new hT
      refine ⟨T',_,rfl,SqT.of jK,rfl,?_⟩
      simp only [xA,vN,List.cons.injEq,jI,aL,v5,List.set_cons_succ,List.set_cons_zero,vH,tOp,j4,List.getElem?_cons_succ,List.getElem?_cons_zero,Option.some.injEq,rEq,f8,V.bl.injEq,exists_eq_left',decide_eq_true_eq,true_and,and_assoc,exists_and_left,V.int.injEq]
      have e:(d:Int)=(minL ns:Int)↔d=minL ns:=by omega
      refine wY (fun h=>lcY pv hD sT (vL hx (by simpa using e.mp h)) (wV (m:=100000) (by rw [List.length_zip];omega) (by decide))) (fun h=>lcN pv sT (y4 hx (by simpa using fun z=>h (e.mpr z))))
    · rw [vT rfl] at e
      refine ⟨D,(((ms.zip ns).filter fun x=>decide (x.2=minL ns)).map (·.1)).map fun n:Nat=>(n:Int),rfl,SqL.of (by rw [e,List.map_map,List.map_map];rfl),?_⟩
      rw [xZ]
      intro b dq hb hdq ndq
      refine ⟨b,dq,_,_,rfl,jK,fun H2 c2 k2=>⟨rfl,?_⟩⟩
      exact kk H2 b (s.trans (jG.made hb hdq k2)) (s.free hb) ⟨dq,c2⟩
def ju9:Sp:=fun vs H Q _=>∃ (p q:Addr) (r s:List Nat),vs=[.ref p,.ref q]∧H p=some (.tup (vNs r))∧H q=some (.tup (vNs s))∧r.length≤1000∧∀ H':Hp,jG H H'→Q (.int (mvCount r s:Nat)) H'
theorem jbZ:jD ["sitting","other","seat","seat_behind"] ["sitting","other"] (jW jyW):=⟨rfl,rfl,rfl,by decide +kernel,rfl,by decide +kernel,by decide +kernel⟩
theorem jmV (T:Txt K mg a):vA P w K mg base CX0 3 a.f_qx a.d_qx ["sitting","other"] (ju9):=by
  have nd:=jbZ.nd
  refine T.F_qx.ok jbZ (fun vs H Q E h=>?_) (fun cdv A outer s H vs Q E hr h=>?_)
  · obtain ⟨p,q,r,s,rfl,hp,hq,hl,kk⟩:=h
    rfl
  · obtain ⟨p,q,r,s,rfl,hp,hq,hl,kk⟩:=h
    have hu:=kE hr
    refine ⟨_,(jY (jC (jL (j8 K) rfl T.n_len vF (jJ (plc [("seat",2),("seat_behind",3)] nd (yB false false rfl T.n_zip (jJ (pv 0) (jJ (pv 1) jQ))) (by intro _ _ _ _ _;exact (pgt K 2 (j9 (pgn 2 nd) (j9 (pgn 3 nd) z6)))) (by intro _ _ _ _ _;exact (zN (jR mX (pv 2) (pv 3) (j0 _)))) (by intro _ _ _ _ _;exact jA)) jQ)))),?_⟩
    rw [show j7 ["sitting","other","seat","seat_behind"] [.ref p,.ref q]=[some (.ref p),some (.ref q),none,none] from rfl]
    simp only [zU,tCB,jN,uN,List.map_cons,List.map_nil,kN,List.cons.injEq,and_true,exists_and_left,vX,p3,j4,List.getElem?_cons_zero,Option.some.injEq,List.getElem?_cons_succ,and_assoc,exists_eq_left',V.ref.injEq]
    have sqp:∀ {H'},jG H H'→SqA K H' p (vNs r) false:=fun s=>SqT.of (s _ _ hp)
    have sqq:∀ {H'},jG H H'→SqA K H' q (vNs s) false:=fun z=>SqT.of (z _ _ hq)
    refine ⟨vNs r,sqp (jG.refl _),vNs s,sqq (jG.refl _),?_⟩
    refine lcb (n:=(r.zip s).length) (fm (r.zip s) (fun x=>decide (x.1≠x.2)) fun _=>V.int 1) kC (fun i H' hi s=>jkZ (sqp s) (sqq s) hi) (fun H' s=>bP (sqp s) (sqq s)) (fun D i H' x H2 hD hi pv hy=>?_) (fun D H' hD s e=>?_)
    · obtain ⟨T',c,d,rfl,hT,rfl,hx⟩:=tZ (sqp pv.1) (sqq pv.1) hi hy
      have sT:jG H' (upd H' T' (.tup [vN c,vN d])):=jG.new hT
      refine ⟨T',_,rfl,SqT.of jK,rfl,?_⟩
      simp only [xA,vN,List.cons.injEq,jI,aL,v5,List.set_cons_succ,List.set_cons_zero,vH,tOp,j4,List.getElem?_cons_succ,List.getElem?_cons_zero,Option.some.injEq,rNe,f8,V.bl.injEq,tC,exists_eq_left',true_and,and_assoc,exists_and_left,V.int.injEq]
      have e:decide ((c:Int)=(d:Int))=decide (c=d):=by simp;omega
      rw [e]
      refine wY (fun h=>lcY pv hD sT (vL hx (by simpa using h)) (wV (m:=1000) (by rw [List.length_zip];omega) (by decide))) (fun h=>lcN pv sT (y4 hx (by simpa using h)))
    · rw [vT rfl] at e
      refine ⟨D,rfl,_,.inl (SqL.of e),?_⟩
      rw [List.length_map]
      exact kk H' s
def jk5:Sp:=fun vs H Q _=>∃ (p q u:Addr) (r ab some:List Nat),vs=[.ref p,.ref q,.ref u]∧H p=.some (.tup (vNs r))∧H q=.some (.lst (vNs ab))∧H u=.some (.lst (vNs some))∧ab.length≤1000 ∧
  ∀ (H':Hp) (b:Addr),jG H H'→H b=none→H' b=.some (.tup (vNs (kW r ab some)))→Q (.ref b) H'
theorem jbQ:jD ["sitting","aboard","some","i","seat"] ["sitting","aboard","some"] (jW jyX):=⟨rfl,rfl,rfl,by decide +kernel,rfl,by decide +kernel,by decide +kernel⟩
theorem jhY (T:Txt K mg a):vA P w K mg base CX0 3 a.f_qz a.d_qz ["sitting","aboard","some"] (jk5):=by
  have nd:=jbQ.nd
  refine T.F_qz.ok jbQ (fun vs H Q E h=>?_) (fun cdv A outer s H vs Q E hr h=>?_)
  · obtain ⟨p,q,u,r,ab,sm,rfl,hp,hq,hsm,hl,kk⟩:=h
    rfl
  · obtain ⟨p,q,u,r,ab,sm,rfl,hp,hq,hsm,hl,kk⟩:=h
    have hu:=kE hr
    refine ⟨_,(jY (jC (gY dM rfl T.n_tuple oE (jJ (plc [("i",3),("seat",4)] nd (yB true false rfl T.n_zip (jJ (pv 1) (jJ (pv 0) jQ))) (by intro _ _ _ _ _;exact (pgt K 2 (j9 (pgn 3 nd) (j9 (pgn 4 nd) z6)))) (by intro _ _ _ _ _;exact (zN (jR (e9 K) (pv 3) (pv 2) rfl))) (by intro _ _ _ _ _;exact (pv 4))) jQ)))),?_⟩
    rw [show j7 ["sitting","aboard","some","i","seat"] [.ref p,.ref q,.ref u]=[some (.ref p),some (.ref q),some (.ref u),none,none] from rfl]
    simp only [zU,tCB,jN,uN,List.map_cons,List.map_nil,kN,List.cons.injEq,and_true,exists_and_left,vX,p3,j4,List.getElem?_cons_succ,List.getElem?_cons_zero,Option.some.injEq,and_assoc,exists_eq_left',V.ref.injEq]
    have sqq:∀ {H'},jG H H'→SqA K H' q (vNs ab) true:=fun s=>SqL.of (s _ _ hq)
    have sqp:∀ {H'},jG H H'→SqA K H' p (vNs r) false:=fun s=>SqT.of (s _ _ hp)
    refine ⟨vNs ab,sqq (jG.refl _),vNs r,sqp (jG.refl _),?_⟩
    refine lcb (n:=(ab.zip r).length) (fm (ab.zip r) (fun x=>decide (x.1∈sm)) fun x=>vN x.2) kC (fun i H' hi s=>jkZ (sqq s) (sqp s) hi) (fun H' s=>bP (sqq s) (sqp s)) (fun D i H' x H2 hD hi pv hy=>?_) (fun D H' hD s e=>?_)
    · obtain ⟨T',c,d,rfl,hT,rfl,hx⟩:=tZ (sqq pv.1) (sqp pv.1) hi hy
      have sT:jG H' (upd H' T' (.tup [vN c,vN d])):=jG.new hT
      refine ⟨T',_,rfl,SqT.of jK,rfl,?_⟩
      simp only [xA,List.cons.injEq,jI,aL,v5,List.set_cons_succ,List.set_cons_zero,vH,tOp,j4,List.getElem?_cons_succ,List.getElem?_cons_zero,Option.some.injEq,exists_eq_left',true_and,and_assoc,exists_and_left]
      refine ⟨u,vNs sm,rfl,.inl (SqL.of (sT _ _ (pv.1 _ _ hsm))),rfl,uF sm,_,rfl,?_⟩
      rw [dL]
      refine wY (fun h=>lcY pv hD sT (vL hx (by simpa using h)) (wV (m:=1000) (by rw [List.length_zip];omega) (by decide))) (fun h=>lcN pv sT (y4 hx (by simpa using h)))
    · rw [vT rfl] at e
      refine ⟨D,rfl,_,.inl ⟨SqL.of e,fun b hb=>?_⟩⟩
      exact kk _ b (s.trans (jG.new hb)) (s.free hb) (by rw [jK];unfold kW vNs;rw [List.map_map];rfl)
def ext (seats:Nat) (l:List (List Nat)):List (List Nat):=l.flatMap fun r=>((List.range seats).filter fun s=>!decide (s∈r)).map fun s=>r++[s]
def kP (seats:Nat):Nat→List (List Nat)
  | 0=>[[]]
  | n+1=>ext seats (kP seats n)
structure g7 (H:Hp) (q:Addr) (qs:List Addr) (rs:List (List Nat)):Prop where
  lst:H q=some (.lst (qs.map V.ref))
  len:qs.length=rs.length
  at':∀ (i:Nat) (b:Addr) (r:List Nat),qs[i]? = some b→rs[i]? = some r→H b=some (.tup (vNs r))
theorem g7.same {H H':Hp} {pp:Addr} {ds:List Addr} {ls:List (List Nat)} (X:g7 H pp ds ls) (s:jG H H'):g7 H' pp ds ls:=⟨s _ _ X.lst,X.len,fun i d l h1 h2=>s _ _ (X.at' i d l h1 h2)⟩
theorem tX (n:Nat) (a b:List (List Nat)):ext n (a++b)=ext n a++ext n b:=by unfold ext;rw [List.flatMap_append]
theorem pO (n:Nat):∀ l:List (List Nat),(ext n l).length≤n * l.length
  | []=>Nat.zero_le _
  | r :: l=>by
    have ih:=pO n l
    unfold ext at ih ⊢
    rw [List.flatMap_cons,List.length_append,List.length_map,List.length_cons]
    have:=List.length_filter_le (fun s=>!decide (s∈r)) (List.range n)
    rw [List.length_range] at this
    rw [Nat.mul_add];omega
theorem sR (n:Nat):∀ k,(kP n k).length≤n ^ k
  | 0=>Nat.le_refl _
  | k+1=>by
    have:=sR n k
    have h:=pO n (kP n k)
    show (ext n (kP n k)).length≤n ^ (k+1)
    rw [Nat.pow_succ,Nat.mul_comm]
    exact Nat.le_trans h (Nat.mul_le_mul_left _ this)
theorem wP {n k:Nat} (hn:n≤5) (hk:k≤5):(kP n k).length≤3125 :=
  Nat.le_trans (sR n k) (Nat.le_trans (Nat.pow_le_pow_left hn k) (Nat.le_trans (Nat.pow_le_pow_right (by decide) hk) (by decide)))
theorem cG {α:Type} {p:α→Bool}:∀ {xs:List α} {i:Nat} {x:α},xs[i]? = some x→p x=true→(xs.filter p)[((xs.take i).filter p).length]? = some x
  | y :: xs,0,x,h,hp=>by
    have h:y=x:=by simpa using h
    subst h
    rw [List.filter_cons,if_pos hp];rfl
  | y :: xs,i+1,x,h,hp=>by
    have ih:=cG (xs:=xs) (i:=i) (x:=x) (by simpa using h) hp
    rw [List.take_succ_cons,List.filter_cons,List.filter_cons]
    by_cases hy:p y=true
    · rw [if_pos hy,if_pos hy];simpa using ih
    · rw [if_neg hy,if_neg hy];exact ih
theorem tY {α:Type} {p:α→Bool} {xs:List α} {i:Nat} {x:α} (h:xs[i]? = some x) (hp:p x=true):((xs.take (i+1)).filter p).length=((xs.take i).filter p).length+1:=by rw [List.take_add_one,h];simp [hp]
theorem aN {α:Type} {p:α→Bool} {xs:List α} {i:Nat} {x:α} (h:xs[i]? = some x) (hp:p x=false):((xs.take (i+1)).filter p).length=((xs.take i).filter p).length:=by rw [List.take_add_one,h];simp [hp]
theorem bG {n:Nat}:∀ {k:Nat} {r:List Nat},r∈kP n k→r.length=k
  | 0,r,h=>by
                  have:r=[]:=by simpa [kP] using h
                  rw [this];rfl
  | k+1,r,h=>by
    have h:r∈ext n (kP n k):=h
    unfold ext at h
    obtain ⟨r',h1,h2⟩:=List.mem_flatMap.mp h
    obtain ⟨s,_,rfl⟩:=List.mem_map.mp h2
    rw [List.length_append,bG h1];rfl
def lQ:Sp:=fun vs H Q _=>∃ (n k:Nat),vs=[.int n,.int k]∧n≤5∧k≤5∧∀ (H':Hp) (q:Addr) (qs:List Addr),jG H H'→H q=none→g7 H' q qs (kP n k)→Q (.ref q) H'
theorem jbV:jD ["seats","riders","sittings","place","longer","sitting","seat"] ["seats","riders"] (jW jyZ):=⟨rfl,rfl,rfl,by decide +kernel,rfl,by decide +kernel,by decide +kernel⟩
theorem jhX (T:Txt K mg a):vA P w K mg base CX0 3 a.f_qw a.d_qw ["seats","riders"] (lQ):=by
  have nd:=jbV.nd
  refine T.F_qw.ok jbV (fun vs H Q E h=>?_) (fun cdv A outer s H vs Q E hr h=>?_)
  · obtain ⟨n,k,rfl,hn,hk,kk⟩:=h
    rfl
  · obtain ⟨n,k,rfl,hn,hk,kk⟩:=h
    have hu:=kE hr
    refine ⟨_,(jZ (kJ 2 nd (kR (jJ (v0 jQ) jQ)))
(jZ (yR (zM rfl T.n_range (jJ (pv 1) jQ)) (pgn 3 nd)
(jZ (kJ 4 nd (kR jQ))
(jZ (yR (v3 (pv 2)) (pgn 5 nd)
(jY (vP (qC PySem.F.plainAttrs_list PySem.F.slot_list_extend PySem.F.type_list_extend gZ (pv 4) (jJ (plc [("seat",6)] nd (zM rfl T.n_range (jJ (pv 0) jQ)) (by intro _ _ _ _ _;exact (pgn 6 nd)) (by intro _ _ _ _ _;exact (zN (jR (qD K) (pv 6) (pv 5) rfl))) (by intro _ _ _ _ _;exact (zK (jj7 K) (pv 5) (v0 (jJ (pv 6) jQ))))) jQ)))))
(jY (kJ 2 nd (pv 4))))))
(jY (jC (pv 2))))),?_⟩
    rw [show j7 ["seats","riders","sittings","place","longer","sitting","seat"] [.int n,.int k]=[some (.int n),some (.int k),none,none,none,none,none] from rfl]
    simp only [zH,wI,dJ,jN,sS,kN,kO,jI,uN,exists_and_left,List.map_cons,List.map_nil,List.set_cons_succ,List.set_cons_zero,zQ,cC,j4,List.getElem?_cons_succ,List.getElem?_cons_zero,Option.some.injEq,List.cons.injEq,and_true,exists_eq_left',V.int.injEq]
    refine ⟨Nat.zero_le _,fun b hb=>⟨by show 1≤sizeLine;decide,fun c hc=>⟨by omega,by omega,?_⟩⟩⟩
    have sb:jG H (upd H b (.tup [])):=jG.new hb
    have sc:jG (upd H b (.tup [])) (upd (upd H b (.tup [])) c (.lst [V.ref b])):=jG.new (by rw [jV hc.1];exact hc.2)
    have s0:=sb.trans sc
    have hS0:g7 (upd (upd H b (.tup [])) c (.lst [V.ref b])) c [b] (kP n 0):=⟨jK,rfl,fun i d r h1 h2=>by
      cases i with
      | zero =>
        have h1:b=d:=by simpa using h1
        have h2:[]=r:=by simpa [kP] using h2
        subst h1 h2
        rw [jV hc.1.symm,jK];rfl
      | succ i=>simp at h1⟩
    have hcn:H c=none:=hc.2
    generalize upd (upd H b (.tup [])) c (.lst [V.ref b])=H0 at s0 hS0
    rw [Int.toNat_natCast]
    refine tG (J:=Itr 0 k) (n:=k) (fun i σ H'=>jG H H'∧∃ (q:Addr) (qs:List Addr) (u1 u2 u3 u4:Option V),σ=[some (.int n),some (.int k),some (.ref q),u1,u2,u3,u4]∧g7 H' q qs (kP n i)∧H q=none) ⟨s0,c,[b],none,none,none,none,rfl,hS0,hcn⟩ (fun i σ H' hi h=>hi) (fun σ H' h=>Nat.le_refl _) (fun i σ H' x H2 hi h hy=>?_) (fun σ H' h=>?_)
    · obtain ⟨rfl,rfl⟩:=hy
      obtain ⟨s1,q,qs,u1,u2,u3,u4,rfl,S,hq⟩:=h
      simp only [jI,zH,wI,dJ,kN,Int.zero_add,List.set_cons_succ,List.set_cons_zero,zQ,yZ,j4,List.getElem?_cons_succ,List.getElem?_cons_zero,Option.some.injEq,exists_eq_left',V.ref.injEq]
      refine ⟨Nat.zero_le _,fun L hL=>?_⟩
      have sL:jG H2 (upd H2 L (.lst [])):=jG.new hL
      have hfew:(kP n i).length≤3125:=wP hn (by omega)
      refine ⟨⟨_,SqL.of (sL _ _ S.lst)⟩,?_⟩
      refine tG (J:=Itl K q) (n:=(kP n i).length) (fun j σ H'=>jG H2 H'∧∃ (ls:List Addr) (u3 u4:Option V),σ=[some (.int n),some (.int k),some (.ref q),some (.int i),some (.ref L),u3,u4]∧g7 H' L ls (ext n ((kP n i).take j))) ⟨sL,[],u3,u4,rfl,jK,rfl,fun k d r h=>by simp at h⟩ (fun j σ H' hj h=>⟨_,V.ref (qs[j]'(by rw [S.len];exact hj)),SqL.of (h.1 _ _ S.lst),by simp [S.len,hj]⟩) (fun σ H' h=>⟨_,SqL.of (h.1 _ _ S.lst),by simp [S.len]⟩) (fun j σ H3 x H4 hj h hy=>?_) (fun σ H3 h=>?_)
      · obtain ⟨rfl,hx⟩:=hy
        obtain ⟨s3,ls,u3,u4,rfl,R⟩:=h
        have hx:=hx _ (SqL.of (s3 _ _ S.lst))
        obtain ⟨g,hg⟩:∃ g,qs[j]? = some g:=⟨_,List.getElem?_eq_getElem (by rw [S.len];exact hj)⟩
        obtain ⟨r,hr'⟩:∃ r,(kP n i)[j]? = some r:=⟨_,List.getElem?_eq_getElem hj⟩
        rw [List.getElem?_map,hg] at hx
        have hx:V.ref g=x:=by simpa using hx
        subst hx
        have eg:=s3 _ _ (S.at' j g r hg hr')
        simp only [jI,qT,tBM,j4,List.set_cons_succ,List.set_cons_zero,List.getElem?_cons_succ,List.getElem?_cons_zero,Option.some.injEq,jN,kN,bW,List.cons.injEq,and_true,true_and,and_assoc,exists_and_left,exists_eq_left',vX,cC,V.int.injEq,V.ref.injEq]
        refine ⟨.inl ⟨rfl,_,SqL.of R.lst⟩,by omega,by omega,?_⟩
        rw [Int.toNat_natCast]
        refine lcg (J:=Itr 0 n) (n:=n) (fun D i H'=>LrP H4 D (((List.range n).filter fun s=>!decide (s∈r)).map fun s=>HO.tup (vNs (r++[s]))) (((List.range n).take i).filter fun s=>!decide (s∈r)).length H') (fun D hD=>⟨jG.new hD,[],jK,rfl,List.nodup_nil,by simp,by simp,fun k d o h=>by simp at h⟩) (fun D i H' hi p=>hi) (fun D H' p=>Nat.le_refl _) (fun D m H5 x H6 hD hm pv hy=>?_) (fun D H5 hD pv=>?_)
        · obtain ⟨rfl,rfl⟩:=hy
          have hmm:(List.range n)[m]? = some m:=by simp [hm]
          have eg2:=pv.1 _ _ eg
          simp only [jI,v5,List.set_cons_succ,List.set_cons_zero,Int.zero_add,vH,tOp,j4,List.getElem?_cons_succ,List.getElem?_cons_zero,Option.some.injEq,sS,jN,kN,V.ref.injEq,exists_eq_left',true_and]
          refine ⟨g,vNs r,rfl,.inr (SqT.of eg2),rfl,uF r,_,rfl,?_⟩
          have hv:V.int (m:Int)=vN m:=rfl
          rw [hv,yG]
          refine wY (fun h=>⟨by show 1≤sizeLine;decide,fun e he=>?_⟩) (fun h=>?_)
          · have hp:(!decide (m∈r))=true:=h
            have se:jG H6 (upd H6 e (.tup [vN m])):=jG.new he
            have fin:∀ (f:Addr) (H7:Hp),jG H6 H7→H6 f=none→H7 f=some (.tup (vNs (r++[m])))→∃ acc,H7 D=some (.lst acc)∧acc.length < sizeLine∧LrP H4 D (((List.range n).filter fun s=>!decide (s∈r)).map fun s=>HO.tup (vNs (r++[s]))) (((List.range n).take (m+1)).filter fun s=>!decide (s∈r)).length (upd H7 D (.lst (acc++[V.ref f]))):=fun f H7 s7 hf ef=>by
              rw [tY (p:=fun s=>!decide (s∈r)) hmm hp]
              refine jp2 pv hD s7 hf ef (by rw [List.getElem?_map,cG (p:=fun s=>!decide (s∈r)) hmm hp];rfl) ?_
              have:=List.length_filter_le (fun s=>!decide (s∈r)) ((List.range n).take m)
              rw [List.length_take,List.length_range] at this
              omega
            cases r with
            | nil=>exact .inr ⟨SqT.of (se _ _ eg2),_,SqT.of jK,fin e _ se he (by rw [jK];rfl)⟩
            | cons r0 rr =>
              refine .inl ⟨g,e,_,_,rfl,rfl,SqT.of (se _ _ eg2),SqT.of jK,by simp [vNs],?_,fun z=>(by cases z),fun _ f hf=>fin f _ (se.trans (jG.new hf)) (se.free hf) (by rw [jK];unfold vNs;rw [List.map_append];rfl)⟩
              have:(r0 :: rr).length≤5:=by rw [bG (List.mem_of_getElem? hr')];omega
              unfold vNs
              rw [List.length_map,sizeLine_eq,List.length_singleton];omega
          · have hp:(!decide (m∈r))=false:=by simpa using h
            rw [aN (p:=fun s=>!decide (s∈r)) hmm hp]
            exact pv
        · obtain ⟨s5,ds,e1,e2,e3,e4,e5,e6⟩:=pv
          rw [List.take_of_length_le (by simp)] at e2
          simp only [V.ref.injEq,exists_eq_left']
          have nDL:L≠D:=jX R.lst hD
          have hext:ext n ((kP n i).take (j+1))=ext n ((kP n i).take j)++(((List.range n).filter fun s=>!decide (s∈r)).map fun s=>r++[s]):=by
            rw [List.take_add_one,hr',tX];congr 1;unfold ext;simp
          refine ⟨_,s5 _ _ R.lst,_,e1,?_,?_,ls++ds,?_⟩
          · have h1:=pO n ((kP n i).take j)
            have h2:=List.length_filter_le (fun s=>!decide (s∈r)) (List.range n)
            rw [List.length_range] at h2
            rw [List.length_take] at h1
            have h3:n * min j (kP n i).length≤5 * 3125:=Nat.mul_le_mul hn (by omega)
            rw [List.length_map,List.length_map,R.len,e2,sizeLine_eq]
            omega
          · intro z o e
            rw [jV (jX e hL)]
            exact s5 _ _ (s3 _ _ e)
          · rw [hext]
            refine ⟨by rw [jK,List.map_append],by rw [List.length_append,List.length_append,R.len,e2,List.length_map],fun m d r' h1 h2=>?_⟩
            rcases Nat.lt_or_ge m ls.length with hm | hm
            · rw [List.getElem?_append_left hm] at h1
              rw [List.getElem?_append_left (by rw [← R.len];exact hm)] at h2
              have e:=s5 _ _ (R.at' m d r' h1 h2)
              rw [jV (j1 e (s5 _ _ R.lst) (fun z=>nomatch z))]
              exact e
            · rw [List.getElem?_append_right hm] at h1
              rw [List.getElem?_append_right (by rw [← R.len];exact hm),← R.len,List.getElem?_map] at h2
              obtain ⟨s',hs',rfl⟩:=Option.map_eq_some_iff.mp h2
              have e:=e6 _ d _ h1 (by rw [List.getElem?_map,hs'];rfl)
              rw [jV (j1 e (s5 _ _ R.lst) (fun z=>nomatch z))]
              exact e
      · obtain ⟨s3,ls,u3,u4,rfl,R⟩:=h
        rw [List.take_of_length_le (Nat.le_refl _)] at R
        simp only [wI,j4,List.getElem?_cons_succ,List.getElem?_cons_zero,Option.some.injEq,jI,List.set_cons_succ,List.set_cons_zero,List.cons.injEq,and_true,true_and,and_assoc,exists_and_left,exists_eq_left',V.ref.injEq]
        exact ⟨s1.trans s3,ls,R,s1.free hL⟩
    · obtain ⟨s1,q,qs,u1,u2,u3,u4,rfl,S,hq⟩:=h
      simp only [zU,j4,List.getElem?_cons_succ,List.getElem?_cons_zero,Option.some.injEq,exists_eq_left']
      exact kk H' q qs s1 hq S
def zE (n k:Nat):List (List Nat):=(kP n k).map fun r=>(kP n k).map fun s=>mvCount r s
def mM (a:Adr):Sp:=fun vs H Q _=>∃ (p dx:Addr) (n k:Nat),vs=[.ref p,.int n,.int k]∧H p=some (.ins a.C_Stays dx [])∧n≤5∧k≤5 ∧
  ∀ (H':Hp) (sq mq:Addr) (qs ms:List Addr),H' p=some (.ins a.C_Stays dx (xQ (.ref sq) (.ref mq)))→g7 H' sq qs (kP n k)→vM H' mq ms (zE n k)→(∀ b o,H b=some o→b≠p→H' b=some o)→H sq=none→H mq=none→(∀ b∈ms,H b=none)→Q .non H'
theorem jbW:jD ["self","seats","riders","sittings","moves","sitting","other"] ["self","seats","riders"] (jW jyQ):=⟨rfl,rfl,rfl,by decide +kernel,rfl,by decide +kernel,by decide +kernel⟩
theorem jmZ (T:Txt K mg a):vA P w K mg base CX0 5 a.f_qy a.d_qy ["self","seats","riders"] (mM a):=by
  have nd:=jbW.nd
  have G_qw:=(jhX (P:=P) (w:=w) (base:=base) T).mono (k:=4) (by decide)
  have G_qx:=(jmV (P:=P) (w:=w) (base:=base) T).mono (k:=4) (by decide)
  refine T.F_qy.ok jbW (fun vs H Q E h=>?_) (fun cdv A outer s H vs Q E hr h=>?_)
  · obtain ⟨p,dx,n,k,rfl,hp,hn,hk,kk⟩:=h
    rfl
  · obtain ⟨p,dx,n,k,rfl,hp,hn,hk,kk⟩:=h
    have hu:=kE hr
    refine ⟨_,(jZ (kJ 3 nd (jP G_qw hr rfl T.g_qw T.F_qw.kp T.b_qw .nil jU (jJ (pv 1) (jJ (pv 2) jQ))))
(jZ (kJ 4 nd (kR jQ))
(jZ (yR (v3 (pv 3)) (pgn 5 nd)
(jY (vP (qC PySem.F.plainAttrs_list PySem.F.slot_list_append PySem.F.type_list_append vD (pv 4) (jJ (plc [("other",6)] nd (v3 (pv 3)) (by intro _ _ _ _ _;exact (pgn 6 nd)) (by intro _ _ _ _ _;exact v4) (by intro _ _ _ _ _;exact (jP G_qx hr rfl T.g_qx T.F_qx.kp T.b_qx .nil jU (jJ (pv 5) (jJ (pv 6) jQ))))) jQ)))))
(jZ (vQ (pv 0) (pv 3) rfl)
(jY (vQ (pv 0) (pv 4) rfl)))))),?_⟩
    rw [show j7 ["self","seats","riders","sittings","moves","sitting","other"] [.ref p,.int n,.int k]=[some (.ref p),some (.int n),some (.int k),none,none,none,none] from rfl]
    simp only [zH,wI,vG,jN,j4,List.getElem?_cons_succ,List.getElem?_cons_zero,Option.some.injEq,kN,List.append_nil,jI,dJ,uN,List.map_cons,List.map_nil,List.set_cons_succ,List.set_cons_zero,zQ,yZ,exists_eq_left']
    refine ⟨n,k,rfl,hn,hk,fun H1 q qs s1 hq S=>⟨Nat.zero_le _,fun M hM=>?_⟩⟩
    have sM:jG H1 (upd H1 M (.lst [])):=jG.new hM
    have hfew:(kP n k).length≤3125:=wP hn hk
    refine ⟨q,rfl,⟨_,SqL.of (sM _ _ S.lst)⟩,?_⟩
    refine tG (J:=Itl K q) (n:=(kP n k).length) (fun j σ H'=>jG H1 H'∧∃ (ms:List Addr) (u3 u4:Option V),σ=[some (.ref p),some (.int n),some (.int k),some (.ref q),some (.ref M),u3,u4]∧vM H' M ms ((zE n k).take j)∧∀ b∈ms,H b=none) ⟨sM,[],none,none,rfl,⟨jK,rfl,fun k d r h=>by simp at h⟩,by simp⟩ (fun j σ H' hj h=>⟨_,V.ref (qs[j]'(by rw [S.len];exact hj)),SqL.of (h.1 _ _ S.lst),by simp [S.len,hj]⟩) (fun σ H' h=>⟨_,SqL.of (h.1 _ _ S.lst),by simp [S.len]⟩) (fun j σ H3 x H4 hj h hy=>?_) (fun σ H3 h=>?_)
    · obtain ⟨rfl,hx⟩:=hy
      obtain ⟨s3,ms,u3,u4,rfl,R,frs⟩:=h
      have hx:=hx _ (SqL.of (s3 _ _ S.lst))
      obtain ⟨g,hg⟩:∃ g,qs[j]? = some g:=⟨_,List.getElem?_eq_getElem (by rw [S.len];exact hj)⟩
      obtain ⟨r,hr'⟩:∃ r,(kP n k)[j]? = some r:=⟨_,List.getElem?_eq_getElem hj⟩
      rw [List.getElem?_map,hg] at hx
      have hx:V.ref g=x:=by simpa using hx
      subst hx
      have S4:=S.same s3
      have eg:=S4.at' j g r hg hr'
      simp only [jI,qT,tBM,j4,List.set_cons_succ,List.set_cons_zero,List.getElem?_cons_succ,List.getElem?_cons_zero,Option.some.injEq,jN,kN,zS,List.cons.injEq,and_true,true_and,and_assoc,exists_and_left,exists_eq_left',vX,yZ,V.ref.injEq]
      refine ⟨.inl ⟨rfl,_,SqL.of R.lst⟩,⟨_,SqL.of S4.lst⟩,?_⟩
      refine lcb (J:=Itl K q) (n:=(kP n k).length) (fm (kP n k) (fun _=>true) fun s=>vN (mvCount r s)) kC (fun i H' hi s=>⟨_,V.ref (qs[i]'(by rw [S.len];exact hi)),SqL.of (s _ _ S4.lst),by simp [S.len,hi]⟩) (fun H' s=>⟨_,SqL.of (s _ _ S4.lst),by simp [S.len]⟩) (fun D i H' x H5 hD hi pv hy=>?_) (fun D H' hD s e=>?_)
      · obtain ⟨rfl,hx⟩:=hy
        have hx:=hx _ (SqL.of (pv.1 _ _ S4.lst))
        obtain ⟨g2,hg2⟩:∃ g,qs[i]? = some g:=⟨_,List.getElem?_eq_getElem (by rw [S.len];exact hi)⟩
        obtain ⟨r2,hr2⟩:∃ r,(kP n k)[i]? = some r:=⟨_,List.getElem?_eq_getElem hi⟩
        rw [List.getElem?_map,hg2] at hx
        have hx:V.ref g2=x:=by simpa using hx
        subst hx
        simp only [jI,v5,List.set_cons_succ,List.set_cons_zero,sE,vG,jN,j4,List.getElem?_cons_succ,List.getElem?_cons_zero,Option.some.injEq,kN,List.append_nil,exists_eq_left',if_true,true_and]
        exact ⟨g,g2,r,r2,rfl,pv.1 _ _ eg,pv.1 _ _ (S4.at' i g2 r2 hg2 hr2),by rw [bG (List.mem_of_getElem? hr')];omega,fun H6 s6=>lcY pv hD s6 (vL hr2 rfl) (wV (m:=3125) hfew (by decide))⟩
      · rw [vT rfl,v6] at e
        have nDM:D≠M:=(jX R.lst hD).symm
        have hrow:(zE n k)[j]? = some ((kP n k).map fun s=>mvCount r s):=by unfold zE;rw [List.getElem?_map,hr'];rfl
        refine ⟨_,s _ _ R.lst,?_,?_,ms++[D],?_,?_⟩
        · rw [List.length_map,R.len,List.length_take,sizeLine_eq];omega
        · intro z o e
          rw [jV (jX e hM)]
          exact s _ _ (s3 _ _ e)
        · have hj2:j < (zE n k).length:=by unfold zE;rw [List.length_map];exact hj
          have lm:ms.length=j:=by rw [R.len,List.length_take];omega
          rw [List.take_add_one,hrow]
          refine ⟨by rw [jK,List.map_append];rfl,by rw [List.length_append,List.length_append,R.len];rfl,fun i d r' h1 h2=>?_⟩
          rcases Nat.lt_or_ge i ms.length with hi | hi
          · rw [List.getElem?_append_left hi] at h1
            rw [List.getElem?_append_left (by rw [← R.len];exact hi)] at h2
            have e:=s _ _ (R.at' i d r' h1 h2)
            rw [jV (j1 e (s _ _ R.lst) fun z=>iP (qs:=ms) (r:=r') (fun w=>by rw [w] at h1;simp at h1) z.symm)]
            exact e
          · rw [List.getElem?_append_right hi] at h1
            rw [List.getElem?_append_right (by rw [← R.len];exact hi),← R.len] at h2
            have ei:i - ms.length=0:=by
              cases z:i - ms.length with
              | zero=>rfl
              | succ m=>rw [z] at h1;simp at h1
            rw [ei] at h1 h2
            have h1:D=d:=by simpa using h1
            have h2:((kP n k).map fun s=>mvCount r s)=r':=by simpa using h2
            subst h1 h2
            rw [jV nDM,e]
            unfold vNs;rw [List.map_map];rfl
        · intro b hb
          rcases List.mem_append.mp hb with hb | hb
          · exact frs b hb
          · rw [show b=D by simpa using hb]
            exact (s1.trans s3).free hD
    · obtain ⟨s3,ms,u3,u4,rfl,R,frs⟩:=h
      have e1:(zE n k).take (kP n k).length=zE n k:=List.take_of_length_le (by unfold zE;rw [List.length_map];exact Nat.le_refl _)
      rw [e1] at R
      have S3:=S.same s3
      have hp3:=s3 _ _ (s1 _ _ hp)
      have fs0:(xQ (.ref q) (.ref M))=jt7 "moves" (.ref M) (jt7 "sittings" (.ref q) []):=rfl
      refine ⟨_,rfl,_,rfl,p,_,dx,_,rfl,hp3,T.cl_Stays,T.no_Stays_sittings,(by show 0 < 1000;decide),?_⟩
      refine ⟨_,rfl,_,rfl,p,_,dx,_,rfl,jK,T.cl_Stays,T.no_Stays_moves,(by show 1 < 1000;decide),?_⟩
      have fr:∀ b o,H3 b=some o→b≠p→(upd (upd H3 p (.ins a.C_Stays dx (jt7 "sittings" (.ref q) []))) p (.ins a.C_Stays dx (xQ (.ref q) (.ref M)))) b=some o:=fun b o e hb=>by rw [jV hb,jV hb];exact e
      refine kk _ q M qs ms jK ⟨fr _ _ S3.lst (j1 S3.lst hp3 (fun z=>nomatch z)),S3.len,fun i b r h1 h2=>?_⟩ ⟨fr _ _ R.lst (j1 R.lst hp3 (fun z=>nomatch z)),R.len,fun i b r h1 h2=>?_⟩ (fun b o e hb=>fr b o (s3 _ _ (s1 _ _ e)) hb) hq (s1.free hM) frs
      · have e:=S3.at' i b r h1 h2
        exact fr _ _ e (j1 e hp3 (fun z=>nomatch z))
      · have e:=R.at' i b r h1 h2
        exact fr _ _ e (j1 e hp3 (fun z=>nomatch z))
end
def qI (r:List Nat):List Key:=r.map fun s:Nat=>(Sum.inl (s:Int):Key)
theorem wB (r:List Nat):(qI r).map kV=vNs r:=by unfold qI vNs;rw [List.map_map];rfl
theorem keyR_inj {r s:List Nat} (h:qI r=qI s):r=s:=by
  unfold qI at h
  exact List.map_inj_right (fun a b e=>by have:=Sum.inl.inj e;omega) |>.mp h
def z8 (rs:List (List Nat)) (bs:List Addr):List (List Key×V):=(rs.zip bs).map fun x=>(qI x.1,V.ref x.2)
theorem zG {rs:List (List Nat)} {bs:List Addr} (h:bs.length=rs.length):(z8 rs bs).length=rs.length:=by unfold z8;rw [List.length_map,List.length_zip];omega
theorem bQ {rs:List (List Nat)} {bs:List Addr} {i:Nat} {r:List Nat} {b:Addr} (h1:rs[i]? = some r) (h2:bs[i]? = some b):(z8 rs bs)[i]? = some (qI r,.ref b):=by
  unfold z8;rw [List.getElem?_map,(List.getElem?_zip_eq_some (z:=(r,b))).mpr ⟨h1,h2⟩];rfl
theorem uB:∀ {rs:List (List Nat)} {bs:List Addr} {i:Nat} {r:List Nat} {b:Addr},rs.Nodup→rs[i]? = some r→bs[i]? = some b→z9 (z8 rs bs) (qI r)=some (.ref b)
  | r0 :: rs,b0 :: bs,0,r,b,_,h1,h2=>by
    have h1:r0=r:=by simpa using h1
    have h2:b0=b:=by simpa using h2
    subst h1 h2
    unfold z9 z8
    rw [List.zip_cons_cons,List.map_cons,List.find?_cons,decide_eq_true rfl];rfl
  | r0 :: rs,b0 :: bs,i+1,r,b,nd,h1,h2=>by
    have h1:rs[i]? = some r:=by simpa using h1
    rw [List.nodup_cons] at nd
    have ih:=uB (bs:=bs) (b:=b) nd.2 h1 (by simpa using h2)
    exact (vZ (p:=(qI r0,V.ref b0)) (r:=z8 rs bs) (fun e=>nd.1 ((keyR_inj e:r0=r) ▸ List.mem_of_getElem? h1))).trans ih
  | [],_,_,_,_,_,h,_=>by simp at h
  | _ :: _,[],_,_,_,_,_,h=>by simp at h
theorem rC:∀ {rs:List (List Nat)} {bs:List Addr} {r:List Nat},r∉rs→z9 (z8 rs bs) (qI r)=none
  | [],bs,r,_=>by unfold z9 z8;simp
  | r0 :: rs,[],r,_=>by unfold z9 z8;simp
  | r0 :: rs,b0 :: bs,r,h=>by
    have ih:=rC (bs:=bs) (r:=r) (rs:=rs) fun z=>h (List.mem_cons_of_mem _ z)
    exact (vZ (p:=(qI r0,V.ref b0)) (r:=z8 rs bs) (fun e=>h ((keyR_inj e:r0=r) ▸ List.mem_cons_self))).trans ih
theorem sG {rs:List (List Nat)} {bs:List Addr} {r:List Nat} {b:Addr} (hl:bs.length=rs.length) (h:r∉rs):wL (z8 rs bs) (qI r) (.ref b)=z8 (rs++[r]) (bs++[b]):=by
  unfold wL
  rw [if_neg]
  · unfold z8;rw [List.zip_append hl.symm,List.map_append];rfl
  · unfold z8
    simp only [List.any_map,List.any_eq_true,Function.comp,decide_eq_true_eq,not_exists,not_and]
    intro x hx e
    exact h (keyR_inj e ▸ (List.of_mem_zip hx).1)
structure kU (a:Adr) (H:Hp) (d:Addr) (bs:List Addr) (rs:List (List Nat)) (f:List Nat→Nat×Nat):Prop where
  dic:H d=some (.dT (z8 rs bs))
  len:bs.length=rs.length
  at':∀ (i:Nat) (b:Addr) (r:List Nat),bs[i]? = some b→rs[i]? = some r→w4 a H b (f r)
theorem kU.same {a:Adr} {H H':Hp} {d:Addr} {bs:List Addr} {rs:List (List Nat)} {f:List Nat→Nat×Nat} (X:kU a H d bs rs f) (s:jG H H'):kU a H' d bs rs f:=⟨s _ _ X.dic,X.len,fun i b r h1 h2=>(X.at' i b r h1 h2).same s⟩
theorem kU.get {a:Adr} {H:Hp} {d:Addr} {bs:List Addr} {rs:List (List Nat)} {f:List Nat→Nat×Nat} (X:kU a H d bs rs f) (nd:rs.Nodup) {r:List Nat} (h:r∈rs):∃ b,z9 (z8 rs bs) (qI r)=some (.ref b)∧w4 a H b (f r):=by
  obtain ⟨i,hi,e⟩:=List.getElem_of_mem h
  have h1:rs[i]? = some r:=by rw [List.getElem?_eq_getElem hi,e]
  have h2:bs[i]? = some (bs[i]'(by rw [X.len];exact hi)):=List.getElem?_eq_getElem _
  exact ⟨_,uB nd h1 h2,X.at' i _ r h2 h1⟩
def jM (pt:List Nat→List Nat) (rs:List (List Nat)):List (List Nat):=rs.foldl (fun acc r=>if pt r∈acc then acc else acc++[pt r]) []
def wX (pt:List Nat→List Nat) (pr:List Nat→Nat) (rs:List (List Nat)) (p:List Nat):List Nat:=(rs.filter fun r=>decide (pt r=p)).map pr
section
variable {pt:List Nat→List Nat} {pr:List Nat→Nat}
theorem yD (rs:List (List Nat)) (r:List Nat):jM pt (rs++[r])=if pt r∈jM pt rs then jM pt rs else jM pt rs++[pt r]:=by unfold jM;rw [List.foldl_append];rfl
theorem yF:∀ (n:Nat) (rs:List (List Nat)),rs.length=n→(jM pt rs).Nodup∧∀ p,p∈jM pt rs↔∃ r∈rs,pt r=p
  | 0,rs,h=>by
    have:rs=[]:=List.length_eq_zero_iff.mp h
    subst this
    exact ⟨List.nodup_nil,fun p=>by simp [jM]⟩
  | n+1,rs,h=>by
    obtain ⟨r0,r,rfl⟩:∃ r0 r,rs=r0++[r]:=⟨rs.dropLast,rs.getLast (by intro e;rw [e] at h;cases h),(List.dropLast_concat_getLast _).symm⟩
    obtain ⟨nd,hm⟩:=yF n r0 (by rw [List.length_append] at h;simpa using h)
    rw [yD]
    by_cases hp:pt r∈jM pt r0
    · rw [if_pos hp]
      refine ⟨nd,fun p=>(hm p).trans ⟨fun ⟨x,hx,e⟩=>⟨x,List.mem_append_left _ hx,e⟩,fun ⟨x,hx,e⟩=>?_⟩⟩
      rcases List.mem_append.mp hx with hx | hx
      · exact ⟨x,hx,e⟩
      · rw [show x=r by simpa using hx] at e
        exact (hm p).mp (e ▸ hp)
    · rw [if_neg hp]
      refine ⟨?_,fun p=>?_⟩
      · rw [List.nodup_append]
        refine ⟨nd,by simp,fun x hx y hy e=>hp ?_⟩
        have hy:y=pt r:=by simpa using hy
        exact hy ▸ e ▸ hx
      · rw [List.mem_append,hm p]
        constructor
        · rintro (⟨x,hx,e⟩ | h)
          · exact ⟨x,List.mem_append_left _ hx,e⟩
          · exact ⟨r,by simp,(show p=pt r by simpa using h).symm⟩
        · rintro ⟨x,hx,e⟩
          rcases List.mem_append.mp hx with hx | hx
          · exact .inl ⟨x,hx,e⟩
          · rw [show x=r by simpa using hx] at e
            exact .inr (by simp [e])
theorem qB (rs:List (List Nat)):(jM pt rs).Nodup:=(yF _ rs rfl).1
theorem wZ {rs:List (List Nat)} {p:List Nat}:p∈jM pt rs↔∃ r∈rs,pt r=p:=(yF _ rs rfl).2 p
theorem xG (rs:List (List Nat)) (r p:List Nat):wX pt pr (rs++[r]) p=wX pt pr rs p++(if pt r=p then [pr r] else []):=by
  unfold wX
  rw [List.filter_append,List.map_append]
  congr 1
  by_cases h:pt r=p
  · simp [h]
  · simp [h]
theorem sC {rs:List (List Nat)} {p:List Nat} (h:p∉jM pt rs):wX pt pr rs p=[]:=by
  unfold wX
  rw [List.filter_eq_nil_iff.mpr]
  · rfl
  · intro x hx e
    exact h (wZ.mpr ⟨x,hx,by simpa using e⟩)
end
structure GD (H:Hp) (A:Addr) (bs:List Addr) (ps:List (List Nat)) (g:List Nat→List Nat):Prop where
  dic:H A=some (.dT (z8 ps bs))
  len:bs.length=ps.length
  nd:ps.Nodup
  bnd:bs.Nodup
  at':∀ (i:Nat) (b:Addr) (p:List Nat),bs[i]? = some b→ps[i]? = some p→H b=some (.lst (vNs (g p)))
theorem GD.keep {H H':Hp} {A:Addr} {bs:List Addr} {ps:List (List Nat)} {g:List Nat→List Nat} (X:GD H A bs ps g) (h:∀ b o,H b=some o→b=A∨b∈bs→H' b=some o):GD H' A bs ps g :=
  ⟨h _ _ X.dic (.inl rfl),X.len,X.nd,X.bnd,fun i b p h1 h2=>h _ _ (X.at' i b p h1 h2) (.inr (List.mem_of_getElem? h1))⟩
theorem GD.notA {H:Hp} {A:Addr} {bs:List Addr} {ps:List (List Nat)} {g:List Nat→List Nat} (X:GD H A bs ps g):A∉bs:=fun h=>by
  obtain ⟨i,hi,e⟩:=List.getElem_of_mem h
  have:=X.at' i A (ps[i]'(by rw [← X.len];exact hi)) (by rw [List.getElem?_eq_getElem hi,e]) (List.getElem?_eq_getElem _)
  rw [X.dic] at this;cases this
theorem GD.old {H:Hp} {A:Addr} {bs:List Addr} {ps:List (List Nat)} {g g':List Nat→List Nat} (X:GD H A bs ps g) {i:Nat} {b:Addr} {p:List Nat} {c:Nat} (h1:bs[i]? = some b) (h2:ps[i]? = some p) (hg:g' p=g p++[c]) (hg':∀ q,q≠p→g' q=g q) :
    GD (upd H b (.lst (vNs (g p)++[vN c]))) A bs ps g':=by
  refine ⟨by rw [jV (show A≠b from fun z=>X.notA (z ▸ List.mem_of_getElem? h1))];exact X.dic,X.len,X.nd,X.bnd,fun j b' q h3 h4=>?_⟩
  by_cases e:j=i
  · subst e
    rw [h1] at h3;cases h3
    rw [h2] at h4;cases h4
    rw [jK,hg];unfold vNs;rw [List.map_append];rfl
  · have nb:b'≠b:=fun z=>e (by
      obtain ⟨a1,a2⟩:=List.getElem?_eq_some_iff.mp h3
      obtain ⟨b1,b2⟩:=List.getElem?_eq_some_iff.mp h1
      exact (List.getElem_inj X.bnd).mp (a2.trans (z.trans b2.symm)))
    have np:q≠p:=fun z=>e (by
      obtain ⟨a1,a2⟩:=List.getElem?_eq_some_iff.mp h4
      obtain ⟨b1,b2⟩:=List.getElem?_eq_some_iff.mp h2
      exact (List.getElem_inj X.nd).mp (a2.trans (z.trans b2.symm)))
    rw [jV nb,hg' q np]
    exact X.at' j b' q h3 h4
theorem GD.new {H:Hp} {A e:Addr} {bs:List Addr} {ps:List (List Nat)} {g g':List Nat→List Nat} (X:GD H A bs ps g) (he:H e=none) {p:List Nat} {c:Nat} (hp:p∉ps) (hg:g' p=[c]) (hg':∀ q∈ps,g' q=g q) :
    GD (upd (upd (upd H e (.lst [])) A (.dT (wL (z8 ps bs) (qI p) (.ref e)))) e (.lst ([]++[vN c]))) A (bs++[e]) (ps++[p]) g':=by
  have eA:e≠A:=(jX X.dic he).symm
  have eb:e∉bs:=fun h=>by
    obtain ⟨i,hi,z⟩:=List.getElem_of_mem h
    have:=X.at' i e (ps[i]'(by rw [← X.len];exact hi)) (by rw [List.getElem?_eq_getElem hi,z]) (List.getElem?_eq_getElem _)
    rw [he] at this;cases this
  refine ⟨by rw [jV eA.symm,jK,sG X.len hp],by rw [List.length_append,List.length_append,X.len];rfl,?_,?_,fun j b q h1 h2=>?_⟩
  · rw [List.nodup_append]
    refine ⟨X.nd,by simp,fun x hx y hy z=>hp ?_⟩
    exact (show y=p by simpa using hy) ▸ z ▸ hx
  · rw [List.nodup_append]
    refine ⟨X.bnd,by simp,fun x hx y hy z=>eb ?_⟩
    exact (show y=e by simpa using hy) ▸ z ▸ hx
  · rcases Nat.lt_or_ge j bs.length with hj | hj
    · rw [List.getElem?_append_left hj] at h1
      rw [List.getElem?_append_left (by rw [← X.len];exact hj)] at h2
      have hb:=List.mem_of_getElem? h1
      rw [jV (show b≠e from fun z=>eb (z ▸ hb)),jV (show b≠A from fun z=>X.notA (z ▸ hb)),jV (show b≠e from fun z=>eb (z ▸ hb)),hg' q (List.mem_of_getElem? h2)]
      exact X.at' j b q h1 h2
    · rw [List.getElem?_append_right hj] at h1
      rw [List.getElem?_append_right (by rw [← X.len];exact hj),← X.len] at h2
      have ej:j - bs.length=0:=by
        cases z:j - bs.length with
        | zero=>rfl
        | succ m=>rw [z] at h1;simp at h1
      rw [ej] at h1 h2
      have h1:e=b:=by simpa using h1
      have h2:p=q:=by simpa using h2
      subst h1 h2
      rw [jK,hg];rfl
theorem kU.lock {a:Adr} {H:Hp} {d:Addr} {bs:List Addr} {rs:List (List Nat)} {f:List Nat→Nat×Nat} (X:kU a H d bs rs f) {b:Addr} {u o:HO} (hb:H b=some u) (h1:∀ C x f,u≠.ins C x f) (hne:d≠b):kU a (upd H b o) d bs rs f :=
  ⟨by rw [jV hne];exact X.dic,X.len,fun i c r e1 e2=>by
    obtain ⟨dx,e⟩:=X.at' i c r e1 e2
    exact ⟨dx,by rw [jV (j1 e hb fun z=>h1 _ _ _ z.symm)];exact e⟩⟩
theorem GD.mem {H:Hp} {A:Addr} {bs:List Addr} {ps:List (List Nat)} {g:List Nat→List Nat} (X:GD H A bs ps g) {b:Addr} (h:b∈bs):∃ l,H b=some (.lst l):=by
  obtain ⟨i,hi,e⟩:=List.getElem_of_mem h
  exact ⟨_,X.at' i b (ps[i]'(by rw [← X.len];exact hi)) (by rw [List.getElem?_eq_getElem hi,e]) (List.getElem?_eq_getElem _)⟩
theorem gX (pt:List Nat→List Nat):∀ (n:Nat) (rs:List (List Nat)),rs.length=n→(jM pt rs).length≤n
  | 0,rs,h=>by
    have:rs=[]:=List.length_eq_zero_iff.mp h
    subst this;exact Nat.le_refl _
  | n+1,rs,h=>by
    obtain ⟨r0,r,rfl⟩:∃ r0 r,rs=r0++[r]:=⟨rs.dropLast,rs.getLast (by intro e;rw [e] at h;cases h),(List.dropLast_concat_getLast _).symm⟩
    have:=gX pt n r0 (by rw [List.length_append] at h;simpa using h)
    rw [yD]
    split
    · omega
    · rw [List.length_append];simp;omega
theorem mW {α:Type} {l:List α} {j:Nat} {p:α} (nd:l.Nodup) (h:l[j]? = some p):p∉l.take j:=fun z=>by
  obtain ⟨i,hi,e⟩:=List.getElem_of_mem z
  rw [List.length_take] at hi
  rw [List.getElem_take] at e
  obtain ⟨hj,e2⟩:=List.getElem?_eq_some_iff.mp h
  have:=(List.getElem_inj nd).mp (e.trans e2.symm)
  omega
theorem kU.put {a:Adr} {H:Hp} {F b:Addr} {fb:List Addr} {ps:List (List Nat)} {p:List Nat} {g:List Nat→Nat×Nat} (X:kU a H F fb ps g) (hp:p∉ps) (L:w4 a H b (g p)):kU a (upd H F (.dT (wL (z8 ps fb) (qI p) (.ref b)))) F (fb++[b]) (ps++[p]) g:=by
  refine ⟨by rw [jK,sG X.len hp],by rw [List.length_append,List.length_append,X.len];rfl,fun i c r h1 h2=>?_⟩
  rcases Nat.lt_or_ge i fb.length with hi | hi
  · rw [List.getElem?_append_left hi] at h1
    rw [List.getElem?_append_left (by rw [← X.len];exact hi)] at h2
    obtain ⟨dx,e⟩:=X.at' i c r h1 h2
    exact ⟨dx,by rw [jV (j1 e X.dic (fun z=>nomatch z))];exact e⟩
  · rw [List.getElem?_append_right hi] at h1
    rw [List.getElem?_append_right (by rw [← X.len];exact hi),← X.len] at h2
    have ej:i - fb.length=0:=by
      cases z:i - fb.length with
      | zero=>rfl
      | succ m=>rw [z] at h1;simp at h1
    rw [ej] at h1 h2
    have h1:b=c:=by simpa using h1
    have h2:p=r:=by simpa using h2
    subst h1 h2
    obtain ⟨dx,e⟩:=L
    exact ⟨dx,by rw [jV (j1 e X.dic (fun z=>nomatch z))];exact e⟩
theorem aA {K:W.Frag} {H:Hp} {A tb lb C dx:Addr} {fs:List (Str×V)} {fld:Str} {bs:List Addr} {ps:List (List Nat)} {g g':List Nat→List Nat} {σ:L2.St} {D:lL} {i c:Nat} {p:List Nat} (G:GD H A bs ps g) (hi:σ[i]? = some (some (.ref A))) (h7:σ[7]? = some (some (.ref tb))) (h6:σ[6]? = some (some (.ref lb)))
    (et:H tb=some (.tup (vNs p))) (el:H lb=some (.ins C dx fs)) (cl:Cls K C) (na:vW K C fld) (lk:fs.lookup fld=some (vN c)) (hlen:ps.length < 100000) (hgl:∀ q∈ps,(g q).length < 100000) (hg:g' p=g p++[c]) (hg0:p∉ps→g p=[]) (hg':∀ q,q≠p→g' q=g q)
    (k:∀ (H':Hp) (bs':List Addr),GD H' A bs' (if p∈ps then ps else ps++[p]) g'→(∀ x o,H x=some o→x≠A→x∉bs→H' x=some o)→(∀ x∈bs',x∈bs∨H x=none)→D.nx σ H') :
    qT (tBM K "list" zS (oJ (j4 i) (j4 7) (dJ kN)) (jN (uQ K (j4 6) fld) kN)) D σ H:=by
  refine ⟨_,hi,A,rfl,.inr ⟨_,.inl G.dic⟩,_,h7,Nat.zero_le _,fun e he=>?_⟩
  have se:jG H (upd H e (.lst [])):=jG.new he
  have eA:e≠A:=(jX G.dic he).symm
  have eb:e∉bs:=fun h=>by
    obtain ⟨i,hi,z⟩:=List.getElem_of_mem h
    have:=G.at' i e (ps[i]'(by rw [← G.len];exact hi)) (by rw [List.getElem?_eq_getElem hi,z]) (List.getElem?_eq_getElem _)
    rw [he] at this;cases this
  refine ⟨z8 ps bs,qI p,tb,se _ _ G.dic,rfl,by rw [wB];exact se _ _ et,by rw [zG G.len,sizeLine_eq];omega,fun v hv=>?_,fun hv=>?_⟩
  · have hp:p∈ps:=by
      by_cases z:p∈ps
      · exact z
      · rw [rC z] at hv;cases hv
    obtain ⟨j,hj,ej⟩:=List.getElem_of_mem hp
    have h2:ps[j]? = some p:=by rw [List.getElem?_eq_getElem hj,ej]
    obtain ⟨b,h1⟩:∃ b,bs[j]? = some b:=⟨_,List.getElem?_eq_getElem (by rw [G.len];exact hj)⟩
    rw [uB G.nd h2 h1] at hv
    cases hv
    have hb:=G.at' j b p h1 h2
    have be:b≠e:=jX hb he
    refine ⟨.inl ⟨rfl,_,SqL.of (se _ _ hb)⟩,_,h6,lb,C,dx,fs,vN c,rfl,se _ _ el,cl,na,lk,b,_,_,rfl,rfl,se _ _ hb,?_,?_⟩
    · unfold vNs;rw [List.length_map,sizeLine_eq];have:=hgl p hp;omega
    · refine k _ bs ?_ (fun x o hx hA hn=>?_) (fun x hx=>.inl hx)
      · rw [if_pos hp]
        exact (G.keep (H':=upd H e (.lst [])) fun b o z _=>se _ _ z).old h1 h2 hg hg'
      · rw [jV (show x≠b from fun z=>hn (z ▸ List.mem_of_getElem? h1))]
        exact se _ _ hx
  · have hp:p∉ps:=fun z=>by
      obtain ⟨j,hj,ej⟩:=List.getElem_of_mem z
      rw [uB G.nd (i:=j) (b:=bs[j]'(by rw [G.len];exact hj)) (by rw [List.getElem?_eq_getElem hj,ej]) (List.getElem?_eq_getElem _)] at hv
      cases hv
    have lA:lb≠A:=j1 el G.dic (fun z=>nomatch z)
    refine ⟨.inl ⟨rfl,[],SqL.of (by rw [jV eA,jK])⟩,_,h6,lb,C,dx,fs,vN c,rfl,by rw [jV lA];exact se _ _ el,cl,na,lk,e,[],_,rfl,rfl,by rw [jV eA,jK],by rw [sizeLine_eq];decide,?_⟩
    refine k _ (bs++[e]) ?_ (fun x o hx hA hn=>?_) (fun x hx=>?_)
    · rw [if_neg hp]
      exact G.new he hp (by rw [hg,hg0 hp];rfl) (fun q hq=>hg' q fun z=>hp (z ▸ hq))
    · rw [jV (jX hx he),jV hA]
      exact se _ _ hx
    · rcases List.mem_append.mp hx with hx | hx
      · exact .inl hx
      · rw [show x=e by simpa using hx];exact .inr he
section
variable {P:Program} {w:World} {K:W.Frag} {mg:Str→Option Value} {base:Heap} {a:Adr}
def yE (pt:List Nat→List Nat) (f:List Nat→Nat×Nat) (rs:List (List Nat)) (p:List Nat):Nat×Nat:=dO (wX pt (fun r=>(f r).1) rs p) (wX pt (fun r=>(f r).2) rs p)
def sP (a:Adr):Sp:=fun vs H Q _=>∃ (d q u:Addr) (bs:List Addr) (rs:List (List Nat)) (f:List Nat→Nat×Nat) (ab sm:List Nat),vs=[.ref d,.ref q,.ref u]∧kU a H d bs rs f∧H q=some (.lst (vNs ab))∧H u=some (.lst (vNs sm))∧rs.length≤3125∧ab.length≤1000 ∧
  ∀ (H':Hp) (F:Addr) (bs':List Addr),jG H H'→H F=none→kU a H' F bs' (jM (fun r=>kW r ab sm) rs) (yE (fun r=>kW r ab sm) f rs)→Q (.ref F) H'
theorem jbX:jD ["table","aboard","some","prices","ways","sitting","least","part","found"] ["table","aboard","some"] (jW jyY):=⟨rfl,rfl,rfl,by decide +kernel,rfl,by decide +kernel,by decide +kernel⟩
theorem jf0 (T:Txt K mg a):vA P w K mg base CX0 5 a.f_xa a.d_xa ["table","aboard","some"] (sP a):=by
  have nd:=jbX.nd
  have G_qz:=(jhY (P:=P) (w:=w) (base:=base) T).mono (k:=4) (by decide)
  have G_qv:=(jhQ (P:=P) (w:=w) (base:=base) T).mono (k:=4) (by decide)
  refine T.F_xa.ok jbX (fun vs H Q E h=>?_) (fun cdv A outer s H vs Q E hr h=>?_)
  · obtain ⟨d,q,u,bs,rs,f,ab,sm,rfl,X,hq,hsm,hrs,hab,kk⟩:=h
    rfl
  · obtain ⟨d,q,u,bs,rs,f,ab,sm,rfl,X,hq,hsm,hrs,hab,kk⟩:=h
    have hu:=kE hr
    refine ⟨_,(jZ (kJ 3 nd wR)
(jZ (kJ 4 nd wR)
(jZ (mD (yR (iF (pv 0)) (pgt K 2 (j9 (pgn 5 nd) (j9 (pgn 6 nd) z6)))
(jZ (kJ 7 nd (jP G_qz hr rfl T.g_qz T.F_qz.kp T.b_qz .nil jU (jJ (pv 5) (jJ (pv 1) (jJ (pv 2) jQ)))))
(jZ (vP (qC PySem.F.plainAttrs_list PySem.F.slot_list_append PySem.F.type_list_append vD (rX hu (pv 3) (pv 7) (kR jQ) ⟨rfl,rfl,rfl,rfl⟩) (jJ (zJ K (pv 6)) jQ)))
(jY (vP (qC PySem.F.plainAttrs_list PySem.F.slot_list_append PySem.F.type_list_append vD (rX hu (pv 4) (pv 7) (kR jQ) ⟨rfl,rfl,rfl,rfl⟩) (jJ (zJ K (pv 6)) jQ))))))))
(jZ (kJ 8 nd wR)
(jZ (mD (yR (gH (pv 3)) (pgn 7 nd)
(jY (yC hu (pv 8) (pv 7) (jP G_qv hr rfl T.g_qv T.F_qv.kp T.b_qv .nil jU (jJ (vI hu (pv 3) (pv 7) (fun _ _=>rfl)) (jJ (vI hu (pv 4) (pv 7) (fun _ _=>rfl)) jQ))) rfl))))
(jY (jC (pv 8)))))))),?_⟩
    rw [show j7 ["table","aboard","some","prices","ways","sitting","least","part","found"] [.ref d,.ref q,.ref u]=[some (.ref d),some (.ref q),some (.ref u),none,none,none,none,none,none] from rfl]
    simp only [zH,wI,rL,jI,kO,jq2,uN,zU,j4,zQ,List.set_cons_succ,List.set_cons_zero,eJ,List.getElem?_cons_zero,Option.some.injEq,exists_and_left,exists_eq_left',V.ref.injEq]
    intro A hA B hB
    have sA:jG H (upd H A (.dT [])):=jG.new hA
    have sB:jG (upd H A (.dT [])) (upd (upd H A (.dT [])) B (.dT [])):=jG.new (by rw [jV hB.1];exact hB.2)
    have dA:d≠A:=jX X.dic hA
    have dB:d≠B:=jX X.dic hB.2
    refine ⟨d,_,sB _ _ (sA _ _ X.dic),trivial,fun od=>⟨od,z8 rs bs,jK,?_⟩⟩
    obtain ⟨H0,eH0⟩:∃ H0,H0=upd H d (.frz od (.dT (z8 rs bs))):=⟨_,rfl⟩
    have hz:H0 d=some (.frz od (.dT (z8 rs bs))):=by rw [eH0,jK]
    have nz:∀ b,b≠d→H0 b=H b:=fun b hb=>by rw [eH0,jV hb]
    have s1:jG H0 (upd (upd (upd H A (.dT [])) B (.dT [])) d (.frz od (.dT (z8 rs bs)))):=fun b o e=>by
      by_cases hb:b=d
      · subst hb;rw [jK,← hz,e]
      · rw [nz b hb] at e;rw [jV hb];exact sB _ _ (sA _ _ e)
    have X0:∀ (i:Nat) (b:Addr) (r:List Nat),bs[i]? = some b→rs[i]? = some r→w4 a H0 b (f r):=fun i b r h1 h2=>by
      obtain ⟨dx,e⟩:=X.at' i b r h1 h2
      exact ⟨dx,by rw [nz b (j1 e X.dic (fun z=>nomatch z))];exact e⟩
    have hq0:H0 q=some (.lst (vNs ab)):=by rw [nz q (j1 hq X.dic (fun z=>nomatch z))];exact hq
    have hsm0:H0 u=some (.lst (vNs sm)):=by rw [nz u (j1 hsm X.dic (fun z=>nomatch z))];exact hsm
    have hA0:H0 A=none:=by rw [nz A dA.symm];exact hA
    have hB0:H0 B=none:=by rw [nz B dB.symm];exact hB.2
    have gA:GD (upd (upd (upd H A (.dT [])) B (.dT [])) d (.frz od (.dT (z8 rs bs)))) A [] [] fun _=>[]:=⟨by rw [jV dA.symm,jV hB.1.symm,jK];rfl,rfl,List.nodup_nil,List.nodup_nil,fun i b p h=>by simp at h⟩
    have gB:GD (upd (upd (upd H A (.dT [])) B (.dT [])) d (.frz od (.dT (z8 rs bs)))) B [] [] fun _=>[]:=⟨by rw [jV dB.symm,jK];rfl,rfl,List.nodup_nil,List.nodup_nil,fun i b p h=>by simp at h⟩
    generalize upd (upd (upd H A (.dT [])) B (.dT [])) d (.frz od (.dT (z8 rs bs)))=H1 at s1 gA gB
    generalize hpt:(fun r=>kW r ab sm)=pt at kk
    refine tG (J:=jp8 d od (z8 rs bs)) (n:=rs.length) (fun j σ H'=>jG H0 H'∧∃ (pl wl:List Addr) (u5 u6 u7:Option V),σ=[some (.ref d),some (.ref q),some (.ref u),some (.ref A),some (.ref B),u5,u6,u7,none]∧GD H' A pl (jM pt (rs.take j)) (wX pt (fun r=>(f r).1) (rs.take j))∧GD H' B wl (jM pt (rs.take j)) (wX pt (fun r=>(f r).2) (rs.take j))∧(∀ b∈pl,H0 b=none)∧(∀ b∈wl,H0 b=none)∧(∀ b∈pl,b∉wl)) ⟨s1,[],[],none,none,none,rfl,gA,gB,by simp,by simp,by simp⟩ (fun j σ H' hj h=>⟨h.1 _ _ hz,by rw [zG X.len];exact hj⟩) (fun σ H' h=>⟨h.1 _ _ hz,by rw [zG X.len];exact Nat.le_refl _⟩) (fun j σ H' x H2 hj h hy=>?_) (fun σ H' h=>?_)
    · obtain ⟨T',qk,k,v,hkv,rfl,hqk,hT,rfl⟩:=hy
      obtain ⟨s2,pl,wl,u5,u6,u7,rfl,GA,GB,fp,fw,dj⟩:=h
      obtain ⟨r,hr'⟩:∃ r,rs[j]? = some r:=⟨_,List.getElem?_eq_getElem hj⟩
      obtain ⟨b,hb'⟩:∃ b,bs[j]? = some b:=⟨_,List.getElem?_eq_getElem (by rw [X.len];exact hj)⟩
      rw [bQ hr' hb'] at hkv
      obtain ⟨rfl,rfl⟩:qI r=k∧V.ref b=v:=by simpa using hkv
      rw [wB] at hqk
      obtain ⟨dxb,eb⟩:=X0 j b r hb' hr'
      have sT:jG H' (upd H' T' (.tup [.ref qk,.ref b])):=jG.new hT
      refine ⟨T',_,rfl,SqT.of jK,rfl,?_⟩
      simp only [xA,List.cons.injEq,jI,aL,zH,wI,vG,jN,j4,List.set_cons_succ,List.set_cons_zero,List.getElem?_cons_succ,List.getElem?_cons_zero,Option.some.injEq,kN,List.append_nil,exists_eq_left',and_assoc,exists_and_left,true_and]
      refine ⟨qk,q,u,r,ab,sm,rfl,sT _ _ hqk,sT _ _ (s2 _ _ hq0),sT _ _ (s2 _ _ hsm0),hab,fun H3 tb s3 htb e3=>?_⟩
      have s23:jG H' H3:=sT.trans s3
      have ept:kW r ab sm=pt r:=by rw [← hpt]
      rw [ept] at e3
      have GA3:=GA.keep (H':=H3) fun b o e _=>s23 _ _ e
      have GB3:=GB.keep (H':=H3) fun b o e _=>s23 _ _ e
      have eb3:=s23 _ _ (s2 _ _ eb)
      have s03:=s2.trans s23
      clear GA GB
      have hlp:(jM pt (rs.take j)).length < 100000:=Nat.lt_of_le_of_lt (gX pt _ _ rfl) (by rw [List.length_take];omega)
      have etk:rs.take (j+1)=rs.take j++[r]:=by rw [List.take_add_one,hr'];rfl
      have hsl:∀ (pr:List Nat→Nat) (q:List Nat),(wX pt pr (rs.take j) q).length < 100000:=fun pr q=>by
        unfold wX;rw [List.length_map]
        have:=List.length_filter_le (fun r=>decide (pt r=q)) (rs.take j)
        rw [List.length_take] at this;omega
      refine aA (g':=wX pt (fun r=>(f r).1) (rs.take (j+1))) (p:=pt r) (c:=(f r).1) GA3 rfl rfl rfl e3 eb3 T.cl_Least T.no_Least_price k8 hlp (fun q _=>hsl _ q) (by rw [etk,xG,if_pos rfl]) (fun h=>sC h) (fun q h=>by rw [etk,xG,if_neg (Ne.symm h),List.append_nil]) (fun H4 pl' G4 k4 n4=>?_)
      have nBA:B∉pl:=fun z=>by
        obtain ⟨i,hi,e⟩:=List.getElem_of_mem z
        have:=GA3.at' i B ((jM pt (rs.take j))[i]'(by rw [← GA3.len];exact hi)) (by rw [List.getElem?_eq_getElem hi,e]) (List.getElem?_eq_getElem _)
        rw [GB3.dic] at this;cases this
      have nAB:A∉wl:=fun z=>by
        obtain ⟨i,hi,e⟩:=List.getElem_of_mem z
        have:=GB3.at' i A ((jM pt (rs.take j))[i]'(by rw [← GB3.len];exact hi)) (by rw [List.getElem?_eq_getElem hi,e]) (List.getElem?_eq_getElem _)
        rw [GA3.dic] at this;cases this
      have GB4:GD H4 B wl (jM pt (rs.take j)) (wX pt (fun r=>(f r).2) (rs.take j)):=GB3.keep fun x o e hx=>by
        rcases hx with rfl | hx
        · exact k4 _ _ e hB.1 nBA
        · exact k4 _ _ e (fun z=>nAB (z ▸ hx)) (fun z=>dj x z hx)
      have keep4:∀ x o,H0 x=some o→H4 x=some o:=fun x o e=>k4 _ _ (s03 _ _ e) (jX e hA0) (fun z=>by rw [fp x z] at e;cases e)
      have e34:H4 tb=some (.tup (vNs (pt r))):=k4 _ _ e3 (j1 e3 GA3.dic (fun z=>nomatch z)) (fun z=>by
        obtain ⟨i,hi,e⟩:=List.getElem_of_mem z
        have:=GA3.at' i tb ((jM pt (rs.take j))[i]'(by rw [← GA3.len];exact hi)) (by rw [List.getElem?_eq_getElem hi,e]) (List.getElem?_eq_getElem _)
        rw [e3] at this;cases this)
      refine aA (g':=wX pt (fun r=>(f r).2) (rs.take (j+1))) (p:=pt r) (c:=(f r).2) GB4 rfl rfl rfl e34 (keep4 _ _ eb) T.cl_Least T.no_Least_ways v8 hlp (fun q _=>hsl _ q) (by rw [etk,xG,if_pos rfl]) (fun h=>sC h) (fun q h=>by rw [etk,xG,if_neg (Ne.symm h),List.append_nil]) (fun H5 wl' G5 k5 n5=>?_)
      rw [← yD,← etk] at G4 G5
      have off:∀ x∈pl',x≠B∧x∉wl:=fun x hx=>by
        rcases n4 x hx with h | h
        · exact ⟨fun z=>nBA (z ▸ h),dj x h⟩
        · refine ⟨fun z=>?_,fun z=>?_⟩
          · rw [z,GB3.dic] at h;cases h
          · obtain ⟨l,e⟩:=GB3.mem z
            rw [h] at e;cases e
      refine ⟨fun x o e=>k5 _ _ (keep4 _ _ e) (jX e hB0) (fun z=>by rw [fw x z] at e;cases e),pl',wl',_,_,_,rfl,?_,G5,?_,?_,?_⟩
      · refine G4.keep fun x o e hx=>?_
        rcases hx with rfl | hx
        · exact k5 _ _ e hB.1.symm nAB
        · exact k5 _ _ e (off x hx).1 (off x hx).2
      · intro x hx
        rcases n4 x hx with h | h
        · exact fp x h
        · exact s03.free h
      · intro x hx
        rcases n5 x hx with h | h
        · exact fw x h
        · cases e:H0 x with
          | none=>rfl
          | some o=>rw [keep4 _ _ e] at h;cases h
      · intro x hx hw
        rcases n5 x hw with h | h
        · exact (off x hx).2 h
        · obtain ⟨l,e⟩:=G4.mem hx
          rw [h] at e;cases e
    · obtain ⟨s2,pl,wl,u5,u6,u7,rfl,GA,GB,fp,fw,dj⟩:=h
      rw [List.take_of_length_le (Nat.le_refl _)] at GA GB
      simp only [tF,j4,List.set_cons_succ,List.set_cons_zero,List.getElem?_cons_succ,List.getElem?_cons_zero,Option.some.injEq,exists_and_left,exists_eq_left',V.ref.injEq]
      refine ⟨s2 _ _ hz,fun F hF=>?_⟩
      have kd:∀ x o,H' x=some o→(∀ o' u',o≠.frz o' u')→upd H' d (.dT (z8 rs bs)) x=some o:=fun x o e n=>by rw [jV (j1 e (s2 _ _ hz) (n _ _))];exact e
      have sU:jG H (upd H' d (.dT (z8 rs bs))):=jG.unlock X.dic (by rw [← eH0];exact s2)
      have hFu:upd H' d (.dT (z8 rs bs)) F=none:=by rw [jV hF.1];exact hF.2
      have GA2:GD (upd H' d (.dT (z8 rs bs))) A pl _ _:=GA.keep fun x o e hx=>by
        rcases hx with rfl | hx
        · rw [GA.dic] at e;cases e;exact kd _ _ GA.dic (fun _ _ z=>nomatch z)
        · obtain ⟨l,e2⟩:=GA.mem hx
          rw [e2] at e;cases e;exact kd _ _ e2 (fun _ _ z=>nomatch z)
      have GB2:GD (upd H' d (.dT (z8 rs bs))) B wl _ _:=GB.keep fun x o e hx=>by
        rcases hx with rfl | hx
        · rw [GB.dic] at e;cases e;exact kd _ _ GB.dic (fun _ _ z=>nomatch z)
        · obtain ⟨l,e2⟩:=GB.mem hx
          rw [e2] at e;cases e;exact kd _ _ e2 (fun _ _ z=>nomatch z)
      have hAU:H A=none:=hA
      generalize upd H' d (.dT (z8 rs bs))=HU at sU hFu GA2 GB2
      clear GA GB kd
      have sF:jG HU (upd HU F (.dT [])):=jG.new hFu
      have FA:F≠A:=(jX GA2.dic hFu).symm
      refine ⟨A,_,sF _ _ GA2.dic,trivial,fun od2=>⟨od2,.inr ⟨_,jK,?_⟩⟩⟩
      obtain ⟨HB,eHB⟩:∃ HB,HB=upd HU A (.frz od2 (.dT (z8 (jM pt rs) pl))):=⟨_,rfl⟩
      have hz2:HB A=some (.frz od2 (.dT (z8 (jM pt rs) pl))):=by rw [eHB,jK]
      have nz2:∀ b,b≠A→HB b=HU b:=fun b hb=>by rw [eHB,jV hb]
      have sB2:jG HB (upd (upd HU F (.dT [])) A (.frz od2 (.dT (z8 (jM pt rs) pl)))):=fun b o e=>by
        by_cases hb:b=A
        · subst hb;rw [jK,← hz2,e]
        · rw [nz2 b hb] at e;rw [jV hb];exact sF _ _ e
      have hFB:HB F=none:=by rw [nz2 F FA];exact hFu
      have hFd:upd (upd HU F (.dT [])) A (.frz od2 (.dT (z8 (jM pt rs) pl))) F=some (.dT []):=by rw [jV FA,jK]
      have lA:∀ (i:Nat) (b:Addr) (p:List Nat),pl[i]? = some b→(jM pt rs)[i]? = some p→HB b=some (.lst (vNs (wX pt (fun r=>(f r).1) rs p))):=fun i b p h1 h2=>by rw [nz2 b (fun z=>GA2.notA (z ▸ List.mem_of_getElem? h1))];exact GA2.at' i b p h1 h2
      have lB:∀ (i:Nat) (b:Addr) (p:List Nat),wl[i]? = some b→(jM pt rs)[i]? = some p→HB b=some (.lst (vNs (wX pt (fun r=>(f r).2) rs p))):=fun i b p h1 h2=>by
        have e:=GB2.at' i b p h1 h2
        rw [nz2 b (j1 e GA2.dic (fun z=>nomatch z))];exact e
      have dB2:HB B=some (.dT (z8 (jM pt rs) wl)):=by rw [nz2 B hB.1];exact GB2.dic
      generalize upd (upd HU F (.dT [])) A (.frz od2 (.dT (z8 (jM pt rs) pl)))=HC at sB2 hFd
      have hpl:(jM pt rs).length≤3125:=Nat.le_trans (gX pt _ _ rfl) hrs
      refine tG (J:=jp9 A od2 (z8 (jM pt rs) pl)) (n:=(jM pt rs).length) (fun j σ H'=>jG HB H'∧∃ (fb:List Addr) (u7:Option V),σ=[some (.ref d),some (.ref q),some (.ref u),some (.ref A),some (.ref B),u5,u6,u7,some (.ref F)]∧kU a H' F fb ((jM pt rs).take j) (yE pt f rs)) ⟨sB2,[],u7,rfl,hFd,rfl,fun i b r h=>by simp at h⟩ (fun j σ H' hj h=>⟨h.1 _ _ hz2,by rw [zG GA2.len];exact hj⟩) (fun σ H' h=>⟨h.1 _ _ hz2,by rw [zG GA2.len];exact Nat.le_refl _⟩) (fun j σ H4 x H5 hj h hy=>?_) (fun σ H4 h=>?_)
      · obtain ⟨rfl,k,v,qk,hkv,rfl,hqk⟩:=hy
        obtain ⟨s4,fb,u7',rfl,TF⟩:=h
        obtain ⟨p,hp⟩:∃ p,(jM pt rs)[j]? = some p:=⟨_,List.getElem?_eq_getElem hj⟩
        obtain ⟨b1,hb1⟩:∃ b,pl[j]? = some b:=⟨_,List.getElem?_eq_getElem (by rw [GA2.len];exact hj)⟩
        obtain ⟨b2,hb2⟩:∃ b,wl[j]? = some b:=⟨_,List.getElem?_eq_getElem (by rw [GB2.len];exact hj)⟩
        rw [bQ hp hb1] at hkv
        obtain ⟨rfl,rfl⟩:qI p=k∧V.ref b1=v:=by simpa using hkv
        simp only [jI,t9,vG,jN,yM,j4,List.set_cons_succ,List.set_cons_zero,List.getElem?_cons_succ,List.getElem?_cons_zero,Option.some.injEq,kN,List.append_nil,List.cons.injEq,and_true,true_and,exists_eq_left',exists_and_left,V.ref.injEq]
        obtain ⟨r,hr1,hr2⟩:=wZ.mp (List.mem_of_getElem? hp)
        have hne:∀ pr:List Nat→Nat,wX pt pr rs p≠[]:=fun pr z=>by
          unfold wX at z
          have hm:r∈rs.filter fun r=>decide (pt r=p):=List.mem_filter.mpr ⟨hr1,by simpa using hr2⟩
          rw [List.map_eq_nil_iff] at z
          rw [z] at hm;cases hm
        have hll:∀ pr:List Nat→Nat,(wX pt pr rs p).length=(rs.filter fun r=>decide (pt r=p)).length:=fun pr=>by unfold wX;rw [List.length_map]
        have hlf:=List.length_filter_le (fun r=>decide (pt r=p)) rs
        refine ⟨.ref b1,.inr ⟨_,qI p,qk,.inr ⟨od2,s4 _ _ hz2⟩,rfl,hqk,(uB (qB rs) hp hb1).symm⟩,.ref b2,.inr ⟨_,qI p,qk,.inl (s4 _ _ dB2),rfl,hqk,(uB (qB rs) hp hb2).symm⟩,b1,b2,_,_,rfl,s4 _ _ (lA j b1 p hb1 hp),s4 _ _ (lB j b2 p hb2 hp),hne _,by rw [hll,hll],by rw [hll];omega,fun H6 b s6 hb L=>?_⟩
        have TF6:=TF.same s6
        have htk:(jM pt rs).take (j+1)=(jM pt rs).take j++[p]:=by rw [List.take_add_one,hp];rfl
        refine ⟨_,lR.t (k:=qI p) TF6.dic (s6 _ _ hqk) (by rw [zG TF6.len,List.length_take,sizeLine_eq];omega),?_,fb++[b],?_⟩
        · intro x o e
          rw [jV (jX e hFB)]
          exact s6 _ _ (s4 _ _ e)
        · rw [htk]
          exact TF6.put (mW (qB rs) hp) L
      · obtain ⟨s4,fb,u7',rfl,TF⟩:=h
        rw [List.take_of_length_le (Nat.le_refl _)] at TF
        refine ⟨s4 _ _ hz2,_,rfl,?_⟩
        refine kk _ F fb (sU.trans (jG.unlock GA2.dic (by rw [← eHB];exact s4))) (sU.free hFu) ?_
        exact TF.lock (s4 _ _ hz2) (fun _ _ _ z=>nomatch z) FA
end
theorem yP (n:Nat):∀ k,(kP n k).Nodup
  | 0=>by simp [kP]
  | k+1=>by
    have ih:=yP n k
    show (ext n (kP n k)).Nodup
    unfold ext
    rw [List.Nodup,List.pairwise_flatMap]
    refine ⟨fun r _=>?_,?_⟩
    · refine List.Pairwise.map _ (fun x y h e=>h ?_) (List.Nodup.sublist (l₁:=(List.range n).filter fun s=>!decide (s∈r)) List.filter_sublist List.nodup_range)
      simpa using e
    · refine List.Pairwise.imp ?_ ih
      intro r s hrs x hx y hy e
      obtain ⟨u,_,rfl⟩:=List.mem_map.mp hx
      obtain ⟨v,_,rfl⟩:=List.mem_map.mp hy
      exact hrs (List.append_inj_left' e rfl)
theorem jrQ {K:W.Frag} {H:Hp} {p q:Addr} {as bs:List V} {κ μ:Bool} {i:Nat} (hp:SqA K H p as κ) (hq:SqA K H q bs μ) (hi:i < as.length) (hi':i < bs.length):(oC K p q κ μ).go i H :=
  ⟨_,_,as[i],bs[i],hp,hq,List.getElem?_eq_getElem hi,List.getElem?_eq_getElem hi'⟩
theorem oB {K:W.Frag} {H:Hp} {p q:Addr} {as bs:List V} {κ μ:Bool} (hp:SqA K H p as κ) (hq:SqA K H q bs μ) {n:Nat} (hn:n=as.length):(oC K p q κ μ).stop n H :=
  ⟨_,_,hp,hq,by omega⟩
theorem jz5 {K:W.Frag} {H H':Hp} {p q:Addr} {as bs:List V} {κ μ:Bool} {i:Nat} {x y z:V} (hp:SqA K H p as κ) (hq:SqA K H q bs μ) (h1:as[i]? = some y) (h2:bs[i]? = some z) (hy:(oC K p q κ μ).yld i H x H') :
    ∃ (T:Addr),x=.ref T∧H T=none∧H'=upd H T (.tup [y,z]):=by
  obtain ⟨T,x1,x2,rfl,hT,rfl,e1,e2⟩:=hy
  have e1:=e1 _ hp
  have e2:=e2 _ hq
  rw [h1] at e1;rw [h2] at e2
  cases e1;cases e2
  exact ⟨T,rfl,hT,rfl⟩
structure qK (a:Adr) (H:Hp) (p:Addr) (n k:Nat):Prop where
  ex:∃ (dx sq mq:Addr) (qs ms:List Addr),H p=some (.ins a.C_Stays dx (xQ (.ref sq) (.ref mq)))∧g7 H sq qs (kP n k)∧vM H mq ms (zE n k)
theorem qK.same {a:Adr} {H H':Hp} {p:Addr} {n k:Nat} (X:qK a H p n k) (s:jG H H'):qK a H' p n k :=
  let ⟨dx,sq,mq,qs,ms,e,S,R⟩:=X.ex;⟨dx,sq,mq,qs,ms,s _ _ e,S.same s,R.same s⟩
def wmv (mv:Nat) (f:List Nat→Nat×Nat) (rs:List (List Nat)) (r:List Nat):Nat×Nat:=dO (rs.map fun s=>(f s).1+mv * mvCount r s) (rs.map fun s=>(f s).2)
section
variable {P:Program} {w:World} {K:W.Frag} {mg:Str→Option Value} {base:Heap} {a:Adr}
def sN (a:Adr):Sp:=fun vs H Q _=>∃ (p d:Addr) (mv n k:Nat) (bs:List Addr) (rs:List (List Nat)) (f:List Nat→Nat×Nat),vs=[.int mv,.ref p,.ref d]∧qK a H p n k∧kU a H d bs rs f∧rs.Nodup∧(∀ r∈kP n k,r∈rs)∧n≤5∧k≤5∧mv≤10000 ∧
  ∀ (H':Hp) (F:Addr) (bs':List Addr),jG H H'→H F=none→kU a H' F bs' (kP n k) (wmv mv f (kP n k))→Q (.ref F) H'
theorem jbY:jD ["move","stays","behind","prices","sitting","ways","found","row","price","moves"] ["move","stays","behind"] (jW jx0):=⟨rfl,rfl,rfl,by decide +kernel,rfl,by decide +kernel,by decide +kernel⟩
theorem jmW (T:Txt K mg a):vA P w K mg base CX0 5 a.f_xb a.d_xb ["move","stays","behind"] (sN a):=by
  have nd:=jbY.nd
  have G_qv:=(jhQ (P:=P) (w:=w) (base:=base) T).mono (k:=4) (by decide)
  refine T.F_xb.ok jbY (fun vs H Q E h=>?_) (fun cdv A outer s H vs Q E hr h=>?_)
  · obtain ⟨p,d,mv,n,k,bs,rs,f,rfl,St,X,nd2,hsub,hn,hk,hmv,kk⟩:=h
    rfl
  · obtain ⟨p,d,mv,n,k,bs,rs,f,rfl,St,X,nd2,hsub,hn,hk,hmv,kk⟩:=h
    have hu:=kE hr
    refine ⟨_,(jZ (jd4 3 [("sitting",4)] nd (v3 (zJ K (pv 1))) (by intro _ _ _ _ _;exact (pgn 4 nd)) (by intro _ _ _ _ _;exact v4) (by intro _ _ _ _ _;exact (zJ K (vI hu (pv 2) (pv 4) (fun _ _=>rfl)))))
(jZ (jd4 5 [("sitting",4)] nd (v3 (zJ K (pv 1))) (by intro _ _ _ _ _;exact (pgn 4 nd)) (by intro _ _ _ _ _;exact v4) (by intro _ _ _ _ _;exact (zJ K (vI hu (pv 2) (pv 4) (fun _ _=>rfl)))))
(jZ (kJ 6 nd wR)
(jZ (yR (yB true true rfl T.n_zip (jJ (zJ K (pv 1)) (jJ (zJ K (pv 1)) jQ))) (pgt K 2 (j9 (pgn 4 nd) (j9 (pgn 7 nd) z6)))
(jY (yC hu (pv 6) (pv 4) (jP G_qv hr rfl T.g_qv T.F_qv.kp T.b_qv .nil jU (jJ (plc [("price",8),("moves",9)] nd (yB true true rfl T.n_zip (jJ (pv 3) (jJ (pv 7) jQ))) (by intro _ _ _ _ _;exact (pgt K 2 (j9 (pgn 8 nd) (j9 (pgn 9 nd) z6)))) (by intro _ _ _ _ _;exact v4) (by intro _ _ _ _ _;exact (zK zX (pv 8) (zK rZ (pv 0) (pv 9))))) (jJ (pv 5) jQ))) rfl)))
(jY (jC (pv 6))))))),?_⟩
    rw [show j7 ["move","stays","behind","prices","sitting","ways","found","row","price","moves"] [.int mv,.ref p,.ref d]=[some (.int mv),some (.ref p),some (.ref d),none,none,none,none,none,none,none] from rfl]
    obtain ⟨dx,sq,mq,qs,ms,hp,S,R⟩:=St.ex
    simp only [zH,wI,uN,List.map_cons,List.map_nil,jI,List.set_cons_succ,List.set_cons_zero,rL,zQ,p3,jN,uQ,j4,List.getElem?_cons_succ,List.getElem?_cons_zero,Option.some.injEq,kN,List.cons.injEq,and_true,and_assoc,exists_and_left,exists_eq_left',V.ref.injEq,vX,yZ]
    have hfew:(kP n k).length≤3125:=wP hn hk
    refine ⟨_,_,_,hp,T.cl_Stays,T.no_Stays_sittings,_,rfl,sq,rfl,⟨_,SqL.of S.lst⟩,?_⟩
    refine lcb (J:=Itl K sq) (n:=(kP n k).length) (fm (kP n k) (fun _=>true) fun s=>vN (f s).1) kC (fun i H' hi s=>⟨_,V.ref (qs[i]'(by rw [S.len];exact hi)),SqL.of (s _ _ S.lst),by simp [S.len,hi]⟩) (fun H' s=>⟨_,SqL.of (s _ _ S.lst),by simp [S.len]⟩) (fun D i H' x H5 hD hi pv hy=>?_) (fun D H1 hD s1 e1=>?_)
    · obtain ⟨rfl,hx⟩:=hy
      have hx:=hx _ (SqL.of (pv.1 _ _ S.lst))
      obtain ⟨g2,hg2⟩:∃ g,qs[i]? = some g:=⟨_,List.getElem?_eq_getElem (by rw [S.len];exact hi)⟩
      obtain ⟨r2,hr2⟩:∃ r,(kP n k)[i]? = some r:=⟨_,List.getElem?_eq_getElem hi⟩
      rw [List.getElem?_map,hg2] at hx
      have hx:V.ref g2=x:=by simpa using hx
      subst hx
      obtain ⟨b,hb,dxb,eb⟩:=X.get nd2 (hsub _ (List.mem_of_getElem? hr2))
      simp only [jI,v5,List.set_cons_succ,List.set_cons_zero,sE,uQ,yM,j4,List.getElem?_cons_succ,List.getElem?_cons_zero,Option.some.injEq,exists_and_left,exists_eq_left',V.ref.injEq,if_true,true_and]
      exact ⟨_,hb ▸ qO.t (k:=qI r2) (pv.1 _ _ X.dic) (by rw [wB];exact pv.1 _ _ (S.at' i g2 r2 hg2 hr2)),b,rfl,_,_,_,pv.1 _ _ eb,T.cl_Least,T.no_Least_price,_,k8,lcY pv hD (fun _ _ e=>e) (vL hr2 rfl) (wV (m:=3125) hfew (by decide))⟩
    rw [vT rfl,v6] at e1
    have S1:=S.same s1
    refine ⟨_,_,_,s1 _ _ hp,T.cl_Stays,T.no_Stays_sittings,_,rfl,sq,rfl,⟨_,SqL.of S1.lst⟩,?_⟩
    refine lcb (J:=Itl K sq) (n:=(kP n k).length) (fm (kP n k) (fun _=>true) fun s=>vN (f s).2) kC (fun i H' hi s=>⟨_,V.ref (qs[i]'(by rw [S.len];exact hi)),SqL.of (s _ _ S1.lst),by simp [S.len,hi]⟩) (fun H' s=>⟨_,SqL.of (s _ _ S1.lst),by simp [S.len]⟩) (fun D i H' x H5 hD hi pv hy=>?_) (fun D2 H2 hD2 s2 e2=>?_)
    · obtain ⟨rfl,hx⟩:=hy
      have hx:=hx _ (SqL.of (pv.1 _ _ S1.lst))
      obtain ⟨g2,hg2⟩:∃ g,qs[i]? = some g:=⟨_,List.getElem?_eq_getElem (by rw [S.len];exact hi)⟩
      obtain ⟨r2,hr2⟩:∃ r,(kP n k)[i]? = some r:=⟨_,List.getElem?_eq_getElem hi⟩
      rw [List.getElem?_map,hg2] at hx
      have hx:V.ref g2=x:=by simpa using hx
      subst hx
      obtain ⟨b,hb,dxb,eb⟩:=(X.same s1).get nd2 (hsub _ (List.mem_of_getElem? hr2))
      simp only [jI,v5,List.set_cons_succ,List.set_cons_zero,sE,uQ,yM,j4,List.getElem?_cons_succ,List.getElem?_cons_zero,Option.some.injEq,exists_and_left,exists_eq_left',V.ref.injEq,if_true,true_and]
      exact ⟨_,hb ▸ qO.t (k:=qI r2) (pv.1 _ _ (s1 _ _ X.dic)) (by rw [wB];exact pv.1 _ _ (S1.at' i g2 r2 hg2 hr2)),b,rfl,_,_,_,pv.1 _ _ eb,T.cl_Least,T.no_Least_ways,_,v8,lcY pv hD (fun _ _ e=>e) (vL hr2 rfl) (wV (m:=3125) hfew (by decide))⟩
    rw [vT rfl,v6] at e2
    intro F hF
    have S2:=S1.same s2
    have R2:=(R.same s1).same s2
    have e1':=s2 _ _ e1
    have sH:=s1.trans s2
    have hp2:=sH _ _ hp
    have hFH:=sH.free hF
    have lmR:(zE n k).length=(kP n k).length:=by unfold zE;rw [List.length_map]
    clear S1 hD hD2 s1 s2 e1
    have sF:jG H2 (upd H2 F (.dT [])):=jG.new hF
    refine ⟨_,_,_,sF _ _ hp2,T.cl_Stays,T.no_Stays_sittings,_,rfl,_,_,_,sF _ _ hp2,T.cl_Stays,T.no_Stays_moves,_,rfl,sq,rfl,mq,rfl,_,SqL.of (sF _ _ S2.lst),_,SqL.of (sF _ _ R2.lst),?_⟩
    refine tG (J:=oC K sq mq true true) (n:=(kP n k).length) (fun j σ H'=>jG H2 H'∧∃ (fb:List Addr) (u4 u7:Option V),σ=[some (.int mv),some (.ref p),some (.ref d),some (.ref D),u4,some (.ref D2),some (.ref F),u7,none,none]∧kU a H' F fb ((kP n k).take j) (wmv mv f (kP n k))) ⟨sF,[],none,none,rfl,jK,rfl,fun i b r h=>by simp at h⟩ (fun j σ H' hj h=>jrQ (SqL.of (h.1 _ _ S2.lst)) (SqL.of (h.1 _ _ R2.lst)) (by rw [List.length_map,S.len];exact hj) (by rw [List.length_map,R.len,lmR];exact hj)) (fun σ H' h=>oB (κ:=true) (μ:=true) (SqL.of (h.1 _ _ S2.lst)) (SqL.of (h.1 _ _ R2.lst)) (by rw [List.length_map,S.len])) (fun j σ H3 x H4 hj h hy=>?_) (fun σ H3 h=>?_)
    · obtain ⟨s3,fb,u4,u7,rfl,TF⟩:=h
      obtain ⟨g,hg⟩:∃ g,qs[j]? = some g:=⟨_,List.getElem?_eq_getElem (by rw [S.len];exact hj)⟩
      obtain ⟨m,hm⟩:∃ g,ms[j]? = some g:=⟨_,List.getElem?_eq_getElem (by rw [R.len,lmR];exact hj)⟩
      obtain ⟨r,hr'⟩:∃ r,(kP n k)[j]? = some r:=⟨_,List.getElem?_eq_getElem hj⟩
      have hrow:(zE n k)[j]? = some ((kP n k).map fun s=>mvCount r s):=by unfold zE;rw [List.getElem?_map,hr'];rfl
      obtain ⟨Tp,rfl,hT,rfl⟩:=jz5 (κ:=true) (μ:=true) (SqL.of (s3 _ _ S2.lst)) (SqL.of (s3 _ _ R2.lst)) (by rw [List.getElem?_map,hg];rfl) (by rw [List.getElem?_map,hm];rfl) hy
      have sT:jG H3 (upd H3 Tp (.tup [.ref g,.ref m])):=jG.new hT
      refine ⟨Tp,_,rfl,SqT.of jK,rfl,?_⟩
      simp only [xA,List.cons.injEq,jI,aL,t9,vG,jN,List.set_cons_succ,List.set_cons_zero,j4,List.getElem?_cons_succ,List.getElem?_cons_zero,Option.some.injEq,kN,List.append_nil,and_true,true_and,and_assoc,exists_and_left,exists_eq_left',V.ref.injEq,vX,p3]
      have em:=sT _ _ (s3 _ _ (R2.at' j m _ hm hrow))
      have eD:=sT _ _ (s3 _ _ e1')
      have eD2:=sT _ _ (s3 _ _ e2)
      have eg:=sT _ _ (s3 _ _ (S2.at' j g r hg hr'))
      rw [show (kP n k).map (fun s=>vN (f s).1)=vNs ((kP n k).map fun s=>(f s).1) by unfold vNs;rw [List.map_map];rfl] at eD
      rw [show (kP n k).map (fun s=>vN (f s).2)=vNs ((kP n k).map fun s=>(f s).2) by unfold vNs;rw [List.map_map];rfl] at eD2
      have TF4:=TF.same sT
      have s34:jG H2 _:=s3.trans sT
      generalize upd H3 Tp (.tup [.ref g,.ref m])=H4 at em eD eD2 eg TF4 s34
      refine ⟨_,SqL.of eD,_,SqL.of em,?_⟩
      refine lcb (J:=oC K D m true true) (n:=(kP n k).length) (fm (kP n k) (fun _=>true) fun s=>vN ((f s).1+mv * mvCount r s)) kC (fun i H' hi s=>jrQ (SqL.of (s _ _ eD)) (SqL.of (s _ _ em)) (by simpa [vNs] using hi) (by simpa [vNs] using hi)) (fun H' s=>oB (κ:=true) (μ:=true) (SqL.of (s _ _ eD)) (SqL.of (s _ _ em)) (by simp [vNs])) (fun D3 i H' x H5 hD3 hi pv hy=>?_) (fun D3 H5 hD3 s5 e5=>?_)
      · obtain ⟨r2,hr2⟩:∃ r,(kP n k)[i]? = some r:=⟨_,List.getElem?_eq_getElem hi⟩
        obtain ⟨Tq,rfl,hTq,rfl⟩:=jz5 (κ:=true) (μ:=true) (SqL.of (pv.1 _ _ eD)) (SqL.of (pv.1 _ _ em)) (y:=vN (f r2).1) (z:=vN (mvCount r r2)) (by unfold vNs;rw [List.getElem?_map,List.getElem?_map,hr2];rfl) (by unfold vNs;rw [List.getElem?_map,List.getElem?_map,hr2];rfl) hy
        refine ⟨Tq,_,rfl,SqT.of jK,rfl,?_⟩
        simp only [xA,vN,List.cons.injEq,jI,aL,v5,List.set_cons_succ,List.set_cons_zero,sE,tOp,j4,List.getElem?_cons_succ,List.getElem?_cons_zero,Option.some.injEq,rI,rI0,V.int.injEq,exists_and_left,exists_eq_left',if_true,true_and,and_assoc]
        refine ⟨.inl ⟨by omega,by omega⟩,?_⟩
        have:=lcY pv hD3 (jG.new (o:=.tup [vN (f r2).1,vN (mvCount r r2)]) hTq) (vL hr2 rfl) (wV (m:=3125) hfew (by decide))
        simpa [vN] using this
      · rw [vT rfl,v6] at e5
        have hne:kP n k≠[]:=fun z=>by rw [z] at hr';simp at hr'
        refine ⟨D3,D2,_,_,rfl,by rw [e5,show (fun s=>vN ((f s).1+mv * mvCount r s))=vN ∘ (fun s=>(f s).1+mv * mvCount r s) from rfl,← List.map_map];rfl,s5 _ _ eD2,by simpa using hne,by rw [List.length_map,List.length_map],by rw [List.length_map];omega,fun H6 b s6 hb L=>?_⟩
        have TF6:=TF4.same (s5.trans s6)
        have htk:(kP n k).take (j+1)=(kP n k).take j++[r]:=by rw [List.take_add_one,hr'];rfl
        refine ⟨_,lR.t (k:=qI r) TF6.dic (by rw [wB];exact s6 _ _ (s5 _ _ eg)) (by rw [zG TF6.len,List.length_take,sizeLine_eq];omega),?_,fb++[b],?_⟩
        · intro x o e
          rw [jV (jX e hF)]
          exact s6 _ _ (s5 _ _ (s34 _ _ e))
        · rw [htk]
          exact TF6.put (mW (yP n k) hr') L
    · obtain ⟨s3,fb,u4,u7,rfl,TF⟩:=h
      rw [List.take_of_length_le (Nat.le_refl _)] at TF
      exact ⟨_,rfl,kk _ F fb (sH.trans s3) hFH TF⟩
end
section
variable {P:Program} {w:World} {K:PySem.W.Frag} {mg:Str→Option Value} {base:Heap} {a:Adr}
def jq3 (t:Sw77.Train) (k:Nat) (stl:List Nat) (f:List Nat→Nat×Nat) (r:List Nat):Nat×Nat:=((f (kW r (t.on k) stl)).1+legCost t ((t.on k).zip r),(f (kW r (t.on k) stl)).2)
def rN (a:Adr):Sp:=fun vs H Q _=>∃ (p d l:Addr) (t:Sw77.Train) (dx:Addr) (kvs:TK) (as:List Addr) (k:Nat) (sq oq:Addr) (stl:List Nat) (bs:List Addr) (rs:List (List Nat)) (f:List Nat→Nat×Nat),vs=[.ref p,.int k,.ref sq,.ref oq]∧jH a H p d l t dx kvs as∧t.riders.length≤20∧t.seats≤5∧(t.on k).length≤5∧t.costs.wish≤10000∧t.costs.apart≤10000 ∧
  H sq=some (.lst (vNs stl))∧kU a H oq bs rs f∧rs.Nodup∧(∀ r∈kP t.seats (t.on k).length,kW r (t.on k) stl∈rs) ∧
  ∀ (H':Hp) (F:Addr) (bs':List Addr),jG H H'→H F=none→kU a H' F bs' (kP t.seats (t.on k).length) (jq3 t k stl f)→Q (.ref F) H'
theorem jc0:jD ["train","leg","staying","onward","aboard","table","sitting","least","price"] ["train","leg","staying","onward"] (jW jx1):=⟨rfl,rfl,rfl,by decide +kernel,rfl,by decide +kernel,by decide +kernel⟩
theorem jmQ (T:Txt K mg a):vA P w K mg base CX0 9 a.f_xc a.d_xc ["train","leg","staying","onward"] (rN a):=by
  have nd:=jc0.nd
  have G_qg:=(tO (P:=P) (w:=w) (base:=base) T).mono (k:=8) (by decide)
  have G_qw:=(jhX (P:=P) (w:=w) (base:=base) T).mono (k:=8) (by decide)
  have G_qz:=(jhY (P:=P) (w:=w) (base:=base) T).mono (k:=8) (by decide)
  have G_qm:=(jhV (P:=P) (w:=w) (base:=base) T).mono (k:=8) (by decide)
  have G_Least:=(jwW (P:=P) (w:=w) (base:=base) T).mono (k:=7) (by decide)
  refine T.F_xc.ok jc0 (fun vs H Q E h=>?_) (fun cdv A outer s H vs Q E hr h=>?_)
  · obtain ⟨p,d,l,t,dx,kvs,as,k,sq,oq,stl,bs,rs,f,rfl,X,hlen,hse,hon,c2,c3,hst,O,nd2,hsub,kk⟩:=h
    rfl
  · obtain ⟨p,d,l,t,dx,kvs,as,k,sq,oq,stl,bs,rs,f,rfl,X,hlen,hse,hon,c2,c3,hst,O,nd2,hsub,kk⟩:=h
    have hu:=kE hr
    refine ⟨_,(jZ (kJ 4 nd (zR (pv 0) T.cl_Train T.m_qg G_qg hr T.b_qg .nil jU (jJ (pv 1) jQ)))
(jZ (kJ 5 nd wR)
(jZ (yR (v3 (jP G_qw hr rfl T.g_qw T.F_qw.kp T.b_qw .nil jU (jJ (zJ K (pv 0)) (jJ (jL (j8 K) rfl T.n_len vF (jJ (pv 4) jQ)) jQ)))) (pgn 6 nd)
(jZ (kJ 7 nd (vI hu (pv 3) (jP G_qz hr rfl T.g_qz T.F_qz.kp T.b_qz .nil jU (jJ (pv 6) (jJ (pv 4) (jJ (pv 2) jQ)))) (fun _ _=>rfl)))
(jZ (kJ 8 nd (zK zX (zJ K (pv 7)) (jP G_qm hr rfl T.g_qm T.F_qm.kp T.b_qm .nil jU (jJ (pv 0) (jJ (pdz K true false T.n_dict T.n_zip (jJ (pv 4) (jJ (pv 6) jQ))) jQ)))))
(jY (yC hu (pv 5) (pv 6) (gG T.M_Least G_Least hr rfl T.g_Least T.b_qu .nil jU (jJ (pv 8) (jJ (zJ K (pv 7)) jQ))) rfl)))))
(jY (jC (pv 5)))))),?_⟩
    rw [show j7 ["train","leg","staying","onward","aboard","table","sitting","least","price"] [.ref p,.int k,.ref sq,.ref oq]=[some (.ref p),some (.int k),some (.ref sq),some (.ref oq),none,none,none,none,none] from rfl]
    simp only [zH,wI,wM,j4,List.getElem?_cons_zero,Option.some.injEq,jN,List.getElem?_cons_succ,kN,List.append_nil,jI,rL,uN,exists_and_left,List.set_cons_succ,List.set_cons_zero,zQ,yZ,vG,uQ,tCB,List.cons.injEq,and_true,exists_eq_left',V.ref.injEq,X.tr,HO.ins.injEq,true_and,and_assoc,gW]
    refine ⟨p,d,l,t,dx,kvs,as,k,rfl,X,hlen,fun H1 q s1 hq e1 F hF=>?_⟩
    have sF:jG H1 (upd H1 F (.dT [])):=jG.new hF
    have ln:(vNs (t.on k)).length=(t.on k).length:=by unfold vNs;rw [List.length_map]
    refine ⟨_,_,_,sF _ _ (s1 _ _ X.tr),T.cl_Train,T.no_Train_seats,_,rfl,q,rfl,vNs (t.on k),.inl (SqL.of (sF _ _ e1)),t.seats,(t.on k).length,by rw [ln],hse,hon,fun H2 q2 qs s2 hq2 S=>⟨q2,rfl,⟨_,SqL.of S.lst⟩,?_⟩⟩
    have s12:jG H1 H2:=sF.trans s2
    have eF:=s2 _ _ (jK (H:=H1) (a:=F) (o:=.dT []))
    obtain ⟨H0,eH0⟩:∃ H0:Hp,H0=fun b=>if b=F then none else H2 b:=⟨_,rfl⟩
    have hF0:H0 F=none:=by rw [eH0];exact if_pos rfl
    have n0:∀ b,b≠F→H0 b=H2 b:=fun b hb=>by rw [eH0];exact if_neg hb
    have s02:jG H0 H2:=fun b o e=>by
      by_cases hb:b=F
      · rw [hb,hF0] at e;cases e
      · rw [n0 b hb] at e;exact e
    have s10:jG H1 H0:=fun b o e=>by rw [n0 b (jX e hF)];exact s12 _ _ e
    have S0:g7 H0 q2 qs (kP t.seats (t.on k).length):=⟨by rw [n0 _ (j1 S.lst eF (fun z=>nomatch z))];exact S.lst,S.len,fun i b r h1 h2=>by
      have e:=S.at' i b r h1 h2
      rw [n0 _ (j1 e eF (fun z=>nomatch z))];exact e⟩
    have sH0:=s1.trans s10
    have hfew:(kP t.seats (t.on k).length).length≤3125:=wP hse hon
    have X0:=X.same sH0
    have O0:=O.same sH0
    have hst0:=sH0 _ _ hst
    have eq0:=s10 _ _ e1
    generalize hrs:kP t.seats (t.on k).length=ss at hsub kk S S0 hfew
    refine tG (J:=Itl K q2) (n:=ss.length) (fun j σ H'=>jG H0 H'∧∃ (fb:List Addr) (u6 u7 u8:Option V),σ=[some (.ref p),some (.int k),some (.ref sq),some (.ref oq),some (.ref q),some (.ref F),u6,u7,u8]∧kU a H' F fb (ss.take j) (jq3 t k stl f)) ⟨s02,[],none,none,none,rfl,eF,rfl,fun i b r h=>by simp at h⟩ (fun j σ H' hj h=>⟨_,V.ref (qs[j]'(by rw [S.len];exact hj)),SqL.of (h.1 _ _ S0.lst),by simp [S.len,hj]⟩) (fun σ H' h=>⟨_,SqL.of (h.1 _ _ S0.lst),by simp [S.len]⟩) (fun j σ H3 x H4 hj h hy=>?_) (fun σ H3 h=>?_)
    · obtain ⟨rfl,hx⟩:=hy
      obtain ⟨s3,fb,u6,u7,u8,rfl,TF⟩:=h
      have hx:=hx _ (SqL.of (s3 _ _ S0.lst))
      obtain ⟨g,hg⟩:∃ g,qs[j]? = some g:=⟨_,List.getElem?_eq_getElem (by rw [S.len];exact hj)⟩
      obtain ⟨r,hr'⟩:∃ r,ss[j]? = some r:=⟨_,List.getElem?_eq_getElem hj⟩
      rw [List.getElem?_map,hg] at hx
      have hx:V.ref g=x:=by simpa using hx
      subst hx
      have eg:=S0.at' j g r hg hr'
      obtain ⟨b,hb,dxb,eb⟩:=O0.get nd2 (hsub _ (List.mem_of_getElem? hr'))
      simp only [jI,zH,wI,yM,j4,List.set_cons_succ,List.set_cons_zero,List.getElem?_cons_succ,List.getElem?_cons_zero,Option.some.injEq,vG,jN,kN,List.append_nil,tOp,uQ,uR,List.cons.injEq,and_true,rI0,t9,rE,true_and,and_assoc,exists_and_left,exists_eq_left',V.ref.injEq]
      refine ⟨g,q,sq,r,t.on k,stl,rfl,s3 _ _ eg,s3 _ _ eq0,s3 _ _ hst0,by have:=sK t k;omega,fun H5 tb s5 htb e5=>?_⟩
      have s05:=s3.trans s5
      refine ⟨_,hb ▸ qO.t (k:=qI (kW r (t.on k) stl)) (s05 _ _ O0.dic) (by rw [wB];exact e5),?_⟩
      refine ⟨b,rfl,_,_,_,s05 _ _ eb,T.cl_Least,T.no_Least_price,_,k8,?_⟩
      refine ⟨(t.on k).map fun i:Nat=>(Sum.inl (i:Int):Key),SqL.of (by rw [s05 _ _ eq0,List.map_map];rfl),vNs r,SqT.of (s05 _ _ eg),fun dz hdz=>?_⟩
      rw [uC (wE t k)]
      have sz:jG H5 (upd H5 dz (.dK (kQ ((t.on k).zip r)))):=jG.new hdz
      refine ⟨p,d,l,t,dx,kvs,as,dz,_,rfl,X0.same (s05.trans sz),jK,jfX k r hlen,c2,c3,fun H6 s6=>?_⟩
      have s06:=s05.trans (sz.trans s6)
      have s36:=s5.trans (sz.trans s6)
      refine ⟨_,rfl,_,rfl,b,rfl,_,_,_,s06 _ _ eb,T.cl_Least,T.no_Least_ways,_,v8,fun nb dq hnb hdq ndq=>?_⟩
      refine ⟨nb,dq,_,_,rfl,jK,fun H7 c7 k7=>⟨rfl,?_⟩⟩
      have s67:jG H6 H7:=jG.made hnb hdq k7
      have TF7:=TF.same (s36.trans s67)
      have htk:ss.take (j+1)=ss.take j++[r]:=by rw [List.take_add_one,hr'];rfl
      refine ⟨_,lR.t (k:=qI r) TF7.dic (by rw [wB];exact s67 _ _ (s06 _ _ eg)) (by rw [zG TF7.len,List.length_take,sizeLine_eq];omega),?_,fb++[nb],?_⟩
      · intro x o e
        rw [jV (jX e hF0)]
        exact s67 _ _ (s06 _ _ e)
      · rw [htk]
        refine TF7.put (mW (hrs ▸ yP _ _) hr') ⟨dq,?_⟩
        rw [c7]
        unfold jq3 vN
        simp only [Int.natCast_add]
    · obtain ⟨s3,fb,u6,u7,u8,rfl,TF⟩:=h
      rw [List.take_of_length_le (Nat.le_refl _)] at TF
      exact ⟨_,rfl,kk _ F fb (sH0.trans s3) (sH0.free hF0) TF⟩
end
def off (A:List Addr) (H:Hp):Hp:=fun b=>if b∈A then none else H b
theorem rJ {A:List Addr} {H:Hp} {b:Addr} (h:b∈A):off A H b=none:=if_pos h
theorem wT {A:List Addr} {H:Hp} {b:Addr} (h:b∉A):off A H b=H b:=if_neg h
theorem xX {A:List Addr} {H:Hp}:jG (off A H) H:=fun b o e=>by
  by_cases h:b∈A
  · rw [rJ h] at e;cases e
  · rw [wT h] at e;exact e
theorem jp5 {A:List Addr} {H H':Hp} (s:jG H H'):jG (off A H) (off A H'):=fun b o e=>by
  by_cases h:b∈A
  · rw [rJ h] at e;cases e
  · rw [wT h] at e ⊢;exact s _ _ e
theorem gQ {A:List Addr} {H:Hp} {b:Addr} {o:HO} (h:b∈A):Y.off A (upd H b o)=Y.off A H:=by
  funext c
  by_cases hc:c∈A
  · rw [rJ hc,rJ hc]
  · rw [wT hc,wT hc,jV (show c≠b from fun z=>hc (z ▸ h))]
theorem kU.off {a:Adr} {H:Hp} {A:List Addr} {d:Addr} {bs:List Addr} {rs:List (List Nat)} {f:List Nat→Nat×Nat} (X:kU a H d bs rs f) (h:∀ b∈A,∃ o,H b=some o∧(∀ C x f,o≠.ins C x f)∧∀ k,o≠.dT k):kU a (off A H) d bs rs f :=
  ⟨by rw [wT (fun z=>by obtain ⟨o,e,h1,h2⟩:=h _ z;rw [X.dic] at e;cases e;exact h2 _ rfl)];exact X.dic,X.len,fun i b r e1 e2=>by
    obtain ⟨dx,e⟩:=X.at' i b r e1 e2
    exact ⟨dx,by rw [wT (fun z=>by obtain ⟨o,e',h1,h2⟩:=h _ z;rw [e] at e';cases e';exact h1 _ _ _ rfl)];exact e⟩⟩
def stay (t:Sw77.Train) (k:Nat):List Nat:=(t.on k).filter fun i=>decide (i∈t.on (k+1))
def rF (t:Sw77.Train) (k:Nat) (r:List Nat):List Nat:=kW r (t.on (k+1)) (stay t k)
def zO (t:Sw77.Train) (k:Nat):List (List Nat):=kP t.seats (t.on k).length
def onw (t:Sw77.Train) (k:Nat) (f:List Nat→Nat×Nat):List Nat→Nat×Nat:=wmv t.costs.move (yE (rF t k) f (zO t (k+1))) (kP t.seats (stay t k).length)
def xF (t:Sw77.Train):Nat→List Nat→Nat×Nat
  | 0=>fun _=>(0,1)
  | j+1=>jq3 t (t.legs - (j+1)) (stay t (t.legs - (j+1))) (onw t (t.legs - (j+1)) (xF t j))
structure wK (t:Sw77.Train):Prop where
  nr:t.riders.length≤20
  ns:t.seats≤5
  nl:t.legs≤8
  c1:t.costs.move≤10000
  c2:t.costs.wish≤10000
  c3:t.costs.apart≤10000
  on5:∀ k,(t.on k).length≤5
  last:t.on t.legs=[]
  sne:∀ k,k < t.legs→zO t k≠[]
  out:∀ k,k < t.legs→∀ r∈kP t.seats (stay t k).length,r∈jM (rF t k) (zO t (k+1))
  inn:∀ k,k < t.legs→∀ r∈zO t k,kW r (t.on k) (stay t k)∈kP t.seats (stay t k).length
structure xR (a:Adr) (H:Hp) (tq:Addr) (ts:List Addr) (t:Sw77.Train):Prop where
  lst:H tq=some (.lst (ts.map V.ref))
  len:ts.length=t.legs+1
  at':∀ (k:Nat) (d:Addr),ts[k]? = some d→∃ bs,kU a H d bs (zO t k) (xF t (t.legs - k))
section
variable {P:Program} {w:World} {K:W.Frag} {mg:Str→Option Value} {base:Heap} {a:Adr}
def lX (a:Adr):Sp:=fun vs H Q _=>∃ (p d l:Addr) (t:Sw77.Train) (dx:Addr) (kvs:TK) (as:List Addr),vs=[.ref p]∧jH a H p d l t dx kvs as∧wK t ∧
  ∀ (H':Hp) (tq:Addr) (ts:List Addr),jG H H'→H tq=none→xR a H' tq ts t→Q (.ref tq) H'
theorem jc1:jD ["train","table","tables","stays","leg","behind","staying","i","many","onward"] ["train"] (jW jx2):=⟨rfl,rfl,rfl,by decide +kernel,rfl,by decide +kernel,by decide +kernel⟩
theorem jf1 (T:Txt K mg a):vA P w K mg base CX0 11 a.f_xd a.d_xd ["train"] (lX a):=by
  have nd:=jc1.nd
  have G_qg:=(tO (P:=P) (w:=w) (base:=base) T).mono (k:=10) (by decide)
  have G_Least:=(jwW (P:=P) (w:=w) (base:=base) T).mono (k:=9) (by decide)
  have G_Stays:=(jmZ (P:=P) (w:=w) (base:=base) T).mono (k:=9) (by decide)
  have G_xb:=(jmW (P:=P) (w:=w) (base:=base) T).mono (k:=10) (by decide)
  have G_xa:=(jf0 (P:=P) (w:=w) (base:=base) T).mono (k:=10) (by decide)
  have G_xc:=(jmQ (P:=P) (w:=w) (base:=base) T).mono (k:=10) (by decide)
  refine T.F_xd.ok jc1 (fun vs H Q E h=>?_) (fun cdv A outer s H vs Q E hr h=>?_)
  · obtain ⟨p,d,l,t,dx,kvs,as,rfl,X,ok,kk⟩:=h
    rfl
  · obtain ⟨p,d,l,t,dx,kvs,as,rfl,X,ok,kk⟩:=h
    have hu:=kE hr
    refine ⟨_,(jZ (kJ 1 nd (iY hu (v0 jQ) (gG T.M_Least G_Least hr rfl T.g_Least T.b_qu .nil jU (jJ jA (jJ jA jQ)))))
(jZ (kJ 2 nd (kR (jJ (pv 1) jQ)))
(jZ (kJ 3 nd sZ)
(jZ (yR (iB rfl T.n_range (jJ (zK iK (zJ K (pv 0)) jA) (jJ (jfZ jz4 jA) (jJ (jfZ jz4 jA) jQ)))) (pgn 4 nd)
(jZ (kJ 5 nd (zR (pv 0) T.cl_Train T.m_qg G_qg hr T.b_qg .nil jU (jJ (zK zX (pv 4) jA) jQ)))
(jZ (jd4 6 [("i",7)] nd (v3 (zR (pv 0) T.cl_Train T.m_qg G_qg hr T.b_qg .nil jU (jJ (pv 4) jQ))) (by intro _ _ _ _ _;exact (pgn 7 nd)) (by intro _ _ _ _ _;exact (zN (jR (e9 K) (pv 7) (pv 5) rfl))) (by intro _ _ _ _ _;exact (pv 7)))
(jZ (kJ 8 nd (jL (j8 K) rfl T.n_len vF (jJ (pv 6) jQ)))
(jZ (zV (rD (rQ hu (pv 8) (pv 3)))
(jY (yC hu (pv 3) (pv 8) (gG T.M_Stays G_Stays hr rfl T.g_Stays T.b_qy .nil jU (jJ (zJ K (pv 0)) (jJ (pv 8) jQ))) rfl))
j6)
(jZ (kJ 9 nd (jP G_xb hr rfl T.g_xb T.F_xb.kp T.b_xb .nil jU (jJ (zJ K (pv 0)) (jJ (vI hu (pv 3) (pv 8) (fun _ _=>rfl)) (jJ (jP G_xa hr rfl T.g_xa T.F_xa.kp T.b_xa .nil jU (jJ (pv 1) (jJ (pv 5) (jJ (pv 6) jQ)))) jQ)))))
(jZ (kJ 1 nd (jP G_xc hr rfl T.g_xc T.F_xc.kp T.b_xc .nil jU (jJ (pv 0) (jJ (pv 4) (jJ (pv 6) (jJ (pv 9) jQ))))))
(jY (vP (qC PySem.F.plainAttrs_list PySem.F.slot_list_append PySem.F.type_list_append vD (pv 2) (jJ (pv 1) jQ)))))))))))
(jZ (vP (jf8 PySem.F.plainAttrs_list PySem.F.slot_list_reverse PySem.F.type_list_reverse tE (pv 2)))
(jY (jC (pv 2)))))))),?_⟩
    rw [show j7 ["train","table","tables","stays","leg","behind","staying","i","many","onward"] [.ref p]=[some (.ref p),none,none,none,none,none,none,none,none,none] from rfl]
    simp only [zH,wI,i8,sS,kN,kO,rE,jN,tC,List.append_nil,V.ref.injEq,jI,dJ,j4,List.set_cons_succ,List.set_cons_zero,List.getElem?_cons_succ,List.getElem?_cons_zero,Option.some.injEq,i7,uN,List.map_cons,List.map_nil,exists_and_left,zQ,jgY,tOp,uQ,rI0,V.int.injEq,tUn,rU,List.cons.injEq,and_true,and_assoc,exists_eq_left']
    intro tb htb
    refine ⟨by show 0≤sizeLine;decide,fun eb heb nb dx1 hnb hdx ndx=>?_⟩
    refine ⟨nb,dx1,_,_,rfl,jK,fun H1 c1 k1=>⟨rfl,?_⟩⟩
    have k1':∀ b o,upd (upd H tb (.dT [])) eb (.tup []) b=some o→H1 b=some o:=jG.made (by rw [jV hnb.1,jV hnb.2.1];exact hnb.2.2) (by rw [jV hdx.1,jV hdx.2.1];exact hdx.2.2) k1
    have etb:=k1' tb _ (by rw [jV heb.1.symm,jK])
    refine ⟨etb,[],k1' eb _ jK,by show 1≤sizeLine;decide,fun tq htq dq hdq=>?_⟩
    have s1:jG H (upd H1 tb (.dT [([],V.ref nb)])):=fun b o e=>by
      rw [jV (jX e htb)]
      exact k1' b o (by rw [jV (jX e heb.2),jV (jX e htb)];exact e)
    have T1:kU a (upd H1 tb (.dT [([],V.ref nb)])) tb [nb] (zO t t.legs) (xF t 0):=by
      unfold zO
      rw [ok.last]
      refine ⟨jK,rfl,fun i b r h1 h2=>?_⟩
      cases i with
      | zero =>
        have h1:nb=b:=by simpa using h1
        subst h1
        exact ⟨dx1,by rw [jV hnb.2.1];exact c1⟩
      | succ i=>simp at h1
    have hq2:upd H1 tb (.dT [([],V.ref nb)]) tq=none:=by rw [jV htq.1];exact htq.2
    have hd2:upd H1 tb (.dT [([],V.ref nb)]) dq=none:=by rw [jV hdq.2.1];exact hdq.2.2
    have qd:tq≠dq:=hdq.1.symm
    clear k1' k1 etb c1
    generalize upd H1 tb (.dT [([],V.ref nb)])=H2 at s1 T1 hq2 hd2
    have sq:jG H2 (upd H2 tq (.lst [V.ref tb])):=jG.new hq2
    have sd:jG (upd H2 tq (.lst [V.ref tb])) (upd (upd H2 tq (.lst [V.ref tb])) dq (.dK [])):=jG.new (by rw [jV qd.symm];exact hd2)
    have inA:tq∈[tq,dq]:=by simp
    have inB:dq∈[tq,dq]:=by simp
    have e2:off [tq,dq] (upd (upd H2 tq (.lst [V.ref tb])) dq (.dK []))=H2:=by
      rw [gQ inB,gQ inA]
      funext b
      by_cases hb:b∈[tq,dq]
      · rw [rJ hb]
        simp at hb
        rcases hb with rfl | rfl
        · exact hq2.symm
        · exact hd2.symm
      · exact wT hb
    have X2:=X.same (s1.trans (sq.trans sd))
    refine ⟨_,_,_,X2.tr,T.cl_Train,T.no_Train_legs,_,rfl,_,rfl,t.legs,?_,?_⟩
    · have:=RgC.neg (i:=(t.legs:Int) - 1) (j:=-1) (by have:=ok.nl;omega) (by have:=ok.nl;omega) (by omega) (by omega)
      rwa [show ((t.legs:Int) - 1 - -1).toNat=t.legs by omega] at this
    have eq2:(upd (upd H2 tq (.lst [V.ref tb])) dq (.dK [])) tq=some (.lst [V.ref tb]):=by rw [jV qd,jK]
    have ed2:(upd (upd H2 tq (.lst [V.ref tb])) dq (.dK [])) dq=some (.dK []):=jK
    generalize upd (upd H2 tq (.lst [V.ref tb])) dq (.dK [])=H3 at e2 eq2 ed2
    subst e2
    refine tG (J:=Itc ((t.legs:Int) - 1) (-1) t.legs) (n:=t.legs) (fun j σ H'=>jG H (off [tq,dq] H')∧∃ (ts:List Addr) (tb:Addr) (kv:List (Key×V)) (u4 u5 u6 u8 u9:Option V),σ=[some (.ref p),some (.ref tb),some (.ref tq),some (.ref dq),u4,u5,u6,none,u8,u9]∧H' tq=some (.lst (ts.map V.ref))∧H' dq=some (.dK kv)∧ts.length=j+1∧ts[j]? = some tb∧kv.length≤j∧(∀ i d,ts[i]? = some d→∃ bs,kU a (off [tq,dq] H') d bs (zO t (t.legs - i)) (xF t i))∧(∀ (m:Nat) v,z9 kv (.inl (m:Int))=some v→∃ b,v=.ref b∧qK a (off [tq,dq] H') b t.seats m))
      ⟨s1,[tb],tb,[],none,none,none,none,none,rfl,eq2,ed2,rfl,rfl,Nat.le_refl _,fun i d h=>?_,fun m v h=>?_⟩ (fun j σ H' hj h=>hj) (fun σ H' h=>Nat.le_refl _) (fun j σ H4 x H5 hj h hy=>?_) (fun σ H4 h=>?_)
    · cases i with
      | zero =>
        have h:tb=d:=by simpa using h
        subst h
        exact ⟨_,T1⟩
      | succ i=>simp at h
    · simp [z9] at h
    · obtain ⟨rfl,hx⟩:=hy
      obtain ⟨s4,ts,tb',kv,u4,u5,u6,u8,u9,rfl,e4,d4,hts,htb',hkv,tabs,stays⟩:=h
      obtain ⟨k,hk⟩:∃ k,k=t.legs - (j+1):=⟨_,rfl⟩
      have hkl:k < t.legs:=by omega
      have hk1:t.legs - j=k+1:=by omega
      have hx:x=.int (k:Nat):=by rw [hx];congr 1;omega
      subst hx
      have sA:jG (off [tq,dq] H5) H5:=xX
      have X4:=X.same (s4.trans sA)
      generalize hR:(zH (wI (vG (sN a) [] E0 (jN (uQ K (j4 0) "move") (jN (yM (j4 3) (j4 8)) (jN (vG (sP a) [] E0 (jN (j4 1) (jN (j4 5) (jN (j4 6) kN)))) kN)))) (jI 9)) (zH (wI (vG (rN a) [] E0 (jN (j4 0) (jN (j4 4) (jN (j4 6) (jN (j4 9) kN))))) (jI 1)) (qT (tBM K "list" zS (j4 2) (jN (j4 1) kN)))))=REST
      obtain ⟨bs4,T4⟩:=tabs j tb' htb'
      rw [hk1] at T4
      obtain ⟨m,hm⟩:∃ m,m=(stay t k).length:=⟨_,rfl⟩
      have hm5:m≤5:=by
        have h1:(stay t k).length≤(t.on k).length:=List.length_filter_le _ _
        have h2:=ok.on5 k
        omega
      have tail:∀ (H6:Hp) (kv':List (Key×V)) (D:lL) (q5 q6 b:Addr) (v9:Option V),jG (off [tq,dq] H5) (off [tq,dq] H6)→H6 tq=some (.lst (ts.map V.ref))→H6 dq=some (.dK kv')→z9 kv' (.inl (m:Int))=some (.ref b)→qK a (off [tq,dq] H6) b t.seats m→H6 q5=some (.lst (vNs (t.on (k+1))))→H6 q6=some (.lst (vNs (stay t k))) →
          (∀ (H7:Hp) (nt:Addr) (bs:List Addr) (w9:Option V),jG H6 H7→kU a H7 nt bs (zO t k) (xF t (j+1))→D.nx [some (.ref p),some (.ref nt),some (.ref tq),some (.ref dq),some (.int (k:Nat)),some (.ref q5),some (.ref q6),none,some (.int (m:Nat)),w9] (upd H7 tq (.lst (ts.map V.ref++[V.ref nt])))) →
          REST D [some (.ref p),some (.ref tb'),some (.ref tq),some (.ref dq),some (.int (k:Nat)),some (.ref q5),some (.ref q6),none,some (.int (m:Nat)),v9] H6:=by
        intro H6 kv' D q5 q6 b v9 s6 e6 d6 hv St6 h5 h6 kD
        rw [← hR]
        have X6:=X.same ((s4.trans s6).trans xX)
        simp only [zH,wI,vG,jN,uQ,j4,List.getElem?_cons_zero,Option.some.injEq,yM,List.getElem?_cons_succ,kN,List.append_nil,jI,List.set_cons_succ,List.set_cons_zero,qT,tBM,zS,List.cons.injEq,and_true,exists_and_left,exists_eq_left',V.ref.injEq,X6.tr,HO.ins.injEq,and_assoc,z0,T.cl_Train,T.no_Train_move,true_and]
        have g6:qO H6 dq (.int (m:Nat)) (some (.ref b)):=by rw [← hv];exact qO.k (k:=.inl (m:Int)) d6
        have sOff6:jG (off [tq,dq] H6) H6:=xX
        have T6:=(T4.same s6).same sOff6
        refine ⟨_,g6,tb',q5,q6,_,_,_,_,_,rfl,T6,h5,h6,wP ok.ns (ok.on5 _),by have:=ok.on5 (k+1);omega,fun H7 F bs7 s7 hF T7=>?_⟩
        refine ⟨b,F,t.costs.move,t.seats,m,bs7,_,_,rfl,(St6.same sOff6).same s7,T7,qB _,by rw [hm];exact ok.out k hkl,ok.ns,hm5,ok.c1,fun H8 F8 bs8 s8 hF8 T8=>?_⟩
        have s68:=s7.trans s8
        refine ⟨p,d,l,t,dx,kvs,as,k,q6,F8,stay t k,bs8,_,_,rfl,X6.same s68,ok.nr,ok.ns,ok.on5 k,ok.c2,ok.c3,s68 _ _ h6,T8,yP _ _,by rw [hm];exact ok.inn k hkl,fun H9 F9 bs9 s9 hF9 T9=>?_⟩
        have s69:=s68.trans s9
        refine ⟨.inl ⟨rfl,_,SqL.of (s69 _ _ e6)⟩,_,s69 _ _ e6,by rw [List.length_map,hts,sizeLine_eq];have:=ok.nl;omega,?_⟩
        refine kD H9 F9 bs9 _ s69 ?_
        rw [hm] at T9
        show kU a H9 F9 bs9 (zO t k) (jq3 t (t.legs - (j+1)) (stay t (t.legs - (j+1))) (onw t (t.legs - (j+1)) (xF t j)))
        rw [← hk]
        exact T9
      simp only [jI,zH,wI,wM,j4,List.set_cons_succ,List.set_cons_zero,List.getElem?_cons_zero,Option.some.injEq,jN,tOp,List.getElem?_cons_succ,tC,rI0,V.int.injEq,kN,List.append_nil,tCB,List.cons.injEq,and_true,gE,tB,mL,V.bl.injEq,t9,rE,uQ,exists_and_left,exists_eq_left',V.ref.injEq,zT,vX,yZ,X4.tr,HO.ins.injEq,true_and,and_assoc,gW]
      refine ⟨p,d,l,t,dx,kvs,as,k+1,by rw [Int.natCast_add];rfl,X4,ok.nr,fun H6 q5 s6 hq5 e5=>?_⟩
      have X6:=X4.same s6
      refine ⟨_,_,X6.tr,gW,p,d,l,t,dx,kvs,as,k,rfl,X6,ok.nr,fun H7 qk s7 hqk ek=>?_⟩
      have e57:=s7 _ _ e5
      refine ⟨qk,rfl,⟨_,SqL.of ek⟩,?_⟩
      refine lcb (J:=Itl K qk) (n:=(t.on k).length) (fm (t.on k) (fun i=>decide (i∈t.on (k+1))) vN) kC (fun i H' hi s=>⟨_,vN ((t.on k)[i]),SqL.of (s _ _ ek),by simp [vNs,hi]⟩) (fun H' s=>⟨_,SqL.of (s _ _ ek),by simp [vNs]⟩) (fun D i H' x H8 hD hi pv hy=>?_) (fun D H8 hD s8 e8=>?_)
      · obtain ⟨rfl,hx⟩:=hy
        have hx:=hx _ (SqL.of (pv.1 _ _ ek))
        obtain ⟨c,hc⟩:∃ c,(t.on k)[i]? = some c:=⟨_,List.getElem?_eq_getElem hi⟩
        unfold vNs at hx
        rw [List.getElem?_map,hc] at hx
        have hx:vN c=x:=by simpa using hx
        subst hx
        simp only [jI,v5,List.set_cons_succ,List.set_cons_zero,vH,tOp,j4,List.getElem?_cons_succ,List.getElem?_cons_zero,Option.some.injEq,exists_eq_left',true_and]
        refine ⟨q5,vNs (t.on (k+1)),rfl,.inl (SqL.of (pv.1 _ _ e57)),rfl,uF _,_,rfl,?_⟩
        rw [dL]
        refine wY (fun h=>lcY pv hD (jG.refl _) (vL hc h) (wV (m:=1000) (by have:=ok.on5 k;omega) (by decide))) (fun h=>lcN pv (jG.refl _) (y4 hc (by simpa using h)))
      · rw [vT rfl] at e8
        have s58:jG H5 H8:=s6.trans (s7.trans s8)
        have e58:=s8 _ _ e57
        have e4':=s58 _ _ e4
        have d4':=s58 _ _ d4
        have X8:=X4.same s58
        have e8:H8 D=some (.lst (vNs (stay t k))):=e8
        have lm:(vNs (stay t k)).length=m:=by unfold vNs;rw [List.length_map,hm]
        have fin:∀ (H6:Hp) (kv':List (Key×V)) (q5 q6:Addr),jG (off [tq,dq] H5) (off [tq,dq] H6)→H6 tq=some (.lst (ts.map V.ref))→H6 dq=some (.dK kv')→kv'.length≤j+1→(∀ (m:Nat) v,z9 kv' (.inl (m:Int))=some v→∃ b,v=.ref b∧qK a (off [tq,dq] H6) b t.seats m) →
            ∀ (H7:Hp) (nt:Addr) (bs:List Addr) (w9:Option V),jG H6 H7→kU a H7 nt bs (zO t k) (xF t (j+1))→(fun (σ:L2.St) (H':Hp)=>jG H (off [tq,dq] H')∧∃ (ts:List Addr) (tb:Addr) (kv:List (Key×V)) (u4 u5 u6 u8 u9:Option V),σ=[some (.ref p),some (.ref tb),some (.ref tq),some (.ref dq),u4,u5,u6,none,u8,u9]∧H' tq=some (.lst (ts.map V.ref))∧H' dq=some (.dK kv)∧ts.length=j+1+1∧ts[j+1]? = some tb∧kv.length≤j+1∧(∀ i d,ts[i]? = some d→∃ bs,kU a (off [tq,dq] H') d bs (zO t (t.legs - i)) (xF t i))∧(∀ (m:Nat) v,z9 kv (.inl (m:Int))=some v→∃ b,v=.ref b∧qK a (off [tq,dq] H') b t.seats m)) [some (.ref p),some (.ref nt),some (.ref tq),some (.ref dq),some (.int (k:Nat)),some (.ref q5),some (.ref q6),none,some (.int (m:Nat)),w9] (upd H7 tq (.lst (ts.map V.ref++[V.ref nt]))):=by
          intro H6 kv' q5 q6 s56 e6 d6 lkv st6 H7 nt bs w9 s67 T7
          have so:jG (off [tq,dq] H6) (off [tq,dq] H7):=jp5 s67
          have T7':=T7.off (A:=[tq,dq]) fun b hb=>by
            simp at hb
            rcases hb with rfl | rfl
            · exact ⟨_,s67 _ _ e6,⟨fun _ _ _ z=>(nomatch z),fun _ z=>(nomatch z)⟩⟩
            · exact ⟨_,s67 _ _ d6,⟨fun _ _ _ z=>(nomatch z),fun _ z=>(nomatch z)⟩⟩
          show jG H (off [tq,dq] (upd H7 tq _))∧_
          rw [gQ inA]
          refine ⟨s4.trans (s56.trans so),ts++[nt],nt,kv',_,_,_,_,_,rfl,by rw [jK,List.map_append];rfl,by rw [jV qd.symm];exact s67 _ _ d6,by rw [List.length_append,hts];rfl,by rw [List.getElem?_append_right (by omega),hts];simp,lkv,fun i d h=>?_,fun m v h=>?_⟩
          · rcases Nat.lt_or_ge i ts.length with hi | hi
            · rw [List.getElem?_append_left hi] at h
              obtain ⟨bs,Z⟩:=tabs i d h
              exact ⟨bs,(Z.same s56).same so⟩
            · rw [List.getElem?_append_right hi] at h
              have ei:i - ts.length=0:=by
                cases z:i - ts.length with
                | zero=>rfl
                | succ m=>rw [z] at h;simp at h
              rw [ei] at h
              have h:nt=d:=by simpa using h
              subst h
              have:i=j+1:=by omega
              subst this
              exact ⟨bs,by rw [← hk];exact T7'⟩
          · obtain ⟨b,e,St⟩:=st6 m v h
            exact ⟨b,e,St.same so⟩
        refine ⟨D,rfl,_,.inl (SqL.of e8),_,by rw [lm];exact qO.k (k:=.inl (m:Int)) d4',?_⟩
        rw [lm]
        have so58:jG (off [tq,dq] H5) (off [tq,dq] H8):=jp5 s58
        refine wY (fun h=>?_) (fun h=>?_)
        · have h:z9 kv (.inl (m:Int))=none:=by simpa using h
          refine ⟨_,_,_,X8.tr,T.cl_Train,T.no_Train_seats,_,rfl,fun nb dn hnb hdn ndn=>?_⟩
          refine ⟨nb,dn,t.seats,m,rfl,jK,ok.ns,hm5,fun H9 sq' mq' qs' ms' c9 S9 R9 k9 f1 f2 f3=>⟨rfl,?_⟩⟩
          have s89:jG H8 H9:=jG.made hnb hdn k9
          have fre:∀ b,(upd (upd H8 dn (.own nb)) nb (.ins a.C_Stays dn [])) b=none→b∉[tq,dq]:=fun b hb z=>by
            have hb':H8 b=none:=by
              by_cases z1:b=nb
              · rw [z1];exact hnb
              · rw [jV z1] at hb
                by_cases z2:b=dn
                · rw [z2];exact hdn
                · rw [jV z2] at hb;exact hb
            simp at z
            rcases z with rfl | rfl
            · rw [e4'] at hb';cases hb'
            · rw [d4'] at hb';cases hb'
          have e49:=s89 _ _ e4'
          have d49:=s89 _ _ d4'
          have St9:qK a (off [tq,dq] H9) nb t.seats m:=by
            refine ⟨dn,sq',mq',qs',ms',?_,⟨?_,S9.len,fun i b r h1 h2=>?_⟩,⟨?_,R9.len,fun i b r h1 h2=>?_⟩⟩
            · rw [wT (fun z=>by
                simp at z
                rcases z with rfl | rfl
                · rw [e4'] at hnb;cases hnb
                · rw [d4'] at hnb;cases hnb)];exact c9
            · rw [wT (fre _ f1)];exact S9.lst
            · have e:=S9.at' i b r h1 h2
              rw [wT (fun z=>by
                simp at z
                rcases z with rfl | rfl
                · rw [e49] at e;cases e
                · rw [d49] at e;cases e)];exact e
            · rw [wT (fre _ f2)];exact R9.lst
            · rw [wT (fre _ (f3 _ (List.mem_of_getElem? h1)))];exact R9.at' i b r h1 h2
          refine ⟨_,lR.k (k:=.inl (m:Int)) d49 (by rw [sizeLine_eq];have:=ok.nl;omega),?_⟩
          have oo:off [tq,dq] (upd H9 dq (.dK (wL kv (.inl (m:Int)) (.ref nb))))=off [tq,dq] H9:=gQ inB
          have so59:jG (off [tq,dq] H5) (off [tq,dq] (upd H9 dq (.dK (wL kv (.inl (m:Int)) (.ref nb))))):=by rw [oo];exact so58.trans (jp5 s89)
          have eqq:(upd H9 dq (.dK (wL kv (.inl (m:Int)) (.ref nb)))) tq=some (.lst (ts.map V.ref)):=by rw [jV qd];exact e49
          refine tail _ _ _ q5 D nb _ so59 eqq jK (by rw [xB,if_pos rfl]) (by rw [oo];exact St9) ?_ ?_ (fin _ _ q5 D so59 eqq jK ?_ ?_)
          · rw [jV (j1 (s89 _ _ e58) d49 (fun z=>nomatch z))];exact s89 _ _ e58
          · rw [jV (j1 (s89 _ _ e8) d49 (fun z=>nomatch z))];exact s89 _ _ e8
          · have:=vJ kv (.inl (m:Int)) (.ref nb);omega
          · intro m' v hv
            rw [xB] at hv
            rw [oo]
            by_cases z:(Sum.inl (m':Int):Key)=.inl (m:Int)
            · rw [if_pos z] at hv
              have z:m'=m:=by have:=Sum.inl.inj z;omega
              subst z
              cases hv
              exact ⟨nb,rfl,St9⟩
            · rw [if_neg z] at hv
              obtain ⟨b,e,St⟩:=stays m' v hv
              exact ⟨b,e,St.same (so58.trans (jp5 s89))⟩
        · obtain ⟨v,hv⟩:∃ v,z9 kv (.inl (m:Int))=some v:=by
            cases z:z9 kv (.inl (m:Int)) with
            | none=>rw [z] at h;simp at h
            | some v=>exact ⟨v,rfl⟩
          obtain ⟨b,rfl,St⟩:=stays m v hv
          exact tail _ _ _ q5 D b _ so58 e4' d4' hv (St.same so58) e58 e8 (fin _ _ q5 D so58 e4' d4' (by omega) fun m v h=>by
            obtain ⟨b,e,St⟩:=stays m v h
            exact ⟨b,e,St.same so58⟩)
    · obtain ⟨s4,ts,tb',kv,u4,u5,u6,u8,u9,rfl,e4,d4,hts,htb',hkv,tabs,stays⟩:=h
      simp only [zH,qT,js4,j4,List.getElem?_cons_succ,List.getElem?_cons_zero,Option.some.injEq,sX,zU,exists_eq_left',true_and,exists_and_left,V.ref.injEq]
      refine ⟨.inl ⟨rfl,_,SqL.of e4⟩,_,e4,?_⟩
      have so:jG (off [tq,dq] H4) (upd H4 tq (.lst (ts.map V.ref).reverse)):=by
        rw [← gQ (A:=[tq,dq]) (H:=H4) (b:=tq) (o:=.lst (ts.map V.ref).reverse) inA]
        exact xX
      refine kk _ tq ts.reverse (s4.trans so) (s1.free hq2) ⟨by rw [jK,List.map_reverse],by rw [List.length_reverse,hts],fun k d h=>?_⟩
      have hkl:k < ts.reverse.length:=by
        rcases Nat.lt_or_ge k ts.reverse.length with z | z
        · exact z
        · rw [List.getElem?_eq_none z] at h;cases h
      rw [List.length_reverse] at hkl
      rw [List.getElem?_reverse hkl,hts] at h
      obtain ⟨bs,Z⟩:=tabs _ d h
      rw [show t.legs+1 - 1 - k=t.legs - k by omega,show t.legs - (t.legs - k)=k by omega] at Z
      exact ⟨bs,Z.same so⟩
end
def qn1:Str:=qualnameIn (envOfC "earliest_seated" (jW iL) 0 0 .none) "price_from_here" "price_from_here"
def qn2:Str:=(envOfC "seat_from" (jW lT) 0 0 .none).qual++"<lambda>"
def CTa (Pa:Addr) (H:Hp):Prop:=Tab Pa ⟨196,4,197,107⟩ qn1 H
def CTb (Pb:Addr) (H:Hp):Prop:=Tab Pb ⟨225,30,225,74⟩ qn2 H
theorem CTa.ex {Pa:Addr} {H:Hp} (h:CTa Pa H):∃ x,H Pa=some (.tbl x):=by
  rcases h with h | ⟨c,h,_⟩
  · exact ⟨_,h⟩
  · exact ⟨_,h⟩
theorem CTb.ex {Pb:Addr} {H:Hp} (h:CTb Pb H):∃ x,H Pb=some (.tbl x):=by
  rcases h with h | ⟨c,h,_⟩
  · exact ⟨_,h⟩
  · exact ⟨_,h⟩
theorem Tab.keep {P:Addr} {pos:Pos} {q:Str} {H H':Hp} (h:Tab P pos q H) (s:jG H H'):Tab P pos q H':=by
  rcases h with h | ⟨c,h,h2⟩
  · exact .inl (s _ _ h)
  · exact .inr ⟨c,s _ _ h,s _ _ h2⟩
def vU (Pa:Addr) (H H':Hp):Prop:=∀ b o,H b=some o→b≠Pa→H' b=some o
theorem jG.keepA {Pa:Addr} {H H':Hp} (s:jG H H'):vU Pa H H':=fun b o e _=>s b o e
theorem vU.trans {Pa:Addr} {H H1 H2:Hp} (h:vU Pa H H1) (h2:vU Pa H1 H2):vU Pa H H2:=fun b o e n=>h2 _ _ (h _ _ e n) n
theorem uM {Pa:Addr} {H H':Hp} {x:Array Value} (h:H Pa=some (.tbl x)) (k:vU Pa H H') {b:Addr} {o:HO} (e:H b=some o) (n:∀ x,o≠.tbl x):H' b=some o:=k _ _ e fun z=>by
  rw [z,h] at e;cases e;exact n _ rfl
theorem jH.keepA {a:Adr} {H H':Hp} {p d l:Addr} {t:Sw77.Train} {dx:Addr} {kvs:TK} {as:List Addr} (X:jH a H p d l t dx kvs as) {Pa:Addr} {x:Array Value} (h:H Pa=some (.tbl x)) (k:vU Pa H H'):jH a H' p d l t dx kvs as :=
  ⟨uM h k X.tr (fun _ z=>nomatch z),uM h k X.dic (fun _ z=>nomatch z),X.bes,X.few,uM h k X.lst (fun _ z=>nomatch z),X.len,fun i q r h1 h2=>let ⟨dx,e⟩:=X.rid i q r h1 h2;⟨dx,uM h k e (fun _ z=>nomatch z)⟩⟩
theorem kU.keepA {a:Adr} {H H':Hp} {d:Addr} {bs:List Addr} {rs:List (List Nat)} {f:List Nat→Nat×Nat} (X:kU a H d bs rs f) {Pa:Addr} {x:Array Value} (h:H Pa=some (.tbl x)) (k:vU Pa H H'):kU a H' d bs rs f :=
  ⟨uM h k X.dic (fun _ z=>nomatch z),X.len,fun i b r e1 e2=>let ⟨dx,e⟩:=X.at' i b r e1 e2;⟨dx,uM h k e (fun _ z=>nomatch z)⟩⟩
theorem xR.keepA {a:Adr} {H H':Hp} {tq:Addr} {ts:List Addr} {t:Sw77.Train} (X:Y.xR a H tq ts t) {Pa:Addr} {x:Array Value} (h:H Pa=some (.tbl x)) (k:vU Pa H H'):Y.xR a H' tq ts t :=
  ⟨uM h k X.lst (fun _ z=>nomatch z),X.len,fun i d e1=>let ⟨bs,e⟩:=X.at' i d e1;⟨bs,kU.keepA e h k⟩⟩
theorem wJ.keepA {H H':Hp} {pp:Addr} {ds:List Addr} {ls:List Pl} (X:wJ H pp ds ls) {Pa:Addr} {x:Array Value} (h:H Pa=some (.tbl x)) (k:vU Pa H H'):wJ H' pp ds ls:=⟨uM h k X.lst (fun _ z=>nomatch z),X.len,X.nd,fun i d l h1 h2=>uM h k (X.at' i d l h1 h2) (fun _ z=>nomatch z)⟩
def xK (kf:List Nat→Nat) (rs:List (List Nat)) (r:List Nat):Prop:=∃ i,rs[i]? = some r∧∀ (j:Nat) s,rs[j]? = some s→kf r≤kf s∧(j < i→kf r < kf s)
section
variable {P:Program} {w:World} {K:W.Frag} {mg:Str→Option Value} {base:Heap} {a:Adr} {Pa Pb:Addr}
def lV (a:Adr) (Pa:Addr):Sp:=fun vs H Q _=>∃ (p d l:Addr) (t:Sw77.Train) (dx:Addr) (kvs:TK) (as:List Addr) (k:Nat) (tb sb:Addr) (bs:List Addr) (rs:List (List Nat)) (f:List Nat→Nat×Nat) (pl:Pl),vs=[.ref p,.int k,.ref tb,.ref sb]∧jH a H p d l t dx kvs as∧wK t∧kU a H tb bs rs f∧rs≠[]∧rs.Nodup∧rs.length≤3125∧H sb=some (.dK (kQ pl))∧(pl.map (·.1)).Nodup∧pl.length≤20∧CTa Pa H ∧
  ∀ (H':Hp) (q:Addr) (r:List Nat),vU Pa H H'→CTa Pa H'→H q=none→H' q=some (.dK (kQ ((t.on k).zip r)))→xK (fun r=>t.costs.move * movesB pl ((t.on k).zip r)+(f r).1) rs r→Q (.ref q) H'
theorem jc2:jD ["train","leg","table","seated_before","aboard","price_from_here"] ["train","leg","table","seated_before"] (jW iL):=⟨rfl,rfl,rfl,by decide +kernel,rfl,by decide +kernel,by decide +kernel⟩
abbrev nsA:Stmt:=(jF iL)[1]'(by decide)
theorem frA:∀ y∈(jW nsA).names,y.2=.free→(jW iL).names.lookup y.1=some .cell:=by decide +kernel
theorem clA:u0 ["train","leg","table","seated_before","aboard","price_from_here"] (jW iL) "sitting" [("train",0),("table",2),("seated_before",3),("aboard",4)] (jW nsA):=⟨rfl,rfl,rfl,rfl,by decide +kernel,by decide +kernel,frA⟩
theorem jmX (T:Txt K mg a) (N1:g0 mg base a.c_xe Pa):vA P w K mg base CX0 9 a.f_xe a.d_xe ["train","leg","table","seated_before"] (lV a Pa):=by
  have nd:=jc2.nd
  have G_qg:=(tO (P:=P) (w:=w) (base:=base) T).mono (k:=8) (by decide)
  have G_qn:=(jhZ (P:=P) (w:=w) (base:=base) T).mono (k:=6) (by decide)
  refine T.F_xe.okC T.hc_xe jc2 (fun vs H Q E h=>?_) (fun A outer s H vs Q E hr h=>?_)
  · obtain ⟨p,d,l,t,dx,kvs,as,k,tb,sb,bs,rs,f,pl,rfl,X,ok,Y,hne,nd2,hrl,hsb,nl,ll,ct,kk⟩:=h
    rfl
  · obtain ⟨p,d,l,t,dx,kvs,as,k,tb,sb,bs,rs,f,pl,rfl,X,ok,Y,hne,nd2,hrl,hsb,nl,ll,ct,kk⟩:=h
    have hu:=kE hr
    refine ⟨_,(jZ (kJ 4 nd (zR (pv 0) T.cl_Train T.m_qg G_qg hr T.b_qg .nil jU (jJ (pv 1) jQ)))
(jZ (jd0 (i:=5) nd rfl (.inl rfl) N1 rfl (hfree:=frA))
(jY (jC (pdz K true false T.n_dict T.n_zip (jJ (pv 4) (jJ (ju0 rfl rfl T.n_min (gY (xM rfl) rfl T.n_list jzV (jJ (pv 2) jQ)) (pv 5)) jQ))))))),?_⟩
    rw [show j7 ["train","leg","table","seated_before","aboard","price_from_here"] [.ref p,.int k,.ref tb,.ref sb]=[some (.ref p),some (.int k),some (.ref tb),some (.ref sb),none,none] from rfl]
    simp only [zH,wI,wM,j4,List.getElem?_cons_zero,Option.some.injEq,jN,List.getElem?_cons_succ,kN,List.append_nil,jI,js5,iR,zU,uR,List.set_cons_succ,List.set_cons_zero,jrZ,tCB,List.cons.injEq,and_true,V.ref.injEq,uN,and_assoc,exists_and_left,exists_eq_left',X.tr,HO.ins.injEq,true_and,gW]
    refine ⟨p,d,l,t,dx,kvs,as,k,rfl,X,ok.nr,fun H1 q1 s1 hq1 e1=>⟨Tab.keep ct s1,fun fa c H2 hfa ef ec ct2 k2=>?_⟩⟩
    obtain ⟨xt,hxt⟩:=CTa.ex (Tab.keep ct s1:CTa Pa H1)
    have X2:=jH.keepA (X.same s1) hxt k2
    have Y2:=kU.keepA (Y.same s1) hxt k2
    have sb2:=uM hxt k2 (s1 _ _ hsb) (fun _ z=>nomatch z)
    have e12:=uM hxt k2 e1 (fun _ z=>nomatch z)
    have k02:vU Pa H H2:=(jG.keepA s1).trans k2
    refine ⟨_,.inl Y2.dic,fun ll' qs hll hqs hkeys=>?_⟩
    have s23:jG H2 (upd H2 ll' (.lst (qs.map V.ref))):=jG.new hll
    have eL:(upd H2 ll' (.lst (qs.map V.ref))) ll'=some (.lst (qs.map V.ref)):=jK
    have hqs:qs.length=rs.length:=by rw [hqs,zG Y2.len]
    have hk3:∀ (i:Nat) (r:List Nat),rs[i]? = some r→∃ q,qs[i]? = some q∧H2 q=some (.tup (vNs r)):=fun i r hr'=>by
      obtain ⟨b,hb⟩:∃ b,bs[i]? = some b:=⟨_,List.getElem?_eq_getElem (by rw [Y.len];exact (List.getElem?_eq_some_iff.mp hr').1)⟩
      obtain ⟨q,h1,h2⟩:=hkeys i _ _ (bQ hr' hb)
      rw [wB] at h2
      exact ⟨q,h1,h2⟩
    generalize upd H2 ll' (.lst (qs.map V.ref))=H3 at s23 eL
    have X3:=X2.same s23
    have Y3:=Y2.same s23
    refine ⟨qs.map V.ref,fun H'=>jG H3 H',jG.refl _,fun H' s=>SqL.of (s _ _ eL),by rw [List.length_map,hqs];exact List.length_pos_iff.mpr hne,fun i=>((t.costs.move * movesB pl ((t.on k).zip (rs.getD i []))+(f (rs.getD i [])).1:Nat):Int),?_,?_⟩
    · intro i y u pins s' H' hy ry I hJ
      rw [List.getElem?_map] at hy
      obtain ⟨r,hr'⟩:∃ r,rs[i]? = some r:=by
        cases z:rs[i]? with
        | some r=>exact ⟨r,rfl⟩
        | none =>
          rw [List.getElem?_eq_none_iff,← hqs,← List.getElem?_eq_none_iff] at z
          rw [z] at hy;cases hy
      obtain ⟨q,hq,eq⟩:=hk3 i r hr'
      rw [hq] at hy
      have hy:V.ref q=y:=by simpa using hy
      subst hy
      have hrr:wU 7 (A.deeper (envOfC (Str.ofString "earliest_seated") (jW iL) s.heap.objs.size a.f_xe (Value.ref a.c_xe))).in1:=hr.in1
      refine ju3 (k:=6) I clA hrr I.ok.frames ry (hJ _ _ (s23 _ _ ef)) (hJ _ _ (s23 _ _ ec)) (fun doc pm ctv=>.of_eq rfl) ?_
      have hr2:=fun env=>wU.deeper hrr env
      have hu2:=fun env=>kE (hr2 env)
      have ndc:(["sitting","train","table","seated_before","aboard"]:List Str).Nodup:=by decide +kernel
      refine ⟨_,(jY (jC (zK zX (zK rZ (zJ K (pv 1)) (jP G_qn (hr2 _) rfl T.g_qn T.F_qn.kp T.b_qn .nil jU (jJ (pv 3) (jJ (pdz K true false T.n_dict T.n_zip (jJ (pv 4) (jJ (pv 0) jQ))) jQ)))) (zJ K (vI (hu2 _) (pv 2) (pv 0) (fun _ _=>rfl)))))),?_⟩
      rw [show gN [some (V.ref p),some (V.int k),some (V.ref tb),some (V.ref sb),some (V.ref q1),some (V.ref fa)] (V.ref q) [("train",0),("table",2),("seated_before",3),("aboard",4)]=[some (V.ref q),some (V.ref p),some (V.ref tb),some (V.ref sb),some (V.ref q1)] from rfl]
      have X4:=X3.same hJ
      simp only [zU,tOp,uQ,j4,List.getElem?_cons_succ,List.getElem?_cons_zero,Option.some.injEq,vG,jN,uR,kN,List.cons.injEq,and_true,List.append_nil,rI,yM,rI0,V.int.injEq,exists_and_left,exists_eq_left',V.ref.injEq,and_assoc,X4.tr,HO.ins.injEq,z0,T.cl_Train,T.no_Train_move,true_and]
      have hq':=hJ _ _ (s23 _ _ eq)
      have sb4:=hJ _ _ (s23 _ _ sb2)
      refine ⟨(t.on k).map fun i:Nat=>(Sum.inl (i:Int):Key),SqL.of (by rw [hJ _ _ (s23 _ _ e12),List.map_map];rfl),vNs r,SqT.of hq',fun z hz=>?_⟩
      rw [uC (wE t k)]
      have sz:jG H' (upd H' z (.dK (kQ ((t.on k).zip r)))):=jG.new hz
      obtain ⟨b,hb,dxb,eb⟩:=(Y3.same hJ).get nd2 (List.mem_of_getElem? hr')
      refine ⟨sb,z,pl,_,rfl,sz _ _ sb4,jK,jX sb4 hz,nl,ll,fun H5 s5=>?_⟩
      have s45:=sz.trans s5
      have gt:qO H5 tb (.ref q) (some (.ref b)):=by
        rw [← hb]
        exact qO.t (k:=qI r) (s45 _ _ (Y3.same hJ).dic) (by rw [wB];exact s45 _ _ hq')
      refine ⟨_,rfl,.inl ⟨by have:=ok.c1;omega,by have:=ok.c1;omega⟩,_,gt,b,rfl,_,_,_,s45 _ _ eb,T.cl_Least,T.no_Least_price,_,k8,_,rfl,?_,hJ.trans s45⟩
      rw [List.getD_eq_getElem?_getD,hr']
      simp only [Option.getD_some,Int.natCast_add,Int.natCast_mul]
    · intro i y H' hy hbest hJ
      rw [List.getElem?_map] at hy
      obtain ⟨r,hr'⟩:∃ r,rs[i]? = some r:=by
        cases z:rs[i]? with
        | some r=>exact ⟨r,rfl⟩
        | none =>
          rw [List.getElem?_eq_none_iff,← hqs,← List.getElem?_eq_none_iff] at z
          rw [z] at hy;cases hy
      obtain ⟨q,hq,eq⟩:=hk3 i r hr'
      rw [hq] at hy
      have hy:V.ref q=y:=by simpa using hy
      subst hy
      refine ⟨q1,rfl,q,rfl,(t.on k).map fun i:Nat=>(Sum.inl (i:Int):Key),SqL.of (by rw [hJ _ _ (s23 _ _ e12),List.map_map];rfl),vNs r,SqT.of (hJ _ _ (s23 _ _ eq)),fun z hz=>?_⟩
      rw [uC (wE t k)]
      have s2:jG H2 H':=s23.trans hJ
      have s2z:jG H2 (upd H' z (.dK (kQ ((t.on k).zip r)))):=s2.trans (jG.new hz)
      refine kk _ z r (k02.trans (jG.keepA s2z)) (Tab.keep ct2 s2z) ?_ jK ⟨i,hr',fun j s hj=>?_⟩
      · cases e:H z with
        | none=>rfl
        | some o =>
          by_cases zP:z=Pa
          · obtain ⟨x,hx⟩:=CTa.ex (ct2:CTa Pa H2)
            rw [zP] at hz
            rw [s2 _ _ hx] at hz;cases hz
          · rw [s2 _ _ (k02 _ _ e zP)] at hz;cases hz
      · have hjl:j < (qs.map V.ref).length:=by rw [List.length_map,hqs];exact (List.getElem?_eq_some_iff.mp hj).1
        have hb:=hbest j hjl
        simp only [List.getD_eq_getElem?_getD,hr',hj,Option.getD_some] at hb
        show t.costs.move * movesB pl ((t.on k).zip r)+(f r).1≤t.costs.move * movesB pl ((t.on k).zip s)+(f s).1∧(j < i→t.costs.move * movesB pl ((t.on k).zip r)+(f r).1 < t.costs.move * movesB pl ((t.on k).zip s)+(f s).1)
        exact ⟨by omega,fun h=>by have:=hb.2 h;omega⟩
end
def kY (t:Sw77.Train) (rows:List (List Nat)):List Pl:=rows.zipIdx.map fun x=>(t.on x.2).zip x.1
def qP (t:Sw77.Train) (rows:List (List Nat)):Nat→Pl
  | 0=>[]
  | k+1=>(t.on k).zip (rows.getD k [])
def bN (t:Sw77.Train) (rows:List (List Nat)):Prop:=∀ (k:Nat) (r:List Nat),rows[k]? = some r→xK (fun r=>t.costs.move * movesB (qP t rows k) ((t.on k).zip r)+(xF t (t.legs - k) r).1) (zO t k) r
theorem wQ (t:Sw77.Train) (rows:List (List Nat)):(kY t rows).length=rows.length:=by unfold kY;simp
theorem mF (t:Sw77.Train) (rows:List (List Nat)) (r:List Nat):kY t (rows++[r])=kY t rows++[(t.on rows.length).zip r]:=by
  unfold kY;rw [List.zipIdx_append,List.map_append];simp
theorem ju2 (t:Sw77.Train) (rows:List (List Nat)):∀ k,((qP t rows k).map (·.1)).Nodup
  | 0=>List.nodup_nil
  | k+1=>uX (wE t k)
theorem jjV {t:Sw77.Train} (h:t.riders.length≤20) (rows:List (List Nat)):∀ k,(qP t rows k).length≤20
  | 0=>Nat.zero_le _
  | k+1=>by
    show ((t.on k).zip (rows.getD k [])).length≤20
    rw [List.length_zip];have:=sK t k;omega
theorem rH (t:Sw77.Train) (rows:List (List Nat)) (r:List Nat):∀ k,k≤rows.length→qP t (rows++[r]) k=qP t rows k
  | 0,_=>rfl
  | k+1,h=>by
    show (t.on k).zip ((rows++[r]).getD k [])=(t.on k).zip (rows.getD k [])
    rw [List.getD_eq_getElem?_getD,List.getD_eq_getElem?_getD,List.getElem?_append_left (by omega)]
theorem bN.snoc {t:Sw77.Train} {rows:List (List Nat)} {r:List Nat} (G:bN t rows) (h:xK (fun r=>t.costs.move * movesB (qP t rows rows.length) ((t.on rows.length).zip r)+(xF t (t.legs - rows.length) r).1) (zO t rows.length) r):bN t (rows++[r]):=by
  intro k r' e
  rcases Nat.lt_or_ge k rows.length with hk | hk
  · rw [List.getElem?_append_left hk] at e
    rw [rH t rows r k (by omega)]
    exact G k r' e
  · rw [List.getElem?_append_right hk] at e
    have ek:k - rows.length=0:=by
      cases z:k - rows.length with
      | zero=>rfl
      | succ m=>rw [z] at e;simp at e
    rw [ek] at e
    have e:r=r':=by simpa using e
    subst e
    have:k=rows.length:=by omega
    subst this
    rw [rH t rows r _ (Nat.le_refl _)]
    exact h
section
variable {P:Program} {w:World} {K:W.Frag} {mg:Str→Option Value} {base:Heap} {a:Adr} {Pa Pb:Addr}
def fW (a:Adr) (Pa:Addr):Sp:=fun vs H Q _=>∃ (p d l:Addr) (t:Sw77.Train) (dx:Addr) (kvs:TK) (as:List Addr) (tq:Addr) (ts:List Addr),vs=[.ref p,.ref tq]∧jH a H p d l t dx kvs as∧wK t∧Y.xR a H tq ts t∧CTa Pa H ∧
  ∀ (H':Hp) (pp:Addr) (ds:List Addr) (rows:List (List Nat)),vU Pa H H'→CTa Pa H'→H pp=none→rows.length=t.legs→bN t rows→wJ H' pp ds (kY t rows)→Q (.ref pp) H'
theorem jc3:jD ["train","tables","plan","seated","leg"] ["train","tables"] (jW jx3):=⟨rfl,rfl,rfl,by decide +kernel,rfl,by decide +kernel,by decide +kernel⟩
theorem jf2 (T:Txt K mg a) (N1:g0 mg base a.c_xe Pa):vA P w K mg base CX0 11 a.f_xf a.d_xf ["train","tables"] (fW a Pa):=by
  have nd:=jc3.nd
  have G_xe:=(jmX (P:=P) (w:=w) (base:=base) T N1).mono (k:=10) (by decide)
  refine T.F_xf.ok jc3 (fun vs H Q E h=>?_) (fun cdv A outer s H vs Q E hr h=>?_)
  · obtain ⟨p,d,l,t,dx,kvs,as,tq,ts,rfl,X,ok,Ts,ct,kk⟩:=h
    rfl
  · obtain ⟨p,d,l,t,dx,kvs,as,tq,ts,rfl,X,ok,Ts,ct,kk⟩:=h
    have hu:=kE hr
    refine ⟨_,(jZ (kJ 2 nd (kR jQ))
(jZ (kJ 3 nd sZ)
(jZ (yR (zM rfl T.n_range (jJ (zJ K (pv 0)) jQ)) (pgn 4 nd)
(jZ (kJ 3 nd (jP G_xe hr rfl T.g_xe T.F_xe.kp T.b_xe .nil jU (jJ (pv 0) (jJ (pv 4) (jJ (vY (jT K) (pv 1) (pv 4) (fun _ _=>rfl)) (jJ (pv 3) jQ))))))
(jY (vP (qC PySem.F.plainAttrs_list PySem.F.slot_list_append PySem.F.type_list_append vD (pv 2) (jJ (pv 3) jQ))))))
(jY (jC (pv 2)))))),?_⟩
    rw [show j7 ["train","tables","plan","seated","leg"] [.ref p,.ref tq]=[some (.ref p),some (.ref tq),none,none,none] from rfl]
    simp only [zH,wI,dJ,kN,jI,i7,kO,uN,List.set_cons_succ,List.set_cons_zero,zQ,cC,jN,uQ,j4,List.getElem?_cons_zero,Option.some.injEq,List.cons.injEq,and_true,exists_and_left,exists_eq_left',V.ref.injEq]
    refine ⟨by show 0≤sizeLine;decide,fun pp hpp sd hsd=>?_⟩
    have s1:jG H (upd H pp (.lst [])):=jG.new hpp
    have s2:jG (upd H pp (.lst [])) (upd (upd H pp (.lst [])) sd (.dK [])):=jG.new (by rw [jV hsd.1];exact hsd.2)
    have e1:(upd (upd H pp (.lst [])) sd (.dK [])) pp=some (.lst []):=by rw [jV hsd.1.symm,jK]
    have e2:(upd (upd H pp (.lst [])) sd (.dK [])) sd=some (.dK []):=jK
    have sT:=s1.trans s2
    obtain ⟨xt,hxt⟩:=CTa.ex ct
    have pPa:pp≠Pa:=(jX hxt hpp).symm
    generalize upd (upd H pp (.lst [])) sd (.dK [])=H1 at e1 e2 sT
    have hlg:=ok.nl
    refine ⟨_,_,_,sT _ _ X.tr,T.cl_Train,T.no_Train_legs,_,rfl,_,rfl,by omega,by omega,?_⟩
    rw [show ((t.legs:Int)).toNat=t.legs by omega]
    refine tG (J:=Itr 0 t.legs) (n:=t.legs) (fun j σ H'=>vU Pa H H'∧CTa Pa H'∧∃ (ds:List Addr) (rows:List (List Nat)) (cur:Addr) (u4:Option V),σ=[some (.ref p),some (.ref tq),some (.ref pp),some (.ref cur),u4]∧rows.length=j∧bN t rows∧wJ H' pp ds (kY t rows)∧H' cur=some (.dK (kQ (qP t rows j))))
      ⟨jG.keepA sT,Tab.keep ct sT,[],[],sd,none,rfl,rfl,fun k r h=>by simp at h,⟨e1,rfl,List.nodup_nil,fun i d l h=>by simp at h⟩,e2⟩ (fun j σ H' hj h=>hj) (fun σ H' h=>Nat.le_refl _) (fun j σ H2 x H3 hj h hy=>?_) (fun σ H2 h=>?_)
    · obtain ⟨rfl,hx⟩:=hy
      obtain ⟨k2,ct2,ds,rows,cur,u4,rfl,hj',G,PL,hc⟩:=h
      have hx:x=.int (j:Nat):=by rw [hx];congr 1;omega
      subst hx
      obtain ⟨xt2,hxt2⟩:=CTa.ex ct2
      have X2:=jH.keepA X hxt k2
      have Ts2:=xR.keepA Ts hxt k2
      obtain ⟨tb,htb⟩:∃ tb,ts[j]? = some tb:=⟨_,List.getElem?_eq_getElem (by rw [Ts.len];omega)⟩
      obtain ⟨bs,Tb⟩:=Ts2.at' j tb htb
      simp only [jI,zH,wI,vG,jN,j4,List.set_cons_succ,List.set_cons_zero,List.getElem?_cons_zero,Option.some.injEq,List.getElem?_cons_succ,tOp,fZ,kN,List.append_nil,qT,tBM,zS,List.cons.injEq,and_true,true_and,and_assoc,exists_and_left,exists_eq_left',V.ref.injEq,V.int.injEq]
      refine ⟨_,SqL.of Ts2.lst,.ref tb,vK (by rw [List.getElem?_map,htb];rfl),?_⟩
      refine ⟨p,d,l,t,dx,kvs,as,j,tb,cur,bs,_,_,_,rfl,X2,ok,Tb,ok.sne j hj,yP _ _,wP ok.ns (ok.on5 _),hc,ju2 t rows j,jjV ok.nr rows j,ct2,fun H4 q r k4 ct4 hq eq fm=>?_⟩
      have PL4:=wJ.keepA PL hxt2 k4
      have qpp:q≠pp:=(jX PL.lst hq).symm
      have ppl:=PL4.lst
      have lr:ds.length=rows.length:=by rw [PL.len,wQ]
      refine ⟨.inl ⟨rfl,_,SqL.of ppl⟩,_,ppl,by rw [List.length_map,lr,sizeLine_eq];omega,fun b o e n=>?_,?_,ds++[q],rows++[r],q,rfl,by rw [List.length_append,hj'];rfl,?_,?_,?_⟩
      · rw [jV (jX e hpp)]
        exact k4 _ _ (k2 _ _ e n) n
      · rcases ct4 with h | ⟨c,h,h2⟩
        · exact .inl (by rw [jV pPa.symm];exact h)
        · exact .inr ⟨c,by rw [jV pPa.symm];exact h,by rw [jV (j1 h2 ppl (fun z=>nomatch z))];exact h2⟩
      · subst hj'
        exact G.snoc fm
      · rw [mF,hj']
        refine ⟨by rw [jK,List.map_append];rfl,by rw [List.length_append,List.length_append,PL.len];rfl,?_,fun i d' l' h1 h2=>?_⟩
        · rw [List.nodup_append]
          refine ⟨PL.nd,by simp,fun x hx y hy z=>?_⟩
          have hy:y=q:=by simpa using hy
          obtain ⟨i,hi,ei⟩:=List.getElem_of_mem hx
          have:=PL.at' i x ((kY t rows)[i]'(by rw [← PL.len];exact hi)) (by rw [List.getElem?_eq_getElem hi,ei]) (List.getElem?_eq_getElem _)
          rw [z,hy,hq] at this;cases this
        · rcases Nat.lt_or_ge i ds.length with hi | hi
          · rw [List.getElem?_append_left hi] at h1
            rw [List.getElem?_append_left (by rw [← PL.len];exact hi)] at h2
            have e:=PL4.at' i d' l' h1 h2
            rw [jV (j1 e ppl (fun z=>nomatch z))]
            exact e
          · rw [List.getElem?_append_right hi] at h1
            rw [List.getElem?_append_right (by rw [← PL.len];exact hi),← PL.len] at h2
            have ei:i - ds.length=0:=by
              cases z:i - ds.length with
              | zero=>rfl
              | succ m=>rw [z] at h1;simp at h1
            rw [ei] at h1 h2
            have h1:q=d':=by simpa using h1
            have h2:(t.on j).zip r=l':=by simpa using h2
            subst h1 h2
            rw [jV qpp];exact eq
      · rw [jV qpp,eq]
        show some (HO.dK (kQ ((t.on j).zip r)))=some (HO.dK (kQ ((t.on j).zip ((rows++[r]).getD j []))))
        rw [List.getD_eq_getElem?_getD,List.getElem?_append_right (by omega),hj',Nat.sub_self]
        rfl
    · obtain ⟨k2,ct2,ds,rows,cur,u4,rfl,hj',G,PL,hc⟩:=h
      exact ⟨_,rfl,kk _ pp ds rows k2 ct2 hpp hj' G PL⟩
end
def z7 (ls:List Pl) (i:Nat):List Nat:=(ls.filter fun l=>(l.lookup i).isSome).map fun l=>(l.lookup i).getD 0
structure pY (H:Hp) (g:Addr) (n:Int) (ls:List (List Nat)):Prop where
  ex:∃ (c:Addr) (bs:List Addr),H g=some (.tup [.int n,.ref c])∧vM H c bs ls
structure jpJ (t:Sw77.Train):Prop where
  nr:t.riders.length≤20
  ns:t.seats≤5
  nl:t.legs≤8
  c1:t.costs.move≤10000
  c2:t.costs.wish≤10000
  c3:t.costs.apart≤10000
def vR (t:Sw77.Train):Nat×Nat:=yE (fun r=>kW r [] []) (xF t t.legs) (zO t 0) []
section
variable {P:Program} {w:World} {K:W.Frag} {mg:Str→Option Value} {base:Heap} {a:Adr} {Pa Pb:Addr}
def i4:Sp:=fun vs H Q _=>∃ (pp:Addr) (ds:List Addr) (ls:List Pl) (i:Nat),vs=[.ref pp,.int i]∧wJ H pp ds ls∧ls.length≤20∧∀ (H':Hp) (q:Addr),jG H H'→H q=none→H' q=some (.lst (vNs (z7 ls i)))→Q (.ref q) H'
theorem jc4:jD ["plan","i","seated"] ["plan","i"] (jW jx4):=⟨rfl,rfl,rfl,by decide +kernel,rfl,by decide +kernel,by decide +kernel⟩
theorem jmY (T:Txt K mg a):vA P w K mg base CX0 3 a.f_xg a.d_xg ["plan","i"] (i4):=by
  have nd:=jc4.nd
  refine T.F_xg.ok jc4 (fun vs H Q E h=>?_) (fun cdv A outer s H vs Q E hr h=>?_)
  · obtain ⟨pp,ds,ls,i,rfl,X,hl,kk⟩:=h
    rfl
  · obtain ⟨pp,ds,ls,i,rfl,X,hl,kk⟩:=h
    have hu:=kE hr
    refine ⟨_,(jY (jC (plc [("seated",2)] nd (v3 (pv 0)) (by intro _ _ _ _ _;exact (pgn 2 nd)) (by intro _ _ _ _ _;exact (zN (rD (iX hu (pv 1) (pv 2))))) (by intro _ _ _ _ _;exact (vI hu (pv 2) (pv 1) (fun _ _=>rfl)))))),?_⟩
    rw [show j7 ["plan","i","seated"] [.ref pp,.int i]=[some (.ref pp),some (.int i),none] from rfl]
    simp only [zU,uN,List.map_cons,List.map_nil,vX,yZ,j4,List.getElem?_cons_zero,Option.some.injEq,exists_eq_left',V.ref.injEq]
    refine ⟨⟨_,SqL.of X.lst⟩,?_⟩
    refine lcb (J:=Itl K pp) (n:=ls.length) (fm ls (fun l=>(l.lookup i).isSome) fun l=>vN ((l.lookup i).getD 0)) kC (fun j H' hi s=>⟨_,V.ref (ds[j]'(by rw [X.len];exact hi)),SqL.of (s _ _ X.lst),by simp [X.len,hi]⟩) (fun H' s=>⟨_,SqL.of (s _ _ X.lst),by simp [X.len]⟩) (fun D j H' x H2 hD hi pv hy=>?_) (fun D H' hD s e=>?_)
    · obtain ⟨rfl,hx⟩:=hy
      have hx:=hx _ (SqL.of (pv.1 _ _ X.lst))
      obtain ⟨g,hg⟩:∃ g,ds[j]? = some g:=⟨_,List.getElem?_eq_getElem (by rw [X.len];exact hi)⟩
      obtain ⟨l,hl'⟩:∃ r,ls[j]? = some r:=⟨_,List.getElem?_eq_getElem hi⟩
      rw [List.getElem?_map,hg] at hx
      have hx:V.ref g=x:=by simpa using hx
      subst hx
      have eg:=pv.1 _ _ (X.at' j g l hg hl')
      simp only [jI,v5,List.set_cons_succ,List.set_cons_zero,tB,jp7,j4,List.getElem?_cons_succ,List.getElem?_cons_zero,Option.some.injEq,V.bl.injEq,yM,exists_and_left,exists_eq_left',V.ref.injEq,true_and]
      refine ⟨_,qO.k (k:=.inl (i:Int)) eg,?_⟩
      rw [zW]
      cases e:l.lookup i with
      | none=>exact lcN pv (jG.refl _) (y4 hl' (by simp [e]))
      | some sx =>
        have:=lcY pv hD (jG.refl _) (vL hl' (by simp [e])) (wV (m:=20) hl (by decide))
        rw [e] at this
        exact ⟨vN sx,by have h2:=qO.k (k:=.inl (i:Int)) eg;rw [zW,e] at h2;exact h2,this⟩
    · rw [vT rfl] at e
      refine kk H' D s hD ?_
      rw [e];unfold z7 vNs;rw [List.map_map];rfl
def jcY (a:Adr) (Pa:Addr):Sp:=fun vs H Q _=>∃ (p d l:Addr) (t:Sw77.Train) (dx:Addr) (kvs:TK) (as:List Addr),vs=[.ref p]∧jH a H p d l t dx kvs as∧jpJ t∧(t.crowded.isSome=false→wK t)∧CTa Pa H ∧
  (t.crowded.isSome=true→∀ (H':Hp) (g:Addr),jG H H'→pY H' g (-6) []→Q (.ref g) H') ∧
  (t.crowded.isSome=false→∀ (H':Hp) (g:Addr) (rows:List (List Nat)),vU Pa H H'→CTa Pa H'→rows.length=t.legs→bN t rows→pY H' g (vR t).1 ([(vR t).2] :: (List.range t.riders.length).map fun i=>z7 (kY t rows) i)→Q (.ref g) H')
theorem jc5:jD ["train","tables","plan","least","i"] ["train"] (jW jx5):=⟨rfl,rfl,rfl,by decide +kernel,rfl,by decide +kernel,by decide +kernel⟩
theorem jn0 (T:Txt K mg a) (N1:g0 mg base a.c_xe Pa):vA P w K mg base CX0 13 a.f_xh a.d_xh ["train"] (jcY a Pa):=by
  have nd:=jc5.nd
  have G_qi:=(jhK (P:=P) (w:=w) (base:=base) T).mono (k:=12) (by decide)
  have G_xd:=(jf1 (P:=P) (w:=w) (base:=base) T).mono (k:=12) (by decide)
  have G_xf:=(jf2 (P:=P) (w:=w) (base:=base) T N1).mono (k:=12) (by decide)
  have G_xa:=(jf0 (P:=P) (w:=w) (base:=base) T).mono (k:=12) (by decide)
  have G_xg:=(jmY (P:=P) (w:=w) (base:=base) T).mono (k:=12) (by decide)
  refine T.F_xh.ok jc5 (fun vs H Q E h=>?_) (fun cdv A outer s H vs Q E hr h=>?_)
  · obtain ⟨p,d,l,t,dx,kvs,as,rfl,X,tok,ok,ct,kn,kk⟩:=h
    rfl
  · obtain ⟨p,d,l,t,dx,kvs,as,rfl,X,tok,ok,ct,kn,kk⟩:=h
    have hu:=kE hr
    refine ⟨_,(jZ (zV (jd5 K (xY (pv 0) T.cl_Train T.m_qi G_qi hr T.b_qi .nil jU))
(jY (jC (v0 (jJ (j2 rfl T.g_TOO_FEW_SEATS) (jJ (kR jQ) jQ)))))
j6)
(jZ (kJ 1 nd (jP G_xd hr rfl T.g_xd T.F_xd.kp T.b_xd .nil jU (jJ (pv 0) jQ)))
(jZ (kJ 2 nd (jP G_xf hr rfl T.g_xf T.F_xf.kp T.b_xf .nil jU (jJ (pv 0) (jJ (pv 1) jQ))))
(jZ (kJ 3 nd (vI hu (jP G_xa hr rfl T.g_xa T.F_xa.kp T.b_xa .nil jU (jJ (vY (jT K) (pv 1) jA (fun _ _=>rfl)) (jJ (kR jQ) (jJ (kR jQ) jQ)))) (v0 jQ) (fun _ _=>rfl)))
(jY (jC (v0 (jJ (zJ K (pv 3)) (jJ (zK jf5 (kR (jJ (kR (jJ (zJ K (pv 3)) jQ)) jQ)) (plc [("i",4)] nd (zM rfl T.n_range (jJ (jL (j8 K) rfl T.n_len vF (jJ (zJ K (pv 0)) jQ)) jQ)) (by intro _ _ _ _ _;exact (pgn 4 nd)) (by intro _ _ _ _ _;exact v4) (by intro _ _ _ _ _;exact (jP G_xg hr rfl T.g_xg T.F_xg.kp T.b_xg .nil jU (jJ (pv 2) (jJ (pv 4) jQ)))))) jQ))))))))),?_⟩
    rw [show j7 ["train","tables","plan","least","i"] [.ref p]=[some (.ref p),none,none,none,none] from rfl]
    simp only [zH,gE,wM,j4,List.getElem?_cons_zero,Option.some.injEq,kN,List.append_nil,zU,sS,jN,tC,dJ,kO,zT,wI,vG,jI,List.set_cons_succ,List.set_cons_zero,List.getElem?_cons_succ,yM,tOp,fZ,V.int.injEq,uQ,exists_and_left,List.map_cons,List.map_nil,vX,cC,tCB,List.cons.injEq,and_true,exists_eq_left',V.ref.injEq,X.tr,HO.ins.injEq,true_and,and_assoc,jv8]
    refine ⟨p,d,l,t,dx,kvs,as,rfl,X,tok.nr,tok.nl,fun H1 s1=>⟨_,rfl,?_⟩⟩
    refine wY (fun h=>⟨by show 0≤sizeLine;decide,fun b hb=>⟨by show 2≤sizeLine;decide,fun c hc=>?_⟩⟩) (fun h=>?_)
    · have sb:jG H1 (upd H1 b (.lst [])):=jG.new hb
      have sc:jG (upd H1 b (.lst [])) (upd (upd H1 b (.lst [])) c (.tup [V.int (-6),V.ref b])):=jG.new (by rw [jV hc.1];exact hc.2)
      exact kn h _ c (s1.trans (sb.trans sc)) ⟨b,[],jK,by rw [jV hc.1.symm,jK];rfl,rfl,fun i d r h=>by simp at h⟩
    · have h:t.crowded.isSome=false:=by simpa using h
      have ok:=ok h
      refine ⟨p,d,l,t,dx,kvs,as,rfl,X.same s1,ok,fun H2 tq ts s2 htq Ts=>?_⟩
      have s02:=s1.trans s2
      have ct2:CTa Pa H2:=Tab.keep ct s02
      refine ⟨p,d,l,t,dx,kvs,as,tq,ts,rfl,X.same s02,ok,Ts,ct2,fun H3 pp ds rows k3 ct3 hpp hrows G PL=>?_⟩
      obtain ⟨xt2,hxt2⟩:=CTa.ex ct2
      have Ts3:=xR.keepA Ts hxt2 k3
      have X3:=jH.keepA (X.same s02) hxt2 k3
      have k03:vU Pa H H3:=(jG.keepA s02).trans k3
      have hne0:zO t 0≠[]:=by
        rcases Nat.eq_zero_or_pos t.legs with z | z
        · have:=ok.last
          rw [z] at this
          unfold zO
          rw [this]
          simp [kP]
        · exact ok.sne 0 z
      obtain ⟨tb,htb⟩:∃ tb,ts[0]? = some tb:=⟨_,List.getElem?_eq_getElem (by rw [Ts.len];omega)⟩
      obtain ⟨bs,Tb⟩:=Ts3.at' 0 tb htb
      refine ⟨tq,rfl,_,SqL.of Ts3.lst,.ref tb,vK (i:=0) (by rw [List.getElem?_map,htb];rfl),by show 0≤sizeLine;decide,fun b1 hb1=>⟨by show 0≤sizeLine;decide,fun b2 hb2=>?_⟩⟩
      have sb1:jG H3 (upd H3 b1 (.lst [])):=jG.new hb1
      have sb2:jG (upd H3 b1 (.lst [])) (upd (upd H3 b1 (.lst [])) b2 (.lst [])):=jG.new (by rw [jV hb2.1];exact hb2.2)
      have sb:=sb1.trans sb2
      refine ⟨tb,b1,b2,bs,_,_,[],[],rfl,Tb.same sb,by rw [jV hb2.1.symm,jK];rfl,by rw [jK];rfl,wP ok.ns (ok.on5 _),by simp,fun H4 F bs4 s4 hF T4=>⟨by show 0≤sizeLine;decide,fun b4 hb4=>?_⟩⟩
      have sb4:jG H4 (upd H4 b4 (.tup [])):=jG.new hb4
      have s34:=sb.trans (s4.trans sb4)
      have hin:([]:List Nat)∈jM (fun r=>kW r [] []) (zO t 0):=by
        obtain ⟨r,hr'⟩:=List.exists_mem_of_ne_nil _ hne0
        exact wZ.mpr ⟨r,hr',rfl⟩
      obtain ⟨b,hbv,dxb,eb⟩:=(T4.same sb4).get (qB _) hin
      have gt:qO (upd H4 b4 (.tup [])) F (.ref b4) (some (.ref b)):=by
        rw [← hbv]
        exact qO.t (k:=qI []) (T4.same sb4).dic (by rw [jK];rfl)
      have k05:vU Pa H (upd H4 b4 (.tup [])):=k03.trans (jG.keepA s34)
      have ct5:CTa Pa (upd H4 b4 (.tup [])):=Tab.keep ct3 s34
      have X5:=X3.same s34
      have PL5:=PL.same s34
      generalize hH5:upd H4 b4 (.tup [])=H5 at eb gt k05 ct5 X5 PL5
      refine ⟨F,rfl,_,gt,b,rfl,_,_,_,eb,T.cl_Least,T.no_Least_price,_,k8,?_⟩
      refine ⟨b,rfl,_,_,_,eb,T.cl_Least,T.no_Least_ways,_,v8,by show 1≤sizeLine;decide,fun w1 hw1=>⟨by show 1≤sizeLine;decide,fun w2 hw2=>?_⟩⟩
      have hw1':H5 w1=none:=by rw [← hH5,jV hw1.1];exact hw1.2
      have hw2':H5 w2=none:=by rw [← hH5,jV hw2.2.1];exact hw2.2.2
      clear hH5
      change ∃ _,_
      have lg:t.legs - 0=t.legs:=rfl
      rw [show yE (fun r=>kW r [] []) (xF t (t.legs - 0)) (zO t 0) []=vR t from rfl]
      generalize vR t=bv at kk
      have sw1:jG H5 (upd H5 w1 (.lst [vN bv.2])):=jG.new hw1'
      have sw2:jG (upd H5 w1 (.lst [vN bv.2])) (upd (upd H5 w1 (.lst [vN bv.2])) w2 (.lst [.ref w1])):=jG.new (by rw [jV hw2.1];exact hw2')
      have sw:=sw1.trans sw2
      have ew1:(upd (upd H5 w1 (.lst [vN bv.2])) w2 (.lst [.ref w1])) w1=some (.lst [vN bv.2]):=by rw [jV hw2.1.symm,jK]
      have ew2:(upd (upd H5 w1 (.lst [vN bv.2])) w2 (.lst [.ref w1])) w2=some (.lst [.ref w1]):=jK
      generalize upd (upd H5 w1 (.lst [vN bv.2])) w2 (.lst [.ref w1])=H6 at sw ew1 ew2
      have X6:=X5.same sw
      have PL6:=PL5.same sw
      have lr:(as.map V.ref).length=t.riders.length:=by rw [List.length_map,X.len]
      refine ⟨_,_,_,X6.tr,T.cl_Train,T.no_Train_riders,_,rfl,l,rfl,as.map V.ref,.inl (SqL.of X6.lst),by omega,by rw [lr];have:=ok.nr;omega,?_⟩
      rw [lr,show ((t.riders.length:Int)).toNat=t.riders.length by omega]
      refine lcr (J:=Itr 0 t.riders.length) (n:=t.riders.length) ((List.range t.riders.length).map fun i=>HO.lst (vNs (z7 (kY t rows) i))) (fun i H' hi s=>hi) (fun H' s=>Nat.le_refl _) (fun D i H' x H7 hD hi pv hy=>?_) (fun D H7 hD pv=>?_)
      · obtain ⟨rfl,hx⟩:=hy
        have hx:x=.int (i:Nat):=by rw [hx];congr 1;omega
        subst hx
        simp only [jI,v5,List.set_cons_succ,List.set_cons_zero,sE,vG,jN,j4,List.getElem?_cons_succ,List.getElem?_cons_zero,Option.some.injEq,kN,List.append_nil,exists_eq_left',if_true,true_and]
        refine ⟨pp,ds,_,i,rfl,PL6.same pv.1,by rw [wQ,hrows];have:=ok.nl;omega,fun H8 q8 s8 hq8 e8=>?_⟩
        exact jp2 pv hD s8 hq8 e8 (by rw [List.getElem?_map,List.getElem?_range hi];rfl) (by have:=ok.nr;omega)
      · obtain ⟨s7,ds7,e1,e2,e3,e4,e5,e6⟩:=pv
        refine ⟨w2,D,[.ref w1],ds7.map V.ref,rfl,rfl,s7 _ _ ew2,e1,by rw [List.length_map,e2,sizeLine_eq];have:=ok.nr;simp;omega,fun g1 hg1=>⟨by show 2≤sizeLine;decide,fun g2 hg2=>?_⟩⟩
        have sg1:jG H7 (upd H7 g1 (.lst ([.ref w1]++ds7.map V.ref))):=jG.new hg1
        have sg2:jG (upd H7 g1 (.lst ([.ref w1]++ds7.map V.ref))) (upd (upd H7 g1 (.lst ([.ref w1]++ds7.map V.ref))) g2 (.tup [vN bv.1,.ref g1])):=jG.new hg2
        have n12:g1≠g2:=fun z=>by rw [← z,jK] at hg2;cases hg2
        have s79:=sg1.trans sg2
        refine kk h _ g2 rows (k05.trans (jG.keepA (sw.trans (s7.trans s79)))) (Tab.keep ct5 (sw.trans (s7.trans s79))) hrows G ⟨g1,w1 :: ds7,by rw [jK];rfl,⟨by rw [jV n12,jK];rfl,by simp [e2],fun i d' r' h1 h2=>?_⟩⟩
        cases i with
        | zero =>
          have h1:w1=d':=by simpa using h1
          have h2:[bv.2]=r':=by simpa using h2
          subst h1 h2
          exact s79 _ _ (s7 _ _ ew1)
        | succ i =>
          have h1:ds7[i]? = some d':=by simpa using h1
          rw [List.getElem?_cons_succ,List.getElem?_map] at h2
          obtain ⟨x,hx,rfl⟩:=Option.map_eq_some_iff.mp h2
          exact s79 _ _ (e6 i d' _ h1 (by rw [List.getElem?_map,hx];rfl))
end
def nB (n:Nat) (pl:Pl):List Nat:=(List.range n).filter fun s=>!decide (s∈pl.map (·.2))
def bM (fr:List (List Nat)) (s:Nat):Nat→Nat→Nat
  | 0,k=>k
  | n+1,k=>if s∈fr.getD k [] then bM fr s n (k+1) else k
theorem vM.keepA {H H':Hp} {pp:Addr} {ds:List Addr} {ls:List (List Nat)} (X:vM H pp ds ls) {Pa:Addr} {x:Array Value} (h:H Pa=some (.tbl x)) (k:vU Pa H H'):vM H' pp ds ls:=⟨uM h k X.lst (fun _ z=>nomatch z),X.len,fun i d l h1 h2=>uM h k (X.at' i d l h1 h2) (fun _ z=>nomatch z)⟩
section
variable {P:Program} {w:World} {K:W.Frag} {mg:Str→Option Value} {base:Heap} {a:Adr} {Pa Pb:Addr}
def jr2 (a:Adr):Sp:=fun vs H Q _=>∃ (p d l:Addr) (t:Sw77.Train) (dx:Addr) (kvs:TK) (as:List Addr) (sd:Addr) (pl:Pl),vs=[.ref p,.ref sd]∧jH a H p d l t dx kvs as∧H sd=some (.dK (kQ pl))∧pl.length≤20∧t.seats≤5∧∀ (H':Hp) (q:Addr),jG H H'→H q=none→H' q=some (.lst (vNs (nB t.seats pl)))→Q (.ref q) H'
theorem jc6:jD ["train","seated","taken","seat"] ["train","seated"] (jW jx6):=⟨rfl,rfl,rfl,by decide +kernel,rfl,by decide +kernel,by decide +kernel⟩
theorem jn1 (T:Txt K mg a):vA P w K mg base CX0 3 a.f_xi a.d_xi ["train","seated"] (jr2 a):=by
  have nd:=jc6.nd
  refine T.F_xi.ok jc6 (fun vs H Q E h=>?_) (fun cdv A outer s H vs Q E hr h=>?_)
  · obtain ⟨p,d,l,t,dx,kvs,as,sd,pl,rfl,X,hs,hl,hse,kk⟩:=h
    rfl
  · obtain ⟨p,d,l,t,dx,kvs,as,sd,pl,rfl,X,hs,hl,hse,kk⟩:=h
    have hu:=kE hr
    refine ⟨_,(jZ (kJ 2 nd (mY rfl rfl T.n_list (pv 1)))
(jY (jC (plc [("seat",3)] nd (zM rfl T.n_range (jJ (zJ K (pv 0)) jQ)) (by intro _ _ _ _ _;exact (pgn 3 nd)) (by intro _ _ _ _ _;exact (zN (jR (qD K) (pv 3) (pv 2) rfl))) (by intro _ _ _ _ _;exact (pv 3)))))),?_⟩
    rw [show j7 ["train","seated","taken","seat"] [.ref p,.ref sd]=[some (.ref p),some (.ref sd),none,none] from rfl]
    simp only [zH,wI,rA,j4,List.getElem?_cons_succ,List.getElem?_cons_zero,Option.some.injEq,jI,zU,List.map_cons,List.map_nil,List.set_cons_succ,List.set_cons_zero,vX,cC,jN,uQ,kN,List.cons.injEq,and_true,exists_and_left,exists_eq_left',V.ref.injEq]
    refine ⟨kQ pl,.inl hs,fun b hb=>?_⟩
    have sb:jG H (upd H b (.lst ((kQ pl).map (·.2)))):=jG.new hb
    have eb:(upd H b (.lst ((kQ pl).map (·.2)))) b=some (.lst (vNs (pl.map (·.2)))):=by rw [jK];unfold kQ vNs;rw [List.map_map,List.map_map];rfl
    generalize upd H b (.lst ((kQ pl).map (·.2)))=H1 at sb eb
    refine ⟨_,_,_,sb _ _ X.tr,T.cl_Train,T.no_Train_seats,_,rfl,_,rfl,by omega,by omega,?_⟩
    rw [show ((t.seats:Int)).toNat=t.seats by omega]
    refine lcb (J:=Itr 0 t.seats) (n:=t.seats) (fm (List.range t.seats) (fun s=>!decide (s∈pl.map (·.2))) vN) kC (fun i H' hi s=>hi) (fun H' s=>Nat.le_refl _) (fun D i H' x H2 hD hi pv hy=>?_) (fun D H' hD s e=>?_)
    · obtain ⟨rfl,hx⟩:=hy
      have hx:x=vN i:=by rw [hx];show V.int _=V.int _;congr 1;omega
      subst hx
      simp only [jI,v5,List.set_cons_succ,List.set_cons_zero,vH,tOp,j4,List.getElem?_cons_succ,List.getElem?_cons_zero,Option.some.injEq,exists_eq_left',true_and]
      refine ⟨b,vNs (pl.map (·.2)),rfl,.inl (SqL.of (pv.1 _ _ eb)),rfl,uF _,_,rfl,?_⟩
      rw [yG]
      have hx:(List.range t.seats)[i]? = some i:=List.getElem?_range hi
      refine wY (fun h=>lcY pv hD (jG.refl _) (vL hx h) (wV (m:=5) (by simpa using hse) (by decide))) (fun h=>lcN pv (jG.refl _) (y4 hx (by simpa using h)))
    · rw [vT (by simp)] at e
      exact kk _ D (sb.trans s) (sb.free hD) e
def juW:Sp:=fun vs H Q _=>∃ (fq:Addr) (qs:List Addr) (fr:List (List Nat)) (s k to:Nat),vs=[.ref fq,.int s,.int k,.int to]∧vM H fq qs fr∧k≤to∧to≤fr.length∧fr.length≤1000∧Q (.int (bM fr s (to - k) k:Nat)) H
theorem jc7:jD ["free","seat","leg","to","behind"] ["free","seat","leg","to"] (jW jx7):=⟨rfl,rfl,rfl,by decide +kernel,rfl,by decide +kernel,by decide +kernel⟩
theorem jn2 (T:Txt K mg a):vA P w K mg base CX0 3 a.f_xj a.d_xj ["free","seat","leg","to"] (juW):=by
  have nd:=jc7.nd
  refine T.F_xj.ok jc7 (fun vs H Q E h=>?_) (fun cdv A outer s H vs Q E hr h=>?_)
  · obtain ⟨fq,qs,fr,s,k,to,rfl,R,hk,hto,hfr,kk⟩:=h
    rfl
  · obtain ⟨fq,qs,fr,s,k,to,rfl,R,hk,hto,hfr,kk⟩:=h
    have hu:=kE hr
    refine ⟨_,(jZ (kJ 4 nd (pv 2))
(jZ (bK PassesOwn.never (PW.pt (rB (jR rV (pv 4) (pv 3) (j0 _)) (bV (jR (e9 K) (pv 1) (vY (jT K) (pv 0) (pv 4) (fun _ _=>rfl)) rfl))))
(jY (jd3 4 nd jA jv4)))
(jY (jC (pv 4))))),?_⟩
    rw [show j7 ["free","seat","leg","to","behind"] [.ref fq,.int s,.int k,.int to]=[some (.ref fq),some (.int s),some (.int k),some (.int to),none] from rfl]
    simp only [zH,wI,j4,List.getElem?_cons_succ,List.getElem?_cons_zero,Option.some.injEq,jI,List.set_cons_succ,List.set_cons_zero,exists_eq_left']
    refine ⟨fun m σ H'=>∃ j:Nat,k≤j∧j≤to∧m=to - j∧σ=[some (.ref fq),some (.int s),some (.int k),some (.int to),some (.int (j:Nat))]∧H'=H∧bM fr s (to - k) k=bM fr s (to - j) j,⟨_,k,Nat.le_refl _,hk,rfl,rfl,rfl,rfl⟩,?_⟩
    rintro m σ H' ⟨j,h1,h2,rfl,rfl,rfl,h3⟩
    simp only [jrJ,vH,tOp,j4,List.getElem?_cons_succ,List.getElem?_cons_zero,Option.some.injEq,rI0,V.bl.injEq,fZ,jp6,tC,ipI,V.int.injEq,List.set_cons_succ,List.set_cons_zero,exists_and_left,exists_eq_left',zU,V.ref.injEq,Bool.false_eq_true,if_false,decide_eq_true_eq]
    refine wY (fun h=>?_) (fun h=>?_)
    · have hj:j < to:=by omega
      obtain ⟨q,hq⟩:∃ q,qs[j]? = some q:=⟨_,List.getElem?_eq_getElem (by rw [R.len];omega)⟩
      obtain ⟨r,hr'⟩:∃ r,fr[j]? = some r:=⟨_,List.getElem?_eq_getElem (by omega)⟩
      refine ⟨_,SqL.of R.lst,.ref q,vK (by rw [List.getElem?_map,hq];rfl),q,vNs r,rfl,.inl (SqL.of (R.at' j q r hq hr')),rfl,uF _,_,rfl,?_⟩
      rw [show V.int (s:Nat)=vN s from rfl,dL]
      have eg:fr.getD j []=r:=by rw [List.getD_eq_getElem?_getD,hr'];rfl
      have e1:bM fr s (to - j) j=if s∈r then bM fr s (to - (j+1)) (j+1) else j:=by
        rw [show to - j=(to - (j+1))+1 by omega]
        show (if s∈fr.getD j [] then _ else _)=_
        rw [eg]
      refine wY (fun h=>?_) (fun h=>?_)
      · have h:s∈r:=by simpa using h
        rw [if_pos h] at e1
        exact ⟨fun σ' H2=>σ'=[some (.ref fq),some (vN s),some (.int k),some (.int to),some (.int ((j:Int)+1))]∧H2=H',fun σ' H2 hN=>⟨to - (j+1),by omega,j+1,by omega,by omega,rfl,by rw [hN.1,Int.natCast_add];rfl,hN.2,by rw [h3,e1]⟩,rfl,rfl⟩
      · have h:s∉r:=by simpa using h
        rw [if_neg h] at e1
        rw [h3,e1] at kk
        exact kk
    · have hj:j=to:=by omega
      subst hj
      rw [h3,Nat.sub_self] at kk
      exact kk
def wG (kf:Nat→Nat) (l:List Nat) (s:Nat):Prop:=∃ i,l[i]? = some s∧∀ (j:Nat) x,l[j]? = some x→kf x≤kf s∧(j < i→kf x < kf s)
def lW (Pb:Addr):Sp:=fun vs H Q _=>∃ (fq:Addr) (qs:List Addr) (fr:List (List Nat)) (k to:Nat),vs=[.ref fq,.int k,.int to]∧vM H fq qs fr∧k < to∧to≤fr.length∧fr.length≤1000∧fr.getD k []≠[]∧CTb Pb H ∧
  ∀ (H':Hp) (s:Nat),vU Pb H H'→CTb Pb H'→wG (fun s=>bM fr s (to - k) k) (fr.getD k []) s→Q (.int s) H'
theorem jc8:jD ["free","leg","to"] ["free","leg","to"] (jW lT):=⟨rfl,rfl,rfl,by decide +kernel,rfl,by decide +kernel,by decide +kernel⟩
abbrev lmB:Expr:=match (jF lT)[0]'(by decide) with
  | .Return (some (.Call _ _ [⟨_,e,_⟩] _)) _=>e
  | _=>.Name "" ⟨0,0,0,0⟩
abbrev lsB:Scope:=match lmB with
  | .Lambda _ _ sc _=>sc
  | _=>jW lT
theorem frB:∀ y∈lsB.names,y.2=.free→(jW lT).names.lookup y.1=some .cell:=by decide +kernel
theorem clB:u0 ["free","leg","to"] (jW lT) "seat" [("free",0),("leg",1),("to",2)] lsB:=⟨rfl,rfl,rfl,rfl,by decide +kernel,by decide +kernel,frB⟩
theorem jn3 (T:Txt K mg a) (N2:g0 mg base a.c_xk Pb):vA P w K mg base CX0 7 a.f_xk a.d_xk ["free","leg","to"] (lW Pb):=by
  have nd:=jc8.nd
  have G_xj:=(jn2 (P:=P) (w:=w) (base:=base) T).mono (k:=4) (by decide)
  refine T.F_xk.okC T.hc_xk jc8 (fun vs H Q E h=>?_) (fun A outer s H vs Q E hr h=>?_)
  · obtain ⟨fq,qs,fr,k,to,rfl,R,hk,hto,hfr,hne,ct,kk⟩:=h
    rfl
  · obtain ⟨fq,qs,fr,k,to,rfl,R,hk,hto,hfr,hne,ct,kk⟩:=h
    have hu:=kE hr
    refine ⟨_,(jY (jC (jwY rfl rfl T.n_max (vY (jT K) (pv 0) (pv 1) (fun _ _=>rfl)) (jfJ N2 rfl (hfree:=frB))))),?_⟩
    rw [show j7 ["free","leg","to"] [.ref fq,.int k,.int to]=[some (.ref fq),some (.int k),some (.int to)] from rfl]
    simp only [zU,jrV,tOp,j4,List.getElem?_cons_zero,Option.some.injEq,List.getElem?_cons_succ,fZ,js6,iR,V.ref.injEq,uN,exists_and_left,exists_eq_left',V.int.injEq]
    obtain ⟨q,hq⟩:∃ q,qs[k]? = some q:=⟨_,List.getElem?_eq_getElem (by rw [R.len];omega)⟩
    obtain ⟨r,hr'⟩:∃ r,fr[k]? = some r:=⟨_,List.getElem?_eq_getElem (by omega)⟩
    have eg:fr.getD k []=r:=by rw [List.getD_eq_getElem?_getD,hr'];rfl
    rw [eg] at hne kk
    refine ⟨_,SqL.of R.lst,.ref q,vK (by rw [List.getElem?_map,hq];rfl),ct,fun fa c H2 hfa ef ec ct2 k2=>?_⟩
    obtain ⟨xt,hxt⟩:=CTb.ex ct
    have R2:=vM.keepA R hxt k2
    have er:=R2.at' k q r hq hr'
    refine ⟨q,rfl,vNs r,fun H'=>H'=H2,rfl,fun H' s=>by rw [s];exact SqL.of er,by unfold vNs;rw [List.length_map];exact List.length_pos_iff.mpr hne,fun i=>((bM fr (r.getD i 0) (to - k) k:Nat):Int),?_,?_⟩
    · intro i y u pins s' H' hy ry I hJ
      subst hJ
      unfold vNs at hy
      rw [List.getElem?_map] at hy
      obtain ⟨x,hx,rfl⟩:=Option.map_eq_some_iff.mp hy
      have hrr:wU 5 (A.deeper (envOfC (Str.ofString "seat_from") (jW lT) s.heap.objs.size a.f_xk (Value.ref a.c_xk))).in1:=hr.in1
      refine ju4 (k:=4) I clB hrr I.ok.frames ry ef ec (fun pm ctv=>rfl) ?_
      have hr2:=fun env=>wU.deeper hrr env
      refine ⟨_,(jP G_xj (hr2 _) rfl T.g_xj T.F_xj.kp T.b_xj .nil jU (jJ (pv 1) (jJ (pv 0) (jJ (pv 2) (jJ (pv 3) jQ))))),?_⟩
      rw [show gN [some (V.ref fq),some (V.int k),some (V.int to)] (vN x) [("free",0),("leg",1),("to",2)]=[some (vN x),some (V.ref fq),some (V.int k),some (V.int to)] from rfl]
      simp only [vG,jN,j4,List.getElem?_cons_succ,List.getElem?_cons_zero,Option.some.injEq,kN,List.append_nil,exists_eq_left']
      refine ⟨fq,qs,fr,x,k,to,rfl,R2,by omega,hto,hfr,?_⟩
      show _=_∧_
      rw [List.getD_eq_getElem?_getD,hx]
      exact ⟨rfl,rfl⟩
    · intro i y H' hy hbest hJ
      subst hJ
      unfold vNs at hy
      rw [List.getElem?_map] at hy
      obtain ⟨x,hx,rfl⟩:=Option.map_eq_some_iff.mp hy
      refine kk _ x k2 ct2 ⟨i,hx,fun j x' hj=>?_⟩
      have hjl:j < (vNs r).length:=by unfold vNs;rw [List.length_map];exact (List.getElem?_eq_some_iff.mp hj).1
      have hb:=hbest j hjl
      simp only [List.getD_eq_getElem?_getD,hx,hj,Option.getD_some] at hb
      show bM fr x' (to - k) k≤bM fr x (to - k) k∧(j < i→bM fr x' (to - k) k < bM fr x (to - k) k)
      exact ⟨by omega,fun h=>by have:=hb.2 h;omega⟩
end
def qM (ws:List Nat):Nat→Option Nat
  | 0=>none
  | i+1=>ws[i]?
def g8 (fr:List (List Nat)) (st to:Nat) (ws:List Nat):Prop:=∀ (i s:Nat),ws[i]? = some s→(qM ws i=some s∧s∈fr.getD (st+i) [])∨((∀ p,qM ws i=some p→p∉fr.getD (st+i) [])∧wG (fun s=>bM fr s (to - (st+i)) (st+i)) (fr.getD (st+i) []) s)
theorem fA (ws:List Nat) (x:Nat):∀ i,i≤ws.length→qM (ws++[x]) i=qM ws i
  | 0,_=>rfl
  | i+1,h=>by show (ws++[x])[i]? = ws[i]?;rw [List.getElem?_append_left (by omega)]
theorem g8.snoc {fr:List (List Nat)} {st to:Nat} {ws:List Nat} {x:Nat} (W:g8 fr st to ws) (h:(qM ws ws.length=some x∧x∈fr.getD (st+ws.length) [])∨((∀ p,qM ws ws.length=some p→p∉fr.getD (st+ws.length) [])∧wG (fun s=>bM fr s (to - (st+ws.length)) (st+ws.length)) (fr.getD (st+ws.length) []) x)):g8 fr st to (ws++[x]):=by
  intro i s e
  rcases Nat.lt_or_ge i ws.length with hi | hi
  · rw [List.getElem?_append_left hi] at e
    rw [fA ws x i (by omega)]
    exact W i s e
  · rw [List.getElem?_append_right hi] at e
    have ei:i - ws.length=0:=by
      cases z:i - ws.length with
      | zero=>rfl
      | succ m=>rw [z] at e;simp at e
    rw [ei] at e
    have e:x=s:=by simpa using e
    have:i=ws.length:=by omega
    subst e this
    rw [fA ws x _ (Nat.le_refl _)]
    exact h
def jrY:Option Nat→V
  | none=>.non
  | some s=>vN s
theorem eO (l:List Nat):∀ c:Option Nat,(if true=true then !inV (jrY c) (vNs l) else inV (jrY c) (vNs l)) = !(c.any fun s=>decide (s∈l))
  | some s=>yG l s
  | none=>by
    rw [if_pos rfl]
    show (!inV .non (vNs l))=true
    rw [Bool.not_eq_true']
    unfold inV vNs
    rw [List.any_map,List.any_eq_false]
    intro x _ h
    cases h
theorem o3:∀ c:Option Nat,hW (jrY c)=true
  | none=>rfl
  | some _=>rfl
section
variable {P:Program} {w:World} {K:W.Frag} {mg:Str→Option Value} {base:Heap} {a:Adr} {Pa Pb:Addr}
def juK (Pb:Addr):Sp:=fun vs H Q _=>∃ (fq:Addr) (qs:List Addr) (fr:List (List Nat)) (st to:Nat),vs=[.ref fq,.int st,.int to]∧vM H fq qs fr∧st≤to∧to≤fr.length∧fr.length≤1000∧(∀ k,st≤k→k < to→fr.getD k []≠[])∧CTb Pb H ∧
  ∀ (H':Hp) (q:Addr) (ws:List Nat),vU Pb H H'→CTb Pb H'→H q=none→ws.length=to - st→g8 fr st to ws→H' q=some (.lst (vNs ws))→Q (.ref q) H'
theorem jc9:jD ["free","start","to","seats","seat","leg"] ["free","start","to"] (jW jx8):=⟨rfl,rfl,rfl,by decide +kernel,rfl,by decide +kernel,by decide +kernel⟩
theorem jn4 (T:Txt K mg a) (N2:g0 mg base a.c_xk Pb):vA P w K mg base CX0 9 a.f_xl a.d_xl ["free","start","to"] (juK Pb):=by
  have nd:=jc9.nd
  have G_xk:=(jn3 (P:=P) (w:=w) (base:=base) T N2).mono (k:=8) (by decide)
  refine T.F_xl.ok jc9 (fun vs H Q E h=>?_) (fun cdv A outer s H vs Q E hr h=>?_)
  · obtain ⟨fq,qs,fr,st,to,rfl,R,hk,hto,hfr,hne,ct,kk⟩:=h
    rfl
  · obtain ⟨fq,qs,fr,st,to,rfl,R,hk,hto,hfr,hne,ct,kk⟩:=h
    have hu:=kE hr
    refine ⟨_,(jZ (kJ 3 nd (kR jQ))
(jZ (kJ 4 nd jfK)
(jZ (yR (iD rfl T.n_range (jJ (pv 1) (jJ (pv 2) jQ))) (pgn 5 nd)
(jZ (zV (jR (qD K) (pv 4) (vY (jT K) (pv 0) (pv 5) (fun _ _=>rfl)) rfl)
(jY (kJ 4 nd (jP G_xk hr rfl T.g_xk T.F_xk.kp T.b_xk .nil jU (jJ (pv 0) (jJ (pv 5) (jJ (pv 2) jQ))))))
j6)
(jY (vP (qC PySem.F.plainAttrs_list PySem.F.slot_list_append PySem.F.type_list_append vD (pv 3) (jJ (pv 4) jQ))))))
(jY (jC (pv 3)))))),?_⟩
    rw [show j7 ["free","start","to","seats","seat","leg"] [.ref fq,.int st,.int to]=[some (.ref fq),some (.int st),some (.int to),none,none,none] from rfl]
    simp only [zH,wI,dJ,kN,jI,tC,uN,List.set_cons_succ,List.set_cons_zero,zQ,jgX,jN,j4,List.getElem?_cons_succ,List.getElem?_cons_zero,Option.some.injEq,List.cons.injEq,and_true,and_assoc,exists_and_left,exists_eq_left',V.int.injEq]
    refine ⟨by show 0≤sizeLine;decide,fun sq hsq=>?_⟩
    have s1:jG H (upd H sq (.lst [])):=jG.new hsq
    have e1:(upd H sq (.lst [])) sq=some (.lst (vNs [])):=jK
    obtain ⟨xt,hxt⟩:=CTb.ex ct
    have sPb:sq≠Pb:=(jX hxt hsq).symm
    generalize upd H sq (.lst [])=H1 at s1 e1
    refine ⟨by omega,by omega,by omega,by omega,?_⟩
    rw [show ((to:Int) - st).toNat=to - st by omega]
    refine tG (J:=Itr st (to - st)) (n:=to - st) (fun j σ H'=>vU Pb H H'∧CTb Pb H'∧∃ (ws:List Nat) (u5:Option V),σ=[some (.ref fq),some (.int st),some (.int to),some (.ref sq),some (jrY (qM ws j)),u5]∧ws.length=j∧g8 fr st to ws∧H' sq=some (.lst (vNs ws)))
      ⟨jG.keepA s1,Tab.keep ct s1,[],none,rfl,rfl,fun i s h=>by simp at h,e1⟩ (fun j σ H' hj h=>hj) (fun σ H' h=>Nat.le_refl _) (fun j σ H2 x H3 hj h hy=>?_) (fun σ H2 h=>?_)
    · obtain ⟨rfl,hx⟩:=hy
      obtain ⟨k2,ct2,ws,u5,rfl,hj',W,ew⟩:=h
      have hx:x=.int ((st+j:Nat):Int):=by rw [hx,Int.natCast_add]
      subst hx
      have R2:=vM.keepA R hxt k2
      obtain ⟨xt2,hxt2⟩:=CTb.ex ct2
      obtain ⟨q,hq⟩:∃ q,qs[st+j]? = some q:=⟨_,List.getElem?_eq_getElem (by rw [R.len];omega)⟩
      obtain ⟨r,hr'⟩:∃ r,fr[st+j]? = some r:=⟨_,List.getElem?_eq_getElem (by omega)⟩
      have eg:fr.getD (st+j) []=r:=by rw [List.getD_eq_getElem?_getD,hr'];rfl
      simp only [jI,zH,gE,vH,tOp,j4,List.set_cons_succ,List.set_cons_zero,List.getElem?_cons_succ,List.getElem?_cons_zero,Option.some.injEq,fZ,wI,vG,jN,kN,List.append_nil,qT,tBM,zS,List.cons.injEq,and_true,true_and,and_assoc,exists_and_left,exists_eq_left',V.ref.injEq,jK,HO.lst.injEq,zT,V.int.injEq]
      have fin:∀ (H4:Hp) (x:Nat),vU Pb H3 H4→CTb Pb H4→((qM ws ws.length=some x∧x∈fr.getD (st+ws.length) [])∨((∀ p,qM ws ws.length=some p→p∉fr.getD (st+ws.length) [])∧wG (fun s=>bM fr s (to - (st+ws.length)) (st+ws.length)) (fr.getD (st+ws.length) []) x)) →
          H4 sq=some (.lst (vNs ws))∧vU Pb H (upd H4 sq (.lst (vNs ws++[vN x])))∧CTb Pb (upd H4 sq (.lst (vNs ws++[vN x])))∧g8 fr st to (ws++[x])∧(ws++[x]).length=j+1∧qM (ws++[x]) (j+1)=some x∧vNs ws++[vN x]=vNs (ws++[x]):=by
        intro H4 x k4 ct4 hx
        have e4:=uM hxt2 k4 ew (fun _ z=>nomatch z)
        refine ⟨e4,fun b o e n=>?_,?_,W.snoc hx,by rw [List.length_append,hj'];rfl,?_,?_⟩
        · rw [jV (jX e hsq)];exact k4 _ _ (k2 _ _ e n) n
        · rcases ct4 with h | ⟨c,h,h2⟩
          · exact .inl (by rw [jV sPb.symm];exact h)
          · exact .inr ⟨c,by rw [jV sPb.symm];exact h,by rw [jV (j1 h2 e4 (fun z=>nomatch z))];exact h2⟩
        · show (ws++[x])[j]? = some x
          rw [List.getElem?_append_right (by omega),hj',Nat.sub_self];rfl
        · unfold vNs;rw [List.map_append];rfl
      have hlw:(vNs ws).length < sizeLine:=by unfold vNs;rw [List.length_map,sizeLine_eq];omega
      refine ⟨_,SqL.of R2.lst,.ref q,vK (by rw [List.getElem?_map,hq];rfl),q,vNs r,rfl,.inl (SqL.of (R2.at' _ q r hq hr')),o3 _,uF _,_,rfl,?_⟩
      rw [eO]
      refine wY (fun h=>?_) (fun h=>?_)
      · refine ⟨fq,qs,fr,st+j,to,rfl,R2,by omega,hto,hfr,hne _ (by omega) (by omega),ct2,fun H4 x k4 ct4 fm=>?_⟩
        obtain ⟨f1,f2,f3,f4,f5,f6,f7⟩:=fin H4 x k4 ct4 (.inr ⟨fun p hp=>by
          rw [hj'] at hp ⊢
          rw [hp] at h
          rw [eg]
          simpa using h,by rw [hj'];exact fm⟩)
        exact ⟨.inl ⟨rfl,_,SqL.of f1⟩,_,f1,hlw,f2,f3,ws++[x],by rw [f6];rfl,f5,f4,f7⟩
      · obtain ⟨p,hp,hin⟩:∃ p,qM ws j=some p∧p∈r:=by
          cases z:qM ws j with
          | none=>rw [z] at h;simp at h
          | some p=>rw [z] at h;exact ⟨p,rfl,by simpa using h⟩
        obtain ⟨f1,f2,f3,f4,f5,f6,f7⟩:=fin H3 p (fun _ _ e _=>e) ct2 (.inl ⟨by rw [hj'];exact hp,by rw [hj',eg];exact hin⟩)
        rw [hp]
        exact ⟨.inl ⟨rfl,_,SqL.of f1⟩,_,f1,hlw,f2,f3,ws++[p],by rw [f6],f5,f4,f7⟩
    · obtain ⟨k2,ct2,ws,u5,rfl,hj',W,ew⟩:=h
      exact ⟨_,rfl,kk _ sq ws k2 ct2 hsq hj' W ew⟩
end
def yL (Pa Pb:Addr) (H H':Hp):Prop:=∀ b o,H b=some o→b≠Pa→b≠Pb→H' b=some o
theorem CTb.keepA {Pa Pb:Addr} {H H':Hp} {x:Array Value} (c:CTb Pb H) (hx:H Pa=some (.tbl x)) (k:vU Pa H H') (n:Pa≠Pb):CTb Pb H':=by
  rcases c with h | ⟨c,h,h2⟩
  · exact .inl (k _ _ h n.symm)
  · exact .inr ⟨c,k _ _ h n.symm,uM hx k h2 (fun _ z=>nomatch z)⟩
theorem CTa.keepB {Pa Pb:Addr} {H H':Hp} {x:Array Value} (c:CTa Pa H) (hx:H Pb=some (.tbl x)) (k:vU Pb H H') (n:Pa≠Pb):CTa Pa H':=by
  rcases c with h | ⟨c,h,h2⟩
  · exact .inl (k _ _ h n)
  · exact .inr ⟨c,k _ _ h n,uM hx k h2 (fun _ z=>nomatch z)⟩
theorem aZ {xs:List V} {st to:Nat} (h:st≤to) (h2:to≤xs.length):lM xs (some (st:Int)) (some (to:Int))=(xs.drop st).take (to - st):=by
  unfold lM
  rw [HT.gC,HT.gC,Nat.min_eq_left (by omega),Nat.min_eq_left (by omega)]
theorem nX (xs:List V):lM xs (some 1) none=xs.drop 1:=by
  unfold lM
  have e1:HT.sIx xs.length 0 (some 1)=min 1 xs.length:=by have:=HT.gC (n:=xs.length) (d:=0) (k:=1);simpa using this
  have e2:HT.sIx xs.length xs.length none=xs.length:=rfl
  rw [e1,e2]
  cases xs with
  | nil=>rfl
  | cons x l=>simp
def uJ (t:Sw77.Train) (rows:List (List Nat)):List (List Nat):=(kY t rows).map (nB t.seats)
section
variable {P:Program} {w:World} {K:W.Frag} {mg:Str→Option Value} {base:Heap} {a:Adr} {Pa Pb:Addr}
def jr5 (a:Adr) (Pa Pb:Addr):Sp:=fun vs H Q _=>∃ (p d l:Addr) (t:Sw77.Train) (dx:Addr) (kvs:TK) (as:List Addr) (st to:Nat),vs=[.ref p,.int st,.int to]∧jH a H p d l t dx kvs as∧jpJ t∧(t.crowded.isSome=false→wK t)∧CTa Pa H∧CTb Pb H ∧
  ((to≤st∨t.legs < to)→∀ (H':Hp) (g:Addr),jG H H'→pY H' g (-1) []→Q (.ref g) H') ∧
  (¬ (to≤st∨t.legs < to)→t.crowded.isSome=true→∀ (H':Hp) (g:Addr),jG H H'→pY H' g (-6) []→Q (.ref g) H') ∧
  (¬ (to≤st∨t.legs < to)→t.crowded.isSome=false→∀ (H':Hp) (g:Addr) (rows:List (List Nat)),yL Pa Pb H H'→CTa Pa H'→CTb Pb H'→rows.length=t.legs→bN t rows→(∃ k,st≤k∧k < to∧(uJ t rows).getD k []=[])→pY H' g (-7) []→Q (.ref g) H') ∧
  (¬ (to≤st∨t.legs < to)→t.crowded.isSome=false→∀ (H':Hp) (g:Addr) (rows:List (List Nat)) (ws:List Nat),yL Pa Pb H H'→CTa Pa H'→CTb Pb H'→rows.length=t.legs→bN t rows→(∀ k,st≤k→k < to→(uJ t rows).getD k []≠[])→ws.length=to - st→g8 (uJ t rows) st to ws→pY H' g (mvCount ws (ws.drop 1):Nat) [ws]→Q (.ref g) H')
theorem jcJ:jD ["train","start","to","free","seated","seats","moves","seat","seat_behind"] ["train","start","to"] (jW jx9):=⟨rfl,rfl,rfl,by decide +kernel,rfl,by decide +kernel,by decide +kernel⟩
theorem jn5 (T:Txt K mg a) (N1:g0 mg base a.c_xe Pa) (N2:g0 mg base a.c_xk Pb) (nab:Pa≠Pb):vA P w K mg base CX0 13 a.f_xm a.d_xm ["train","start","to"] (jr5 a Pa Pb):=by
  have nd:=jcJ.nd
  have G_qi:=(jhK (P:=P) (w:=w) (base:=base) T).mono (k:=12) (by decide)
  have G_xd:=(jf1 (P:=P) (w:=w) (base:=base) T).mono (k:=12) (by decide)
  have G_xf:=(jf2 (P:=P) (w:=w) (base:=base) T N1).mono (k:=12) (by decide)
  have G_xi:=(jn1 (P:=P) (w:=w) (base:=base) T).mono (k:=12) (by decide)
  have G_xl:=(jn4 (P:=P) (w:=w) (base:=base) T N2).mono (k:=12) (by decide)
  refine T.F_xm.ok jcJ (fun vs H Q E h=>?_) (fun cdv A outer s H vs Q E hr h=>?_)
  · obtain ⟨p,d,l,t,dx,kvs,as,st,to,rfl,X,tok,ok,ct,cb,k1,k6,k7,kk⟩:=h
    rfl
  · obtain ⟨p,d,l,t,dx,kvs,as,st,to,rfl,X,tok,ok,ct,cb,k1,k6,k7,kk⟩:=h
    have hu:=kE hr
    refine ⟨_,(jZ (zV (PW.pt (bZ (jR jj9 (pv 2) (pv 1) (j0 _)) (fE (jR rK (pv 2) (zJ K (pv 0)) (j0 _)))))
(jY (jC (v0 (jJ (j2 rfl T.g_OUT_OF_BOUNDS) (jJ (kR jQ) jQ)))))
j6)
(jZ (zV (jd5 K (xY (pv 0) T.cl_Train T.m_qi G_qi hr T.b_qi .nil jU))
(jY (jC (v0 (jJ (j2 rfl T.g_TOO_FEW_SEATS) (jJ (kR jQ) jQ)))))
j6)
(jZ (jd4 3 [("seated",4)] nd (v3 (jP G_xf hr rfl T.g_xf T.F_xf.kp T.b_xf .nil jU (jJ (pv 0) (jJ (jP G_xd hr rfl T.g_xd T.F_xd.kp T.b_xd .nil jU (jJ (pv 0) jQ)) jQ)))) (by intro _ _ _ _ _;exact (pgn 4 nd)) (by intro _ _ _ _ _;exact v4) (by intro _ _ _ _ _;exact (jP G_xi hr rfl T.g_xi T.F_xi.kp T.b_xi .nil jU (jJ (pv 0) (jJ (pv 4) jQ)))))
(jZ (zV (jvQ (jd5 K (jL (jw1 rfl) rfl T.n_all l5 (jJ (qR gM (pv 3) (uZ (pv 1)) (uZ (pv 2))) jQ))))
(jY (jC (v0 (jJ (j2 rfl T.g_NO_SEAT_FREE) (jJ (kR jQ) jQ)))))
j6)
(jZ (kJ 5 nd (jP G_xl hr rfl T.g_xl T.F_xl.kp T.b_xl .nil jU (jJ (pv 3) (jJ (pv 1) (jJ (pv 2) jQ)))))
(jZ (kJ 6 nd (jL (j8 K) rfl T.n_len vF (jJ (plc [("seat",7),("seat_behind",8)] nd (yB true true rfl T.n_zip (jJ (pv 5) (jJ (qR gM (pv 5) (uZ jA) iC) jQ))) (by intro _ _ _ _ _;exact (pgt K 2 (j9 (pgn 7 nd) (j9 (pgn 8 nd) z6)))) (by intro _ _ _ _ _;exact (zN (jR mX (pv 7) (pv 8) (j0 _)))) (by intro _ _ _ _ _;exact jA)) jQ)))
(jY (jC (v0 (jJ (pv 6) (jJ (kR (jJ (pv 5) jQ)) jQ))))))))))),?_⟩
    rw [show j7 ["train","start","to","free","seated","seats","moves","seat","seat_behind"] [.ref p,.int st,.int to]=[some (.ref p),some (.int st),some (.int to),none,none,none,none,none,none] from rfl]
    simp only [zH,gE,tOr,vH,tOp,j4,List.getElem?_cons_succ,List.getElem?_cons_zero,Option.some.injEq,rI0,V.bl.injEq,zU,sS,jN,tC,dJ,kN,kO,zT,wM,List.append_nil,wI,uN,List.map_cons,List.map_nil,jI,jnQ,tCB,tSl,List.set_cons_succ,List.set_cons_zero,rO,jvY,List.cons.injEq,V.ref.injEq,and_true,vG,exists_eq_left',exists_and_left,vX,p3,V.int.injEq,yN,and_assoc,yZ,X.tr,HO.ins.injEq,true_and,jv8,if_true,uQ,decide_eq_true_eq,kZ,T.cl_Train,T.no_Train_legs,qQ]
    refine wY (fun h=>⟨by show 0≤sizeLine;decide,fun b hb=>⟨by show 2≤sizeLine;decide,fun c hc=>?_⟩⟩) (fun h=>?_)
    · have sb:jG H (upd H b (.lst [])):=jG.new hb
      have sc:jG (upd H b (.lst [])) (upd (upd H b (.lst [])) c (.tup [V.int (-1),V.ref b])):=jG.new (by rw [jV hc.1];exact hc.2)
      exact k1 (by omega) _ c (sb.trans sc) ⟨b,[],jK,by rw [jV hc.1.symm,jK];rfl,rfl,fun i d r h=>by simp at h⟩
    have hb:¬ (to≤st∨t.legs < to):=by omega
    clear h k1
    refine ⟨p,d,l,t,dx,kvs,as,rfl,X,tok.nr,tok.nl,fun H1 s1=>⟨_,rfl,?_⟩⟩
    refine wY (fun h=>⟨by show 0≤sizeLine;decide,fun b hb'=>⟨by show 2≤sizeLine;decide,fun c hc=>?_⟩⟩) (fun h=>?_)
    · have sb:jG H1 (upd H1 b (.lst [])):=jG.new hb'
      have sc:jG (upd H1 b (.lst [])) (upd (upd H1 b (.lst [])) c (.tup [V.int (-6),V.ref b])):=jG.new (by rw [jV hc.1];exact hc.2)
      exact k6 hb h _ c (s1.trans (sb.trans sc)) ⟨b,[],jK,by rw [jV hc.1.symm,jK];rfl,rfl,fun i d r h=>by simp at h⟩
    have h:t.crowded.isSome=false:=by simpa using h
    have ok:=ok h
    clear k6
    refine ⟨p,d,l,t,dx,kvs,as,rfl,X.same s1,ok,fun H2 tq ts s2 htq Ts=>?_⟩
    have s02:=s1.trans s2
    have ct2:CTa Pa H2:=Tab.keep ct s02
    have cb2:CTb Pb H2:=Tab.keep cb s02
    refine ⟨p,d,l,t,dx,kvs,as,tq,ts,rfl,X.same s02,ok,Ts,ct2,fun H3 pp ds rows k3 ct3 hpp hrows G PL=>?_⟩
    obtain ⟨xt2,hxt2⟩:=CTa.ex ct2
    have X3:=jH.keepA (X.same s02) hxt2 k3
    have k03:vU Pa H H3:=(jG.keepA s02).trans k3
    have cb3:CTb Pb H3:=CTb.keepA cb2 hxt2 k3 nab
    have lpl:(kY t rows).length=t.legs:=by rw [wQ,hrows]
    have hnl:=ok.nl
    refine ⟨pp,rfl,⟨_,SqL.of PL.lst⟩,?_⟩
    refine lcr (J:=Itl K pp) (n:=t.legs) ((uJ t rows).map fun r=>HO.lst (vNs r)) (fun i H' hi s=>⟨_,V.ref (ds[i]'(by rw [PL.len,lpl];exact hi)),SqL.of (s _ _ PL.lst),by simp [PL.len,lpl,hi]⟩) (fun H' s=>⟨_,SqL.of (s _ _ PL.lst),by simp [PL.len,lpl]⟩) (fun D i H' x H4 hD hi pv hy=>?_) (fun D H4 hD pv=>?_)
    · obtain ⟨rfl,hx⟩:=hy
      have hx:=hx _ (SqL.of (pv.1 _ _ PL.lst))
      obtain ⟨g,hg⟩:∃ g,ds[i]? = some g:=⟨_,List.getElem?_eq_getElem (by rw [PL.len,lpl];exact hi)⟩
      obtain ⟨pl,hl'⟩:∃ r,(kY t rows)[i]? = some r:=⟨_,List.getElem?_eq_getElem (by rw [lpl];exact hi)⟩
      rw [List.getElem?_map,hg] at hx
      have hx:V.ref g=x:=by simpa using hx
      subst hx
      simp only [jI,v5,List.set_cons_succ,List.set_cons_zero,sE,vG,jN,j4,List.getElem?_cons_zero,Option.some.injEq,List.getElem?_cons_succ,kN,List.append_nil,exists_eq_left',if_true,true_and]
      refine ⟨p,d,l,t,dx,kvs,as,g,pl,rfl,X3.same pv.1,pv.1 _ _ (PL.at' i g pl hg hl'),?_,ok.ns,fun H5 q5 s5 hq5 e5=>?_⟩
      · have hm:=List.mem_of_getElem? hl'
        unfold kY at hm
        obtain ⟨x,_,rfl⟩:=List.mem_map.mp hm
        rw [List.length_zip];have:=sK t x.2;have:=ok.nr;omega
      · exact jp2 pv hD s5 hq5 e5 (by unfold uJ;rw [List.getElem?_map,List.getElem?_map,hl'];rfl) (by omega)
    · obtain ⟨s4,qs,e1,e2,e3,e4,e5,e6⟩:=pv
      have lfr:(uJ t rows).length=t.legs:=by unfold uJ;rw [List.length_map,lpl]
      have R4:vM H4 D qs (uJ t rows):=⟨e1,by rw [e2,lfr],fun i d r h1 h2=>e6 i d _ h1 (by rw [List.getElem?_map,h2];rfl)⟩
      have ct4:CTa Pa H4:=Tab.keep ct3 s4
      have cb4:CTb Pb H4:=Tab.keep cb3 s4
      have k04:vU Pa H H4:=k03.trans (jG.keepA s4)
      generalize hfr:uJ t rows=fr at lfr R4
      refine ⟨D,rfl,_,SqL.of R4.lst,fun b5 hb5=>?_⟩
      have hst:st≤to:=by omega
      have htl:to≤qs.length:=by omega
      rw [aZ hst (by rw [List.length_map];exact htl),← List.map_drop,← List.map_take]
      have sb5:jG H4 (upd H4 b5 (.lst (((qs.drop st).take (to - st)).map V.ref))):=jG.new hb5
      have R5:=R4.same sb5
      refine ⟨(qs.drop st).take (to - st),SqL.of jK,((fr.drop st).take (to - st)).map vNs,by rw [List.length_map,List.length_take,List.length_take,List.length_drop,List.length_drop,e2,lfr],fun i xs hx=>?_,?_⟩
      · rw [List.getElem?_map] at hx
        obtain ⟨r,hr',rfl⟩:=Option.map_eq_some_iff.mp hx
        have hi:i < to - st:=by
          have:=(List.getElem?_eq_some_iff.mp hr').1
          rw [List.length_take] at this;omega
        rw [List.getElem?_take_of_lt hi,List.getElem?_drop] at hr'
        obtain ⟨g,hg⟩:∃ g,qs[st+i]? = some g:=⟨_,List.getElem?_eq_getElem (by omega)⟩
        exact ⟨g,by rw [List.getElem?_take_of_lt hi,List.getElem?_drop];exact hg,SqL.of (R5.at' _ g r hg hr')⟩
      have hall:((((fr.drop st).take (to - st)).map vNs).all fun xs=>!xs.isEmpty)=true↔∀ k,st≤k→k < to→fr.getD k []≠[]:=by
        rw [List.all_eq_true]
        constructor
        · intro hA k h1 h2 z
          obtain ⟨r,hr'⟩:∃ r,fr[k]? = some r:=⟨_,List.getElem?_eq_getElem (by omega)⟩
          have hm:vNs r∈((fr.drop st).take (to - st)).map vNs:=List.mem_map_of_mem (List.mem_of_getElem? (i:=k - st) (by rw [List.getElem?_take_of_lt (by omega),List.getElem?_drop,show st+(k - st)=k by omega];exact hr'))
          have:=hA _ hm
          rw [List.getD_eq_getElem?_getD,hr'] at z
          have z:r=[]:=z
          rw [z] at this
          simp [vNs] at this
        · intro hA xs hm
          obtain ⟨r,hr',rfl⟩:=List.mem_map.mp hm
          obtain ⟨i,hi,e⟩:=List.getElem_of_mem hr'
          rw [List.length_take,List.length_drop] at hi
          rw [List.getElem_take,List.getElem_drop] at e
          have:=hA (st+i) (by omega) (by omega)
          rw [List.getD_eq_getElem?_getD,List.getElem?_eq_getElem (by omega),e] at this
          cases r with
          | nil=>exact absurd rfl this
          | cons x l=>rfl
      generalize ((((fr.drop st).take (to - st)).map vNs).all fun xs=>!xs.isEmpty)=bl at hall
      have ct5:CTa Pa (upd H4 b5 (.lst (((qs.drop st).take (to - st)).map V.ref))):=Tab.keep ct4 sb5
      have cb5:CTb Pb (upd H4 b5 (.lst (((qs.drop st).take (to - st)).map V.ref))):=Tab.keep cb4 sb5
      have k05:vU Pa H (upd H4 b5 (.lst (((qs.drop st).take (to - st)).map V.ref))):=k04.trans (jG.keepA sb5)
      refine ⟨bl,rfl,?_⟩
      refine wY (fun hb7=>⟨by show 0≤sizeLine;decide,fun b hb6=>⟨by show 2≤sizeLine;decide,fun c hc=>?_⟩⟩) (fun hb7=>?_)
      · have n1:(upd H4 b5 (.lst (((qs.drop st).take (to - st)).map V.ref))) b=none:=by rw [jV hb6.1];exact hb6.2
        have n2:(upd H4 b5 (.lst (((qs.drop st).take (to - st)).map V.ref))) c=none:=by rw [jV hc.2.1];exact hc.2.2
        generalize upd H4 b5 (.lst (((qs.drop st).take (to - st)).map V.ref))=H5 at ct5 cb5 k05 n1 n2
        have sb:jG H5 (upd H5 b (.lst [])):=jG.new n1
        have sc:jG (upd H5 b (.lst [])) (upd (upd H5 b (.lst [])) c (.tup [V.int (-7),V.ref b])):=jG.new (by rw [jV hc.1];exact n2)
        have sbc:=sb.trans sc
        refine k7 hb h _ c rows (fun x o e z1 z2=>sbc _ _ (k05 _ _ e z1)) (Tab.keep ct5 sbc) (Tab.keep cb5 sbc) hrows G ?_ ⟨b,[],jK,by rw [jV hc.1.symm,jK];rfl,rfl,fun i d r h=>by simp at h⟩
        rw [hfr]
        have hb7:bl≠true:=by intro z;rw [z] at hb7;simp at hb7
        apply Classical.byContradiction
        intro z
        exact hb7 (hall.mpr fun k h1 h2 h3=>z ⟨k,h1,h2,h3⟩)
      · have hb7:bl=true:=by
          cases bl with
          | true=>rfl
          | false=>simp at hb7
        have hfree:=hall.mp hb7
        generalize upd H4 b5 (.lst (((qs.drop st).take (to - st)).map V.ref))=H5 at ct5 cb5 k05 R5
        refine ⟨D,qs,fr,st,to,rfl,R5,hst,by omega,by omega,hfree,cb5,fun H6 q6 ws k6 cb6 hq6 hws W e6'=>?_⟩
        obtain ⟨xb,hxb⟩:=CTb.ex cb5
        have ct6:CTa Pa H6:=CTa.keepB ct5 hxb k6 nab
        have k06:yL Pa Pb H H6:=fun x o e z1 z2=>k6 _ _ (k05 _ _ e z1) z2
        refine ⟨q6,rfl,_,SqL.of e6',fun b7 hb7'=>?_⟩
        rw [nX]
        rw [show (vNs ws).drop 1=vNs (ws.drop 1) by unfold vNs;rw [List.map_drop]]
        have sb7:jG H6 (upd H6 b7 (.lst (vNs (ws.drop 1)))):=jG.new hb7'
        have e7:(upd H6 b7 (.lst (vNs (ws.drop 1)))) b7=some (.lst (vNs (ws.drop 1))):=jK
        have e6:=sb7 _ _ e6'
        generalize upd H6 b7 (.lst (vNs (ws.drop 1)))=H7 at sb7 e7 e6
        have sqq:∀ {H'},jG H7 H'→SqA K H' q6 (vNs ws) true:=fun s=>SqL.of (s _ _ e6)
        have sqp:∀ {H'},jG H7 H'→SqA K H' b7 (vNs (ws.drop 1)) true:=fun s=>SqL.of (s _ _ e7)
        refine ⟨q6,rfl,_,sqq (jG.refl _),_,sqp (jG.refl _),?_⟩
        refine lcb (n:=(ws.zip (ws.drop 1)).length) (fm (ws.zip (ws.drop 1)) (fun x=>decide (x.1≠x.2)) fun x=>V.int 1) kC (fun i H' hi s=>jkZ (sqq s) (sqp s) hi) (fun H' s=>bP (sqq s) (sqp s)) (fun D' i H' x H8 hD' hi pv hy=>?_) (fun D' H8 hD' s8 e8=>?_)
        · obtain ⟨T',c,d',rfl,hT,rfl,hx⟩:=tZ (sqq pv.1) (sqp pv.1) hi hy
          have sT:jG H' (upd H' T' (.tup [vN c,vN d'])):=jG.new hT
          refine ⟨T',_,rfl,SqT.of jK,rfl,?_⟩
          simp only [xA,vN,List.cons.injEq,jI,aL,v5,List.set_cons_succ,List.set_cons_zero,vH,tOp,j4,List.getElem?_cons_succ,List.getElem?_cons_zero,Option.some.injEq,rNe,f8,V.bl.injEq,tC,exists_eq_left',true_and,and_assoc,exists_and_left,V.int.injEq]
          have e:decide ((c:Int)=(d':Int))=decide (c=d'):=by simp;omega
          rw [e]
          refine wY (fun h=>lcY pv hD' sT (vL hx (by simpa using h)) (wV (m:=1000) (by rw [List.length_zip];omega) (by decide))) (fun h=>lcN pv sT (y4 hx (by simpa using h)))
        · rw [vT rfl] at e8
          have s68:=sb7.trans s8
          refine ⟨D',rfl,_,.inl (SqL.of e8),by show 1≤sizeLine;decide,fun g1 hg1=>⟨by show 2≤sizeLine;decide,fun g2 hg2=>?_⟩⟩
          have el:(((ws.zip (ws.drop 1)).filter fun x=>decide (x.1≠x.2)).map fun x=>V.int 1).length=mvCount ws (ws.drop 1):=by rw [List.length_map];rfl
          rw [el]
          have sg1:jG H8 (upd H8 g1 (.lst [.ref q6])):=jG.new hg1
          have sg2:jG (upd H8 g1 (.lst [.ref q6])) (upd (upd H8 g1 (.lst [.ref q6])) g2 (.tup [.int (mvCount ws (ws.drop 1):Nat),.ref g1])):=jG.new (by rw [jV hg2.1];exact hg2.2)
          have sg:=s68.trans (sg1.trans sg2)
          refine kk hb h _ g2 rows ws (fun x o e z1 z2=>sg _ _ (k06 _ _ e z1 z2)) (Tab.keep ct6 sg) (Tab.keep cb6 sg) hrows G (by rw [hfr];exact hfree) hws (by rw [hfr];exact W) ⟨g1,[q6],jK,⟨by rw [jV hg2.1.symm,jK];rfl,rfl,fun i d' r' h1 h2=>?_⟩⟩
          cases i with
          | zero =>
            have h1:q6=d':=by simpa using h1
            have h2:ws=r':=by simpa using h2
            subst h1 h2
            exact sg _ _ e6'
          | succ i=>simp at h1
end
inductive pZ:Nat→List Nat→Sw77.Call→Prop
  | begins (n s a b c:Nat):pZ 0 [n,s,a,b,c] (.begins n s ⟨a,b,c⟩)
  | pair (a b:Nat):pZ 1 [a,b] (.pair a b)
  | rider (a b g w:Nat):pZ 2 [a,b,g,w] (.rider ⟨a,b,g,Steps.zY w⟩)
  | drop (i:Nat) (h:i < 4294967296):pZ 3 [i] (.drop i)
  | full:pZ 4 [] .full
  | best:pZ 5 [] .best
  | cost (l:List (List Nat)) (h:(enc l).length≤1000):pZ 6 ((1+(enc l).length) :: l.length :: enc l) (.cost l)
  | more (a b:Nat):pZ 7 [a,b] (.more a b)
inductive lE:List Nat→List Sw77.Call→Prop
  | nil:lE [] []
  | cons {z:Nat} {w l:List Nat} {x:Sw77.Call} {xs:List Sw77.Call} (h:pZ z w x) (r:lE l xs):lE (z :: (w++l)) (x :: xs)
theorem nD:∀ l:List (List Nat),Ask.uH l=Ask.inz (enc l)
  | []=>rfl
  | r :: l=>by
    show Ask.pU r++Ask.uH l=_
    rw [nD l]
    unfold enc
    rw [List.flatMap_cons,Ask.wD];rfl
theorem xT:∀ (n:Nat) (l:List (List Nat)),(∀ r∈l,r.length≤n)→(enc l).length≤l.length * (n+1)
  | n,[],_=>Nat.zero_le _
  | n,r :: l,h=>by
    have ih:=xT n l fun x hx=>h x (List.mem_cons_of_mem _ hx)
    have hr:=h r List.mem_cons_self
    have e:(enc (r :: l)).length=(r.length+1)+(enc l).length:=by unfold enc;rw [List.flatMap_cons,List.length_append,List.length_cons]
    rw [e,List.length_cons,Nat.succ_mul];omega
theorem jk9 {c:List (List Int)} {x:Sw77.Call} (h:Ask.lP c x):∃ z w,pZ z w x∧PyFlat.put1 c=Ask.inz (z :: w):=by
  cases h with
  | begins n s a b c h=>exact ⟨_,_,.begins n s a b c,rfl⟩
  | pair a b h=>exact ⟨_,_,.pair a b,rfl⟩
  | rider a b g w h=>exact ⟨_,_,.rider a b g w,rfl⟩
  | drop i h=>exact ⟨_,_,.drop i h,rfl⟩
  | full=>exact ⟨_,_,.full,rfl⟩
  | best=>exact ⟨_,_,.best,rfl⟩
  | cost l h h1 =>
    have:=xT 20 l fun r hr=>(h1 r hr).1
    refine ⟨_,_,.cost l ?_,?_⟩
    · have h2:l.length * 21≤20 * 21:=Nat.mul_le_mul_right _ h
      omega
    · rw [nD]
      show [6]++(((((l.length:Int) :: Ask.inz (enc l)).length:Nat):Int) :: ((l.length:Int) :: Ask.inz (enc l)))++[]=_
      simp [Ask.inz]
      omega
  | more a b h=>exact ⟨_,_,.more a b,rfl⟩
theorem nF:∀ {ns:List Int} {xs:List Sw77.Call},Ask.jq7 ns xs→∃ l,ns=Ask.inz l∧lE l xs
  | _,_,.nil=>⟨[],rfl,.nil⟩
  | _,_,.cons h r=>by
    obtain ⟨l,e,f⟩:=nF r
    obtain ⟨z,w,a,e2⟩:=jk9 h
    refine ⟨z :: (w++l),?_,.cons a f⟩
    rw [e2,e,← Ask.wD];rfl
section
variable {P:Program} {w:World} {K:W.Frag} {mg:Str→Option Value} {base:Heap} {a:Adr} {Pa Pb:Addr}
def ju8 (K:W.Frag):Sp:=fun vs H Q _=>∃ (p:Addr) (pre w rest:List Nat) (z:Nat) (x:Sw77.Call),vs=[.ref p,.int (pre.length:Nat)]∧SqL K H p (vNs (pre++(z :: (w++rest))))∧pZ z w x∧Q (.int ((pre.length+1+w.length:Nat):Int)) H
theorem jcK:jD ["calls","at","end"] ["calls","at"] (jW jxJ):=⟨rfl,rfl,rfl,by decide +kernel,rfl,by decide +kernel,by decide +kernel⟩
theorem jn6 (T:Txt K mg a):vA P w K mg base CX0 3 a.f_xn a.d_xn ["calls","at"] (ju8 K):=by
  have nd:=jcK.nd
  refine T.F_xn.ok jcK (fun vs H Q E h=>?_) (fun cdv A outer s H vs Q E hr h=>?_)
  · obtain ⟨p,pre,w1,rest,z,x,rfl,hs,ha,kk⟩:=h
    rfl
  · obtain ⟨p,pre,w1,rest,z,x,rfl,hs,ha,kk⟩:=h
    have hu:=kE hr
    refine ⟨_,(jZ (kJ 2 nd (zK zX (zK zX (pv 1) jA) (vY (p7 K) (iG (v:=V.ref a.k_WIDTHS) rfl T.g_WIDTHS rfl) (vY (jT K) (pv 0) (pv 1) (fun _ _=>rfl)) (fun _ _=>rfl))))
(jZ (zV (jR h9 (vY (jT K) (pv 0) (pv 1) (fun _ _=>rfl)) (j2 rfl T.g_COST) (j0 _))
(jY (jC (zK zX (pv 2) (vY (jT K) (pv 0) (zK zX (pv 1) jA) (fun _ _=>rfl)))))
j6)
(jY (jC (pv 2))))),?_⟩
    rw [show j7 ["calls","at","end"] [.ref p,.int (pre.length:Nat)]=[some (.ref p),some (.int (pre.length:Nat)),none] from rfl]
    simp only [zH,wI,tOp,j4,List.getElem?_cons_succ,List.getElem?_cons_zero,Option.some.injEq,tC,rI0,V.int.injEq,fZ,jp4,V.ref.injEq,jI,gE,vH,List.set_cons_succ,List.set_cons_zero,rEq,f8,V.bl.injEq,zU,exists_and_left,exists_eq_left',zT,decide_eq_true_eq]
    have h0:(vNs (pre++(z :: (w1++rest))))[pre.length]? = some (vN z):=by unfold vNs;rw [List.getElem?_map,List.getElem?_append_right (Nat.le_refl _),Nat.sub_self];rfl
    have h1:(vNs (pre++(z :: (w1++rest))))[pre.length+1]? = ((w1++rest)[0]?).map vN:=by unfold vNs;rw [List.getElem?_map,List.getElem?_append_right (by omega),show pre.length+1 - pre.length=0+1 by omega];rfl
    refine ⟨_,hs,vN z,vK h0,_,z,rfl,T.s_WIDTHS H,?_⟩
    have plain:∀ (n:Nat),n=w1.length→z≠6→z < 6∨z=7→atI [V.int 5,V.int 2,V.int 4,V.int 1,V.int 0,V.int 0,V.int 1,V.int 2] (z:Int)=some (V.int (n:Int))→∃ x_3,atI [V.int 5,V.int 2,V.int 4,V.int 1,V.int 0,V.int 0,V.int 1,V.int 2] (z:Int)=some x_3∧∃ x,x_3=V.int x∧∃ x_4,SqL K H p x_4∧∃ x_5,atI x_4 (pre.length:Int)=some x_5∧f8 x_5 (V.int 6)=true∧if x_5=V.int 6 then ∃ x_6,SqL K H p x_6∧∃ x_7,atI x_6 ((pre.length:Int)+1)=some x_7∧∃ x_8,x_7=V.int x_8∧Q (V.int ((pre.length:Int)+1+x+x_8)) H else Q (V.int ((pre.length:Int)+1+x)) H:=by
      intro n hn h6 _ ha
      refine ⟨_,ha,n,rfl,_,hs,vN z,vK h0,rfl,?_⟩
      rw [if_neg (fun e=>h6 (by have:=V.int.inj e;omega))]
      rw [← hn] at kk
      have:((pre.length+1+n:Nat):Int)=(pre.length:Int)+1+n:=by omega
      rw [this] at kk
      exact kk
    cases ha with
    | begins=>exact plain 5 rfl (by decide) (by decide) rfl
    | pair=>exact plain 2 rfl (by decide) (by decide) rfl
    | rider=>exact plain 4 rfl (by decide) (by decide) rfl
    | drop=>exact plain 1 rfl (by decide) (by decide) rfl
    | full=>exact plain 0 rfl (by decide) (by decide) rfl
    | best=>exact plain 0 rfl (by decide) (by decide) rfl
    | more=>exact plain 2 rfl (by decide) (by decide) rfl
    | cost l hl =>
      refine ⟨.int 1,rfl,1,rfl,_,hs,vN 6,vK h0,rfl,?_⟩
      rw [if_pos (show vN 6=V.int 6 from rfl)]
      refine ⟨_,hs,vN (1+(enc l).length),?_,_,rfl,?_⟩
      · rw [show (pre.length:Int)+1=((pre.length+1:Nat):Int) by omega]
        exact vK (h1.trans rfl)
      · have:((pre.length+1+((1+(enc l).length) :: l.length :: enc l).length:Nat):Int)=(pre.length:Int)+1+1+((1+(enc l).length:Nat):Int):=by simp only [List.length_cons];omega
        rw [this] at kk
        exact kk
def jr3:Sp:=fun vs H Q _=>∃ (c:Addr) (bs:List Addr) (n:Int) (ls:List (List Nat)),vs=[.int n,.ref c]∧vM H c bs ls∧ls.length≤1000∧(∀ r∈ls,r.length≤1000)∧∀ (H':Hp) (q:Addr),jG H H'→H q=none→H' q=some (.lst ((n :: Ask.inz (enc ls)).map V.int))→Q (.ref q) H'
theorem jcW:jD ["number","lists","laid","members"] ["number","lists"] (jW jxZ):=⟨rfl,rfl,rfl,by decide +kernel,rfl,by decide +kernel,by decide +kernel⟩
theorem jn9 (T:Txt K mg a):vA P w K mg base CX0 3 a.f_xq a.d_xq ["number","lists"] (jr3):=by
  have nd:=jcW.nd
  refine T.F_xq.ok jcW (fun vs H Q E h=>?_) (fun cdv A outer s H vs Q E hr h=>?_)
  · obtain ⟨c,bs,n,ls,rfl,R,hl,hls,kk⟩:=h
    rfl
  · obtain ⟨c,bs,n,ls,rfl,R,hl,hls,kk⟩:=h
    have hu:=kE hr
    refine ⟨_,(jZ (kJ 2 nd (kR (jJ (pv 0) jQ)))
(jZ (yR (v3 (pv 1)) (pgn 3 nd)
(jZ (vP (qC PySem.F.plainAttrs_list PySem.F.slot_list_append PySem.F.type_list_append vD (pv 2) (jJ (jL (j8 K) rfl T.n_len vF (jJ (pv 3) jQ)) jQ)))
(jY (vP (qC PySem.F.plainAttrs_list PySem.F.slot_list_extend PySem.F.type_list_extend gZ (pv 2) (jJ (pv 3) jQ))))))
(jY (jC (pv 2))))),?_⟩
    rw [show j7 ["number","lists","laid","members"] [.int n,.ref c]=[some (.int n),some (.ref c),none,none] from rfl]
    simp only [zH,wI,dJ,jN,j4,List.getElem?_cons_zero,Option.some.injEq,kN,jI,uN,exists_and_left,List.set_cons_succ,List.set_cons_zero,zQ,yZ,List.getElem?_cons_succ,exists_eq_left',V.ref.injEq]
    refine ⟨by show 1≤sizeLine;decide,fun b hb=>?_⟩
    have sb:jG H (upd H b (.lst [V.int n])):=jG.new hb
    have eb:(upd H b (.lst [V.int n])) b=some (.lst [V.int n]):=jK
    generalize upd H b (.lst [V.int n])=H1 at sb eb
    refine ⟨⟨_,SqL.of (sb _ _ R.lst)⟩,?_⟩
    refine tG (J:=Itl K c) (n:=ls.length) (fun j σ H'=>jG H H'∧∃ (u3:Option V),σ=[some (.int n),some (.ref c),some (.ref b),u3]∧H' b=some (.lst ((n :: Ask.inz (enc (ls.take j))).map V.int))) ⟨sb,none,rfl,eb⟩ (fun j σ H' hj h=>⟨_,V.ref (bs[j]'(by rw [R.len];exact hj)),SqL.of (h.1 _ _ R.lst),by simp [R.len,hj]⟩) (fun σ H' h=>⟨_,SqL.of (h.1 _ _ R.lst),by simp [R.len]⟩) (fun j σ H2 x H3 hj h hy=>?_) (fun σ H2 h=>?_)
    · obtain ⟨rfl,hx⟩:=hy
      obtain ⟨s2,u3,rfl,e2⟩:=h
      have hx:=hx _ (SqL.of (s2 _ _ R.lst))
      obtain ⟨g,hg⟩:∃ g,bs[j]? = some g:=⟨_,List.getElem?_eq_getElem (by rw [R.len];exact hj)⟩
      obtain ⟨r,hr'⟩:∃ r,ls[j]? = some r:=⟨_,List.getElem?_eq_getElem hj⟩
      rw [List.getElem?_map,hg] at hx
      have hx:V.ref g=x:=by simpa using hx
      subst hx
      have eg:=s2 _ _ (R.at' j g r hg hr')
      have gb:g≠b:=fun z=>by
        have:=R.at' j g r hg hr'
        rw [z,hb] at this;cases this
      have het:enc (ls.take (j+1))=enc (ls.take j)++(r.length :: r):=by rw [List.take_add_one,hr',uG];rw [← aC r];rfl
      have hel:=xT 1000 (ls.take j) fun r hr=>hls r (List.mem_of_mem_take hr)
      have hjl:(ls.take j).length=j:=by rw [List.length_take];omega
      rw [hjl] at hel
      have hrl:=hls r (List.mem_of_getElem? hr')
      have hel2:(enc (ls.take j)).length≤1001000:=Nat.le_trans hel (by have:j * 1001≤1000 * 1001:=Nat.mul_le_mul_right _ (by omega);omega)
      simp only [jI,zH,qT,tBM,j4,List.set_cons_succ,List.set_cons_zero,List.getElem?_cons_succ,List.getElem?_cons_zero,Option.some.injEq,jN,tCB,kN,List.cons.injEq,and_true,zS,bW,true_and,List.map_cons,exists_eq_left',exists_and_left,V.ref.injEq,jK,HO.lst.injEq,mU]
      refine ⟨.inl ⟨rfl,_,SqL.of e2⟩,_,.inl (SqL.of eg),_,e2,?_,.inl ⟨rfl,_,SqL.of jK⟩,_,by rw [jV gb];exact eg,?_,?_,?_⟩
      · simp only [List.length_map,List.length_cons];rw [sizeLine_eq];omega
      · unfold vNs Ask.inz;simp only [List.length_append,List.length_map,List.length_cons,List.length_nil];rw [sizeLine_eq];omega
      · intro y o e
        rw [jV (jX e hb)];exact s2 _ _ e
      · rw [het]
        unfold vNs Ask.inz
        simp [Function.comp_def,vN]
    · obtain ⟨s2,u3,rfl,e2⟩:=h
      rw [List.take_of_length_le (Nat.le_refl _)] at e2
      exact ⟨_,rfl,kk _ b s2 hb e2⟩
end
structure jrX:Prop where
  side:∀ t,Steps.dF t→t.crowded.isSome=false→wK t
  best:∀ t rows,Steps.dF t→t.crowded.isSome=false→rows.length=t.legs→bN t rows→(Sw77.step t .best).2=⟨((vR t).1:Nat),[(vR t).2] :: (List.range t.riders.length).map fun i=>z7 (kY t rows) i⟩
  cost:∀ t l,t.planOk l=true→(Sw77.step t (.cost l)).2=⟨(planCost t (kY t l):Nat),[[movesOf (kY t l)]]⟩
  more7:∀ t rows st to,Steps.dF t→t.crowded.isSome=false→¬ (to≤st∨t.legs < to)→rows.length=t.legs→bN t rows→(∃ k,st≤k∧k < to∧(uJ t rows).getD k []=[])→(Sw77.step t (.more st to)).2=⟨-7,[]⟩
  more:∀ t rows st to ws,Steps.dF t→t.crowded.isSome=false→¬ (to≤st∨t.legs < to)→rows.length=t.legs→bN t rows→(∀ k,st≤k→k < to→(uJ t rows).getD k []≠[])→ws.length=to - st→g8 (uJ t rows) st to ws→(Sw77.step t (.more st to)).2=⟨(mvCount ws (ws.drop 1):Nat),[ws]⟩
theorem d5 (t:Sw77.Train) (st to:Nat):Sw77.step t (.more st to)=(if to≤st∨t.legs < to then (t,Sw77.ok (-1)) else (t,match t.crowded with | some _=>Sw77.ok (-6) | none=>match t.best.bind fun p=>t.squeeze p.rows (to - st) (to - st) st with | some w=>⟨(Sw77.moves w:Nat),[w]⟩ | none=>Sw77.ok (-7))):=rfl
theorem jw0 {t:Sw77.Train} {l:List (List Nat)} (h:t.planOk l=false):Sw77.step t (.cost l)=(t,Sw77.ok (-3)):=by
  show (if t.planOk l=false then (t,Sw77.ok (-3)) else _)=_
  rw [if_pos h]
theorem mB (ls:List Pl) (i:Nat):(z7 ls i).length≤ls.length:=by unfold z7;rw [List.length_map];exact List.length_filter_le _ _
def jnX (l:List (List Nat)):Prop:=l.length≤1000∧∀ r∈l,r.length≤1000
theorem aU {t:Sw77.Train} (G:Steps.dF t):jpJ t:=⟨G.riders,G.seats,G.legs,G.move,G.wish,G.apart⟩
section
variable {P:Program} {w:World} {K:W.Frag} {mg:Str→Option Value} {base:Heap} {a:Adr} {Pa Pb:Addr}
def jk2 (a:Adr):Sp:=fun vs H Q _=>∃ (p d l:Addr) (t:Sw77.Train) (dx:Addr) (kvs:TK) (as:List Addr) (z:Nat) (tq:Addr) (w:List Nat) (x:Sw77.Call),vs=[.ref p,.int z,.ref tq]∧jH a H p d l t dx kvs as∧t.riders.length≤20∧t.pairs.length≤1000∧H tq=some (.lst (vNs w))∧pZ z w x∧z≤3∧w6 a H p d l t x Q
theorem jcV:jD ["train","call","told"] ["train","call","told"] (jW jxK):=⟨rfl,rfl,rfl,by decide +kernel,rfl,by decide +kernel,by decide +kernel⟩
theorem jn7 (T:Txt K mg a):vA P w K mg base CX0 9 a.f_xo a.d_xo ["train","call","told"] (jk2 a):=by
  have nd:=jcV.nd
  have G_qc:=(jm0 (P:=P) (w:=w) (base:=base) T).mono (k:=8) (by decide)
  have G_qd:=(jm1 (P:=P) (w:=w) (base:=base) T).mono (k:=8) (by decide)
  have G_qe:=(jm2 (P:=P) (w:=w) (base:=base) T).mono (k:=8) (by decide)
  have G_qf:=(jm3 (P:=P) (w:=w) (base:=base) T).mono (k:=8) (by decide)
  refine T.F_xo.ok jcV (fun vs H Q E h=>?_) (fun cdv A outer s H vs Q E hr h=>?_)
  · obtain ⟨p,d,l,t,dx,kvs,as,z,tq,w1,x,rfl,X,hr1,hp1,ht,ha,hz,kk⟩:=h
    rfl
  · obtain ⟨p,d,l,t,dx,kvs,as,z,tq,w1,x,rfl,X,hr1,hp1,ht,ha,hz,kk⟩:=h
    have hu:=kE hr
    refine ⟨_,(jZ (zV (jR h9 (pv 1) (j2 rfl T.g_BEGINS) (j0 _))
(jY (jC (zR (pv 0) T.cl_Train T.m_qc G_qc hr T.b_qc .nil jU (jJ (vY (jT K) (pv 2) jA (fun _ _=>rfl)) (jJ (vY (jT K) (pv 2) jA (fun _ _=>rfl)) (jJ (vY (jT K) (pv 2) jA (fun _ _=>rfl)) (jJ (vY (jT K) (pv 2) jA (fun _ _=>rfl)) (jJ (vY (jT K) (pv 2) jA (fun _ _=>rfl)) jQ))))))))
j6)
(jZ (zV (jR h9 (pv 1) (j2 rfl T.g_PAIR) (j0 _))
(jY (jC (zR (pv 0) T.cl_Train T.m_qd G_qd hr T.b_qd .nil jU (jJ (vY (jT K) (pv 2) jA (fun _ _=>rfl)) (jJ (vY (jT K) (pv 2) jA (fun _ _=>rfl)) jQ)))))
j6)
(jZ (zV (jR h9 (pv 1) (j2 rfl T.g_RIDER) (j0 _))
(jY (jC (zR (pv 0) T.cl_Train T.m_qe G_qe hr T.b_qe .nil jU (jJ (vY (jT K) (pv 2) jA (fun _ _=>rfl)) (jJ (vY (jT K) (pv 2) jA (fun _ _=>rfl)) (jJ (vY (jT K) (pv 2) jA (fun _ _=>rfl)) (jJ (vY (jT K) (pv 2) jA (fun _ _=>rfl)) jQ)))))))
j6)
(jY (jC (zR (pv 0) T.cl_Train T.m_qf G_qf hr T.b_qf .nil jU (jJ (vY (jT K) (pv 2) jA (fun _ _=>rfl)) jQ))))))),?_⟩
    rw [show j7 ["train","call","told"] [.ref p,.int z,.ref tq]=[some (.ref p),some (.int z),some (.ref tq)] from rfl]
    cases ha with
    | begins n s1 x1 x2 x3 =>
      simp only [zH,gE,vH,tOp,j4,List.getElem?_cons_succ,List.getElem?_cons_zero,Option.some.injEq,tC,rEq,f8,V.bl.injEq,zU,wM,jN,fZ,V.int.injEq,kN,List.append_nil,exists_and_left,exists_eq_left',V.ref.injEq,X.tr,HO.ins.injEq,true_and,and_assoc,n6,zT,n8,n9,sJ,decide_eq_true_eq]
      rw [if_pos (by decide)]
      exact ⟨_,SqL.of ht,vN n,rfl,_,SqL.of ht,vN s1,rfl,_,SqL.of ht,vN x1,rfl,_,SqL.of ht,vN x2,rfl,_,SqL.of ht,vN x3,rfl,p,d,l,t,dx,kvs,as,n,s1,x1,x2,x3,rfl,X,kk⟩
    | pair x1 x2 =>
      simp only [zH,gE,vH,tOp,j4,List.getElem?_cons_succ,List.getElem?_cons_zero,Option.some.injEq,tC,rEq,f8,V.bl.injEq,zU,wM,jN,fZ,V.int.injEq,kN,List.append_nil,exists_and_left,exists_eq_left',V.ref.injEq,X.tr,HO.ins.injEq,true_and,and_assoc,n6,zT,n8,n9,sJ,decide_eq_true_eq]
      rw [if_neg (by decide),if_pos (by decide)]
      exact ⟨_,SqL.of ht,vN x1,rfl,_,SqL.of ht,vN x2,rfl,p,d,l,t,dx,kvs,as,x1,x2,rfl,X,hp1,kk⟩
    | rider x1 x2 x3 x4 =>
      simp only [zH,gE,vH,tOp,j4,List.getElem?_cons_succ,List.getElem?_cons_zero,Option.some.injEq,tC,rEq,f8,V.bl.injEq,zU,wM,jN,fZ,V.int.injEq,kN,List.append_nil,exists_and_left,exists_eq_left',V.ref.injEq,X.tr,HO.ins.injEq,true_and,and_assoc,n6,zT,n8,n9,sJ,decide_eq_true_eq]
      rw [if_neg (by decide),if_neg (by decide),if_pos (by decide)]
      exact ⟨_,SqL.of ht,vN x1,rfl,_,SqL.of ht,vN x2,rfl,_,SqL.of ht,vN x3,rfl,_,SqL.of ht,vN x4,rfl,p,d,l,t,dx,kvs,as,x1,x2,x3,x4,rfl,X,hr1,kk⟩
    | drop i hi =>
      simp only [zH,gE,vH,tOp,j4,List.getElem?_cons_succ,List.getElem?_cons_zero,Option.some.injEq,tC,rEq,f8,V.bl.injEq,zU,wM,jN,fZ,V.int.injEq,kN,List.append_nil,exists_and_left,exists_eq_left',V.ref.injEq,X.tr,HO.ins.injEq,true_and,and_assoc,n6,zT,n8,n9,sJ,decide_eq_true_eq]
      rw [if_neg (by decide),if_neg (by decide),if_neg (by decide)]
      exact ⟨_,SqL.of ht,vN i,rfl,p,d,l,t,dx,kvs,as,i,rfl,hi,X,kk⟩
    | full=>omega
    | best=>omega
    | cost=>omega
    | more=>omega
def jr4 (a:Adr) (Pa Pb:Addr):Sp:=fun vs H Q _=>∃ (p d l:Addr) (t:Sw77.Train) (dx:Addr) (kvs:TK) (as:List Addr) (z:Nat) (tq:Addr) (w:List Nat) (x:Sw77.Call),vs=[.ref p,.int z,.ref tq]∧jH a H p d l t dx kvs as∧Steps.dF t∧CTa Pa H∧CTb Pb H∧H tq=some (.lst (vNs w))∧pZ z w x∧4≤z ∧
  ∀ (H':Hp) (g:Addr),yL Pa Pb H H'→CTa Pa H'→CTb Pb H'→jnX (Sw77.step t x).2.l→pY H' g (Sw77.step t x).2.v (Sw77.step t x).2.l→Q (.ref g) H'
theorem jcZ:jD ["train","call","told"] ["train","call","told"] (jW jxV):=⟨rfl,rfl,rfl,by decide +kernel,rfl,by decide +kernel,by decide +kernel⟩
theorem jn8 (M:jrX) (T:Txt K mg a) (N1:g0 mg base a.c_xe Pa) (N2:g0 mg base a.c_xk Pb) (nab:Pa≠Pb):vA P w K mg base CX0 15 a.f_xp a.d_xp ["train","call","told"] (jr4 a Pa Pb):=by
  have nd:=jcZ.nd
  have G_qh:=(jhJ (P:=P) (w:=w) (base:=base) T).mono (k:=14) (by decide)
  have G_xh:=(jn0 (P:=P) (w:=w) (base:=base) T N1).mono (k:=14) (by decide)
  have G_qt:=(jmK (P:=P) (w:=w) (base:=base) T).mono (k:=14) (by decide)
  have G_xm:=(jn5 (P:=P) (w:=w) (base:=base) T N1 N2 nab).mono (k:=14) (by decide)
  refine T.F_xp.ok jcZ (fun vs H Q E h=>?_) (fun cdv A outer s H vs Q E hr h=>?_)
  · obtain ⟨p,d,l,t,dx,kvs,as,z,tq,w1,x,rfl,X,G,ct,cb,ht,ha,hz,kk⟩:=h
    rfl
  · obtain ⟨p,d,l,t,dx,kvs,as,z,tq,w1,x,rfl,X,G,ct,cb,ht,ha,hz,kk⟩:=h
    have hu:=kE hr
    refine ⟨_,(jZ (zV (jR h9 (pv 1) (j2 rfl T.g_FULL) (j0 _))
(jY (jC (v0 (jJ (zJ K (pv 0)) (jJ (kR (jJ (xY (pv 0) T.cl_Train T.m_qh G_qh hr T.b_qh .nil jU) jQ)) jQ)))))
j6)
(jZ (zV (jR h9 (pv 1) (j2 rfl T.g_BEST) (j0 _))
(jY (jC (jP G_xh hr rfl T.g_xh T.F_xh.kp T.b_xh .nil jU (jJ (pv 0) jQ))))
j6)
(jZ (zV (jR h9 (pv 1) (j2 rfl T.g_COST) (j0 _))
(jY (jC (jP G_qt hr rfl T.g_qt T.F_qt.kp T.b_qt .nil jU (jJ (pv 0) (jJ (qR gM (pv 2) (uZ jA) iC) jQ)))))
j6)
(jY (jC (jP G_xm hr rfl T.g_xm T.F_xm.kp T.b_xm .nil jU (jJ (pv 0) (jJ (vY (jT K) (pv 2) jA (fun _ _=>rfl)) (jJ (vY (jT K) (pv 2) jA (fun _ _=>rfl)) jQ))))))))),?_⟩
    rw [show j7 ["train","call","told"] [.ref p,.int z,.ref tq]=[some (.ref p),some (.int z),some (.ref tq)] from rfl]
    obtain ⟨xa,hxa⟩:=CTa.ex ct
    obtain ⟨xb,hxb⟩:=CTb.ex cb
    cases ha with
    | begins=>omega
    | pair=>omega
    | rider=>omega
    | drop=>omega
    | full =>
      simp only [zH,gE,vH,tOp,j4,List.getElem?_cons_succ,List.getElem?_cons_zero,Option.some.injEq,tC,rEq,f8,V.bl.injEq,zU,sS,jN,uQ,dJ,wM,kN,List.append_nil,kO,exists_and_left,exists_eq_left',V.ref.injEq,X.tr,HO.ins.injEq,true_and,and_assoc,cU,kZ,T.cl_Train,T.no_Train_legs,zT,vG,tSl,rO,V.int.injEq,yN,jvY,uN,fZ,decide_eq_true_eq]
      rw [if_pos (by decide)]
      refine ⟨p,d,l,t,dx,kvs,as,rfl,X,G.riders,G.legs,fun H1 q s1 hq e1=>?_⟩
      refine ⟨by show 1≤sizeLine;decide,fun b hb=>⟨by show 2≤sizeLine;decide,fun c hc=>?_⟩⟩
      have sb:jG H1 (upd H1 b (.lst [.ref q])):=jG.new hb
      have sc:jG (upd H1 b (.lst [.ref q])) (upd (upd H1 b (.lst [.ref q])) c (.tup [V.int (t.legs:Nat),V.ref b])):=jG.new (by rw [jV hc.1];exact hc.2)
      have s2:=s1.trans (sb.trans sc)
      refine kk _ c (fun b o e _ _=>s2 b o e) (Tab.keep ct s2) (Tab.keep cb s2) ?_ ⟨b,[q],jK,⟨by rw [jV hc.1.symm,jK];rfl,rfl,fun i d' r' h1 h2=>?_⟩⟩
      · refine ⟨by show 1≤1000;decide,fun r hr'=>?_⟩
        have hr':r=uA t:=by simpa [Sw77.step,uA] using hr'
        have:=G.legs
        rw [hr'];unfold uA;rw [List.length_map,List.length_range];omega
      · cases i with
        | zero =>
          have h1:q=d':=by simpa using h1
          have h2:uA t=r':=by simpa [Sw77.step,uA] using h2
          subst h1 h2
          exact (sb.trans sc) _ _ e1
        | succ i=>simp at h1
    | best =>
      simp only [zH,gE,vH,tOp,j4,List.getElem?_cons_succ,List.getElem?_cons_zero,Option.some.injEq,tC,rEq,f8,V.bl.injEq,zU,sS,jN,uQ,dJ,wM,kN,List.append_nil,kO,exists_and_left,exists_eq_left',V.ref.injEq,X.tr,HO.ins.injEq,true_and,and_assoc,cU,kZ,T.cl_Train,T.no_Train_legs,zT,vG,tSl,rO,V.int.injEq,yN,jvY,uN,fZ,decide_eq_true_eq]
      rw [if_neg (by decide),if_pos (by decide)]
      refine ⟨p,d,l,t,dx,kvs,as,rfl,X,aU G,M.side t G,ct,fun h H' g s An=>?_,fun h H' g rows k3 ct3 hrows GR An=>?_⟩
      · have e:(Sw77.step t .best).2=⟨-6,[]⟩:=by
          show (match t.crowded with | some _=>Sw77.ok (-6) | none=>_)=_
          cases z:t.crowded with
          | none=>rw [z] at h;cases h
          | some _=>rfl
        exact kk H' g (fun b o e _ _=>s b o e) (Tab.keep ct s) (Tab.keep cb s) (by rw [e];exact ⟨Nat.zero_le _,by simp⟩) (by rw [e];exact An)
      · have e:=M.best t rows G h hrows GR
        refine kk H' g (fun b o e z1 _=>k3 b o e z1) ct3 (CTb.keepA cb hxa k3 nab) ?_ (by rw [e];exact An)
        rw [e]
        refine ⟨by have:=G.riders;simp;omega,fun r hr'=>?_⟩
        rcases List.mem_cons.mp hr' with rfl | hr'
        · simp
        · obtain ⟨i,_,rfl⟩:=List.mem_map.mp hr'
          have h1:=mB (kY t rows) i
          rw [wQ,hrows] at h1
          have:=G.legs
          omega
    | cost lr hl =>
      simp only [zH,gE,vH,tOp,j4,List.getElem?_cons_succ,List.getElem?_cons_zero,Option.some.injEq,tC,rEq,f8,V.bl.injEq,zU,sS,jN,uQ,dJ,wM,kN,List.append_nil,kO,exists_and_left,exists_eq_left',V.ref.injEq,X.tr,HO.ins.injEq,true_and,and_assoc,cU,kZ,T.cl_Train,T.no_Train_legs,zT,vG,tSl,rO,V.int.injEq,yN,jvY,uN,fZ,decide_eq_true_eq]
      rw [if_neg (by decide),if_neg (by decide),if_pos (by decide)]
      refine ⟨_,SqL.of ht,fun b hb=>?_⟩
      rw [nX]
      have sb:jG H (upd H b (.lst ((vNs ((1+(enc lr).length) :: lr.length :: enc lr)).drop 1))):=jG.new hb
      refine ⟨p,d,l,t,dx,kvs,as,b,lr.length,lr,rfl,X.same sb,G.riders,G.legs,G.move,G.wish,G.apart,jK,hl,fun h H' q1 q2 s e1 e2=>?_,fun h H' q1 q2 q3 s e1 e2 e3=>?_⟩
      · have e:=jw0 h
        have s2:=sb.trans s
        exact kk H' q1 (fun b o e _ _=>s2 b o e) (Tab.keep ct s2) (Tab.keep cb s2) (by rw [e];exact ⟨Nat.zero_le _,by simp [Sw77.ok]⟩) (by rw [e];exact ⟨q2,[],e1,e2,rfl,fun i d r h=>by simp at h⟩)
      · have e:=M.cost t lr h
        have s2:=sb.trans s
        refine kk H' q1 (fun b o e _ _=>s2 b o e) (Tab.keep ct s2) (Tab.keep cb s2) (by rw [e];exact ⟨by simp,by simp⟩) ?_
        rw [e]
        refine ⟨q2,[q3],e1,e2,rfl,fun i d' r' h1 h2=>?_⟩
        cases i with
        | zero =>
          have h1:q3=d':=by simpa using h1
          have h2:[movesOf (kY t lr)]=r':=by simpa using h2
          subst h1 h2
          exact e3
        | succ i=>simp at h1
    | more st to =>
      simp only [zH,gE,vH,tOp,j4,List.getElem?_cons_succ,List.getElem?_cons_zero,Option.some.injEq,tC,rEq,f8,V.bl.injEq,zU,sS,jN,uQ,dJ,wM,kN,List.append_nil,kO,exists_and_left,exists_eq_left',V.ref.injEq,X.tr,HO.ins.injEq,true_and,and_assoc,cU,kZ,T.cl_Train,T.no_Train_legs,zT,vG,tSl,rO,V.int.injEq,yN,jvY,uN,fZ,decide_eq_true_eq]
      rw [if_neg (by decide),if_neg (by decide),if_neg (by decide)]
      refine ⟨_,SqL.of ht,vN st,rfl,_,SqL.of ht,vN to,rfl,p,d,l,t,dx,kvs,as,st,to,rfl,X,aU G,M.side t G,ct,cb,fun h H' g s An=>?_,fun h h2 H' g s An=>?_,fun h h2 H' g rows k3 ct3 cb3 hrows GR hfree An=>?_,fun h h2 H' g rows ws k3 ct3 cb3 hrows GR hfree hws W An=>?_⟩
      · have e:(Sw77.step t (.more st to)).2=⟨-1,[]⟩:=by rw [d5,if_pos h];rfl
        exact kk H' g (fun b o e _ _=>s b o e) (Tab.keep ct s) (Tab.keep cb s) (by rw [e];exact ⟨Nat.zero_le _,by simp⟩) (by rw [e];exact An)
      · have e:(Sw77.step t (.more st to)).2=⟨-6,[]⟩:=by
          rw [d5,if_neg h]
          cases z:t.crowded with
          | none=>rw [z] at h2;cases h2
          | some _=>rfl
        exact kk H' g (fun b o e _ _=>s b o e) (Tab.keep ct s) (Tab.keep cb s) (by rw [e];exact ⟨Nat.zero_le _,by simp⟩) (by rw [e];exact An)
      · have e:=M.more7 t rows st to G h2 h hrows GR hfree
        exact kk H' g k3 ct3 cb3 (by rw [e];exact ⟨Nat.zero_le _,by simp⟩) (by rw [e];exact An)
      · have e:=M.more t rows st to ws G h2 h hrows GR hfree hws W
        refine kk H' g k3 ct3 cb3 ?_ (by rw [e];exact An)
        rw [e]
        refine ⟨by simp,fun r hr'=>?_⟩
        have hr':r=ws:=by simpa using hr'
        have:=G.legs
        rw [hr',hws];omega
end
theorem oU {t:Sw77.Train} {z:Nat} {w:List Nat} {x:Sw77.Call} (h:pZ z w x) (hz:z≤3):(Sw77.step t x).2.l=[]:=by
  cases h with
  | begins=>unfold Sw77.step;dsimp only;split <;> rfl
  | pair=>unfold Sw77.step;dsimp only;split;rfl;split <;> rfl
  | rider=>unfold Sw77.step;dsimp only;split;rfl;split;rfl;split <;> rfl
  | drop=>unfold Sw77.step;dsimp only;split <;> rfl
  | full=>omega
  | best=>omega
  | cost=>omega
  | more=>omega
theorem jh8 {t:Sw77.Train} {z:Nat} {w:List Nat} {x:Sw77.Call} (h:pZ z w x) (hz:4≤z):(Sw77.step t x).1=t:=by
  cases h with
  | begins=>omega
  | pair=>omega
  | rider=>omega
  | drop=>omega
  | full=>rfl
  | best=>rfl
  | cost=>unfold Sw77.step;dsimp only;split <;> rfl
  | more=>unfold Sw77.step;dsimp only;split <;> rfl
theorem iV (x:Sw77.Ans):Sw77Neutral.out x=x.v :: Ask.inz (enc x.l):=by
  unfold Sw77Neutral.out
  congr 1
  generalize x.l=l
  induction l with
  | nil=>rfl
  | cons r l ih=>rw [List.flatMap_cons,ih];unfold enc;rw [List.flatMap_cons,Ask.wD];rfl
theorem jH.updL {a:Adr} {H:Hp} {p d l:Addr} {t:Sw77.Train} {dx:Addr} {kvs:TK} {as:List Addr} (X:jH a H p d l t dx kvs as) {g:Addr} {xs:List V} {o:HO} (hg:H g=some (.lst xs)) (hne:g≠l):jH a (upd H g o) p d l t dx kvs as :=
  ⟨by rw [jV (j1 X.tr hg (fun z=>nomatch z))];exact X.tr,by rw [jV (j1 X.dic hg (fun z=>nomatch z))];exact X.dic,X.bes,X.few,by rw [jV hne.symm];exact X.lst,X.len,fun i q r h1 h2=>let ⟨dx,e⟩:=X.rid i q r h1 h2;⟨dx,by rw [jV (j1 e hg (fun z=>nomatch z))];exact e⟩⟩
theorem Tab.updL {P:Addr} {pos:Pos} {q:Str} {H:Hp} (h:Tab P pos q H) {g:Addr} {xs:List V} {o:HO} (hg:H g=some (.lst xs)):Tab P pos q (upd H g o):=by
  rcases h with h | ⟨c,h,h2⟩
  · exact .inl (by rw [jV (j1 h hg (fun z=>nomatch z))];exact h)
  · exact .inr ⟨c,by rw [jV (j1 h hg (fun z=>nomatch z))];exact h,by rw [jV (j1 h2 hg (fun z=>nomatch z))];exact h2⟩
theorem SqL.keepAB {K:W.Frag} {Pa Pb:Addr} {H H':Hp} {xa xb:Array Value} (ha:H Pa=some (.tbl xa)) (hb:H Pb=some (.tbl xb)) (k:yL Pa Pb H H') {p:Addr} {xs:List V} (h:SqL K H p xs):SqL K H' p xs:=by
  rcases h with (h | ⟨o,h⟩) | h
  · exact .inl (.inl (k _ _ h (j1 h ha (fun z=>nomatch z)) (j1 h hb (fun z=>nomatch z))))
  · exact .inl (.inr ⟨o,k _ _ h (j1 h ha (fun z=>nomatch z)) (j1 h hb (fun z=>nomatch z))⟩)
  · exact .inr h
section
variable {P:Program} {w:World} {K:W.Frag} {mg:Str→Option Value} {base:Heap} {a:Adr} {Pa Pb:Addr}
def lK (a:Adr) (Pa Pb:Addr):Sp:=fun vs H Q _=>∃ (p d l:Addr) (t:Sw77.Train) (dx:Addr) (kvs:TK) (as:List Addr) (z:Nat) (tq:Addr) (w:List Nat) (x:Sw77.Call),vs=[.ref p,.int z,.ref tq]∧jH a H p d l t dx kvs as∧Steps.dF t∧t.pairs.length≤1000∧CTa Pa H∧CTb Pb H∧H tq=some (.lst (vNs w))∧pZ z w x ∧
  ∀ (H':Hp) (q d' l' dx':Addr) (kvs':TK) (as':List Addr),jH a H' p d' l' (Sw77.step t x).1 dx' kvs' as'→(∀ b o,H b=some o→b≠p→b≠d→b≠l→b≠Pa→b≠Pb→H' b=some o∧b≠q)→CTa Pa H'→CTb Pb H'→(d'=d∨H d'=none)→(l'=l∨H l'=none)→jnX (Sw77.step t x).2.l→H' q=some (.lst ((Sw77Neutral.out (Sw77.step t x).2).map V.int))→Q (.ref q) H'
theorem jcQ:jD ["train","call","told","answer"] ["train","call","told"] (jW jxW):=⟨rfl,rfl,rfl,by decide +kernel,rfl,by decide +kernel,by decide +kernel⟩
theorem jnJ (M:jrX) (T:Txt K mg a) (N1:g0 mg base a.c_xe Pa) (N2:g0 mg base a.c_xk Pb) (nab:Pa≠Pb):vA P w K mg base CX0 17 a.f_xr a.d_xr ["train","call","told"] (lK a Pa Pb):=by
  have nd:=jcQ.nd
  have G_xo:=(jn7 (P:=P) (w:=w) (base:=base) T).mono (k:=16) (by decide)
  have G_xp:=(jn8 (P:=P) (w:=w) (base:=base) M T N1 N2 nab).mono (k:=16) (by decide)
  have G_xq:=(jn9 (P:=P) (w:=w) (base:=base) T).mono (k:=16) (by decide)
  refine T.F_xr.ok jcQ (fun vs H Q E h=>?_) (fun cdv A outer s H vs Q E hr h=>?_)
  · obtain ⟨p,d,l,t,dx,kvs,as,z,tq,w1,x,rfl,X,G,hp1,ct,cb,ht,ha,kk⟩:=h
    rfl
  · obtain ⟨p,d,l,t,dx,kvs,as,z,tq,w1,x,rfl,X,G,hp1,ct,cb,ht,ha,kk⟩:=h
    have hu:=kE hr
    refine ⟨_,(jZ (zV (jR jj9 (pv 1) (j2 rfl T.g_DROP) (j0 _))
(jY (jC (kR (jJ (jP G_xo hr rfl T.g_xo T.F_xo.kp T.b_xo .nil jU (jJ (pv 0) (jJ (pv 1) (jJ (pv 2) jQ)))) jQ))))
j6)
(jZ (kJ 3 nd (jP G_xp hr rfl T.g_xp T.F_xp.kp T.b_xp .nil jU (jJ (pv 0) (jJ (pv 1) (jJ (pv 2) jQ)))))
(jY (jC (jP G_xq hr rfl T.g_xq T.F_xq.kp T.b_xq .nil jU (jJ (vY (p7 K) (pv 3) jA (fun _ _=>rfl)) (jJ (vY (p7 K) (pv 3) jA (fun _ _=>rfl)) jQ))))))),?_⟩
    rw [show j7 ["train","call","told","answer"] [.ref p,.int z,.ref tq]=[some (.ref p),some (.int z),some (.ref tq),none] from rfl]
    simp only [zH,gE,vH,tOp,j4,List.getElem?_cons_succ,List.getElem?_cons_zero,Option.some.injEq,tC,rI0,V.int.injEq,V.bl.injEq,zU,dJ,jN,vG,kN,List.append_nil,exists_eq_left',zT,wI,jI,List.set_cons_succ,List.set_cons_zero,jp4,exists_and_left,decide_eq_true_eq]
    obtain ⟨xa,hxa⟩:=CTa.ex ct
    obtain ⟨xb,hxb⟩:=CTb.ex cb
    refine wY (fun h=>?_) (fun h=>?_)
    · refine ⟨p,d,l,t,dx,kvs,as,z,tq,w1,x,rfl,X,G.riders,hp1,ht,ha,by omega,fun H1 d' l' dx' kvs' as' X1 k1 hd hl=>?_⟩
      have nt:∀ {b:Addr} {o:HO},H b=some o→(∀ C x f,o≠.ins C x f)→(∀ k,o≠.dT k)→(∀ k,o≠.lst k)→H1 b=some o:=fun {b o} e h1 h2 h3=>k1 b o e (j1 e X.tr (h1 _ _ _)) (j1 e X.dic (h2 _)) (j1 e X.lst (h3 _))
      have ct1:CTa Pa H1:=by
        rcases ct with h | ⟨c,h,h2⟩
        · exact .inl (nt h (fun _ _ _ z=>nomatch z) (fun _ z=>nomatch z) (fun _ z=>nomatch z))
        · exact .inr ⟨c,nt h (fun _ _ _ z=>nomatch z) (fun _ z=>nomatch z) (fun _ z=>nomatch z),nt h2 (fun _ _ _ z=>nomatch z) (fun _ z=>nomatch z) (fun _ z=>nomatch z)⟩
      have cb1:CTb Pb H1:=by
        rcases cb with h | ⟨c,h,h2⟩
        · exact .inl (nt h (fun _ _ _ z=>nomatch z) (fun _ z=>nomatch z) (fun _ z=>nomatch z))
        · exact .inr ⟨c,nt h (fun _ _ _ z=>nomatch z) (fun _ z=>nomatch z) (fun _ z=>nomatch z),nt h2 (fun _ _ _ z=>nomatch z) (fun _ z=>nomatch z) (fun _ z=>nomatch z)⟩
      refine ⟨by show 1≤sizeLine;decide,fun q hq=>?_⟩
      have sq:jG H1 (upd H1 q (.lst [.int (Sw77.step t x).2.v])):=jG.new hq
      have el:=oU (t:=t) ha (by omega)
      refine kk _ q d' l' dx' kvs' as' (X1.same sq) (fun b o e n1 n2 n3 _ _=>?_) (Tab.keep ct1 sq) (Tab.keep cb1 sq) hd hl (by rw [el];exact ⟨Nat.zero_le _,by simp⟩) (by rw [jK,iV,el];rfl)
      have e1:=k1 b o e n1 n2 n3
      exact ⟨sq _ _ e1,jX e1 hq⟩
    · refine ⟨p,d,l,t,dx,kvs,as,z,tq,w1,x,rfl,X,G,ct,cb,ht,ha,by omega,fun H1 g k1 ct1 cb1 hS An=>?_⟩
      obtain ⟨c,bs,e1,R⟩:=An.ex
      refine ⟨g,rfl,_,SqT.of e1,_,rfl,g,rfl,_,SqT.of e1,_,rfl,c,bs,_,_,rfl,R,hS.1,hS.2,fun H2 q s2 hq eq=>?_⟩
      have X1:jH a H1 p d l t dx kvs as:=by
        have nt:∀ {b:Addr} {o:HO},H b=some o→(∀ x,o≠.tbl x)→H1 b=some o:=fun {b o} e h=>k1 b o e (fun z=>by rw [z,hxa] at e;cases e;exact h _ rfl) (fun z=>by rw [z,hxb] at e;cases e;exact h _ rfl)
        exact ⟨nt X.tr (fun _ z=>nomatch z),nt X.dic (fun _ z=>nomatch z),X.bes,X.few,nt X.lst (fun _ z=>nomatch z),X.len,fun i q r h1 h2=>let ⟨dx,e⟩:=X.rid i q r h1 h2;⟨dx,nt e (fun _ z=>nomatch z)⟩⟩
      refine kk H2 q d l dx kvs as (by rw [jh8 (t:=t) ha (by omega)];exact X1.same s2) (fun b o e _ _ _ n1 n2=>?_) (Tab.keep ct1 s2) (Tab.keep cb1 s2) (.inl rfl) (.inl rfl) hS (by rw [eq,iV])
      have e1:=k1 b o e n1 n2
      exact ⟨s2 _ _ e1,jX e1 hq⟩
def rM (K:W.Frag) (Pa Pb:Addr):Sp:=fun vs H Q _=>∃ (p:Addr) (ns:List Int),vs=[.ref p]∧SqL K H p (ns.map V.int)∧PySw77.answers_asked ns=true∧CTa Pa H∧CTb Pb H∧∀ (H':Hp) (q:Addr),H' q=some (.lst ((PySw77.answers ns).map V.int))→yL Pa Pb H H'→CTa Pa H'→CTb Pb H'→Q (.ref q) H'
theorem jcX:jD ["calls","train","given","at","end","answer"] ["calls"] (jW jxQ):=⟨rfl,rfl,rfl,by decide +kernel,rfl,by decide +kernel,by decide +kernel⟩
theorem jnK (M:jrX) (T:Txt K mg a) (N1:g0 mg base a.c_xe Pa) (N2:g0 mg base a.c_xk Pb) (nab:Pa≠Pb):vA P w K mg base CX0 20 a.f_xs a.d_xs ["calls"] (rM K Pa Pb):=by
  have nd:=jcX.nd
  have G_xn:=(jn6 (P:=P) (w:=w) (base:=base) T).mono (k:=19) (by decide)
  have G_xr:=(jnJ (P:=P) (w:=w) (base:=base) M T N1 N2 nab).mono (k:=19) (by decide)
  have G_Train:=(jpY (P:=P) (w:=w) (base:=base) T).mono (k:=18) (by decide)
  refine T.F_xs.ok jcX (fun vs H Q E h=>?_) (fun cdv A outer s H vs Q E hr h=>?_)
  · obtain ⟨p,ns,rfl,hs,hask,ct,cb,kk⟩:=h
    rfl
  · obtain ⟨p,ns,rfl,hs,hask,ct,cb,kk⟩:=h
    have hu:=kE hr
    refine ⟨_,(jZ (kJ 1 nd (jjK T.M_Train G_Train hr rfl T.g_Train T.b_qb .nil jU))
(jZ (kJ 2 nd (kR jQ))
(jZ (kJ 3 nd jA)
(jZ (bK PassesOwn.never (jR rV (pv 3) (jL (j8 K) rfl T.n_len vF (jJ (pv 0) jQ)) (j0 _))
(jZ (kJ 4 nd (jP G_xn hr rfl T.g_xn T.F_xn.kp T.b_xn .nil jU (jJ (pv 0) (jJ (pv 3) jQ))))
(jZ (kJ 5 nd (jP G_xr hr rfl T.g_xr T.F_xr.kp T.b_xr .nil jU (jJ (pv 1) (jJ (vY (jT K) (pv 0) (pv 3) (fun _ _=>rfl)) (jJ (qR gM (pv 0) (uZ (zK zX (pv 3) jA)) (uZ (pv 4))) jQ)))))
(jZ (vP (qC PySem.F.plainAttrs_list PySem.F.slot_list_append PySem.F.type_list_append vD (pv 2) (jJ (jL (j8 K) rfl T.n_len vF (jJ (pv 5) jQ)) jQ)))
(jZ (vP (qC PySem.F.plainAttrs_list PySem.F.slot_list_extend PySem.F.type_list_extend gZ (pv 2) (jJ (pv 5) jQ)))
(jY (kJ 3 nd (pv 4))))))))
(jY (jC (pv 2))))))),?_⟩
    rw [show j7 ["calls","train","given","at","end","answer"] [.ref p]=[some (.ref p),none,none,none,none,none] from rfl]
    simp only [zH,wI,rE,kN,List.append_nil,jI,dJ,tC,exists_and_left,uN,List.set_cons_succ,List.set_cons_zero]
    obtain ⟨xa,hxa⟩:=CTa.ex ct
    obtain ⟨xb,hxb⟩:=CTb.ex cb
    obtain ⟨xs,hx1,hx40,hF,hA,hlen⟩:=Ask.tW hask
    obtain ⟨lN,rfl,hN⟩:=nF hF
    have evs:(Ask.inz lN).map V.int=vNs lN:=by unfold vNs Ask.inz;rw [List.map_map];rfl
    rw [evs] at hs
    intro tr dx1 htr hdx1 ndx
    refine ⟨tr,dx1,rfl,jK,fun H1 d1 l1 X1 k1 hd1 hl1=>⟨rfl,by show 0≤sizeLine;decide,fun g hg=>?_⟩⟩
    have s01:jG H H1:=jG.made htr hdx1 k1
    have fr1:∀ {b},(upd (upd H dx1 (.own tr)) tr (.ins a.C_Train dx1 [])) b=none→H b=none:=fun {b} h=>by
      by_cases z1:b=tr
      · rw [z1];exact htr
      · rw [jV z1] at h
        by_cases z2:b=dx1
        · rw [z2];exact hdx1
        · rw [jV z2] at h;exact h
    have sg:jG H1 (upd H1 g (.lst [])):=jG.new hg
    have gl:g≠l1:=(jX X1.lst hg).symm
    have s02:=s01.trans sg
    refine ⟨fun m σ H'=>∃ (done rest:List Nat) (xs:List Sw77.Call) (t:Sw77.Train) (d l dx:Addr) (kvs:TK) (as:List Addr) (gv:List Int) (u4 u5:Option V),m=xs.length∧lN=done++rest∧lE rest xs∧Steps.dF t∧t.pairs.length+xs.length≤1000∧jH a H' tr d l t dx kvs as∧CTa Pa H'∧CTb Pb H'∧H d=none∧H l=none∧yL Pa Pb H H'∧H' g=some (.lst (gv.map V.int))∧g≠l∧gv++Ask.jz2 t xs=PySw77.answers (Ask.inz lN)∧σ=[some (.ref p),some (.ref tr),some (.ref g),some (.int (done.length:Nat)),u4,u5],
      ⟨_,[],lN,xs,Sw77.init,d1,l1,dx1,[],[],[],none,none,rfl,rfl,hN,Steps.aI,by show 0+xs.length≤1000;omega,X1.same sg,Tab.keep ct s02,Tab.keep cb s02,fr1 hd1,fr1 hl1,fun b o e _ _=>s02 _ _ e,jK,gl,hA.symm,rfl⟩,?_⟩
    rintro m σ H2 ⟨done,rest,xs2,t,d,l,dx,kvs,as,gv,u4,u5,rfl,rfl,F2,G,hpr,X2,ct2,cb2,hd2,hl2,k2,eg,gl2,hgv,rfl⟩
    have hs2:=SqL.keepAB hxa hxb k2 hs
    obtain ⟨xa2,hxa2⟩:=CTa.ex ct2
    obtain ⟨xb2,hxb2⟩:=CTb.ex cb2
    simp only [vH,tOp,j4,List.getElem?_cons_succ,List.getElem?_cons_zero,Option.some.injEq,tCB,jN,kN,List.cons.injEq,and_true,rI0,V.int.injEq,V.bl.injEq,exists_and_left,zH,wI,vG,List.append_nil,jI,List.set_cons_succ,List.set_cons_zero,fZ,tSl,rO,tC,jvY,qT,tBM,zS,bW,exists_eq_left',V.ref.injEq,jK,HO.lst.injEq,mU,zU,decide_eq_true_eq]
    refine ⟨_,.inl hs2,?_⟩
    have elen:(vNs (done++rest)).length=done.length+rest.length:=by unfold vNs;rw [List.length_map,List.length_append]
    rw [elen]
    refine wY (fun h=>?_) (fun h=>?_)
    · cases F2 with
      | nil=>simp at h
      | @cons z w1 l2 x xs3 ha F3 =>
        have edone:done++z :: (w1++l2)=(done++(z :: w1))++l2:=by simp
        refine ⟨fun σ' H'=>∃ (t':Sw77.Train) (d l dx:Addr) (kvs:TK) (as:List Addr) (gv:List Int) (u4 u5:Option V),Steps.dF t'∧t'.pairs.length+xs3.length≤1000∧jH a H' tr d l t' dx kvs as∧CTa Pa H'∧CTb Pb H'∧H d=none∧H l=none∧yL Pa Pb H H'∧H' g=some (.lst (gv.map V.int))∧g≠l∧gv++Ask.jz2 t' xs3=PySw77.answers (Ask.inz (done++z :: (w1++l2)))∧σ'=[some (.ref p),some (.ref tr),some (.ref g),some (.int ((done.length+1+w1.length:Nat):Int)),u4,u5],?_,?_⟩
        · rintro σ' H' ⟨t',d,l,dx,kvs,as,gv,u4,u5,c1,c2,c3,c4,c5,c6,c7,c8,c9,c10,c11,rfl⟩
          exact ⟨xs3.length,by simp,done++(z :: w1),l2,xs3,rfl,edone,F3,t',c1,c2,d,l,dx,kvs,as,c3,c4,c5,c6,c7,c8,gv,c9,c10,c11,u4,u5,by simp;omega⟩
        refine ⟨p,done,w1,l2,z,x,rfl,hs2,ha,?_⟩
        have h0:(vNs (done++(z :: (w1++l2))))[done.length]? = some (vN z):=by unfold vNs;rw [List.getElem?_map,List.getElem?_append_right (Nat.le_refl _),Nat.sub_self];rfl
        refine ⟨_,hs2,vN z,vK h0,_,rfl,_,hs2,fun b hb=>?_⟩
        have hcut:lM (vNs (done++z :: (w1++l2))) (some ((done.length:Int)+1)) (some ((done.length+1+w1.length:Nat):Int))=vNs w1:=by
          have e1:vNs (done++z :: (w1++l2))=vNs (done++[z])++(vNs w1++vNs l2):=by unfold vNs;rw [← List.map_append,← List.map_append];simp
          have e2:(done.length:Int)+1=((vNs (done++[z])).length:Nat):=by unfold vNs;rw [List.length_map,List.length_append,List.length_singleton];omega
          have e3:((done.length+1+w1.length:Nat):Int)=((vNs (done++[z])).length+(vNs w1).length:Nat):=by unfold vNs;rw [List.length_map,List.length_map,List.length_append,List.length_singleton]
          rw [e3,e2,e1]
          exact aV _ _ _
        rw [hcut]
        have sb:jG H2 (upd H2 b (.lst (vNs w1))):=jG.new hb
        have eb:(upd H2 b (.lst (vNs w1))) b=some (.lst (vNs w1)):=jK
        generalize upd H2 b (.lst (vNs w1))=H3 at sb eb
        have eg3:=sb _ _ eg
        have X3:=X2.same sb
        refine ⟨tr,d,l,t,dx,kvs,as,z,b,w1,x,rfl,X3,G,by omega,Tab.keep ct2 sb,Tab.keep cb2 sb,eb,ha,fun H4 q d' l' dx' kvs' as' X4 k4 ct4 cb4 hd' hl' hS eq=>?_⟩
        have k34:∀ b o,H b=some o→b≠Pa→b≠Pb→H4 b=some o:=fun b o e n1 n2=>(k4 b o (sb _ _ (k2 _ _ e n1 n2)) (jX e htr) (jX e hd2) (jX e hl2) n1 n2).1
        have e4:=k4 g _ eg3 (j1 eg3 X3.tr (fun z=>nomatch z)) (j1 eg3 X3.dic (fun z=>nomatch z)) gl2 (j1 eg3 (sb _ _ hxa2) (fun z=>nomatch z)) (j1 eg3 (sb _ _ hxb2) (fun z=>nomatch z))
        have fresh:∀ b,H3 b=none→H b=none:=fun b hb=>by
          cases e:H b with
          | none=>rfl
          | some o =>
            by_cases z1:b=Pa
            · rw [z1,sb _ _ hxa2] at hb;cases hb
            · by_cases z2:b=Pb
              · rw [z2,sb _ _ hxb2] at hb;cases hb
              · rw [sb _ _ (k2 _ _ e z1 z2)] at hb;cases hb
        have hd0:H d'=none:=by rcases hd' with rfl | h;exact hd2;exact fresh _ h
        have hl0:H l'=none:=by rcases hl' with rfl | h;exact hl2;exact fresh _ h
        have gl4:g≠l':=by
          rcases hl' with rfl | h
          · exact gl2
          · exact jX eg3 h
        have htell:gv++(((Sw77Neutral.out (Sw77.step t x).2).length:Int) :: (Sw77Neutral.out (Sw77.step t x).2++Ask.jz2 (Sw77.step t x).1 xs3))=PySw77.answers (Ask.inz (done++z :: (w1++l2))):=hgv
        have hll:gv.length+1+(Sw77Neutral.out (Sw77.step t x).2).length≤10000000:=by
          have:=congrArg List.length htell
          rw [List.length_append,List.length_cons,List.length_append] at this
          omega
        have hg4:Steps.dF (Sw77.step t x).1:=Steps.aO G x
        have hp4:=Steps.t6 (t:=t) x
        have hpr':t.pairs.length+(xs3.length+1)≤1000:=hpr
        generalize Sw77Neutral.out (Sw77.step t x).2=ot at eq htell hll
        generalize (Sw77.step t x).1=t4 at X4 htell hg4 hp4
        refine ⟨.inl ⟨rfl,_,SqL.of e4.1⟩,q,rfl,_,.inl (SqL.of eq),_,e4.1,?_,.inl ⟨rfl,_,SqL.of jK⟩,q,rfl,ot.map V.int,?_,?_,?_⟩
        · rw [List.length_map,sizeLine_eq];omega
        · rw [jV e4.2.symm];exact eq
        · rw [List.length_append,List.length_map,List.length_map,List.length_singleton,sizeLine_eq];omega
        · refine ⟨t4,d',l',dx',kvs',as',gv++((ot.length:Int) :: ot),_,_,hg4,by omega,X4.updL e4.1 gl4,Tab.updL ct4 e4.1,Tab.updL cb4 e4.1,hd0,hl0,fun b o e n1 n2=>?_,?_,gl4,?_,rfl⟩
          · rw [jV (show b≠g from fun z=>by
              have:=s01.free hg
              rw [z,this] at e;cases e)]
            exact k34 b o e n1 n2
          · rw [jK,List.map_append,List.length_map];simp
          · rw [← htell];simp
    · cases F2 with
      | cons ha F3=>simp at h;omega
      | nil =>
        rw [show Ask.jz2 t []=[] from rfl,List.append_nil] at hgv
        exact kk H2 g (by rw [← hgv];exact eg) k2 ct2 cb2
end
end Y
namespace Y
def aP (n:Nat) (had:List Nat) (l:List (List Nat)):List (List Nat):=l.flatMap fun r=>((List.range n).filter fun s=>!(had++r).contains s).map fun s=>r++[s]
theorem nH (n:Nat) (had:List Nat) (s:Nat):∀ l:List (List Nat),aP n had (l.map fun r=>s :: r)=(aP n (s :: had) l).map fun r=>s :: r
  | []=>rfl
  | r :: l=>by
    have ih:=nH n had s l
    unfold aP at ih ⊢
    rw [List.map_cons,List.flatMap_cons,List.flatMap_cons,List.map_append,ih]
    congr 1
    rw [List.map_map]
    have e:((List.range n).filter fun u=>!(had++(s :: r)).contains u)=(List.range n).filter fun u=>!(s :: had++r).contains u:=by
      congr 1
      funext u
      congr 1
      simp only [List.contains_eq_mem,List.mem_append,List.mem_cons,List.cons_append,decide_eq_decide]
      constructor
      · rintro (h | h | h)
        · exact .inr (.inl h)
        · exact .inl h
        · exact .inr (.inr h)
      · rintro (h | h | h)
        · exact .inr (.inl h)
        · exact .inl h
        · exact .inr (.inr h)
    rw [e];rfl
theorem cY (n:Nat) (had:List Nat) {α:Type} (f:α→List (List Nat)) (l:List α):aP n had (l.flatMap f)=l.flatMap fun x=>aP n had (f x):=by
  unfold aP
  rw [List.flatMap_assoc]
theorem fU (n:Nat):∀ (k:Nat) (had:List Nat),Sw77.rowsOf n (k+1) had=aP n had (Sw77.rowsOf n k had)
  | 0,had=>by
    show (((List.range n).filter fun s=>!had.contains s).flatMap fun s=>[[s]])=aP n had [[]]
    unfold aP
    rw [List.flatMap_cons,List.flatMap_nil,List.append_nil,List.append_nil]
    generalize ((List.range n).filter fun s=>!had.contains s)=l
    induction l with
    | nil=>rfl
    | cons x l ih=>rw [List.flatMap_cons,List.map_cons,ih];rfl
  | k+1,had=>by
    show (((List.range n).filter fun s=>!had.contains s).flatMap fun s=>(Sw77.rowsOf n (k+1) (s :: had)).map fun r=>s :: r)=aP n had (((List.range n).filter fun s=>!had.contains s).flatMap fun s=>(Sw77.rowsOf n k (s :: had)).map fun r=>s :: r)
    rw [cY]
    congr 1
    funext s
    rw [fU n k (s :: had),nH]
theorem rR (n:Nat):∀ k,kP n k=Sw77.rowsOf n k []
  | 0=>rfl
  | k+1=>by
    rw [fU,← rR n k]
    show ext n (kP n k)=_
    unfold ext aP
    congr 1
    funext r
    congr 2
    funext s
    simp
theorem gP (t:Sw77.Train) (k:Nat):zO t k=t.rows k:=rR _ _
theorem vC {n:Nat}:∀ {k:Nat} {r:List Nat},r∈kP n k↔r.length=k∧r.Nodup∧∀ s∈r,s < n
  | 0,r=>by
    constructor
    · intro h
      have:r=[]:=by simpa [kP] using h
      subst this
      exact ⟨rfl,List.nodup_nil,by simp⟩
    · rintro ⟨h,_⟩
      have:r=[]:=List.length_eq_zero_iff.mp h
      subst this
      simp [kP]
  | k+1,r=>by
    show r∈ext n (kP n k)↔_
    unfold ext
    rw [List.mem_flatMap]
    constructor
    · rintro ⟨r0,h0,h⟩
      obtain ⟨s,hs,rfl⟩:=List.mem_map.mp h
      obtain ⟨h1,h2⟩:=List.mem_filter.mp hs
      have h1:=List.mem_range.mp h1
      have h2:s∉r0:=by simpa using h2
      obtain ⟨a1,a2,a3⟩:=vC.mp h0
      refine ⟨by rw [List.length_append,a1];rfl,?_,fun x hx=>?_⟩
      · rw [List.nodup_append]
        refine ⟨a2,by simp,fun x hx y hy z=>h2 ?_⟩
        rw [← (show y=s by simpa using hy),← z];exact hx
      · rcases List.mem_append.mp hx with hx | hx
        · exact a3 x hx
        · rw [show x=s by simpa using hx];exact h1
    · rintro ⟨h,nd,hlt⟩
      obtain ⟨r0,s,rfl⟩:∃ r0 s,r=r0++[s]:=⟨r.dropLast,r.getLast (by intro e;rw [e] at h;cases h),(List.dropLast_concat_getLast _).symm⟩
      rw [List.nodup_append] at nd
      refine ⟨r0,vC.mpr ⟨by simpa using h,nd.1,fun x hx=>hlt x (by simp [hx])⟩,List.mem_map.mpr ⟨s,List.mem_filter.mpr ⟨List.mem_range.mpr (hlt s (by simp)),?_⟩,rfl⟩⟩
      have:s∉r0:=fun z=>nd.2.2 s z s (by simp) rfl
      simpa using this
end Y
namespace Y
theorem qL:∀ l:List Nat,Sw77.total l=l.sum:=by
  have h:∀ (l:List Nat) (a:Nat),l.foldl (fun a b=>a+b) a=a+l.sum:=by
    intro l
    induction l with
    | nil=>intro a;rfl
    | cons x l ih=>intro a;rw [List.foldl_cons,ih,List.sum_cons];omega
  intro l
  show l.foldl (fun a b=>a+b) 0=_
  rw [h];omega
theorem mT {α:Type} (p:α→Bool) (c:Nat):∀ l:List α,(l.map fun x=>if p x=true then c else 0).sum=c * (l.filter p).length
  | []=>by simp
  | x :: l=>by
    rw [List.map_cons,List.sum_cons,mT p c l,List.filter_cons]
    by_cases h:p x=true
    · rw [if_pos h,if_pos h,List.length_cons,Nat.mul_succ];omega
    · rw [if_neg h,if_neg h];omega
theorem gL {α:Type} (f:α→List Nat):∀ l:List α,(l.flatMap f).sum=(l.map fun x=>(f x).sum).sum
  | []=>rfl
  | x :: l=>by rw [List.flatMap_cons,List.sum_append,gL f l,List.map_cons,List.sum_cons]
theorem i6 {α:Type} (c:Nat) (f:α→Nat):∀ l:List α,(l.map fun x=>c * f x).sum=c * (l.map f).sum
  | []=>by simp
  | x :: l=>by rw [List.map_cons,List.map_cons,List.sum_cons,List.sum_cons,i6 c f l,Nat.mul_add]
theorem jf6 (t:Sw77.Train) (k:Nat) (r:List Nat) (h:∀ i∈t.on k,i < t.riders.length):legCost t ((t.on k).zip r)=t.own k r:=by
  unfold legCost Sw77.Train.own
  dsimp only
  have hm:∀ x∈(t.on k).zip r,x.1 < t.riders.length:=fun x hx=>h _ (List.of_mem_zip hx).1
  generalize (t.on k).zip r=l at hm
  rw [qL,qL]
  congr 1
  · rw [← mT]
    congr 1
    apply List.map_congr_left
    intro x _
    unfold uO
    cases e:(t.riders[x.1]?).bind (·.wish) with
    | none=>rfl
    | some w =>
      dsimp only
      by_cases hw:w=x.2
      · simp [hw]
      · rw [if_neg hw];simp [hw]
  · rw [gL]
    unfold pairsApart
    rw [← i6]
    congr 1
    apply List.map_congr_left
    intro x hx
    rw [← mT]
    congr 1
    apply List.map_congr_left
    intro y hy
    have h1:=hm x hx
    have h2:=hm y hy
    unfold kM qF
    rw [List.getElem?_eq_getElem h1,List.getElem?_eq_getElem h2]
    simp only [Option.map_some,Option.getD_some,Bool.and_eq_true,decide_eq_true_eq,Bool.not_eq_true']
    congr 1
    simp only [eq_iff_iff]
    constructor
    · rintro ⟨a1,⟨a2,a3⟩,a4⟩
      exact ⟨a1,a2,a3,a4⟩
    · rintro ⟨a1,a2,a3,a4⟩
      exact ⟨a1,⟨a2,a3⟩,a4⟩
theorem jvV (t:Sw77.Train) (k:Nat) (r:List Nat):legCost t ((t.on k).zip r)=t.own k r:=jf6 t k r fun i h=>jf3 h
end Y
namespace Y
theorem qY:∀ {l:Pl} {i a:Nat},l.lookup i=some a→(i,a)∈l
  | (x,y) :: l,i,a,h=>by
    rw [List.lookup_cons] at h
    by_cases e:i=x
    · subst e
      rw [beq_self_eq_true] at h
      cases h
      exact List.mem_cons_self
    · rw [beq_false_of_ne e] at h
      exact List.mem_cons_of_mem _ (qY h)
theorem wC {l:Pl} (nd:(l.map (·.1)).Nodup) {i a:Nat}:l.lookup i=some a↔(i,a)∈l:=⟨qY,fun h=>yQ nd h⟩
theorem fB {l m:List Nat} (h1:l.Nodup) (h2:m.Nodup) (h:∀ x,x∈l↔x∈m):l.length=m.length:=((List.perm_ext_iff_of_nodup h1 h2).mpr h).length_eq
theorem fC {t:Sw77.Train} {k:Nat} {r s:List Nat} {i:Nat}:i∈t.movers k r s↔∃ a b,(i,a)∈(t.on k).zip r∧(i,b)∈(t.on (k+1)).zip s∧a≠b:=by
  have n1:(((t.on k).zip r).map (·.1)).Nodup:=uX (wE t k)
  have n2:(((t.on (k+1)).zip s).map (·.1)).Nodup:=uX (wE t (k+1))
  unfold Sw77.Train.movers Sw77.Train.seatOf
  rw [List.mem_filter]
  constructor
  · rintro ⟨h1,h2⟩
    cases e1:((t.on k).zip r).lookup i with
    | none=>rw [e1] at h2;simp at h2
    | some a =>
      cases e2:((t.on (k+1)).zip s).lookup i with
      | none=>rw [e1,e2] at h2;simp at h2
      | some b =>
        rw [e1,e2] at h2
        exact ⟨a,b,qY e1,qY e2,by simpa using h2⟩
  · rintro ⟨a,b,h1,h2,h3⟩
    refine ⟨(List.of_mem_zip h2).1,?_⟩
    rw [(wC n1).mpr h1,(wC n2).mpr h2]
    simpa using h3
theorem cE (t:Sw77.Train) (k:Nat) (r s:List Nat):(t.movers k r s).Nodup:=List.Nodup.sublist List.filter_sublist (wE t (k+1))
theorem nO (t:Sw77.Train) (k:Nat) (r s:List Nat):movesB ((t.on k).zip r) ((t.on (k+1)).zip s)=(t.movers k r s).length:=by
  have n1:(((t.on k).zip r).map (·.1)).Nodup:=uX (wE t k)
  have n2:(((t.on (k+1)).zip s).map (·.1)).Nodup:=uX (wE t (k+1))
  unfold movesB
  rw [← List.length_map (f:=fun x:Nat×Nat=>x.1)]
  refine fB ?_ (cE t k r s) fun i=>?_
  · exact n1.sublist (List.Sublist.map _ List.filter_sublist)
  · rw [fC,List.mem_map]
    constructor
    · rintro ⟨⟨i',a⟩,h,rfl⟩
      obtain ⟨h1,h2⟩:=List.mem_filter.mp h
      unfold mvd at h2
      cases e:((t.on (k+1)).zip s).lookup i' with
      | none=>rw [e] at h2;cases h2
      | some b=>rw [e] at h2;exact ⟨a,b,h1,qY e,by simpa using h2⟩
    · rintro ⟨a,b,h1,h2,h3⟩
      refine ⟨(i,a),List.mem_filter.mpr ⟨h1,?_⟩,rfl⟩
      unfold mvd
      rw [(wC n2).mpr h2]
      simpa using h3
theorem fN (m:Pl):movesB [] m=0:=rfl
def qN (ab r:List Nat) (i:Nat):Nat:=((ab.zip r).lookup i).getD 0
theorem dY {ab r:List Nat} (h:ab.length=r.length):(ab.zip r).map (·.1)=ab:=by rw [m8,← h,List.take_of_length_le (Nat.le_refl _)]
theorem iW {ab r sm:List Nat} (nd:ab.Nodup) (h:ab.length=r.length):kW r ab sm=(ab.filter fun i=>decide (i∈sm)).map (qN ab r):=by
  have n1:((ab.zip r).map (·.1)).Nodup:=uX nd
  unfold kW
  have e1:((ab.zip r).filter fun x=>decide (x.1∈sm)).map (·.2)=((ab.zip r).filter fun x=>decide (x.1∈sm)).map (fun x=>qN ab r x.1):=by
    apply List.map_congr_left
    rintro ⟨i,a⟩ hx
    have hx:=(List.mem_filter.mp hx).1
    show a=qN ab r i
    unfold qN
    rw [(wC n1).mpr hx];rfl
  rw [e1]
  have e2:(ab.filter fun i=>decide (i∈sm))=((ab.zip r).filter fun x=>decide (x.1∈sm)).map (·.1):=by
    rw [show ab.filter (fun i=>decide (i∈sm))=((ab.zip r).map (·.1)).filter (fun i=>decide (i∈sm)) by rw [dY h],List.filter_map]
    rfl
  rw [e2,List.map_map];rfl
theorem mS {t:Sw77.Train} {k i:Nat}:i∈stay t k↔i∈t.on k∧i∈t.on (k+1):=by unfold stay;rw [List.mem_filter,decide_eq_true_eq]
theorem juX (t:Sw77.Train) (k:Nat):(stay t k).Nodup:=List.Nodup.sublist List.filter_sublist (wE t k)
theorem jr9 (t:Sw77.Train) (k:Nat):((t.on k).filter fun i=>decide (i∈stay t k))=stay t k:=by
  conv=>rhs;unfold stay
  apply List.filter_congr
  intro i hi
  rw [decide_eq_decide,mS]
  exact ⟨fun h=>h.2,fun h=>⟨hi,h⟩⟩
theorem jv9 {t:Sw77.Train} {k i:Nat}:i∈t.on k↔i < t.riders.length∧((t.riders[i]?).any fun r=>decide (r.from_≤k) && decide (k < r.to))=true:=by
  unfold Sw77.Train.on;rw [List.mem_filter,List.mem_range]
theorem jz0 (t:Sw77.Train) (k:Nat):((t.on (k+1)).filter fun i=>decide (i∈stay t k))=stay t k:=by
  have e:stay t k=(List.range t.riders.length).filter fun i=>decide (i∈t.on k∧i∈t.on (k+1)):=by
    unfold stay
    conv=>lhs;arg 2;unfold Sw77.Train.on
    rw [List.filter_filter]
    apply List.filter_congr
    intro i hi
    rw [Bool.eq_iff_iff,Bool.and_eq_true,decide_eq_true_eq,decide_eq_true_eq,jv9 (k:=k)]
    have:=List.mem_range.mp hi
    exact ⟨fun h=>⟨⟨this,h.2⟩,h.1⟩,fun h=>⟨h.2,h.1.2⟩⟩
  conv=>rhs;rw [e]
  conv=>lhs;arg 2;unfold Sw77.Train.on
  rw [List.filter_filter]
  apply List.filter_congr
  intro i hi
  rw [Bool.eq_iff_iff,Bool.and_eq_true,decide_eq_true_eq,decide_eq_true_eq,mS,jv9 (k:=k+1)]
  have:=List.mem_range.mp hi
  exact ⟨fun h=>h.1,fun h=>⟨h,h.2.2⟩⟩
theorem jvZ {t:Sw77.Train} {k:Nat} {r:List Nat} (h:r.length=(t.on k).length):kW r (t.on k) (stay t k)=(stay t k).map (qN (t.on k) r):=by rw [iW (wE t k) h.symm,jr9]
theorem jvW {t:Sw77.Train} {k:Nat} {s:List Nat} (h:s.length=(t.on (k+1)).length):rF t k s=(stay t k).map (qN (t.on (k+1)) s):=by unfold rF;rw [iW (wE t (k+1)) h.symm,jz0]
theorem jh9 (l:List Nat) (g h:Nat→Nat):mvCount (l.map g) (l.map h)=(l.filter fun i=>decide (g i≠h i)).length:=by
  unfold mvCount
  induction l with
  | nil=>rfl
  | cons x l ih =>
    rw [List.map_cons,List.map_cons,List.zip_cons_cons,List.filter_cons,List.filter_cons]
    by_cases e:g x≠h x
    · rw [if_pos (by simpa using e),if_pos (by simpa using e),List.length_cons,List.length_cons,ih]
    · rw [if_neg (by simpa using e),if_neg (by simpa using e),ih]
theorem oF {ab r:List Nat} (nd:ab.Nodup) (h:ab.length=r.length) {i:Nat} (hi:i∈ab):(i,qN ab r i)∈ab.zip r:=by
  have n1:((ab.zip r).map (·.1)).Nodup:=uX nd
  have:i∈(ab.zip r).map (·.1):=by rw [dY h];exact hi
  obtain ⟨⟨i',a⟩,hx,rfl⟩:=List.mem_map.mp this
  unfold qN
  rw [(wC n1).mpr hx];exact hx
theorem jj4 {t:Sw77.Train} {k:Nat} {r s:List Nat} (hr:r.length=(t.on k).length) (hs:s.length=(t.on (k+1)).length):mvCount (kW r (t.on k) (stay t k)) (rF t k s)=(t.movers k r s).length:=by
  rw [jvZ hr,jvW hs,jh9]
  have n1:(((t.on k).zip r).map (·.1)).Nodup:=uX (wE t k)
  have n2:(((t.on (k+1)).zip s).map (·.1)).Nodup:=uX (wE t (k+1))
  refine fB (List.Nodup.sublist List.filter_sublist (juX t k)) (cE t k r s) fun i=>?_
  rw [List.mem_filter,fC,decide_eq_true_eq,mS]
  constructor
  · rintro ⟨⟨h1,h2⟩,h3⟩
    exact ⟨_,_,oF (wE t k) hr.symm h1,oF (wE t (k+1)) hs.symm h2,h3⟩
  · rintro ⟨a,b,h1,h2,h3⟩
    refine ⟨⟨(List.of_mem_zip h1).1,(List.of_mem_zip h2).1⟩,?_⟩
    unfold qN
    rw [(wC n1).mpr h1,(wC n2).mpr h2]
    exact h3
end Y
namespace Y
theorem o5 {n:Nat} {l:List Nat} (h:l.length < n):∃ s,s < n∧s∉l:=by
  apply Classical.byContradiction
  intro z
  have hs:List.range n ⊆ l:=fun x hx=>Classical.byContradiction fun hn=>z ⟨x,List.mem_range.mp hx,hn⟩
  have:=List.Nodup.length_le_of_subset List.nodup_range hs
  rw [List.length_range] at this
  omega
theorem aM (n:Nat) (sm:List Nat):∀ (ab q used:List Nat),(used++q).Nodup→(∀ s∈used++q,s < n)→used.length+ab.length≤n→q.length=(ab.filter fun i=>decide (i∈sm)).length →
    ∃ r,r.length=ab.length∧(used++r).Nodup∧(∀ s∈r,s < n)∧kW r ab sm=q
  | [],q,used,nd,hn,hl,hq=>by
    have:q=[]:=List.length_eq_zero_iff.mp hq
    subst this
    exact ⟨[],rfl,nd,by simp,rfl⟩
  | x :: ab,q,used,nd,hn,hl,hq=>by
    rw [List.length_cons] at hl
    rw [List.nodup_append] at nd
    by_cases hx:x∈sm
    · rw [List.filter_cons,if_pos (by simpa using hx),List.length_cons] at hq
      cases q with
      | nil=>simp at hq
      | cons s q =>
        have hq:q.length=(ab.filter fun i=>decide (i∈sm)).length:=by simpa using hq
        have ndq:=List.nodup_cons.mp nd.2.1
        have hsu:s∉used:=fun z=>nd.2.2 s z s (by simp) rfl
        obtain ⟨r,h1,h2,h3,h4⟩:=aM n sm ab q (used++[s]) (by
          rw [List.append_assoc,List.nodup_append]
          exact ⟨nd.1,nd.2.1,fun a ha b hb=>nd.2.2 a ha b hb⟩) (by rw [List.append_assoc];exact hn) (by rw [List.length_append,List.length_singleton];omega) hq
        refine ⟨s :: r,by rw [List.length_cons,List.length_cons,h1],by rw [List.append_assoc] at h2;exact h2,fun u hu=>?_,?_⟩
        · rcases List.mem_cons.mp hu with rfl | hu
          · exact hn _ (by simp)
          · exact h3 u hu
        · unfold kW at h4 ⊢
          rw [List.zip_cons_cons,List.filter_cons,if_pos (by simpa using hx),List.map_cons,h4]
    · rw [List.filter_cons,if_neg (by simpa using hx)] at hq
      have hql:q.length≤ab.length:=by rw [hq];exact List.length_filter_le _ _
      obtain ⟨s,hs1,hs2⟩:=o5 (n:=n) (l:=used++q) (by rw [List.length_append];omega)
      have hs2':s∉used∧s∉q:=by simpa using hs2
      obtain ⟨r,h1,h2,h3,h4⟩:=aM n sm ab q (used++[s]) (by
        rw [List.append_assoc,List.nodup_append]
        refine ⟨nd.1,?_,fun a ha b hb=>?_⟩
        · rw [List.singleton_append,List.nodup_cons];exact ⟨hs2'.2,nd.2.1⟩
        · rcases List.mem_append.mp hb with hb | hb
          · rw [show b=s by simpa using hb];exact fun z=>hs2'.1 (z ▸ ha)
          · exact nd.2.2 a ha b hb) (fun u hu=>by
        rw [List.append_assoc] at hu
        rcases List.mem_append.mp hu with hu | hu
        · exact hn u (by simp [hu])
        · rcases List.mem_append.mp hu with hu | hu
          · rw [show u=s by simpa using hu];exact hs1
          · exact hn u (by simp [hu])) (by rw [List.length_append,List.length_singleton];omega) hq
      refine ⟨s :: r,by rw [List.length_cons,List.length_cons,h1],by rw [List.append_assoc] at h2;exact h2,fun u hu=>?_,?_⟩
      · rcases List.mem_cons.mp hu with rfl | hu
        · exact hs1
        · exact h3 u hu
      · unfold kW at h4 ⊢
        rw [List.zip_cons_cons,List.filter_cons,if_neg (by simpa using hx),h4]
theorem oQ {t:Sw77.Train} (h:t.crowded.isSome=false) {k:Nat} (hk:k < t.legs):(t.on k).length≤t.seats:=by
  unfold Sw77.Train.crowded at h
  rw [Option.isSome_eq_false_iff,Option.isNone_iff_eq_none,List.find?_eq_none] at h
  have:=h k (List.mem_range.mpr hk)
  simpa using this
theorem jvJ {t:Sw77.Train} (G:Steps.dF t) {k:Nat} (hk:t.legs≤k):t.on k=[]:=by
  unfold Sw77.Train.on
  rw [List.filter_eq_nil_iff]
  intro i hi h
  have hi:=List.mem_range.mp hi
  rw [List.getElem?_eq_getElem hi] at h
  have:=G.each _ (List.getElem_mem hi)
  simp at h
  omega
theorem tU {t:Sw77.Train} (G:Steps.dF t) (h:t.crowded.isSome=false) (k:Nat):(t.on k).length≤t.seats:=by
  rcases Nat.lt_or_ge k t.legs with hk | hk
  · exact oQ h hk
  · rw [jvJ G hk];exact Nat.zero_le _
theorem iE {n k:Nat} (h:k≤n):kP n k≠[]:=by
  intro z
  have:List.range k∈kP n k:=vC.mpr ⟨List.length_range,List.nodup_range,fun s hs=>by have:=List.mem_range.mp hs;omega⟩
  rw [z] at this;cases this
theorem iQ {t:Sw77.Train} {k:Nat} {r:List Nat} (h:r∈zO t k):kW r (t.on k) (stay t k)∈kP t.seats (stay t k).length:=by
  obtain ⟨h1,h2,h3⟩:=vC.mp h
  refine vC.mpr ⟨by rw [jvZ h1,List.length_map],?_,?_⟩
  · have sb:(kW r (t.on k) (stay t k)).Sublist r:=by
      unfold kW
      refine (List.Sublist.map _ List.filter_sublist).trans ?_
      rw [List.map_snd_zip (by omega)]
      exact List.Sublist.refl _
    exact h2.sublist sb
  · intro s hs
    unfold kW at hs
    obtain ⟨x,hx,rfl⟩:=List.mem_map.mp hs
    exact h3 _ (List.of_mem_zip (List.mem_filter.mp hx).1).2
theorem t7 {t:Sw77.Train} {k:Nat} {r:List Nat} (h:r∈zO t (k+1)):rF t k r∈kP t.seats (stay t k).length:=by
  obtain ⟨h1,h2,h3⟩:=vC.mp h
  refine vC.mpr ⟨by rw [jvW h1,List.length_map],?_,?_⟩
  · have sb:(rF t k r).Sublist r:=by
      unfold rF kW
      refine (List.Sublist.map _ List.filter_sublist).trans ?_
      rw [List.map_snd_zip (by omega)]
      exact List.Sublist.refl _
    exact h2.sublist sb
  · intro s hs
    unfold rF kW at hs
    obtain ⟨x,hx,rfl⟩:=List.mem_map.mp hs
    exact h3 _ (List.of_mem_zip (List.mem_filter.mp hx).1).2
theorem bY {t:Sw77.Train} (G:Steps.dF t) (h:t.crowded.isSome=false):wK t where
  nr:=G.riders
  ns:=G.seats
  nl:=G.legs
  c1:=G.move
  c2:=G.wish
  c3:=G.apart
  on5:=fun k=>Nat.le_trans (tU G h k) G.seats
  last:=jvJ G (Nat.le_refl _)
  sne:=fun k hk=>iE (tU G h k)
  out:=fun k hk q hq=>by
    obtain ⟨h1,h2,h3⟩:=vC.mp hq
    have hst:((t.on (k+1)).filter fun i=>decide (i∈stay t k)).length=(stay t k).length:=by rw [jz0]
    obtain ⟨r,a1,a2,a3,a4⟩:=aM t.seats (stay t k) (t.on (k+1)) q [] (by simpa using h2) (by simpa using h3) (by have:=tU G h (k+1);simpa using this) (by rw [h1,hst])
    exact wZ.mpr ⟨r,vC.mpr ⟨a1,by simpa using a2,a3⟩,a4⟩
  inn:=fun k hk r hr=>iQ hr
end Y
namespace Y
def mg (a b:Option (Nat×Nat)):Option (Nat×Nat):=match a,b with
  | none,b=>b
  | a,none=>a
  | some x,some y=>if y.1 < x.1 then some y else if x.1 < y.1 then some x else some (x.1,x.2+y.2)
theorem mJ (b:Option (Nat×Nat)):mg none b=b:=by cases b <;> rfl
theorem eR (a:Option (Nat×Nat)):mg a none=a:=by cases a <;> rfl
theorem cT {x y:Nat×Nat} (h:y.1 < x.1):mg (some x) (some y)=some y:=if_pos h
theorem cA {x y:Nat×Nat} (h:x.1 < y.1):mg (some x) (some y)=some x:=(if_neg (Nat.lt_asymm h)).trans (if_pos h)
theorem p9 {x y:Nat×Nat} (h:x.1=y.1):mg (some x) (some y)=some (x.1,x.2+y.2):=(if_neg (by omega)).trans (if_neg (by omega))
theorem jw9 (a b:Option (Nat×Nat)):mg a b=mg b a:=by
  cases a with
  | none=>rw [mJ,eR]
  | some x =>
    cases b with
    | none=>rfl
    | some y =>
      rcases Nat.lt_trichotomy x.1 y.1 with h | h | h
      · rw [cA h,cT h]
      · rw [p9 h,p9 h.symm,h,Nat.add_comm]
      · rw [cT h,cA h]
theorem dU (a b c:Option (Nat×Nat)):mg (mg a b) c=mg a (mg b c):=by
  cases a with
  | none=>rw [mJ,mJ]
  | some x =>
    cases b with
    | none=>rw [eR,mJ]
    | some y =>
      cases c with
      | none=>rw [eR,eR]
      | some z =>
        rcases Nat.lt_trichotomy x.1 y.1 with h | h | h <;> rcases Nat.lt_trichotomy y.1 z.1 with h2 | h2 | h2
        · rw [cA h,cA h2,cA h,cA (by omega)]
        · rw [cA h,p9 h2,cA (by omega),cA (by exact h)]
        · rw [cA h,cT h2]
        · rw [p9 h,cA h2,p9 h,cA (by show x.1 < z.1;omega)]
        · rw [p9 h,p9 h2,p9 (by show x.1=z.1;omega),p9 (by show x.1=y.1;omega)]
          congr 2;show x.2+y.2+z.2=x.2+(y.2+z.2);omega
        · rw [p9 h,cT h2,cT (by show z.1 < x.1;omega),cT (by omega)]
        · rw [cT h,cA h2,cT h]
        · rw [cT h,p9 h2,cT (by exact h)]
        · rw [cT h,cT h2,cT (by omega)]
def mgs (l:List (Option (Nat×Nat))):Option (Nat×Nat):=l.foldr mg none
def lm {α:Type} (f:α→Nat×Nat) (l:List α):Option (Nat×Nat):=mgs (l.map fun x=>some (f x))
theorem d3 (a:Option (Nat×Nat)) (l:List (Option (Nat×Nat))):mgs (a :: l)=mg a (mgs l):=rfl
theorem yW {α:Type} (f:α→Nat×Nat) (x:α) (l:List α):lm f (x :: l)=mg (some (f x)) (lm f l):=rfl
theorem nA {α:Type} {f g:α→Nat×Nat} {l:List α} (h:∀ x∈l,f x=g x):lm f l=lm g l:=by
  unfold lm
  rw [List.map_congr_left fun x hx=>by rw [h x hx]]
def atV (v:Nat) {α:Type} (f:α→Nat×Nat) (l:List α):Nat:=((((l.map fun x=>(f x).2).zip (l.map fun x=>(f x).1)).filter fun y=>decide (y.2=v)).map (·.1)).sum
theorem qZ (v:Nat) {α:Type} (f:α→Nat×Nat) (x:α) (l:List α):atV v f (x :: l)=(if (f x).1=v then (f x).2 else 0)+atV v f l:=by
  unfold atV
  rw [List.map_cons,List.map_cons,List.zip_cons_cons,List.filter_cons]
  by_cases h:(f x).1=v
  · rw [if_pos (by simpa using h),if_pos h,List.map_cons,List.sum_cons]
  · rw [if_neg (by simpa using h),if_neg h,Nat.zero_add]
theorem jv6 {α:Type} (f:α→Nat×Nat):∀ l:List α,l≠[]→∃ c,lm f l=some (c,atV c f l)∧(∃ x∈l,(f x).1=c)∧(∀ x∈l,c≤(f x).1)
  | [x],_=>⟨(f x).1,by rw [yW];show mg _ none=_;rw [eR,qZ,if_pos rfl];rfl,⟨x,by simp,rfl⟩,by simp⟩
  | x :: y :: l,_=>by
    obtain ⟨c,h1,⟨z,hz,ez⟩,h3⟩:=jv6 f (y :: l) (by simp)
    have nz:∀ v,v < c→atV v f (y :: l)=0:=fun v hv=>by
      have:∀ m:List α,(∀ x∈m,c≤(f x).1)→atV v f m=0:=by
        intro m
        induction m with
        | nil=>intro _;rfl
        | cons a m ih =>
          intro hm
          have:=hm a (by simp)
          rw [qZ,if_neg (by omega),ih fun x hx=>hm x (by simp [hx])]
      exact this _ h3
    rw [yW,h1]
    rcases Nat.lt_trichotomy (f x).1 c with h | h | h
    · refine ⟨(f x).1,?_,⟨x,by simp,rfl⟩,fun w hw=>?_⟩
      · rw [cA (by exact h),qZ _ f x,if_pos rfl,nz _ h];rfl
      · rcases List.mem_cons.mp hw with rfl | hw
        · exact Nat.le_refl _
        · have:=h3 w hw;omega
    · refine ⟨(f x).1,?_,⟨x,by simp,rfl⟩,fun w hw=>?_⟩
      · rw [p9 (by exact h),qZ _ f x,if_pos rfl,h]
      · rcases List.mem_cons.mp hw with rfl | hw
        · exact Nat.le_refl _
        · have:=h3 w hw;omega
    · refine ⟨c,?_,⟨z,List.mem_cons_of_mem _ hz,ez⟩,fun w hw=>?_⟩
      · rw [cT (by exact h),qZ _ f x,if_neg (by omega),Nat.zero_add]
      · rcases List.mem_cons.mp hw with rfl | hw
        · omega
        · exact h3 w hw
theorem nN {α:Type} (f:α→Nat×Nat) (l:List α) (h:l≠[]):some (dO (l.map fun x=>(f x).1) (l.map fun x=>(f x).2))=lm f l:=by
  obtain ⟨c,h1,⟨x,hx,ex⟩,h3⟩:=jv6 f l h
  have ec:c=minL (l.map fun x=>(f x).1):=eN (List.mem_map.mpr ⟨x,hx,ex⟩) fun y hy=>by
    obtain ⟨z,hz,rfl⟩:=List.mem_map.mp hy
    exact h3 z hz
  rw [h1,ec];rfl
theorem eM {β:Type} [DecidableEq β] (a:Option (Nat×Nat)) (p:β) (v:β→Option (Nat×Nat)):∀ Q:List β,Q.Nodup→p∈Q→mgs (Q.map fun q=>if p=q then mg a (v q) else v q)=mg a (mgs (Q.map v))
  | q :: Q,nd,hp=>by
    rw [List.nodup_cons] at nd
    rw [List.map_cons,List.map_cons,d3,d3]
    by_cases e:p=q
    · subst e
      rw [if_pos rfl,dU]
      congr 2
      congr 1
      apply List.map_congr_left
      intro q hq
      rw [if_neg (show ¬ p=q from fun z=>nd.1 (z ▸ hq))]
    · rw [if_neg e,eM a p v Q nd.2 ((List.mem_cons.mp hp).resolve_left e),← dU,jw9 (v q) a,dU]
  | [],_,hp=>by cases hp
theorem nE {β:Type}:∀ Q:List β,mgs (Q.map fun _=>none)=none
  | []=>rfl
  | _ :: Q=>by rw [List.map_cons,d3,nE Q];rfl
theorem group {α β:Type} [DecidableEq β] (Q:List β) (nd:Q.Nodup) (pt:α→β) (g:α→Nat×Nat):∀ l:List α,(∀ x∈l,pt x∈Q)→mgs (Q.map fun q=>lm g (l.filter fun x=>decide (pt x=q)))=lm g l
  | [],_=>nE Q
  | x :: l,h=>by
    have ih:=group Q nd pt g l fun y hy=>h y (List.mem_cons_of_mem _ hy)
    rw [yW,← ih,← eM (some (g x)) (pt x) _ Q nd (h x List.mem_cons_self)]
    congr 1
    apply List.map_congr_left
    intro q _
    rw [List.filter_cons]
    by_cases e:pt x=q
    · rw [if_pos (by simpa using e),if_pos e,yW]
    · rw [if_neg (by simpa using e),if_neg e]
def sh (c:Nat) (a:Option (Nat×Nat)):Option (Nat×Nat):=a.map fun x=>(x.1+c,x.2)
theorem jnZ (c:Nat) (a b:Option (Nat×Nat)):sh c (mg a b)=mg (sh c a) (sh c b):=by
  cases a with
  | none=>rw [mJ];exact (mJ _).symm
  | some x =>
    cases b with
    | none=>rfl
    | some y =>
      rcases Nat.lt_trichotomy x.1 y.1 with h | h | h
      · rw [cA h];exact (cA (by show x.1+c < y.1+c;omega)).symm
      · rw [p9 h];exact (p9 (x:=(x.1+c,x.2)) (y:=(y.1+c,y.2)) (by show x.1+c=y.1+c;omega)).symm
      · rw [cT h];exact (cT (by show y.1+c < x.1+c;omega)).symm
theorem ju6 {α:Type} (c:Nat) (g:α→Nat×Nat):∀ l:List α,lm (fun x=>((g x).1+c,(g x).2)) l=sh c (lm g l)
  | []=>rfl
  | x :: l=>by rw [yW,yW,jnZ,ju6 c g l];rfl
end Y
namespace Y
open Sw77 (Best cheaper)
theorem cK {pt:List Nat→List Nat} {f:List Nat→Nat×Nat} {rs:List (List Nat)} {p:List Nat} (h:p∈jM pt rs):some (yE pt f rs p)=lm f (rs.filter fun r=>decide (pt r=p)):=by
  obtain ⟨r,h1,h2⟩:=wZ.mp h
  exact nN f _ (fun z=>by
    have:r∈rs.filter fun r=>decide (pt r=p):=List.mem_filter.mpr ⟨h1,by simpa using h2⟩
    rw [z] at this;cases this)
theorem jf4 {t:Sw77.Train} (ok:wK t) {k:Nat} (hk:k < t.legs) (hle:(stay t k).length≤t.seats) (f:List Nat→Nat×Nat) (q:List Nat) :
    some (onw t k f q)=lm (fun s=>((f s).1+t.costs.move * mvCount q (rF t k s),(f s).2)) (zO t (k+1)):=by
  unfold onw wmv
  rw [nN (fun s=>((yE (rF t k) f (zO t (k+1)) s).1+t.costs.move * mvCount q s,(yE (rF t k) f (zO t (k+1)) s).2)) _ (iE hle)]
  rw [← group (kP t.seats (stay t k).length) (yP _ _) (rF t k) _ (zO t (k+1)) fun x hx=>t7 hx]
  unfold lm
  congr 1
  apply List.map_congr_left
  intro p hp
  have e:=cK (f:=f) (ok.out k hk p hp)
  have e2:lm (fun s=>((f s).1+t.costs.move * mvCount q (rF t k s),(f s).2)) ((zO t (k+1)).filter fun r=>decide (rF t k r=p))=sh (t.costs.move * mvCount q p) (lm f ((zO t (k+1)).filter fun r=>decide (rF t k r=p))):=by
    rw [← ju6]
    apply nA
    intro x hx
    have:rF t k x=p:=by simpa using (List.mem_filter.mp hx).2
    rw [this]
  refine Eq.trans ?_ e2.symm
  rw [← e];rfl
theorem juQ {t:Sw77.Train} {k:Nat} (h:(t.on k).length≤t.seats):(stay t k).length≤t.seats:=Nat.le_trans (List.length_filter_le _ _) h
theorem sI {t:Sw77.Train} (ok:wK t) {j k:Nat} (hk:k=t.legs - (j+1)) (hj:j < t.legs) (hon:(t.on k).length≤t.seats) {r:List Nat} (hr:r∈zO t k) :
    some (xF t (j+1) r)=lm (fun s=>((xF t j s).1+(t.own k r+t.move k r s),(xF t j s).2)) (zO t (k+1)):=by
  have hkl:k < t.legs:=by omega
  have h1:=(vC.mp hr).1
  have e:=jf4 ok hkl (juQ hon) (xF t j) (kW r (t.on k) (stay t k))
  have e2:some (xF t (j+1) r)=sh (t.own k r) (some (onw t k (xF t j) (kW r (t.on k) (stay t k)))):=by
    show some (jq3 t (t.legs - (j+1)) (stay t (t.legs - (j+1))) (onw t (t.legs - (j+1)) (xF t j)) r)=_
    rw [← hk]
    unfold jq3
    rw [jvV];rfl
  rw [e2,e,← ju6]
  apply nA
  intro s hs
  have h2:=(vC.mp hs).1
  rw [jj4 h1 h2]
  show (_+_+_,_)=_
  unfold Sw77.Train.move
  congr 1
  omega
def cm (a:Option Best):Option (Nat×Nat):=a.map fun b=>(b.cost,b.many)
theorem jpZ (a b:Option Best):cm (cheaper a b)=mg (cm a) (cm b):=by
  cases a with
  | none=>rw [Plans.g9];exact (mJ _).symm
  | some x =>
    cases b with
    | none=>rfl
    | some y =>
      rcases Nat.lt_trichotomy x.cost y.cost with h | h | h
      · rw [Plans.pX h];exact (cA (x:=(x.cost,x.many)) (y:=(y.cost,y.many)) h).symm
      · rw [Plans.nZ h];exact (p9 (x:=(x.cost,x.many)) (y:=(y.cost,y.many)) h).symm
      · rw [Plans.pQ h];exact (cT (x:=(x.cost,x.many)) (y:=(y.cost,y.many)) h).symm
theorem pM:∀ l:List (Option Best),cm (Plans.qE l)=mgs (l.map cm)
  | []=>rfl
  | x :: l=>by rw [Plans.kL,jpZ,pM l];rfl
theorem o0 (c:Nat) (r:List Nat) (a:Option Best):cm (a.map (Plans.qV c r))=sh c (cm a):=by
  cases a with
  | none=>rfl
  | some x=>show some (c+x.cost,x.many)=some (x.cost+c,x.many);rw [Nat.add_comm]
theorem oN (t:Sw77.Train) (k:Nat) (r:List Nat):Plans.vS t k 0 r=some ⟨t.own k r,1,[r]⟩:=rfl
theorem r4 {t:Sw77.Train} (ok:wK t) (hon:∀ k,(t.on k).length≤t.seats):∀ (n k:Nat),k+(n+1)=t.legs→∀ r∈zO t k,some (xF t (n+1) r)=cm (Plans.vS t k n r)
  | 0,k,hk,r,hr=>by
    rw [sI ok (by omega) (by omega) (hon k) hr,oN]
    have e1:zO t (k+1)=[[]]:=by
      unfold zO
      rw [show k+1=t.legs by omega,ok.last];rfl
    have e2:t.movers k r []=[]:=by
      unfold Sw77.Train.movers
      rw [show k+1=t.legs by omega,ok.last];rfl
    rw [e1]
    show some (0+(t.own k r+t.costs.move * (t.movers k r []).length),1)=some (t.own k r,1)
    rw [e2]
    congr 2
    simp
  | n+1,k,hk,r,hr=>by
    rw [sI ok (by omega) (by omega) (hon k) hr,← Plans.uT,pM,List.map_map,← gP]
    unfold lm
    congr 1
    apply List.map_congr_left
    intro s hs
    have ih:=r4 ok hon n (k+1) (by omega) s hs
    show _=cm ((Plans.vS t (k+1) n s).map (Plans.qV (t.own k r+t.move k r s) r))
    rw [o0,← ih];rfl
end Y
namespace Y
open Sw77 (Best cheaper)
theorem cD {α:Type} (b:α→Best):∀ l:List α,l≠[]→∃ B,Plans.qE (l.map fun x=>some (b x))=some B∧∃ x∈l,B.cost=(b x).cost
  | [x],_=>⟨b x,by rw [List.map_cons,Plans.kL];exact Plans.cW _,x,by simp,rfl⟩
  | x :: y :: l,_=>by
    obtain ⟨B,h1,z,hz,ez⟩:=cD b (y :: l) (by simp)
    rw [List.map_cons,Plans.kL,h1]
    rcases Nat.lt_trichotomy (b x).cost B.cost with h | h | h
    · exact ⟨_,Plans.pX h,x,by simp,rfl⟩
    · exact ⟨_,Plans.nZ h,x,by simp,rfl⟩
    · exact ⟨_,Plans.pQ h,z,List.mem_cons_of_mem _ hz,ez⟩
theorem yV {α:Type} (b:α→Best):∀ (l:List α) (i:Nat) (x0:α),l[i]? = some x0→(∀ (j:Nat) x,l[j]? = some x→(b x0).cost≤(b x).cost∧(j < i→(b x0).cost < (b x).cost)) →
    ∃ m,Plans.qE (l.map fun x=>some (b x))=some ⟨(b x0).cost,m,(b x0).rows⟩
  | [],i,x0,h,_=>by simp at h
  | y :: l,0,x0,h,hm=>by
    have h:y=x0:=by simpa using h
    subst h
    rw [List.map_cons,Plans.kL]
    cases l with
    | nil=>exact ⟨_,Plans.cW _⟩
    | cons z l =>
      obtain ⟨B,h1,x,hx,ex⟩:=cD b (z :: l) (by simp)
      obtain ⟨j,hj,ej⟩:=List.getElem_of_mem hx
      have:=(hm (j+1) x (by rw [List.getElem?_cons_succ,List.getElem?_eq_getElem hj,ej])).1
      rw [h1]
      rcases Nat.lt_or_ge (b y).cost B.cost with h | h
      · exact ⟨_,Plans.pX h⟩
      · exact ⟨_,Plans.nZ (by omega)⟩
  | y :: l,i+1,x0,h,hm=>by
    have h:l[i]? = some x0:=by simpa using h
    obtain ⟨m,e⟩:=yV b l i x0 h fun j x hj=>by
      have:=hm (j+1) x (by rw [List.getElem?_cons_succ];exact hj)
      exact ⟨this.1,fun z=>this.2 (by omega)⟩
    have:=(hm 0 y rfl).2 (by omega)
    rw [List.map_cons,Plans.kL,e]
    exact ⟨m,Plans.pQ this⟩
def bOf (t:Sw77.Train) (k n:Nat) (r:List Nat):Best:=(Plans.vS t k n r).getD ⟨0,0,[]⟩
theorem fX {t:Sw77.Train} (ok:wK t) (hon:∀ k,(t.on k).length≤t.seats) {n k:Nat} (hk:k+(n+1)=t.legs) {r:List Nat} (hr:r∈zO t k):Plans.vS t k n r=some (bOf t k n r)∧xF t (n+1) r=((bOf t k n r).cost,(bOf t k n r).many):=by
  have e:=r4 ok hon n k hk r hr
  unfold bOf
  cases z:Plans.vS t k n r with
  | none=>rw [z] at e;cases e
  | some B=>rw [z] at e;exact ⟨rfl,Option.some.inj e⟩
theorem cF {kf:List Nat→Nat} {rs:List (List Nat)} {r:List Nat} (h:xK kf rs r):r∈rs:=let ⟨i,e,_⟩:=h;List.mem_of_getElem? e
theorem jv3 {t:Sw77.Train} (ok:wK t) (hon:∀ k,(t.on k).length≤t.seats) {rows:List (List Nat)} (hl:rows.length=t.legs) (G:bN t rows) :
    ∀ (n k:Nat) (r:List Nat),k+(n+1)=t.legs→rows[k]? = some r→(bOf t k n r).rows=rows.drop k
  | 0,k,r,hk,hr=>by
    have:rows.drop k=[r]:=by
      rw [List.drop_eq_getElem_cons (by omega),List.drop_eq_nil_of_le (by omega)]
      rw [List.getElem?_eq_getElem (by omega)] at hr
      rw [Option.some.inj hr]
    rw [this];rfl
  | n+1,k,r,hk,hr=>by
    obtain ⟨s0,hs0⟩:∃ s,rows[k+1]? = some s:=⟨_,List.getElem?_eq_getElem (by omega)⟩
    have ih:=jv3 ok hon hl G n (k+1) s0 (by omega) hs0
    have hrm:=cF (G k r hr)
    have F:=G (k+1) s0 hs0
    have eP:qP t rows (k+1)=(t.on k).zip r:=by
      show (t.on k).zip (rows.getD k [])=_
      rw [List.getD_eq_getElem?_getD,hr];rfl
    rw [eP] at F
    obtain ⟨i,hi,hmin⟩:=F
    have key:∀ s∈zO t (k+1),(t.costs.move * movesB ((t.on k).zip r) ((t.on (k+1)).zip s)+(xF t (t.legs - (k+1)) s).1)=t.move k r s+(bOf t (k+1) n s).cost:=fun s hs=>by
      rw [nO,show t.legs - (k+1)=n+1 by omega,(fX ok hon (by omega) hs).2];rfl
    have e0:=Plans.uT t k n r
    have e1:(t.rows (k+1)).map (fun s=>(Plans.vS t (k+1) n s).map (Plans.qV (t.own k r+t.move k r s) r))=(zO t (k+1)).map fun s=>some (Plans.qV (t.own k r+t.move k r s) r (bOf t (k+1) n s)):=by
      rw [← gP]
      apply List.map_congr_left
      intro s hs
      rw [(fX ok hon (by omega) hs).1];rfl
    rw [e1] at e0
    obtain ⟨m,e2⟩:=yV (fun s=>Plans.qV (t.own k r+t.move k r s) r (bOf t (k+1) n s)) (zO t (k+1)) i s0 hi fun j s hj=>by
      have h1:=hmin j s hj
      dsimp only at h1
      rw [key s0 (List.mem_of_getElem? hi),key s (List.mem_of_getElem? hj)] at h1
      show t.own k r+t.move k r s0+(bOf t (k+1) n s0).cost≤t.own k r+t.move k r s+(bOf t (k+1) n s).cost∧(j < i→t.own k r+t.move k r s0+(bOf t (k+1) n s0).cost < t.own k r+t.move k r s+(bOf t (k+1) n s).cost)
      exact ⟨by omega,fun h=>by have:=h1.2 h;omega⟩
    rw [e2] at e0
    have e3:(bOf t k (n+1) r).rows=r :: (bOf t (k+1) n s0).rows:=by
      conv=>lhs;unfold bOf
      rw [← e0];rfl
    rw [e3,ih,List.drop_eq_getElem_cons (i:=k) (by omega)]
    rw [List.getElem?_eq_getElem (by omega)] at hr
    rw [Option.some.inj hr]
theorem l4 (t:Sw77.Train) {n:Nat} (h:t.legs=n+1):t.best=Plans.qE ((t.rows 0).map fun r=>Plans.vS t 0 n r):=by
  rw [Plans.jzK,h]
  show Plans.qE (((t.rows 0).flatMap fun r=>(Plans.rG t 1 n).map fun p=>r :: p).map (Plans.one t 0))=_
  rw [List.map_flatMap,Plans.zL]
  congr 1
  apply List.map_congr_left
  intro r _
  rw [List.map_map];rfl
theorem fY {t:Sw77.Train} (h:zO t 0≠[]):some (vR t)=lm (xF t t.legs) (zO t 0):=by
  obtain ⟨r,hr⟩:=List.exists_mem_of_ne_nil _ h
  have e:=cK (pt:=fun r=>kW r [] []) (f:=xF t t.legs) (rs:=zO t 0) (p:=[]) (wZ.mpr ⟨r,hr,rfl⟩)
  unfold vR
  rw [e]
  congr 1
  rw [List.filter_eq_self]
  intro x _
  rfl
theorem pF {t:Sw77.Train} (ok:wK t) (hon:∀ k,(t.on k).length≤t.seats) {rows:List (List Nat)} (hl:rows.length=t.legs) (G:bN t rows):t.best=some ⟨(vR t).1,(vR t).2,rows⟩:=by
  rcases Nat.eq_zero_or_pos t.legs with z | z
  · have hr:rows=[]:=List.length_eq_zero_iff.mp (by omega)
    subst hr
    have e:zO t 0=[[]]:=by
      have:=ok.last
      rw [z] at this
      unfold zO;rw [this];rfl
    have ev:=fY (t:=t) (by rw [e];simp)
    rw [e,z] at ev
    have ev:some (vR t)=some (0,1):=ev
    rw [Option.some.inj ev]
    unfold Sw77.Train.best
    rw [if_pos z]
  · obtain ⟨n,hn⟩:∃ n,t.legs=n+1:=⟨t.legs - 1,by omega⟩
    have ev:=fY (ok.sne 0 z)
    have eb:=l4 t hn
    have hk:0+(n+1)=t.legs:=by omega
    have em:(t.rows 0).map (fun r=>Plans.vS t 0 n r)=(zO t 0).map fun r=>some (bOf t 0 n r):=by
      rw [← gP]
      apply List.map_congr_left
      intro r hr
      exact (fX ok hon hk hr).1
    rw [em] at eb
    have ec:cm t.best=some (vR t):=by
      rw [eb,pM,List.map_map,ev]
      unfold lm
      congr 1
      apply List.map_congr_left
      intro r hr
      rw [hn,(fX ok hon hk hr).2];rfl
    obtain ⟨r0,hr0⟩:∃ s,rows[0]? = some s:=⟨_,List.getElem?_eq_getElem (by omega)⟩
    obtain ⟨i,hi,hmin⟩:=G 0 r0 hr0
    obtain ⟨m,e2⟩:=yV (fun r=>bOf t 0 n r) (zO t 0) i r0 hi fun j s hj=>by
      have h1:=hmin j s hj
      dsimp only at h1
      rw [show qP t rows 0=[] from rfl,fN,fN,show t.legs - 0=n+1 by omega,(fX ok hon hk (List.mem_of_getElem? hi)).2,(fX ok hon hk (List.mem_of_getElem? hj)).2] at h1
      exact ⟨by omega,fun h=>by have:=h1.2 h;omega⟩
    have eg:=jv3 ok hon hl G n 0 r0 hk hr0
    rw [List.drop_zero] at eg
    rw [eb,e2] at ec
    have ec:((bOf t 0 n r0).cost,m)=vR t:=Option.some.inj ec
    rw [eb,e2,eg,← ec]
theorem iA (t:Sw77.Train) (rows:List (List Nat)) (i:Nat):z7 (kY t rows) i=t.way rows i:=by
  unfold z7 kY Sw77.Train.way Sw77.Train.seatOf
  generalize rows.zipIdx=l
  induction l with
  | nil=>rfl
  | cons x l ih =>
    rw [List.map_cons,List.filter_cons,List.filterMap_cons]
    cases e:((t.on x.2).zip x.1).lookup i with
    | none =>
      simp only [Option.isSome_none,Bool.false_eq_true,if_false]
      exact ih
    | some a =>
      simp only [Option.isSome_some,if_true,List.map_cons,e,Option.getD_some]
      rw [ih]
theorem jsQ {t:Sw77.Train} {rows:List (List Nat)} (G:Steps.dF t) (h:t.crowded.isSome=false) (hl:rows.length=t.legs) (GR:bN t rows):(Sw77.step t .best).2=⟨((vR t).1:Nat),[(vR t).2] :: (List.range t.riders.length).map fun i=>z7 (kY t rows) i⟩:=by
  have e:=pF (bY G h) (tU G h) hl GR
  show (match t.crowded with
    | some _=>Sw77.ok (-6)
    | none=>match t.best with
      | some b=>⟨(b.cost:Nat),[b.many] :: (List.range t.riders.length).map fun i=>t.way b.rows i⟩
      | none=>Sw77.ok (-6))=_
  rw [Option.isNone_iff_eq_none.mp (Option.isSome_eq_false_iff.mp h),e]
  dsimp only
  congr 2
  apply List.map_congr_left
  intro i _
  rw [iA]
end Y
namespace Y
theorem fL {t:Sw77.Train} {l:List (List Nat)} {k:Nat} (h:k < l.length):(kY t l).getD k []=(t.on k).zip (l.getD k []):=by
  unfold kY
  rw [List.getD_eq_getElem?_getD,List.getElem?_map,List.getElem?_zipIdx,List.getElem?_eq_getElem h,List.getD_eq_getElem?_getD,List.getElem?_eq_getElem h]
  simp
def mZ (t:Sw77.Train) (k:Nat):List (List Nat)→Nat
  | r :: s :: l=>(t.movers k r s).length+mZ t (k+1) (s :: l)
  | _=>0
def t5 (t:Sw77.Train) (k:Nat):List (List Nat)→Nat
  | r :: l=>t.own k r+t5 t (k+1) l
  | []=>0
theorem nQ (t:Sw77.Train):∀ (l:List (List Nat)) (k:Nat),t.costFrom k l=t.costs.move * mZ t k l+t5 t k l
  | [],k=>by simp [Sw77.Train.costFrom,mZ,t5]
  | [r],k=>by simp [Sw77.Train.costFrom,mZ,t5]
  | r :: s :: l,k=>by
    have ih:=nQ t (s :: l) (k+1)
    show t.own k r+t.move k r s+t.costFrom (k+1) (s :: l)=t.costs.move * ((t.movers k r s).length+mZ t (k+1) (s :: l))+(t.own k r+t5 t (k+1) (s :: l))
    rw [ih,Nat.mul_add]
    unfold Sw77.Train.move
    omega
theorem jvK (t:Sw77.Train):∀ (l:List (List Nat)) (k:Nat),((l.zipIdx k).map fun x=>legCost t ((t.on x.2).zip x.1)).sum=t5 t k l
  | [],k=>rfl
  | r :: l,k=>by
    rw [List.zipIdx_cons,List.map_cons,List.sum_cons,jvK t l (k+1),jvV];rfl
theorem jv7 (t:Sw77.Train):∀ (l:List (List Nat)) (k:Nat),((List.range (l.length - 1)).map fun j=>(t.movers (k+j) (l.getD j []) (l.getD (j+1) [])).length).sum=mZ t k l
  | [],k=>rfl
  | [r],k=>rfl
  | r :: s :: l,k=>by
    have ih:=jv7 t (s :: l) (k+1)
    show ((List.range (l.length+1)).map _).sum=(t.movers k r s).length+mZ t (k+1) (s :: l)
    rw [List.range_succ_eq_map,List.map_cons,List.sum_cons,List.map_map,← ih]
    congr 1
    congr 1
    show _=(List.range l.length).map _
    apply List.map_congr_left
    intro j _
    show (t.movers (k+(j+1)) _ _).length=(t.movers (k+1+j) _ _).length
    rw [show k+(j+1)=k+1+j by omega]
    rfl
theorem fM (t:Sw77.Train) (l:List (List Nat)):movesOf (kY t l)=Sw77.total ((List.range (l.length - 1)).map fun k=>(t.movers k (l.getD k []) (l.getD (k+1) [])).length):=by
  unfold movesOf
  rw [qL,wQ]
  congr 1
  apply List.map_congr_left
  intro k hk
  have:=List.mem_range.mp hk
  rw [fL (by omega),fL (by omega),nO]
theorem mH (t:Sw77.Train) (l:List (List Nat)):planCost t (kY t l)=t.costFrom 0 l:=by
  unfold planCost
  rw [nQ,fM,qL]
  congr 1
  · congr 1
    rw [← jv7 t l 0]
    simp
  · unfold kY
    rw [List.map_map]
    exact jvK t l 0
theorem jsW {t:Sw77.Train} {l:List (List Nat)} (h:t.planOk l=true):(Sw77.step t (.cost l)).2=⟨(planCost t (kY t l):Nat),[[movesOf (kY t l)]]⟩:=by
  have hl:l.length=t.legs:=by
    unfold Sw77.Train.planOk at h
    simp at h
    exact h.1
  show (if t.planOk l=false then (t,Sw77.ok (-3)) else (t,(⟨(t.costFrom 0 l:Nat),[[Sw77.total ((List.range (t.legs - 1)).map fun k=>(t.movers k (l.getD k []) (l.getD (k+1) [])).length)]]⟩:Sw77.Ans))).2=_
  rw [if_neg (by rw [h];decide),mH,fM,hl]
end Y
namespace Y
theorem nU:∀ w:List Nat,mvCount w (w.drop 1)=Sw77.moves w
  | []=>rfl
  | [a]=>rfl
  | a :: b :: l=>by
    have ih:=nU (b :: l)
    unfold mvCount at ih ⊢
    show (((a,b) :: ((b :: l).zip ((b :: l).drop 1))).filter _).length=(if a=b then 0 else 1)+Sw77.moves (b :: l)
    rw [List.filter_cons,← ih]
    by_cases h:a=b
    · rw [if_neg (by simpa using h),if_pos h,Nat.zero_add]
    · rw [if_pos (by simpa using h),if_neg h,List.length_cons,Nat.add_comm]
section
variable (g:Nat→Nat)
def lf (b:Option (Nat×Nat)) (s:Nat):Option (Nat×Nat):=if g s=0 then b else match b with
  | none=>some (s,g s)
  | some x=>if x.2 < g s then some (s,g s) else b
theorem p8:∀ (L:List Nat) (b:Option (Nat×Nat)),L.foldl (lf g) b=(L.filter fun s=>decide (g s≠0)).foldl (lf g) b
  | [],b=>rfl
  | s :: L,b=>by
    rw [List.foldl_cons,List.filter_cons]
    by_cases h:g s=0
    · rw [if_neg (by simpa using h),p8 L]
      congr 1
      unfold lf;rw [if_pos h]
    · rw [if_pos (by simpa using h),List.foldl_cons,p8 L]
theorem eG:∀ (L:List Nat) (x:Nat×Nat),(∀ y∈L,g y≤x.2)→L.foldl (lf g) (some x)=some x
  | [],x,_=>rfl
  | s :: L,x,h=>by
    rw [List.foldl_cons]
    have h0:=h s (by simp)
    have e:lf g (some x) s=some x:=by
      unfold lf
      split
      · rfl
      · dsimp only;rw [if_neg (by omega)]
    rw [e]
    exact eG L x fun y hy=>h y (by simp [hy])
theorem nS:∀ (L:List Nat) (i s:Nat) (b:Option (Nat×Nat)),(∀ y∈L,g y≠0)→L[i]? = some s→(∀ (j:Nat) y,L[j]? = some y→g y≤g s∧(j < i→g y < g s))→(∀ x,b=some x→x.2 < g s)→L.foldl (lf g) b=some (s,g s)
  | [],i,s,b,_,h,_,_=>by simp at h
  | y :: L,0,s,b,hp,h,hm,hb=>by
    have h:y=s:=by simpa using h
    subst h
    have hp0:=hp y (by simp)
    have e:lf g b y=some (y,g y):=by
      unfold lf
      rw [if_neg hp0]
      cases b with
      | none=>rfl
      | some x=>dsimp only;rw [if_pos (hb x rfl)]
    rw [List.foldl_cons,e]
    refine eG g L _ fun z hz=>?_
    obtain ⟨j,hj,ej⟩:=List.getElem_of_mem hz
    exact (hm (j+1) z (by rw [List.getElem?_cons_succ,List.getElem?_eq_getElem hj,ej])).1
  | y :: L,i+1,s,b,hp,h,hm,hb=>by
    have h:L[i]? = some s:=by simpa using h
    have hy:=(hm 0 y rfl).2 (by omega)
    have hp0:=hp y (by simp)
    rw [List.foldl_cons]
    refine nS L i s _ (fun z hz=>hp z (by simp [hz])) h (fun j z hj=>?_) fun x hx=>?_
    · have:=hm (j+1) z (by rw [List.getElem?_cons_succ];exact hj)
      exact ⟨this.1,fun q=>this.2 (by omega)⟩
    · unfold lf at hx
      rw [if_neg hp0] at hx
      cases b with
      | none=>cases hx;exact hy
      | some x' =>
        dsimp only at hx
        split at hx
        · cases hx;exact hy
        · cases hx;exact hb _ rfl
theorem jv5:∀ (L:List Nat) (b:Option (Nat×Nat)),(∀ x,b=some x→x.2=g x.1∧g x.1≠0)→∀ x,L.foldl (lf g) b=some x→x.2=g x.1∧g x.1≠0
  | [],b,hb,x,h=>hb x h
  | s :: L,b,hb,x,h=>by
    rw [List.foldl_cons] at h
    refine jv5 L _ (fun y hy=>?_) x h
    unfold lf at hy
    split at hy
    · exact hb y hy
    · rename_i hs
      cases b with
      | none=>cases hy;exact ⟨rfl,hs⟩
      | some x' =>
        dsimp only at hy
        split at hy
        · cases hy;exact ⟨rfl,hs⟩
        · exact hb y hy
end
section
variable {t:Sw77.Train} {l:List (List Nat)}
theorem tM (n k:Nat):t.longest l n k=(List.range t.seats).foldl (lf fun s=>t.stays l s n k) none:=rfl
theorem gT {s n k:Nat}:t.stays l s (n+1) k≠0↔s∈t.freeAt l k:=by
  show (if (t.freeAt l k).contains s=true then 1+t.stays l s n (k+1) else 0)≠0↔_
  by_cases h:(t.freeAt l k).contains s=true
  · rw [if_pos h];exact ⟨fun _=>by simpa using h,fun _=>by omega⟩
  · rw [if_neg h];exact ⟨fun z=>absurd rfl z,fun z=>absurd (by simpa using z) h⟩
theorem bD (s:Nat):∀ n k,t.stays l s n k≤n
  | 0,k=>Nat.le_refl _
  | n+1,k=>by
    show (if (t.freeAt l k).contains s=true then 1+t.stays l s n (k+1) else 0)≤n+1
    have:=bD s n (k+1)
    split <;> omega
theorem bF (s:Nat):∀ n k j,j < t.stays l s n k→s∈t.freeAt l (k+j)
  | 0,k,j,h=>by cases h
  | n+1,k,j,h=>by
    have h:j < (if (t.freeAt l k).contains s=true then 1+t.stays l s n (k+1) else 0):=h
    split at h
    · rename_i hc
      cases j with
      | zero=>simpa using hc
      | succ j =>
        have:=bF s n (k+1) j (by omega)
        rwa [show k+1+j=k+(j+1) by omega] at this
    · cases h
theorem rS (s:Nat):∀ n k,t.stays l s n k < n→s∉t.freeAt l (k+t.stays l s n k)
  | 0,k,h=>by cases h
  | n+1,k,h=>by
    have e:t.stays l s (n+1) k=if (t.freeAt l k).contains s=true then 1+t.stays l s n (k+1) else 0:=rfl
    rw [e] at h ⊢
    split at h
    · rename_i hc
      rw [if_pos hc]
      have:=rS s n (k+1) (by omega)
      rwa [show k+1+t.stays l s n (k+1)=k+(1+t.stays l s n (k+1)) by omega] at this
    · rename_i hc
      rw [if_neg hc]
      intro z
      exact hc (by simpa using z)
theorem p0 (n k:Nat):((List.range t.seats).filter fun s=>decide (t.stays l s (n+1) k≠0))=t.freeAt l k:=by
  unfold Sw77.Train.freeAt
  apply List.filter_congr
  intro s hs
  rw [Bool.eq_iff_iff,decide_eq_true_eq,gT]
  unfold Sw77.Train.freeAt
  rw [List.mem_filter]
  exact ⟨fun h=>h.2,fun h=>⟨hs,h⟩⟩
theorem tN {n k s:Nat} (h:wG (fun s=>t.stays l s (n+1) k) (t.freeAt l k) s):t.longest l (n+1) k=some (s,t.stays l s (n+1) k):=by
  obtain ⟨i,hi,hm⟩:=h
  rw [tM,p8,p0]
  exact nS _ _ i s none (fun y hy=>gT.mpr hy) hi hm (fun x z=>nomatch z)
theorem cN {n k:Nat} {x:Nat×Nat} (h:t.longest l n k=some x):x.2=t.stays l x.1 n k∧t.stays l x.1 n k≠0:=jv5 (fun s=>t.stays l s n k) _ none (fun x z=>nomatch z) x h
theorem jt8:∀ (f n k:Nat) (w:List Nat),t.squeeze l f n k=some w→∀ j,k≤j→j < k+n→t.freeAt l j≠[]
  | 0,n,k,w,h,j,h1,h2=>by
    have h:(if n=0 then some [] else none)=some w:=h
    rw [if_neg (by omega)] at h;cases h
  | f+1,n,k,w,h,j,h1,h2=>by
    have h:(if n=0 then some [] else (t.longest l n k).bind fun x=>(t.squeeze l f (n - x.2) (k+x.2)).map fun r=>List.replicate x.2 x.1++r)=some w:=h
    rw [if_neg (by omega)] at h
    cases e:t.longest l n k with
    | none=>rw [e] at h;cases h
    | some x =>
      rw [e] at h
      obtain ⟨e1,e2⟩:=cN e
      have h:(t.squeeze l f (n - x.2) (k+x.2)).map (fun r=>List.replicate x.2 x.1++r)=some w:=h
      obtain ⟨w',hw,_⟩:=Option.map_eq_some_iff.mp h
      have hle:=bD (t:=t) (l:=l) x.1 n k
      rcases Nat.lt_or_ge j (k+x.2) with hj | hj
      · intro z
        have:=bF (t:=t) (l:=l) x.1 n k (j - k) (by omega)
        rw [show k+(j - k)=j by omega,z] at this
        cases this
      · exact jt8 f (n - x.2) (k+x.2) w' hw j hj (by omega)
end
def jg1 (fr:List (List Nat)) (to:Nat):Nat→Option Nat→List Nat→Prop
  | _,_,[]=>True
  | k,p,s :: ws=>((p=some s∧s∈fr.getD k [])∨((∀ q,p=some q→q∉fr.getD k [])∧wG (fun s=>bM fr s (to - k) k) (fr.getD k []) s))∧jg1 fr to (k+1) (some s) ws
theorem oY {fr:List (List Nat)} {st to:Nat} {ws:List Nat} (W:g8 fr st to ws):∀ (n i:Nat),i+n=ws.length→jg1 fr to (st+i) (qM ws i) (ws.drop i)
  | 0,i,h=>by rw [List.drop_eq_nil_of_le (by omega)];exact trivial
  | n+1,i,h=>by
    have hi:i < ws.length:=by omega
    rw [List.drop_eq_getElem_cons hi]
    refine ⟨W i _ (List.getElem?_eq_getElem hi),?_⟩
    have:=oY W n (i+1) (by omega)
    rw [show qM ws (i+1)=some ws[i] from List.getElem?_eq_getElem hi] at this
    exact this
theorem tV {fr:List (List Nat)} {to s:Nat}:∀ (m k:Nat) (ws:List Nat),jg1 fr to k (some s) ws→m≤ws.length→(∀ j,j < m→s∈fr.getD (k+j) [])→∃ w2,ws=List.replicate m s++w2∧jg1 fr to (k+m) (some s) w2
  | 0,k,ws,W,_,_=>⟨ws,rfl,W⟩
  | m+1,k,[],W,h,_=>by cases h
  | m+1,k,x :: ws,W,h,hin=>by
    obtain ⟨h1,h2⟩:=W
    have h0:=hin 0 (by omega)
    have hx:x=s:=by
      rcases h1 with ⟨e,_⟩ | ⟨e,_⟩
      · exact (Option.some.inj e).symm
      · exact absurd h0 (e s rfl)
    subst hx
    obtain ⟨w2,e,W2⟩:=tV m (k+1) ws h2 (by simpa using h) fun j hj=>by
      have:=hin (j+1) (by omega)
      rwa [show k+(j+1)=k+1+j by omega] at this
    refine ⟨w2,by rw [e];rfl,?_⟩
    rw [show k+(m+1)=k+1+m by omega];exact W2
theorem yS {t:Sw77.Train} {l fr:List (List Nat)} {N:Nat} (hfr:∀ k,k < N→fr.getD k []=t.freeAt l k) (s:Nat):∀ n k,k+n≤N→bM fr s n k=k+t.stays l s n k
  | 0,k,_=>rfl
  | n+1,k,h=>by
    show (if s∈fr.getD k [] then bM fr s n (k+1) else k)=k+(if (t.freeAt l k).contains s=true then 1+t.stays l s n (k+1) else 0)
    rw [hfr k (by omega)]
    by_cases hc:s∈t.freeAt l k
    · rw [if_pos hc,if_pos (by simpa using hc),yS hfr s n (k+1) (by omega)];omega
    · rw [if_neg hc,if_neg (by simpa using hc)];rfl
theorem f9 {t:Sw77.Train} {l fr:List (List Nat)} {N to:Nat} (hfr:∀ k,k < N→fr.getD k []=t.freeAt l k) (hto:to≤N):∀ (f n k:Nat) (ws:List Nat) (p:Option Nat),jg1 fr to k p ws→ws.length=n→k+n=to→(0 < n→∀ q,p=some q→q∉fr.getD k [])→n≤f→t.squeeze l f n k=some ws
  | 0,n,k,ws,p,W,hl,hk,hp,hf=>by
    have:n=0:=by omega
    subst this
    rw [List.length_eq_zero_iff.mp hl];rfl
  | f+1,0,k,ws,p,W,hl,hk,hp,hf=>by rw [List.length_eq_zero_iff.mp hl];rfl
  | f+1,n+1,k,[],p,W,hl,hk,hp,hf=>by cases hl
  | f+1,n+1,k,s :: ws,p,W,hl,hk,hp,hf=>by
    obtain ⟨h1,h2⟩:=W
    have hkN:k < N:=by omega
    have F:wG (fun s=>t.stays l s (n+1) k) (t.freeAt l k) s:=by
      rcases h1 with ⟨e,h⟩ | ⟨_,h⟩
      · exact absurd h (hp (by omega) s e)
      · rw [hfr k hkN] at h
        obtain ⟨i,hi,hm⟩:=h
        refine ⟨i,hi,fun j x hj=>?_⟩
        have:=hm j x hj
        dsimp only at this
        rw [show to - k=n+1 by omega,yS hfr x (n+1) k (by omega),yS hfr s (n+1) k (by omega)] at this
        exact ⟨by show t.stays l x (n+1) k≤t.stays l s (n+1) k;omega,fun z=>by have:=this.2 z;show t.stays l x (n+1) k < t.stays l s (n+1) k;omega⟩
    have eL:=tN F
    have hin:s∈t.freeAt l k:=let ⟨i,hi,_⟩:=F;List.mem_of_getElem? hi
    have hpos:t.stays l s (n+1) k≠0:=gT.mpr hin
    have hle:=bD (t:=t) (l:=l) s (n+1) k
    generalize hm:t.stays l s (n+1) k=m at eL hpos hle
    have hl:ws.length=n:=by simpa using hl
    obtain ⟨w2,ew,W2⟩:=tV (m - 1) (k+1) ws h2 (by omega) fun j hj=>by
      have:=bF (t:=t) (l:=l) s (n+1) k (j+1) (by omega)
      rw [hfr _ (by omega),show k+1+j=k+(j+1) by omega];exact this
    have hl2:w2.length=n+1 - m:=by
      rw [ew,List.length_append,List.length_replicate] at hl;omega
    rw [show k+1+(m - 1)=k+m by omega] at W2
    have ih:=f9 hfr hto f (n+1 - m) (k+m) w2 (some s) W2 hl2 (by omega) (fun h0 q hq=>by
      cases hq
      have:=rS (t:=t) (l:=l) s (n+1) k (by omega)
      rw [hm] at this
      rw [hfr _ (by omega)];exact this) (by omega)
    show (if n+1=0 then some [] else (t.longest l (n+1) k).bind fun x=>(t.squeeze l f (n+1 - x.2) (k+x.2)).map fun r=>List.replicate x.2 x.1++r)=_
    rw [if_neg (by omega),eL]
    show (t.squeeze l f (n+1 - m) (k+m)).map (fun r=>List.replicate m s++r)=_
    rw [ih,ew]
    show some (List.replicate m s++w2)=some (s :: (List.replicate (m - 1) s++w2))
    obtain ⟨m',rfl⟩:∃ m',m=m'+1:=⟨m - 1,by omega⟩
    rfl
theorem aT {t:Sw77.Train} {rows:List (List Nat)} (hl:rows.length=t.legs) (G:bN t rows):∀ k,k < t.legs→(uJ t rows).getD k []=t.freeAt rows k:=fun k hk=>by
  obtain ⟨r,hr⟩:∃ r,rows[k]? = some r:=⟨_,List.getElem?_eq_getElem (by omega)⟩
  have hlen:=(vC.mp (cF (G k r hr))).1
  have e:(uJ t rows).getD k []=nB t.seats ((t.on k).zip r):=by
    unfold uJ kY
    rw [List.getD_eq_getElem?_getD,List.getElem?_map,List.getElem?_map,List.getElem?_zipIdx,hr]
    simp
  rw [e]
  unfold nB Sw77.Train.freeAt
  rw [List.getD_eq_getElem?_getD,hr,List.map_snd_zip (by omega)]
  apply List.filter_congr
  intro s _
  simp
theorem jw8 {t:Sw77.Train} {rows:List (List Nat)} {st to:Nat} (G:Steps.dF t) (h:t.crowded.isSome=false) (hb:¬ (to≤st∨t.legs < to)) (hl:rows.length=t.legs) (GR:bN t rows) (hf:∃ k,st≤k∧k < to∧(uJ t rows).getD k []=[]):(Sw77.step t (.more st to)).2=⟨-7,[]⟩:=by
  have e:=pF (bY G h) (tU G h) hl GR
  rw [d5,if_neg hb,Option.isNone_iff_eq_none.mp (Option.isSome_eq_false_iff.mp h),e]
  show (match t.squeeze rows (to - st) (to - st) st with | some w=>(⟨(Sw77.moves w:Nat),[w]⟩:Sw77.Ans) | none=>Sw77.ok (-7))=_
  cases z:t.squeeze rows (to - st) (to - st) st with
  | none=>rfl
  | some w =>
    obtain ⟨k,h1,h2,h3⟩:=hf
    rw [aT hl GR k (by omega)] at h3
    exact absurd h3 (jt8 _ _ _ w z k h1 (by omega))
theorem jsX {t:Sw77.Train} {rows:List (List Nat)} {st to:Nat} {ws:List Nat} (G:Steps.dF t) (h:t.crowded.isSome=false) (hb:¬ (to≤st∨t.legs < to)) (hl:rows.length=t.legs) (GR:bN t rows) (hws:ws.length=to - st) (W:g8 (uJ t rows) st to ws):(Sw77.step t (.more st to)).2=⟨(mvCount ws (ws.drop 1):Nat),[ws]⟩:=by
  have e:=pF (bY G h) (tU G h) hl GR
  have w0:=oY W ws.length 0 (by omega)
  rw [List.drop_zero] at w0
  have es:=f9 (aT hl GR) (by omega) (to - st) (to - st) st ws none w0 hws (by omega) (fun _ q z=>nomatch z) (Nat.le_refl _)
  rw [d5,if_neg hb,Option.isNone_iff_eq_none.mp (Option.isSome_eq_false_iff.mp h),e]
  show (match t.squeeze rows (to - st) (to - st) st with | some w=>(⟨(Sw77.moves w:Nat),[w]⟩:Sw77.Ans) | none=>Sw77.ok (-7))=_
  rw [es,nU]
theorem jsY:jrX:=⟨fun t G h=>bY G h,fun t rows G h hl GR=>jsQ G h hl GR,fun t l h=>jsW h,fun t rows st to G h hb hl GR hf=>jw8 G h hb hl GR hf,fun t rows st to ws G h hb hl GR _ hws W=>jsX G h hb hl GR hws W⟩
end Y
namespace L2
open PySem PySem.Spec PySem.W PyProof.Rows
mutual
theorem jw4 {K:W.Frag} {H H2:Hp} (s:jG H H2):∀ {v:V} {d:WData},Dw K H v d→Dw K H2 v d
  | _,_,.non=>.non
  | _,_,.bl b=>.bl b
  | _,_,.int i=>.int i
  | _,_,.str x=>.str x
  | _,_,.byt b=>.byt b
  | _,_,.lst h1 h2=>.lst (s.seq h1) (uY s h2)
  | _,_,.tup h1 h2=>.tup (by
    rcases h1 with (h | ⟨o,h⟩) | h
    · exact .inl (.inl (s _ _ h))
    · exact .inl (.inr ⟨o,s _ _ h⟩)
    · exact .inr h) (uY s h2)
theorem uY {K:W.Frag} {H H2:Hp} (s:jG H H2):∀ {vs:List V} {ds:List WData},qU K H vs ds→qU K H2 vs ds
  | _,_,.nil=>.nil
  | _,_,.cons h1 h2=>.cons (jw4 s h1) (uY s h2)
end
theorem fT {P:Program} {w:World} {H H2:Hp} (s:jG H H2) {h:Heap} {a:Addr}:∀ {o:HO},kS P w H h a o→kS P w H2 h a o
  | .lst _,x=>x
  | .tup _,x=>x
  | .dK _,x=>x
  | .dT _,⟨h1,h2,xs,h3,r⟩=>⟨h1,h2,xs,Paired.imp' (fun p q ⟨e1,e2,e3⟩=>⟨e1,s _ _ e2,e3⟩) h3,r⟩
  | .set _ _,x=>x
  | .ins _ _ _,⟨h1,r⟩=>⟨s _ _ h1,r⟩
  | .own _,x=>x
  | .xd _,x=>x
  | .rng _ _,x=>x
  | .frz o u,⟨h1,h2⟩=>⟨h1,fT s h2⟩
  | .tbl _,x=>x
  | .met _ _,x=>x
  | .ext _,x=>x
theorem lY {P:Program} {w:World} {K:W.Frag} {mg mb:Str→Option Value} {CX:CXT} {k:Nat} {fa ca Pa cb Pb:Addr} {fd:FuncData} {ps:List Str} {sp:Sp} {s₁:Shared} {vals:List Value} {ds:List WData} {R:W.WRecords} {cl:Str→Option Addr} {d0:WData}
    (KX:K.In s₁.heap) (hns:s₁.heap.Ns mainGlobals mg) (hb:s₁.heap.Ns builtinsNs mb) (hbb:∀ x:Str,x≠"__name__"→mb x=bootBuiltins x) (hlim:s₁.heap.NoLimit) (hg:s₁.gens = #[])
    (hwl:WellAll w.params s₁.heap vals ds) (hpl:lS ds=true) (hwt:∀ d∈ds,d.weight≤1048576) (hr:wU k callerA)
    (ta:W.CodeHd s₁.heap ca Pa∧s₁.heap.get? Pa=some (W.tabObj #[])) (tb:W.CodeHd s₁.heap cb Pb∧s₁.heap.get? Pb=some (W.tabObj #[])) (hka:K.lookup Pa=none) (hkb:K.lookup Pb=none)
    (bmain:∃ bm ob,mg "__builtins__"=some (.ref bm)∧bm≠builtinsNs∧s₁.heap.get? bm=some ob∧ob.cls=.type "module"∧ob.dict=some builtinsNs∧ob.data=.plain)
    (F:∀ base:Heap,K.In base→base.Ns mainGlobals mg→g0 mg base ca Pa→g0 mg base cb Pb→vA P w K mg base CX k fa fd ps sp) (hbind:∀ (s:Shared) (us:List Value),us.length=ps.length→BindsTo s fd ⟨us,[]⟩ (ps.zip us)) (hlen:ds.length=ps.length)
    (hsp:∀ (H:Hp) (xs:List V),H Pa=some (.tbl #[])→H Pb=some (.tbl #[])→qU K H xs ds→sp xs H (fun v H'=>Dw K H' v d0) fun _ _ _=>False)
    (hCX:∀ H e s',CX [] H s₁ (fun _ _ _=>False) e s'→False) :
    codeAny (model P w) callerA (.call (.ref fa) ⟨vals,[]⟩) (fun r s'=>∃ u as,r=.ok (.ret u)∧ReadsW R cl s'.heap u d0 as∧OldK s₁.heap s'.heap∧s'.os=s₁.os∧AllBare s'.gens) s₁:=by
  obtain ⟨A,ho,ar⟩:=xV ds vals hwl hpl hwt
  have hO:jg0 (dD K s₁.heap A):=lU ar
  have hok:HOk P w (dD K s₁.heap A) s₁.heap:=jz9 ar
  have hS:=nG KX ar ds vals hwl hpl ho
  have hV:=uP ho
  have hK:∀ b u,dD K s₁.heap A b=some u→K.lookup b=none:=fun b u q=>(dR ar q).1
  have noA:∀ {b:Addr} {o:Obj},s₁.heap.get? b=some o→(∀ vs n,o.data≠.seq vs n)→dD K s₁.heap A b=none:=fun {b o} e d=>by
    cases q:dD K s₁.heap A b with
    | none=>rfl
    | some u =>
      obtain ⟨_,vs,_,_,⟨e2,_⟩ | ⟨e2,_⟩⟩:=dR ar q
      · rw [e2] at e
        cases e
        exact (d _ _ rfl).elim
      · rw [e2] at e
        cases e
        exact (d _ _ rfl).elim
  generalize dD K s₁.heap A=H0 at hO hok hS hK noA
  have nPa:H0 Pa=none:=noA ta.2 fun _ _ z=>nomatch z
  have nPb:H0 Pb=none:=noA tb.2 fun _ _ z=>nomatch z
  obtain ⟨H,eH⟩:∃ H:Hp,H=fun b=>if b=Pa∨b=Pb then some (.tbl #[]) else H0 b:=⟨_,rfl⟩
  have HPa:H Pa=some (.tbl #[]):=by rw [eH];exact if_pos (.inl rfl)
  have HPb:H Pb=some (.tbl #[]):=by rw [eH];exact if_pos (.inr rfl)
  have Hne:∀ b,b≠Pa→b≠Pb→H b=H0 b:=fun b h1 h2=>by rw [eH];exact if_neg fun z=>z.elim h1 h2
  have sH:jG H0 H:=fun b o e=>by rw [Hne b (fun z=>by rw [z,nPa] at e;cases e) (fun z=>by rw [z,nPb] at e;cases e)];exact e
  have hokH:HOk P w H s₁.heap:=fun b o e=>by
    by_cases z1:b=Pa
    · subst z1;rw [HPa] at e;cases e;exact ta.2
    · by_cases z2:b=Pb
      · subst z2;rw [HPb] at e;cases e;exact tb.2
      · rw [Hne b z1 z2] at e;exact fT sH (hok b o e)
  have base_of:∀ {b:Addr} {o:Obj},s₁.heap.get? b=some o→H b=none→(a8 s₁.heap H).get? b=some o:=fun e n=>o7 e n
  have noH:∀ {b:Addr} {o:Obj},s₁.heap.get? b=some o→(∀ vs n,o.data≠.seq vs n)→o≠W.tabObj #[]→H b=none:=fun {b o} e d n=>by
    rw [Hne b (fun z=>by rw [z,ta.2] at e;cases e;exact n rfl) (fun z=>by rw [z,tb.2] at e;cases e;exact n rfl)]
    exact noA e d
  have nsK:∀ {b:Addr} {m:Str→Option Value},s₁.heap.Ns b m→(a8 s₁.heap H).Ns b m:=fun {b m} ⟨o,es,ep,e,d,r⟩=>⟨o,es,ep,base_of e (noH e (fun _ _ z=>by rw [d] at z;cases z) (fun z=>by rw [z] at d;cases d)),d,r⟩
  have nK:∀ b o,K.lookup b=some o→H b=none:=fun b o e=>by
    rw [Hne b (fun z=>by rw [z,hka] at e;cases e) (fun z=>by rw [z,hkb] at e;cases e)]
    cases q:H0 b with
    | none=>rfl
    | some u =>
      rw [hK b u q] at e
      cases e
  have cdK:∀ {c P:Addr},W.CodeHd s₁.heap c P→W.CodeHd (a8 s₁.heap H) c P:=fun {c P} ⟨o,vs,file,tf,flags,tg,inF,text,tt,e,e2,e3,r⟩ =>
    ⟨o,vs,file,tf,flags,tg,inF,text,tt,base_of e (noH e (fun _ _ z=>by rw [e3] at z;cases z) (fun z=>by rw [z] at e2;cases e2)),e2,e3,r⟩
  have bmK:∀ {P:Addr},s₁.heap.get? P=some (W.tabObj #[])→(a8 s₁.heap H).BuiltinsAt mg P:=fun {P} hP=>by
    obtain ⟨bm,ob,b1,b2,b3,b4,b5,b6⟩:=bmain
    refine ⟨bm,ob,b1,b2,fun z=>?_,fun z=>?_,base_of b3 (noH b3 (fun _ _ z=>by rw [b6] at z;cases z) (fun z=>by rw [z] at b4;cases b4)),b4,b5,b6⟩
    · obtain ⟨o,es,ep,e,d,_⟩:=hns
      rw [z,e] at b3;cases b3;rw [d] at b6;cases b6
    · rw [z,hP] at b3;cases b3;cases b4
  have glK:∀ {P:Addr},s₁.heap.get? P=some (W.tabObj #[])→mainGlobals≠P:=fun {P} hP z=>by
    obtain ⟨o,es,ep,e,d,_⟩:=hns
    rw [z,hP] at e;cases e;cases d
  have hKb:K.In (a8 s₁.heap H):=fun b o e=>base_of (KX b o e) (nK b o e)
  have hM:Mod K mg (a8 s₁.heap H):=⟨hKb,nsK hns,⟨mb,nsK hb,hbb⟩,let ⟨mc,h1,h2⟩:=hlim;⟨mc,nsK h1,h2⟩⟩
  have e0:jz6 P w K mg (a8 s₁.heap H) callerA [] s₁ H:=⟨rfl,hM,fun b o e=>jwZ e,Nat.le_of_eq (a9 _ _),trivial,fun b hb=>absurd (show b∈([]:List Addr) from hb) (by simp),hokH,.of_eq hg⟩
  have hl:vals.length=ps.length:=by rw [wN hwl];exact hlen
  refine codeAny_mono ((F _ hKb (nsK hns) ⟨cdK ta.1,bmK ta.2,glK ta.2⟩ ⟨cdK tb.1,bmK tb.2,glK tb.2⟩).run callerA [] s₁ H ⟨vals,[]⟩ vals (vals.map toV) _ _ hr e0 (hbind s₁ vals hl) hV (hsp H _ HPa HPb (uY sH hS))) fun r s' x=>?_
  cases r with
  | error e=>exact (hCX H e s' x).elim
  | ok fl =>
    cases fl with
    | next=>exact False.elim x
    | brk=>exact False.elim x
    | cont=>exact False.elim x
    | ret u =>
      obtain ⟨v,H',os,bare,un,hok',r',q⟩:=x
      have kept:∀ b o,b≠Pa→b≠Pb→s₁.heap.get? b=some o→s'.heap.get? b=some o:=fun b o n1 n2 e=>by
        cases q2:H b with
        | none=>exact un.keep b o e q2 (by intro z;exact absurd (show b∈([]:List Addr) from z) (by simp)) (by simp)
        | some u2 =>
          have q3:=q2
          rw [Hne b n1 n2] at q3
          rcases hO b with z | ⟨ob,u3,z⟩
          · rw [q3] at z
            cases z
          · have z1:=sH _ _ z
            have z2:=un.frzs b ob _ z1
            obtain ⟨e1,_⟩:=hokH b _ z1
            obtain ⟨e2,_⟩:=hok' b _ z2
            rw [e] at e1
            cases e1
            exact e2
      have grown:∀ {P c:Addr},W.CodeHd s₁.heap c P→s₁.heap.get? P=some (W.tabObj #[])→H P=some (.tbl #[])→asItWas s₁.heap s'.heap P (W.tabObj #[])∧∃ o',s'.heap.get? P=some o':=fun {P c} h1 h2 h3=>by
        obtain ⟨more,e⟩:=un.tbls P _ h3
        have e2:s'.heap.get? P=some { cls:=.none,data:=.fields (#[]++more) }:=hok' P _ e
        exact ⟨.inr (.inl ⟨(h1.tab h2).isCodeTable,rfl,_,more,rfl,e2⟩),_,e2⟩
      have KX':K.In s'.heap:=fun b o e=>kept b o (fun z=>by rw [z,hka] at e;cases e) (fun z=>by rw [z,hkb] at e;cases e) (KX b o e)
      obtain ⟨as,hrd⟩:=Dw.reads (R:=R) (cl:=cl) hok' KX' d0 v u q r'
      refine ⟨u,as,rfl,hrd,⟨fun b o e=>?_,fun b o e=>?_⟩,os,bare⟩
      · by_cases z1:b=Pa
        · subst z1;rw [ta.2] at e;cases e;exact (grown ta.1 ta.2 HPa).1
        · by_cases z2:b=Pb
          · subst z2;rw [tb.2] at e;cases e;exact (grown tb.1 tb.2 HPb).1
          · exact .inl (kept b o z1 z2 e)
      · by_cases z1:b=Pa
        · subst z1;exact (grown ta.1 ta.2 HPa).2
        · by_cases z2:b=Pb
          · subst z2;exact (grown tb.1 tb.2 HPb).2
          · exact ⟨o,kept b o z1 z2 e⟩
theorem lC {r:OpenSpec} {k:Nat} {q:Program} {loose:List Str} {XP:(Str→Option Value)→Heap→Prop} {YP:World→Heap→Prop} {d:DefRec} {K:Params→W.Frag} {CX:CXT} {ps:List Str} {sp:W.Frag→Addr→Addr→Sp}
    (hwell:r.wellSaid=true) (hdf:d.params.defaults=[]) (hlen:r.args.length=ps.length) (hr:wU k callerA)
    (hY:∀ (w:World) (h:Heap),YP w h→(K w.params).In h)
    (F:∀ (w:World) (mg mb:Str→Option Value) (mean:ExcName→Option Value) (lo:List Str) (fa:Addr) (h:Heap),YP w h→(K w.params).In h→h.Ns mainGlobals mg→mg d.name=some (.ref fa)→Top q lo mean mg mb h →
      ∃ (ca Pa cb Pb:Addr),Pa≠Pb∧(W.CodeHd h ca Pa∧h.get? Pa=some (W.tabObj #[]))∧(W.CodeHd h cb Pb∧h.get? Pb=some (W.tabObj #[]))∧(K w.params).lookup Pa=none∧(K w.params).lookup Pb=none ∧
      ∃ fd:FuncData,(∀ (s:Shared) (us:List Value),us.length=ps.length→BindsTo s fd ⟨us,[]⟩ (ps.zip us)) ∧
        ∀ base:Heap,(K w.params).In base→base.Ns mainGlobals mg→g0 mg base ca Pa→g0 mg base cb Pb→vA r.prog w (K w.params) mg base CX k fa fd ps (sp (K w.params) Pa Pb))
    (hsp:∀ (K:W.Frag) (Pa Pb:Addr) (H:Hp) (xs:List V) (a:Codec.denoteAll r.args),H Pa=some (.tbl #[])→H Pb=some (.tbl #[])→Codec.withinAll r.args a=true→Codec.app r.args r.asked a=true→qU K H xs (Codec.encAll r.args a) →
      sp K Pa Pb xs H (fun v H'=>Dw K H' v (r.ret.enc (Codec.app r.args r.f a))) fun _ _ _=>False)
    (hCX:∀ (H:Hp) (s:Shared) (e:Value) (s':Shared),CX [] H s (fun _ _ _=>False) e s'→False) :
    W.WalkOS q loose XP YP r d [] (fun f vs=>PySem.call f vs):=by
  intro w s_0 s₁ mg mb G Y fa o pm cd doc dV kV ho hd hcd hD hmg hg args vals as hpre hlay hrd hwl hlo
  obtain ⟨a,e1,e2⟩:=W.os_pre_some hpre
  obtain ⟨e3,hwi⟩:=Codec.encAll_of_decAll r.args args a e1
  subst e3
  have KX:=hY w _ Y
  obtain ⟨ca,Pa,cb,Pb,nab,ta,tb,hka,hkb,fd,hb,hF⟩:=F w mg mb _ _ fa _ Y KX G.T.g hmg G.T
  refine W.enter_call (codeAny_mono (lY (R:=[]) (cl:=classAt s_0.heap) (d0:=r.ret.enc (Codec.app r.args r.f a)) KX G.T.g G.T.b G.T.builtins G.T.nolimit hg hwl (rY _ _) (hG hlay) hr ta tb hka hkb G.T.bmain hF hb (by rw [fG];exact hlen)
    (fun H xs hPa hPb hS=>hsp (K w.params) Pa Pb H xs a hPa hPb hwi e2 hS) fun H e s'=>hCX H s₁ e s') fun r' s' hq=>?_)
  obtain ⟨u,as',rfl,h1,h2,h3,h4⟩:=hq
  exact ⟨.inl ⟨u,_,as',rfl,fun _=>rfl,h1,(OpenSpec.post_iff hwell hwi _ _).mpr rfl,fun z=>Bool.noConfusion (show false=true from z)⟩,h2,h3,h4⟩
end L2
namespace HH
open PySem PySem.W PyProof.Rows
def bB (tb:String→Option Builtin) (p:Program) (w:World) (k:Nat) (ann:Option Value):Nat→SharedT→Thread→Option SharedT
  | 0,_,_=>none
  | n+1,s,t=>match through t with
    | true=>some s
    | false=>match stepOk k ann t with
      | false=>none
      | true=>match stepT (denote tb) p w s t with
        | some (s',t')=>bB tb p w k ann n s' t'
        | none=>none
theorem r6 {tb:String→Option Builtin} {p:Program} {w:World} {k:Nat} {ann:Option Value}:∀ {n:Nat} {s s':SharedT} {t:Thread},bB tb p w k ann n s t=some s'→topRun tb p w k ann n s.abs t=some s'.abs
  | 0,_,_,_,h=>by cases h
  | n+1,s,s',t,h=>by
    unfold bB at h
    unfold topRun
    cases he:through t with
    | true=>rw [he] at h;cases h;rfl
    | false =>
      rw [he] at h
      cases hk:stepOk k ann t with
      | false=>rw [hk] at h;cases h
      | true =>
        rw [hk] at h
        cases hs:stepT (denote tb) p w s t with
        | none=>rw [hs] at h;cases h
        | some r=>obtain ⟨s2,t2⟩:=r;rw [hs] at h;rw [stepT_spec hs];exact r6 h
def bt (l:List Obj):BT×Nat:=l.foldl (fun x o=>(x.1.ins x.2 o,Nat.succ x.2)) (.nil,0)
def jt0 (l:List Stmt):List Stmt:=((l.zipIdx.filter fun x=>![0,16,28,43,49].contains x.2).map (·.1))
def qf (p:Program):Program:={ p with main:={ p.main with body:=jt0 p.main.body } }
def bs (b:Heap) (d:Drawn) (k:Nat) (os:OsState):SharedT:=⟨(bt b.objs.toList).1,b.objs.size,b.life,#[],d,k,os⟩
theorem jg4 (w:World) (os:OsState):(bs (boot_heap w.params) boot_drawn boot_toks os).abs=⟨boot_heap w.params,#[],boot_drawn,boot_toks,os⟩:=by kernel_rfl
def ck (p:Program) (h0:Heap) (as:List Addr) (s:Shared):=(staticsOk (importedModules p.main.body) h0 s.heap && namesBound p s.heap && gensDone s && laidKept h0 s.heap,openSeen (qf p) [] (importedModules p.main.body) (fun s=>xlAt (qf p) [] s && recOk [] s) true s,List.map s.heap.get? as)
def run (p:Program) (b:Heap) (d:Drawn) (k:Nat) (as:List Addr) (w:World) (os:OsState):=(bB treeTable p w b.objs.size (b.nsMap mainGlobals "__annotations__") 4926 (bs b d k os) (topStub p)).map fun s=>ck p b as s.abs
def good (p:Program):=openGood (qf p) []
end HH
lay_quick HH.run HH.good
namespace HH
open PySem PySem.W PyProof.Rows
theorem left {p:Program} {K:Params→Frag} {as:List Addr} {ha:∀ P:Params,as=List.map (fun x=>x.fst) (K P)} (e:opening p=plainProg p.main.scope.names) (f:∀ s,fenceModules? p s=some s) (h0:∀ w:World,(boot_heap w.params).isNs mainGlobals=true)
    (h1:∀ w os,(run p (boot_heap w.params) boot_drawn boot_toks [] w os).map (fun x=>(x.1,x.2.1))=some (true,good p))
    (h2:∀ w os,(run p (boot_heap w.params) boot_drawn boot_toks as w os).map (fun x=>x.2.2)=some (List.map (fun x=>some x.snd) (K w.params))) :
    LeftO p (qf p) [] (fun s=>xlAt (qf p) [] s && recOk [] s) (kHook K as ha).obs (kHook K as ha).val 4926:=fun w=>by
  obtain ⟨⟨hp,gs,d,k,os⟩,e1,e2⟩:=Option.map_eq_some_iff.mp (boot_open (N:=4926) e rfl f w)
  simp only [Prod.mk.injEq] at e2
  obtain ⟨rfl,rfl,rfl,rfl⟩:=e2
  obtain ⟨x1,y1,z1⟩:=Option.map_eq_some_iff.mp (h1 w os)
  obtain ⟨x2,y2,z2⟩:=Option.map_eq_some_iff.mp (h2 w os)
  obtain ⟨s1,r1,u1⟩:=Option.map_eq_some_iff.mp y1
  obtain ⟨s2,r2,u2⟩:=Option.map_eq_some_iff.mp y2
  cases r1.symm.trans r2
  subst u1 u2
  have r3:=r6 r1
  rw [jg4] at r3
  have z3:=congrArg Prod.fst z1
  have z4:=congrArg Prod.snd z1
  unfold openEnds
  rw [e1]
  show (topFrom treeTable p w 4926 _).map _=_
  unfold topFrom
  dsimp only
  rw [h0 w,show ((#[]:Array GenState).size == 0)=true from rfl,r3]
  show Option.map _ (match staticsOk (importedModules p.main.body) (boot_heap w.params) s1.abs.heap && namesBound p s1.abs.heap && gensDone s1.abs && laidKept (boot_heap w.params) s1.abs.heap with | true=>_ | false=>_)=_
  rw [show (staticsOk (importedModules p.main.body) (boot_heap w.params) s1.abs.heap && namesBound p s1.abs.heap && gensDone s1.abs && laidKept (boot_heap w.params) s1.abs.heap)=true from z3]
  exact congrArg some (Prod.ext z4 z2)
theorem seen (w:World) (os:OsState):(run PySem.Challenge.pw_trainseatsyard_s01_answers (boot_heap w.params) boot_drawn boot_toks [] w os).map (fun x=>(x.1,x.2.1))=some (true,good PySem.Challenge.pw_trainseatsyard_s01_answers):=by
  rw [show run=PySem.W.Fast.tw4092019606495264730 from PySem.W.Fast.te4092019606495264730,show good=PySem.W.Fast.tw15099859215028842244 from PySem.W.Fast.te15099859215028842244]
  kernel_rfl
theorem head {r:OpenSpec} {q:Program} (H:Hook) (left:LeftO r.prog q [] (fun s=>xlAt q [] s && recOk [] s) H.obs H.val 4926)
  {d:DefRec} {kwd:List (Str×Expr)} (hdef:defOf q r.name=some (d,kwd)) (hp:r.prog.theDef r.name=some (d.params,d.body,d.scope)) (hk:kwWritten? d.params.kwonlyargs d.params.kw_defaults=some kwd)
  (k1:r.wellSaid=true) (ok:(chainsOk q && opensWell r.prog)=true) (hb:r.prog.bare) (hw:∃ args,r.pre args=true∧WData.layableAll args=true)
    (call:WalkOS q [] (XL q []) H.says r d kwd fun f vs=>PySem.call f vs):r.Holds :=
  holds_os (q:=q) (loose:=[]) (Xt:=fun s=>xlAt q [] s && recOk [] s) (XP:=XL q []) (Yf:=H.obs) (Ya:=H.val) (YP:=H.says) (N:=4926) left H.of H.keeps (fun s e=>xl_of s (Bool.and_eq_true_iff.mp e).1) XL.keeps hdef hp hk (fun s e=>recFacts_of (Bool.and_eq_true_iff.mp e).2) os_shapes k1 ok hb hw call
end HH
namespace L2
open PySem PySem.Spec PySem.W PyProof.Rows
def mO (K:Frag) (x y:Str):Bool:=match tabIn K x,tabIn K y with
  | some (_,p),some (_,q)=>p != q && ((K.lookup p).isNone && (K.lookup q).isNone)
  | _,_=>false
theorem lD {K:Frag} {x y:Str} (h:mO K x y=true):∃ c p d q,tabIn K x=some (c,p)∧tabIn K y=some (d,q)∧p≠q∧K.lookup p=none∧K.lookup q=none:=by
  unfold mO at h
  split at h
  · rename_i c p d q e1 e2
    rw [Bool.and_eq_true,Bool.and_eq_true] at h
    exact ⟨c,p,d,q,e1,e2,by simpa using h.1,by simpa using h.2.1,by simpa using h.2.2⟩
  · cases h
theorem r4 {p:Program} {lo:List Str} {mean:ExcName→Option Value} {mg mb:Str→Option Value} {h:Heap} {K:Frag} {x qual:Str} {st:Stmt} {f c c' Q:Addr} {fd:FuncData} (T:Top p lo mean mg mb h) (X:K.In h) (hr:((recsOf p).find? fun e=>e.name == x).isSome=true) (ht:tabIn K x=some (c,Q)) (F:Fun K x qual st f fd) (hm:mg x=some (.ref f)) (hc:fd.code=.ref c') :
    PySem.W.CodeHd h c' Q∧h.get? Q=some (PySem.W.tabObj #[]):=by
  obtain ⟨d,hd⟩:=Option.isSome_iff_exists.mp hr
  have e:=tab_of T X hd ht
  obtain ⟨oc,od,kV,doc,pm,an,cdv,ct,osl,e1,lk,hcd⟩:=F.ex
  have e2:=law_code X T.g ht hm (X _ _ lk) rfl
  subst e1
  have e3:Value.ref c=Value.ref c':=by rw [← hc,← e2]
  cases e3
  exact e
end L2
open PySem PySem.W PyProof.Rows
local macro_rules | `(tactic| o_headS $H:term) => `(tactic| refine HH.head (q := HH.qf PySem.Challenge.pw_trainseatsyard_s01_answers) $H ?hl (by rfl) (by rfl) (by rfl) (by decide +kernel) (by decide +kernel) ⟨rfl, rfl, rfl, rfl, rfl, by decide +kernel⟩ ?hw ?hc)
theorem PySem.Challenge.cw_trainseatsyard_s01_answers_holds : PySem.Challenge.rw_trainseatsyard_s01_answers.Holds := by
  w_on;k_headS
  case hw=>exact ⟨[.list [.int 4]],by decide +kernel,by decide +kernel⟩
  case hl =>
    refine HH.left (by kernel_rfl) (fun s=>by kernel_rfl) (fun w=>by kernel_rfl) HH.seen fun w os=>?_
    rw [show HH.run=PySem.W.Fast.tw4092019606495264730 from PySem.W.Fast.te4092019606495264730]
    kernel_rfl
  k_fillS
  refine L2.lC (r:=PySem.Challenge.rw_trainseatsyard_s01_answers) (k:=20) (CX:=L2.CX0) (ps:=["calls"]) (sp:=Y.rM) (by decide +kernel) rfl rfl ⟨rfl,by decide,by decide⟩ (fun w h Y=>PySem.W.kIn_of Y) ?F ?S (fun _ _ _ _ z=>z)
  case F =>
    intro w mg mb mean lo fa h Yh KX G hmg TP
    have TT:∃ a:Y.Adr,a.f_xs=fa∧Y.Txt (L2.KOf KX) mg a:=by
      dsimp only [L2.KOf]
      refine' Y.jg2 KX G hmg ?_ ?_ ?_ ?_ ?_ ?_ ?_ ?_ ?_ ?_ ?_ ?_ ?_ ?_ ?_ ?_ ?_ ?_ ?_ ?_ ?_ ?_ ?_ ?_ ?_ ?_ ?_ ?_ ?_ ?_ ?_ ?_ ?_ ?_ ?_ ?_ ?_ ?_ ?_ ?_ ?_ ?_ ?_ ?_ ?_ ?_ ?_ ?_ ?_ ?_ ?_ ?_ ?_ ?_ ?_ ?_ ?_ ?_ ?_ ?_ ?_ ?_ ?_ ?_ ?_ ?_ ?_ ?_ ?_ ?_ ?_ ?_ ?_ ?_ ?_ ?_ ?_ ?_ ?_ ?_ ?_ ?_ ?_ ?_ ?_ ?_ ?_ ?_ ?_ ?_ ?_ ?_ ?_ ?_ ?_ ?_ ?_ ?_ ?_ ?_ ?_ ?_ ?_ ?_ ?_ ?_ ?_ ?_ ?_ ?_ ?_ ?_ ?_ ?_ ?_ ?_ ?_ ?_ ?_ ?_ ?_ ?_ ?_ ?_ ?_ ?_ ?_ ?_ ?_ ?_ ?_ ?_ ?_ ?_ ?_ ?_ ?_ ?_ ?_ ?_ ?_ ?_ ?_ ?_ ?_ ?_ ?_ ?_ ?_ ?_ ?_ ?_ ?_ ?_ ?_ ?_ ?_ ?_ ?_ ?_ ?_ ?_ ?_ ?_ ?_ ?_ ?_ ?_ ?_ ?_ ?_ ?_ ?_ ?_ ?_ ?_ ?_ ?_ ?_ ?_ ?_ ?_ ?_ ?_ ?_ ?_ ?_ ?_ ?_ ?_ ?_ ?_ ?_ ?_ ?_ ?_ ?_ ?_ ?_ ?_ ?_ ?_ ?_ ?_ ?_ ?_ ?_ ?_ ?_ ?_ ?_ ?_ ?_ ?_ ?_ ?_ ?_ ?_ ?_ ?_ ?_ ?_ ?_ ?_ ?_ ?_ ?_ ?_ ?_ ?_ ?_ ?_ ?_ ?_ ?_ ?_ ?_ ?_ ?_ ?_ ?_ ?_ ?_ ?_ ?_ ?_ ?_ ?_ ?_ ?_ ?_ ?_ ?_ ?_ ?_ ?_ ?_ ?_ ?_ ?_ ?_ ?_ ?_ ?_ ?_ ?_ ?_ ?_ ?_
      all_goals try k_is
    obtain ⟨a,rfl,T⟩:=TT
    have h2:L2.mO (L2.KOf KX) "earliest_seated" "seat_from"=true:=by dsimp only [L2.KOf];kernel_rfl
    obtain ⟨c1,P1,c2,P2,t1,t2,nab,k1,k2⟩:=L2.lD h2
    refine ⟨a.c_xe,P1,a.c_xk,P2,nab,L2.r4 TP KX (by kernel_rfl) t1 T.F_xe T.g_xe T.hc_xe,L2.r4 TP KX (by kernel_rfl) t2 T.F_xk T.g_xk T.hc_xk,k1,k2,a.d_xs,T.bb_xs,fun base kb nb N1 N2=>Y.jnK Y.jsY T N1 N2 nab⟩
  case S =>
    intro K Pa Pb H xs a hPa hPb hwi hask hx
    cases hx with
    | cons h1 h2 =>
      cases h2
      cases h1 with
      | lst hs ha =>
        have e:=L2.eK a.1 _ ha
        subst e
        exact ⟨_,a.1,rfl,hs,hask,.inl hPa,.inl hPb,fun H' p hp _ _ _=>.lst (L2.SqL.of hp) (L2.aB _)⟩
