import PyProof.Rows.All
import Wide.All
import OpenK.AllK
import Wide.FinOn
import PyProof.EqAt
import PyProof.EqKinds
import PyProof.TupleCall
import KE.BitLaws
import Open.SpecLaws
import KE.OsHead
import KE.OsGo
import PyWqaccq
import PyProof.StationsW
import PyProof.ExcArgsOwn
import PyProof.InstStore
import PyProof.InstStoreFacts
import PyProof.ExcBaseAll.Exception
import OpenK.KMore
import PyProof.NsDelKeeps
import PyProof.Rows.TupAdd
import PyProof.Rows.StrLen
import PyProof.EnumMake
import PyProof.Draws
import PySem.Challenge.RW_tidemachine_s01_answers
set_option Elab.async false
set_option linter.all false
set_option maxRecDepth 100000
set_option maxHeartbeats 4000000
namespace Td
open Tide
noncomputable def pick (m:Option (Nat×Nat)) (x:Nat×Nat):Option (Nat×Nat):=match m with
 |some y=>if sooner y x=true then some y else some x
 |none=>some x
theorem Bq {a b:Nat×Nat}:sooner a b=true<->a.2<b.2\/(a.2=b.2/\a.1<=b.1):=by
 unfold sooner
 rw[Bool.or_eq_true,Bool.and_eq_true,decide_eq_true_iff,decide_eq_true_iff,beq_iff_eq]
theorem Kg {y:Nat×Nat}:∀{l:List (Nat×Nat)},(∀x∈l,sooner y x=true)->l.foldl pick (some y)=some y
 |[],_=>rfl
 |x::l,h=>by
  rw[List.foldl_cons]
  show l.foldl pick (if sooner y x=true then some y else some x)=_
  rw[if_pos (h x (.head _))]
  exact Kg fun z hz=>h z (.tail _ hz)
theorem Ih {y:Nat×Nat}:∀{l:List (Nat×Nat)}{m:Option (Nat×Nat)},y∈l->(∀x∈l,sooner y x=true)->(∀z,m=some z->sooner y z=true)->l.foldl pick m=some y
 |[],_,h,_,_=>by cases h
 |x::l,m,hy,h,hm=>by
  rw[List.foldl_cons]
  have hx:=h x (.head _)
  by_cases e:x=y
  ·subst e
   have:pick m x=some x:=by
    unfold pick
    cases m with
    |none=>rfl
    |some z=>
     show (if sooner z x=true then some z else some x)=some x
     by_cases q:sooner z x=true
     ·have e2:z=x:=by
       have a:=Bq.mp q
       have b:=Bq.mp (hm z rfl)
       apply Prod.ext<;>omega
      rw[if_pos q,e2]
     ·rw[if_neg q]
   rw[this]
   exact Kg fun z hz=>h z (.tail _ hz)
  ·have hy':y∈l:=by
    rcases List.mem_cons.mp hy with q|q
    ·exact absurd q.symm e
    ·exact q
   refine Ih hy' (fun z hz=>h z (.tail _ hz)) fun z hz=>?_
   unfold pick at hz
   cases m with
   |none=>cases hz;exact hx
   |some w=>
    dsimp only at hz
    by_cases q:sooner w x=true
    ·rw[if_pos q] at hz;cases hz;exact hm _ rfl
    ·rw[if_neg q] at hz;cases hz;exact hx
noncomputable def Fz {α:Type} (wr:List α->α->List (Nat×Nat)):List α->List α->Option (Nat×Nat)
 |_,[]=>none
 |before,x::r=>match (wr before x).foldl pick none with
  |some f=>some f
  |none=>Fz wr (before++[x]) r
noncomputable def allOf {α:Type} (wr:List α->α->List (Nat×Nat)):List α->List α->List (Nat×Nat)
 |_,[]=>[]
 |before,x::r=>wr before x++allOf wr (before++[x]) r
theorem WN:∀{l:List (Nat×Nat)}{m:Option (Nat×Nat)}{y:Nat×Nat},l.foldl pick m=some y->y∈l\/m=some y
 |[],m,y,h=>.inr h
 |x::l,m,y,h=>by
  rw[List.foldl_cons] at h
  rcases WN h with q|q
  ·exact .inl (.tail _ q)
  ·unfold pick at q
   cases m with
   |none=>cases q;exact .inl (.head _)
   |some w=>
    dsimp only at q
    by_cases r:sooner w x=true
    ·rw[if_pos r] at q;exact .inr q
    ·rw[if_neg r] at q;cases q;exact .inl (.head _)
theorem IH (a:Nat×Nat):sooner a a=true:=Bq.mpr (by omega)
theorem Zm {α:Type}{wr:List α->α->List (Nat×Nat)}{lo hi:α->Nat} (hw:∀b x f,f∈wr b x->lo x<=f.2/\f.2<hi x) :
  ∀(l before:List α),List.Pairwise (fun x y=>hi x<=lo y) l->(allOf wr before l).foldl pick none=Fz wr before l:=by
 have mem:∀(l before:List α) (f:Nat×Nat),f∈allOf wr before l->∃x∈l,lo x<=f.2:=by
  intro l
  induction l with
  |nil=>intro b f h;cases h
  |cons x r ih=>
   intro b f h
   rcases List.mem_append.mp h with h|h
   ·exact ⟨x,.head _,(hw b x f h).1⟩
   ·obtain ⟨y,hy,e⟩:=ih _ f h
    exact ⟨y,.tail _ hy,e⟩
 intro l
 induction l with
 |nil=>intro _ _;rfl
 |cons x r ih=>
  intro before hp
  obtain ⟨p1,p2⟩:=List.pairwise_cons.mp hp
  show (wr before x++allOf wr (before++[x]) r).foldl pick none=Fz wr before (x::r)
  unfold Fz
  cases e:(wr before x).foldl pick none with
  |none=>
   rw[List.foldl_append,e]
   exact ih _ p2
  |some f=>
   rw[List.foldl_append,e]
   have hf:f∈wr before x:=(WN e).elim id fun q=>by cases q
   refine Kg fun z hz=>?_
   obtain ⟨y,hy,q⟩:=mem r _ z hz
   have a:=p1 y hy
   have b:=hw before x f hf
   exact Bq.mpr (by omega)
theorem range_all {α:Type} (wr:List α->α->List (Nat×Nat)) (l:List α) :
  ((List.range l.length).flatMap fun (i:Nat)=>match l[i]? with|some x=>wr (l.take i) x|none=>[])=allOf wr [] l:=by
 have gen:∀(r before:List α),((List.range r.length).flatMap fun (i:Nat)=>match r[i]? with|some x=>wr (before++r.take i) x|none=>[])=allOf wr before r:=by
  intro r
  induction r with
  |nil=>intro _;rfl
  |cons x r ih=>
   intro before
   rw[List.length_cons,List.range_succ_eq_map,List.flatMap_cons]
   show wr (before++[]) x++_=wr before x++allOf wr (before++[x]) r
   rw[List.append_nil,<-ih (before++[x])]
   congr 1
   rw[List.flatMap_map]
   congr 1
   funext i
   show (match (x::r)[i+1]? with|some y=>wr (before++(x::r).take (i+1)) y|none=>[])=_
   rw[List.getElem?_cons_succ,List.take_succ_cons]
   have e:before++x::r.take i=before++[x]++r.take i:=by simp
   rw[e]
 have:=gen l []
 simp only [List.nil_append] at this
 exact this
end Td
namespace Td
open Tide
theorem Ag {ε α β:Type}{x:Except ε α}{f:α->Except ε β}{b:β}:(x >>= f) = .ok b<->∃a,x = .ok a/\f a = .ok b:=by
 cases x with
 |error e=>exact ⟨fun h=>(by cases h),fun ⟨a,h,_⟩=>(by cases h)⟩
 |ok a=>exact ⟨fun h=>⟨a,rfl,h⟩,fun ⟨_,h,k⟩=>(by cases h;exact k)⟩
theorem AZ {ε α:Type}{a b:α}:(pure a:Except ε α) = .ok b<->a=b:=⟨fun h=>(by cases h;rfl),fun h=>(by rw[h];rfl)⟩
theorem Ek {ε α β:Type}{x:Except ε α}{f:α->β}{b:β}:(x.map f) = .ok b<->∃a,x = .ok a/\f a=b:=by
 cases x with
 |error e=>exact ⟨fun h=>(by cases h),fun ⟨a,h,_⟩=>(by cases h)⟩
 |ok a=>exact ⟨fun h=>⟨a,rfl,(by cases h;rfl)⟩,fun ⟨_,h,k⟩=>(by cases h;subst k;rfl)⟩
structure In (b:Bytes) (c:Cur):Prop where
 rest:c.rest=b.drop c.at_
 le:c.at_<=b.length
theorem In.next {b:Bytes}{c:Cur} (h:In b c):c.next=b[c.at_]?:=by
 unfold Cur.next
 rw[h.rest,List.head?_drop]
theorem In.on {b:Bytes}{c:Cur} (h:In b c) {x:UInt8} (e:c.next=some x):In b c.on:=by
 have hl:c.at_<b.length:=by
  rw[h.next] at e
  exact (List.getElem?_eq_some_iff.mp e).1
 exact ⟨by show c.rest.drop 1=b.drop (c.at_+1);rw[h.rest,List.drop_drop],by show c.at_+1<=_;omega⟩
theorem In.start (b:Bytes):In b ⟨b,0⟩:=⟨rfl,Nat.zero_le _⟩
theorem In.Za {b:Bytes}{c:Cur} (h:In b c):c.rest=[]<->b.length<=c.at_:=by
 rw[h.rest,List.drop_eq_nil_iff]
section
variable {b:Bytes}
theorem Bj:∀{w:Bytes}{c d:Cur},lit w c = .ok d->In b c->In b d/\d.at_=c.at_+w.length
 |[],c,d,h,k=>by
  have e:c=d:=by simpa[lit] using h
  subst e
  exact ⟨k,rfl⟩
 |x::w,c,d,h,k=>by
  unfold lit at h
  by_cases q:c.next=some x
  ·rw[if_pos q] at h
   obtain ⟨a,e⟩:=Bj h (k.on q)
   refine ⟨a,?_⟩
   rw[e]
   show c.at_+1+w.length=c.at_+(w.length+1)
   omega
  ·rw[if_neg q] at h
   cases h
theorem AY {c d:Cur} (h:blank c = .ok d) (k:In b c):In b d/\d.at_=c.at_+1:=Bj h k
theorem IW {p:UInt8->Bool}:∀{n:Nat}{c:Cur},In b c->In b (some_ p n c).2/\(some_ p n c).2.at_=c.at_+(some_ p n c).1.length/\(some_ p n c).1.length<=n/\(∀x∈(some_ p n c).1,p x=true)
 |0,c,k=>⟨k,rfl,Nat.le_refl _,fun _ h=>by cases h⟩
 |n+1,c,k=>by
  unfold some_
  cases e:c.next with
  |none=>exact ⟨k,rfl,Nat.zero_le _,fun _ h=>by cases h⟩
  |some x=>
   dsimp only
   by_cases q:p x=true
   ·rw[if_pos q]
    obtain ⟨a1,a2,a3,a4⟩:=IW (p:=p) (n:=n) (k.on e)
    refine ⟨a1,?_,?_,?_⟩
    ·show (some_ p n c.on).2.at_=c.at_+((some_ p n c.on).1.length+1)
     rw[a2]
     show c.at_+1+_=_
     omega
    ·show (some_ p n c.on).1.length+1<=n+1
     omega
    ·intro y hy
     rcases List.mem_cons.mp hy with rfl|hy
     ·exact q
     ·exact a4 y hy
   ·rw[if_neg q]
    exact ⟨k,rfl,Nat.zero_le _,fun _ h=>by cases h⟩
theorem LR {p:UInt8->Bool}{n:Nat}{c:Cur} (h:nextIs p c=true):0<(some_ p (n+1) c).1.length:=by
 unfold nextIs at h
 unfold some_
 cases e:c.next with
 |none=>rw[e] at h;cases h
 |some x=>
  rw[e] at h
  dsimp only at h ⊢
  rw[if_pos h]
  exact Nat.succ_pos _
theorem Cd {n:Nat}{c d:Cur}{x:Bytes} (h:someDigits (n+1) c = .ok (x,d)) (k:In b c):In b d/\d.at_=c.at_+x.length/\0<x.length/\x.length<=n+1/\(∀y∈x,isDigit y=true):=by
 unfold someDigits at h
 by_cases q:nextIs isDigit c=true
 ·rw[if_pos q] at h
  injection h with h
  have a:=IW (p:=isDigit) (n:=n+1) k
  have a0:=LR (n:=n) q
  rw[h] at a a0
  exact ⟨a.1,a.2.1,a0,a.2.2.1,a.2.2.2⟩
 ·rw[if_neg q] at h
  cases h
theorem Cf {c d:Cur}{x:Bytes} (h:nameIn c = .ok (x,d)) (k:In b c):In b d/\d.at_=c.at_+x.length/\0<x.length/\x.length<=7:=by
 unfold nameIn at h
 by_cases q:nextIs isLetter c=true
 ·rw[if_pos q] at h
  injection h with h
  have a:=IW (p:=fun (x:UInt8)=>isLetter x||isDigit x) (n:=7) k
  have q2:nextIs (fun (x:UInt8)=>isLetter x||isDigit x) c=true:=by
   unfold nextIs at q ⊢
   cases e:c.next with
   |none=>rw[e] at q;cases q
   |some y=>rw[e] at q;dsimp only at q ⊢;rw[q];rfl
  have a0:=LR (n:=6) q2
  rw[h] at a a0
  exact ⟨a.1,a.2.1,a0,a.2.2.1⟩
 ·rw[if_neg q] at h
  cases h
theorem Bz {p:UInt8->Bool}{c:Cur} (h:nextIs p c=true):∃x,c.next=some x/\p x=true:=by
 unfold nextIs at h
 cases e:c.next with
 |none=>rw[e] at h;cases h
 |some x=>rw[e] at h;exact ⟨x,rfl,h⟩
theorem In.ia {p:UInt8->Bool}{c:Cur} (k:In b c) (h:nextIs p c=true):In b c.on:=
 let ⟨_,e,_⟩:=Bz h
 k.on e
theorem Um {n:Nat}{c d:Cur}{x:Bytes} (h:(if nextIs (fun (x:UInt8)=>x==46) c=true then someDigits (n+1) c.on else .ok ([],c)) = .ok (x,d)) (k:In b c):In b d/\c.at_<=d.at_/\x.length<=n+1/\(∀y∈x,isDigit y=true):=by
 by_cases q:nextIs (fun (x:UInt8)=>x==46) c=true
 ·rw[if_pos q] at h
  have a:=Cd h (k.ia q)
  refine ⟨a.1,?_,a.2.2.2.1,a.2.2.2.2⟩
  have:=a.2.1
  rw[this]
  show c.at_<=c.at_+1+_
  omega
 ·rw[if_neg q] at h
  injection h with h
  injection h with h1 h2
  subst h1 h2
  exact ⟨k,Nat.le_refl _,Nat.zero_le _,fun _ h=>by cases h⟩
theorem EI {c d:Cur}{v:Int} (h:number c = .ok (v,d)) (k:In b c):In b d/\c.at_<d.at_:=by
 unfold number at h
 obtain ⟨⟨x,c1⟩,h1,h⟩:=Ag.mp h
 obtain ⟨⟨y,c2⟩,h2,h⟩:=Ag.mp h
 have e:=AZ.mp h
 injection e with e1 e2
 subst e2
 have k0:In b (if nextIs (fun (x:UInt8)=>x==45) c=true then c.on else c)/\c.at_<=(if nextIs (fun (x:UInt8)=>x==45) c=true then c.on else c).at_:=by
  by_cases q:nextIs (fun (x:UInt8)=>x==45) c=true
  ·rw[if_pos q];exact ⟨k.ia q,Nat.le_succ _⟩
  ·rw[if_neg q];exact ⟨k,Nat.le_refl _⟩
 have a:=Cd h1 k0.1
 have f:=Um h2 a.1
 refine ⟨f.1,?_⟩
 have:=f.2.1
 have:=a.2.1
 have:=k0.2
 have:=a.2.2.1
 omega
theorem QR {n m:Nat}{c d:Cur}{v:Nat} (h:pointed (n+1) (m+1) c = .ok (v,d)) (k:In b c):In b d/\c.at_<d.at_:=by
 unfold pointed at h
 obtain ⟨⟨x,c1⟩,h1,h⟩:=Ag.mp h
 obtain ⟨⟨y,c2⟩,h2,h⟩:=Ag.mp h
 have e:=AZ.mp h
 injection e with e1 e2
 subst e2
 have a:=Cd h1 k
 have f:=Um h2 a.1
 refine ⟨f.1,?_⟩
 have:=f.2.1
 have:=a.2.1
 have:=a.2.2.1
 omega
theorem AV {z:Bool}{n:Nat}{c d:Cur}{v:Nat} (h:plainNumber z (n+1) c = .ok (v,d)) (k:In b c):In b d/\c.at_<d.at_:=by
 unfold plainNumber at h
 by_cases q:z=true/\c.next=some 48
 ·rw[if_pos q] at h
  injection h with h
  injection h with h1 h2
  subst h2
  exact ⟨k.on q.2,Nat.lt_succ_self _⟩
 ·rw[if_neg q] at h
  by_cases r:nextIs (fun (x:UInt8)=>isDigit x&&x != 48) c=true
  ·rw[if_pos r] at h
   have a:=IW (p:=isDigit) (n:=n+1) k
   have r2:nextIs isDigit c=true:=by
    obtain ⟨x,e,hx⟩:=Bz r
    unfold nextIs
    rw[e]
    exact (Bool.and_eq_true _ _ ▸ hx).1
   have a0:=LR (n:=n) r2
   have h:(Except.ok (decimal (some_ isDigit (n+1) c).1,(some_ isDigit (n+1) c).2):Except Nat (Nat×Cur)) = .ok (v,d):=h
   have h:=Except.ok.inj h
   have h2:(some_ isDigit (n+1) c).2=d:=(Prod.mk.inj h).2
   rw[h2] at a
   refine ⟨a.1,?_⟩
   rw[a.2.1]
   omega
  ·rw[if_neg r] at h
   cases h
theorem QJ:∀{f:Nat}{c d:Cur}{l:List (Nat×Nat)},pairsIn f c = .ok (l,d)->In b c->In b d/\c.at_<d.at_/\l.length<=f
 |0,c,d,l,h,k=>by
  unfold pairsIn at h
  obtain ⟨e,h1,h2⟩:=Ek.mp h
  injection h2 with h2 h3
  subst h2 h3
  obtain ⟨a1,a2⟩:=Bj h1 k
  exact ⟨a1,by rw[a2];show _<_+1;omega,Nat.le_refl _⟩
 |f+1,c,d,l,h,k=>by
  unfold pairsIn at h
  by_cases q:c.next=some LF
  ·rw[if_pos q] at h
   injection h with h
   injection h with h1 h2
   subst h1 h2
   exact ⟨k.on q,Nat.lt_succ_self _,Nat.zero_le _⟩
  ·rw[if_neg q] at h
   obtain ⟨c1,h1,h⟩:=Ag.mp h
   obtain ⟨⟨x,c2⟩,h2,h⟩:=Ag.mp h
   obtain ⟨c3,h3,h⟩:=Ag.mp h
   obtain ⟨⟨y,c4⟩,h4,h⟩:=Ag.mp h
   obtain ⟨⟨r,c5⟩,h5,h⟩:=Ag.mp h
   have e:=AZ.mp h
   injection e with e1 e2
   subst e2
   subst e1
   have a1:=AY h1 k
   have a2:=AV h2 a1.1
   have a3:=Bj h3 a2.1
   have a4:=AV h4 a3.1
   have a5:=QJ h5 a4.1
   refine ⟨a5.1,?_,?_⟩
   ·have:=a1.2;have:=a2.2;have:=a3.2;have:=a4.2;have:=a5.2.1
    omega
   ·show r.length+1<=f+1
    have:=a5.2.2
    omega
theorem DQ {c d:Cur}{x:Train} (h:trainIn c = .ok (x,d)) (k:In b c):In b d/\c.at_<=x.at_/\x.at_<x.startAt/\x.startAt<d.at_/\x.pairs≠[]/\x.pairs.length<=6:=by
 unfold trainIn at h
 obtain ⟨c1,h1,h⟩:=Ag.mp h
 obtain ⟨⟨n,c2⟩,h2,h⟩:=Ag.mp h
 obtain ⟨c3,h3,h⟩:=Ag.mp h
 obtain ⟨⟨z,c4⟩,h4,h⟩:=Ag.mp h
 obtain ⟨c5,h5,h⟩:=Ag.mp h
 obtain ⟨⟨s,c6⟩,h6,h⟩:=Ag.mp h
 obtain ⟨c7,h7,h⟩:=Ag.mp h
 obtain ⟨⟨p,c8⟩,h8,h⟩:=Ag.mp h
 obtain ⟨c9,h9,h⟩:=Ag.mp h
 obtain ⟨⟨q,c10⟩,h10,h⟩:=Ag.mp h
 obtain ⟨⟨r,c11⟩,h11,h⟩:=Ag.mp h
 have e:=AZ.mp h
 injection e with e1 e2
 subst e2
 subst e1
 have a1:=Bj h1 k
 have a2:=Cf h2 a1.1
 have a3:=AY h3 a2.1
 have a4:=QR h4 a3.1
 have a5:=AY h5 a4.1
 have a6:=AV h6 a5.1
 have a7:=AY h7 a6.1
 have a8:=AV h8 a7.1
 have a9:=Bj h9 a8.1
 have a10:=AV h10 a9.1
 have a11:=QJ h11 a10.1
 have:=a1.2;have:=a2.2;have:=a3.2;have:=a4.2;have:=a5.2;have:=a6.2;have:=a7.2;have:=a8.2;have:=a9.2;have:=a10.2;have:=a11.2
 refine ⟨a11.1,?_,?_,?_,?_,?_⟩
 ·show c.at_<=c1.at_;omega
 ·show c1.at_<c5.at_;omega
 ·show c5.at_<c11.at_;omega
 ·show (p,q)::r≠[];exact fun z=>by cases z
 ·show r.length+1<=6
  have e:(PAIRS-1:Nat)=5:=rfl
  omega
theorem NY:∀{f:Nat}{c:Cur}{l:List Train},trainsIn f c = .ok l->In b c ->
  (∀x∈l,c.at_<=x.at_/\x.at_<x.startAt/\x.pairs≠[]/\x.pairs.length<=6)/\List.Pairwise (fun (x y:Train)=>x.startAt+1<=y.at_) l
 |0,c,l,h,k=>by
  unfold trainsIn at h
  injection h with h
  subst h
  exact ⟨fun _ h=>(by cases h),.nil⟩
 |f+1,c,l,h,k=>by
  unfold trainsIn at h
  by_cases q:c.rest=[]
  ·rw[if_pos q] at h
   injection h with h
   subst h
   exact ⟨fun _ h=>(by cases h),.nil⟩
  ·rw[if_neg q] at h
   obtain ⟨⟨x,c1⟩,h1,h⟩:=Ag.mp h
   obtain ⟨r,h2,h⟩:=Ag.mp h
   have e:=AZ.mp h
   subst e
   have a:=DQ h1 k
   have i:=NY h2 a.1
   refine ⟨fun y hy=>?_,List.pairwise_cons.mpr ⟨fun y hy=>?_,i.2⟩⟩
   ·rcases List.mem_cons.mp hy with rfl|hy
    ·exact ⟨a.2.1,a.2.2.1,a.2.2.2.2.1,a.2.2.2.2.2⟩
    ·have:=i.1 y hy
     exact ⟨by have:=a.2;omega,this.2.1,this.2.2⟩
   ·have:=i.1 y hy
    have:=a.2.2.2.1
    omega
end
noncomputable def BL (before:List Train) (x:Train):Option (Nat×Nat):=
 if before.any (fun (y:Train)=>y.name==x.name)=true then some (2,x.at_)
 else if TRAINS<=before.length then some (3,x.at_)
 else if x.last<=x.start then some (4,x.startAt) else none
theorem Ss {before:List Train}{x:Train} (h:x.at_<x.startAt):(trainWrongs before x).foldl pick none=BL before x:=by
 have s23:sooner (2,x.at_) (3,x.at_)=true:=Bq.mpr (.inr ⟨rfl,(by show 2<=3;decide)⟩)
 have s24:sooner (2,x.at_) (4,x.startAt)=true:=Bq.mpr (.inl h)
 have s34:sooner (3,x.at_) (4,x.startAt)=true:=Bq.mpr (.inl h)
 unfold trainWrongs BL
 by_cases a:before.any (fun (y:Train)=>y.name==x.name)=true<;>by_cases b:TRAINS<=before.length<;>by_cases c:x.last<=x.start <;>
  simp only [a,b,c,if_true,if_false,List.nil_append,List.append_nil,List.cons_append,List.foldl_cons,List.foldl_nil,pick,s23,s24,s34,Bool.false_eq_true]
noncomputable def AI:List Train->List Train->Option (Nat×Nat)
 |_,[]=>none
 |before,x::r=>match BL before x with
  |some f=>some f
  |none=>AI (before++[x]) r
theorem ek {l:List Train} (h1:∀x∈l,x.at_<x.startAt) (h2:List.Pairwise (fun (x y:Train)=>x.startAt+1<=y.at_) l) (m:Machine) (hm:m.trains=l) :
  (cogWrongs m).foldl pick none=AI [] l:=by
 have e:cogWrongs m=allOf trainWrongs [] l:=by
  unfold cogWrongs
  rw[hm,<-range_all trainWrongs l]
  congr 1
  funext i
  cases l[i]?<;>rfl
 have seq:∀(r before:List Train),(∀x∈r,x.at_<x.startAt)->Fz trainWrongs before r=AI before r:=by
  intro r
  induction r with
  |nil=>intro _ _;rfl
  |cons x r ih=>
   intro before h
   unfold Fz AI
   rw[Ss (h x (.head _))]
   cases BL before x with
   |some f=>rfl
   |none=>exact ih _ fun y hy=>h y (.tail _ hy)
 rw[e,<-seq l [] h1]
 have hw:∀(b:List Train) (x:Train) (f:Nat×Nat),f∈trainWrongs b x->x.at_<=f.2\/f.2=x.startAt:=by
  intro b x f hf
  unfold trainWrongs at hf
  rcases List.mem_append.mp hf with hf|hf
  ·split at hf
   ·rw[List.mem_singleton] at hf;subst hf;exact .inl (Nat.le_refl _)
   ·cases hf
  ·rcases List.mem_append.mp hf with hf|hf
   ·split at hf
    ·rw[List.mem_singleton] at hf;subst hf;exact .inl (Nat.le_refl _)
    ·cases hf
   ·split at hf
    ·rw[List.mem_singleton] at hf;subst hf;exact .inr rfl
    ·cases hf
 refine Zm (lo:=fun x=>min x.at_ x.startAt) (hi:=fun x=>max x.at_ x.startAt+1) (fun b x f hf=>?_) l [] ?_
 ·unfold trainWrongs at hf
  have:f.2=x.at_\/f.2=x.startAt:=by
   rcases List.mem_append.mp hf with hf|hf
   ·split at hf
    ·rw[List.mem_singleton] at hf;subst hf;exact .inl rfl
    ·cases hf
   ·rcases List.mem_append.mp hf with hf|hf
    ·split at hf
     ·rw[List.mem_singleton] at hf;subst hf;exact .inl rfl
     ·cases hf
    ·split at hf
     ·rw[List.mem_singleton] at hf;subst hf;exact .inr rfl
     ·cases hf
  constructor
  ·show min x.at_ x.startAt<=f.2;omega
  ·show f.2<max x.at_ x.startAt+1;omega
 ·have:∀(r:List Train),(∀x∈r,x.at_<x.startAt)->List.Pairwise (fun (x y:Train)=>x.startAt+1<=y.at_) r->List.Pairwise (fun x y=>max x.at_ x.startAt+1<=min y.at_ y.startAt) r:=by
   intro r
   induction r with
   |nil=>intro _ _;exact .nil
   |cons x r ih=>
    intro h p
    obtain ⟨p1,p2⟩:=List.pairwise_cons.mp p
    refine List.pairwise_cons.mpr ⟨fun y hy=>?_,ih (fun z hz=>h z (.tail _ hz)) p2⟩
    have a:=p1 y hy
    have b1:=h x (.head _)
    have b2:=h y (.tail _ hy)
    omega
  exact this l h1 h2
theorem Ft (b:Bytes):judgeCog b=match cogGrammar b with
  |.error p=>.error (1,p)
  |.ok m=>match AI [] m.trains with
   |some f=>.error f
   |none=>.ok m:=by
 unfold judgeCog
 cases e:cogGrammar b with
 |error p=>rfl
 |ok m=>
  have hm:(∀x∈m.trains,x.at_<x.startAt)/\List.Pairwise (fun (x y:Train)=>x.startAt+1<=y.at_) m.trains:=by
   unfold cogGrammar at e
   obtain ⟨c1,h1,e⟩:=Ag.mp e
   obtain ⟨⟨t,c2⟩,h2,e⟩:=Ag.mp e
   obtain ⟨c3,h3,e⟩:=Ag.mp e
   obtain ⟨⟨q,c4⟩,h4,e⟩:=Ag.mp e
   obtain ⟨c5,h5,e⟩:=Ag.mp e
   obtain ⟨r,h6,e⟩:=Ag.mp e
   have e:=AZ.mp e
   subst e
   have a1:=Bj h1 (In.start b)
   have a2:=AV h2 a1.1
   have a3:=AY h3 a2.1
   have a4:=AV h4 a3.1
   have a5:=Bj h5 a4.1
   have a6:=NY h6 a5.1
   exact ⟨fun x hx=>(a6.1 x hx).2.1,a6.2⟩
  have q:=ek hm.1 hm.2 m rfl
  dsimp only
  have pe:(fun (k:Option (Nat×Nat)) (x:Nat×Nat)=>match k with
   |some y=>if sooner y x=true then some y else some x
   |none=>some x)=pick:=by
   funext k x
   cases k<;>rfl
  refine (congrArg (fun g=>match List.foldl g none (cogWrongs m) with|some f=>Except.error f|none=>Except.ok m) pe).trans ?_
  rw[q]
end Td
namespace Td
open Tide
structure Gk (lo hi:Nat) (l:List Term):Prop where
 bound:∀x∈l,lo<=x.at_/\x.at_<hi
 up:List.Pairwise (fun (x y:Term)=>x.at_<y.at_) l
 le:lo<=hi
theorem Gk.nil {lo hi:Nat} (h:lo<=hi):Gk lo hi []:=⟨fun _ h=>(by cases h),.nil,h⟩
theorem Gk.append {a b c:Nat}{l r:List Term} (h:Gk a b l) (k:Gk b c r):Gk a c (l++r):=by
 have:=h.le
 have:=k.le
 refine ⟨fun x hx=>?_,List.pairwise_append.mpr ⟨h.up,k.up,fun x hx y hy=>?_⟩,by omega⟩
 ·rcases List.mem_append.mp hx with hx|hx
  ·have:=h.bound x hx;omega
  ·have:=k.bound x hx;omega
 ·have:=h.bound x hx
  have:=k.bound y hy
  omega
theorem Gk.mono {a a' b b':Nat}{l:List Term} (h:Gk a b l) (h1:a'<=a) (h2:b<=b'):Gk a' b' l:=
 ⟨fun x hx=>(by have:=h.bound x hx;omega),h.up,by have:=h.le;omega⟩
section
variable {b:Bytes}
theorem aU {mi:Bool}{c d:Cur}{x:Term} (h:termIn mi c = .ok (x,d)) (k:In b c):In b d/\c.at_<=x.at_/\x.at_<d.at_/\1<=x.count/\x.count<=15/\x.minus=mi:=by
 unfold termIn at h
 obtain ⟨⟨n,c1⟩,h1,h⟩:=Ag.mp h
 obtain ⟨⟨nm,c2⟩,h2,h⟩:=Ag.mp h
 have e:=AZ.mp h
 injection e with e1 e2
 subst e2
 subst e1
 have a1:In b c1/\c.at_<=c1.at_/\1<=n/\n<=15:=by
  by_cases q:nextIs (fun (x:UInt8)=>decide (49<=x.toNat)&&decide (x.toNat<=57)) c=true
  ·rw[if_pos q] at h1
   obtain ⟨x,ex,hx⟩:=Bz q
   rw[Bool.and_eq_true,decide_eq_true_iff,decide_eq_true_iff] at hx
   have dx:isDigit x=true:=by unfold isDigit;rw[Bool.and_eq_true,decide_eq_true_iff,decide_eq_true_iff];omega
   have s1:some_ isDigit 1 c=([x],c.on):=by
    unfold some_
    rw[ex]
    dsimp only
    rw[if_pos dx]
    rfl
   have k1:=k.on ex
   rw[s1] at h1
   dsimp only at h1
   by_cases r:nextIs (fun (x:UInt8)=>x==49) c=true/\nextIs (fun (x:UInt8)=>decide (48<=x.toNat)&&decide (x.toNat<=53)) c.on=true
   ·rw[if_pos r] at h1
    obtain ⟨y,ey,hy⟩:=Bz r.2
    obtain ⟨x',ex',hx'⟩:=Bz r.1
    rw[ex] at ex'
    cases ex'
    have x49:x=49:=by simpa using hx'
    rw[Bool.and_eq_true,decide_eq_true_iff,decide_eq_true_iff] at hy
    have dy:isDigit y=true:=by unfold isDigit;rw[Bool.and_eq_true,decide_eq_true_iff,decide_eq_true_iff];omega
    have s2:some_ isDigit 1 c.on=([y],c.on.on):=by
     unfold some_
     rw[ey]
     dsimp only
     rw[if_pos dy]
     rfl
    rw[s2] at h1
    dsimp only at h1
    obtain ⟨c3,h3,h1⟩:=Ag.mp h1
    have e:=AZ.mp h1
    injection e with e1 e2
    subst e2
    subst e1
    have a3:=AY h3 (k1.on ey)
    refine ⟨a3.1,?_,?_⟩
    ·rw[a3.2];show c.at_<=c.at_+1+1+1;omega
    ·subst x49
     show 1<=10*(10*0+(49-48))+(y.toNat-48)/\10*(10*0+(49-48))+(y.toNat-48)<=15
     omega
   ·rw[if_neg r] at h1
    dsimp only at h1
    obtain ⟨c3,h3,h1⟩:=Ag.mp h1
    have e:=AZ.mp h1
    injection e with e1 e2
    subst e2
    subst e1
    have a3:=AY h3 k1
    refine ⟨a3.1,?_,?_⟩
    ·rw[a3.2];show c.at_<=c.at_+1+1;omega
    ·show 1<=10*0+(x.toNat-48)/\10*0+(x.toNat-48)<=15
     omega
  ·rw[if_neg q] at h1
   have e:=Except.ok.inj h1
   injection e with e1 e2
   subst e1 e2
   exact ⟨k,Nat.le_refl _,Nat.le_refl _,by decide⟩
 have a2:=Cf h2 a1.1
 refine ⟨a2.1,a1.2.1,?_,a1.2.2.1,a1.2.2.2,rfl⟩
 show c1.at_<c2.at_
 have:=a2.2
 omega
theorem EH {may:Bytes}{c d:Cur}{x:Option UInt8} (h:behind may c = .ok (x,d)) (k:In b c):In b d/\c.at_<d.at_/\(∀y,x=some y->y∈may):=by
 unfold behind at h
 by_cases q:c.next=some LF
 ·rw[if_pos q] at h
  have e:=Except.ok.inj h
  injection e with e1 e2
  subst e1 e2
  exact ⟨k.on q,Nat.lt_succ_self _,fun _ h=>(by cases h)⟩
 ·rw[if_neg q] at h
  by_cases r:c.next=some 32/\may≠[]
  ·rw[if_pos r] at h
   have k1:=k.on r.1
   cases e:c.on.next with
   |none=>rw[e] at h;cases h
   |some y=>
    rw[e] at h
    dsimp only at h
    by_cases t:may.contains y=true
    ·rw[if_pos t] at h
     have e':=Except.ok.inj h
     injection e' with e1 e2
     subst e1 e2
     refine ⟨k1.on e,?_,fun z hz=>?_⟩
     ·show c.at_<c.at_+1+1;omega
     ·cases hz
      exact List.contains_iff_mem.mp t
    ·rw[if_neg t] at h;cases h
  ·rw[if_neg r] at h;cases h
theorem Xd {may:Bytes}:∀{f:Nat}{mi:Bool}{l l':List Term}{c d:Cur}{y:Option UInt8},terms may f mi l c = .ok (l',y,d)->In b c ->
  ∃r,l'=l++r/\r≠[]/\r.length<=f/\In b d/\Gk c.at_ d.at_ r/\(∀x∈r,1<=x.count/\x.count<=15)/\c.at_<d.at_/\(∀z,y=some z->z∈may/\z≠43/\z≠45)
 |0,_,_,_,_,_,_,h,_=>by unfold terms at h;cases h
 |f+1,mi,l,l',c,d,y,h,k=>by
  unfold terms at h
  obtain ⟨⟨x,c1⟩,h1,h⟩:=Ag.mp h
  obtain ⟨⟨q,c2⟩,h2,h⟩:=Ag.mp h
  have a1:=aU h1 k
  have a2:=EH h2 a1.1
  have one:Gk c.at_ c2.at_ [x]:=⟨fun z hz=>(by rw[List.mem_singleton] at hz;subst hz;omega),List.pairwise_singleton _ _,by omega⟩
  by_cases r:q=some 43\/q=some 45
  ·dsimp only at h
   rw[if_pos r] at h
   obtain ⟨c3,h3,h⟩:=Ag.mp h
   have a3:=AY h3 a2.1
   obtain ⟨rr,e1,e2,e3,e4,e5,e6,e7,e8⟩:=Xd h a3.1
   refine ⟨x::rr,?_,fun z=>(by cases z),?_,e4,?_,?_,?_,e8⟩
   ·rw[e1];simp
   ·show rr.length+1<=f+1;omega
   ·exact (one.mono (Nat.le_refl _) (by omega)).append e5
   ·intro z hz
    rcases List.mem_cons.mp hz with rfl|hz
    ·exact ⟨a1.2.2.2.1,a1.2.2.2.2.1⟩
    ·exact e6 z hz
   ·omega
  ·dsimp only at h
   rw[if_neg r] at h
   have e:=AZ.mp h
   injection e with e1 e2
   injection e2 with e2 e3
   subst e1 e2 e3
   refine ⟨[x],rfl,fun z=>(by cases z),by show 1<=f+1;omega,a2.1,one,?_,by omega,fun z hz=>?_⟩
   ·intro z hz
    rw[List.mem_singleton] at hz
    subst hz
    exact ⟨a1.2.2.2.1,a1.2.2.2.2.1⟩
   ·subst hz
    have n1:z≠43:=fun e=>r (.inl (by rw[e]))
    have n2:z≠45:=fun e=>r (.inr (by rw[e]))
    refine ⟨?_,n1,n2⟩
    have:=a2.2.2 z rfl
    unfold mays at this
    rcases List.mem_append.mp this with t|t
    ·split at t
     ·simp at t
      rcases t with t|t
      ·exact absurd t n1
      ·exact absurd t n2
     ·cases t
    ·exact t
theorem DC {may:Bytes}{l:List Term}{c d:Cur}{y:Option UInt8} (h:sumIn may c = .ok (l,y,d)) (k:In b c) :
  l≠[]/\l.length<=8/\In b d/\Gk c.at_ d.at_ l/\(∀x∈l,1<=x.count/\x.count<=15)/\c.at_<d.at_/\(∀z,y=some z->z∈may/\z≠43/\z≠45):=by
 unfold sumIn at h
 obtain ⟨c1,h1,h⟩:=Ag.mp h
 have a1:In b c1/\c.at_<=c1.at_:=by
  by_cases q:nextIs (fun (x:UInt8)=>x==45) c=true
  ·rw[if_pos q] at h1
   have a:=AY h1 (k.ia q)
   refine ⟨a.1,?_⟩
   rw[a.2];show c.at_<=c.at_+1+1;omega
  ·rw[if_neg q] at h1
   cases h1
   exact ⟨k,Nat.le_refl _⟩
 obtain ⟨r,e1,e2,e3,e4,e5,e6,e7,e8⟩:=Xd h a1.1
 rw[List.nil_append] at e1
 subst e1
 exact ⟨e2,e3,e4,e5.mono a1.2 (Nat.le_refl _),e6,by omega,e8⟩
theorem DM {letter:UInt8}{word later:Bytes}:∀{f:Nat}{y y':Option UInt8}{l l':List Part}{c d:Cur},partsIn letter word later f y l c = .ok (l',y',d)->In b c ->
  ∃r,l'=l++r/\r.length<=f/\In b d/\Gk c.at_ d.at_ (r.flatMap Part.sum)/\(∀p∈r,p.sum≠[]/\p.sum.length<=8/\∀x∈p.sum,1<=x.count/\x.count<=15)/\c.at_<=d.at_
 |0,y,y',l,l',c,d,h,k=>by
  unfold partsIn at h
  have e:=Except.ok.inj h
  injection e with e1 e2
  injection e2 with e2 e3
  subst e1 e2 e3
  exact ⟨[],by simp,Nat.le_refl _,k,Gk.nil (Nat.le_refl _),fun _ h=>(by cases h),Nat.le_refl _⟩
 |f+1,y,y',l,l',c,d,h,k=>by
  unfold partsIn at h
  by_cases q:y=some letter
  ·rw[if_pos q] at h
   obtain ⟨c1,h1,h⟩:=Ag.mp h
   obtain ⟨⟨v,c2⟩,h2,h⟩:=Ag.mp h
   obtain ⟨c3,h3,h⟩:=Ag.mp h
   obtain ⟨⟨s,z,c4⟩,h4,h⟩:=Ag.mp h
   have a1:=Bj h1 k
   have a2:=EI h2 a1.1
   have a3:=AY h3 a2.1
   have a4:=DC h4 a3.1
   obtain ⟨r,e1,e2,e3,e4,e5,e6⟩:=DM h a4.2.2.1
   refine ⟨⟨v,s⟩::r,?_,?_,e3,?_,?_,?_⟩
   ·rw[e1];simp
   ·show r.length+1<=f+1;omega
   ·rw[List.flatMap_cons]
    exact (a4.2.2.2.1.mono (by have:=a1.2;have:=a2.2;have:=a3.2;omega) (Nat.le_refl _)).append e4
   ·intro p hp
    rcases List.mem_cons.mp hp with rfl|hp
    ·exact ⟨a4.1,a4.2.1,a4.2.2.2.2.1⟩
    ·exact e5 p hp
   ·have:=a1.2;have:=a2.2;have:=a3.2;have:=a4.2.2.2.2.2.1;omega
  ·rw[if_neg q] at h
   have e:=Except.ok.inj h
   injection e with e1 e2
   injection e2 with e2 e3
   subst e1 e2 e3
   exact ⟨[],by simp,Nat.zero_le _,k,Gk.nil (Nat.le_refl _),fun _ h=>(by cases h),Nat.le_refl _⟩
theorem ML {c d:Cur}{q:Nat} (h:turnIn c = .ok (q,d)) (k:In b c):In b d/\c.at_<=d.at_:=by
 unfold turnIn at h
 split at h
 ·obtain ⟨e,h1,h2⟩:=Ek.mp h
  injection h2 with _ h2
  subst h2
  have a:=Bj h1 k
  exact ⟨a.1,by rw[a.2];omega⟩
 ·split at h
  ·obtain ⟨e,h1,h2⟩:=Ek.mp h
   injection h2 with _ h2
   subst h2
   have a:=Bj h1 k
   exact ⟨a.1,by rw[a.2];omega⟩
  ·split at h
   ·obtain ⟨e,h1,h2⟩:=Ek.mp h
    injection h2 with _ h2
    subst h2
    have a:=Bj h1 k
    exact ⟨a.1,by rw[a.2];omega⟩
   ·cases h
structure JO (lo hi:Nat) (l:Line):Prop where
 place:lo<=l.place/\l.place<hi
 rise:Gk (l.place+1) hi l.uses
 counts:∀x∈l.uses,1<=x.count/\x.count<=15
theorem Ms {c d:Cur}{l:Line} (h:lineIn c = .ok (l,d)) (k:In b c):In b d/\JO c.at_ d.at_ l:=by
 unfold lineIn at h
 by_cases q:c.next=some 97
 ·rw[if_pos q] at h
  obtain ⟨c1,h1,h⟩:=Ag.mp h
  obtain ⟨⟨n,c2⟩,h2,h⟩:=Ag.mp h
  obtain ⟨c3,h3,h⟩:=Ag.mp h
  obtain ⟨⟨x,c4⟩,h4,h⟩:=Ag.mp h
  obtain ⟨c5,h5,h⟩:=Ag.mp h
  obtain ⟨⟨y,c6⟩,h6,h⟩:=Ag.mp h
  obtain ⟨c7,h7,h⟩:=Ag.mp h
  have e:=AZ.mp h
  injection e with e1 e2
  subst e2
  subst e1
  have a1:=Bj h1 k
  have a2:=Cf h2 a1.1
  have a3:=AY h3 a2.1
  have a4:=EI h4 a3.1
  have a5:=AY h5 a4.1
  have a6:=EI h6 a5.1
  have a7:=Bj h7 a6.1
  have:=a1.2;have:=a2.2;have:=a3.2;have:=a4.2;have:=a5.2;have:=a6.2;have:=a7.2
  refine ⟨a7.1,⟨?_,?_⟩,Gk.nil ?_,fun _ h=>(by cases h)⟩
  ·show c.at_<=c1.at_;omega
  ·show c1.at_<c7.at_;omega
  ·show c1.at_+1<=c7.at_;omega
 ·rw[if_neg q] at h
  by_cases q:c.next=some 119
  ·rw[if_pos q] at h
   obtain ⟨c1,h1,h⟩:=Ag.mp h
   obtain ⟨⟨n,c2⟩,h2,h⟩:=Ag.mp h
   obtain ⟨c3,h3,h⟩:=Ag.mp h
   obtain ⟨⟨s,y,c4⟩,h4,h⟩:=Ag.mp h
   obtain ⟨⟨t,z,c5⟩,h5,h⟩:=Ag.mp h
   obtain ⟨⟨fs,z2,c6⟩,h6,h⟩:=Ag.mp h
   obtain ⟨⟨ss,z3,c7⟩,h7,h⟩:=Ag.mp h
   have e:=AZ.mp h
   injection e with e1 e2
   subst e2
   subst e1
   have a1:=Bj h1 k
   have a2:=Cf h2 a1.1
   have a3:=AY h3 a2.1
   have a4:=DC h4 a3.1
   have a5:In b c5/\c4.at_<=c5.at_:=by
    dsimp only at h5
    by_cases r:y=some 116
    ·rw[if_pos r] at h5
     obtain ⟨d1,g1,h5⟩:=Ag.mp h5
     obtain ⟨⟨t',d2⟩,g2,h5⟩:=Ag.mp h5
     obtain ⟨⟨z',d3⟩,g3,h5⟩:=Ag.mp h5
     have e:=AZ.mp h5
     injection e with e1 e2
     injection e2 with e2 e3
     subst e3
     have b1:=Bj g1 a4.2.2.1
     have b2:=ML g2 b1.1
     have b3:=EH g3 b2.1
     exact ⟨b3.1,by have:=b1.2;have q2:d1.at_<=d2.at_:=b2.2;have q3:d2.at_<d3.at_:=b3.2.1;show c4.at_<=d3.at_;omega⟩
    ·rw[if_neg r] at h5
     have e:=Except.ok.inj h5
     injection e with e1 e2
     injection e2 with e2 e3
     subst e3
     exact ⟨a4.2.2.1,Nat.le_refl _⟩
   obtain ⟨fs',f1,f2,f3,f4,f5,f6⟩:=DM h6 a5.1
   obtain ⟨ss',g1,g2,g3,g4,g5,g6⟩:=DM h7 f3
   rw[List.nil_append] at f1 g1
   subst f1 g1
   have:=a1.2;have:=a2.2;have:=a3.2;have:=a4.2.2.2.2.2.1;have:=a5.2
   refine ⟨g3,⟨?_,?_⟩,?_,?_⟩
   ·show c.at_<=c1.at_;omega
   ·show c1.at_<c7.at_;omega
   ·show Gk (c1.at_+1) c7.at_ (s++(fs++ss).flatMap Part.sum)
    rw[List.flatMap_append]
    exact (a4.2.2.2.1.mono (by omega) a5.2).append (f4.append g4)
   ·intro x hx
    rcases List.mem_append.mp (show x∈s++(fs++ss).flatMap Part.sum from hx) with hx|hx
    ·exact a4.2.2.2.2.1 x hx
    ·obtain ⟨p,hp,hx⟩:=List.mem_flatMap.mp hx
     rcases List.mem_append.mp hp with hp|hp
     ·exact (f5 p hp).2.2 x hx
     ·exact (g5 p hp).2.2 x hx
  ·rw[if_neg q] at h
   by_cases q:c.next=some 115
   ·rw[if_pos q] at h
    obtain ⟨c1,h1,h⟩:=Ag.mp h
    obtain ⟨⟨n,c2⟩,h2,h⟩:=Ag.mp h
    obtain ⟨c3,h3,h⟩:=Ag.mp h
    obtain ⟨⟨s,y,c4⟩,h4,h⟩:=Ag.mp h
    have e:=AZ.mp h
    injection e with e1 e2
    subst e2
    subst e1
    have a1:=Bj h1 k
    have a2:=Cf h2 a1.1
    have a3:=AY h3 a2.1
    have a4:=DC h4 a3.1
    have:=a1.2;have:=a2.2;have:=a3.2;have:=a4.2.2.2.2.2.1
    refine ⟨a4.2.2.1,⟨?_,?_⟩,?_,?_⟩
    ·show c.at_<=c1.at_;omega
    ·show c1.at_<c4.at_;omega
    ·show Gk (c1.at_+1) c4.at_ s
     exact a4.2.2.2.1.mono (by omega) (Nat.le_refl _)
    ·exact a4.2.2.2.2.1
   ·rw[if_neg q] at h;cases h
noncomputable def Zw (l:Line):Nat:=(l.uses.map fun (x:Term)=>x.at_).foldr max l.place+1
theorem KO {p hi:Nat}:∀{l:List Nat},p<hi->(∀x∈l,x<hi)->l.foldr max p<hi
 |[],h,_=>h
 |x::l,h,k=>by
  have a:=k x (.head _)
  have b:=KO (l:=l) h fun y hy=>k y (.tail _ hy)
  show max x (l.foldr max p)<hi
  omega
theorem KY {p:Nat}:∀{l:List Nat},p<=l.foldr max p/\∀x∈l,x<=l.foldr max p
 |[]=>⟨Nat.le_refl _,fun _ h=>(by cases h)⟩
 |y::l=>by
  obtain ⟨a,b⟩:=KY (p:=p) (l:=l)
  refine ⟨?_,fun x hx=>?_⟩
  ·show p<=max y (l.foldr max p);omega
  ·show x<=max y (l.foldr max p)
   rcases List.mem_cons.mp hx with rfl|hx
   ·omega
   ·have:=b x hx;omega
theorem JO.top {lo hi:Nat}{l:Line} (h:JO lo hi l):Zw l<=hi:=by
 refine KO h.place.2 fun x hx=>?_
 obtain ⟨t,ht,rfl⟩:=List.mem_map.mp hx
 exact (h.rise.bound t ht).2
theorem PU:∀{f:Nat}{c:Cur}{l:List Line},linesIn f c = .ok l->In b c->(∀x∈l,c.at_<=x.place/\∃hi,JO 0 hi x)/\List.Pairwise (fun (x y:Line)=>Zw x<=y.place) l
 |0,c,l,h,k=>by
  unfold linesIn at h
  cases h
  exact ⟨fun _ h=>(by cases h),.nil⟩
 |f+1,c,l,h,k=>by
  unfold linesIn at h
  by_cases q:c.rest=[]
  ·rw[if_pos q] at h
   cases h
   exact ⟨fun _ h=>(by cases h),.nil⟩
  ·rw[if_neg q] at h
   obtain ⟨⟨x,c1⟩,h1,h⟩:=Ag.mp h
   obtain ⟨r,h2,h⟩:=Ag.mp h
   have e:=AZ.mp h
   subst e
   have a:=Ms h1 k
   obtain ⟨i1,i2⟩:=PU h2 a.1
   refine ⟨fun y hy=>?_,List.pairwise_cons.mpr ⟨fun y hy=>?_,i2⟩⟩
   ·rcases List.mem_cons.mp hy with rfl|hy
    ·exact ⟨a.2.place.1,_,⟨Nat.zero_le _,a.2.place.2⟩,a.2.rise,a.2.counts⟩
    ·have z:=i1 y hy
     have:=a.2.place
     exact ⟨by omega,z.2⟩
   ·have z:=i1 y hy
    have:=a.2.top
    omega
end
noncomputable def fits (before:List Line) (l:Line) (x:Term):Bool:=before.any fun (y:Line)=>(if l.isWave=true then y.isAngle else y.isWave)&&y.name==x.name
noncomputable def tooMany (before:List Line) (l:Line):Bool:=if l.isAngle=true then decide (ANGLES<=(before.filter Line.isAngle).length) else decide (WAVES<=(before.filter fun (x:Line)=>!x.isAngle).length)
noncomputable def tooMuch:Line->Bool
 |.wave _ _ _ _ fs _=>decide (10^12<=(fs.map fun (x:Part)=>x.number.natAbs).foldr (fun (a b:Nat)=>a+b) 0)
 |.sum _ _ s=>decide (COUNTS<(s.map fun (x:Term)=>x.count).foldr (fun (a b:Nat)=>a+b) 0)
 |.angle _ _ _ _=>false
noncomputable def BS (before:List Line) (l:Line):Option (Nat×Nat):=
 if before.any (fun (x:Line)=>x.name==l.name)=true then some (2,l.place)
 else if tooMany before l=true then some (4,l.place)
 else if tooMuch l=true then some (5,l.place)
 else (l.uses.find? fun (x:Term)=>!fits before l x).map fun (x:Term)=>(3,x.at_)
theorem Tz (before:List Line) (l:Line):wrongs before l=(if before.any (fun (x:Line)=>x.name==l.name)=true then [(2,l.place)] else []) ++
  (((l.uses.filter fun (x:Term)=>!fits before l x).map fun (x:Term)=>(3,x.at_))++((if tooMany before l=true then [(4,l.place)] else [])++(if tooMuch l=true then [(5,l.place)] else []))):=by
 unfold wrongs
 rw[List.append_assoc,List.append_assoc]
 congr 1
 congr 1
 congr 1
 cases l with
 |angle=>rfl
 |wave n p s t fs ss=>
  show (if 10^12<=_ then [(5,p)] else [])=if decide _=true then [(5,p)] else []
  simp only [decide_eq_true_eq]
 |sum n p s=>
  show (if COUNTS<_ then [(5,p)] else [])=if decide _=true then [(5,p)] else []
  simp only [decide_eq_true_eq]
theorem PB {α:Type}{p:α->Bool}{f:α->Nat}:∀{l:List α}{x:α},List.Pairwise (fun x y=>f x<f y) l->l.find? p=some x->∀y∈l.filter p,f x<=f y
 |[],x,_,h=>by cases h
 |a::l,x,hp,h=>by
  obtain ⟨p1,p2⟩:=List.pairwise_cons.mp hp
  intro y hy
  rw[List.find?_cons] at h
  cases e:p a with
  |true=>
   rw[e] at h
   cases h
   rcases List.mem_cons.mp (List.mem_filter.mp hy).1 with rfl|hy
   ·exact Nat.le_refl _
   ·exact Nat.le_of_lt (p1 y hy)
  |false=>
   rw[e] at h
   rw[List.filter_cons,e] at hy
   exact PB p2 h y hy
theorem Ur {before:List Line}{l:Line}{hi:Nat} (h:JO 0 hi l):(wrongs before l).foldl pick none=BS before l:=by
 rw[Tz]
 have ge:∀x∈(l.uses.filter fun (x:Term)=>!fits before l x),l.place<x.at_:=fun x hx=>(h.rise.bound x (List.mem_filter.mp hx).1).1
 unfold BS
 by_cases a:before.any (fun (x:Line)=>x.name==l.name)=true
 ·rw[if_pos a,if_pos a]
  refine Ih (.head _) (fun x hx=>?_) fun _ q=>(by cases q)
  rcases List.mem_append.mp hx with hx|hx
  ·rw[List.mem_singleton] at hx;subst hx;exact IH _
  ·rcases List.mem_append.mp hx with hx|hx
   ·obtain ⟨t,ht,rfl⟩:=List.mem_map.mp hx
    exact Bq.mpr (.inl (ge t ht))
   ·rcases List.mem_append.mp hx with hx|hx
    ·split at hx
     ·rw[List.mem_singleton] at hx;subst hx;exact Bq.mpr (.inr ⟨rfl,(by show 2<=4;decide)⟩)
     ·cases hx
    ·split at hx
     ·rw[List.mem_singleton] at hx;subst hx;exact Bq.mpr (.inr ⟨rfl,(by show 2<=5;decide)⟩)
     ·cases hx
 ·rw[if_neg a,if_neg a,List.nil_append]
  by_cases c:tooMany before l=true
  ·rw[if_pos c,if_pos c]
   refine Ih (List.mem_append_right _ (.head _)) (fun x hx=>?_) fun _ q=>(by cases q)
   rcases List.mem_append.mp hx with hx|hx
   ·obtain ⟨t,ht,rfl⟩:=List.mem_map.mp hx
    exact Bq.mpr (.inl (ge t ht))
   ·rcases List.mem_append.mp hx with hx|hx
    ·rw[List.mem_singleton] at hx;subst hx;exact IH _
    ·split at hx
     ·rw[List.mem_singleton] at hx;subst hx;exact Bq.mpr (.inr ⟨rfl,(by show 4<=5;decide)⟩)
     ·cases hx
  ·rw[if_neg c,if_neg c,List.nil_append]
   by_cases d:tooMuch l=true
   ·rw[if_pos d,if_pos d]
    refine Ih (List.mem_append_right _ (.head _)) (fun x hx=>?_) fun _ q=>(by cases q)
    rcases List.mem_append.mp hx with hx|hx
    ·obtain ⟨t,ht,rfl⟩:=List.mem_map.mp hx
     exact Bq.mpr (.inl (ge t ht))
    ·rw[List.mem_singleton] at hx;subst hx;exact IH _
   ·rw[if_neg d,if_neg d,List.append_nil]
    cases e:l.uses.find? fun (x:Term)=>!fits before l x with
    |none=>
     have:l.uses.filter (fun (x:Term)=>!fits before l x)=[]:=by
      rw[List.filter_eq_nil_iff]
      exact List.find?_eq_none.mp e
     rw[this]
     rfl
    |some x=>
     refine Ih (List.mem_map.mpr ⟨x,List.mem_filter.mpr ⟨List.mem_of_find?_eq_some e,List.find?_some (p:=fun (x:Term)=>!fits before l x) e⟩,rfl⟩) (fun y hy=>?_) fun _ q=>(by cases q)
     obtain ⟨t,ht,rfl⟩:=List.mem_map.mp hy
     have:=PB (f:=fun (x:Term)=>x.at_) h.rise.up e t ht
     exact Bq.mpr (by show x.at_<t.at_\/(x.at_=t.at_/\3<=3);omega)
noncomputable def AO:List Line->List Line->Option (Nat×Nat)
 |_,[]=>none
 |before,x::r=>match BS before x with
  |some f=>some f
  |none=>AO (before++[x]) r
theorem YN {before:List Line}{l:Line}{f:Nat×Nat} (h:f∈wrongs before l):f.2=l.place\/∃t∈l.uses,f.2=t.at_:=by
 rw[Tz] at h
 rcases List.mem_append.mp h with h|h
 ·split at h
  ·rw[List.mem_singleton] at h;subst h;exact .inl rfl
  ·cases h
 ·rcases List.mem_append.mp h with h|h
  ·obtain ⟨t,ht,rfl⟩:=List.mem_map.mp h
   exact .inr ⟨t,(List.mem_filter.mp ht).1,rfl⟩
  ·rcases List.mem_append.mp h with h|h
   ·split at h
    ·rw[List.mem_singleton] at h;subst h;exact .inl rfl
    ·cases h
   ·split at h
    ·rw[List.mem_singleton] at h;subst h;exact .inl rfl
    ·cases h
noncomputable def fY (l:Line):Nat:=(l.uses.map fun (x:Term)=>x.at_).foldr min l.place
theorem KQ {p:Nat}:∀{l:List Nat},l.foldr min p<=p/\∀x∈l,l.foldr min p<=x
 |[]=>⟨Nat.le_refl _,fun _ h=>(by cases h)⟩
 |y::l=>by
  obtain ⟨a,b⟩:=KQ (p:=p) (l:=l)
  refine ⟨?_,fun x hx=>?_⟩
  ·show min y (l.foldr min p)<=p;omega
  ·show min y (l.foldr min p)<=x
   rcases List.mem_cons.mp hx with rfl|hx
   ·omega
   ·have:=b x hx;omega
theorem KP {p:Nat}:∀{l:List Nat},(∀x∈l,p<=x)->l.foldr min p=p
 |[],_=>rfl
 |y::l,h=>by
  show min y (l.foldr min p)=p
  rw[KP fun x hx=>h x (.tail _ hx)]
  have:=h y (.head _)
  omega
theorem fi {l:List Line} (h1:∀x∈l,∃hi,JO 0 hi x) (h2:List.Pairwise (fun (x y:Line)=>Zw x<=y.place) l):(allWrongs l).foldl pick none=AO [] l:=by
 have e:allWrongs l=allOf wrongs [] l:=by
  unfold allWrongs
  rw[<-range_all wrongs l]
  congr 1
  funext i
  cases l[i]?<;>rfl
 have seq:∀(r before:List Line),(∀x∈r,∃hi,JO 0 hi x)->Fz wrongs before r=AO before r:=by
  intro r
  induction r with
  |nil=>intro _ _;rfl
  |cons x r ih=>
   intro before h
   obtain ⟨hi,k⟩:=h x (.head _)
   unfold Fz AO
   rw[Ur k]
   cases BS before x with
   |some f=>rfl
   |none=>exact ih _ fun y hy=>h y (.tail _ hy)
 rw[e,<-seq l [] h1]
 refine Zm (lo:=fY) (hi:=Zw) (fun b x f hf=>?_) l [] ?_
 ·have q1:=KQ (p:=x.place) (l:=x.uses.map fun (x:Term)=>x.at_)
  have q2:=KY (p:=x.place) (l:=x.uses.map fun (x:Term)=>x.at_)
  rcases YN hf with q|⟨t,ht,q⟩
  ·rw[q]
   exact ⟨q1.1,Nat.lt_succ_of_le q2.1⟩
  ·rw[q]
   have m:t.at_∈x.uses.map fun (x:Term)=>x.at_:=List.mem_map.mpr ⟨t,ht,rfl⟩
   exact ⟨q1.2 _ m,Nat.lt_succ_of_le (q2.2 _ m)⟩
 ·refine List.Pairwise.imp_of_mem (fun {x y} hx hy h=>?_) h2
  obtain ⟨hi,k⟩:=h1 y hy
  have:fY y=y.place:=KP fun z hz=>by
   obtain ⟨t,ht,rfl⟩:=List.mem_map.mp hz
   have:=(k.rise.bound t ht).1
   omega
  rw[this]
  exact h
theorem Wd (b:Bytes):Tide.judge b=match grammar b with
  |.error p=>.error (1,p)
  |.ok l=>match AO [] l with
   |some f=>.error f
   |none=>.ok l:=by
 unfold Tide.judge
 cases e:grammar b with
 |error p=>rfl
 |ok m=>
  have a:=PU (b:=b) (by unfold grammar at e;exact e) (In.start b)
  have q:=fi (fun x hx=>(a.1 x hx).2) a.2
  dsimp only
  have pe:(fun (k:Option (Nat×Nat)) (x:Nat×Nat)=>match k with
   |some y=>if sooner y x=true then some y else some x
   |none=>some x)=pick:=by
   funext k x
   cases k<;>rfl
  refine (congrArg (fun g=>match List.foldl g none (allWrongs m) with|some f=>Except.error f|none=>Except.ok m) pe).trans ?_
  rw[q]
end Td
namespace Td
open Tide
noncomputable def Fi (l:List Int):Int:=l.foldl (fun (v d:Int)=>v*10+d) 0
theorem Gi:∀(l:List Int) (a:Int),l.foldl (fun (v d:Int)=>v*10+d) a=a*10^l.length+Fi l
 |[],a=>by simp[Fi]
 |x::l,a=>by
  unfold Fi
  rw[List.foldl_cons,List.foldl_cons,Gi l,Gi l (0*10+x),List.length_cons,Int.pow_succ]
  have e:(a*10+x)*10^l.length=a*(10^l.length*10)+x*10^l.length:=by rw[Int.add_mul,Int.mul_assoc,Int.mul_comm 10]
  rw[e,Int.zero_mul,Int.zero_add]
  omega
theorem IK (a b:List Int):Fi (a++b)=Fi a*10^b.length+Fi b:=by
 show (a++b).foldl _ 0=_
 rw[List.foldl_append,Gi b]
 rfl
theorem Ru:∀(k:Nat),Fi (List.replicate k 0)=0
 |0=>rfl
 |k+1=>by
  rw[List.replicate_succ]
  show (0::List.replicate k 0).foldl _ 0=0
  rw[List.foldl_cons]
  exact Ru k
noncomputable def CN (c:UInt8):Int:=(c.toNat:Int)-48
theorem Dl {c:UInt8}:isDigit c=true<->48<=c.toNat/\c.toNat<=57:=by
 unfold isDigit
 rw[Bool.and_eq_true,decide_eq_true_iff,decide_eq_true_iff]
theorem IL:∀(x:Bytes),(∀c∈x,isDigit c=true)->Fi (x.map CN)=(decimal x:Int):=by
 have gen:∀(x:Bytes) (n:Nat),(∀c∈x,isDigit c=true)->(x.map CN).foldl (fun (v d:Int)=>v*10+d) (n:Int)=((x.foldl (fun (n:Nat) (x:UInt8)=>10*n+(x.toNat-48)) n:Nat):Int):=by
  intro x
  induction x with
  |nil=>intro n _;rfl
  |cons c x ih=>
   intro n h
   rw[List.map_cons,List.foldl_cons,List.foldl_cons,<-ih _ fun d hd=>h d (.tail _ hd)]
   have:=Dl.mp (h c (.head _))
   congr 1
   unfold CN
   omega
 intro x h
 exact gen x 0 h
theorem Rt {d f:Bytes}{n:Nat} (hd:∀c∈d,isDigit c=true) (hf:∀c∈f,isDigit c=true) (hn:f.length<=n) :
  Fi (d.map CN++(f.map CN++List.replicate (n-f.length) 0))=((decimal d*10^n+decimal f*10^(n-f.length):Nat):Int):=by
 rw[IK,IK,IL d hd,IL f hf,Ru,List.length_append,List.length_map,List.length_replicate]
 have e:f.length+(n-f.length)=n:=by omega
 rw[e]
 simp
theorem bu (bs:ByteArray):∀(k i:Nat) (r:List UInt8),bs.size-i=k->i<=bs.size->ByteArray.toList.loop bs i r=r.reverse++bs.data.toList.drop i:=by
 intro k
 induction k with
 |zero=>
  intro i r hk hi
  unfold ByteArray.toList.loop
  rw[if_neg (by omega),List.drop_eq_nil_of_le (by show bs.data.toList.length<=i;rw[Array.length_toList];show bs.size<=i;omega),List.append_nil]
 |succ k ih=>
  intro i r hk hi
  unfold ByteArray.toList.loop
  rw[if_pos (by omega),ih (i+1) _ (by omega) (by omega),List.reverse_cons,List.append_assoc]
  congr 1
  have hl:i<bs.data.toList.length:=by rw[Array.length_toList];show i<bs.size;omega
  rw[List.drop_eq_getElem_cons hl]
  show bs.data[i]!::_=_
  rw[getElem!_pos bs.data i (by show i<bs.data.size;exact hl),Array.getElem_toList]
  rfl
theorem toList_eq (bs:ByteArray):bs.toList=bs.data.toList:=by
 have:=bu bs bs.size 0 [] (by omega) (Nat.zero_le _)
 simpa[ByteArray.toList] using this
theorem TJ {l:List Char} (h:∀c∈l,c.toNat<128):(ascii (String.ofList l)).map (fun (x:UInt8)=>x.toNat)=l.map Char.toNat:=by
 unfold ascii String.toUTF8
 rw[String.toByteArray_ofList,toList_eq]
 unfold List.utf8Encode
 rw[List.data_toByteArray,List.toList_toArray]
 induction l with
 |nil=>rfl
 |cons c l ih=>
  have hc:=h c (.head _)
  have hs:c.utf8Size=1:=by
   unfold Char.utf8Size
   rw[if_pos]
   have:c.val.toNat<128:=hc
   show c.val.toNat<=127
   omega
  rw[List.flatMap_cons,List.map_append,ih fun d hd=>h d (.tail _ hd),String.utf8EncodeChar_eq_singleton hs]
  show c.val.toUInt8.toNat::_=c.toNat::_
  congr 1
  have:c.val.toNat<128:=hc
  rw[UInt32.toNat_toUInt8]
  show c.val.toNat%256=c.val.toNat
  omega
theorem KG {n:Nat} (h:n<10):(Nat.digitChar n).toNat=48+n:=by
 match n,h with
 |0,_=>rfl
 |1,_=>rfl
 |2,_=>rfl
 |3,_=>rfl
 |4,_=>rfl
 |5,_=>rfl
 |6,_=>rfl
 |7,_=>rfl
 |8,_=>rfl
 |9,_=>rfl
 |n+10,h=>omega
theorem MW:∀(f n:Nat) (ds:List Char),(∀c∈ds,48<=c.toNat/\c.toNat<=57)->∀c∈Nat.toDigitsCore 10 f n ds,48<=c.toNat/\c.toNat<=57
 |0,n,ds,h=>h
 |f+1,n,ds,h=>by
  have hc:∀c∈Nat.digitChar (n%10)::ds,48<=c.toNat/\c.toNat<=57:=fun c hc=>by
   rcases List.mem_cons.mp hc with rfl|hc
   ·rw[KG (Nat.mod_lt _ (by decide))]
    have:=Nat.mod_lt n (show 10 > 0 by decide)
    omega
   ·exact h c hc
  unfold Nat.toDigitsCore
  dsimp only
  split
  ·exact hc
  ·exact MW f _ _ hc
theorem Pf (n:Nat):∀c∈Nat.toDigits 10 n,48<=c.toNat/\c.toNat<=57:=MW _ _ _ fun _ h=>(by cases h)
theorem Fq (n:Nat):(digitsOf n).map (fun (x:UInt8)=>x.toNat)=(Nat.toDigits 10 n).map Char.toNat:=
 TJ fun c hc=>by have:=Pf n c hc;omega
theorem bR (a b:Nat):Nat.gcd b (a%b)=Nat.gcd a b:=by
 rw[Nat.gcd_comm,<-Nat.gcd_rec,Nat.gcd_comm]
end Td
namespace Td
inductive Gm:List Int->List (List Int)->List Int->Prop
 |text {p n:Int}{r:List Int}:(p=0\/p=1)->0<=n->n.toNat<=r.length->Gm (p::n::r) [[p],r.take n.toNat] (r.drop n.toNat)
 |none {p:Int}{t:List Int}:(p=2\/p=3)->Gm (p::t) [[p]] t
 |one {p x:Int}{t:List Int}:(p=4\/p=8)->Gm (p::x::t) [[p,x]] t
 |two {p x y:Int}{t:List Int}:(p=5\/p=6\/p=7)->Gm (p::x::y::t) [[p,x,y]] t
 |five {x0 x1 x2 x3 x4:Int}{t:List Int}:Gm (9::x0::x1::x2::x3::x4::t) [[9,x0,x1,x2,x3,x4]] t
theorem rows0 {r:List Int}:PyFlat.rows 0 r=some ([],r):=rfl
theorem gf {r:List Int}{xs:List (List Int)}{t:List Int} (h:PyFlat.rows 1 r=some (xs,t)):∃n r2,r=n::r2/\0<=n/\n.toNat<=r2.length/\xs=[r2.take n.toNat]/\t=r2.drop n.toNat:=by
 unfold PyFlat.rows at h
 cases r with
 |nil=>cases h
 |cons n r2=>
  unfold PyFlat.row at h
  dsimp only at h
  by_cases q:0<=n/\n.toNat<=r2.length
  ·rw[if_pos q] at h
   dsimp only at h
   rw[rows0] at h
   cases h
   exact ⟨n,r2,rfl,q.1,q.2,rfl,rfl⟩
  ·rw[if_neg q] at h
   cases h
theorem dI {l t:List Int}{c:List (List Int)} (h:Gm l c t):PyWqaccq.whole c=c:=by
 cases h with
 |text h=>obtain rfl|rfl:=h<;>rfl
 |none h=>obtain rfl|rfl:=h<;>rfl
 |one h=>obtain rfl|rfl:=h<;>rfl
 |two h=>obtain rfl|rfl|rfl:=h<;>rfl
 |five=>rfl
theorem ex1 {r:List Int}{n:Nat} (q:¬r.length<n+1):∃x t,r=x::t/\¬t.length<n:=by
 cases r with
 |nil=>exact absurd (Nat.succ_pos n) q
 |cons x t=>exact ⟨x,t,rfl,fun h=>q (Nat.succ_lt_succ h)⟩
theorem ex2 {r:List Int} (q:¬r.length<2):∃x y t,r=x::y::t:=by
 obtain ⟨x,_,rfl,q1⟩:=ex1 q
 obtain ⟨y,t,rfl,_⟩:=ex1 q1
 exact ⟨x,y,t,rfl⟩
theorem VD {l t:List Int}{c:List (List Int)} (h:PyFlat.call PyWqaccq.shape l=some (c,t)):Gm l c t:=by
 cases l with
 |nil=>cases h
 |cons p r=>
  unfold PyFlat.call at h
  dsimp only at h
  cases e:PyWqaccq.shape p with
  |none=>rw[e] at h;cases h
  |some nk=>
   obtain ⟨n,k⟩:=nk
   rw[e] at h
   dsimp only at h
   by_cases q:r.length<n
   ·rw[if_pos q] at h;cases h
   ·rw[if_neg q] at h
    cases e2:PyFlat.rows k (r.drop n) with
    |none=>rw[e2] at h;cases h
    |some xt=>
     obtain ⟨xs,t'⟩:=xt
     rw[e2] at h
     cases h
     unfold PyWqaccq.shape at e
     by_cases h0:p=0
     ·rw[if_pos h0] at e;cases e
      obtain ⟨m,r2,e3,e4,e5,rfl,rfl⟩:=gf e2
      rw[List.drop_zero] at e3
      subst e3
      exact .text (.inl h0) e4 e5
     rw[if_neg h0] at e
     by_cases h1:p=1
     ·rw[if_pos h1] at e;cases e
      obtain ⟨m,r2,e3,e4,e5,rfl,rfl⟩:=gf e2
      rw[List.drop_zero] at e3
      subst e3
      exact .text (.inr h1) e4 e5
     rw[if_neg h1] at e
     by_cases h2:p=2
     ·rw[if_pos h2] at e;cases e;cases e2;exact .none (.inl h2)
     rw[if_neg h2] at e
     by_cases h3:p=3
     ·rw[if_pos h3] at e;cases e;cases e2;exact .none (.inr h3)
     rw[if_neg h3] at e
     by_cases h4:p=4
     ·rw[if_pos h4] at e;cases e;cases e2
      obtain ⟨x,t,rfl,_⟩:=ex1 q
      exact .one (.inl h4)
     rw[if_neg h4] at e
     by_cases h5:p=5
     ·rw[if_pos h5] at e;cases e;cases e2
      obtain ⟨x,y,t,rfl⟩:=ex2 q
      exact .two (.inl h5)
     rw[if_neg h5] at e
     by_cases h6:p=6
     ·rw[if_pos h6] at e;cases e;cases e2
      obtain ⟨x,y,t,rfl⟩:=ex2 q
      exact .two (.inr (.inl h6))
     rw[if_neg h6] at e
     by_cases h7:p=7
     ·rw[if_pos h7] at e;cases e;cases e2
      obtain ⟨x,y,t,rfl⟩:=ex2 q
      exact .two (.inr (.inr h7))
     rw[if_neg h7] at e
     by_cases h8:p=8
     ·rw[if_pos h8] at e;cases e;cases e2
      obtain ⟨x,t,rfl,_⟩:=ex1 q
      exact .one (.inr h8)
     rw[if_neg h8] at e
     by_cases h9:p=9
     ·rw[if_pos h9] at e;cases e;cases e2
      subst h9
      obtain ⟨x,_,rfl,q1⟩:=ex1 q
      obtain ⟨y,_,rfl,q2⟩:=ex1 q1
      obtain ⟨z,_,rfl,q3⟩:=ex1 q2
      obtain ⟨u,v,_,rfl⟩:=ex2 q3
      exact .five
     rw[if_neg h9] at e
     cases e
inductive Reads:List Int->List (List (List Int))->Prop
 |nil:Reads [] []
 |cons {l t:List Int}{c:List (List Int)}{cs:List (List (List Int))}:Gm l c t->Reads t cs->Reads l (c::cs)
theorem Hz:∀{f:Nat}{l:List Int}{cs:List (List (List Int))},PyFlat.calls PyWqaccq.shape f l=some cs->Reads l cs
 |f,[],cs,h=>by
  unfold PyFlat.calls at h
  cases h
  exact .nil
 |0,_::_,cs,h=>by unfold PyFlat.calls at h;cases h
 |f+1,p::r,cs,h=>by
  unfold PyFlat.calls at h
  cases e:PyFlat.call PyWqaccq.shape (p::r) with
  |none=>rw[e] at h;cases h
  |some ct=>
   obtain ⟨c,t⟩:=ct
   rw[e] at h
   dsimp only at h
   cases e2:PyFlat.calls PyWqaccq.shape f t with
   |none=>rw[e2] at h;cases h
   |some cs'=>
    rw[e2] at h
    cases h
    exact .cons (VD e) (Hz e2)
theorem ba {l:List Int}{cs:List (List (List Int))} (h:Reads l cs):cs.map PyWqaccq.whole=cs:=by
 induction h with
 |nil=>rfl
 |cons h _ ih=>rw[List.map_cons,dI h,ih]
theorem Vx {l:List Int} (h:PyWqaccq.answers_asked l=true):∃cs,Reads l cs/\cs≠[]/\cs.length<=300/\(∀c∈cs,TideMachinesNeutral.asked1 c=true) /\
  PyWqaccq.answers l=PyFlat.told (PyFlat.played TideMachinesNeutral.step TideMachinesNeutral.start cs):=by
 have k:PyWqaccq.calls l=PyFlat.calls PyWqaccq.shape l.length l:=by
  unfold PyWqaccq.calls
  cases e:PyFlat.calls PyWqaccq.shape l.length l with
  |none=>rfl
  |some cs=>exact congrArg some (ba (Hz e))
 unfold PyWqaccq.answers_asked at h
 unfold PyWqaccq.answers
 rw[k] at h ⊢
 cases e:PyFlat.calls PyWqaccq.shape l.length l with
 |none=>rw[e] at h;cases h
 |some cs=>
  rw[e] at h
  dsimp only at h ⊢
  rw[Bool.and_eq_true] at h
  obtain ⟨h1,h2⟩:=h
  unfold PyFlat.atMost at h1
  unfold TideMachinesNeutral.asked at h2
  rw[Bool.and_eq_true] at h2
  refine ⟨cs,Hz e,?_,of_decide_eq_true h1,?_,rfl⟩
  ·rintro rfl
   cases h2.1
  ·exact List.all_eq_true.mp h2.2
end Td
namespace PySem
open Sem (wp)
section
variable {M:Model}{A:Around}{E:Value->Shared->Prop}{s:Shared}
structure Heap.bg (fs:List Addr) (e L:Addr) (oe:Obj) (vs:Array Value) (fl:Value) (h h':Heap) (T:Addr):Prop where
 keep:∀b o,b∉fs->b≠e->h.get? b=some o->h'.get? b=some o
 slot:∀b o,b≠e->h.get? b=some o->∃sl,h'.get? b=some { o with slots:=sl }
 exc:h'.get? e=some { oe with data:=.fields (vs.setIfInBounds 1 (.ref T)) }
 new:h.objs.size<=T
 ne:T≠e
 tb:∃oT ts,h'.get? T=some oT/\oT.data = .fields ts/\ts[3]?=some fl/\3<ts.size
theorem iZ {base:Heap}{env:Env}{outer:List Env}{L e:Addr}{oe:Obj}{vs:Array Value}{head:Value}{hadNext:Bool}{Q:Unit->Shared->Prop}
  (hfr:A.frames=some (env::outer)) (hl:s.heap.FunFrames base (env::outer)) (hf:env.frame=some L)
  (he:s.heap.get? e=some oe) (hd:oe.data = .fields vs) (hsz:1<vs.size)
  (h:∀h' T,Heap.bg ((env::outer).filterMap (·.frame)) e L oe vs (rawInt L) s.heap h' T->Q () { s with heap:=h' }) :
  wpAny M A (do let a <-frameOf env;let pl <-entryPlaceOf L hadNext;let b <-EntryCells.newEntry head a .none (rawInt L) .none pl;setField (.ref e) 1 b) Q E s:=by
 have hene:e∉(env::outer).filterMap (·.frame):=fun hm=>by
  obtain ⟨_,o,ho,hnf⟩:=hl.mem hm
  rw[he] at ho;injection ho with ho;subst ho;exact hnf vs hd
 refine wpAny_bind (wpAny_frameOf_fun hfr hl hf fun h₁ hs₁=>?_)
 refine wpAny_bind (wpAny_entryPlaceOf fun pl hpl=>?_)
 unfold EntryCells.newEntry newFields
 refine wpAny_bind (wpAny_newObj_type ?_ (hpl.sizeOk5 _ _ _ _ _))
 have he₁:h₁.get? e=some oe:=(hs₁.2.1 e hene).trans he
 have he₂:=Heap.get?_push_of_some (h:=h₁) { cls:=.type "traceback",dict:=none,data:=.fields ([head,.ref L,.none,rawInt L,.none]++(if pl.isEmpty then List.replicate 6 Value.none else pl)).toArray } he₁
 refine wpAny_setField he₂ hd hsz (h _ h₁.objs.size ?_)
 have hTe:h₁.objs.size≠e:=Nat.ne_of_gt (Heap.lt_size he₁)
 have hd₃:=Obj.data_mapFields hd (·.setIfInBounds 1 (Value.ref h₁.objs.size))
 have he₃:=Heap.get?_update_self (Obj.mapFields (·.setIfInBounds 1 (Value.ref h₁.objs.size))) he₂ (Obj.isFreed_of_fields hd₃)
 have hT₃:=(Heap.get?_update_other (h₁.push { cls:=.type "traceback",dict:=none,data:=.fields ([head,.ref L,.none,rawInt L,.none]++(if pl.isEmpty then List.replicate 6 Value.none else pl)).toArray })
  (Obj.mapFields (·.setIfInBounds 1 (Value.ref h₁.objs.size))) (Ne.symm hTe)).trans (Heap.get?_push_size h₁ rfl)
 have keep:∀b o,b≠e->h₁.get? b=some o ->
   ((h₁.push { cls:=.type "traceback",dict:=none,data:=.fields ([head,.ref L,.none,rawInt L,.none]++(if pl.isEmpty then List.replicate 6 Value.none else pl)).toArray }).update e (Obj.mapFields (·.setIfInBounds 1 (Value.ref h₁.objs.size)))).get? b=some o:=
  fun b o hbe hb=>by
   rw[Heap.get?_update_other _ _ (Ne.symm hbe)]
   exact Heap.get?_push_of_some _ hb
 refine ⟨fun b o hb hbe e=>keep b o hbe ((hs₁.2.1 b hb).trans e),fun b o hbe e=>?_,?_,by rw[<-hs₁.1];exact Nat.le_refl _,hTe,_,_,hT₃,rfl,by first|(simp;done)|(rcases hpl with rfl|⟨_,_,_,_,_,_,_,rfl⟩<;>simp),by simp only [List.size_toArray,List.length_append,List.length_cons,List.length_nil]<;>omega⟩
 ·obtain ⟨sl,hs⟩:=hs₁.2.2 b o e
  exact ⟨sl,keep b _ hbe hs⟩
 ·rw[he₃]
  obtain ⟨c,d,dt,sl⟩:=oe
  have hd:dt = .fields vs:=hd
  subst hd
  rfl
structure Heap.Eff (fs ch:List Addr) (h h':Heap):Prop where
 keep:∀b o,b∉fs->b∉ch->h.get? b=some o->h'.get? b=some o
 slot:∀b o,b∉ch->h.get? b=some o->∃sl,h'.get? b=some { o with slots:=sl }
 there:∀b o,h.get? b=some o->∃o',h'.get? b=some o'
theorem Heap.Eff.trans {fs ch:List Addr}{h h' h'':Heap} (x:Heap.Eff fs ch h h') (y:Heap.Eff fs ch h' h''):Heap.Eff fs ch h h'':=
 ⟨fun b o h1 h2 e=>y.keep b o h1 h2 (x.keep b o h1 h2 e),fun b o h2 e=>let ⟨_,e1⟩:=x.slot b o h2 e;let ⟨sl,e2⟩:=y.slot b _ h2 e1;⟨sl,e2⟩,fun b o e=>let ⟨_,e1⟩:=x.there b o e;y.there b _ e1⟩
theorem Heap.Eff.mono {fs ch fs' ch':List Addr}{h h':Heap} (x:Heap.Eff fs ch h h') (h1:∀b∈fs,b∈fs') (h2:∀b∈ch,b∈ch'):Heap.Eff fs' ch' h h':=
 ⟨fun b o n1 n2 e=>x.keep b o (fun z=>n1 (h1 b z)) (fun z=>n2 (h2 b z)) e,fun b o n2 e=>x.slot b o (fun z=>n2 (h2 b z)) e,x.there⟩
structure Heap.Fly (h:Heap) (e:Addr) (oe:Obj) (vs:Array Value) (n:Nat) (T:Addr) (fl:Value):Prop where
 at_:h.get? e=some oe
 data:oe.data = .fields vs
 one:vs[1]?=some (.ref T)
 ne:T≠e
 new:n<=T
 tb:∃oT ts,h.get? T=some oT/\oT.data = .fields ts/\ts[3]?=some fl
theorem Heap.bg.eff {fs:List Addr}{e L:Addr}{oe:Obj}{vs:Array Value}{fl:Value}{h h':Heap}{T:Addr} (x:Heap.bg fs e L oe vs fl h h' T):Heap.Eff fs [e] h h':=by
 refine ⟨fun b o h1 h2 q=>x.keep b o h1 (fun z=>h2 (by rw[z];exact .head _)) q,fun b o h2 q=>x.slot b o (fun z=>h2 (by rw[z];exact .head _)) q,fun b o q=>?_⟩
 by_cases hb:b=e
 ·subst hb;exact ⟨_,x.exc⟩
 ·obtain ⟨sl,q⟩:=x.slot b o hb q;exact ⟨_,q⟩
theorem Heap.bg.fly {fs:List Addr}{e L:Addr}{oe:Obj}{vs:Array Value}{fl:Value}{h h':Heap}{T n:Addr} (x:Heap.bg fs e L oe vs fl h h' T) (hsz:1<vs.size) (hn:n<=h.objs.size) :
  Heap.Fly h' e { oe with data:=.fields (vs.setIfInBounds 1 (.ref T)) } (vs.setIfInBounds 1 (.ref T)) n T fl:=
 let ⟨oT,ts,a,b,c,_⟩:=x.tb
 ⟨x.exc,rfl,by rw[Array.getElem?_setIfInBounds_self];simp[hsz],x.ne,Nat.le_trans hn x.new,oT,ts,a,b,c⟩
theorem land {e T:Addr}{oe:Obj}{vs:Array Value}{n:Nat}{fl:Value}{Q:Unit->Shared->Prop} (x:Heap.Fly s.heap e oe vs n T fl)
  (h:∀h',Heap.Eff [] [T] s.heap h'->Heap.Fly h' e oe vs n T .none->Q () { s with heap:=h' }):wpAny M A (setFlight (.ref e) none) Q E s:=by
 obtain ⟨he,hd,h1,hne,hn,oT,ts,hT,hdT,h3⟩:=x
 have hsz3:3<ts.size:=(Array.getElem?_eq_some_iff.mp h3).1
 have other:∀b,b≠T->(s.heap.update T (Obj.mapFields (·.setIfInBounds 3 ((none:Option Addr).elim Value.none fun f=>rawInt f)))).get? b=s.heap.get? b:=
  fun b hb=>Heap.get?_update_other _ _ (Ne.symm hb)
 have self:=Heap.get?_update_self (Obj.mapFields (·.setIfInBounds 3 ((none:Option Addr).elim Value.none fun f=>rawInt f))) hT (Obj.isFreed_of_fields (Obj.data_mapFields hdT _))
 unfold setFlight
 refine wpAny_bind (wpAny_field he hd h1 ?_)
 rw[if_pos (show (Value.ref T != Value.none)=true from by simp)]
 refine wpAny_setField hT hdT hsz3 (h _ ⟨fun b o _ h2 q=>?_,fun b o h2 q=>?_,fun b o q=>?_⟩ ⟨?_,hd,h1,hne,hn,_,_,self,Obj.data_mapFields hdT _,by simp[hsz3]⟩)
 ·rw[other b fun z=>h2 (by rw[z];exact .head _)];exact q
 ·refine ⟨o.slots,?_⟩
  rw[other b fun z=>h2 (by rw[z];exact .head _)];exact q
 ·by_cases hb:b=T
  ·subst hb;exact ⟨_,self⟩
  ·exact ⟨o,by rw[other b hb];exact q⟩
 ·rw[other e (Ne.symm hne)];exact he
theorem Yn {base:Heap}{env:Env}{outer:List Env}{L e:Addr}{oe:Obj}{vs:Array Value}{n:Nat}{Q:Unit->Shared->Prop}
  (hfr:A.frames=some (env::outer)) (hl:s.heap.FunFrames base (env::outer)) (hf:env.frame=some L) (he:s.heap.get? e=some oe) (hd:oe.data = .fields vs) (h1:vs[1]?=some .none) (hn:n<=s.heap.objs.size)
  (h:∀h' T,Heap.Eff ((env::outer).filterMap (·.frame)) [e] s.heap h'->Heap.Fly h' e { oe with data:=.fields (vs.setIfInBounds 1 (.ref T)) } (vs.setIfInBounds 1 (.ref T)) n T (rawInt L)->Q () { s with heap:=h' }) :
  wpAny M A (noteFrame (.ref e) env) Q E s:=by
 unfold noteFrame
 simp only [hf]
 refine wpAny_bind (wpAny_field he hd h1 ?_)
 rw[if_neg (by decide)]
 have hsz:=(Array.getElem?_eq_some_iff.mp h1).1
 exact iZ hfr hl hf he hd hsz fun h' T x=>h h' T x.eff (x.fly hsz hn)
theorem SW {base:Heap}{env:Env}{outer:List Env}{L e T:Addr}{oe:Obj}{vs:Array Value}{n0 n:Nat}{Q:Unit->Shared->Prop}
  (hfr:A.frames=some (env::outer)) (hl:s.heap.FunFrames base (env::outer)) (hf:env.frame=some L) (x:Heap.Fly s.heap e oe vs n0 T .none) (hn:n<=s.heap.objs.size)
  (h:∀h' T',Heap.Eff ((env::outer).filterMap (·.frame)) [e,T] s.heap h'->Heap.Fly h' e { oe with data:=.fields (vs.setIfInBounds 1 (.ref T')) } (vs.setIfInBounds 1 (.ref T')) n T' (rawInt L)->Q () { s with heap:=h' }) :
  wpAny M A (noteFrame (.ref e) env) Q E s:=by
 obtain ⟨he,hd,h1,hne,hnT,oT,ts,hT,hdT,h3⟩:=x
 unfold noteFrame
 simp only [hf]
 refine wpAny_bind (wpAny_field he hd h1 ?_)
 rw[if_pos (show (Value.ref T != Value.none)=true from by simp)]
 refine wpAny_bind (wpAny_field hT hdT h3 ?_)
 rw[if_neg (show ¬((Value.none==rawInt L)=true) from by simp[rawInt])]
 refine wpAny_bind (wpAny_setField hT hdT (Array.getElem?_eq_some_iff.mp h3).1 ?_)
 have other:∀b,b≠T->(s.heap.update T (Obj.mapFields (·.setIfInBounds 3 Value.none))).get? b=s.heap.get? b:=fun b hb=>Heap.get?_update_other _ _ (Ne.symm hb)
 have self:=Heap.get?_update_self (Obj.mapFields (·.setIfInBounds 3 Value.none)) hT (Obj.isFreed_of_fields (Obj.data_mapFields hdT _))
 have noRecord:∀b o,s.heap.get? b=some o->(∀vs,o.data≠.fields vs)->b≠T:=fun b o hb hnf q=>by
  rw[q,hT] at hb;injection hb with hb;subst hb;exact hnf ts hdT
 have e0:Heap.Eff ((env::outer).filterMap (·.frame)) [e,T] s.heap (s.heap.update T (Obj.mapFields (·.setIfInBounds 3 Value.none))):=by
  refine ⟨fun b o _ h2 q=>?_,fun b o h2 q=>⟨o.slots,?_⟩,fun b o q=>?_⟩
  ·rw[other b fun z=>h2 (by rw[z];exact .tail _ (.head _))];exact q
  ·rw[other b fun z=>h2 (by rw[z];exact .tail _ (.head _))];exact q
  ·by_cases hb:b=T
   ·subst hb;exact ⟨_,self⟩
   ·exact ⟨o,by rw[other b hb];exact q⟩
 have hsz:=(Array.getElem?_eq_some_iff.mp h1).1
 refine iZ (s:={ s with heap:=s.heap.update T (Obj.mapFields (·.setIfInBounds 3 Value.none)) }) hfr (hl.of_keeps fun b o hb hnf=>⟨o,(other b (noRecord b o hb hnf)).trans hb,rfl⟩) hf ((other e (Ne.symm hne)).trans he) hd hsz fun h' T' y=>?_
 refine h h' T' (e0.trans (y.eff.mono (fun _ z=>z) fun b z=>?_)) (y.fly hsz ?_)
 ·rw[List.mem_singleton] at z;rw[z];exact .head _
 ·show n<=(s.heap.update T _).objs.size
  rw[Heap.size_after_update];exact hn
theorem Wf {base:Heap}{env:Env}{outer:List Env}{L e:Addr}{oe:Obj}{vs:Array Value}{n:Nat}{Q:Unit->Shared->Prop}
  (hfr:A.frames=some (env::outer)) (hl:s.heap.FunFrames base (env::outer)) (hf:env.frame=some L) (he:s.heap.get? e=some oe) (hd:oe.data = .fields vs) (h1:vs[1]?=some .none) (hn:n<=s.heap.objs.size)
  (h:∀h' T,Heap.Eff ((env::outer).filterMap (·.frame)) [e] s.heap h'->Heap.Fly h' e { oe with data:=.fields (vs.setIfInBounds 1 (.ref T)) } (vs.setIfInBounds 1 (.ref T)) n T .none->Q () { s with heap:=h' }) :
  wpAny M A (leaving env (.ref e)) Q E s:=by
 unfold leaving
 refine wpAny_bind (Yn (n:=s.heap.objs.size) hfr hl hf he hd h1 (Nat.le_refl _) fun h1' T x y=>land (s:={ s with heap:=h1' }) y fun h2 z1 z2=>?_)
 refine h h2 T ?_ ⟨z2.at_,z2.data,z2.one,z2.ne,Nat.le_trans hn z2.new,z2.tb⟩
 refine ⟨fun b o n1 n2 q=>z1.keep b o (by simp) (fun w=>?_) (x.keep b o n1 n2 q),fun b o n2 q=>?_,fun b o q=>?_⟩
 ·rw[List.mem_singleton] at w;rw[w] at q
  exact absurd (Nat.lt_of_lt_of_le (Heap.lt_size q) y.new) (Nat.lt_irrefl _)
 ·obtain ⟨sl,q1⟩:=x.slot b o n2 q
  obtain ⟨sl2,q2⟩:=z1.slot b _ (fun w=>by rw[List.mem_singleton] at w;rw[w] at q;exact absurd (Nat.lt_of_lt_of_le (Heap.lt_size q) y.new) (Nat.lt_irrefl _)) q1
  exact ⟨sl2,q2⟩
 ·obtain ⟨o1,q1⟩:=x.there b o q
  exact z1.there b o1 q1
theorem XW {base:Heap}{env:Env}{outer:List Env}{L e T:Addr}{oe:Obj}{vs:Array Value}{n0 n:Nat}{Q:Unit->Shared->Prop}
  (hfr:A.frames=some (env::outer)) (hl:s.heap.FunFrames base (env::outer)) (hf:env.frame=some L) (x:Heap.Fly s.heap e oe vs n0 T .none) (hn:n<=s.heap.objs.size)
  (h:∀h' T',Heap.Eff ((env::outer).filterMap (·.frame)) [e,T] s.heap h'->Heap.Fly h' e { oe with data:=.fields (vs.setIfInBounds 1 (.ref T')) } (vs.setIfInBounds 1 (.ref T')) n T' .none->Q () { s with heap:=h' }) :
  wpAny M A (leaving env (.ref e)) Q E s:=by
 unfold leaving
 refine wpAny_bind (SW (n:=s.heap.objs.size) hfr hl hf x (Nat.le_refl _) fun h1' T' x' y=>land (s:={ s with heap:=h1' }) y fun h2 z1 z2=>?_)
 refine h h2 T' ?_ ⟨z2.at_,z2.data,z2.one,z2.ne,Nat.le_trans hn z2.new,z2.tb⟩
 refine ⟨fun b o n1 n2 q=>z1.keep b o (by simp) (fun w=>?_) (x'.keep b o n1 n2 q),fun b o n2 q=>?_,fun b o q=>?_⟩
 ·rw[List.mem_singleton] at w;rw[w] at q
  exact absurd (Nat.lt_of_lt_of_le (Heap.lt_size q) y.new) (Nat.lt_irrefl _)
 ·obtain ⟨sl,q1⟩:=x'.slot b o n2 q
  obtain ⟨sl2,q2⟩:=z1.slot b _ (fun w=>by rw[List.mem_singleton] at w;rw[w] at q;exact absurd (Nat.lt_of_lt_of_le (Heap.lt_size q) y.new) (Nat.lt_irrefl _)) q1
  exact ⟨sl2,q2⟩
 ·obtain ⟨o1,q1⟩:=x'.there b o q
  exact z1.there b o1 q1
end
end PySem
namespace PySem
open Sem (wp)
noncomputable abbrev Fs:List Value:=[.type "Exception",.type "BaseException",.type "object"]
section
variable {M:Model}{A:Around}{E:Value->Shared->Prop}{env:Env}
variable {nm q:Str}{C N:Addr}{bs bm:List Value}{hdct:Bool}{sn:List Str}{sub:List Value}{ab:Bool}{col:Option Bool}{dd:Option Addr}{k0 k1 k2 k3 k5:Option Value}{newId:String}
theorem Yv {s:Shared}{x:Sem Value}{Q:Flow->Shared->Prop} (hbase:bm.contains (.type "BaseException")=true) (hh:A.handled=none)
  (h:wpAny M A x (fun v s₁=>∃e a0 dx sl,v = .ref e/\s₁.heap.get? C=some (excClassObj nm q C N bs bm hdct sn sub ab col dd k0 k1 k2 k3 k5 newId) /\
   s₁.heap.get? e=some ⟨.ref C,dx,.fields #[a0,.none,.none,.none,.bool false,.none],sl⟩/\E (.ref e) s₁) E s) :
  wpAny M A (raiseStmt env (some x) none) Q E s:=by
 have hcB:(Value.ref C::bm).contains (.type "BaseException")=true:=by rw[List.contains_cons,hbase,Bool.or_true]
 unfold raiseStmt
 refine wpAny_bind (wpAny_mono h (fun v s₁ h₁=>?_) fun _ _ x=>x)
 obtain ⟨e,t,dx,sl,rfl,hC,he,hE⟩:=h₁
 obtain ⟨hp,g,d,tk,os⟩:=s₁
 repeat (first|with_reducible refine wpAny_loadPart_at he ?_|with_reducible refine wpAny_loadPart_at hC ?_|(with_reducible refine wpAny_isSubtype_exc hC ?_;rw[hcB])|wp_step)
 exact wpAny_raiseNew_none hh hE
end
section
variable {prog:Program}{w:World}{A:Around}{E:Value->Shared->Prop}{h:Heap}{g:Array GenState}{d:Drawn}{t:Nat}{os:OsState}{a:Addr}{o:Obj}{vs:Array Value}{dx:Addr}
 {nm q:Str}{C N:Addr}{bs bm:List Value}{sn:List Str}{sub:List Value}{ab:Bool}{col:Option Bool}{dd:Option Addr}{k0 k1 k2 k3 k5:Option Value}{newId:String}{mN mA:Str->Option Value}{name:Str}{v:Value}
theorem ZO {M:Model}{nameV:Value}{Q:Unit->Shared->Prop} (hbm:bm.contains (.type "BaseException")=true) (hC:h.get? C=some (excClassObj nm q C N bs bm true sn sub ab col dd k0 k1 k2 k3 k5 newId))
  (hx:h.get? a=some o) (hc:o.cls = .ref C) (hq:Q () ⟨h,g,d,t,os⟩):wpAny M A (checkBuiltinCall "BaseException.__getattribute__" ⟨[.ref a,nameV],[]⟩) Q E ⟨h,g,d,t,os⟩:=by
 have hk:builtinKind "BaseException.__getattribute__" = some .slot:=by decide +kernel
 have hsplit:splitId "BaseException.__getattribute__" = some ("BaseException","__getattribute__"):=by decide +kernel
 have hcB:(Value.ref C::bm).contains (.type "BaseException")=true:=by rw[List.contains_cons,hbm];rfl
 have ha:=F.args_bexc_ga (.ref a) nameV
 simp only [checkBuiltinCall,hk,hsplit]
 refine wpAny_bind ?_
 ·unfold isInstance
  repeat (first|(with_reducible refine wpAny_loadPart_at hx ?_;rw[hc])|(with_reducible refine wpAny_isSubtype_exc hC ?_;rw[hcB])|wp_step)
  exact hq
theorem ZP {tk:Tok}{Q:Fin->Shared->Prop} (hbm:mroOf (.type "Exception")=pure bm) (hC:h.get? C=some (excClassObj nm q C N bs bm true sn sub ab col dd k0 k1 k2 k3 k5 newId)) (hN:h.Ns N mN) (hmN:mN name=none)
  (hB:typeLookup (.type "Exception") name=pure none) (hx:h.get? a=some o) (hc:o.cls = .ref C) (hd:o.data = .fields vs) (hdx:o.dict=some dx) (hA:h.Ns dx mA) (hv:mA name=some v) (hq:Q (.done (.ret v)) ⟨h,g,d,t,os⟩) :
  wpAny (model prog w) A (Builtin.«object.__getattribute__» ⟨[.ref a,.str name tk],[]⟩) Q E ⟨h,g,d,t,os⟩:=by
 repeat (any_goals (first|assumption|(with_reducible refine wpAny_loadPart_at hx ?_;rw[hc])|(with_reducible refine wpAny_typeLookup_exc hC hN hbm hB ?_;rw[hmN])|wp_step))
 rw[hd]
 show wpAny _ _ (instanceDict a false) _ _ _
 unfold instanceDict
 repeat (any_goals (first|assumption|(with_reducible refine wpAny_loadPart_at hx ?_;rw[hc,hdx])|with_reducible refine wpAny_loadPart_at hC ?_|(with_reducible refine wpAny_load hC ?_)|(with_reducible refine wpAny_nsGet hA ?_;rw[hv])|wp_step))
theorem bN {tk:Tok}{R:Result->Shared->Prop} (hbm:mroOf (.type "Exception")=pure bm) (hB2:bm.contains (.type "BaseException")=true) (hC:h.get? C=some (excClassObj nm q C N bs bm true sn sub ab col dd k0 k1 k2 k3 k5 newId)) (hN:h.Ns N mN) (hmN:mN name=none)
  (hB:typeLookup (.type "Exception") name=pure none) (hx:h.get? a=some o) (hc:o.cls = .ref C) (hd:o.data = .fields vs) (hdx:o.dict=some dx) (hA:h.Ns dx mA) (hv:mA name=some v) (hq:R (.ok (.ret v)) ⟨h,g,d,t,os⟩) :
  codeAny (model prog w) A (.call (.builtin "BaseException.__getattribute__") ⟨[.ref a,.str name tk],[]⟩) R ⟨h,g,d,t,os⟩:=
 codeAny_call_builtin (show plainId "BaseException.__getattribute__" = true by decide +kernel) F.entry_bexc_ga (ZO hB2 hC hx hc (ZP hbm hC hN hmN hB hx hc hd hdx hA hv hq))
theorem SS:typeLookup (.type "Exception") "__getattribute__" = pure (some (.builtin "BaseException.__getattribute__")):=by rw[typeLookup_type,builtinLookup_eq_fast];kernel_rfl
theorem af:typeLookup (.type "Exception") "__getattr__" = pure none:=by rw[typeLookup_type,builtinLookup_eq_fast];kernel_rfl
theorem dS (self:Value):bindSpecial (.builtin "BaseException.__getattribute__") self=pure (.builtin "BaseException.__getattribute__",[self]):=
 (Slot.of (T:="Exception") (name:="__getattribute__") (owner:="BaseException") (n:="__getattribute__") SS (by decide +kernel) (by decide +kernel) (by decide +kernel)
  (.inl (by decide +kernel)) (by rw[isSubtype_type];kernel_rfl)).bind self
theorem gF {tk:Tok}{fill expr:Bool}{Q:Value->Shared->Prop} (hbm:mroOf (.type "Exception")=pure bm) (hB2:bm.contains (.type "BaseException")=true) (hC:h.get? C=some (excClassObj nm q C N bs bm true sn sub ab col dd k0 k1 k2 k3 k5 newId)) (hN:h.Ns N mN) (hmN:mN name=none)
  (hga:mN "__getattribute__" = none) (hgh:mN "__getattr__" = none)
  (hB:typeLookup (.type "Exception") name=pure none) (hx:h.get? a=some o) (hc:o.cls = .ref C) (hd:o.data = .fields vs) (hdx:o.dict=some dx) (hA:h.Ns dx mA) (hv:mA name=some v) (hh:handedOut v=pure v) (hq:Q v ⟨h,g,d,t,os⟩) :
  wpAny (model prog w) A (getAttrBy (.ref a) (.str name tk) fill expr) Q E ⟨h,g,d,t,os⟩:=by
 have f3:=dS (.ref a)
 have hx0:(expr&&onTheHeap (Value.builtin "BaseException.__getattribute__"))=false:=by cases expr<;>rfl
 have hx2:(Value.builtin "BaseException.__getattribute__"==Value.builtin "object.__getattribute__")=false:=by decide +kernel
 have hx1:(onTheHeap (Value.ref C)&&Value.builtin "BaseException.__getattribute__"==Value.builtin "object.__getattribute__")=false:=by rw[hx2];rfl
 repeat (any_goals (first|assumption|(with_reducible refine wpAny_loadPart_at hx ?_;rw[hc])|(with_reducible refine wpAny_typeLookup_exc hC hN hbm SS ?_;rw[hga])|(with_reducible refine wpAny_typeLookup_exc hC hN hbm af ?_;rw[hgh])|wp_step))
 refine bN hbm hB2 hC hN hmN hB hx hc hd hdx hA hv ?_
 repeat (any_goals (first|assumption|wp_step))
theorem bO {expr:Bool}{Q:Value->Shared->Prop} (hbm:mroOf (.type "Exception")=pure bm) (hB2:bm.contains (.type "BaseException")=true) (hC:h.get? C=some (excClassObj nm q C N bs bm true sn sub ab col dd k0 k1 k2 k3 k5 newId)) (hN:h.Ns N mN) (hmN:mN name=none)
  (hga:mN "__getattribute__" = none) (hgh:mN "__getattr__" = none)
  (hB:typeLookup (.type "Exception") name=pure none) (hx:h.get? a=some o) (hc:o.cls = .ref C) (hd:o.data = .fields vs) (hdx:o.dict=some dx) (hA:h.Ns dx mA) (hv:mA name=some v) (hh:handedOut v=pure v) (hq:Q v ⟨h,g,d,t+1,os⟩) :
  wpAny (model prog w) A (getAttr (.ref a) name expr) Q E ⟨h,g,d,t,os⟩:=by
 unfold getAttr
 repeat (any_goals (first|assumption|with_reducible apply gF hbm hB2 hC hN hmN hga hgh hB hx hc hd hdx hA hv hh|wp_step))
end
end PySem
namespace PySem
open Sem (wp)
section
variable {prog:Program}{w:World}{A:Around}{E:Value->Shared->Prop}{s:Shared}{env:Env}{R:Result->Shared->Prop}
theorem dz {e:Value}{b₀:Stmt}{body:List Stmt}{n:Str}{pos:Pos}
  (h:wpAny (model prog w) A (setFlight e none) (fun _ s₁=>wpAny (model prog w) A (bindName env n e) (fun _ s₂=>wpAny (model prog w) A (execs (b₀::body) env) (fun f s₃=>R (.ok f) s₃) (fun _ _=>False) s₂) (fun _ _=>False) s₁) (fun _ _=>False) s) :
  codeAny (model prog w) A (.handlers e [.ExceptHandler none (some n) (b₀::body) pos] env) R s:=by
 refine codeAny_of_tree ?_
 show wpAny _ A (do return Fin.done (<-(handleWith e env [.ExceptHandler none (some n) (b₀::body) pos]).onRaise (fun x=>do noteFrame x env;theTreesLotGoes x))) _ _ s
 refine wpAny_bind (wpAny_noted ?_)
 unfold handleWith
 refine wpAny_bind (wpAny_standAt (wpAny_bind (wpAny_mono h (fun _ s₁ h₁=>?_) fun _ _ x=>x.elim)))
 refine wpAny_bind (wpAny_mono h₁ (fun _ s₂ h₂=>?_) fun _ _ x=>x.elim)
 refine wpAny_bind (wpAny_attempt (wpAny_mono h₂ (fun f s₃ h₃=>?_) fun _ _ x=>x.elim))
 exact wpAny_pure (wpAny_pure h₃)
theorem ZX {e:Addr}{t:Expr}{n:Str}{b₀:Stmt}{Hq:List Stmt}{pos:Pos}{rest:List ExceptHandler}{Q:Flow->Shared->Prop}
  (h:wpAny (model prog w) (A.mark (some (.ref e))) (eval t env) (fun c s₁=>wpAny (model prog w) (A.mark (some (.ref e))) (excMatches (.ref e) c) (fun b s₂=>b=true /\
   wpAny (model prog w) (A.mark (some (.ref e))) (setFlight (.ref e) none) (fun _ s₃=>wpAny (model prog w) (A.mark (some (.ref e))) (bindName env n (.ref e)) (fun _ s₄=>wpAny (model prog w) (A.mark (some (.ref e))) (execs (b₀::Hq) env)
    (fun f s₅=>wpAny (model prog w) A (do bindName env n .none;unbindBehindTheSuite env n pos) (fun _ s₆=>Q f s₆) E s₅) (fun _ _=>False) s₄) (fun _ _=>False) s₃) (fun _ _=>False) s₂) (fun _ _=>False) s₁) (fun _ _=>False) s) :
  wpAny (model prog w) A (handleBy (.ref e) env (.ExceptHandler (some t) (some n) (b₀::Hq) pos::rest)) Q E s:=by
 refine wpAny_handleBy_cons (codeAny_handlers_test (wpAny_mono h (fun c s₁ h₁=>?_) fun _ _ x=>x.elim)) (by intro q;cases q)
 refine wpAny_mono h₁ (fun b s₂ h₂=>?_) fun _ _ x=>x.elim
 obtain ⟨rfl,h₂⟩:=h₂
 exact dz h₂
end
end PySem
namespace L2
open PySem PySem.Spec PyProof.Rows
noncomputable abbrev Key:=Sum Int Str
noncomputable def SR:Key->Value->Bool
 |.inl k,v=>Value.isInt k v
 |.inr x,v=>Value.isStrOf x v
noncomputable def jU (w:World):Key->Int
 |.inl k=>hashInt k
 |.inr x=>hashStr w x
theorem BV:∀{k:Key}{v:Value},SR k v=true->(∃i t,k=Sum.inl i/\v=Value.int i t)\/(∃x t,k=Sum.inr x/\v=Value.str x t)
 |.inl i,v,h=>by
  obtain ⟨t,e⟩:=Value.isInt_shape (k:=i) (v:=v) h
  exact .inl ⟨i,t,rfl,e⟩
 |.inr x,v,h=>by
  obtain ⟨t,e⟩:=Value.isStrOf_shape (x:=x) (v:=v) h
  exact .inr ⟨x,t,rfl,e⟩
theorem aa (i:Int) (t:Tok):SR (.inl i) (.int i t)=true:=by simp[SR,Value.isInt]
theorem ae (x:Str) (t:Tok):SR (.inr x) (.str x t)=true:=by simp[SR,Value.isStrOf]
theorem gR (a b:Int):decide ((Sum.inl a:Key)=Sum.inl b)=(a==b):=by
 by_cases e:a=b
 ·subst e;simp
 ·have h:¬(Sum.inl a:Key)=Sum.inl b:=fun q=>e (Sum.inl.inj q)
  rw[decide_eq_false h]
  exact (beq_eq_false_iff_ne.mpr e).symm
theorem gU (a b:Str):decide ((Sum.inr a:Key)=Sum.inr b)=decide (a=b):=by
 by_cases e:a=b
 ·subst e;simp
 ·have h:¬(Sum.inr a:Key)=Sum.inr b:=fun q=>e (Sum.inr.inj q)
  rw[decide_eq_false h,decide_eq_false e]
theorem gS (a:Int) (b:Str):decide ((Sum.inl a:Key)=Sum.inr b)=false:=decide_eq_false (fun q=>nomatch q)
theorem gT (a:Str) (b:Int):decide ((Sum.inr a:Key)=Sum.inl b)=false:=decide_eq_false (fun q=>nomatch q)
noncomputable def Ce (prog:Program) (w:World):PySem.KeyKind prog w Key where
 is:=SR
 hash:=jU w
 inj:=fun v a b ha hb=>by
  rcases BV ha with ⟨i,t,rfl,rfl⟩|⟨x,t,rfl,rfl⟩
  ·rcases BV hb with ⟨j,u,rfl,e⟩|⟨y,u,rfl,e⟩
   ·injection e with e1 _;rw[e1]
   ·exact nomatch e
  ·rcases BV hb with ⟨j,u,rfl,e⟩|⟨y,u,rfl,e⟩
   ·exact nomatch e
   ·injection e with e1 _;rw[e1]
 byValue:=fun k v h=>by
  rcases BV h with ⟨i,t,rfl,rfl⟩|⟨x,t,rfl,rfl⟩<;>rfl
 pyHash:=fun hv h=>by
  rcases BV hv with ⟨i,t,rfl,rfl⟩|⟨x,t,rfl,rfl⟩
  ·exact wpAny_pyHash_int h
  ·exact wpAny_pyHash_str h
 eqBool:=fun hu hv h=>by
  rcases BV hu with ⟨i,t,rfl,rfl⟩|⟨x,t,rfl,rfl⟩
  ·rcases BV hv with ⟨j,u,rfl,rfl⟩|⟨y,u,rfl,rfl⟩
   ·rw[gR] at h;exact wpAny_eqBool_int h
   ·rw[gS] at h;exact SeqAt.EqAt.int_str i t y u _ _ _ _ h
  ·rcases BV hv with ⟨j,u,rfl,rfl⟩|⟨y,u,rfl,rfl⟩
   ·rw[gT] at h;exact SeqAt.EqAt.str_int x t j u _ _ _ _ h
   ·rw[gU] at h;exact wpAny_eqBool_str h
 «strs»:=fun k x t v h=>by
  rcases BV h with ⟨i,u,rfl,e⟩|⟨y,u,rfl,e⟩
  ·exact nomatch e
  ·injection e with e1 _
   subst e1
   cases v<;>rfl
theorem Wl (prog:Program) (w:World) (i:Int) (t:Tok):(Ce prog w).is (.inl i) (.int i t)=true:=aa i t
theorem Wm (prog:Program) (w:World) (x:Str) (t:Tok):(Ce prog w).is (.inr x) (.str x t)=true:=ae x t
end L2
namespace L2
open PySem PySem.Spec PyProof.Rows
inductive V where
 |non|bl (b:Bool)|int (i:Int)|str (x:Str)|byt (b:Array UInt8)|flt (b:UInt64)|ref (a:Addr)|ty (n:String)
 deriving DecidableEq
noncomputable def RelV:V->Value->Prop
 |.non,u=>u=Value.none
 |.bl b,u=>u=Value.bool b
 |.int i,u=>∃t,u=Value.int i t
 |.str x,u=>∃t,u=Value.str x t
 |.byt b,u=>∃t,u=Value.bytes b t
 |.flt b,u=>∃t,u=Value.float b t
 |.ref a,u=>u=Value.ref a
 |.ty n,u=>u=Value.type n
noncomputable abbrev Vals:List V->List Value->Prop:=Paired RelV
theorem Vals.length {xs:List V}{us:List Value} (r:Vals xs us):xs.length=us.length:=Paired.length r
theorem Vals.get:∀{xs:List V}{us:List Value}{i:Nat}{x:V},Vals xs us->xs[i]?=some x->∃u,us[i]?=some u/\RelV x u
 |_,_,_,_,.nil,e=>by simp at e
 |_,_,0,_,.cons r _,e=>by simp at e;subst e;exact ⟨_,rfl,r⟩
 |_,_,i+1,x,.cons _ t,e=>by
  obtain ⟨u,h1,h2⟩:=Vals.get (i:=i) (x:=x) t (by simpa using e)
  exact ⟨u,by simpa using h1,h2⟩
theorem Vals.set {x:V}{u:Value} (r:RelV x u):∀{xs:List V}{us:List Value} (i:Nat),Vals xs us->Vals (xs.set i x) (us.set i u)
 |_,_,_,.nil=>.nil
 |_,_,0,.cons _ t=>.cons r t
 |_,_,i+1,.cons q t=>.cons q (Vals.set r i t)
theorem Vals.append:∀{xs ys:List V}{us ws:List Value},Vals xs us->Vals ys ws->Vals (xs++ys) (us++ws)
 |_,_,_,_,.nil,s=>s
 |_,_,_,_,.cons r t,s=>.cons r (Vals.append t s)
theorem Vals.take:∀{xs:List V}{us:List Value} (n:Nat),Vals xs us->Vals (xs.take n) (us.take n)
 |_,_,0,_=>.nil
 |_,_,_+1,.nil=>.nil
 |_,_,n+1,.cons r t=>.cons r (Vals.take n t)
theorem Vals.drop:∀{xs:List V}{us:List Value} (n:Nat),Vals xs us->Vals (xs.drop n) (us.drop n)
 |_,_,0,r=>r
 |_,_,_+1,.nil=>.nil
 |_,_,n+1,.cons _ t=>Vals.drop n t
noncomputable def Fg:Option V->Option Value->Prop
 |some v,some u=>RelV v u
 |none,none=>True
 |_,_=>False
noncomputable def KV {κ:Type}:List (κ×V)->List (κ×Value)->Prop:=Paired fun (p:κ×V) (q:κ×Value)=>p.1=q.1/\RelV p.2 q.2
noncomputable def kV:Key->V
 |.inl i=>.int i
 |.inr x=>.str x
inductive HO where
 |lst (xs:List V)
 |tup (xs:List V)
 |dK (kvs:List (Key×V))|dT (kvs:List (List Key×V))
 |set (S:Int->Bool) (n:Nat)
 |ins (C dx:Addr) (fs:List (Str×V))
 |own (x:Addr)
 |xd (fs:List (Str×V))
 |met (f x:Addr)
 |rng (lo hi:Int)
 |frz (o:Obj) (u:HO)
 |tbl (ps:Array Value)
 |ext (φ:Heap->Prop)
noncomputable abbrev Hp:=Addr->Option HO
noncomputable def upd (H:Hp) (a:Addr) (o:HO):Hp:=fun b=>if b=a then some o else H b
theorem Ae {H:Hp}{a:Addr}{o:HO}:upd H a o a=some o:=by unfold upd;rw[if_pos rfl]
theorem Ai {H:Hp}{a b:Addr}{o:HO} (h:b≠a):upd H a o b=H b:=by unfold upd;rw[if_neg h]
theorem Zx {H:Hp}{a:Addr}{o u:HO}:upd (upd H a o) a u=upd H a u:=by
 funext b;unfold upd;split<;>rfl
theorem CI {H:Hp}{a b:Addr}{o u:HO} (h:H a=some o) (h':H b=some u) (d:o≠u):a≠b:=by
 intro e;subst e;rw[h] at h';exact d (Option.some.inj h')
theorem An {H:Hp}{a b:Addr}{o:HO} (h:H a=some o) (h':H b=none):a≠b:=by
 intro e;subst e;rw[h] at h';cases h'
section
variable (P:Program) (w:World)
noncomputable def BH (H:Hp) (h:Heap) (a:Addr):HO->Prop
 |.lst xs=>xs.length<=sizeLine/\∃(its:List Value) (n:Nat),Vals xs its/\h.get? a=some { cls:=.type "list",data:=.seq its.toArray n }
 |.tup xs=>xs.length<=sizeLine/\∃its:List Value,Vals xs its/\IsTup h a its.toArray
 |.dK kvs=>kvs.length<=sizeLine/\(a==sysModules)=false/\∃vs,KV kvs vs/\h.DictOf (Ce P w) a vs
 |.dT kvs=>kvs.length<=sizeLine/\(a==sysModules)=false/\∃xs:List (List Key×Addr×Value),
   Paired (fun (p:List Key×V) (q:List Key×Addr×Value)=>p.1=q.1/\H q.2.1=some (.tup (p.1.map kV))/\RelV p.2 q.2.2) kvs xs /\
   ∃o es ep,h.get? a=some o/\o.ExactDict/\o.data = .dict es ep/\es.toList=xs.map (entryOfKey (tupleKind (Ce P w)))/\(xs.map (·.1)).Nodup
 |.set S n=>h.SetOf (intKind P w) a S n
 |.ins C dx fs=>H dx=some (.own a)/\fs.length<=1000/\dx≠a/\h.get? a=some (PySem.W.instObj C dx) /\
   ∃mA,h.Ns1 dx mA/\(∀f,Fg (fs.lookup f) (mA f))/\PySem.Within mA (fs.map (·.1))
 |.own _=>∃o,h.get? a=some o
 |.xd fs=>∃mA,h.Ns1 a mA/\∀f,Fg (fs.lookup f) (mA f)
 |.rng lo hi=>∃t u v,h.get? a=some { cls:=.type "range",data:=.fields #[.int lo t,.int hi u,.int 1 v] }
 |.frz o u=>h.get? a=some o/\BH H h a u
 |.tbl ps=>h.get? a=some { cls:=.none,data:=.fields ps }
 |.met f x=>h.get? a=some (PySem.W.methodObj (.ref f) (.ref x))
 |.ext φ=>φ h/\(∃o,h.get? a=some o)/\∀h1 h2:Heap,φ h1->(∀o,h1.get? a=some o->h2.get? a=some o)->φ h2
noncomputable def HOk (H:Hp) (h:Heap):Prop:=∀a o,H a=some o->BH P w H h a o
end
section
variable {P:Program}{w:World}{H H':Hp}{h h':Heap}{a:Addr}{o:HO}
theorem BH.lt (x:BH P w H h a o):a<h.objs.size:=by
 cases o with
 |lst xs=>obtain ⟨_,_,_,_,e⟩:=x;exact Heap.lt_size e
 |tup xs=>obtain ⟨_,_,_,p⟩:=x;exact p.lt
 |dK kvs=>obtain ⟨_,_,_,_,o,_,_,e,_⟩:=x;exact Heap.lt_size e
 |dT kvs=>obtain ⟨_,_,_,_,o,_,_,e,_⟩:=x;exact Heap.lt_size e
 |set S n=>obtain ⟨o,_,_,_,e,_⟩:=x;exact Heap.lt_size e
 |ins C dx fs=>obtain ⟨_,_,_,e,_⟩:=x;exact Heap.lt_size e
 |own y=>obtain ⟨_,e⟩:=x;exact Heap.lt_size e
 |xd fs=>obtain ⟨_,⟨_,_,_,e,_⟩,_⟩:=x;exact Heap.lt_size e
 |rng lo hi=>obtain ⟨_,_,_,e⟩:=x;exact Heap.lt_size e
 |frz ob u=>obtain ⟨e,_⟩:=x;exact Heap.lt_size e
 |tbl ps=>exact Heap.lt_size (show h.get? a=some _ from x)
 |met f y=>exact Heap.lt_size (show h.get? a=some _ from x)
 |ext φ=>obtain ⟨_,⟨_,e⟩,_⟩:=x;exact Heap.lt_size e
theorem Paired.hJ {α β:Type}{F G:α->β->Prop}:∀{l₁:List α}{l₂:List β},Paired F l₁ l₂->(∀a b,F a b->G a b)->Paired G l₁ l₂
 |_,_,.nil,_=>.nil
 |_,_,.cons r t,f=>.cons (f _ _ r) (Paired.hJ t f)
theorem BH.Sr (x:BH P w H h a o) (k:∀b u,(b=a\/H b=some (.own a))->h.get? b=some u->h'.get? b=some u)
  (ho:∀b,H b=some (.own a)->H' b=some (.own a)) (ht:∀b xs,H b=some (.tup xs)->H' b=some (.tup xs)):BH P w H' h' a o:=by
 induction o with
 |lst xs=>obtain ⟨z,its,n,r,e⟩:=x;exact ⟨z,its,n,r,k _ _ (.inl rfl) e⟩
 |tup xs=>obtain ⟨z,its,r,ob,e,c⟩:=x;exact ⟨z,its,r,ob,k _ _ (.inl rfl) e,c⟩
 |dK kvs=>obtain ⟨z,y,vs,r,ob,es,ep,e,c⟩:=x;exact ⟨z,y,vs,r,ob,es,ep,k _ _ (.inl rfl) e,c⟩
 |dT kvs=>
  obtain ⟨z,y,xs,r,ob,es,ep,e,c⟩:=x
  exact ⟨z,y,xs,Paired.hJ r fun p q z=>⟨z.1,ht _ _ z.2.1,z.2.2⟩,ob,es,ep,k _ _ (.inl rfl) e,c⟩
 |set S n=>obtain ⟨ob,es,ep,t,e,c⟩:=x;exact ⟨ob,es,ep,t,k _ _ (.inl rfl) e,c⟩
 |ins C dx fs=>
  obtain ⟨d,z,ne,e,mA,⟨od,es,ep,e2,c⟩,r⟩:=x
  exact ⟨ho _ d,z,ne,k _ _ (.inl rfl) e,mA,⟨od,es,ep,k _ _ (.inr d) e2,c⟩,r⟩
 |own y=>obtain ⟨ob,e⟩:=x;exact ⟨ob,k _ _ (.inl rfl) e⟩
 |xd fs=>obtain ⟨mA,⟨od,es,ep,e,c⟩,r⟩:=x;exact ⟨mA,⟨od,es,ep,k _ _ (.inl rfl) e,c⟩,r⟩
 |rng lo hi=>obtain ⟨t,u,v,e⟩:=x;exact ⟨t,u,v,k _ _ (.inl rfl) e⟩
 |frz ob u ih=>obtain ⟨e,q⟩:=x;exact ⟨k _ _ (.inl rfl) e,ih q⟩
 |tbl ps=>
  have e:h.get? a=some { cls:=.none,data:=.fields ps }:=x
  show h'.get? a=some { cls:=.none,data:=.fields ps }
  exact k a _ (.inl rfl) e
 |met f y=>
  have e:h.get? a=some (PySem.W.methodObj (.ref f) (.ref y)):=x
  show h'.get? a=some (PySem.W.methodObj (.ref f) (.ref y))
  exact k a _ (.inl rfl) e
 |ext φ=>obtain ⟨p,⟨o,e⟩,st⟩:=x;exact ⟨st _ _ p fun o q=>k _ _ (.inl rfl) q,⟨o,k _ _ (.inl rfl) e⟩,st⟩
theorem HOk.lt (x:HOk P w H h) (e:H a=some o):a<h.objs.size:=(x a o e).lt
theorem HOk.fresh (x:HOk P w H h) (e:h.objs.size<=a):H a=none:=by
 cases q:H a with
 |none=>rfl
 |some u=>exact absurd (Nat.lt_of_lt_of_le (x.lt q) e) (Nat.lt_irrefl _)
theorem HOk.kept (x:HOk P w H h) (k:∀b u,h.get? b=some u->h'.get? b=some u):HOk P w H h':=fun a o e=>
 (x a o e).Sr (fun b u _ q=>k b u q) (fun _ q=>q) fun _ _ q=>q
theorem HOk.laid (x:HOk P w H h) (k:∀b u,h.get? b=some u->h'.get? b=some u) (hp:h.objs.size<=a) (new:BH P w (upd H a o) h' a o):HOk P w (upd H a o) h':=fun b u e=>by
 have hn:=x.fresh hp
 by_cases hb:b=a
 ·subst hb;rw[Ae] at e;cases e;exact new
 ·rw[Ai hb] at e
  exact (x b u e).Sr (fun c v _ q=>k c v q) (fun c q=>by rw[Ai (An q hn)];exact q) fun c xs q=>by rw[Ai (An q hn)];exact q
end
noncomputable def Rd (H:Hp) (a:Addr) (u:HO):Prop:=H a=some u\/∃o,H a=some (.frz o u)
theorem Rd.ok {P:Program}{w:World}{H:Hp}{h:Heap}{a:Addr}{u:HO} (r:Rd H a u) (x:HOk P w H h):BH P w H h a u:=by
 rcases r with r|⟨o,r⟩
 ·exact x a u r
 ·obtain ⟨_,q⟩:=x a _ r
  exact q
noncomputable def Mut:Option HO->Prop
 |some (.lst _)=>True
 |some (.dK _)=>True
 |some (.dT _)=>True
 |some (.set _ _)=>True
 |some (.ins _ _ _)=>True
 |some (.ext _)=>True
 |_=>False
section
variable {P:Program}{w:World}{H:Hp}{h h':Heap}{x e:Addr}{o':HO}
theorem HOk.write (ok:HOk P w H h) (mu:Mut (H x)) (he:e=x\/H e=some (.own x)) (k:∀b u,b≠e->h.get? b=some u->h'.get? b=some u) (heo:∃u,h'.get? e=some u)
  (new:BH P w (upd H x o') h' x o'):HOk P w (upd H x o') h':=fun b u q=>by
 have nown:∀c y,H c=some (.own y)->c≠x:=fun c y r z=>by subst z;rw[r] at mu;exact mu
 have ntup:∀c xs,H c=some (.tup xs)->c≠x:=fun c xs r z=>by subst z;rw[r] at mu;exact mu
 by_cases hb:b=x
 ·subst hb;rw[Ae] at q;cases q;exact new
 ·rw[Ai hb] at q
  by_cases hbe:b=e
  ·have q':H b=some (.own x):=by
    rcases he with z|z
    ·exact absurd (hbe.trans z) hb
    ·rw[hbe];exact z
   rw[q] at q';cases q'
   obtain ⟨v,hv⟩:=heo
   exact ⟨v,by rw[hbe];exact hv⟩
  ·refine (ok b u q).Sr (fun c v hc r=>k c v ?_ r) (fun c r=>by rw[Ai (nown c b r)];exact r) fun c xs r=>by rw[Ai (ntup c xs r)];exact r
   rcases hc with rfl|hc
   ·exact hbe
   ·rintro rfl
    rcases he with z|z
    ·exact nown c b hc z
    ·rw[hc] at z;cases z;exact hb rfl
end
structure Un (fs ex:List Addr) (H H':Hp) (h h':Heap):Prop where
 keep:∀b o,h.get? b=some o->H b=none->b∉fs->b∉ex->h'.get? b=some o
 slot:∀b o,h.get? b=some o->H b=none->b∈fs->b∉ex->∃sl,h'.get? b=some { o with slots:=sl }
 free:∀b o,h.get? b=some o->H b=none->b∉ex->H' b=none
 there:∀b o,h.get? b=some o->b∉ex->∃o',h'.get? b=some o'
 Rp:∀b xs,H b=some (.tup xs)->H' b=some (.tup xs)
 Of:∀b o u,H b=some (.frz o u)->H' b=some (.frz o u)
 Rn:∀b ps,H b=some (.tbl ps)->∃more,H' b=some (.tbl (ps++more))
section
variable {fs fs' ex ex':List Addr}{H H1 H2:Hp}{h h1 h2 h':Heap}{a x e:Addr}{o:HO}
theorem Un.any (u:Un fs ex H H1 h h1) {b:Addr}{ob:Obj} (q:h.get? b=some ob) (n:H b=none) (hx:b∉ex):∃sl,h1.get? b=some { ob with slots:=sl }:=by
 by_cases hb:b∈fs
 ·exact u.slot b ob q n hb hx
 ·exact ⟨ob.slots,u.keep b ob q n hb hx⟩
theorem Un.kept (k:∀b u,h.get? b=some u->h'.get? b=some u):Un fs ex H H h h':=
 ⟨fun b ob q _ _ _=>k b ob q,fun b ob q _ _ _=>⟨ob.slots,k b ob q⟩,fun _ _ _ n _=>n,fun b ob q _=>⟨ob,k b ob q⟩,fun _ _ q=>q,fun _ _ _ q=>q,fun _ ps q=>⟨#[],by rw[q];simp⟩⟩
theorem Un.refl:Un fs ex H H h h:=Un.kept fun _ _ q=>q
theorem Un.laid (k:∀b u,h.get? b=some u->h'.get? b=some u) (hp:h.objs.size<=a) (hn:H a=none):Un fs ex H (upd H a o) h h' where
 keep:=fun b u q _ _ _=>k b u q
 slot:=fun b u q _ _ _=>⟨u.slots,k b u q⟩
 free:=fun b u q n _=>by rw[Ai (Nat.ne_of_lt (Nat.lt_of_lt_of_le (Heap.lt_size q) hp))];exact n
 there:=fun b u q _=>⟨u,k b u q⟩
 Rp:=fun b xs q=>by rw[Ai (An q hn)];exact q
 Of:=fun b u xs q=>by rw[Ai (An q hn)];exact q
 Rn:=fun b ps q=>⟨#[],by rw[Ai (An q hn),q];simp⟩
theorem Un.write (mu:Mut (H x)) (he:e=x\/H e=some (.own x)) (k:∀b u,b≠e->h.get? b=some u->h'.get? b=some u) (heo:∃u,h'.get? e=some u):Un fs ex H (upd H x o) h h':=by
 have hx:∀b,H b=none->b≠x:=fun b n z=>by subst z;rw[n] at mu;exact mu
 have hb:∀b,H b=none->b≠e:=fun b n z=>by
  subst z
  rcases he with r|r
  ·exact hx b n r
  ·rw[n] at r;cases r
 have hm:∀b u,H b=some u->¬Mut (some u)->b≠x:=fun b u q nm z=>by subst z;rw[q] at mu;exact nm mu
 refine ⟨fun b u q n _ _=>k b u (hb b n) q,fun b u q n _ _=>⟨u.slots,k b u (hb b n) q⟩,fun b u q n _=>by rw[Ai (hx b n)];exact n,fun b u q _=>?_,
  fun b xs q=>by rw[Ai (hm b _ q fun z=>z)];exact q,fun b u xs q=>by rw[Ai (hm b _ q fun z=>z)];exact q,fun b ps q=>⟨#[],by rw[Ai (hm b _ q fun z=>z),q];simp⟩⟩
 by_cases hbe:b=e
 ·subst hbe;exact heo
 ·exact ⟨u,k b u hbe q⟩
end
noncomputable def trk (h:Heap) (H:Hp):List Addr:=(List.range h.objs.size).filter fun a=>(H a).isSome
noncomputable def Up (h:Heap) (H:Hp):Heap:=PySem.W.hideAll h (trk h H)
theorem ZY (h:Heap) (H:Hp):(Up h H).objs.size=h.objs.size:=PySem.W.hideAll_size _ _
theorem bU {h:Heap}{H:Hp}{b:Addr}{o:Obj} (e:h.get? b=some o) (n:H b=none):(Up h H).get? b=some o:=
 PySem.W.hideAll_get _ e fun hm=>by
  have q:(H b).isSome=true:=(List.mem_filter.mp hm).2
  rw[n] at q;simp at q
theorem eQ {h:Heap}{H:Hp}{b:Addr}{o:Obj} (e:(Up h H).get? b=some o):h.get? b=some o/\H b=none:=by
 have e':h.get? b=some o:=PySem.W.of_hideAll (trk h H) e
 refine ⟨e',?_⟩
 cases q:H b with
 |none=>rfl
 |some x=>
  have hm:b∈trk h H:=List.mem_filter.mpr ⟨List.mem_range.mpr (Heap.lt_size e'),by simp[q]⟩
  have z:(Up h H).get? b=none:=PySem.W.hideAll_none (trk h H) hm
  rw[z] at e;cases e
end L2
namespace L2
open PySem PySem.Spec PyProof.Rows
structure Mod (K:PySem.W.Frag) (mg:Str->Option Value) (base:Heap):Prop where
 kin:K.In base
 glob:base.Ns mainGlobals mg
 blt:∃mb,base.Ns builtinsNs mb/\∀x:Str,x≠"__name__"->mb x=bootBuiltins x
 nolimit:base.NoLimit
structure Cx where
 prog:Program
 w:World
 K:PySem.W.Frag
 mg:Str->Option Value
 base:Heap
 A:Around
 N:List Str
 s_0:Shared
 H_0:Hp
 env:Env
 outer:List Env
 stack:List Env
 ex:List Addr
 fn:Str->Bool
 calm:Bool
 pn:List (Addr×Obj)
 xe:Value->Shared->Prop
noncomputable def frs (l:List Env):List Addr:=l.filterMap (·.frame)
noncomputable abbrev Cx.fs (X:Cx):List Addr:=frs X.outer
noncomputable def Vis (sc:Scope) (x:Str):Prop:=sc.names.lookup x=some .local\/sc.names.lookup x=some .cell\/sc.names.lookup x=some .free
noncomputable def Loc (sc:Scope) (x:Str):Prop:=sc.names.lookup x=some .local\/sc.names.lookup x=some .cell
noncomputable def Look (env:Env) (h:Heap) (m:Str->Option Value) (x:Str) (u:Value):Prop:=
 (env.kindOf x=some .local/\m x=some u)\/((env.kindOf x=some .cell\/env.kindOf x=some .free)/\∃c,env.cells.lookup x=some c/\h.IsCell c (some u))
structure Cx.Ok (X:Cx):Prop where
 mod:Mod X.K X.mg X.base
 kind:X.env.scope.kind = .function
 glob:X.env.globals=mainGlobals
 blt:X.env.builtins=builtinsNs
 above:X.s_0.heap.objs.size<=X.env.locals
 inj:∀x y c,X.env.cells.lookup x=some c->X.env.cells.lookup y=some c->x=y
 has:∀x,(X.env.kindOf x=some .cell\/X.env.kindOf x=some .free)->∃c,X.env.cells.lookup x=some c
 cab:∀x c,X.fn x=true->X.env.cells.lookup x=some c->X.s_0.heap.objs.size<=c
 hd:X.calm=true->X.A.handled=none
 frames:X.A.frames=some X.stack
 stk:X.stack=X.outer\/(X.stack=X.env::X.outer/\X.env.frame=some X.env.locals)
 exf:∀b∈X.ex,b≠X.env.locals/\∀x c,X.env.cells.lookup x=some c->c≠b
 bs:∀b o,X.base.get? b=some o->X.s_0.heap.get? b=some o/\X.H_0 b=none
 bsz:X.base.objs.size<=X.s_0.heap.objs.size
 ao:∀b o,X.base.get? b=some o->b∉X.ex
 ZQ:∀b∈X.ex,b∉X.fs
 KR:X.s_0.heap.FunFrames X.base X.outer
 frf:∀b∈X.fs,X.H_0 b=none
structure Inv (X:Cx) (pins:List (Addr×Obj)) (σ:List (Option V)) (H:Hp) (s:Shared):Prop where
 ok:X.Ok
 os:s.os=X.s_0.os
 bare:AllBare s.gens
 base:Un X.fs X.ex X.H_0 H X.s_0.heap s.heap
 loc:∃m,s.heap.Ns X.env.locals m/\∀(i:Nat) (x:Str) (v:V),X.N[i]?=some x->σ[i]?=some (some v)->Vis X.env.scope x->∃u,RelV v u/\Look X.env s.heap m x u
 cell:∀x c,X.env.cells.lookup x=some c->∃v,s.heap.IsCell c v
 free:H X.env.locals=none
 ER:∀x c,X.env.cells.lookup x=some c->H c=none
 pin:∀p∈X.pn++pins,s.heap.get? p.1=some p.2/\H p.1=none/\p.1≠X.env.locals/\p.1∉X.fs/\∀v,p.2.data≠.cell v
 hok:HOk X.prog X.w H s.heap
 len:σ.length=X.N.length
section
variable {X:Cx}{pins:List (Addr×Obj)}{σ:List (Option V)}{H H':Hp}{s:Shared}{h':Heap}
theorem Cx.Ok.jV (ok:X.Ok) {b:Addr}{o:Obj} (e:X.base.get? b=some o):b∉X.fs:=fun hb=>by
 have:=(ok.KR.mem hb).1
 rw[e] at this;cases this
theorem Inv.bs (I:Inv X pins σ H s):∀b o,X.base.get? b=some o->s.heap.get? b=some o/\H b=none:=fun b o e=>
 ⟨I.base.keep b o (I.ok.bs b o e).1 (I.ok.bs b o e).2 (I.ok.jV e) (I.ok.ao b o e),I.base.free b o (I.ok.bs b o e).1 (I.ok.bs b o e).2 (I.ok.ao b o e)⟩
theorem Inv.bk (I:Inv X pins σ H s):∀b o,X.base.get? b=some o->s.heap.get? b=some o:=fun b o e=>(I.bs b o e).1
theorem Inv.mod (I:Inv X pins σ H s):Mod X.K X.mg X.base:=I.ok.mod
theorem Inv.kIn (I:Inv X pins σ H s):X.K.In s.heap:=I.ok.mod.kin.keeps I.bk
theorem Inv.fr (I:Inv X pins σ H s):∃m,Fr X.base X.env.locals s.heap m:=
 let ⟨m,hn,_⟩:=I.loc
 ⟨m,hn,I.bk,Nat.le_trans I.ok.bsz I.ok.above⟩
theorem Inv.lt (I:Inv X pins σ H s):X.env.locals<s.heap.objs.size:=let ⟨_,hn,_⟩:=I.loc;hn.lt
theorem Inv.sz (I:Inv X pins σ H s):X.s_0.heap.objs.size<=s.heap.objs.size:=Nat.le_trans I.ok.above (Nat.le_of_lt I.lt)
theorem Inv.jW (I:Inv X pins σ H s) {a:Addr} (h:s.heap.objs.size<=a):a∉X.fs:=fun hb=>by
 obtain ⟨_,o,ho,_⟩:=I.ok.KR.mem hb
 exact absurd (Nat.lt_of_lt_of_le (Heap.lt_size ho) (Nat.le_trans I.sz h)) (Nat.lt_irrefl _)
theorem Inv.cne (I:Inv X pins σ H s):∀x c,X.env.cells.lookup x=some c->c≠X.env.locals:=fun x c e z=>by
 obtain ⟨v,o,ho,hd⟩:=I.cell x c e
 obtain ⟨m,⟨o',es,ep,ho',hd',_⟩,_⟩:=I.loc
 rw[z,ho'] at ho;cases ho;rw[hd'] at hd;cases hd
theorem Inv.KR (I:Inv X pins σ H s):s.heap.FunFrames X.base X.outer:=by
 have all:∀(l:List Env),(∀b∈frs l,b∈X.fs)->X.s_0.heap.FunFrames X.base l->s.heap.FunFrames X.base l:=by
  intro l
  induction l with
  |nil=>intro _ _;trivial
  |cons env r ih=>
   intro hs hl
   obtain ⟨hk,⟨L,o,hf,hn,ho,hd⟩,hr⟩:=hl
   have hL:L∈X.fs:=hs L (by unfold frs;rw[List.filterMap_cons,hf];exact List.mem_cons_self)
   obtain ⟨sl,e⟩:=I.base.slot L o ho (I.ok.frf L hL) hL fun z=>I.ok.ZQ L z hL
   exact ⟨hk,⟨L,_,hf,hn,e,hd⟩,ih (fun b hb=>hs b (by unfold frs;rw[List.filterMap_cons,hf];exact List.mem_cons_of_mem _ hb)) hr⟩
 exact all X.outer (fun _ hb=>hb) I.ok.KR
theorem Inv.stack (I:Inv X pins σ H s):s.heap.FunFrames X.base X.stack:=by
 rcases I.ok.stk with e|⟨e,hf⟩
 ·rw[e];exact I.KR
 ·rw[e]
  obtain ⟨m,hn,_⟩:=I.loc
  refine .cons (by rw[I.ok.kind];decide) hf hn ?_ I.KR
  exact Heap.get?_none_of_le (Nat.le_trans I.ok.bsz I.ok.above)
theorem Inv.YC (I:Inv X pins σ H s):∀b∈frs X.stack,b∈X.env.locals::X.fs:=fun b hb=>by
 rcases I.ok.stk with e|⟨e,hf⟩
 ·rw[e] at hb;exact List.mem_cons_of_mem _ hb
 ·rw[e] at hb
  unfold frs at hb
  rw[List.filterMap_cons,hf] at hb
  exact hb
theorem Inv.OR (I:Inv X pins σ H s):∀b∈frs X.stack,H b=none:=fun b hb=>by
 rcases List.mem_cons.mp (I.YC b hb) with e|hb
 ·rw[e];exact I.free
 ·obtain ⟨_,o,ho,_⟩:=I.ok.KR.mem hb
  exact I.base.free b o ho (I.ok.frf b hb) fun z=>I.ok.ZQ b z hb
theorem Inv.step {g':Array GenState}{t':Nat}{d':Drawn}{ch:List Addr} (I:Inv X pins σ H s)
  (hch:∀b∈ch,(b∈X.ex\/X.s_0.heap.objs.size<=b)/\b≠X.env.locals/\(∀x c,X.env.cells.lookup x=some c->c≠b)/\∀p∈X.pn++pins,p.1≠b)
  (keep:∀b o,b≠X.env.locals->b∉X.fs->b∉ch->s.heap.get? b=some o->H b=none->h'.get? b=some o)
  (slot:∀b o,b≠X.env.locals->b∈X.fs->b∉ch->s.heap.get? b=some o->H b=none->∃sl,h'.get? b=some { o with slots:=sl }) (free:∀b o,b∉ch->s.heap.get? b=some o->H b=none->H' b=none)
  (there:∀b o,b∉ch->s.heap.get? b=some o->∃o',h'.get? b=some o')
  (Rp:∀b xs,H b=some (.tup xs)->H' b=some (.tup xs)) (Of:∀b o u,H b=some (.frz o u)->H' b=some (.frz o u)) (Rn:∀b ps,H b=some (.tbl ps)->∃more,H' b=some (.tbl (ps++more)))
  (ns:∀m,s.heap.Ns X.env.locals m->h'.Ns X.env.locals m) (hok:HOk X.prog X.w H' h') (hg:AllBare g') :
  Inv X pins σ H' { s with heap:=h',gens:=g',drawn:=d',toks:=t' }:=by
 have neL:∀b o,X.s_0.heap.get? b=some o->b≠X.env.locals:=fun b o e=>Nat.ne_of_lt (Nat.lt_of_lt_of_le (Heap.lt_size e) I.ok.above)
 have neC:∀b o,X.s_0.heap.get? b=some o->b∉X.ex->b∉ch:=fun b o e hx hb=>by
  rcases (hch b hb).1 with z|z
  ·exact hx z
  ·exact absurd (Nat.lt_of_lt_of_le (Heap.lt_size e) z) (Nat.lt_irrefl _)
 have cellK:∀x c,X.env.cells.lookup x=some c->∀v,s.heap.IsCell c v->h'.IsCell c v:=fun x c e v ⟨o,ho,hd⟩=>by
  have nch:c∉ch:=fun z=>(hch c z).2.2.1 x c e rfl
  by_cases hc:c∈X.fs
  ·obtain ⟨sl,q⟩:=slot c o (I.cne x c e) hc nch ho (I.ER x c e)
   exact ⟨_,q,hd⟩
  ·exact ⟨o,keep c o (I.cne x c e) hc nch ho (I.ER x c e),hd⟩
 refine ⟨I.ok,I.os,hg,⟨fun b o e n hb hx=>?_,fun b o e n hb hx=>?_,fun b o e n hx=>?_,fun b o e hx=>?_,fun b xs e=>Rp b xs (I.base.Rp b xs e),fun b o xs e=>Of b o xs (I.base.Of b o xs e),fun b ps e=>?_⟩,?_,fun x c e=>?_,?_,fun x c e=>?_,fun p hp=>?_,hok,I.len⟩
 ·exact keep b o (neL b o e) hb (neC b o e hx) (I.base.keep b o e n hb hx) (I.base.free b o e n hx)
 ·obtain ⟨sl,e1⟩:=I.base.slot b o e n hb hx
  obtain ⟨sl',e2⟩:=slot b _ (neL b o e) hb (neC b o e hx) e1 (I.base.free b o e n hx)
  exact ⟨sl',e2⟩
 ·obtain ⟨o',e1⟩:=I.base.there b o e hx
  exact free b o' (neC b o e hx) e1 (I.base.free b o e n hx)
 ·obtain ⟨o',e1⟩:=I.base.there b o e hx
  exact there b o' (neC b o e hx) e1
 ·obtain ⟨m1,e1⟩:=I.base.Rn b ps e
  obtain ⟨m2,e2⟩:=Rn b _ e1
  exact ⟨m1++m2,by rw[e2,Array.append_assoc]⟩
 ·obtain ⟨m,hn,hl⟩:=I.loc
  refine ⟨m,ns m hn,fun i x v e1 e2 e3=>?_⟩
  obtain ⟨u,r,l⟩:=hl i x v e1 e2 e3
  refine ⟨u,r,?_⟩
  rcases l with l|⟨k,c,e,z⟩
  ·exact .inl l
  ·exact .inr ⟨k,c,e,cellK x c e _ z⟩
 ·obtain ⟨v,z⟩:=I.cell x c e
  exact ⟨v,cellK x c e v z⟩
 ·obtain ⟨m,⟨o,_,_,ho,_⟩,_⟩:=I.loc
  exact free _ o (fun z=>(hch _ z).2.1 rfl) ho I.free
 ·obtain ⟨v,o,ho,hd⟩:=I.cell x c e
  exact free c o (fun z=>(hch c z).2.2.1 x c e rfl) ho (I.ER x c e)
 ·obtain ⟨e,n,ne,nf,d⟩:=I.pin p hp
  have nch:p.1∉ch:=fun z=>(hch p.1 z).2.2.2 p hp rfl
  exact ⟨keep p.1 p.2 ne nf nch e n,free p.1 p.2 nch e n,ne,nf,d⟩
theorem Inv.un {t':Nat} (I:Inv X pins σ H s) (u:Un X.fs [] H H' s.heap h') (hok:HOk X.prog X.w H' h'):Inv X pins σ H' { s with heap:=h',toks:=t' }:=by
 obtain ⟨m,⟨o,es,ep,ho,r⟩,_⟩:=id I.loc
 obtain ⟨sl,hL⟩:=u.any ho I.free (by simp)
 exact I.step (g':=s.gens) (d':=s.drawn) (ch:=[]) (fun _ z=>nomatch z) (fun b o _ hb _ e n=>u.keep b o e n hb (by simp)) (fun b o _ hb _ e n=>u.slot b o e n hb (by simp)) (fun b o _ e n=>u.free b o e n (by simp)) (fun b o _ e=>u.there b o e (by simp)) u.Rp u.Of u.Rn (fun m' hm=>by
  obtain ⟨o',es',ep',ho',r'⟩:=hm
  rw[ho] at ho';cases ho'
  exact ⟨_,es',ep',hL,r'⟩) hok I.bare
theorem Inv.call {g':Array GenState}{t':Nat}{d':Drawn}{ch:List Addr} (I:Inv X pins σ H s) (u:Un (frs X.stack) ch H H' s.heap h') (hok:HOk X.prog X.w H' h') (hg:AllBare g')
  (hch:∀b∈ch,(b∈X.ex\/X.s_0.heap.objs.size<=b)/\b≠X.env.locals/\(∀x c,X.env.cells.lookup x=some c->c≠b)/\∀p∈X.pn++pins,p.1≠b) :
  Inv X pins σ H' { s with heap:=h',gens:=g',drawn:=d',toks:=t' }:=by
 obtain ⟨m,⟨o,es,ep,ho,r⟩,_⟩:=id I.loc
 obtain ⟨sl,hL⟩:=u.any ho I.free fun z=>(hch _ z).2.1 rfl
 exact I.step (ch:=ch) hch (fun b o hL hb hc e n=>u.keep b o e n (fun z=>(List.mem_cons.mp (I.YC b z)).elim hL hb) hc) (fun b o _ _ hc e n=>u.any e n hc) (fun b o hc e n=>u.free b o e n hc) (fun b o hc e=>u.there b o e hc) u.Rp u.Of u.Rn (fun m' hm=>by
  obtain ⟨o',es',ep',ho',r'⟩:=hm
  rw[ho] at ho';cases ho'
  exact ⟨_,es',ep',hL,r'⟩) hok hg
theorem Inv.turned {t':Nat}{it:Addr} (I:Inv X pins σ H s) (k:∀b o,b≠it->s.heap.get? b=some o->h'.get? b=some o) (hn:H it=none) (hL:it≠X.env.locals)
  (h1:it∈X.ex\/X.s_0.heap.objs.size<=it) (h2:∀x c,X.env.cells.lookup x=some c->c≠it) (h3:∀p∈X.pn++pins,p.1≠it):Inv X pins σ H { s with heap:=h',toks:=t' }:=by
 have nit:∀b u,H b=some u->b≠it:=fun b u e z=>by rw[z,hn] at e;cases e
 refine I.step (g':=s.gens) (d':=s.drawn) (ch:=[it]) (fun b hb=>?_) (fun b o _ _ hc e _=>k b o (fun z=>hc (by simp[z])) e) (fun b o _ _ hc e _=>⟨o.slots,k b o (fun z=>hc (by simp[z])) e⟩) (fun _ _ _ _ n=>n)
  (fun b o hc e=>⟨o,k b o (fun z=>hc (by simp[z])) e⟩) (fun _ _ e=>e) (fun _ _ _ e=>e) (fun b ps e=>⟨#[],by rw[e];simp⟩) (fun m hm=>?_) (fun b u e=>?_) I.bare
 ·have e:b=it:=by simpa using hb
  subst e
  exact ⟨h1,hL,h2,h3⟩
 ·obtain ⟨o,es,ep,ho,r⟩:=hm
  exact ⟨o,es,ep,k _ o (Ne.symm hL) ho,r⟩
 ·refine (I.hok b u e).Sr (fun c v hc q=>k c v ?_ q) (fun _ q=>q) fun _ _ q=>q
  rcases hc with z|z
  ·rw[z];exact nit b u e
  ·exact nit c _ z
theorem Inv.tok (I:Inv X pins σ H s) (t:Nat):Inv X pins σ H { s with toks:=t }:=I.un (h':=s.heap) (t':=t) Un.refl I.hok
theorem Inv.kept {t':Nat} (I:Inv X pins σ H s) (k:∀b u,s.heap.get? b=some u->h'.get? b=some u):Inv X pins σ H { s with heap:=h',toks:=t' }:=I.un (Un.kept k) (I.hok.kept k)
theorem Inv.laid {a:Addr}{o:HO}{t':Nat} (I:Inv X pins σ H s) (k:∀b u,s.heap.get? b=some u->h'.get? b=some u) (hp:s.heap.objs.size<=a) (new:BH X.prog X.w (upd H a o) h' a o) :
  Inv X pins σ (upd H a o) { s with heap:=h',toks:=t' }:=I.un (Un.laid k hp (I.hok.fresh hp)) (I.hok.laid k hp new)
theorem Inv.write {x e:Addr}{o:HO}{t':Nat} (I:Inv X pins σ H s) (mu:Mut (H x)) (he:e=x\/H e=some (.own x)) (k:∀b u,b≠e->s.heap.get? b=some u->h'.get? b=some u) (heo:∃u,h'.get? e=some u)
  (new:BH X.prog X.w (upd H x o) h' x o):Inv X pins σ (upd H x o) { s with heap:=h',toks:=t' }:=I.un (Un.write mu he k heo) (I.hok.write mu he k heo new)
theorem Inv.weak {σ':List (Option V)} (I:Inv X pins σ H s) (hl:σ'.length=σ.length) (w:∀(i:Nat) v,σ'[i]?=some (some v)->σ[i]?=some (some v)):Inv X pins σ' H s:=
 ⟨I.ok,I.os,I.bare,I.base,let ⟨m,hn,hl'⟩:=I.loc;⟨m,hn,fun i x v e1 e2 e3=>hl' i x v e1 (w i v e2) e3⟩,I.cell,I.free,I.ER,I.pin,I.hok,hl.trans I.len⟩
theorem Inv.Va {pins':List (Addr×Obj)} (I:Inv X pins σ H s) (h:∀p∈pins',s.heap.get? p.1=some p.2/\H p.1=none/\p.1≠X.env.locals/\p.1∉X.fs/\∀v,p.2.data≠.cell v):Inv X pins' σ H s:=
 ⟨I.ok,I.os,I.bare,I.base,I.loc,I.cell,I.free,I.ER,fun p hp=>(List.mem_append.mp hp).elim (fun z=>I.pin p (List.mem_append_left _ z)) (h p),I.hok,I.len⟩
theorem Qn {N:List Str} (hN:N.Nodup) {i j:Nat}{x:Str} (a:N[i]?=some x) (b:N[j]?=some x):i=j:=by
 obtain ⟨h1,e1⟩:=List.getElem?_eq_some_iff.mp a
 obtain ⟨h2,e2⟩:=List.getElem?_eq_some_iff.mp b
 exact (List.getElem_inj hN).mp (e1.trans e2.symm)
theorem aR {M:Model}{A:Around}{E:Value->Shared->Prop}{i:Nat}{x:Str}{v:V}{u:Value}{Q:Unit->Shared->Prop} (I:Inv X pins σ H s) (hN:X.N.Nodup) (hi:X.N[i]?=some x) (hx:Loc X.env.scope x) (r:RelV v u)
  (h:∀s',Inv X pins (σ.set i (some v)) H s'->(∃a,Heap.SameBut a s.heap s'.heap/\(a=X.env.locals\/X.env.cells.lookup x=some a))->Q () s') (hf:X.fn x=true\/X.env.scope.names.lookup x=some .local:=by first|exact .inl rfl|exact .inr rfl|assumption):wpAny M A (storeName X.env x u) Q E s:=by
 obtain ⟨m,hn,hl⟩:=id I.loc
 have hcls:(X.env.scope.kind==.class||(X.env.scope.kind==.module&&X.env.locals != X.env.globals))=false:=by rw[I.ok.kind];rfl
 have hiσ:i<σ.length:=by rw[I.len];exact (List.getElem?_eq_some_iff.mp hi).1
 have cne:=I.cne
 have tracked:∀{a:Addr}{h':Heap},(∃o,s.heap.get? a=some o/\H a=none)->Heap.SameBut a s.heap h'->HOk X.prog X.w H h':=fun {a h'} ha hs b ob e=>by
  obtain ⟨_,_,hfree⟩:=ha
  refine (I.hok b ob e).Sr (fun c w' hc q=>(hs.2 c ?_).trans q) (fun _ q=>q) fun _ _ q=>q
  rintro rfl
  rcases hc with rfl|hc
  ·rw[hfree] at e;cases e
  ·rw[hfree] at hc;cases hc
 rcases hx with hk|hk
 ·refine wpAny_storeName_local hk hn (fun h' hn' hs=>?_) hcls
  obtain ⟨oL,_,_,hoL,_⟩:=id hn
  refine h _ ⟨I.ok,I.os,I.bare,⟨fun b o e n hb hx=>?_,fun b o e n hb hx=>?_,I.base.free,fun b o e hx=>?_,I.base.Rp,I.base.Of,I.base.Rn⟩,⟨_,hn',fun j y v' e1 e2 e3=>?_⟩,fun y c e=>?_,I.free,I.ER,fun p hp=>?_,tracked ⟨oL,hoL,I.free⟩ hs,by simpa using I.len⟩ ⟨_,hs,.inl rfl⟩
  ·exact (hs.2 b (Nat.ne_of_lt (Nat.lt_of_lt_of_le (Heap.lt_size e) I.ok.above))).trans (I.base.keep b o e n hb hx)
  ·obtain ⟨sl,e1⟩:=I.base.slot b o e n hb hx
   exact ⟨sl,(hs.2 b (Nat.ne_of_lt (Nat.lt_of_lt_of_le (Heap.lt_size e) I.ok.above))).trans e1⟩
  ·obtain ⟨o',e1⟩:=I.base.there b o e hx
   exact ⟨o',(hs.2 b (Nat.ne_of_lt (Nat.lt_of_lt_of_le (Heap.lt_size e) I.ok.above))).trans e1⟩
  ·by_cases hj:j=i
   ·subst hj
    rw[hi] at e1;cases e1
    rw[List.getElem?_set_self hiσ] at e2
    cases e2
    exact ⟨u,r,.inl ⟨hk,by simp⟩⟩
   ·rw[List.getElem?_set_ne (Ne.symm hj)] at e2
    obtain ⟨u',r',q⟩:=hl j y v' e1 e2 e3
    refine ⟨u',r',?_⟩
    rcases q with ⟨k,e⟩|⟨k,c,e,z⟩
    ·refine .inl ⟨k,?_⟩
     have:y≠x:=fun e=>hj (Qn hN e1 (e ▸ hi))
     simp[this,e]
    ·exact .inr ⟨k,c,e,z.sameBut hs (cne y c e)⟩
  ·obtain ⟨w',z⟩:=I.cell y c e
   exact ⟨w',z.sameBut hs (cne y c e)⟩
  ·obtain ⟨e,n,ne,nf,d⟩:=I.pin p hp
   exact ⟨(hs.2 p.1 ne).trans e,n,ne,nf,d⟩
 ·have hfn:X.fn x=true:=by
   rcases hf with z|z
   ·exact z
   ·rw[z] at hk;cases hk
  obtain ⟨c,hc⟩:=I.ok.has x (.inl hk)
  obtain ⟨w',z⟩:=I.cell x c hc
  refine wpAny_storeName_cell I.ok.kind hk hc z (fun h' hc' hs=>?_)
  obtain ⟨oc,hoc,hocd⟩:=id z
  refine h { s with heap:=h' } ⟨I.ok,I.os,I.bare,⟨fun b o e n hb hx=>?_,fun b o e n hb hx=>?_,I.base.free,fun b o e hx=>?_,I.base.Rp,I.base.Of,I.base.Rn⟩,⟨m,hn.sameBut hs (Ne.symm (cne x c hc)),fun j y v' e1 e2 e3=>?_⟩,fun y c' e=>?_,I.free,I.ER,fun p hp=>?_,tracked ⟨oc,hoc,I.ER x c hc⟩ hs,by simpa using I.len⟩ ⟨c,hs,.inr hc⟩
  ·exact (hs.2 b (Nat.ne_of_lt (Nat.lt_of_lt_of_le (Heap.lt_size e) (I.ok.cab x c hfn hc)))).trans (I.base.keep b o e n hb hx)
  ·obtain ⟨sl,e1⟩:=I.base.slot b o e n hb hx
   exact ⟨sl,(hs.2 b (Nat.ne_of_lt (Nat.lt_of_lt_of_le (Heap.lt_size e) (I.ok.cab x c hfn hc)))).trans e1⟩
  ·obtain ⟨o',e1⟩:=I.base.there b o e hx
   exact ⟨o',(hs.2 b (Nat.ne_of_lt (Nat.lt_of_lt_of_le (Heap.lt_size e) (I.ok.cab x c hfn hc)))).trans e1⟩
  ·by_cases hj:j=i
   ·subst hj
    rw[hi] at e1;cases e1
    rw[List.getElem?_set_self hiσ] at e2
    cases e2
    exact ⟨u,r,.inr ⟨.inl hk,c,hc,hc'⟩⟩
   ·rw[List.getElem?_set_ne (Ne.symm hj)] at e2
    obtain ⟨u',r',q⟩:=hl j y v' e1 e2 e3
    refine ⟨u',r',?_⟩
    rcases q with q|⟨k,c',e,z'⟩
    ·exact .inl q
    ·refine .inr ⟨k,c',e,z'.sameBut hs ?_⟩
     rintro rfl
     exact hj (Qn hN e1 (I.ok.inj _ _ _ e hc ▸ hi))
  ·by_cases hcc:c'=c
   ·subst hcc;exact ⟨_,hc'⟩
   ·obtain ⟨w2,z2⟩:=I.cell y c' e
    exact ⟨w2,z2.sameBut hs hcc⟩
  ·obtain ⟨e,n,ne,nf,d⟩:=I.pin p hp
   refine ⟨(hs.2 p.1 ?_).trans e,n,ne,nf,d⟩
   intro q
   rw[q,hoc] at e
   have q':oc=p.2:=Option.some.inj e
   exact d w' (by rw[<-q'];exact hocd)
theorem LW {M:Model}{A:Around}{E:Value->Shared->Prop}{i:Nat}{x:Str}{v:V}{u:Value}{Q:Unit->Shared->Prop} (I:Inv X pins σ H s) (hN:X.N.Nodup) (hi:X.N[i]?=some x) (hx:Loc X.env.scope x) (r:RelV v u)
  (h:∀s',Inv X pins (σ.set i (some v)) H s'->Q () s') (hf:X.fn x=true\/X.env.scope.names.lookup x=some .local:=by first|exact .inl rfl|exact .inr rfl|assumption):wpAny M A (storeName X.env x u) Q E s:=
 aR I hN hi hx r (fun s' I' _=>h s' I') hf
theorem Inv.bB {s':Shared}{ch:List Addr} (I:Inv X pins σ H s) (ho:s'.os=s.os) (u:Un (frs X.stack) ch H H' s.heap s'.heap) (hok:HOk X.prog X.w H' s'.heap) (hg:AllBare s'.gens)
  (hch:∀b∈ch,(b∈X.ex\/X.s_0.heap.objs.size<=b)/\b≠X.env.locals/\(∀x c,X.env.cells.lookup x=some c->c≠b)/\∀p∈X.pn++pins,p.1≠b):Inv X pins σ H' s':=by
 obtain ⟨h',g',d',t',o'⟩:=s'
 have e:o'=s.os:=ho
 subst e
 exact I.call (g':=g') (t':=t') (d':=d') u hok hg hch
end
noncomputable abbrev XK:=Value->Option Addr->Hp->Prop
noncomputable abbrev St:=List (Option V)
noncomputable abbrev VK:=V->Hp->Prop
noncomputable abbrev TE:=St->Hp->VK->Prop
noncomputable abbrev TT:=St->Hp->(Bool->Hp->Prop)->Prop
noncomputable abbrev TA:=St->Hp->(List V->Hp->Prop)->Prop
structure Ends where
 nx:St->Hp->Prop
 rt:VK
 bk:St->Hp->Prop:=fun _ _=>False
 ct:St->Hp->Prop:=fun _ _=>False
noncomputable abbrev TS:=Ends->St->Hp->Prop
noncomputable def EP (X:Cx) (pins:List (Addr×Obj)) (σ:St) (Q:VK) (u:Value) (s':Shared):Prop:=∃v H',Inv X pins σ H' s'/\RelV v u/\Q v H'
noncomputable def TP (X:Cx) (pins:List (Addr×Obj)) (σ:St) (Q:Bool->Hp->Prop) (b:Bool) (s':Shared):Prop:=∃H',Inv X pins σ H' s'/\Q b H'
noncomputable def AP (X:Cx) (pins:List (Addr×Obj)) (σ:St) (Q:List V->Hp->Prop) (us:List Value) (s':Shared):Prop:=∃vs H',Inv X pins σ H' s'/\Vals vs us/\Q vs H'
noncomputable def SP (X:Cx) (pins:List (Addr×Obj)) (D:Ends) (f:Flow) (s':Shared):Prop:=
 match f with
 |.next=>∃σ' H',Inv X pins σ' H' s'/\D.nx σ' H'
 |.brk=>∃σ' H',Inv X pins σ' H' s'/\D.bk σ' H'
 |.cont=>∃σ' H',Inv X pins σ' H' s'/\D.ct σ' H'
 |.ret u=>∃v σ' H',Inv X pins σ' H' s'/\RelV v u/\D.rt v H'
noncomputable def PE (X:Cx) (e:Expr) (t:TE):Prop:=
 ∀(pins:List (Addr×Obj)) (s:Shared) (σ:St) (H:Hp) (Q:VK),Inv X pins σ H s->t σ H Q->wpAny (model X.prog X.w) X.A (eval e X.env) (EP X pins σ Q) X.xe s
noncomputable def PT (X:Cx) (e:Expr) (t:TT):Prop:=
 ∀(pins:List (Addr×Obj)) (s:Shared) (σ:St) (H:Hp) (Q:Bool->Hp->Prop),Inv X pins σ H s->t σ H Q->wpAny (model X.prog X.w) X.A (isTrue e X.env (eval e X.env)) (TP X pins σ Q) X.xe s
noncomputable def PW (X:Cx) (e:Expr) (t:TT):Prop:=
 ∀(whole:Sem Value) (pins:List (Addr×Obj)) (s:Shared) (σ:St) (H:Hp) (Q:Bool->Hp->Prop),Inv X pins σ H s->t σ H Q->wpAny (model X.prog X.w) X.A (isTrue e X.env whole) (TP X pins σ Q) X.xe s
theorem PW.pt {X:Cx}{e:Expr}{t:TT} (h:PW X e t):PT X e t:=h _
noncomputable def PA (X:Cx) (es:List Expr) (t:TA):Prop:=
 ∀(pos:Pos) (pins:List (Addr×Obj)) (s:Shared) (σ:St) (H:Hp) (Q:List V->Hp->Prop),Inv X pins σ H s->t σ H Q->wpAny (model X.prog X.w) X.A (spliced (backTo pos (starEach es X.env))) (AP X pins σ Q) X.xe s
noncomputable def PS (X:Cx) (st:Stmt) (t:TS):Prop:=
 ∀(pins:List (Addr×Obj)) (s:Shared) (σ:St) (H:Hp) (D:Ends),Inv X pins σ H s->t D σ H->wpAny (model X.prog X.w) X.A (exec st X.env) (SP X pins D) X.xe s
noncomputable def PSs (X:Cx) (st:List Stmt) (t:TS):Prop:=
 ∀(pins:List (Addr×Obj)) (s:Shared) (σ:St) (H:Hp) (D:Ends),Inv X pins σ H s->t D σ H->wpAny (model X.prog X.w) X.A (execs st X.env) (SP X pins D) X.xe s
theorem thn {α:Type}{t:Sem α}{Q Q':α->Shared->Prop}{M:Model}{A:Around}{E:Value->Shared->Prop}{s:Shared} (h:wpAny M A t Q E s) (hQ:∀a s,Q a s->Q' a s):wpAny M A t Q' E s:=wpAny_mono h hQ fun _ _ x=>x
end L2
namespace L2
open PySem PySem.Spec PyProof.Rows
section
variable {X:Cx}
theorem bin {a b:Expr}{ta tb:TE} (ha:PE X a ta) (hb:PE X b tb) {pins:List (Addr×Obj)}{s:Shared}{σ:St}{H:Hp}{R:V->V->Hp->Prop} (I:Inv X pins σ H s) (h:ta σ H fun x H1=>tb σ H1 fun y H2=>R x y H2)
  {α:Type}{Q:α->Shared->Prop}{f:Value->Value->Sem α}
  (hf:∀v u s2 x y H2,Inv X pins σ H2 s2->RelV x v->RelV y u->R x y H2->wpAny (model X.prog X.w) X.A (f v u) Q X.xe s2) :
  wpAny (model X.prog X.w) X.A (eval a X.env) (fun v s₁=>wpAny (model X.prog X.w) X.A (eval b X.env) (fun u s₂=>wpAny (model X.prog X.w) X.A (f v u) Q X.xe s₂) X.xe s₁) X.xe s:=by
 refine thn (ha pins s σ H _ I h) fun v s1 ⟨x,H1,I1,r1,q1⟩=>?_
 refine thn (hb pins s1 σ H1 _ I1 q1) fun u s2 ⟨y,H2,I2,r2,q2⟩=>?_
 exact hf v u s2 x y H2 I2 r1 r2 q2
noncomputable def AW (i:Nat):TE:=fun σ H Q=>∃v,σ[i]?=some (some v)/\Q v H
noncomputable def tC (v:V):TE:=fun _ H Q=>Q v H
theorem ij {i:Nat}{x:Str}{pos:Pos} (hN:X.N[i]?=some x) (hv:Vis X.env.scope x) (hd:(x==("__debug__":Str))=false:=by decide) (hcd:(x==("__classdict__":Str))=false:=by decide):PE X (.Name x pos) (AW i):=by
 intro pins s σ H Q I h
 obtain ⟨v,e,h⟩:=h
 obtain ⟨m,hn,hl⟩:=I.loc
 obtain ⟨u,r,l⟩:=hl i x v hN e hv
 have fin:EP X pins σ Q u s:=⟨v,H,I,r,h⟩
 rcases l with ⟨hk,hm⟩|⟨hk,c,hc,hcell⟩
 ·exact wpAny_Name (wpAny_loadName_local I.ok.kind hk hn hm fin) hd
 ·rcases hk with hk|hk
  ·exact wpAny_Name (wpAny_loadName_cell I.ok.kind hk hc hcell fin) hd
  ·exact wpAny_Name (wpAny_loadName_free I.ok.kind hk hc hcell fin hcd) hd
theorem Ao {i j pos}:PE X (.Constant (.int i) j pos) (tC (.int i)):=fun _ _ _ H _ I h=>wpAny_Constant_int ⟨.int i,H,I.tok _,⟨_,rfl⟩,h⟩
theorem jk {b j pos}:PE X (.Constant (.bool b) j pos) (tC (.bl b)):=fun _ _ _ H _ I h=>Constant_bool ⟨.bl b,H,I,rfl,h⟩
theorem FK {j pos}:PE X (.Constant .none j pos) (tC .non):=fun _ _ _ H _ I h=>Constant_none ⟨.non,H,I,rfl,h⟩
theorem AH {x j pos}:PE X (.Constant (.str x) j pos) (tC (.str x)):=fun _ _ _ H _ I h=>Calls.Constant_str ⟨.str x,H,I.tok _,⟨_,rfl⟩,h⟩
noncomputable def Gl (X:Cx) (x:Str):Prop:=X.env.kindOf x=some .globalImplicit
theorem IT {E:Value->Shared->Prop}{pins:List (Addr×Obj)}{s:Shared}{σ:St}{H:Hp}{x:Str}{u:Value}{pos:Pos}{Q:Value->Shared->Prop} (I:Inv X pins σ H s) (hg:Gl X x) (hm:X.mg x=some u) (h:Q u s)
  (hd:(x==("__debug__":Str))=false:=by decide):wpAny (model X.prog X.w) X.A (eval (.Name x pos) X.env) Q E s:=
 Calls.Name_function_global I.ok.kind hg (Calls.loadGlobal_global (by rw[I.ok.glob];exact I.mod.glob.keeps I.bk) hm h) hd
theorem Mr {E:Value->Shared->Prop}{pins:List (Addr×Obj)}{s:Shared}{σ:St}{H:Hp}{x:Str}{u:Value}{pos:Pos}{Q:Value->Shared->Prop} (I:Inv X pins σ H s) (hg:Gl X x) (hm:X.mg x=none) (hv:bootBuiltins x=some u) (h:Q u s)
  (hn:x≠"__name__":=by decide) (hd:(x==("__debug__":Str))=false:=by decide):wpAny (model X.prog X.w) X.A (eval (.Name x pos) X.env) Q E s:=by
 obtain ⟨mb,h1,h2⟩:=I.mod.blt
 exact Calls.Name_function_global I.ok.kind hg (Calls.loadGlobal_builtin (by rw[I.ok.glob];exact I.mod.glob.keeps I.bk) hm (by rw[I.ok.blt];exact h1.keeps I.bk) ((h2 x hn).trans hv) h) hd
theorem UX {x:Str}{v:V}{u:Value}{pos:Pos} (hg:Gl X x) (hm:X.mg x=some u) (r:RelV v u) (hd:(x==("__debug__":Str))=false:=by decide):PE X (.Name x pos) (tC v):=
 fun _ _ _ H _ I h=>IT I hg hm ⟨v,H,I,r,h⟩ hd
variable {a b:Expr}{ta tb:TE}{pos:Pos}
noncomputable def PC (X:Cx) (op:CmpOp) (a b:Expr) (t:TE):Prop:=
 ∀(pins:List (Addr×Obj)) (s:Shared) (σ:St) (H:Hp) (Q:VK),Inv X pins σ H s->t σ H Q ->
  wpAny (model X.prog X.w) X.A (eval a X.env) (fun v s₁=>wpAny (model X.prog X.w) X.A (eval b X.env) (fun u s₂=>wpAny (model X.prog X.w) X.A (compareOp op v u) (EP X pins σ Q) X.xe s₂) X.xe s₁) X.xe s
noncomputable def tB (t:TE):TT:=fun σ H Q=>t σ H fun x H1=>∃c,x = .bl c/\Q c H1
theorem ie {op:CmpOp}{t:TE} (h:PC X op a b t) (h1:behindInMarks op b=false:=by first|exact nobehind _ (by decide) (by decide)|rfl):PE X (.Compare a [op] [b] pos) t:=fun pins s σ H Q I hw=>wpAny_Compare1 (h pins s σ H Q I hw) h1
theorem Yu {op:CmpOp}{t:TE} (h:PC X op a b t) (h1:behindInMarks op b=false:=by first|exact nobehind _ (by decide) (by decide)|rfl):PT X (.Compare a [op] [b] pos) (tB t):=by
 intro pins s σ H Q I hw
 refine wpAny_isTrue_Compare1 (thn (h pins s σ H _ I hw) fun v s1 h1=>thn h1 fun u s2 h2=>thn h2 fun c s3 ⟨x,H1,I1,r1,q1⟩=>?_) h1
 obtain ⟨d,rfl,q⟩:=q1
 cases r1
 exact wpAny_truthy_bool ⟨H1,I1,q⟩
theorem Bt {e:Expr}{t:TE} (h:PE X e t) (he:∀whole,isTrue e X.env whole=(do let v <-whole;standAt e.pos;holding [v] (truthy v)):=by intro _;rfl):PT X e (tB t):=by
 intro pins s σ H Q I hw
 refine isTrue_plain (thn (h pins s σ H _ I hw) fun v s1 ⟨x,H1,I1,r1,q1⟩=>?_) (he _)
 obtain ⟨d,rfl,q⟩:=q1
 cases r1
 exact wpAny_truthy_bool ⟨H1,I1,q⟩
variable {tA tB':TT}{rest:List Expr}
noncomputable def kj (t u:TT):TT:=fun σ H Q=>t σ H fun c H1=>if c=true then u σ H1 Q else Q false H1
noncomputable def tOr (t u:TT):TT:=fun σ H Q=>t σ H fun c H1=>if c=true then Q true H1 else u σ H1 Q
noncomputable def jB (t:TT):TT:=fun σ H Q=>t σ H fun c H1=>Q (!c) H1
theorem IV (ha:PT X a tA):PW X (.BoolOp .And [a] pos) tA:=by
 intro wh pins s σ H Q I h
 refine isTrue_and (thn (ha pins s σ H Q I h) fun c s1 e=>?_)
 cases c with
 |true=>exact isTrue_and_nil e
 |false=>exact e
theorem EX (ha:PT X a tA):PW X (.BoolOp .Or [a] pos) tA:=by
 intro wh pins s σ H Q I h
 refine isTrue_or (thn (ha pins s σ H Q I h) fun c s1 e=>?_)
 cases c with
 |false=>exact isTrue_or_nil e
 |true=>exact e
theorem MB (ha:PT X a tA) (hb:PW X (.BoolOp .And (b::rest) pos) tB'):PW X (.BoolOp .And (a::b::rest) pos) (kj tA tB'):=by
 intro wh pins s σ H Q I h
 refine isTrue_and (thn (ha pins s σ H _ I h) fun c s1 ⟨H1,I1,q1⟩=>?_)
 cases c with
 |true=>exact hb wh pins s1 σ H1 Q I1 q1
 |false=>exact ⟨H1,I1,q1⟩
theorem Hh (ha:PT X a tA) (hb:PW X (.BoolOp .Or (b::rest) pos) tB'):PW X (.BoolOp .Or (a::b::rest) pos) (tOr tA tB'):=by
 intro wh pins s σ H Q I h
 refine isTrue_or (thn (ha pins s σ H _ I h) fun c s1 ⟨H1,I1,q1⟩=>?_)
 cases c with
 |true=>exact ⟨H1,I1,q1⟩
 |false=>exact hb wh pins s1 σ H1 Q I1 q1
theorem CY (ha:PT X a tA):PT X (.UnaryOp .Not a pos) (jB tA):=by
 intro pins s σ H Q I h
 exact isTrue_not (ha pins s σ H (fun c H1=>Q (!c) H1) I h)
noncomputable def ko (ta tb:TE):TE:=fun σ H Q=>ta σ H fun x H1=>∃c,x = .bl c/\if c=true then Q (.bl true) H1 else tb σ H1 Q
theorem ig {op}{t:TE} (h:PE X a t):PE X (.BoolOp op [a] pos) t:=fun pins s σ H Q I hw=>BoolOp_one (h pins s σ H Q I hw)
theorem jl (ha:PE X a ta) (hb:PE X (.BoolOp .Or (b::rest) pos) tb):PE X (.BoolOp .Or (a::b::rest) pos) (ko ta tb):=by
 intro pins s σ H Q I h
 refine BoolOp_or (thn (ha pins s σ H _ I h) fun v s1 ⟨x,H1,I1,r1,q1⟩=>?_)
 obtain ⟨c,rfl,q1⟩:=q1
 cases r1
 refine wpAny_truthy_bool ?_
 cases c with
 |false=>exact hb pins s1 σ H1 Q I1 q1
 |true=>exact ⟨.bl true,H1,I1,rfl,q1⟩
noncomputable def tIf (t:TT) (ta tb:TE):TE:=fun σ H Q=>t σ H fun c H1=>if c=true then ta σ H1 Q else tb σ H1 Q
theorem Ig {c:Expr} (hc:PT X c tA) (ha:PE X a ta) (hb:PE X b tb):PE X (.IfExp c a b pos) (tIf tA ta tb):=by
 intro pins s σ H Q I h
 refine wpAny_IfExp (thn (hc pins s σ H _ I h) fun d s1 ⟨H1,I1,q1⟩=>?_)
 cases d with
 |true=>exact ha pins s1 σ H1 Q I1 q1
 |false=>exact hb pins s1 σ H1 Q I1 q1
end
end L2
namespace L2
open PySem PySem.Spec PyProof.Rows
noncomputable def SqL (K:PySem.W.Frag) (H:Hp) (a:Addr) (xs:List V):Prop:=
 Rd H a (.lst xs) \/
  ∃(o:Obj) (its:Array Value) (n:Nat),K.lookup a=some o/\o.cls = .type "list"/\o.dict=none/\o.data = .seq its n/\its.size<=sizeLine/\Vals xs its.toList
noncomputable def SqT (K:PySem.W.Frag) (H:Hp) (a:Addr) (xs:List V):Prop:=
 Rd H a (.tup xs) \/
  ∃(o:Obj) (its:Array Value) (n:Nat),K.lookup a=some o/\o.cls = .type "tuple"/\o.data = .seq its n/\its.size<=sizeLine/\Vals xs its.toList
noncomputable def jJ:Value->Option V
 |.none=>some .non
 |.bool b=>some (.bl b)
 |.int i _=>some (.int i)
 |.str x _=>some (.str x)
 |.bytes b _=>some (.byt b)
 |.float b _=>some (.flt b)
 |.ref a=>some (.ref a)
 |.type n=>some (.ty n)
 |_=>none
theorem RelV.abs {x:V}{u:Value} (r:RelV x u):jJ u=some x:=by
 cases x with
 |non=>cases r;rfl
 |bl _=>cases r;rfl
 |int _=>obtain ⟨t,rfl⟩:=r;rfl
 |str _=>obtain ⟨t,rfl⟩:=r;rfl
 |byt _=>obtain ⟨t,rfl⟩:=r;rfl
 |flt _=>obtain ⟨t,rfl⟩:=r;rfl
 |ref _=>cases r;rfl
 |ty _=>cases r;rfl
theorem RelV.inj {x y:V}{u:Value} (r:RelV x u) (q:RelV y u):x=y:=Option.some.inj (r.abs.symm.trans q.abs)
theorem Vals.inj:∀{xs ys:List V}{us:List Value},Vals xs us->Vals ys us->xs=ys
 |_,_,_,.nil,.nil=>rfl
 |_,_,_,.cons r t,.cons r' t'=>by rw[r.inj r',Vals.inj t t']
section
variable {X:Cx}{pins:List (Addr×Obj)}{σ:St}{H:Hp}{s:Shared}{a:Addr}{xs ys:List V}
theorem SqL.of {K:PySem.W.Frag} (h:H a=some (.lst xs)):SqL K H a xs:=.inl (.inl h)
theorem SqT.of {K:PySem.W.Frag} (h:H a=some (.tup xs)):SqT K H a xs:=.inl (.inl h)
theorem Inv.list (I:Inv X pins σ H s) (h:SqL X.K H a xs):∃its:List Value,Vals xs its/\PlainL s.heap a its.toArray/\xs.length<=sizeLine:=by
 rcases h with h|⟨o,its,n,hk,hc,hd,hs,hz,r⟩
 ·obtain ⟨z,its,n,r,e⟩:=h.ok I.hok
  exact ⟨its,r,⟨_,n,e,rfl,rfl,rfl⟩,z⟩
 ·refine ⟨its.toList,r,⟨o,n,I.kIn a o hk,hc,hd,by simpa using hs⟩,?_⟩
  have e:=r.length
  simp only [Array.length_toList] at e
  omega
theorem Inv.tuple (I:Inv X pins σ H s) (h:SqT X.K H a xs):∃its:List Value,Vals xs its/\IsTup s.heap a its.toArray/\xs.length<=sizeLine:=by
 rcases h with h|⟨o,its,n,hk,hc,hs,hz,r⟩
 ·obtain ⟨z,its,r,p⟩:=h.ok I.hok
  exact ⟨its,r,p,z⟩
 ·refine ⟨its.toList,r,⟨o,I.kIn a o hk,hc,n,by simpa using hs⟩,?_⟩
  have e:=r.length
  simp only [Array.length_toList] at e
  omega
theorem Inv.PV (I:Inv X pins σ H s) (h:SqL X.K H a xs) (h':SqL X.K H a ys):xs=ys:=by
 obtain ⟨its,r,⟨o,n,e,_,_,d⟩,_⟩:=I.list h
 obtain ⟨its',r',⟨o',n',e',_,_,d'⟩,_⟩:=I.list h'
 rw[e] at e';cases e'
 rw[d] at d'
 injection d' with d1 _
 have:its=its':=by simpa using congrArg Array.toList d1
 subst this
 exact r.inj r'
theorem Inv.aW (I:Inv X pins σ H s) (h:SqT X.K H a xs) (h':SqT X.K H a ys):xs=ys:=by
 obtain ⟨its,r,⟨o,e,_,n,d⟩,_⟩:=I.tuple h
 obtain ⟨its',r',⟨o',e',_,n',d'⟩,_⟩:=I.tuple h'
 rw[e] at e';cases e'
 rw[d] at d'
 injection d' with d1 _
 have:its=its':=by simpa using congrArg Array.toList d1
 subst this
 exact r.inj r'
end
noncomputable abbrev Cx.MO (X:Cx) (E:Value->Shared->Prop):Cx:={ X with xe:=E }
noncomputable abbrev Cx.nox (X:Cx):Cx:=X.MO fun _ _=>False
theorem Cx.Ok.MO {X:Cx} (ok:X.Ok) (E:Value->Shared->Prop):(X.MO E).Ok:=
 ⟨ok.mod,ok.kind,ok.glob,ok.blt,ok.above,ok.inj,ok.has,ok.cab,ok.hd,ok.frames,ok.stk,ok.exf,ok.bs,ok.bsz,ok.ao,ok.ZQ,ok.KR,ok.frf⟩
theorem Cx.Ok.Fe {X:Cx}{E:Value->Shared->Prop} (ok:(X.MO E).Ok):X.Ok:=
 ⟨ok.mod,ok.kind,ok.glob,ok.blt,ok.above,ok.inj,ok.has,ok.cab,ok.hd,ok.frames,ok.stk,ok.exf,ok.bs,ok.bsz,ok.ao,ok.ZQ,ok.KR,ok.frf⟩
section
variable {X:Cx}{pins:List (Addr×Obj)}{σ:St}{H:Hp}{s:Shared}{E:Value->Shared->Prop}
theorem Inv.MO (I:Inv X pins σ H s) (E:Value->Shared->Prop):Inv (X.MO E) pins σ H s:=⟨I.ok.MO E,I.os,I.bare,I.base,I.loc,I.cell,I.free,I.ER,I.pin,I.hok,I.len⟩
theorem Inv.Fe (I:Inv (X.MO E) pins σ H s):Inv X pins σ H s:=⟨I.ok.Fe,I.os,I.bare,I.base,I.loc,I.cell,I.free,I.ER,I.pin,I.hok,I.len⟩
theorem SP.Fe {D:Ends}{f:Flow}{s':Shared} (h:SP (X.MO E) pins D f s'):SP X pins D f s':=by
 cases f with
 |next=>obtain ⟨σ',H',I,q⟩:=h;exact ⟨σ',H',I.Fe,q⟩
 |brk=>obtain ⟨σ',H',I,q⟩:=h;exact ⟨σ',H',I.Fe,q⟩
 |cont=>obtain ⟨σ',H',I,q⟩:=h;exact ⟨σ',H',I.Fe,q⟩
 |ret u=>obtain ⟨v,σ',H',I,r,q⟩:=h;exact ⟨v,σ',H',I.Fe,r,q⟩
theorem PSs.nox {st:List Stmt}{t:TS} (h:PSs X.nox st t):PSs X st t:=fun pins s σ H D I hw=>
 wpAny_mono (h pins s σ H D (I.MO _) hw) (fun _ _ q=>q.Fe) fun _ _ z=>False.elim z
end
section
variable {X:Cx}{st:Stmt}{rest:List Stmt}{t u:TS}{e:Expr}{te:TE}{pos:Pos}
noncomputable def NX:TS:=fun D σ H=>D.nx σ H
noncomputable def Kl (t u:TS):TS:=fun D σ H=>t { D with nx:=u D } σ H
theorem Ax:PSs X [] NX:=fun _ _ σ H _ I h=>wpAny_execs_nil ⟨σ,H,I,h⟩
theorem Ab (h1:PS X st t) (h2:PSs X rest u):PSs X (st::rest) (Kl t u):=by
 intro pins s σ H D I h
 refine wpAny_execs_cons (thn (h1 pins s σ H { D with nx:=u D } I h) fun f s1 q=>?_)
 cases f with
 |next=>
  obtain ⟨σ',H',I',q⟩:=q
  exact h2 pins s1 σ' H' D I' q
 |ret v=>exact q
 |brk=>exact q
 |cont=>exact q
theorem Af (h1:PS X st t):PSs X [st] t:=by
 intro pins s σ H D I h
 refine wpAny_execs_cons (thn (h1 pins s σ H D I h) fun f s1 q=>?_)
 cases f with
 |next=>exact wpAny_execs_nil q
 |ret v=>exact q
 |brk=>exact q
 |cont=>exact q
theorem Inv.quiet {pins:List (Addr×Obj)}{σ:St}{H:Hp}{s:Shared} (I:Inv X pins σ H s):interactive X.env=false:=by simp[interactive,I.ok.kind]
noncomputable def Xb (te:TE):TS:=fun D σ H=>te σ H fun _ H1=>D.nx σ H1
theorem AJ (he:PE X e te) (hs:swapsWith e none pos.line X.env=pure false:=by rfl):PS X (.Expr e pos) (Xb te):=by
 intro pins s σ H D I h
 exact wpAny_Expr_any (thn (he pins s σ H _ I h) fun v s1 ⟨x,H1,I1,r1,q1⟩=>⟨σ,H1,I1,q1⟩) I.quiet hs
noncomputable def MI (te:TE):TS:=fun D σ H=>te σ H D.rt
theorem Ap (he:PE X e te):PS X (.Return (some e) pos) (MI te):=by
 intro pins s σ H D I h
 exact wpAny_Return_some (thn (he pins s σ H _ I h) fun v s1 ⟨x,H1,I1,r1,q1⟩=>⟨x,σ,H1,I1,r1,q1⟩)
noncomputable def YE (c:TT) (t u:TS):TS:=fun D σ H=>c σ H fun b H1=>if b=true then t D σ H1 else u D σ H1
theorem AS {c:Expr}{a b:List Stmt}{tc:TT} (hc:PT X c tc) (ha:PSs X a t) (hb:PSs X b u):PS X (.If c a b pos) (YE tc t u):=by
 intro pins s σ H D I h
 refine wpAny_If (thn (hc pins s σ H _ I h) fun d s1 ⟨H1,I1,q1⟩=>?_)
 cases d with
 |true=>exact ha pins s1 σ H1 D I1 q1
 |false=>exact hb pins s1 σ H1 D I1 q1
end
noncomputable abbrev TG:=V->St->Hp->(St->Hp->Prop)->Prop
noncomputable abbrev TGs:=List V->St->Hp->(St->Hp->Prop)->Prop
noncomputable def PG (X:Cx) (target:Expr) (t:TG):Prop:=
 ∀(pins:List (Addr×Obj)) (s:Shared) (σ:St) (H:Hp) (v:V) (u:Value) (Q:St->Hp->Prop),Inv X pins σ H s->RelV v u->t v σ H Q ->
  wpAny (model X.prog X.w) X.A (assign target X.env u) (fun _ s'=>∃σ' H',Inv X pins σ' H' s'/\Q σ' H') X.xe s
noncomputable def PGs (X:Cx) (ts:List Expr) (t:TGs):Prop:=
 ∀(pins:List (Addr×Obj)) (s:Shared) (σ:St) (H:Hp) (vs:List V) (us:List Value) (Q:St->Hp->Prop),Inv X pins σ H s->Vals vs us->t vs σ H Q ->
  wpAny (model X.prog X.w) X.A (assignInOrder ((assignEach ts X.env).map (·.2)) us) (fun _ s'=>∃σ' H',Inv X pins σ' H' s'/\Q σ' H') X.xe s
noncomputable abbrev gj:=V->V->V->Hp->(Hp->Prop)->Prop
noncomputable def iR (X:Cx) (t:gj):Prop:=
 ∀(pins:List (Addr×Obj)) (s:Shared) (σ:St) (H:Hp) (o i v:V) (ov iv u:Value) (Q:Hp->Prop),Inv X pins σ H s->RelV o ov->RelV i iv->RelV v u->t o i v H Q ->
  wpAny (model X.prog X.w) X.A (setItem ov iv u) (fun _ s'=>∃H',Inv X pins σ H' s'/\Q H') X.xe s
noncomputable abbrev TIp:=V->V->Hp->VK->Prop
noncomputable def PIp (X:Cx) (op:Operator) (t:TIp):Prop:=
 ∀(pins:List (Addr×Obj)) (s:Shared) (σ:St) (H:Hp) (x y:V) (v u:Value) (Q:VK),Inv X pins σ H s->RelV x v->RelV y u->t x y H Q ->
  wpAny (model X.prog X.w) X.A (inplaceOp op v u) (EP X pins σ Q) X.xe s
section
variable {X:Cx}{pos:Pos}
noncomputable def FQ (i:Nat):TG:=fun v σ H Q=>Q (σ.set i (some v)) H
theorem Bm {i:Nat}{x:Str} (hN:X.N.Nodup) (hi:X.N[i]?=some x) (hx:Loc X.env.scope x) (hf:X.fn x=true\/X.env.scope.names.lookup x=some .local:=by first|exact .inl rfl|exact .inr rfl|assumption):PG X (.Name x pos) (FQ i):=by
 intro pins s σ H v u Q I r h
 exact wpAny_assign_Name (LW I hN hi hx r (fun s' I'=>⟨_,H,I',h⟩) hf)
noncomputable def jQ:TGs:=fun vs σ H Q=>vs=[]/\Q σ H
noncomputable def iW (t:TG) (u:TGs):TGs:=fun vs σ H Q=>∃v r,vs=v::r/\t v σ H fun σ' H'=>u r σ' H' Q
theorem ON:PGs X [] jQ:=by
 intro pins s σ H vs us Q I r h
 obtain ⟨e,h⟩:=h
 subst e
 cases r
 exact assignInOrder_nil ⟨σ,H,I,h⟩
theorem Ec {e:Expr}{es:List Expr}{t:TG}{u:TGs} (h1:PG X e t) (h2:PGs X es u)
  (hs:(assignEach (e::es) X.env).map (·.2)=assign e X.env::(assignEach es X.env).map (·.2):=by rfl):PGs X (e::es) (iW t u):=by
 intro pins s σ H vs us Q I r h
 obtain ⟨v,vr,e1,h⟩:=h
 subst e1
 cases r with
 |cons r rr=>
  rw[hs]
  refine assignInOrder_cons (thn (h1 pins s σ H _ _ _ I r h) fun _ s1 ⟨σ1,H1,I1,q1⟩=>?_)
  exact h2 pins s1 σ1 H1 _ _ Q I1 rr q1
noncomputable def jR (K:PySem.W.Frag) (n:Nat) (t:TGs):TG:=fun v σ H Q=>∃a xs,v = .ref a/\SqT K H a xs/\xs.length=n/\t xs σ H Q
theorem UY {es:List Expr}{k:Nat}{t:TGs}{n:Nat} (hc:X.calm=true) (h:PGs X es t)
  (hn:(assignEach es X.env).length=n:=by rfl) (hst:(assignEach es X.env).findIdx? (·.1)=none:=by rfl):PG X (.Tuple es k pos) (jR X.K n t):=by
 intro pins s σ H v u Q I r hw
 obtain ⟨a,xs,e1,hq,hl,hw⟩:=hw
 subst e1
 cases r
 obtain ⟨its,rv,ht,hz⟩:=I.tuple hq
 refine assign_Tuple_tuple (I.ok.hd hc) ht (by simp[hn,<-hl,rv.length]) hst fun h' hx=>?_
 have I1:Inv X pins σ H { s with heap:=h' }:=I.kept (t':=s.toks) fun b o e=>hx b o (Nat.ne_of_lt (Heap.lt_size e)) e
 exact h pins _ σ H xs _ Q I1 (by simpa using rv) hw
noncomputable def Rl (te:TE) (g:TG):TS:=fun D σ H=>te σ H fun x H1=>g x σ H1 D.nx
theorem Al {i:Nat}{x:Str}{e:Expr}{te:TE}{pos':Pos} (hN:X.N.Nodup) (hi:X.N[i]?=some x) (hx:Loc X.env.scope x) (he:PE X e te) (hs:swapsWith e (some (.Name x pos')) pos.line X.env=pure false:=by rfl) (hf:X.fn x=true\/X.env.scope.names.lookup x=some .local:=by first|exact .inl rfl|exact .inr rfl|assumption) :
  PS X (.Assign [.Name x pos'] e pos) (Rl te (FQ i)):=by
 intro pins s σ H D I h
 refine wpAny_Assign_Name (thn (he pins s σ H _ I h) fun v s1 ⟨y,H1,I1,r1,q1⟩=>?_) hs
 exact LW I1 hN hi hx r1 (fun s2 I2=>⟨_,H1,I2,q1⟩) hf
noncomputable def kl (i:Nat) (te:TE) (ti:TIp):TS:=fun D σ H=>∃x,σ[i]?=some (some x)/\te σ H fun y H1=>ti x y H1 fun z H2=>D.nx (σ.set i (some z)) H2
theorem cG {i:Nat}{x:Str}{e:Expr}{te:TE}{op:Operator}{ti:TIp}{pos':Pos} (hN:X.N.Nodup) (hi:X.N[i]?=some x) (hx:Loc X.env.scope x) (he:PE X e te) (ho:PIp X op ti) (hf:X.fn x=true\/X.env.scope.names.lookup x=some .local:=by first|exact .inl rfl|exact .inr rfl|assumption) :
  PS X (.AugAssign (.Name x pos') op e pos) (kl i te ti):=by
 intro pins s σ H D I h
 obtain ⟨v,e1,h⟩:=h
 obtain ⟨m,hn,hl⟩:=I.loc
 have vis:Vis X.env.scope x:=by rcases hx with k|k;exact .inl k;exact .inr (.inl k)
 obtain ⟨u,r,l⟩:=hl i x v hi e1 vis
 refine wpAny_AugAssign_Name ?_
 have go:wpAny (model X.prog X.w) X.A (eval e X.env) (fun w s₂=>wpAny (model X.prog X.w) X.A (inplaceOp op u w) (fun r s₃=>wpAny (model X.prog X.w) X.A (storeName X.env x r) (fun _=>SP X pins D .next) X.xe s₃) X.xe s₂) X.xe s:=by
  refine thn (he pins s σ H _ I h) fun w s1 ⟨y,H1,I1,r1,q1⟩=>?_
  refine thn (ho pins s1 σ H1 v y u w _ I1 r r1 q1) fun z s2 ⟨zv,H2,I2,r2,q2⟩=>?_
  exact LW I2 hN hi hx r2 (fun s3 I3=>⟨_,H2,I3,q2⟩) hf
 rcases l with ⟨hk,hm⟩|⟨hk,c,hc,hcell⟩
 ·exact wpAny_loadName_local I.ok.kind hk hn hm go
 ·rcases hk with hk|hk
  ·exact wpAny_loadName_cell I.ok.kind hk hc hcell go
  ·rcases hx with k|k
   ·have:X.env.scope.names.lookup x=some .free:=hk
    rw[k] at this;cases this
   ·have:X.env.scope.names.lookup x=some .free:=hk
    rw[k] at this;cases this
noncomputable def jw (to ti te:TE) (tget:V->V->Hp->VK->Prop) (tip:TIp) (tset:gj):TS:=fun D σ H=>to σ H fun o H1=>ti σ H1 fun i H2=>tget o i H2 fun x H3=>te σ H3 fun y H4=>tip x y H4 fun z H5=>tset o i z H5 fun H6=>D.nx σ H6
noncomputable def iQ (X:Cx) (t:V->V->Hp->VK->Prop):Prop:=
 ∀(pins:List (Addr×Obj)) (s:Shared) (σ:St) (H:Hp) (o i:V) (ov iv:Value) (Q:VK),Inv X pins σ H s->RelV o ov->RelV i iv->t o i H Q ->
  wpAny (model X.prog X.w) X.A (getItem ov iv) (EP X pins σ Q) X.xe s
theorem fc {o i e:Expr}{to ti te:TE}{tget:V->V->Hp->VK->Prop}{tip:TIp}{tset:gj}{op:Operator}{tpos:Pos} (ho:PE X o to) (hi:PE X i ti) (hg:iQ X tget) (he:PE X e te) (hp:PIp X op tip) (hs:iR X tset)
  (ha:∀ov iv new,augStore i ov iv new=(do holding [new,ov,iv] (setItem ov iv new);release [new,ov,iv] [];pure .next):=by intros;rfl):PS X (.AugAssign (.Subscript o i tpos) op e pos) (jw to ti te tget tip tset):=by
 intro pins s σ H D I h
 refine wpAny_AugAssign_SubscriptAny (thn (ho pins s σ H _ I h) fun ov s1 ⟨x1,H1,I1,r1,q1⟩=>?_) ha
 refine thn (hi pins s1 σ H1 _ I1 q1) fun iv s2 ⟨x2,H2,I2,r2,q2⟩=>?_
 refine thn (hg pins s2 σ H2 x1 x2 ov iv _ I2 r1 r2 q2) fun old s3 ⟨x3,H3,I3,r3,q3⟩=>?_
 refine thn (he pins s3 σ H3 _ I3 q3) fun v s4 ⟨x4,H4,I4,r4,q4⟩=>?_
 refine thn (hp pins s4 σ H4 x3 x4 old v _ I4 r3 r4 q4) fun new s5 ⟨x5,H5,I5,r5,q5⟩=>?_
 exact thn (hs pins s5 σ H5 x1 x2 x5 ov iv new _ I5 r1 r2 r5 q5) fun _ s6 ⟨H6,I6,q6⟩=>⟨σ,H6,I6,q6⟩
noncomputable def ipI (f:Int->Int->Int):TIp:=fun x y H Q=>∃i j,x = .int i/\y = .int j/\Q (.int (f i j)) H
theorem XT:PIp X .Add (ipI fun i j=>i+j):=by
 intro pins s σ H x y v u Q I r1 r2 h
 obtain ⟨i,j,e1,e2,q⟩:=h
 subst e1;subst e2
 obtain ⟨t,rfl⟩:=r1
 obtain ⟨t',rfl⟩:=r2
 exact iadd_int ⟨.int _,H,I.tok _,⟨_,rfl⟩,q⟩
end
section
variable {X:Cx}{pos:Pos}
noncomputable def MJ (c:TT) (tb:TS):TS:=fun D σ H=>∃W:Nat->St->Hp->Prop,(∃m,W m σ H)/\∀m σ H,W m σ H ->
 c σ H fun b H1=>if b=true then ∃N:St->Hp->Prop,(∀σ' H',N σ' H'->∃m',m'<m/\W m' σ' H')/\tb { D with nx:=N,ct:=N,bk:=D.nx } σ H1 else D.nx σ H1
theorem Cs {c:Expr}{body:List Stmt}{tc:TT}{tb:TS} (hp:PassesOwn (model X.prog X.w) X.A X.env X.xe) (hc:PT X c tc) (hb:PSs X body tb):PS X (.While c body [] pos) (MJ tc tb):=by
 intro pins s σ H D I h
 obtain ⟨W,⟨m0,w0⟩,turn⟩:=h
 refine wpAny_While (codeAny_whileLoop (fun n s'=>∃σ' H',Inv X pins σ' H' s'/\W n σ' H') ?_ m0 ⟨σ,H,I,w0⟩)
 rintro n s1 ⟨σ1,H1,I1,w1⟩
 refine wpAny_passesOwn hp (thn (hc pins s1 σ1 H1 _ I1 (turn n σ1 H1 w1)) fun b s2 ⟨H2,I2,q2⟩=>?_)
 cases b with
 |true=>
  obtain ⟨N,hN,q2⟩:=q2
  rw[if_pos rfl]
  refine wpAny_passesOwn hp (thn (hb pins s2 σ1 H2 _ I2 q2) fun f s3 q3=>?_)
  cases f with
  |next=>
   obtain ⟨σ3,H3,I3,n3⟩:=q3
   obtain ⟨m',hm,w3⟩:=hN σ3 H3 n3
   exact ⟨m',hm,σ3,H3,I3,w3⟩
  |cont=>
   obtain ⟨σ3,H3,I3,n3⟩:=q3
   obtain ⟨m',hm,w3⟩:=hN σ3 H3 n3
   exact ⟨m',hm,σ3,H3,I3,w3⟩
  |brk=>exact q3
  |ret v=>exact q3
 |false=>
  rw[if_neg Bool.false_ne_true]
  exact wpAny_execs_nil ⟨σ1,H2,I2,q2⟩
end
structure It where
 go:Nat->Hp->Prop
 yld:Nat->Hp->V->Hp->Prop
 stop:Nat->Hp->Prop
noncomputable def OU (X:Cx) (pins:List (Addr×Obj)) (H:Hp) (b:Addr):Prop:=
 H b=none/\b≠X.env.locals/\b∉X.fs/\(b∈X.ex\/X.s_0.heap.objs.size<=b)/\(∀x c,X.env.cells.lookup x=some c->c≠b)/\∀p∈X.pn++pins,p.1≠b
theorem Inv.XR {X:Cx}{pins:List (Addr×Obj)}{σ:St}{H H':Hp}{s:Shared}{b:Addr} (I:Inv X pins σ H s) (hb:s.heap.objs.size<=b) (hn:H' b=none):OU X pins H' b:=by
 refine ⟨hn,Nat.ne_of_gt (Nat.lt_of_lt_of_le I.lt hb),I.jW hb,.inr (Nat.le_trans I.sz hb),fun x c e z=>?_,fun p hp z=>?_⟩
 ·obtain ⟨v,q⟩:=I.cell x c e
  exact absurd (Nat.lt_of_lt_of_le q.lt (by rw[z];exact hb)) (Nat.lt_irrefl _)
 ·exact absurd (Nat.lt_of_lt_of_le (Heap.lt_size (I.pin p hp).1) (by rw[z];exact hb)) (Nat.lt_irrefl _)
structure Turn (P:Program) (w:World) (K:PySem.W.Frag) (tg:Expr) (J:It) (fp:List Addr) (it:Addr) (tn:Nat->Heap->Prop):Prop where
 mem:it∈fp
 obj:∀i h,tn i h->∀b∈fp,∃o,h.get? b=some o/\∀v,o.data≠.cell v
 keep:∀i h h',tn i h->(∀b∈fp,∀o,h.get? b=some o->h'.get? b=some o)->tn i h'
 item:∀(X:Cx),X.prog=P->X.w=w->X.K=K->X.calm=true->∀(i:Nat) (pins:List (Addr×Obj)) (s:Shared) (σ:St) (H:Hp) (E:Value->Shared->Prop),Inv X pins σ H s->(∀b∈fp,OU X pins H b)->tn i s.heap->J.go i H ->
  wpAny (model P w) X.A (pyNext (.ref it)) (fun r s1=>∃u,r=some u /\
   wpAny (model P w) X.A (letOwnedTupleGo tg (.ref it) u) (fun _ s2=>∃x H',Inv X pins σ H' s2/\RelV x u/\J.yld i H x H'/\tn (i+1) s2.heap/\∀b∈fp,H' b=none) E s1) E s
 done:∀(X:Cx),X.prog=P->X.w=w->X.K=K->X.calm=true->∀(i:Nat) (pins:List (Addr×Obj)) (s:Shared) (σ:St) (H:Hp) (E:Value->Shared->Prop),Inv X pins σ H s->(∀b∈fp,OU X pins H b)->tn i s.heap->J.stop i H ->
  wpAny (model P w) X.A (pyNext (.ref it)) (fun r s1=>r=none/\Inv X pins σ H s1) E s
 self:∀(A:Around) (i:Nat) (s:Shared) (Q:Value->Shared->Prop) (E:Value->Shared->Prop),tn i s.heap->Q (.ref it) s->wpAny (model P w) A (pyIter (.ref it)) Q E s
noncomputable abbrev TI:=St->Hp->(It->Hp->Prop)->Prop
noncomputable def PIE (X:Cx) (pins:List (Addr×Obj)) (σ:St) (tg:Expr) (R:It->Hp->Prop) (itv:Value) (s2:Shared):Prop:=
 ∃(it:Addr) (fp:List Addr) (tn:Nat->Heap->Prop) (J:It) (H':Hp),itv = .ref it/\Inv X pins σ H' s2/\Turn X.prog X.w X.K tg J fp it tn/\tn 0 s2.heap/\(∀b∈fp,OU X pins H' b)/\R J H'
noncomputable def PI (X:Cx) (tg iter:Expr) (wi:TI):Prop:=
 ∀(pins:List (Addr×Obj)) (s:Shared) (σ:St) (H:Hp) (R:It->Hp->Prop),Inv X pins σ H s->wi σ H R ->
  wpAny (model X.prog X.w) X.A (eval iter X.env) (fun v s1=>wpAny (model X.prog X.w) X.A (pyIter v) (PIE X pins σ tg R) X.xe s1) X.xe s
theorem Ze {M:Model}{A:Around}{E:Value->Shared->Prop}{s:Shared}{tg:Expr}{it:Addr}{u:Value}{o:Obj}{n:String}{vs:Array Value}{Q:Unit->Shared->Prop} (ho:s.heap.get? it=some o) (hc:o.cls = .type n) (hd:o.data = .fields vs)
  (hn:["enumerate","zip","dict_itemiterator","dict_reverseitemiterator","odict_iterator","itertools.zip_longest","itertools.pairwise"].contains n=false) (hQ:Q () s):wpAny M A (letOwnedTupleGo tg (.ref it) u) Q E s:=by
 unfold letOwnedTupleGo
 cases tg<;>first
  |exact wpAny_pure hQ
  |(cases u<;>first
    |exact wpAny_pure hQ
    |(refine wpAny_bind (wpAny_load ho ?_)
      rw[hc,hd]
      show wpAny M A (if (["enumerate","zip","dict_itemiterator","dict_reverseitemiterator","odict_iterator","itertools.zip_longest","itertools.pairwise"].contains n&&vs[0]?==some (rawInt _))=true then _ else _) Q E s
      rw[if_neg (by intro h;rw[hn,Bool.false_and] at h;cases h)]
      exact wpAny_pure hQ))
noncomputable def Itl (K:PySem.W.Frag) (a:Addr):It:=
 ⟨fun i H=>∃xs x,SqL K H a xs/\xs[i]?=some x,fun i H x H'=>H'=H/\∀xs,SqL K H a xs->xs[i]?=some x,fun i H=>∃xs,SqL K H a xs/\xs.length<=i⟩
noncomputable def Itt (K:PySem.W.Frag) (a:Addr):It:=
 ⟨fun i H=>∃xs x,SqT K H a xs/\xs[i]?=some x,fun i H x H'=>H'=H/\∀xs,SqT K H a xs->xs[i]?=some x,fun i H=>∃xs,SqT K H a xs/\xs.length<=i⟩
noncomputable def Itr (lo:Int) (n:Nat):It:=⟨fun i _=>i<n,fun i H x H'=>H'=H/\x = .int (lo+i),fun i _=>n<=i⟩
theorem aY {P:Program}{w:World}{K:PySem.W.Frag}{tg:Expr} (a it:Addr):Turn P w K tg (Itl K a) [it] it (fun i h=>h.IsListIter it a i) where
 mem:=by simp
 obj:=fun i h st b hb=>by
  have e:b=it:=by simpa using hb
  subst e
  obtain ⟨o,e,c,d⟩:=st
  exact ⟨o,e,fun v z=>by rw[d] at z;cases z⟩
 keep:=fun i h h' st k=>st.at fun o e=>k it (by simp) o e
 item:=by
  intro X hP hw hK hc i pins s σ H E I hf st hg
  subst hP hw hK
  obtain ⟨xs,x,hq,hx⟩:=hg
  obtain ⟨its,rv,p,hz⟩:=I.list hq
  obtain ⟨u,hu,ru⟩:=rv.get hx
  obtain ⟨f0,f1,f2,f3,f4,f5⟩:=hf it (by simp)
  refine wpAny_pyNext_list_item st p.isList (x:=u) (by simpa using hu) fun h' st' sb=>?_
  have I1:Inv X pins σ H { s with heap:=h' }:=I.turned (t':=s.toks) (fun b o hb e=>(sb.2 b hb).trans e) f0 f1 f3 f4 f5
  obtain ⟨o,e,c,d⟩:=id st'
  exact ⟨u,rfl,Ze (s:={ s with heap:=h' }) e c d (by decide) ⟨x,H,I1,ru,⟨rfl,fun ys hy=>by rw[I.PV hy hq];exact hx⟩,st',fun b hb=>(hf b hb).1⟩⟩
 done:=by
  intro X hP hw hK hc i pins s σ H E I hf st hg
  subst hP hw hK
  obtain ⟨xs,hq,hx⟩:=hg
  obtain ⟨its,rv,p,hz⟩:=I.list hq
  obtain ⟨f0,f1,f2,f3,f4,f5⟩:=hf it (by simp)
  have hl:=rv.length
  exact wpAny_pyNext_list_end (I.ok.hd hc) st p.isList (by simp;omega) fun h' eb=>⟨rfl,I.turned (t':=s.toks) (fun b o hb e=>eb b o hb e) f0 f1 f3 f4 f5⟩
 self:=fun _ _ _ _ _ st h=>wpAny_pyIter_listiter st h
theorem YK {P:Program}{w:World}{K:PySem.W.Frag}{tg:Expr} (a it:Addr):Turn P w K tg (Itt K a) [it] it (fun i h=>h.IsTupleIter it a i) where
 mem:=by simp
 obj:=fun i h st b hb=>by
  have e:b=it:=by simpa using hb
  subst e
  obtain ⟨o,e,c,d⟩:=st
  exact ⟨o,e,fun v z=>by rw[d] at z;cases z⟩
 keep:=fun i h h' st k=>st.at fun o e=>k it (by simp) o e
 item:=by
  intro X hP hw hK hc i pins s σ H E I hf st hg
  subst hP hw hK
  obtain ⟨xs,x,hq,hx⟩:=hg
  obtain ⟨its,rv,p,hz⟩:=I.tuple hq
  obtain ⟨u,hu,ru⟩:=rv.get hx
  obtain ⟨f0,f1,f2,f3,f4,f5⟩:=hf it (by simp)
  refine wpAny_pyNext_tuple_item st (show s.heap.IsTuple a its.toArray from p) (x:=u) (by simpa using hu) fun h' st' sb=>?_
  have I1:Inv X pins σ H { s with heap:=h' }:=I.turned (t':=s.toks) (fun b o hb e=>(sb.2 b hb).trans e) f0 f1 f3 f4 f5
  obtain ⟨o,e,c,d⟩:=id st'
  exact ⟨u,rfl,Ze (s:={ s with heap:=h' }) e c d (by decide) ⟨x,H,I1,ru,⟨rfl,fun ys hy=>by rw[I.aW hy hq];exact hx⟩,st',fun b hb=>(hf b hb).1⟩⟩
 done:=by
  intro X hP hw hK hc i pins s σ H E I hf st hg
  subst hP hw hK
  obtain ⟨xs,hq,hx⟩:=hg
  obtain ⟨its,rv,p,hz⟩:=I.tuple hq
  obtain ⟨f0,f1,f2,f3,f4,f5⟩:=hf it (by simp)
  have hl:=rv.length
  exact wpAny_pyNext_tuple_end (I.ok.hd hc) st (show s.heap.IsTuple a its.toArray from p) (by simp;omega) fun h' eb=>⟨rfl,I.turned (t':=s.toks) (fun b o hb e=>eb b o hb e) f0 f1 f3 f4 f5⟩
 self:=fun _ _ _ _ _ st h=>wpAny_pyIter_tupleiter st h
theorem YJ {P:Program}{w:World}{K:PySem.W.Frag}{tg:Expr} (it:Addr) (lo:Int) (n:Nat):Turn P w K tg (Itr lo n) [it] it (fun i h=>IsRangeIter h it (lo+(i:Nat)*1) ((n:Int)-(i:Nat)) 1) where
 mem:=by simp
 obj:=fun i h st b hb=>by
  have e:b=it:=by simpa using hb
  subst e
  exact ⟨_,st,fun v z=>by
   have z':Data.fields _=Data.cell v:=z
   cases z'⟩
 keep:=fun i h h' st k=>k it (by simp) _ st
 item:=by
  intro X hP hw hK hc i pins s σ H E I hf st hg
  subst hP hw hK
  obtain ⟨f0,f1,f2,f3,f4,f5⟩:=hf it (by simp)
  have W:=Walks.range (prog:=X.prog) (w:=X.w) (I.ok.hd hc) it lo 1 n
  refine W.item i s _ _ hg st fun v h' tk hv st' kk=>?_
  obtain ⟨t,rfl⟩:=hv
  have I1:Inv X pins σ H { s with heap:=h',toks:=tk }:=I.turned (fun b o hb e=>kk b o (by simpa using hb) e) f0 f1 f3 f4 f5
  refine ⟨_,rfl,Ze (s:={ s with heap:=h',toks:=tk }) (n:="range_iterator") st' rfl rfl (by decide) ⟨.int (lo+i),H,I1,⟨t,?_⟩,⟨rfl,rfl⟩,st',fun b hb=>(hf b hb).1⟩⟩
  rw[Int.mul_one]
 done:=by
  intro X hP hw hK hc i pins s σ H E I hf st hg
  subst hP hw hK
  obtain ⟨f0,f1,f2,f3,f4,f5⟩:=hf it (by simp)
  exact wpAny_pyNext_range_end (I.ok.hd hc) st (by have:n<=i:=hg;omega) fun h' eb=>⟨rfl,I.turned (t':=s.toks) (fun b o hb e=>eb b o hb e) f0 f1 f3 f4 f5⟩
 self:=fun _ _ _ _ _ st h=>wpAny_pyIter_rangeiter st h
end L2
namespace L2
open PySem PySem.Spec PyProof.Rows
section
variable {X:Cx}{tg:Expr}
noncomputable def fW (K:PySem.W.Frag) (tl:TE):TI:=fun σ H R=>tl σ H fun x H1=>∃a,x = .ref a/\(∃xs,SqL K H1 a xs)/\R (Itl K a) H1
noncomputable def jT (K:PySem.W.Frag) (tl:TE):TI:=fun σ H R=>tl σ H fun x H1=>∃a,x = .ref a/\(∃xs,SqT K H1 a xs)/\R (Itt K a) H1
theorem Dg {l:Expr}{tl:TE} (hl:PE X l tl):PI X tg l (fW X.K tl):=by
 intro pins s σ H R I h
 refine thn (hl pins s σ H _ I h) fun v s1 ⟨x,H1,I1,r1,q1⟩=>?_
 obtain ⟨a,e,⟨xs,hq⟩,q⟩:=q1
 subst e
 cases r1
 obtain ⟨its,rv,p,hz⟩:=I1.list hq
 refine wpAny_pyIter_list p.isList ?_
 refine ⟨s1.heap.objs.size,[s1.heap.objs.size],_,_,H1,rfl,I1.kept (t':=s1.toks) fun b o e=>Heap.get?_push_of_some _ e,aY a _,⟨_,Heap.get?_push_size _ rfl,rfl,rfl⟩,fun b hb=>?_,q⟩
 have e:b=s1.heap.objs.size:=by simpa using hb
 subst e
 exact I1.XR (Nat.le_refl _) (I1.hok.fresh (Nat.le_refl _))
theorem ik {l:Expr}{tl:TE} (hl:PE X l tl):PI X tg l (jT X.K tl):=by
 intro pins s σ H R I h
 refine thn (hl pins s σ H _ I h) fun v s1 ⟨x,H1,I1,r1,q1⟩=>?_
 obtain ⟨a,e,⟨xs,hq⟩,q⟩:=q1
 subst e
 cases r1
 obtain ⟨its,rv,p,hz⟩:=I1.tuple hq
 refine wpAny_pyIter_tuple (show s1.heap.IsTuple a its.toArray from p) ?_
 refine ⟨s1.heap.objs.size,[s1.heap.objs.size],_,_,H1,rfl,I1.kept (t':=s1.toks) fun b o e=>Heap.get?_push_of_some _ e,YK a _,⟨_,Heap.get?_push_size _ rfl,rfl,rfl⟩,fun b hb=>?_,q⟩
 have e:b=s1.heap.objs.size:=by simpa using hb
 subst e
 exact I1.XR (Nat.le_refl _) (I1.hok.fresh (Nat.le_refl _))
theorem cJ {pins:List (Addr×Obj)}{σ:St}{H:Hp}{s:Shared}{R:It->Hp->Prop}{E:Value->Shared->Prop}{lo hi:Int}{t u v:Tok}{tk:Nat} (I:Inv X pins σ H s) (h1:-(2^62)<=lo) (h2:lo<2^62) (h3:-(2^62)<=hi) (h4:hi<2^62)
  (q:R (Itr lo (hi-lo).toNat) H):wpAny (model X.prog X.w) X.A (pyIter (.ref s.heap.objs.size)) (PIE X pins σ tg R) E { s with heap:=s.heap.push { cls:=.type "range",data:=.fields #[.int lo t,.int hi u,.int 1 v] },toks:=tk }:=by
 refine wpAny_pyIter_range (IsRange.new ..) (small_one h1 h2 h3 h4) ?_
 have I1:Inv X pins σ H { s with heap:=s.heap.push { cls:=.type "range",data:=.fields #[.int lo t,.int hi u,.int 1 v] },toks:=tk }:=I.kept fun b o e=>Heap.get?_push_of_some _ e
 refine ⟨(s.heap.push { cls:=.type "range",data:=.fields #[.int lo t,.int hi u,.int 1 v] }).objs.size,[(s.heap.push { cls:=.type "range",data:=.fields #[.int lo t,.int hi u,.int 1 v] }).objs.size],_,_,H,rfl,
  I1.kept (t':=tk) fun b o e=>Heap.get?_push_of_some _ e,YJ _ lo (hi-lo).toNat,?_,fun b hb=>?_,q⟩
 ·have e1:lo+((0:Nat):Int)*1=lo:=by simp
  have e2:(((hi-lo).toNat:Nat):Int)-((0:Nat):Int)=Builtin.Range.rangeSize lo hi 1:=by rw[rangeSize_one];split<;>omega
  show IsRangeIter _ _ (lo+((0:Nat):Int)*1) ((((hi-lo).toNat:Nat):Int)-((0:Nat):Int)) 1
  rw[e1,e2]
  exact Heap.get?_push_size _ rfl
 ·have e:b=(s.heap.push { cls:=.type "range",data:=.fields #[.int lo t,.int hi u,.int 1 v] }).objs.size:=by simpa using hb
  subst e
  exact I1.XR (Nat.le_refl _) (I1.hok.fresh (Nat.le_refl _))
noncomputable def jb (ta:TA):TI:=fun σ H R=>ta σ H fun vs H1=>∃j:Int,vs=[.int j]/\-(2^62)<=j/\j<2^62/\R (Itr 0 j.toNat) H1
theorem az {a:Expr}{ta:TA}{p pos:Pos} (hg:Gl X "range") (hm:X.mg "range" = none) (ha:PA X [a] ta) (hs:starEach [a] X.env=[(false,eval a X.env)]:=by rfl):PI X tg (.Call (.Name "range" p) [a] [] pos) (jb ta):=by
 intro pins s σ H R I h
 refine Call_ (Mr I hg hm boot_range (PyProof.Rows.callWith_type1 (thn (ha pos pins s σ H _ I h) fun us s1 ⟨vs,H1,I1,r1,q1⟩=>?_) hs rfl))
 obtain ⟨j,e,q1,q2,q⟩:=q1
 subst e
 cases r1 with
 |cons r rr=>
  cases rr
  obtain ⟨t,rfl⟩:=r
  exact call_range_1 (cJ I1 (by omega) (by omega) q1 q2 (by simpa using q))
noncomputable def jz (wi:TI) (g:TG) (tb:TS):TS:=fun D σ H=>wi σ H fun J H1=>∃W:Nat->Nat->St->Hp->Prop,(∃m,W 0 m σ H1)/\∀i m σ H,W i m σ H ->
 (J.stop i H/\D.nx σ H)\/(J.go i H/\∃N:St->Hp->Prop,(∀σ' H',N σ' H'->∃m',m'<m/\W (i+1) m' σ' H')/\∀x H',J.yld i H x H'->g x σ H' fun σ2 H2=>tb { D with nx:=N,ct:=N,bk:=D.nx } σ2 H2)
noncomputable def QO (fp:List Addr) (h:Heap):List (Addr×Obj):=fp.filterMap fun b=>(h.get? b).map fun o=>(b,o)
theorem Ka {fp:List Addr}{h:Heap}{b:Addr}{o:Obj} (hb:b∈fp) (e:h.get? b=some o):(b,o)∈QO fp h:=List.mem_filterMap.mpr ⟨b,hb,by rw[e];rfl⟩
theorem aq {fp:List Addr}{h:Heap}{p:Addr×Obj} (hp:p∈QO fp h):p.1∈fp/\h.get? p.1=some p.2:=by
 obtain ⟨b,hb,e⟩:=List.mem_filterMap.mp hp
 cases q:h.get? b with
 |none=>rw[q] at e;cases e
 |some o=>
  rw[q] at e
  have e':(b,o)=p:=Option.some.inj e
  subst e'
  exact ⟨hb,q⟩
theorem Inv.pinned {pins:List (Addr×Obj)}{σ:St}{H:Hp}{s:Shared}{fp:List Addr} (I:Inv X pins σ H s) (hf:∀b∈fp,OU X pins H b) (ho:∀b∈fp,∃o,s.heap.get? b=some o/\∀v,o.data≠.cell v):Inv X (pins++QO fp s.heap) σ H s:=
 I.Va fun p hp=>(List.mem_append.mp hp).elim (fun z=>I.pin p (List.mem_append_right _ z)) fun z=>by
  obtain ⟨hb,e⟩:=aq z
  obtain ⟨f0,f1,f2,_⟩:=hf p.1 hb
  obtain ⟨o,e',d⟩:=ho p.1 hb
  rw[e] at e';cases e'
  exact ⟨e,f0,f1,f2,d⟩
theorem Inv.LZ {pins pl:List (Addr×Obj)}{σ:St}{H:Hp}{s:Shared} (I:Inv X (pins++pl) σ H s):Inv X pins σ H s:=I.Va fun p hp=>I.pin p (List.mem_append_right _ (List.mem_append_left _ hp))
theorem DN {iter:Expr}{body:List Stmt}{wi:TI}{g:TG}{tb:TS}{pos:Pos} (hp:PassesOwn (model X.prog X.w) X.A X.env X.xe) (hc:X.calm=true) (hi:PI X tg iter wi) (hg:PG X tg g) (hb:PSs X body tb)
  (hs:∀x,foldedSetIterable iter X.env x=pure x:=by intro _;rfl):PS X (.For tg iter body [] pos) (jz wi g tb):=by
 intro pins s σ H D I h
 refine wpAny_For (thn (hi pins s σ H _ I h) fun v s1 h1=>thn h1 fun itv s2 h2=>?_) hs
 obtain ⟨it,fp,tn,J,H2,e,I2,T,st2,f2,W,⟨m0,w0⟩,turn⟩:=h2
 subst e
 have stat:∀{H':Hp},(∀b∈fp,H' b=none)->∀b∈fp,OU X pins H' b:=fun hn b hb=>⟨hn b hb,(f2 b hb).2⟩
 refine codeAny_forLoop_any (fun n s'=>∃i σ' H',Inv X pins σ' H' s'/\tn i s'.heap/\(∀b∈fp,H' b=none)/\W i n σ' H') ?_ m0 ⟨0,σ,H2,I2,st2,fun b hb=>(f2 b hb).1,w0⟩
 rintro n s3 ⟨i,σ3,H3,I3,st3,fr3,w3⟩
 rcases turn i n σ3 H3 w3 with ⟨stop,qn⟩|⟨go,N,hN,step⟩
 ·refine wpAny_passesOwn hp (thn (T.done X rfl rfl rfl hc i pins s3 σ3 H3 X.xe I3 (stat fr3) st3 stop) fun r s4 ⟨hr,I4⟩=>?_)
  subst hr
  exact wpAny_execs_nil ⟨σ3,H3,I4,qn⟩
 ·refine wpAny_passesOwn hp (thn (T.item X rfl rfl rfl hc i pins s3 σ3 H3 X.xe I3 (stat fr3) st3 go) fun r s4 ⟨u,hr,h4⟩=>?_)
  subst hr
  refine wpAny_passesOwn hp (thn h4 fun _ s5 ⟨x,H5,I5,r5,y5,st5,fr5⟩=>?_)
  have I5':=I5.pinned (stat fr5) (T.obj _ _ st5)
  refine wpAny_passesOwn hp (thn (hg _ s5 σ3 H5 x u _ I5' r5 (step x H5 y5)) fun _ s6 ⟨σ6,H6,I6,q6⟩=>?_)
  refine wpAny_passesOwn hp (thn (hb _ s6 σ6 H6 _ I6 q6) fun f s7 q7=>?_)
  have again:∀{σ7:St}{H7:Hp},Inv X (pins++QO fp s5.heap) σ7 H7 s7->N σ7 H7->∃m,m<n/\∃i σ' H',Inv X pins σ' H' s7/\tn i s7.heap/\(∀b∈fp,H' b=none)/\W i m σ' H':=fun {σ7 H7} I7 n7=>by
   obtain ⟨m',hm,w7⟩:=hN σ7 H7 n7
   refine ⟨m',hm,i+1,σ7,H7,I7.LZ,T.keep _ _ _ st5 fun b hb o e=>(I7.pin (b,o) (List.mem_append_right _ (List.mem_append_right _ (Ka hb e)))).1,fun b hb=>?_,w7⟩
   obtain ⟨o,e,d⟩:=T.obj _ _ st5 b hb
   exact (I7.pin (b,o) (List.mem_append_right _ (List.mem_append_right _ (Ka hb e)))).2.1
  cases f with
  |next=>obtain ⟨σ7,H7,I7,n7⟩:=q7;exact again I7 n7
  |cont=>obtain ⟨σ7,H7,I7,n7⟩:=q7;exact again I7 n7
  |brk=>obtain ⟨σ7,H7,I7,q7⟩:=q7;exact ⟨σ7,H7,I7.LZ,q7⟩
  |ret v=>obtain ⟨x7,σ7,H7,I7,r7,q7⟩:=q7;exact ⟨x7,σ7,H7,I7.LZ,r7,q7⟩
end
theorem EO {K:PySem.W.Frag}{a:Addr}{xs:List V}{g:TG}{tb:TS}{D:Ends}{σ:St}{H:Hp} (Pv:Nat->St->Hp->Prop) (h0:Pv 0 σ H) (hl:∀i σ H,i<=xs.length->Pv i σ H->SqL K H a xs)
  (hs:∀i x σ H,xs[i]?=some x->Pv i σ H->g x σ H fun σ2 H2=>tb { D with nx:=Pv (i+1),ct:=Pv (i+1),bk:=D.nx } σ2 H2) (hd:∀σ H,Pv xs.length σ H->D.nx σ H) :
  ∃W:Nat->Nat->St->Hp->Prop,(∃m,W 0 m σ H)/\∀i m σ H,W i m σ H ->
   ((Itl K a).stop i H/\D.nx σ H)\/((Itl K a).go i H/\∃N:St->Hp->Prop,(∀σ' H',N σ' H'->∃m',m'<m/\W (i+1) m' σ' H')/\∀x H',(Itl K a).yld i H x H'->g x σ H' fun σ2 H2=>tb { D with nx:=N,ct:=N,bk:=D.nx } σ2 H2):=by
 refine ⟨fun i m σ H=>m=xs.length-i/\i<=xs.length/\Pv i σ H,⟨xs.length,by simp,Nat.zero_le _,h0⟩,?_⟩
 rintro i m σ H ⟨rfl,hi,p⟩
 have q:=hl i σ H hi p
 by_cases hlt:i<xs.length
 ·refine .inr ⟨⟨xs,xs[i],q,by simp[hlt]⟩,Pv (i+1),fun σ' H' p'=>⟨xs.length-(i+1),by omega,rfl,hlt,p'⟩,fun x H' y=>?_⟩
  obtain ⟨e,y⟩:=y
  subst e
  exact hs i x σ _ (y xs q) p
 ·have e:i=xs.length:=by omega
  subst e
  exact .inl ⟨⟨xs,q,Nat.le_refl _⟩,hd σ H p⟩
theorem eD {K:PySem.W.Frag}{a:Addr}{xs:List V}{g:TG}{tb:TS}{D:Ends}{σ:St}{H:Hp} (Pv:Nat->St->Hp->Prop) (h0:Pv 0 σ H) (hl:∀i σ H,i<=xs.length->Pv i σ H->SqT K H a xs)
  (hs:∀i x σ H,xs[i]?=some x->Pv i σ H->g x σ H fun σ2 H2=>tb { D with nx:=Pv (i+1),ct:=Pv (i+1),bk:=D.nx } σ2 H2) (hd:∀σ H,Pv xs.length σ H->D.nx σ H) :
  ∃W:Nat->Nat->St->Hp->Prop,(∃m,W 0 m σ H)/\∀i m σ H,W i m σ H ->
   ((Itt K a).stop i H/\D.nx σ H)\/((Itt K a).go i H/\∃N:St->Hp->Prop,(∀σ' H',N σ' H'->∃m',m'<m/\W (i+1) m' σ' H')/\∀x H',(Itt K a).yld i H x H'->g x σ H' fun σ2 H2=>tb { D with nx:=N,ct:=N,bk:=D.nx } σ2 H2):=by
 refine ⟨fun i m σ H=>m=xs.length-i/\i<=xs.length/\Pv i σ H,⟨xs.length,by simp,Nat.zero_le _,h0⟩,?_⟩
 rintro i m σ H ⟨rfl,hi,p⟩
 have q:=hl i σ H hi p
 by_cases hlt:i<xs.length
 ·refine .inr ⟨⟨xs,xs[i],q,by simp[hlt]⟩,Pv (i+1),fun σ' H' p'=>⟨xs.length-(i+1),by omega,rfl,hlt,p'⟩,fun x H' y=>?_⟩
  obtain ⟨e,y⟩:=y
  subst e
  exact hs i x σ _ (y xs q) p
 ·have e:i=xs.length:=by omega
  subst e
  exact .inl ⟨⟨xs,q,Nat.le_refl _⟩,hd σ H p⟩
theorem iN {lo:Int}{n:Nat}{g:TG}{tb:TS}{D:Ends}{σ:St}{H:Hp} (Pv:Nat->St->Hp->Prop) (h0:Pv 0 σ H)
  (hs:∀i σ H,i<n->Pv i σ H->g (.int (lo+i)) σ H fun σ2 H2=>tb { D with nx:=Pv (i+1),ct:=Pv (i+1),bk:=D.nx } σ2 H2) (hd:∀σ H,Pv n σ H->D.nx σ H) :
  ∃W:Nat->Nat->St->Hp->Prop,(∃m,W 0 m σ H)/\∀i m σ H,W i m σ H ->
   ((Itr lo n).stop i H/\D.nx σ H)\/((Itr lo n).go i H/\∃N:St->Hp->Prop,(∀σ' H',N σ' H'->∃m',m'<m/\W (i+1) m' σ' H')/\∀x H',(Itr lo n).yld i H x H'->g x σ H' fun σ2 H2=>tb { D with nx:=N,ct:=N,bk:=D.nx } σ2 H2):=by
 refine ⟨fun i m σ H=>m=n-i/\i<=n/\Pv i σ H,⟨n,by simp,Nat.zero_le _,h0⟩,?_⟩
 rintro i m σ H ⟨rfl,hi,p⟩
 by_cases hlt:i<n
 ·refine .inr ⟨hlt,Pv (i+1),fun σ' H' p'=>⟨n-(i+1),by omega,rfl,hlt,p'⟩,fun x H' y=>?_⟩
  obtain ⟨e,y⟩:=y
  subst e y
  exact hs i σ _ hlt p
 ·have e:i=n:=by omega
  subst e
  exact .inl ⟨Nat.le_refl _,hd σ H p⟩
end L2
namespace L2
open PySem PySem.Spec PyProof.Rows
noncomputable abbrev R2:=V->V->Hp->VK->Prop
noncomputable def OpR (X:Cx) (f:Value->Value->Sem Value) (r:R2):Prop:=
 ∀(pins:List (Addr×Obj)) (s:Shared) (σ:St) (H:Hp) (x y:V) (v u:Value) (Q:VK),Inv X pins σ H s->RelV x v->RelV y u->r x y H Q ->
  wpAny (model X.prog X.w) X.A (f v u) (EP X pins σ Q) X.xe s
noncomputable def UnR (X:Cx) (f:Value->Sem Value) (r:V->Hp->VK->Prop):Prop:=
 ∀(pins:List (Addr×Obj)) (s:Shared) (σ:St) (H:Hp) (x:V) (v:Value) (Q:VK),Inv X pins σ H s->RelV x v->r x H Q ->
  wpAny (model X.prog X.w) X.A (f v) (EP X pins σ Q) X.xe s
noncomputable def Je (X:Cx) (f:Value) (r:List V->Hp->VK->Prop):Prop:=
 ∀(pins:List (Addr×Obj)) (s:Shared) (σ:St) (H:Hp) (xs:List V) (us:List Value) (Q:VK),Inv X pins σ H s->Vals xs us->r xs H Q ->
  wpAny (model X.prog X.w) X.A (call f us) (EP X pins σ Q) X.xe s
noncomputable def jI (X:Cx) (r:V->Hp->(Bool->Hp->Prop)->Prop):Prop:=
 ∀(pins:List (Addr×Obj)) (s:Shared) (σ:St) (H:Hp) (x:V) (v:Value) (Q:Bool->Hp->Prop),Inv X pins σ H s->RelV x v->r x H Q ->
  wpAny (model X.prog X.w) X.A (truthy v) (TP X pins σ Q) X.xe s
noncomputable def tOp (r:R2) (ta tb:TE):TE:=fun σ H Q=>ta σ H fun x H1=>tb σ H1 fun y H2=>r x y H2 Q
noncomputable def tUn (r:V->Hp->VK->Prop) (ta:TE):TE:=fun σ H Q=>ta σ H fun x H1=>r x H1 Q
noncomputable def rI (C:Int->Int->Prop) (g:Int->Int->V):R2:=fun x y H Q=>∃i j,x = .int i/\y = .int j/\C i j/\Q (g i j) H
noncomputable def rI0 (g:Int->Int->V):R2:=fun x y H Q=>∃i j,x = .int i/\y = .int j/\Q (g i j) H
noncomputable def rU (g:Int->V):V->Hp->VK->Prop:=fun x H Q=>∃i,x = .int i/\Q (g i) H
section
variable {X:Cx}{a b c:Expr}{ta tb tc:TE}{pos:Pos}
theorem gn (ha:PE X a ta) (hb:PE X b tb) {pins:List (Addr×Obj)}{s:Shared}{σ:St}{H:Hp}{R:V->V->Hp->Prop} (I:Inv X pins σ H s)
  (h:ta σ H fun x H1=>tb σ H1 fun y H2=>R x y H2) {Q:Value->Shared->Prop}{f:Value->Value->Sem Value}
  (hf:∀v u s2 x y H2,Inv X pins σ H2 s2->RelV x v->RelV y u->R x y H2->wpAny (model X.prog X.w) X.A (f v u) Q X.xe s2) :
  wpAny (model X.prog X.w) X.A (eval a X.env) (fun v s₁=>wpAny (model X.prog X.w) X.A (eval b X.env) (fun u s₂=>wpAny (model X.prog X.w) X.A (f v u) Q X.xe s₂) X.xe s₁) X.xe s:=by
 refine thn (ha pins s σ H _ I h) fun v s1 ⟨x,H1,I1,r1,q1⟩=>?_
 refine thn (hb pins s1 σ H1 _ I1 q1) fun u s2 ⟨y,H2,I2,r2,q2⟩=>?_
 exact hf v u s2 x y H2 I2 r1 r2 q2
theorem Az {op:Operator}{r:R2} (ho:OpR X (binaryOp op) r) (ha:PE X a ta) (hb:PE X b tb):PE X (.BinOp a op b pos) (tOp r ta tb):=by
 intro pins s σ H Q I h
 exact wpAny_BinOp (gn ha hb I h fun v u s2 x y H2 I2 rx ry q=>ho pins s2 σ H2 x y v u Q I2 rx ry q)
theorem WL {op:UnaryOp}{r:V->Hp->VK->Prop} (ho:UnR X (unaryOp op) r) (ha:PE X a ta):PE X (.UnaryOp op a pos) (tUn r ta):=by
 intro pins s σ H Q I h
 exact UnaryOp_ (thn (ha pins s σ H _ I h) fun v s1 ⟨x,H1,I1,r1,q1⟩=>ho pins s1 σ H1 x v Q I1 r1 q1)
theorem opI {f:Value->Value->Sem Value}{C:Int->Int->Prop}{g:Int->Int->Int}
  (rule:∀(i j:Int) (t u:Tok) (s:Shared) (Q:Value->Shared->Prop) (E:Value->Shared->Prop),C i j->Q (.int (g i j) s.toks) { s with toks:=s.toks+1 }->wpAny (model X.prog X.w) X.A (f (.int i t) (.int j u)) Q E s) :
  OpR X f (rI C fun i j=>.int (g i j)):=by
 intro pins s σ H x y v u Q I rx ry h
 obtain ⟨i,j,rfl,rfl,hc,q⟩:=h
 obtain ⟨t,rfl⟩:=rx
 obtain ⟨t',rfl⟩:=ry
 exact rule i j t t' s _ _ hc ⟨.int (g i j),H,I.tok _,⟨_,rfl⟩,q⟩
theorem jg {f:Value->Value->Sem Value}{g:Int->Int->Int}
  (rule:∀(i j:Int) (t u:Tok) (s:Shared) (Q:Value->Shared->Prop) (E:Value->Shared->Prop),Q (.int (g i j) s.toks) { s with toks:=s.toks+1 }->wpAny (model X.prog X.w) X.A (f (.int i t) (.int j u)) Q E s) :
  OpR X f (rI0 fun i j=>.int (g i j)):=by
 intro pins s σ H x y v u Q I rx ry h
 obtain ⟨i,j,rfl,rfl,q⟩:=h
 obtain ⟨t,rfl⟩:=rx
 obtain ⟨t',rfl⟩:=ry
 exact rule i j t t' s _ _ ⟨.int (g i j),H,I.tok _,⟨_,rfl⟩,q⟩
theorem eR {f:Value->Value->Sem Value}{g:Int->Int->Bool}
  (rule:∀(i j:Int) (t u:Tok) (s:Shared) (Q:Value->Shared->Prop) (E:Value->Shared->Prop),Q (.bool (g i j)) s->wpAny (model X.prog X.w) X.A (f (.int i t) (.int j u)) Q E s) :
  OpR X f (rI0 fun i j=>.bl (g i j)):=by
 intro pins s σ H x y v u Q I rx ry h
 obtain ⟨i,j,rfl,rfl,q⟩:=h
 obtain ⟨t,rfl⟩:=rx
 obtain ⟨t',rfl⟩:=ry
 exact rule i j t t' s _ _ ⟨.bl (g i j),H,I,rfl,q⟩
noncomputable def jH (i j:Int):Prop:=0<=j/\j<=1000000/\i.natAbs<2^64
theorem YM (k:Nat):(0:Int)<=2^k:=by
 rw[two_pow_cast]
 exact Int.natCast_nonneg _
theorem CU:OpR X (binaryOp .Add) (rI0 fun i j=>.int (i+j)):=jg fun _ _ _ _ _ _ _ q=>add_int q
theorem Dt:OpR X (binaryOp .Sub) (rI0 fun i j=>.int (i-j)):=jg fun _ _ _ _ _ _ _ q=>sub_int q
theorem Qy:OpR X (binaryOp .Mod) (rI (fun _ j=>0<j) fun i j=>.int (i%j)):=opI fun i j _ _ _ _ _ hc q=>by
 have h1:(0:Int)<j:=hc
 exact mod_int' (by omega) (by rw[Int.fmod_eq_emod_of_nonneg i (by omega)];exact q)
theorem cq:OpR X (binaryOp .LShift) (rI jH fun i j=>.int (i*2^j.toNat)):=opI fun _ _ _ _ _ _ _ hc q=>lshift_int_small hc.1 hc.2.1 hc.2.2 q
theorem Ys:OpR X (binaryOp .RShift) (rI (fun _ j=>0<=j) fun i j=>.int (i/2^j.toNat)):=opI fun i j _ _ _ _ _ hc q=>
 rshift_int hc (by rw[Int.fdiv_eq_ediv_of_nonneg i (YM _)];exact q)
theorem unI {f:Value->Sem Value}{g:Int->Int}
  (rule:∀(i:Int) (t:Tok) (s:Shared) (Q:Value->Shared->Prop) (E:Value->Shared->Prop),Q (.int (g i) s.toks) { s with toks:=s.toks+1 }->wpAny (model X.prog X.w) X.A (f (.int i t)) Q E s) :
  UnR X f (rU fun i=>.int (g i)):=by
 intro pins s σ H x v Q I rx h
 obtain ⟨i,rfl,q⟩:=h
 obtain ⟨t,rfl⟩:=rx
 exact rule i t s _ _ ⟨.int (g i),H,I.tok _,⟨_,rfl⟩,q⟩
theorem Rr:UnR X (unaryOp .USub) (rU fun i=>.int (-i)):=unI fun _ _ _ _ _ q=>neg_int q
end
noncomputable def iw:V->V->Bool
 |.non,.non=>true|.non,.int _=>true|.int _,.non=>true|.non,.bl _=>true|.bl _,.non=>true|.non,.str _=>true|.str _,.non=>true
 |.int _,.int _=>true|.bl _,.bl _=>true|.str _,.str _=>true|.byt _,.byt _=>true
 |.int _,.str _=>true|.str _,.int _=>true|.bl _,.str _=>true|.str _,.bl _=>true
 |_,_=>false
noncomputable def rEq:R2:=fun x y H Q=>iw x y=true/\Q (.bl (decide (x=y))) H
noncomputable def rNe:R2:=fun x y H Q=>iw x y=true/\Q (.bl (!decide (x=y))) H
theorem YX {i j:Int}:decide (V.int i=V.int j)=(i==j):=by
 rw[Bool.eq_iff_iff]
 simp
theorem bG {i j:Bool}:decide (V.bl i=V.bl j)=(i==j):=by
 rw[Bool.eq_iff_iff]
 simp
theorem YY {i j:Str}:decide (V.str i=V.str j)=(i==j):=by
 rw[Bool.eq_iff_iff]
 simp
theorem YW {i j:Array UInt8}:decide (V.byt i=V.byt j)=(i.toList==j.toList):=by
 rw[Bool.eq_iff_iff]
 cases i
 cases j
 simp
section
variable {X:Cx}{a b c:Expr}{ta tb tc:TE}{pos:Pos}
theorem Bh {pins:List (Addr×Obj)}{σ:St}{H:Hp}{s:Shared}{Q:VK}{k k':Bool} (I:Inv X pins σ H s) (q:Q (.bl k) H) (e:k=k'):EP X pins σ Q (.bool k') s:=by
 subst e
 exact ⟨.bl k,H,I,rfl,q⟩
theorem BA:OpR X (compareOp .Eq) rEq:=by
 intro pins s σ H x y v u Q I rx ry h
 obtain ⟨hs,q⟩:=h
 cases x with
 |non=>
  cases rx
  cases y with
  |non=>cases ry;exact PySem.EqNone.eq_none_none (Bh I q (by simp))
  |bl j=>cases ry;exact PySem.EqNone.eq_none_bool (Bh I q (by simp))
  |int j=>obtain ⟨t',rfl⟩:=ry;exact PySem.EqNone.eq_none_int (Bh I q (by simp))
  |str j=>obtain ⟨t',rfl⟩:=ry;exact PySem.EqNone.eq_none_str (Bh I q (by simp))
  |_=>exact absurd (show false=true from hs) Bool.false_ne_true
 |bl i=>
  cases rx
  cases y with
  |non=>cases ry;exact PySem.EqNone.eq_bool_none (Bh I q (by simp))
  |bl j=>cases ry;exact eq_bool (Bh I q bG)
  |str j=>obtain ⟨t',rfl⟩:=ry;exact PySem.EqMixed.eq_bool_str (Bh I q (by simp))
  |_=>exact absurd (show false=true from hs) Bool.false_ne_true
 |int i=>
  obtain ⟨t,rfl⟩:=rx
  cases y with
  |non=>cases ry;exact PySem.EqNone.eq_int_none (Bh I q (by simp))
  |int j=>obtain ⟨t',rfl⟩:=ry;exact eq_int (Bh I q YX)
  |str j=>obtain ⟨t',rfl⟩:=ry;exact PySem.EqMixed.eq_int_str (Bh I q (by simp))
  |_=>exact absurd (show false=true from hs) Bool.false_ne_true
 |str i=>
  obtain ⟨t,rfl⟩:=rx
  cases y with
  |non=>cases ry;exact PySem.EqNone.eq_str_none (Bh I q (by simp))
  |bl j=>cases ry;exact PySem.EqMixed.eq_str_bool (Bh I q (by simp))
  |int j=>obtain ⟨t',rfl⟩:=ry;exact PySem.EqMixed.eq_str_int (Bh I q (by simp))
  |str j=>obtain ⟨t',rfl⟩:=ry;exact eq_str (Bh I q YY)
  |_=>exact absurd (show false=true from hs) Bool.false_ne_true
 |byt i=>
  obtain ⟨t,rfl⟩:=rx
  cases y with
  |byt j=>obtain ⟨t',rfl⟩:=ry;exact PySem.W.eq_bytes (Bh I q YW)
  |_=>exact absurd (show false=true from hs) Bool.false_ne_true
 |_=>cases y<;>exact absurd (show false=true from hs) Bool.false_ne_true
theorem jh:OpR X (compareOp .NotEq) rNe:=by
 intro pins s σ H x y v u Q I rx ry h
 obtain ⟨hs,q⟩:=h
 cases x with
 |non=>
  cases rx
  cases y with
  |non=>cases ry;exact PySem.EqNone.ne_none_none (Bh I q (by simp))
  |bl j=>cases ry;exact PySem.EqNone.ne_none_bool (Bh I q (by simp))
  |int j=>obtain ⟨t',rfl⟩:=ry;exact PySem.EqNone.ne_none_int (Bh I q (by simp))
  |str j=>obtain ⟨t',rfl⟩:=ry;exact PySem.EqNone.ne_none_str (Bh I q (by simp))
  |_=>exact absurd (show false=true from hs) Bool.false_ne_true
 |bl i=>
  cases rx
  cases y with
  |non=>cases ry;exact PySem.EqNone.ne_bool_none (Bh I q (by simp))
  |bl j=>cases ry;exact ne_bool (Bh I q (congrArg not bG))
  |str j=>obtain ⟨t',rfl⟩:=ry;exact PySem.EqMixed.ne_bool_str (Bh I q (by simp))
  |_=>exact absurd (show false=true from hs) Bool.false_ne_true
 |int i=>
  obtain ⟨t,rfl⟩:=rx
  cases y with
  |non=>cases ry;exact PySem.EqNone.ne_int_none (Bh I q (by simp))
  |int j=>obtain ⟨t',rfl⟩:=ry;exact ne_int (Bh I q (congrArg not YX))
  |str j=>obtain ⟨t',rfl⟩:=ry;exact PySem.EqMixed.ne_int_str (Bh I q (by simp))
  |_=>exact absurd (show false=true from hs) Bool.false_ne_true
 |str i=>
  obtain ⟨t,rfl⟩:=rx
  cases y with
  |non=>cases ry;exact PySem.EqNone.ne_str_none (Bh I q (by simp))
  |bl j=>cases ry;exact PySem.EqMixed.ne_str_bool (Bh I q (by simp))
  |int j=>obtain ⟨t',rfl⟩:=ry;exact PySem.EqMixed.ne_str_int (Bh I q (by simp))
  |str j=>obtain ⟨t',rfl⟩:=ry;exact ne_str (Bh I q (congrArg not YY))
  |_=>exact absurd (show false=true from hs) Bool.false_ne_true
 |byt i=>
  obtain ⟨t,rfl⟩:=rx
  cases y with
  |byt j=>obtain ⟨t',rfl⟩:=ry;exact PySem.W.ne_bytes (Bh I q (congrArg not YW))
  |_=>exact absurd (show false=true from hs) Bool.false_ne_true
 |_=>cases y<;>exact absurd (show false=true from hs) Bool.false_ne_true
theorem GY:OpR X (compareOp .Lt) (rI0 fun i j=>.bl (decide (i<j))):=eR fun _ _ _ _ _ _ _ q=>lt_int q
theorem GX:OpR X (compareOp .LtE) (rI0 fun i j=>.bl (decide (i<=j))):=eR fun _ _ _ _ _ _ _ q=>le_int q
theorem Ta:OpR X (compareOp .Gt) (rI0 fun i j=>.bl (decide (j<i))):=eR fun _ _ _ _ _ _ _ q=>gt_int q
theorem SY:OpR X (compareOp .GtE) (rI0 fun i j=>.bl (decide (j<=i))):=eR fun _ _ _ _ _ _ _ q=>ge_int q
theorem Qx:OpR X (compareOp .Is) (fun x y H Q=>y = .non/\Q (.bl (decide (x = .non))) H):=by
 intro pins s σ H x y v u Q I rx ry h
 obtain ⟨rfl,q⟩:=h
 cases ry
 refine is_none_gen (Bh I q ?_)
 cases x<;>first
  |(cases rx;rfl)
  |(obtain ⟨t,rfl⟩:=rx;rfl)
theorem eS:OpR X (compareOp .IsNot) (fun x y H Q=>y = .non/\Q (.bl (!decide (x = .non))) H):=by
 intro pins s σ H x y v u Q I rx ry h
 obtain ⟨rfl,q⟩:=h
 cases ry
 refine isnot_none_gen (Bh I q ?_)
 cases x<;>first
  |(cases rx;rfl)
  |(obtain ⟨t,rfl⟩:=rx;rfl)
theorem AB (b:Expr) {op:CmpOp} (h:op≠.In:=by decide) (h2:op≠.NotIn:=by decide):behindInMarks op b=false:=by
 have e1:(op==CmpOp.In)=false:=by cases op<;>first|rfl|exact absurd rfl h
 have e2:(op==CmpOp.NotIn)=false:=by cases op<;>first|rfl|exact absurd rfl h2
 cases b<;>simp[behindInMarks,e1,e2]
theorem OM {op:CmpOp}{r:R2} (ho:OpR X (compareOp op) r) (ha:PE X a ta) (hb:PE X b tb) (hm:behindInMarks op b=false):PE X (.Compare a [op] [b] pos) (tOp r ta tb):=by
 intro pins s σ H Q I h
 exact wpAny_Compare1 (gn ha hb I h fun v u s2 x y H2 I2 rx ry q=>ho pins s2 σ H2 x y v u Q I2 rx ry q) hm
noncomputable def Eh (t:TE):TT:=fun σ H Q=>t σ H fun x H'=>∃k,x = .bl k/\Q k H'
theorem Av {op:CmpOp}{r:R2} (ho:OpR X (compareOp op) r) (ha:PE X a ta) (hb:PE X b tb) (hm:behindInMarks op b=false):PT X (.Compare a [op] [b] pos) (Eh (tOp r ta tb)):=by
 intro pins s σ H Q I h
 refine wpAny_isTrue_Compare1 (thn (ha pins s σ H _ I h) fun v s1 ⟨x,H1,I1,r1,q1⟩=>thn (hb pins s1 σ H1 _ I1 q1) fun u s2 ⟨y,H2,I2,r2,q2⟩=>
  thn (ho pins s2 σ H2 x y v u _ I2 r1 r2 q2) fun c s3 ⟨z,H3,I3,r3,k,e,q3⟩=>?_) hm
 subst e
 cases r3
 exact wpAny_truthy_bool ⟨H3,I3,q3⟩
noncomputable def dD (r r':R2) (ta tb tc:TE):TE:=fun σ H Q=>ta σ H fun x H1=>tb σ H1 fun y H2=>r x y H2 fun z H3=>∃k,z = .bl k /\
 (if k=true then tc σ H3 fun w' H4=>r' y w' H4 Q else Q (.bl false) H3)
theorem Lw {op op':CmpOp}{r r':R2} (ho:OpR X (compareOp op) r) (ho':OpR X (compareOp op') r') (ha:PE X a ta) (hb:PE X b tb) (hc:PE X c tc)
  (hm:lastMarks [op,op'] [b,c]=false:=by with_unfolding_all rfl):PE X (.Compare a [op,op'] [b,c] pos) (dD r r' ta tb tc):=by
 intro pins s σ H Q I h
 refine Compare_chain (thn (ha pins s σ H _ I h) fun v s1 ⟨x,H1,I1,r1,q1⟩=>chain_link (thn (hb pins s1 σ H1 _ I1 q1) fun u s2 ⟨y,H2,I2,r2,q2⟩=>
  thn (ho pins s2 σ H2 x y v u _ I2 r1 r2 q2) fun d s3 ⟨z,H3,I3,r3,k,e,q3⟩=>?_)) hm
 subst e
 cases r3
 refine wpAny_truthy_bool ?_
 cases k with
 |false=>exact ite_ff ⟨.bl false,H3,I3,rfl,q3⟩
 |true=>exact ite_tt (chain_last (thn (hc pins s3 σ H3 _ I3 q3) fun w' s4 ⟨z',H4,I4,r4,q4⟩=>ho' pins s4 σ H4 y z' u w' Q I4 r2 r4 q4))
theorem WQ {op op':CmpOp}{r r':R2} (ho:OpR X (compareOp op) r) (ho':OpR X (compareOp op') r') (ha:PE X a ta) (hb:PE X b tb) (hc:PE X c tc)
  (hm:lastMarks [op,op'] [b,c]=false:=by with_unfolding_all rfl):PT X (.Compare a [op,op'] [b,c] pos) (Eh (dD r r' ta tb tc)):=by
 intro pins s σ H Q I h
 refine isTrue_chain (thn (ha pins s σ H _ I h) fun v s1 ⟨x,H1,I1,r1,q1⟩=>test_link (thn (hb pins s1 σ H1 _ I1 q1) fun u s2 ⟨y,H2,I2,r2,q2⟩=>
  thn (ho pins s2 σ H2 x y v u _ I2 r1 r2 q2) fun d s3 ⟨z,H3,I3,r3,k,e,q3⟩=>?_)) hm
 subst e
 cases r3
 refine wpAny_truthy_bool ?_
 cases k with
 |false=>
  obtain ⟨k',e',q'⟩:=q3
  cases e'
  exact ite_ff ⟨H3,I3,q'⟩
 |true=>
  refine ite_tt (test_last (thn (hc pins s3 σ H3 _ I3 q3) fun w' s4 ⟨z',H4,I4,r4,q4⟩=>thn (ho' pins s4 σ H4 y z' u w' _ I4 r2 r4 q4) fun d' s5 ⟨z2,H5,I5,r5,k2,e2,q5⟩=>?_))
  subst e2
  cases r5
  exact wpAny_truthy_bool ⟨H5,I5,q5⟩
noncomputable def gk (K:PySem.W.Frag) (x:V) (H:Hp) (k:Bool):Prop:=
 match x with
 |.non=>k=false
 |.bl b=>k=b
 |.int i=>k=(i != 0)
 |.str y=>y.length<=sizeLine/\k=((y.length:Int) != 0)
 |.byt y=>y.size<=sizeLine/\k=((y.size:Int) != 0)
 |.ref p=>(∃xs,SqL K H p xs/\k = !xs.isEmpty)\/(∃xs,SqT K H p xs/\k = !xs.isEmpty)\/∃kvs,H p=some (.dK kvs)/\k = !kvs.isEmpty
 |_=>False
theorem XU {κ:Type}{kvs:List (κ×V)}{vs:List (κ×Value)} (r:KV kvs vs):(!vs.isEmpty) = !kvs.isEmpty:=by
 cases r<;>rfl
theorem PL {xs:List V}{its:List Value} (r:Vals xs its):(!its.toArray.isEmpty) = !xs.isEmpty:=by
 cases r<;>simp
theorem JX:(sizeLine:Nat)<2^63:=by rw[sizeLine_eq];decide
theorem iK:jI X (fun x H Q=>∃k,gk X.K x H k/\Q k H):=by
 intro pins s σ H x v Q I rx h
 obtain ⟨k,e,q⟩:=h
 have hl:=JX
 have hs:sizeLine=16777216:=sizeLine_eq
 cases x with
 |non=>
  cases rx
  have e':k=false:=e
  subst e'
  exact truthy_none ⟨H,I,q⟩
 |bl b=>
  cases rx
  have e':k=b:=e
  subst e'
  exact wpAny_truthy_bool ⟨H,I,q⟩
 |int i=>
  obtain ⟨t,rfl⟩:=rx
  have e':k=(i != 0):=e
  subst e'
  exact PySem.P.truthy_int ⟨H,I,q⟩
 |str y=>
  obtain ⟨t,rfl⟩:=rx
  obtain ⟨hy,e'⟩:y.length<=sizeLine/\k=((y.length:Int) != 0):=e
  subst e'
  exact PySem.P.truthy_str (by omega) ⟨H,I.tok _,q⟩
 |byt y=>
  obtain ⟨t,rfl⟩:=rx
  obtain ⟨hy,e'⟩:y.size<=sizeLine/\k=((y.size:Int) != 0):=e
  subst e'
  exact PySem.W.truthy_bytes (by omega) ⟨H,I.tok _,q⟩
 |ref p=>
  cases rx
  have e':(∃xs,SqL X.K H p xs/\k = !xs.isEmpty)\/(∃xs,SqT X.K H p xs/\k = !xs.isEmpty)\/∃kvs,H p=some (.dK kvs)/\k = !kvs.isEmpty:=e
  rcases e' with ⟨xs,hx,e'⟩|⟨xs,hx,e'⟩|⟨kvs,hx,e'⟩
  ·subst e'
   obtain ⟨its,r,pl,hz⟩:=I.list hx
   have hlen:=r.length
   exact wpAny_truthy_list pl.isList (by simp only [List.size_toArray];omega) ⟨H,I.tok _,by rw[PL r];exact q⟩
  ·subst e'
   obtain ⟨its,r,pl,hz⟩:=I.tuple hx
   have hlen:=r.length
   exact truthy_tuple pl (by simp only [List.size_toArray];omega) ⟨H,I.tok _,by rw[PL r];exact q⟩
  ·subst e'
   obtain ⟨hz,hS,vs,r,m⟩:kvs.length<=sizeLine/\(p==sysModules)=false/\∃vs,KV kvs vs/\s.heap.DictOf (Ce X.prog X.w) p vs:=I.hok p _ hx
   have hlen:kvs.length=vs.length:=Paired.length r
   exact wpAny_truthy_dict hS m (by omega) ⟨H,I.tok _,by rw[XU r];exact q⟩
 |_=>exact (show False from e).elim
theorem WR (ha:PE X a ta) (he:∀whole,isTrue a X.env whole=(do let v <-whole;standAt a.pos;holding [v] (truthy v))) :
  PT X a (fun σ H Q=>ta σ H fun x H'=>∃k,gk X.K x H' k/\Q k H'):=by
 intro pins s σ H Q I h
 exact isTrue_plain (thn (ha pins s σ H _ I h) fun v s1 ⟨x,H1,I1,r1,q1⟩=>iK pins s1 σ H1 x v Q I1 r1 q1) (he _)
theorem vals1 {x:V}{us:List Value} (r:Vals [x] us):∃u,us=[u]/\RelV x u:=by
 cases r with
 |cons r1 r2=>cases r2;exact ⟨_,rfl,r1⟩
theorem Ky:Je X (.builtin "abs") (fun xs H Q=>∃i,xs=[.int i]/\Q (.int (if i<0 then -i else i)) H):=by
 intro pins s σ H xs us Q I r h
 obtain ⟨i,rfl,q⟩:=h
 obtain ⟨u,rfl,t,rfl⟩:=vals1 r
 exact call_abs_int fun u tk=>⟨.int (if i<0 then -i else i),H,I.tok _,⟨_,rfl⟩,q⟩
theorem KA:Je X (.type "str") (fun xs H Q=>∃i,xs=[.int i]/\i.natAbs.log2<1920/\Q (.str (toString i)) H):=by
 intro pins s σ H xs us Q I r h
 obtain ⟨i,rfl,hz,q⟩:=h
 obtain ⟨u,rfl,t,rfl⟩:=vals1 r
 exact PySem.P.str_of_int hz ⟨.str _,H,I.tok _,⟨_,rfl⟩,q⟩
theorem CG:Je X (.builtin "ord") (fun xs H Q=>∃x,xs=[.str x]/\x.length=1/\Q (.int (x.cps.getD 0 0:Nat)) H):=by
 intro pins s σ H xs us Q I r h
 obtain ⟨x,rfl,hz,q⟩:=h
 obtain ⟨u,rfl,t,rfl⟩:=vals1 r
 exact ord_of_one hz ⟨.int _,H,I.tok _,⟨_,rfl⟩,q⟩
end
end L2
namespace L2
open PySem PySem.Spec PyProof.Rows
structure Xq (h:Heap) (x dx C:Addr) (mA:Str->Option Value):Prop where
 obj:h.get? x=some (PySem.W.instObj C dx)
 ns:h.Ns1 dx mA
 ne:dx≠x
theorem ag {h:Heap}{dx:Addr}{mA:Str->Option Value} (n:h.Ns1 dx mA):∃od,h.get? dx=some od/\∀name,PySem.W.lookIn name od=some (mA name):=by
 obtain ⟨o,es,ep,ho,hd,hk,_,hm⟩:=n
 refine ⟨o,ho,fun name=>?_⟩
 have e:=hm name
 unfold nsFind findBy at e
 rw[<-Array.find?_toList] at e
 unfold PySem.W.lookIn
 rw[hd]
 dsimp only
 split
 ·rename_i y q
  rw[q] at e
  exact congrArg some e
 ·rename_i q
  rw[q] at e
  have a:es.toList.any (·.refKey)=false:=by
   rw[List.any_eq_false]
   intro y hy
   obtain ⟨z,t,hkey⟩:=hk y (Array.mem_toList_iff.mp hy)
   simp[DictEntry.refKey,hkey]
  have a':¬es.toList.any (·.refKey)=true:=by rw[a];exact Bool.false_ne_true
  rw[if_neg a']
  exact congrArg some e
theorem Xq.look {h:Heap}{x dx C:Addr}{mA:Str->Option Value} (I:Xq h x dx C mA):∃od,PySem.W.InstAt h x (PySem.W.instObj C dx) C (some od)/\∀name,PySem.W.lookIn name od=some (mA name):=
 let ⟨od,ho,hl⟩:=ag I.ns
 ⟨od,⟨I.obj,rfl,rfl,ho⟩,hl⟩
section
variable {prog:Program}{w:World}{A:Around}{E:Value->Shared->Prop}{s:Shared}{K:PySem.W.Frag}{x dx C f:Addr}{mA:Str->Option Value}{name:Str}{v:Value}
theorem get_map {expr:Bool}{Q:Value->Shared->Prop} (X:K.In s.heap) (I:Xq s.heap x dx C mA) (hg:PySem.W.plainGet K C name=true) (hh:PySem.W.hasDictIn K C=true)
  (ha:PySem.W.findIn K (.ref C) name=some none) (hv:mA name=some v) (hv':PySem.W.handedIn v=true) (h:Q v { s with toks:=s.toks+1 }) :
  wpAny (model prog w) A (getAttr (.ref x) name expr) Q E s:=by
 obtain ⟨od,J,hl⟩:=I.look
 exact PySem.W.get_value X J (PySem.W.plainGet_of hg).1 (PySem.W.findObj_own hh ha rfl (by rw[hl,hv])) hv' h
theorem bT {pl:Sem Bool}{Q:Value×List Value->Shared->Prop} (X:K.In s.heap) (I:Xq s.heap x dx C mA) (hg:PySem.W.plainGet K C name=true)
  (hf:PySem.W.findIn K (.ref C) name=some (some (.ref f))) (ht:PySem.W.isFn K (.ref f)=true) (hv:mA name=none) (h:Q (.ref f,[.ref x]) s) :
  wpAny (model prog w) A (getMethod (.ref x) name pl) Q E s:=by
 obtain ⟨od,J,hl⟩:=I.look
 exact PySem.W.method_fn X J (PySem.W.plainGet_of hg).1 (PySem.W.plainGet_of hg).2 hf (beq_iff_eq.mp ht) (by show (PySem.W.lookIn name od).map (·.isSome)=some false;rw[hl,hv];rfl) h
theorem fh {ns:List Str}{Q:Unit->Shared->Prop} (X:K.In s.heap) (I:Xq s.heap x dx C mA)
  (hs:PySem.W.findIn K (.ref C) "__setattr__" = some (some (.builtin "object.__setattr__"))) (hp:PySem.W.plainOver K C=true) (ht:PySem.W.takerIn K C name=some none) (hh:PySem.W.hasDictIn K C=true)
  (hw:PySem.Within mA ns) (hsz:ns.length<=sizeLine)
  (h:∀h',Xq h' x dx C (fun y=>if y=name then some v else mA y)->Heap.SameBut dx s.heap h'->Q () { s with heap:=h',toks:=s.toks+2 }) :
  wpAny (model prog w) A (setAttr (.ref x) name v) Q E s:=by
 obtain ⟨od,J,hl⟩:=I.look
 refine PySem.W.set_plain X J hs (PySem.W.osa_open (s:={ s with toks:=s.toks+1 }) (r:=none) X J hp ht fun b=>?_)
 obtain ⟨cd,hc,hd'⟩:=PySem.W.any_some hh
 have hx:s.heap.get? x=some ⟨.ref C,some dx,.plain,#[]⟩:=I.obj
 refine wpAny_bind (wpAny_pure (wpAny_bind (wpAny_bind (wpAny_loadPart hx (wpAny_bind (PySem.W.Looks.here (s:={ s with toks:=s.toks+1 }) (PySem.W.looks_clsIn X hc) ?_))))))
 rw[hd']
 refine wpAny_pure (a:=some dx) (wpAny_bind (wpAny_pure (wpAny_bind ?_)))
 refine wpAny_nsSet1 (s:={ s with toks:=s.toks+1 }) I.ns fun h' hn2 hs2=>?_
 obtain ⟨oD,esD,epD,hoD,hdD,hcD⟩:=hn2.count (PySem.Within.cons name v hw)
 refine wpAny_bind (wpAny_lookBehind hoD (by rw[hdD];exact pastItsLine_dict (Nat.le_trans hcD (by rw[List.length_cons];omega))) ?_)
 exact wpAny_pure (h _ ⟨(hs2.2 _ (Ne.symm I.ne)).trans I.obj,hn2,I.ne⟩ hs2)
theorem cf {R:Result->Shared->Prop}{vs:List Value}{kw:List (Str×Value)} (X:K.In s.heap) (hm:PySem.W.makesIn K C=true)
  (hi:PySem.W.findIn K (.ref C) "__init__" = some (some (.ref f))) (hf:PySem.W.typeIn K (.ref f)=some (.type "function"))
  (h:codeAny (model prog w) (A.under (.builtin "type.__call__" ⟨.ref C::vs,kw⟩)) (.call (.ref f) ⟨.ref (s.heap.objs.size+1)::vs,kw⟩) (PySem.W.InitBack (s.heap.objs.size+1) R)
   { s with heap:=(s.heap.push PySem.W.emptyDict).push (PySem.W.instObj C s.heap.objs.size) }) :
  codeAny (model prog w) A (.call (.ref C) ⟨vs,kw⟩) R s:=by
 obtain ⟨hh,g,d,t,os⟩:=s
 exact PySem.W.make_core (PySem.W.makes_of X hm) (PySem.W.looks_findIn X hi) (fun self=>PySem.W.bind_fn X self hf) (.inl rfl) h
end
noncomputable def BD (f:Str) (v:V):List (Str×V)->List (Str×V)
 |[]=>[(f,v)]
 |(g,x)::r=>if g=f then (g,v)::r else (g,x)::BD f v r
theorem HD (f g:Str) (v:V):∀fs:List (Str×V),(BD f v fs).lookup g=if g=f then some v else fs.lookup g
 |[]=>by
  show List.lookup g [(f,v)]=_
  by_cases h:g=f
  ·have hb:(g==f)=true:=beq_iff_eq.mpr h
   simp only [List.lookup,hb,if_pos h]
  ·have hb:(g==f)=false:=beq_eq_false_iff_ne.mpr h
   simp only [List.lookup,hb,if_neg h]
 |(k,x)::r=>by
  have ih:=HD f g v r
  rw[show BD f v ((k,x)::r)=(if k=f then (k,v)::r else (k,x)::BD f v r) from rfl]
  by_cases hk:k=f
  ·rw[if_pos hk]
   by_cases h:g=k
   ·have hb:(g==k)=true:=beq_iff_eq.mpr h
    simp only [List.lookup,hb,if_pos (h.trans hk)]
   ·have hb:(g==k)=false:=beq_eq_false_iff_ne.mpr h
    simp only [List.lookup,hb,if_neg (fun e:g=f=>h (e.trans hk.symm))]
  ·rw[if_neg hk]
   by_cases h:g=k
   ·have hb:(g==k)=true:=beq_iff_eq.mpr h
    simp only [List.lookup,hb,if_neg (fun e:g=f=>hk (h.symm.trans e))]
   ·have hb:(g==k)=false:=beq_eq_false_iff_ne.mpr h
    simp only [List.lookup,hb]
    exact ih
theorem FT (f:Str) (v:V):∀fs:List (Str×V),f∈(BD f v fs).map (·.1)/\∀g,g∈fs.map (·.1)->g∈(BD f v fs).map (·.1)
 |[]=>⟨by simp[BD],fun g h=>by simp at h⟩
 |(k,x)::r=>by
  obtain ⟨i1,i2⟩:=FT f v r
  rw[show BD f v ((k,x)::r)=(if k=f then (k,v)::r else (k,x)::BD f v r) from rfl]
  by_cases hk:k=f
  ·rw[if_pos hk]
   subst hk
   exact ⟨by simp,fun g h=>by simpa using h⟩
  ·rw[if_neg hk]
   refine ⟨?_,fun g h=>?_⟩
   ·rw[List.map_cons]
    exact List.mem_cons_of_mem _ i1
   ·rw[List.map_cons] at h ⊢
    rcases List.mem_cons.mp h with e|e
    ·exact List.mem_cons.mpr (.inl e)
    ·exact List.mem_cons_of_mem _ (i2 g e)
theorem MZ (f:Str) (v:V):∀fs:List (Str×V),(BD f v fs).length<=fs.length+1
 |[]=>by simp[BD]
 |(k,x)::r=>by
  have ih:=MZ f v r
  rw[show BD f v ((k,x)::r)=(if k=f then (k,v)::r else (k,x)::BD f v r) from rfl]
  by_cases hk:k=f
  ·rw[if_pos hk,List.length_cons,List.length_cons];omega
  ·rw[if_neg hk,List.length_cons,List.length_cons];omega
theorem Fg.some_of {v:V}{o:Option Value} (r:Fg (some v) o):∃u,o=some u/\RelV v u:=by
 cases o with
 |none=>exact (show False from r).elim
 |some u=>exact ⟨u,rfl,r⟩
theorem Fg.none_of {o:Option Value} (r:Fg none o):o=none:=by
 cases o with
 |none=>rfl
 |some u=>exact (show False from r).elim
theorem SM {v:V}{u:Value} (r:RelV v u):PySem.W.handedIn u=true:=by
 cases v with
 |non=>cases (show u=Value.none from r);rfl
 |bl b=>cases (show u=Value.bool b from r);rfl
 |int i=>obtain ⟨t,e⟩:=(show ∃t,u=Value.int i t from r);cases e;rfl
 |str x=>obtain ⟨t,e⟩:=(show ∃t,u=Value.str x t from r);cases e;rfl
 |byt b=>obtain ⟨t,e⟩:=(show ∃t,u=Value.bytes b t from r);cases e;rfl
 |flt b=>obtain ⟨t,e⟩:=(show ∃t,u=Value.float b t from r);cases e;rfl
 |ref a=>cases (show u=Value.ref a from r);rfl
 |ty n=>cases (show u=Value.type n from r);rfl
section
variable {P:Program}{w:World}{H H':Hp}{h h':Heap}{a C dx:Addr}{fs fs':List (Str×V)}
theorem Uq (hok:HOk P w H h) (e:H a=some (.ins C dx fs)):∃mA,Xq h a dx C mA/\(∀f,Fg (fs.lookup f) (mA f))/\PySem.Within mA (fs.map (·.1))/\fs.length<=1000/\H dx=some (.own a):=by
 obtain ⟨d,z,ne,ob,mA,n,r,q⟩:=(show BH P w H h a (.ins C dx fs) from hok a _ e)
 exact ⟨mA,⟨ob,n,ne⟩,r,q,z,d⟩
end
structure Cls (K:PySem.W.Frag) (C:Addr):Prop where
 pg:PySem.W.plainGet K C Str.empty=true
 hd:PySem.W.hasDictIn K C=true
 po:PySem.W.plainOver K C=true
 sa:PySem.W.findIn K (.ref C) "__setattr__" = some (some (.builtin "object.__setattr__"))
theorem Cls.get {K:PySem.W.Frag}{C:Addr} (c:Cls K C) (f:Str):PySem.W.plainGet K C f=true:=c.pg
noncomputable def Bf (K:PySem.W.Frag) (C:Addr) (f:Str):Prop:=PySem.W.findIn K (.ref C) f=some none
theorem Bf.jD {K:PySem.W.Frag}{C:Addr}{f:Str} (n:Bf K C f):PySem.W.takerIn K C f=some none:=by
 unfold PySem.W.takerIn
 rw[show PySem.W.findIn K (.ref C) f=some none from n]
 rfl
structure Meth (K:PySem.W.Frag) (C:Addr) (m:Str) (f:Addr):Prop where
 at_:PySem.W.findIn K (.ref C) m=some (some (.ref f))
 fn:PySem.W.isFn K (.ref f)=true
 kp:PySem.W.keepIn K (.ref f)=true
section
variable {X:Cx}{pins:List (Addr×Obj)}{σ:St}{H:Hp}{s:Shared}{a C dx:Addr}{fs:List (Str×V)}{f:Str}{v:V}{A:Around}{E:Value->Shared->Prop}
theorem PH {b:Bool}{Q:Value->Shared->Prop} (I:Inv X pins σ H s) (e:H a=some (.ins C dx fs)) (c:Cls X.K C) (n:Bf X.K C f) (l:fs.lookup f=some v)
  (h:∀u s',Inv X pins σ H s'->RelV v u->Q u s'):wpAny (model X.prog X.w) A (getAttr (.ref a) f b) Q E s:=by
 obtain ⟨mA,O,r,_,_,_⟩:=Uq I.hok e
 obtain ⟨u,hu,ru⟩:=Fg.some_of (v:=v) (o:=mA f) (by rw[<-l];exact r f)
 exact get_map I.kIn O (c.get f) c.hd n hu (SM ru) (h u _ (I.tok _) ru)
theorem JW {m:Str}{g:Addr}{pl:Sem Bool}{Q:Value×List Value->Shared->Prop} (I:Inv X pins σ H s) (e:H a=some (.ins C dx fs)) (c:Cls X.K C) (k:Meth X.K C m g) (l:fs.lookup m=none)
  (h:Q (.ref g,[.ref a]) s):wpAny (model X.prog X.w) A (getMethod (.ref a) m pl) Q E s:=by
 obtain ⟨mA,O,r,_,_,_⟩:=Uq I.hok e
 have hn:mA m=none:=Fg.none_of (by rw[<-l];exact r m)
 exact bT I.kIn O (c.get m) k.at_ k.fn hn h
theorem Rg {y:V}{u:Value}{Q:Unit->Shared->Prop} (I:Inv X pins σ H s) (e:H a=some (.ins C dx fs)) (c:Cls X.K C) (n:Bf X.K C f) (hl:fs.length<1000) (ry:RelV y u)
  (h:∀s',Inv X pins σ (upd H a (.ins C dx (BD f y fs))) s'->Q () s'):wpAny (model X.prog X.w) A (setAttr (.ref a) f u) Q E s:=by
 obtain ⟨mA,O,r,wi,_,ho⟩:=Uq I.hok e
 have hz:(fs.map (·.1)).length<=sizeLine:=by rw[List.length_map,sizeLine_eq];omega
 refine fh I.kIn O c.sa c.po n.jD c.hd wi hz fun h' O' sb=>h _ ?_
 have hd:∃o,h'.get? dx=some o:=let ⟨o,_,_,e',_⟩:=O'.ns;⟨o,e'⟩
 refine I.write (x:=a) (e:=dx) (by rw[e];exact True.intro) (.inr ho) (fun b q hb z=>(sb.2 b hb).trans z) hd ?_
 refine ⟨by rw[Ai O.ne];exact ho,?_,O.ne,O'.obj,_,O'.ns,fun g=>?_,fun g hg=>?_⟩
 ·have:=MZ f y fs;omega
 ·show Fg ((BD f y fs).lookup g) (if g=f then some u else mA g)
  rw[HD]
  by_cases q:g=f
  ·rw[if_pos q,if_pos q];exact ry
  ·rw[if_neg q,if_neg q];exact r g
 ·by_cases q:g=f
  ·rw[q];exact (FT f y fs).1
  ·refine (FT f y fs).2 g (wi g fun z=>hg ?_)
   show (if g=f then some u else mA g)=none
   rw[if_neg q];exact z
theorem Inv.made (I:Inv X pins σ H s):Inv X pins σ (upd (upd H s.heap.objs.size (.own (s.heap.objs.size+1))) (s.heap.objs.size+1) (.ins C s.heap.objs.size []))
  { s with heap:=(s.heap.push PySem.W.emptyDict).push (PySem.W.instObj C s.heap.objs.size) }:=by
 have e1:(s.heap.push PySem.W.emptyDict).get? s.heap.objs.size=some PySem.W.emptyDict:=Heap.get?_push_size s.heap rfl
 have e2:((s.heap.push PySem.W.emptyDict).push (PySem.W.instObj C s.heap.objs.size)).get? (s.heap.objs.size+1)=some (PySem.W.instObj C s.heap.objs.size):=by
  have:=Heap.get?_push_size (s.heap.push PySem.W.emptyDict) (o:=PySem.W.instObj C s.heap.objs.size) rfl
  rwa [Heap.size_push] at this
 have e3:(s.heap.push PySem.W.emptyDict).Ns s.heap.objs.size (fun _=>none):=⟨PySem.W.emptyDict,#[],_,e1,rfl,(fun e he=>absurd he (by simp)),fun _=>rfl⟩
 have I1:=I.laid (a:=s.heap.objs.size) (o:=.own (s.heap.objs.size+1)) (h':=s.heap.push PySem.W.emptyDict) (t':=s.toks) (fun b u q=>Heap.get?_push_of_some _ q) (Nat.le_refl _) ⟨_,e1⟩
 refine I1.laid (a:=s.heap.objs.size+1) (o:=.ins C s.heap.objs.size []) (t':=s.toks) (fun b u q=>Heap.get?_push_of_some _ q) (Nat.le_of_eq (Heap.size_push _ _)) ?_
 have ne:s.heap.objs.size≠s.heap.objs.size+1:=Nat.ne_of_lt (Nat.lt_succ_self _)
 refine ⟨by rw[Ai ne,Ae],Nat.zero_le _,ne,e2,fun _=>none,(Heap.Ns1.of_empty e3).at fun o q=>Heap.get?_push_of_some _ q,fun _=>True.intro,fun y hy=>absurd rfl hy⟩
theorem YQ {prog:Program}{w:World}{env:Env}{e:Expr}{f:Str}{pos:Pos}{s:Shared}{Q:Value->Shared->Prop} (hb:attributeBase e f env (eval e env)=eval e env)
  (h:wpAny (model prog w) A (eval e env) (fun o s₁=>wpAny (model prog w) A (getAttr o f true) Q E s₁) E s):wpAny (model prog w) A (eval (.Attribute e f pos) env) Q E s:=
 Attribute_any_ h (by rw[arm_eval_Attribute,hb])
end
noncomputable def Gh (K:PySem.W.Frag) (ta:TE) (f:Str):TE:=fun σ H Q=>ta σ H fun x H1=>∃a C dx fs v,x = .ref a/\H1 a=some (.ins C dx fs)/\Cls K C/\Bf K C f/\fs.lookup f=some v/\Q v H1
noncomputable def ki (K:PySem.W.Frag) (ta tv:TE) (f:Str):TS:=fun D σ H=>tv σ H fun y H1=>ta σ H1 fun x H2=>∃a C dx fs,x = .ref a/\H2 a=some (.ins C dx fs)/\Cls K C/\Bf K C f/\fs.length<1000 /\
 D.nx σ (upd H2 a (.ins C dx (BD f y fs)))
noncomputable def iO (X:Cx) (op:Operator) (rd:V->V->Hp->VK->Prop):Prop:=
 ∀(pins:List (Addr×Obj)) (s:Shared) (σ:St) (H:Hp) (x y:V) (u v:Value) (Q:VK),Inv X pins σ H s->RelV x u->RelV y v->rd x y H Q->wpAny (model X.prog X.w) X.A (inplaceOp op u v) (EP X pins σ Q) X.xe s
noncomputable def fg (K:PySem.W.Frag) (ta tv:TE) (rd:V->V->Hp->VK->Prop) (f:Str):TS:=fun D σ H=>ta σ H fun x H1=>∃a C dx fs v,x = .ref a/\H1 a=some (.ins C dx fs)/\Cls K C/\Bf K C f/\fs.lookup f=some v /\
 tv σ H1 fun y H2=>rd v y H2 fun z H3=>∃dx' fs',H3 a=some (.ins C dx' fs')/\fs'.length<1000/\D.nx σ (upd H3 a (.ins C dx' (BD f z fs')))
section
variable {X:Cx}{o e value:Expr}{f:Str}{pos pos' tpos:Pos}{ta tv:TE}
theorem Au (he:PE X e ta) (hb:attributeBase e f X.env (eval e X.env)=eval e X.env):PE X (.Attribute e f pos) (Gh X.K ta f):=by
 intro pins s σ H Q I h
 refine YQ hb (thn (he pins s σ H _ I h) fun u s1 ⟨x,H1,I1,rx,a,C,dx,fs,v,ex,ea,c,n,l,q⟩=>?_)
 subst ex
 obtain rfl:u=Value.ref a:=rx
 exact PH I1 ea c n l fun u' s2 I2 ru=>⟨v,H1,I2,ru,q⟩
theorem Br (ha:PE X o ta) (hv:PE X value tv) (hs:swapsWith value (some (.Attribute o f pos')) pos.line X.env=pure false):PS X (.Assign [.Attribute o f pos'] value pos) (ki X.K ta tv f):=by
 intro pins s σ H D I h
 refine plainObj_wpAny_Assign_Attribute (thn (hv pins s σ H _ I h) fun u s1 ⟨y,H1,I1,ry,q⟩=>thn (ha pins s1 σ H1 _ I1 q) fun ov s2 ⟨x,H2,I2,rx,a,C,dx,fs,ex,ea,c,n,l,q2⟩=>?_) hs
 subst ex
 obtain rfl:ov=Value.ref a:=rx
 exact Rg I2 ea c n l ry fun s3 I3=>⟨σ,_,I3,q2⟩
theorem MA {op:Operator}{rd:V->V->Hp->VK->Prop} (ha:PE X o ta) (hv:PE X value tv) (hop:iO X op rd):PS X (.AugAssign (.Attribute o f tpos) op value pos) (fg X.K ta tv rd f):=by
 intro pins s σ H D I h
 refine wpAny_AugAssign_AttributeAny (thn (ha pins s σ H _ I h) fun ov s1 ⟨x,H1,I1,rx,a,C,dx,fs,v,ex,ea,c,n,l,q⟩=>?_)
 subst ex
 obtain rfl:ov=Value.ref a:=rx
 refine PH I1 ea c n l fun u s2 I2 ru=>thn (hv pins s2 σ H1 _ I2 q) fun w3 s3 ⟨y,H2,I3,ry,q3⟩=>thn (hop pins s3 σ H2 v y u w3 _ I3 ru ry q3) fun w4 s4 ⟨z,H3,I4,rz,dx',fs',ea',l',q4⟩=>?_
 exact Rg I4 ea' c n l' rz fun s5 I5=>⟨σ,_,I5,q4⟩
noncomputable def jY:V->V->Hp->VK->Prop:=fun x y H Q=>∃i j,x = .int i/\y = .int j/\Q (.int (i+j)) H
theorem XS:iO X .Add jY:=by
 rintro pins s σ H x y u v Q I rx ry ⟨i,j,rfl,rfl,q⟩
 obtain ⟨t,rfl⟩:=(show ∃t,u=Value.int i t from rx)
 obtain ⟨t',rfl⟩:=(show ∃t',v=Value.int j t' from ry)
 exact PyProof.Rows.iadd_int ⟨.int (i+j),H,I.tok _,⟨_,rfl⟩,q⟩
theorem fZ {pl:Sem Bool}{m:Str}{apos:Pos}{args:List Expr}{pins:List (Addr×Obj)}{s:Shared}{σ:St}{H:Hp}{Q:Value->Shared->Prop}{te:TE} (he:PE X e te) (I:Inv X pins σ H s)
  (h:te σ H fun x H1=>∃a C dx fs g,x = .ref a/\H1 a=some (.ins C dx fs)/\Cls X.K C/\Meth X.K C m g/\fs.lookup m=none /\
   ∀s1,Inv X pins σ H1 s1->wpAny (model X.prog X.w) X.A (callWith pos (.ref g) [.ref a] (backTo pos (starEach args X.env)) (backToKw pos (keywordEach [] X.env))) Q X.xe s1)
  (ht:eval (.Call (.Attribute e m apos) args [] pos) X.env=(do
   let ov <-eval e X.env
   standAt apos.atName
   let (f,first) <-holding [ov] (getMethod ov m pl)
   callWith pos f first (backTo pos (starEach args X.env)) (backToKw pos (keywordEach [] X.env)))) :
  wpAny (model X.prog X.w) X.A (eval (.Call (.Attribute e m apos) args [] pos) X.env) Q X.xe s:=by
 refine PySem.W.methodCall_KW (pl:=pl) (thn (he pins s σ H _ I h) fun u s1 ⟨x,H1,I1,rx,a,C,dx,fs,g,ex,ea,c,k,l,q⟩=>?_) ht
 subst ex
 obtain rfl:u=Value.ref a:=rx
 exact JW I1 ea c k l (q s1 I1)
end
end L2
namespace L2
open PySem PySem.Spec PyProof.Rows
structure Cm (k:Nat) (A:Around):Prop where
 hd:A.handled=none
 dp:A.depth+3*k+5<recursionLimit
 un:A.units+16*k+200<cLine
theorem Cm.mono {j k:Nat}{A:Around} (r:Cm k A) (h:j<=k):Cm j A:=⟨r.hd,by have:=r.dp;omega,by have:=r.un;omega⟩
theorem Cm.deeper {k:Nat}{A:Around} (r:Cm (k+1) A) (env:Env):Cm k (A.deeper env):=
 ⟨r.hd,by have:=r.dp;show A.depth+1+3*k+5<_;omega,by have:=r.un;show A.units+3+16*k+200<_;omega⟩
theorem Yb {A:Around}{C:Addr}{us:List Value}{kw:List (Str×Value)}:(A.under (.builtin "type.__call__" ⟨.ref C::us,kw⟩)).depth=A.depth+1:=by
 first|rfl|simp[Around.under,Code.weight,Code.isCreation,Code.isGuard,Code.isCaller,Code.frames,Code.isFrame,guardIds]
theorem Yc {A:Around}{C:Addr}{us:List Value}{kw:List (Str×Value)}:(A.under (.builtin "type.__call__" ⟨.ref C::us,kw⟩)).units=A.units+1:=by
 first|rfl|simp[Around.under,Code.cUnits,Code.frames,Code.isFrame]
theorem Cm.make {k:Nat}{A:Around} (r:Cm (k+1) A) (C:Addr) (us:List Value) (kw:List (Str×Value)):Cm k (A.under (.builtin "type.__call__" ⟨.ref C::us,kw⟩)):=
 ⟨r.hd,by have:=r.dp;rw[Yb];omega,by have:=r.un;rw[Yc];omega⟩
theorem Cm.depth {k:Nat}{A:Around} (r:Cm k A):A.depth<recursionLimit:=by have:=r.dp;omega
theorem Cm.units {k:Nat}{A:Around} (r:Cm k A):A.units+64<cLine:=by have:=r.un;omega
noncomputable def BQ:TA:=fun _ H Q=>Q [] H
noncomputable def AL (ta:TE) (tr:TA):TA:=fun σ H Q=>ta σ H fun x H1=>tr σ H1 fun xs H2=>Q (x::xs) H2
section
variable {X:Cx}{e:Expr}{es:List Expr}{te:TE}{t:TA}{pos:Pos}
theorem Ac:PA X [] BQ:=fun _ _ _ _ H Q I h=>Calls.spliced_nil ⟨[],H,I,.nil,h⟩
theorem Aa (ha:PE X e te) (hr:PA X es t) (hs:starEach (e::es) X.env=(false,eval e X.env)::starEach es X.env:=by rfl):PA X (e::es) (AL te t):=by
 intro pos pins s σ H Q I h
 rw[hs]
 show wpAny _ _ (spliced ((false,eval e X.env)::backTo pos (starEach es X.env))) _ _ s
 refine Calls.spliced_cons (thn (ha pins s σ H _ I h) fun u s1 ⟨x,H1,I1,r1,q1⟩=>?_)
 exact thn (hr pos pins s1 σ H1 _ I1 q1) fun us s2 ⟨xs,H2,I2,r2,q2⟩=>⟨x::xs,H2,I2,.cons r1 r2,q2⟩
noncomputable def YF (t:TA):TE:=fun σ H Q=>t σ H fun xs H1=>xs.length<=sizeLine/\∀p,H1 p=none->Q (.ref p) (upd H1 p (.tup xs))
noncomputable def fL (t:TA):TE:=fun σ H Q=>t σ H fun xs H1=>xs.length<=sizeLine/\∀p,H1 p=none->Q (.ref p) (upd H1 p (.lst xs))
theorem CW {x1} (h:PA X es t):PE X (.Tuple es x1 pos) (YF t):=by
 intro pins s σ H Q I hq
 refine wpAny_Tuple_spliced (thn (h pos pins s σ H _ I hq) fun us s1 ⟨xs,H1,I1,r,z,q⟩=>⟨by rw[<-r.length];exact z,?_⟩)
 have hf:H1 s1.heap.objs.size=none:=I1.hok.fresh (Nat.le_refl _)
 refine ⟨.ref s1.heap.objs.size,upd H1 s1.heap.objs.size (.tup xs),I1.laid (t':=s1.toks) (fun b u e=>Heap.get?_push_of_some _ e) (Nat.le_refl _) ?_,rfl,q _ hf⟩
 exact ⟨z,us,r,⟨_,Heap.get?_push_size _ rfl,rfl,_,rfl⟩⟩
theorem Bb (h:PA X es t):PE X (.List es pos) (fL t):=by
 intro pins s σ H Q I hq
 refine wpAny_List_spliced (thn (h pos pins s σ H _ I hq) fun us s1 ⟨xs,H1,I1,r,z,q⟩=>⟨by rw[<-r.length];exact z,?_⟩)
 have hf:H1 s1.heap.objs.size=none:=I1.hok.fresh (Nat.le_refl _)
 refine ⟨.ref s1.heap.objs.size,upd H1 s1.heap.objs.size (.lst xs),I1.laid (t':=s1.toks) (fun b u e=>Heap.get?_push_of_some _ e) (Nat.le_refl _) ?_,rfl,q _ hf⟩
 exact ⟨z,us,0,r,Heap.get?_push_size _ rfl⟩
end
noncomputable abbrev Sp:=List V->Hp->VK->XK->Prop
noncomputable abbrev CXT:=List Env->Hp->Shared->XK->Value->Shared->Prop
structure Xp (P:Program) (w:World) (K:PySem.W.Frag) (mg:Str->Option Value) (base:Heap) (A:Around) (outer:List Env) (s:Shared) (H:Hp):Prop where
 frames:A.frames=some outer
 mod:Mod K mg base
 bs:∀b o,base.get? b=some o->s.heap.get? b=some o/\H b=none
 bsz:base.objs.size<=s.heap.objs.size
 KR:s.heap.FunFrames base outer
 frf:∀b∈frs outer,H b=none
 hok:HOk P w H s.heap
 bare:AllBare s.gens
noncomputable def CE (outer:List Env) (P:Program) (w:World) (H:Hp) (s:Shared) (Q:VK) (u:Value) (s':Shared):Prop:=
 ∃v H',s'.os=s.os/\AllBare s'.gens/\Un (frs outer) [] H H' s.heap s'.heap/\HOk P w H' s'.heap/\RelV v u/\Q v H'
noncomputable def CR (CX:CXT) (outer:List Env) (P:Program) (w:World) (H:Hp) (s:Shared) (Q:VK) (E:XK) (r:Result) (s':Shared):Prop:=
 match r with
 |.ok (.ret u)=>CE outer P w H s Q u s'
 |.ok _=>False
 |.error e=>CX outer H s E e s'
structure FD (P:Program) (w:World) (K:PySem.W.Frag) (mg:Str->Option Value) (base:Heap) (CX:CXT) (k:Nat) (f:Addr) (fd:FuncData) (ps:List Str) (sp:Sp):Prop where
 len:∀vs H Q E,sp vs H Q E->vs.length=ps.length
 run:∀(A:Around) (outer:List Env) (s:Shared) (H:Hp) (args:Args) (us:List Value) (vs:List V) (Q:VK) (E:XK),Cm k A->Xp P w K mg base A outer s H->BindsTo s fd args (ps.zip us)->Vals vs us->sp vs H Q E ->
  codeAny (model P w) A (.call (.ref f) args) (CR CX outer P w H s Q E) s
theorem Xp.make {P:Program}{w:World}{K:PySem.W.Frag}{mg:Str->Option Value}{base:Heap}{A:Around}{outer:List Env}{s:Shared}{H:Hp} (e:Xp P w K mg base A outer s H) (C:Addr) (us:List Value) (kw:List (Str×Value)) :
  Xp P w K mg base (A.under (.builtin "type.__call__" ⟨.ref C::us,kw⟩)) outer s H:=⟨by first|exact e.frames|(simpa[Around.under,Code.envs,Code.isFrame,pushEnvs] using e.frames),e.mod,e.bs,e.bsz,e.KR,e.frf,e.hok,e.bare⟩
section
variable {X:Cx}{pins:List (Addr×Obj)}{σ:St}{H:Hp}{s s':Shared}
theorem Inv.gD (I:Inv X pins σ H s):Xp X.prog X.w X.K X.mg X.base X.A X.stack s H:=
 ⟨I.ok.frames,I.ok.mod,I.bs,Nat.le_trans I.ok.bsz I.sz,I.stack,I.OR,I.hok,I.bare⟩
theorem Inv.after {Q:VK}{u:Value} (I:Inv X pins σ H s) (h:CE X.stack X.prog X.w H s Q u s'):EP X pins σ Q u s':=by
 obtain ⟨v,H',os,bare,un,hok,r,q⟩:=h
 obtain ⟨hh,g,d,t,os'⟩:=s'
 obtain rfl:os'=s.os:=os
 exact ⟨v,H',I.call (h':=hh) (g':=g) (d':=d) (t':=t) (ch:=[]) un hok bare (fun b z=>absurd z (by simp)),r,q⟩
end
noncomputable def Gg (sp:Sp) (dvs:List V) (E:XK) (t:TA):TE:=fun σ H Q=>t σ H fun vs H1=>sp (vs++dvs) H1 Q E
noncomputable def Hr (C:Addr) (m:Str) (sp:Sp) (dvs:List V) (E:XK) (ta:TE) (t:TA):TE:=fun σ H Q=>ta σ H fun x H1=>∃a dx fs,x = .ref a/\H1 a=some (.ins C dx fs)/\fs.lookup m=none /\
 t σ H1 fun vs H2=>sp (x::(vs++dvs)) H2 Q E
noncomputable def Tq (C:Addr) (sp:Sp) (dvs:List V) (E:XK) (t:TA):TE:=fun σ H Q=>t σ H fun vs H1=>∀x dx,H1 x=none->H1 dx=none->dx≠x ->
 sp (.ref x::(vs++dvs)) (upd (upd H1 dx (.own x)) x (.ins C dx [])) (fun v H2=>v = .non/\Q (.ref x) H2) E
noncomputable def Binds (K:PySem.W.Frag) (fd:FuncData) (ps:List Str) (ds:List Value):Prop:=
 ∀(s:Shared) (us:List Value),K.In s.heap->(us++ds).length=ps.length->BindsTo s fd ⟨us,[]⟩ (ps.zip (us++ds))
theorem Binds.all {K:PySem.W.Frag}{fd:FuncData}{ps:List Str} (h:∀us:List Value,us.length=ps.length->bindArgs fd ⟨us,[]⟩=pure (ps.zip us)):Binds K fd ps []:=fun s us _ hl=>by
 rw[List.append_nil] at hl ⊢
 exact .of_eq (h us hl)
noncomputable def Passes (CX:CXT) (X:Cx) (E:XK):Prop:=∀(pins:List (Addr×Obj)) (σ:St) (H:Hp) (s:Shared) (e:Value) (s':Shared),Inv X pins σ H s->CX X.stack H s E e s'->X.xe e s'
section
variable {X:Cx}{CX:CXT}{k:Nat}{f C:Addr}{fd:FuncData}{ps:List Str}{sp:Sp}{dvs:List V}{ds:List Value}{E:XK}{x m:Str}{p pos apos:Pos}{e o:Expr}{es:List Expr}{ta:TE}{t:TA}
theorem Yw {pins:List (Addr×Obj)}{σ:St}{H:Hp}{s:Shared}{Q:VK}{us:List Value}{vs:List V} (F:FD X.prog X.w X.K X.mg X.base CX k f fd ps sp) (hr:Cm k X.A) (hb:Binds X.K fd ps ds) (hd:Vals dvs ds) (hx:Passes CX X E)
  (I:Inv X pins σ H s) (r:Vals vs us) (h:sp (vs++dvs) H Q E):wpAny (model X.prog X.w) X.A (call (.ref f) us) (EP X pins σ Q) X.xe s:=by
 have r2:Vals (vs++dvs) (us++ds):=r.append hd
 have hl:(us++ds).length=ps.length:=by rw[<-r2.length];exact F.len _ _ _ _ h
 refine wpAny_call (codeAny_mono (F.run X.A X.stack s H ⟨us,[]⟩ (us++ds) (vs++dvs) Q E hr I.gD (hb s us I.kIn hl) r2 h) fun r s' hq=>?_)
 cases r with
 |error e=>exact hx pins σ H s e s' I hq
 |ok fl=>
  cases fl with
  |ret u=>exact I.after hq
  |next=>exact False.elim hq
  |brk=>exact False.elim hq
  |cont=>exact False.elim hq
theorem eU (F:FD X.prog X.w X.K X.mg X.base CX k f fd ps sp) (hr:Cm k X.A) (hg:Gl X x) (hm:X.mg x=some (.ref f)) (hk:PySem.W.keepIn X.K (.ref f)=true) (hb:Binds X.K fd ps ds) (hd:Vals dvs ds) (hx:Passes CX X E)
  (ha:PA X (e::es) t) (hdb:(x==("__debug__":Str))=false:=by decide) (he:starEach (e::es) X.env=(false,eval e X.env)::starEach es X.env:=by rfl) (hpl:(backTo pos (starEach es X.env)).any (·.1)=false:=by rfl) :
  PE X (.Call (.Name x p) (e::es) [] pos) (Gg sp dvs E t):=by
 intro pins s σ H Q I h
 refine wpAny_Call_Name_kw (IT I hg hm ?_ hdb)
 refine PySem.W.callWith_K (h₀:=X.base) I.ok.mod.kin hk (thn (ha pos pins s σ H _ I h) fun us s1 ⟨vs,H1,I1,r,q⟩=>⟨I1.kIn,?_⟩) he hpl
 exact Yw F hr hb hd hx I1 r q
theorem eY {pl:Sem Bool} (he:PE X o ta) (c:Cls X.K C) (hm:Meth X.K C m f) (F:FD X.prog X.w X.K X.mg X.base CX k f fd ps sp) (hr:Cm k X.A) (hb:Binds X.K fd ps ds) (hd:Vals dvs ds) (hx:Passes CX X E) (ha:PA X (e::es) t)
  (hst:starEach (e::es) X.env=(false,eval e X.env)::starEach es X.env:=by rfl) (hpl:(backTo pos (starEach es X.env)).any (·.1)=false:=by rfl)
  (ht:eval (.Call (.Attribute o m apos) (e::es) [] pos) X.env=(do
   let ov <-eval o X.env
   standAt apos.atName
   let (f,first) <-holding [ov] (getMethod ov m pl)
   callWith pos f first (backTo pos (starEach (e::es) X.env)) (backToKw pos (keywordEach [] X.env))):=by rfl) :
  PE X (.Call (.Attribute o m apos) (e::es) [] pos) (Hr C m sp dvs E ta t):=by
 intro pins s σ H Q I h
 refine PySem.W.methodCall_KW (pl:=pl) (thn (he pins s σ H _ I h) fun u s1 ⟨x,H1,I1,rx,a,dx,fs,ex,ea,l,q⟩=>?_) ht
 subst ex
 obtain rfl:u=Value.ref a:=rx
 refine JW I1 ea c hm l ?_
 refine PySem.W.callWith_K (first:=[.ref a]) (h₀:=X.base) I.ok.mod.kin hm.kp (thn (ha pos pins s1 σ H1 _ I1 q) fun us s2 ⟨vs,H2,I2,r,q2⟩=>⟨I2.kIn,?_⟩) hst hpl
 exact Yw (us:=.ref a::us) (vs:=.ref a::vs) F hr hb hd hx I2 (.cons rfl r) q2
theorem cC {pl:Sem Bool} (he:PE X o ta) (c:Cls X.K C) (hm:Meth X.K C m f) (F:FD X.prog X.w X.K X.mg X.base CX k f fd ps sp) (hr:Cm k X.A) (hb:Binds X.K fd ps ds) (hd:Vals dvs ds) (hx:Passes CX X E)
  (ht:eval (.Call (.Attribute o m apos) [] [] pos) X.env=(do
   let ov <-eval o X.env
   standAt apos.atName
   let (f,first) <-holding [ov] (getMethod ov m pl)
   callWith pos f first (backTo pos (starEach [] X.env)) (backToKw pos (keywordEach [] X.env))):=by rfl) :
  PE X (.Call (.Attribute o m apos) [] [] pos) (Hr C m sp dvs E ta BQ):=by
 intro pins s σ H Q I h
 refine PySem.W.methodCall_KW (pl:=pl) (thn (he pins s σ H _ I h) fun u s1 ⟨x,H1,I1,rx,a,dx,fs,ex,ea,l,q⟩=>?_) ht
 subst ex
 obtain rfl:u=Value.ref a:=rx
 refine JW I1 ea c hm l ?_
 exact PySem.W.callWith_K0 (first:=[.ref a]) I1.kIn hm.kp (Yw (us:=[.ref a]) (vs:=[.ref a]) F hr hb hd hx I1 (.cons rfl .nil) q)
structure Mk (K:PySem.W.Frag) (C f:Addr):Prop where
 makes:PySem.W.makesIn K C=true
 init:PySem.W.findIn K (.ref C) "__init__" = some (some (.ref f))
 fn:PySem.W.isFn K (.ref f)=true
 kp:PySem.W.keepIn K (.ref C)=true
theorem WS {pins:List (Addr×Obj)}{σ:St}{H:Hp}{s:Shared}{Q:VK}{us:List Value}{vs:List V} (M:Mk X.K C f) (F:FD X.prog X.w X.K X.mg X.base CX k f fd ps sp) (hr:Cm (k+1) X.A) (hb:Binds X.K fd ps ds) (hd:Vals dvs ds)
  (hx:Passes CX X E) (I:Inv X pins σ H s) (r:Vals vs us)
  (h:∀x dx,H x=none->H dx=none->dx≠x->sp (.ref x::(vs++dvs)) (upd (upd H dx (.own x)) x (.ins C dx [])) (fun v H2=>v = .non/\Q (.ref x) H2) E) :
  wpAny (model X.prog X.w) X.A (call (.ref C) us) (EP X pins σ Q) X.xe s:=by
 have hq:=h (s.heap.objs.size+1) s.heap.objs.size (I.hok.fresh (Nat.le_succ _)) (I.hok.fresh (Nat.le_refl _)) (Nat.ne_of_lt (Nat.lt_succ_self _))
 have I2:=Inv.made (C:=C) I
 have r2:Vals (V.ref (s.heap.objs.size+1)::(vs++dvs)) (Value.ref (s.heap.objs.size+1)::(us++ds)):=.cons rfl (r.append hd)
 have hl:(Value.ref (s.heap.objs.size+1)::us++ds).length=ps.length:=by
  have e:=r2.length
  rw[F.len _ _ _ _ hq] at e
  exact e.symm
 refine wpAny_call (cf (f:=f) I.kIn M.makes M.init (beq_iff_eq.mp M.fn) (codeAny_mono (F.run _ X.stack _ _ ⟨Value.ref (s.heap.objs.size+1)::us,[]⟩ (Value.ref (s.heap.objs.size+1)::(us++ds)) _ _ E (hr.make C us [])
  (I2.gD.make C us []) (hb _ (Value.ref (s.heap.objs.size+1)::us) I2.kIn hl) r2 hq) fun r s' hq'=>?_))
 cases r with
 |error e=>exact hx pins σ _ _ e s' I2 hq'
 |ok fl=>
  cases fl with
  |ret u=>
   obtain ⟨v,H',I3,rv,ev,q3⟩:=I2.after hq'
   subst ev
   exact ⟨rv,⟨V.ref (s.heap.objs.size+1),H',I3,rfl,q3⟩⟩
  |next=>exact False.elim hq'
  |brk=>exact False.elim hq'
  |cont=>exact False.elim hq'
theorem eX (M:Mk X.K C f) (F:FD X.prog X.w X.K X.mg X.base CX k f fd ps sp) (hr:Cm (k+1) X.A) (hg:Gl X x) (hm:X.mg x=some (.ref C)) (hb:Binds X.K fd ps ds) (hd:Vals dvs ds) (hx:Passes CX X E)
  (ha:PA X (e::es) t) (hdb:(x==("__debug__":Str))=false:=by decide) (he:starEach (e::es) X.env=(false,eval e X.env)::starEach es X.env:=by rfl) (hpl:(backTo pos (starEach es X.env)).any (·.1)=false:=by rfl) :
  PE X (.Call (.Name x p) (e::es) [] pos) (Tq C sp dvs E t):=by
 intro pins s σ H Q I h
 refine wpAny_Call_Name_kw (IT I hg hm ?_ hdb)
 refine PySem.W.callWith_K (h₀:=X.base) I.ok.mod.kin M.kp (thn (ha pos pins s σ H _ I h) fun us s1 ⟨vs,H1,I1,r,q⟩=>⟨I1.kIn,?_⟩) he hpl
 exact WS M F hr hb hd hx I1 r q
theorem cB (M:Mk X.K C f) (F:FD X.prog X.w X.K X.mg X.base CX k f fd ps sp) (hr:Cm (k+1) X.A) (hg:Gl X x) (hm:X.mg x=some (.ref C)) (hb:Binds X.K fd ps ds) (hd:Vals dvs ds) (hx:Passes CX X E)
  (hdb:(x==("__debug__":Str))=false:=by decide):PE X (.Call (.Name x p) [] [] pos) (Tq C sp dvs E BQ):=by
 intro pins s σ H Q I h
 refine wpAny_Call_Name_kw (IT I hg hm ?_ hdb)
 exact PySem.W.callWith_K0 I.kIn M.kp (WS (us:=[]) M F hr hb hd hx I .nil h)
end
noncomputable def PK (X:Cx) (kws:List Keyword) (t:TA):Prop:=
 ∀(pos:Pos) (pins:List (Addr×Obj)) (s:Shared) (σ:St) (H:Hp) (Q:List V->Hp->Prop),Inv X pins σ H s->t σ H Q->wpAny (model X.prog X.w) X.A (evalAll ((backToKw pos (keywordEach kws X.env)).map (·.2))) (AP X pins σ Q) X.xe s
section
variable {X:Cx}{CX:CXT}{k:Nat}{f C:Addr}{fd:FuncData}{ps ks:List Str}{sp:Sp}{E:XK}{x m:Str}{p pos apos kpos:Pos}{e o:Expr}{es:List Expr}{kws:List Keyword}{te ta:TE}{t tk:TA}{nm:Option Str}
theorem il:PK X [] BQ:=fun _ _ _ _ H Q I h=>wpAny_evalAll_nil ⟨[],H,I,.nil,h⟩
theorem eZ (ha:PE X e te) (hr:PK X kws t):PK X (⟨nm,e,kpos⟩::kws) (AL te t):=by
 intro pos pins s σ H Q I h
 show wpAny _ _ (evalAll ((do let v <-eval e X.env;standAt pos;pure v)::(backToKw pos (keywordEach kws X.env)).map (·.2))) _ _ s
 refine wpAny_evalAll_cons (wpAny_bind (thn (ha pins s σ H _ I h) fun u s1 ⟨x,H1,I1,r1,q1⟩=>wpAny_bind (wpAny_standAt (wpAny_pure ?_))))
 exact thn (hr pos pins s1 σ H1 _ I1 q1) fun us s2 ⟨xs,H2,I2,r2,q2⟩=>⟨x::xs,H2,I2,.cons r1 r2,q2⟩
variable {g:List Value->List Value->List Value}{gV:List V->List V->List V}
end
structure Am (N P:List Str) (sc:Scope):Prop where
 kind:sc.kind = .function
 co:sc.isCoroutine=false
 gen:sc.isGenerator=false
 nd:N.Nodup
 pre:N.take P.length=P
 par:∀x∈P,sc.names.lookup x=some .local\/sc.names.lookup x=some .cell
 hX:∀y∈sc.names,y.2≠.free
theorem SA {kindOf:Str->Option NameKind}{x:Str}:∀{binds:List (Str×Value)}{m:Str->Option Value},(∀v,(x,v)∉binds)->bindL kindOf binds m x=m x
 |[],_,_=>rfl
 |(n,v)::r,m,h=>by
  unfold bindL
  rw[SA fun w hw=>h w (List.mem_cons_of_mem _ hw)]
  split
  ·have:x≠n:=by rintro rfl;exact h v List.mem_cons_self
   simp[this]
  ·rfl
theorem Sy {kindOf:Str->Option NameKind}{x:Str}:∀{binds:List (Str×Value)}{m:Str->Option Value},(∀v,(x,v)∉binds)->bindC kindOf binds m x=m x
 |[],_,_=>rfl
 |(n,v)::r,m,h=>by
  unfold bindC
  rw[Sy fun w hw=>h w (List.mem_cons_of_mem _ hw)]
  split
  ·rfl
  ·have:x≠n:=by rintro rfl;exact h v List.mem_cons_self
   simp[this]
theorem Sz {kindOf:Str->Option NameKind}{x:Str}{v:Value}:∀{P:List Str}{vs:List Value}{i:Nat}{m:Str->Option Value},P.Nodup->P[i]?=some x->vs[i]?=some v->kindOf x=some .local ->
  bindL kindOf (P.zip vs) m x=some v
 |[],_,_,_,_,h,_,_=>by simp at h
 |_::_,[],_,_,_,_,h,_=>by simp at h
 |p::P,w::vs,0,m,nd,h1,h2,hk=>by
  simp at h1 h2;subst h1;subst h2
  show bindL kindOf ((p,w)::P.zip vs) m p=_
  unfold bindL
  rw[SA fun v hv=>(List.nodup_cons.mp nd).1 (List.of_mem_zip hv).1,if_pos hk]
  simp
 |p::P,w::vs,i+1,m,nd,h1,h2,hk=>by
  show bindL kindOf ((p,w)::P.zip vs) m x=_
  unfold bindL
  exact Sz (i:=i) (List.nodup_cons.mp nd).2 (by simpa using h1) (by simpa using h2) hk
theorem Sx {kindOf:Str->Option NameKind}{x:Str}{v:Value}:∀{P:List Str}{vs:List Value}{i:Nat}{m:Str->Option Value},P.Nodup->P[i]?=some x->vs[i]?=some v->kindOf x≠some .local ->
  bindC kindOf (P.zip vs) m x=some v
 |[],_,_,_,_,h,_,_=>by simp at h
 |_::_,[],_,_,_,_,h,_=>by simp at h
 |p::P,w::vs,0,m,nd,h1,h2,hk=>by
  simp at h1 h2;subst h1;subst h2
  show bindC kindOf ((p,w)::P.zip vs) m p=_
  unfold bindC
  rw[Sy fun v hv=>(List.nodup_cons.mp nd).1 (List.of_mem_zip hv).1,if_neg hk]
  simp
 |p::P,w::vs,i+1,m,nd,h1,h2,hk=>by
  show bindC kindOf ((p,w)::P.zip vs) m x=_
  unfold bindC
  exact Sx (i:=i) (List.nodup_cons.mp nd).2 (by simpa using h1) (by simpa using h2) hk
noncomputable def start (N:List Str) (vs:List V):St:=vs.map some++List.replicate (N.length-vs.length) none
noncomputable def EN (CX:CXT) (P:Program) (w:World) (K:PySem.W.Frag) (mg:Str->Option Value) (base:Heap) (N:List Str) (qual:Str) (scope:Scope) (f:Addr) (cd:Value) (A:Around) (outer:List Env) (s:Shared) (H:Hp) (E:XK):Cx where
 prog:=P
 w:=w
 K:=K
 mg:=mg
 base:=base
 A:=A.deeper (envOfC qual scope s.heap.objs.size f cd)
 N:=N
 s_0:=s
 H_0:=H
 env:=envOfC qual scope s.heap.objs.size f cd
 outer:=outer
 stack:=envOfC qual scope s.heap.objs.size f cd::outer
 ex:=[]
 calm:=true
 fn:=fun _=>true
 pn:=[]
 xe:=fun e s'=>wpAny (model P w) (A.deeper (envOfC qual scope s.heap.objs.size f cd)) (leaving (envOfC qual scope s.heap.objs.size f cd) e) (fun _ s''=>CX outer H s E e s'') (fun e' s''=>CX outer H s E e' s'') s'
theorem VE {sc:Scope}{n:Nat}{x:Str} (h:sc.names.lookup x=some .cell):∃c,(cellsFrom n sc.names []).lookup x=some c:=by
 have q:=PySem.W.cellsFrom_some sc.names n [] (.inl h)
 exact Option.isSome_iff_exists.mp q
theorem SN {CX:CXT}{P:Program}{w:World}{K:PySem.W.Frag}{mg:Str->Option Value}{base:Heap}{N ps:List Str}{qual:Str}{scope:Scope}{f:Addr}{cd:Value}{A:Around}{outer:List Env}{s s1:Shared}{H:Hp}{E:XK}{us:List Value}{vs:List V}
  (S:Am N ps scope) (hd:A.handled=none) (e0:Xp P w K mg base A outer s H) (hl:vs.length=ps.length) (r:Vals vs us)
  (x:InCallC s s.heap.objs.size (bindL (envOfC qual scope s.heap.objs.size f cd).kindOf (ps.zip us) fun _=>none) (cellsFrom (s.heap.objs.size+1) scope.names []) (bindC (envOfC qual scope s.heap.objs.size f cd).kindOf (ps.zip us) fun _=>none) s1) :
  Inv (EN CX P w K mg base N qual scope f cd A outer s H E) [] (start N vs) H s1:=by
 have hpl:ps.length<=N.length:=by have:=congrArg List.length S.pre;rw[List.length_take] at this;omega
 obtain ⟨h1,tk,rfl,hk⟩:=x.done
 have noA:∀b:Addr,b∉(EN CX P w K mg base N qual scope f cd A outer s H E).ex:=fun b z=>absurd (show b∈([]:List Addr) from z) (by simp)
 refine ⟨⟨e0.mod,S.kind,rfl,rfl,Nat.le_refl _,fun y z c h1 h2=>?_,fun y hy=>?_,fun y c _ h=>?_,fun _=>hd,Around.frames_deeper e0.frames,.inr ⟨rfl,rfl⟩,fun b z=>absurd z (noA b),e0.bs,e0.bsz,fun b _ _=>noA b,fun b z=>absurd z (noA b),e0.KR,e0.frf⟩,
  rfl,e0.bare,Un.kept hk,⟨_,x.toInCall.ns,fun i y v h1 h2 h3=>?_⟩,fun y c h=>⟨_,x.cell y c h⟩,e0.hok.fresh (Nat.le_refl _),fun y c h=>?_,fun p hp=>absurd (show p∈([]:List (Addr×Obj)) from hp) (by simp),e0.hok.kept hk,?_⟩
 ·exact name_of_addr x.apart (PySem.mem_of_lookup h1) (PySem.mem_of_lookup h2)
 ·have hy:scope.names.lookup y=some .cell\/scope.names.lookup y=some .free:=hy
  rcases hy with hy|hy
  ·exact VE hy
  ·exact absurd rfl (S.hX _ (PySem.mem_of_lookup hy))
 ·exact Nat.le_of_lt (x.above y c (PySem.mem_of_lookup h))
 ·have hi:i<vs.length:=by
   unfold start at h2
   by_cases hi:i<vs.length
   ·exact hi
   ·rw[List.getElem?_append_right (by simpa using hi)] at h2
    rw[List.getElem?_replicate] at h2
    split at h2<;>cases h2
  have ha:vs[i]?=some v:=by
   unfold start at h2
   rw[List.getElem?_append_left (by simpa using hi),List.getElem?_map] at h2
   cases e:vs[i]? with
   |none=>rw[e] at h2;cases h2
   |some a=>rw[e] at h2;cases h2;rfl
  obtain ⟨u,hu,rv⟩:=r.get ha
  have hp:ps[i]?=some y:=by
   rw[<-S.pre,List.getElem?_take_of_lt (by omega)];exact h1
  have ndP:ps.Nodup:=by rw[<-S.pre];exact S.nd.sublist (List.take_sublist _ _)
  refine ⟨u,rv,?_⟩
  rcases S.par y (List.mem_of_getElem? hp) with k|k
  ·exact .inl ⟨k,Sz ndP hp hu k⟩
  ·obtain ⟨c,e⟩:=VE (n:=s.heap.objs.size+1) k
   refine .inr ⟨.inl k,c,e,?_⟩
   have q:=x.cell y c e
   rw[Sx ndP hp hu (by show scope.names.lookup y≠_;rw[k];decide)] at q
   exact q
 ·exact e0.hok.fresh (Nat.le_of_lt (x.above y c (PySem.mem_of_lookup h)))
 ·unfold start
  show _=N.length
  rw[List.length_append,List.length_map,List.length_replicate]
  omega
theorem fV {CX:CXT}{P:Program}{w:World}{K:PySem.W.Frag}{mg:Str->Option Value}{base:Heap}{k:Nat}{f:Addr}{name qual:Str}{params:Arguments}{body:List Stmt}{scope:Scope}{dV kV doc pm cdv ct oc:Value}{an od:Option Addr}
  {osl:Array (Option Value)}{N ps:List Str}{sp:Sp} (lk:K.lookup f=some ⟨oc,od,.func (PySem.W.fnOf name qual params body scope dV kV doc pm an cdv ct),osl⟩) (hcd:PySem.W.codeIn K cdv qual=true) (S:Am N ps scope)
  (len:∀vs H Q E,sp vs H Q E->vs.length=ps.length)
  (hbody:∀(A:Around) (outer:List Env) (s:Shared) (H:Hp) (vs:List V) (Q:VK) (E:XK),Cm k (A.deeper (envOfC qual scope s.heap.objs.size f cdv))->sp vs H Q E ->
   ∃t,PSs (EN CX P w K mg base N qual scope f cdv A outer s H E) body t/\t { nx:=fun _ H'=>Q .non H',rt:=Q } (start N vs) H) :
  FD P w K mg base CX (k+1) f (PySem.W.fnOf name qual params body scope dV kV doc pm an cdv ct) ps sp:=by
 refine ⟨len,fun A outer s H args us vs Q E hr e0 hb r hsp=>?_⟩
 have hl:=len _ _ _ _ hsp
 have KX:K.In s.heap:=e0.mod.kin.keeps fun b o e=>(e0.bs b o e).1
 have lim:s.heap.NoLimit:=e0.mod.nolimit.keeps fun b o e=>(e0.bs b o e).1
 have hkind:∀y∈ps.zip us,scope.names.lookup y.1=some .local\/(scope.names.lookup y.1=some .cell/\((cellsFrom (s.heap.objs.size+1) scope.names []).lookup y.1).isSome=true):=fun ⟨n,v⟩ hy=>by
  rcases S.par n (List.of_mem_zip hy).1 with q|q
  ·exact .inl q
  ·exact .inr ⟨q,PySem.W.cellsFrom_some _ _ _ (.inl q)⟩
 refine codeAny_call_function hr.depth (KX _ _ lk) rfl S.co S.gen rfl (PySem.W.codeRec_of KX hcd) (hb _ _ _ _ ?_)
 refine wpAny_newFunctionEnv_cells S.kind hkind fun env he s1 x=>?_
 subst he
 refine ⟨lim.keeps x.toInCall.keep,codeAny_func ?_⟩
 obtain ⟨t,ht,hq⟩:=hbody A outer s H vs Q E (hr.deeper _) hsp
 have I:Inv (EN CX P w K mg base N qual scope f cdv A outer s H E) [] (start N vs) H s1:=SN S hr.hd e0 hl r x
 refine wpAny_mono (ht [] s1 (start N vs) H _ I hq) (fun fl s' hs=>?_) fun e s' hs=>hs
 have fin:∀{σ':St}{H':Hp}{v:V}{u:Value},Inv (EN CX P w K mg base N qual scope f cdv A outer s H E) [] σ' H' s'->RelV v u->Q v H'->CE outer P w H s Q u s':=
  fun {σ' H' v u} J rv q=>⟨v,H',J.os,J.bare,J.base,J.hok,rv,q⟩
 cases fl with
 |ret u=>
  obtain ⟨v,σ',H',J,rv,q⟩:=hs
  exact fin J rv q
 |next=>
  obtain ⟨σ',H',J,q⟩:=hs
  exact fin (v:=V.non) (u:=Value.none) J rfl q
 |brk=>
  obtain ⟨_,_,_,q⟩:=hs
  exact False.elim q
 |cont=>
  obtain ⟨_,_,_,q⟩:=hs
  exact False.elim q
end L2
namespace L2
open PySem PySem.Spec PyProof.Rows
section
variable {X:Cx}{x:Str}{p pos:Pos}{e:Expr}{es:List Expr}{t:TA}{id T:String}{r:List V->Hp->VK->Prop}
noncomputable def tCB (r:List V->Hp->VK->Prop) (t:TA):TE:=fun σ H Q=>t σ H fun vs H1=>r vs H1 Q
theorem AD (hc:Je X (.builtin id) r) (hg:Gl X x) (hm:X.mg x=none) (hv:bootBuiltins x=some (.builtin id)) (ha:PA X (e::es) t) (hn:x≠"__name__":=by decide) (hdb:(x==("__debug__":Str))=false:=by decide)
  (he:starEach (e::es) X.env=(false,eval e X.env)::starEach es X.env:=by rfl) (hpl:(backTo pos (starEach es X.env)).any (·.1)=false:=by rfl):PE X (.Call (.Name x p) (e::es) [] pos) (tCB r t):=by
 intro pins s σ H Q I h
 refine wpAny_Call_Name_kw (Mr I hg hm hv ?_ hn hdb)
 exact PyProof.Rows.callWith_builtin1 (thn (ha pos pins s σ H _ I h) fun us s1 ⟨vs,H1,I1,r1,q1⟩=>hc pins s1 σ H1 vs us Q I1 r1 q1) he hpl
theorem FZ (hc:Je X (.type T) r) (hg:Gl X x) (hm:X.mg x=none) (hv:bootBuiltins x=some (.type T)) (ha:PA X (e::es) t) (hn:x≠"__name__":=by decide) (hdb:(x==("__debug__":Str))=false:=by decide)
  (he:starEach (e::es) X.env=(false,eval e X.env)::starEach es X.env:=by rfl) (hpl:(backTo pos (starEach es X.env)).any (·.1)=false:=by rfl):PE X (.Call (.Name x p) (e::es) [] pos) (tCB r t):=by
 intro pins s σ H Q I h
 refine wpAny_Call_Name_kw (Mr I hg hm hv ?_ hn hdb)
 exact PyProof.Rows.callWith_type1 (thn (ha pos pins s σ H _ I h) fun us s1 ⟨vs,H1,I1,r1,q1⟩=>hc pins s1 σ H1 vs us Q I1 r1 q1) he hpl
end
end L2
namespace HT
open PySem PyProof.Rows
section
variable {prog:Program}{w:World}{A:Around}{E:Value->Shared->Prop}{s:Shared}
theorem ei {t b:Addr}{vs ws:List Value}{Q:Value->Shared->Prop} (ht:IsTup s.heap t vs.toArray) (hb:IsTup s.heap b ws.toArray) (hv:vs≠[])
  (h1:ws=[]->Q (.ref t) s) (h2:ws≠[]->Q (.ref s.heap.objs.size) { s with heap:=s.heap.push { cls:=.type "tuple",data:=.seq (vs++ws).toArray } })
  (hsz:vs.length+ws.length<=sizeLine):wpAny (model prog w) A (binaryOp .Add (.ref t) (.ref b)) Q E s:=by
 obtain ⟨⟨cls,dd,data,sl⟩,ho,hc,n,hd⟩:=id ht
 obtain ⟨⟨cls2,dd2,data2,sl2⟩,ho2,hc2,n2,hd2⟩:=id hb
 simp only at hc hd hc2 hd2
 subst hc hd hc2 hd2
 have e:vs.toArray++ws.toArray=(vs++ws).toArray:=by simp
 by_cases hw:ws=[]
 ·exact concat_meets ⟨_,ho,rfl⟩ ⟨_,ho2,rfl⟩ noFill_tuple_add seq_tuple_add PySem.F.slot_tuple_add PySem.F.entry_tuple_add (PySem.F.args_tuple_add_2 _ _)
   (tuple_addW1 t b vs.toArray ws.toArray n n2 dd dd2 sl sl2 (by simpa using hv) (by simp[hw])) ⟨ho,ho2,h1 hw⟩
 ·refine concat_meets ⟨_,ho,rfl⟩ ⟨_,ho2,rfl⟩ noFill_tuple_add seq_tuple_add PySem.F.slot_tuple_add PySem.F.entry_tuple_add (PySem.F.args_tuple_add_2 _ _)
   (tuple_addW2 t b vs.toArray ws.toArray n n2 dd dd2 sl sl2 (by simpa using hv) (by simpa using hw) (by rw[List.size_toArray,List.size_toArray];exact hsz)) ⟨ho,ho2,?_⟩
  rw[e]
  exact h2 hw
noncomputable def sIx (n d:Nat):Option Int->Nat
 |none=>d
 |some v=>if v<0 then (v+(n:Int)).toNat else min v.toNat n
theorem cM (n d:Nat):sIx n d none=d:=rfl
theorem LB (n d k:Nat):sIx n d (some (k:Int))=min k n:=by
 show (if (k:Int)<0 then ((k:Int)+(n:Int)).toNat else min (k:Int).toNat n)=min k n
 rw[if_neg (by omega),Int.toNat_natCast]
end
end HT
namespace L2
open PySem PySem.Spec PyProof.Rows
noncomputable abbrev TO:=St->Hp->(Option Int->Hp->Prop)->Prop
noncomputable def PO (X:Cx) (e:Option Expr) (t:TO):Prop:=
 ∀(pins:List (Addr×Obj)) (s:Shared) (σ:St) (H:Hp) (Q:Option Int->Hp->Prop),Inv X pins σ H s->t σ H Q ->
  wpAny (model X.prog X.w) X.A (evalPart e X.env) (fun u s'=>∃o H',Inv X pins σ H' s'/\IsPart u o/\Q o H') X.xe s
noncomputable def Zu:TO:=fun _ H Q=>Q none H
noncomputable def Zv (t:TE):TO:=fun σ H Q=>t σ H fun x H1=>∃i,x = .int i/\Q (some i) H1
section
variable {X:Cx}{e:Expr}{te:TE}{lo hi:Option Expr}{tl th:TO}{pos p2:Pos}
theorem fb:PO X none Zu:=by
 intro pins s σ H Q I h
 rw[evalPart_none]
 exact wpAny_pure ⟨none,H,I,.none,h⟩
theorem Lz (h:PE X e te):PO X (some e) (Zv te):=by
 intro pins s σ H Q I hw
 rw[evalPart_some]
 refine thn (h pins s σ H _ I hw) fun u s1 ⟨x,H1,I1,r1,q1⟩=>?_
 obtain ⟨i,rfl,q⟩:=q1
 obtain ⟨t,rfl⟩:=r1
 exact ⟨some i,H1,I1,.int i t,q⟩
noncomputable def SlR (X:Cx) (r:V->Option Int->Option Int->Hp->VK->Prop):Prop:=
 ∀(pins:List (Addr×Obj)) (s:Shared) (σ:St) (H:Hp) (x:V) (v vl vu:Value) (lo hi:Option Int) (sl:Addr) (Q:VK),Inv X pins σ H s->RelV x v->s.heap.IsSliceOf sl vl vu .none->IsPart vl lo->IsPart vu hi->r x lo hi H Q ->
  ∃T id,typeLookup (.type T) "__getitem__" = pure (some (.builtin id))/\s.TypeIs v T/\wpAny (model X.prog X.w) X.A (getItem v (.ref sl)) (EP X pins σ Q) X.xe s
noncomputable def tSl (r:V->Option Int->Option Int->Hp->VK->Prop) (te:TE) (tl th:TO):TE:=fun σ H Q=>te σ H fun x H1=>tl σ H1 fun l H2=>th σ H2 fun u H3=>r x l u H3 Q
theorem QN {r:V->Option Int->Option Int->Hp->VK->Prop} (hr:SlR X r) (he:PE X e te) (hl:PO X lo tl) (hu:PO X hi th):PE X (.Subscript e (.Slice lo hi none p2) pos) (tSl r te tl th):=by
 intro pins s σ H Q I h
 refine Subscript_ (thn (he pins s σ H _ I h) fun v s1 ⟨x,H1,I1,r1,q1⟩=>?_)
 refine wpAny_Slice (thn (hl pins s1 σ H1 _ I1 q1) fun vl s2 ⟨l,H2,I2,pl,q2⟩=>thn (hu pins s2 σ H2 _ I2 q2) fun vu s3 ⟨u,H3,I3,pu,q3⟩=>?_)
 rw[evalPart_none]
 refine wpAny_pure ?_
 have I4:Inv X pins σ H3 { s3 with heap:=s3.heap.push { cls:=.type "slice",data:=.fields #[vl,vu,.none] } }:=I3.kept (t':=s3.toks) fun b ob q=>Heap.get?_push_of_some _ q
 obtain ⟨T,id,hT,ht,hg⟩:=hr pins { s3 with heap:=s3.heap.push { cls:=.type "slice",data:=.fields #[vl,vu,.none] } } σ H3 x v vl vu l u s3.heap.objs.size Q I4 r1 (Heap.IsSliceOf.new ..) pl pu q3
 show wpAny (model X.prog X.w) X.A (subscriptTail e (.Slice lo hi none p2) v (.ref s3.heap.objs.size)) (EP X pins σ Q) X.xe { s3 with heap:=s3.heap.push { cls:=.type "slice",data:=.fields #[vl,vu,.none] } }
 exact tail_any (ops:=[.ref s3.heap.objs.size,v]) ht hT hg (by with_unfolding_all rfl)
noncomputable def Oc (xs:List V) (lo hi:Option Int):List V:=(xs.drop (HT.sIx xs.length 0 lo)).take (HT.sIx xs.length xs.length hi-HT.sIx xs.length 0 lo)
theorem VH (xs:List V) (lo hi:Option Int):(Oc xs lo hi).length<=xs.length:=by
 unfold Oc
 rw[List.length_take,List.length_drop]
 omega
theorem Vals.OL {xs:List V}{us:List Value} (r:Vals xs us):us=[]<->xs=[]:=by
 cases r with
 |nil=>simp
 |cons _ _=>simp
end
end L2
namespace L2
open PySem PySem.Spec PyProof.Rows
noncomputable def ixN (n:Nat) (i:Int):Option Nat:=if 0<=i then (if i<n then some i.toNat else none) else if -(n:Int)<=i then some (i+n).toNat else none
noncomputable def atI {α:Type} (xs:List α) (i:Int):Option α:=(ixN xs.length i).bind fun j=>xs[j]?
theorem Zg {n:Nat}{i:Int}{j:Nat} (h:ixN n i=some j):seqIndex? i n=some j/\j<n/\-(n:Int)<=i/\i<n:=by
 unfold ixN at h
 by_cases h0:0<=i
 ·rw[if_pos h0] at h
  by_cases h1:i<n
  ·rw[if_pos h1] at h
   have e:i.toNat=j:=Option.some.inj h
   exact ⟨by rw[seqIndex_of h0 h1,e],by omega,by omega,h1⟩
  ·rw[if_neg h1] at h;cases h
 ·rw[if_neg h0] at h
  by_cases h1:-(n:Int)<=i
  ·rw[if_pos h1] at h
   have e:(i+n).toNat=j:=Option.some.inj h
   exact ⟨by rw[seqIndex_neg (by omega) h1,e],by omega,h1,by omega⟩
  ·rw[if_neg h1] at h;cases h
theorem TK {α:Type}{xs:List α}{i:Int}{v:α} (h:atI xs i=some v):∃j,seqIndex? i xs.length=some j/\xs[j]?=some v/\j<xs.length/\-(xs.length:Int)<=i/\i<xs.length:=by
 unfold atI at h
 cases e:ixN xs.length i with
 |none=>rw[e] at h;cases h
 |some j=>
  rw[e] at h
  obtain ⟨h1,h2,h3,h4⟩:=Zg e
  exact ⟨j,h1,h,h2,h3,h4⟩
theorem AK {α:Type}{xs:List α}{j:Nat}{v:α} (h:xs[j]?=some v):atI xs (j:Int)=some v:=by
 have hj:j<xs.length:=(List.getElem?_eq_some_iff.mp h).1
 have e:ixN xs.length (j:Int)=some j:=by
  unfold ixN
  rw[if_pos (by omega),if_pos (by omega)];simp
 unfold atI;rw[e];exact h
noncomputable def dO (b:Expr):Prop:=∀o i,subscripted b false o i=operate [o,i] (getItem o i)
noncomputable def IxR (X:Cx) (r:R2):Prop:=
 ∀(value slice:Expr) (pins:List (Addr×Obj)) (s:Shared) (σ:St) (H:Hp) (x y:V) (v u:Value) (Q:VK),Inv X pins σ H s->RelV x v->RelV y u->r x y H Q ->
  subscripted slice false v u=operate [v,u] (getItem v u)->wpAny (model X.prog X.w) X.A (subscriptTail value slice v u) (EP X pins σ Q) X.xe s
noncomputable def MtR (X:Cx) (id:String) (r:V->List V->Hp->VK->Prop):Prop:=
 ∀(pins:List (Addr×Obj)) (s:Shared) (σ:St) (H:Hp) (x:V) (xs:List V) (v:Value) (us:List Value) (Q:VK),Inv X pins σ H s->RelV x v->Vals xs us->r x xs H Q ->
  wpAny (model X.prog X.w) X.A (call (.builtin id) (v::us)) (EP X pins σ Q) X.xe s
section
variable {X:Cx}{a b:Expr}{ta tb:TE}{pos:Pos}
theorem Be {r:R2} (hr:IxR X r) (ha:PE X a ta) (hb:PE X b tb) (hs:dO b):PE X (.Subscript a b pos) (tOp r ta tb):=by
 intro pins s σ H Q I h
 exact Subscript_ (gn ha hb I h fun v u s2 x y H2 I2 rx ry q=>hr a b pins s2 σ H2 x y v u Q I2 rx ry q (hs _ _))
noncomputable def jr (K:PySem.W.Frag):R2:=fun x y H Q=>∃p xs i v,x = .ref p/\y = .int i/\SqL K H p xs/\atI xs i=some v/\Q v H
noncomputable def ke (K:PySem.W.Frag):R2:=fun x y H Q=>∃p xs i v,x = .ref p/\y = .int i/\SqT K H p xs/\atI xs i=some v/\Q v H
noncomputable def ka:R2:=fun x y H Q=>∃z i c,x = .str z/\y = .int i/\z.length<=sizeLine/\atI z.cps.toList i=some c/\Q (.str ⟨#[c]⟩) H
theorem Bs:IxR X (jr X.K):=by
 intro value slice pins s σ H x y v u Q I rx ry h hs
 obtain ⟨p,xs,i,z,rfl,rfl,hq,he,q⟩:=h
 cases rx
 obtain ⟨t,rfl⟩:=ry
 obtain ⟨its,r,pl,hz⟩:=I.list hq
 obtain ⟨j,h1,h2,h3,h4,h5⟩:=TK he
 obtain ⟨w,ew,rw'⟩:=r.get h2
 have hl:=r.length
 have hn:=JX
 have fin:EP X pins σ Q w s:=⟨z,H,I,rw',q⟩
 by_cases h0:0<=i
 ·have hj:i.toNat=j:=by
   rw[seqIndex_of h0 h5] at h1
   exact Option.some.inj h1
  exact item_listR pl.isList h0 (by omega) (by rw[hj];simpa using ew) fin hs
 ·have hj:(i+(its.toArray.size:Int)).toNat=j:=by
   rw[seqIndex_neg (by omega) h4] at h1
   rw[List.size_toArray,<-hl]
   exact Option.some.inj h1
  exact subscriptTail_builtinR (x:=w) pl.isList.typeIs slot_list_getitem.lookup
   (wpAny_getItem_list_neg (Q:=fun r s'=>r=w/\EP X pins σ Q r s') pl.isList (by omega) (by rw[List.size_toArray]<;>omega) (by omega) (by rw[hj];simpa using ew) ⟨rfl,fin⟩) hs
theorem BE:IxR X (ke X.K):=by
 intro value slice pins s σ H x y v u Q I rx ry h hs
 obtain ⟨p,xs,i,z,rfl,rfl,hq,he,q⟩:=h
 cases rx
 obtain ⟨t,rfl⟩:=ry
 obtain ⟨its,r,pl,hz⟩:=I.tuple hq
 obtain ⟨j,h1,h2,h3,h4,h5⟩:=TK he
 obtain ⟨w,ew,rw'⟩:=r.get h2
 have hl:=r.length
 have hn:=JX
 have fin:EP X pins σ Q w s:=⟨z,H,I,rw',q⟩
 exact subscriptTail_builtinR (x:=w) pl.typeIs slot_tuple_getitem.lookup
  (getItem_tuple (j:=j) (Q:=fun r s'=>r=w/\EP X pins σ Q r s') pl (by omega) (by omega) (by rw[List.size_toArray,<-hl];exact h1) (by simpa using ew) ⟨rfl,fin⟩) hs
theorem gQ:IxR X ka:=by
 intro value slice pins s σ H x y v u Q I rx ry h hs
 obtain ⟨z,i,c,rfl,rfl,hz,he,q⟩:=h
 obtain ⟨t,rfl⟩:=rx
 obtain ⟨t',rfl⟩:=ry
 obtain ⟨j,h1,h2,h3,h4,h5⟩:=TK he
 have hl:z.cps.toList.length=z.length:=by simp[Str.length]
 rw[hl] at h1 h4 h5
 have hn:=JX
 exact tail_any (typeIs_str s z t) slot_str_getitem.lookup (getItem_str (c:=c) (by
  have e1:decide (i < -(2^63:Int))=false:=decide_eq_false (by omega)
  have e2:decide (i ≥ 2^63)=false:=decide_eq_false (by omega)
  rw[e1,e2,Bool.or_false]) (by rw[h1];simpa using h2) ⟨.str ⟨#[c]⟩,H,I.tok _,⟨_,rfl⟩,q⟩) hs
theorem Yd (its:List Value) (n j:Nat) (u:Value):Obj.mapSeq (·.setIfInBounds j u) { cls:=.type "list",data:=.seq its.toArray n }={ cls:=.type "list",data:=.seq (its.set j u).toArray n }:=by
 simp[Obj.mapSeq]
theorem Inv.lst {pins:List (Addr×Obj)}{σ:St}{H:Hp}{s:Shared}{p:Addr}{xs:List V} (I:Inv X pins σ H s) (h:H p=some (.lst xs)) :
  ∃(its:List Value) (n:Nat),Vals xs its/\s.heap.get? p=some { cls:=.type "list",data:=.seq its.toArray n }/\xs.length<=sizeLine:=by
 obtain ⟨z,its,n,r,e⟩:=I.hok p _ h
 exact ⟨its,n,r,e,z⟩
theorem Inv.gZ {pins:List (Addr×Obj)}{σ:St}{H:Hp}{s:Shared}{p:Addr}{xs ys:List V}{its its':List Value}{n n':Nat}{f:Obj->Obj} (I:Inv X pins σ H s) (h:H p=some (.lst xs))
  (ho:s.heap.get? p=some { cls:=.type "list",data:=.seq its.toArray n }) (hf:f { cls:=.type "list",data:=.seq its.toArray n }={ cls:=.type "list",data:=.seq its'.toArray n' }) (r:Vals ys its') (hz:ys.length<=sizeLine) (t:Nat) :
  Inv X pins σ (upd H p (.lst ys)) { s with heap:=s.heap.update p f,toks:=t }:=by
 have e:(s.heap.update p f).get? p=some { cls:=.type "list",data:=.seq its'.toArray n' }:=by
  rw[Heap.get?_update_self f ho (by rw[hf]<;>rfl),hf]
 refine I.write (x:=p) (e:=p) (by rw[h];trivial) (.inl rfl) (fun b u hb q=>(Heap.get?_update_other _ _ (Ne.symm hb)).trans q) ⟨_,e⟩ ?_
 exact ⟨hz,its',n',r,e⟩
noncomputable def js:V->V->V->Hp->(Hp->Prop)->Prop:=fun o i v H Q=>∃p xs k j,o = .ref p/\i = .int k/\H p=some (.lst xs)/\ixN xs.length k=some j/\Q (upd H p (.lst (xs.set j v)))
theorem set_list:iR X js:=by
 intro pins s σ H o i v ov iv u Q I ro ri rv h
 obtain ⟨p,xs,k,j,rfl,rfl,hp,hj,q⟩:=h
 cases ro
 obtain ⟨t,rfl⟩:=ri
 obtain ⟨its,n,r,ho,hz⟩:=I.lst hp
 obtain ⟨h1,h2,h3,h4⟩:=Zg hj
 have hl:=r.length
 have hn:=JX
 have I':Inv X pins σ (upd H p (.lst (xs.set j v))) { s with heap:=s.heap.update p (Obj.mapSeq (·.setIfInBounds j u)) }:=
  I.gZ hp ho (Yd its n j u) (r.set rv j) (by rw[List.length_set];exact hz) s.toks
 by_cases h0:0<=k
 ·have hk:k.toNat=j:=by
   rw[seqIndex_of h0 h4] at h1
   exact Option.some.inj h1
  exact PySem.W.ki_setAt ho h0 (by omega) (by rw[List.size_toArray,<-hl];exact h4) (by rw[hk];exact ⟨_,I',q⟩)
 ·have hk:(k+(its.toArray.size:Int)).toNat=j:=by
   rw[seqIndex_neg (by omega) h3] at h1
   rw[List.size_toArray,<-hl]
   exact Option.some.inj h1
  exact PySem.W.ki_setBack ho (by omega) (by rw[List.size_toArray,<-hl];exact h3) (by omega) (by rw[hk];exact ⟨_,I',q⟩)
theorem Vn (lo hi:Option Int) (n:Nat):(sliceBounds lo hi none n).1=((HT.sIx n 0 lo:Nat):Int)/\(sliceBounds lo hi none n).2.1=((HT.sIx n n hi:Nat):Int)/\(sliceBounds lo hi none n).2.2=1:=by
 refine ⟨?_,?_,rfl⟩
 ·cases lo with
  |none=>simp[sliceBounds,HT.sIx]
  |some i=>
   simp only [sliceBounds,HT.sIx,Option.getD_none,show (1:Int) > 0 by decide,if_true]
   by_cases h:i<0
   ·simp only [h,if_true]<;>omega
   ·simp only [h,if_false]<;>omega
 ·cases hi with
  |none=>simp[sliceBounds,HT.sIx]
  |some i=>
   simp only [sliceBounds,HT.sIx,Option.getD_none,show (1:Int) > 0 by decide,if_true]
   by_cases h:i<0
   ·simp only [h,if_true]<;>omega
   ·simp only [h,if_false]<;>omega
theorem Sq (its:List Value) (lo hi:Option Int):slicePick its.toArray lo hi none=((its.drop (HT.sIx its.length 0 lo)).take (HT.sIx its.length its.length hi-HT.sIx its.length 0 lo)).toArray:=by
 obtain ⟨h1,h2,h3⟩:=Vn lo hi its.toArray.size
 unfold slicePick
 rw[h1,h2,h3]
 simp only [sliceRange_one,pick_run,List.size_toArray]<;>rfl
noncomputable def ip (K:PySem.W.Frag):V->Option Int->Option Int->Hp->VK->Prop:=fun x lo hi H Q=>∃a xs,x = .ref a/\SqL K H a xs/\∀p,H p=none->Q (.ref p) (upd H p (.lst (Oc xs lo hi)))
theorem Vm:SlR X (ip X.K):=by
 intro pins s σ H x v vl vu lo hi sl Q I rx hs pl pu h
 obtain ⟨a,xs,rfl,hx,q⟩:=h
 cases rx
 obtain ⟨its,r,ht,hz⟩:=I.list hx
 have hlen:=r.length
 refine ⟨"list",_,slot_list_getitem.lookup,ht.isList.typeIs,?_⟩
 refine wpAny_getItem_list_slice ht.isList hs pl pu .none (by simp) ?_ (by rw[List.size_toArray]<;>omega)
 rw[Sq,<-hlen]
 refine ⟨.ref s.heap.objs.size,_,I.laid (t':=s.toks) (o:=.lst (Oc xs lo hi)) (fun b ob q=>Heap.get?_push_of_some _ q) (Nat.le_refl _) ?_,rfl,q _ (I.hok.fresh (Nat.le_refl _))⟩
 exact ⟨Nat.le_trans (VH xs lo hi) hz,_,0,(r.drop (HT.sIx xs.length 0 lo)).take (HT.sIx xs.length xs.length hi-HT.sIx xs.length 0 lo),Heap.get?_push_size _ rfl⟩
theorem AQ:Je X (.builtin "len") (fun xs H Q=>∃p ys,xs=[.ref p]/\(SqL X.K H p ys\/SqT X.K H p ys)/\Q (.int ys.length) H):=by
 intro pins s σ H xs us Q I r h
 obtain ⟨p,ys,rfl,hq,q⟩:=h
 obtain ⟨u,rfl,rx⟩:=vals1 r
 cases rx
 have hn:=JX
 rcases hq with hq|hq
 ·obtain ⟨its,r',pl,hz⟩:=I.list hq
  have hlen:=r'.length
  exact Calls.call_len_list pl.isList (by simp only [List.size_toArray]<;>omega) ⟨.int ys.length,H,I.tok _,⟨s.toks+1,by rw[List.size_toArray,hlen]⟩,q⟩
 ·obtain ⟨its,r',pl,hz⟩:=I.tuple hq
  have hlen:=r'.length
  exact len_tuple pl (by simp only [List.size_toArray]<;>omega) ⟨.int ys.length,H,I.tok _,⟨s.toks+1,by rw[List.size_toArray,hlen]⟩,q⟩
theorem Kz:Je X (.type "list") (fun xs H Q=>∃p ys,xs=[.ref p]/\(SqL X.K H p ys\/SqT X.K H p ys)/\∀l,H l=none->Q (.ref l) (upd H l (.lst ys))):=by
 intro pins s σ H xs us Q I r h
 obtain ⟨p,ys,rfl,hq,q⟩:=h
 obtain ⟨u,rfl,rx⟩:=vals1 r
 cases rx
 have fin:∀(its:List Value),Vals ys its->ys.length<=sizeLine->∀(h':Heap) (c':Nat),(∀b o',s.heap.get? b=some o'->h'.get? b=some o') ->
   h'.get? s.heap.objs.size=some { cls:=.type "list",dict:=none,data:=.seq its.toArray c',slots:=#[] }->EP X pins σ Q (.ref s.heap.objs.size) { s with heap:=h' }:=fun its r' hz h' c' kp e=>
  ⟨.ref s.heap.objs.size,_,I.laid (t':=s.toks) kp (Nat.le_refl _) (show BH X.prog X.w _ h' _ (.lst ys) from ⟨hz,its,c',r',e⟩),rfl,q _ (I.hok.fresh (Nat.le_refl _))⟩
 rcases hq with hq|hq
 ·obtain ⟨its,r',pl,hz⟩:=I.list hq
  have hlen:=r'.length
  obtain ⟨o,ho,hc,n,hd⟩:=pl.isList
  exact call_list_seq p (.inl rfl) ho hc hd (fun h' c' kp e=>fin its r' hz h' c' kp e) (by simp only [List.size_toArray]<;>omega)
 ·obtain ⟨its,r',pl,hz⟩:=I.tuple hq
  have hlen:=r'.length
  obtain ⟨o,ho,hc,n,hd⟩:=pl
  exact call_list_seq p (.inr rfl) ho hc hd (fun h' c' kp e=>fin its r' hz h' c' kp e) (by simp only [List.size_toArray]<;>omega)
theorem RD:Je X (.type "tuple") (fun xs H Q=>∃p ys,xs=[.ref p]/\((SqL X.K H p ys/\∀l,H l=none->Q (.ref l) (upd H l (.tup ys)))\/(SqT X.K H p ys/\Q (.ref p) H))):=by
 intro pins s σ H xs us Q I r h
 obtain ⟨p,ys,rfl,h⟩:=h
 obtain ⟨u,rfl,rx⟩:=vals1 r
 cases rx
 rcases h with ⟨hq,q⟩|⟨hq,q⟩
 ·obtain ⟨its,r',pl,hz⟩:=I.list hq
  have hlen:=r'.length
  refine call_tuple_list pl.isList (fun h' kp=>?_) (by simp only [List.size_toArray]<;>omega)
  have I1:Inv X pins σ H { s with heap:=h' }:=I.kept (t':=s.toks) kp
  have I2:Inv X pins σ (upd H h'.objs.size (.tup ys)) { s with heap:=h'.push { cls:=.type "tuple",data:=.seq its.toArray } }:=
   I1.laid (t':=s.toks) (fun b o e=>Heap.get?_push_of_some _ e) (Nat.le_refl _) (show BH X.prog X.w _ _ _ (.tup ys) from ⟨hz,its,r',IsTup.new _ _⟩)
  exact ⟨.ref h'.objs.size,_,I2,rfl,q _ (I1.hok.fresh (Nat.le_refl _))⟩
 ·obtain ⟨its,r',pl,hz⟩:=I.tuple hq
  exact call_tuple_same pl ⟨.ref p,H,I,rfl,q⟩
noncomputable def tyV (K:PySem.W.Frag) (T:String) (x:V) (H:Hp):Prop:=match x with
 |.str _=>T="str"
 |.int _=>T="int"
 |.ref p=>(T="list"/\∃xs,SqL K H p xs)\/(T="tuple"/\∃o,K.lookup p=some o/\o.cls = .type "tuple"/\o.dict=none) \/
   (T="dict"/\((∃kvs,H p=some (.dK kvs))\/∃kvs,H p=some (.dT kvs)))\/(T="set"/\∃S n,H p=some (.set S n))
 |_=>False
theorem iM {pins:List (Addr×Obj)}{σ:St}{H:Hp}{s:Shared}{T:String}{x:V}{v:Value} (I:Inv X pins σ H s) (r:RelV x v) (ty:tyV X.K T x H) :
  s.TypeIs v T/\∀a,v = .ref a->∃ob,s.heap.get? a=some ob/\ob.dict=none:=by
 cases x with
 |str z=>
  obtain ⟨t,rfl⟩:=r
  cases (show T="str" from ty)
  exact ⟨typeIs_str s z t,fun _ e=>nomatch e⟩
 |int i=>
  obtain ⟨t,rfl⟩:=r
  cases (show T="int" from ty)
  exact ⟨typeIs_int s i t,fun _ e=>nomatch e⟩
 |ref p=>
  cases r
  rcases ty with ⟨rfl,xs,hq⟩|⟨rfl,o,hk,hc,hd⟩|⟨rfl,hk⟩|⟨rfl,S,n,hk⟩
  ·obtain ⟨its,_,pl,_⟩:=I.list hq
   refine ⟨pl.isList.typeIs,fun a e=>?_⟩
   cases e
   obtain ⟨o,n,e,c,hd,_⟩:=pl
   exact ⟨o,e,hd⟩
  ·refine ⟨⟨o,I.kIn p o hk,hc⟩,fun a e=>?_⟩
   cases e
   exact ⟨o,I.kIn _ o hk,hd⟩
  ·have z:∃o,s.heap.get? p=some o/\o.ExactDict:=by
    rcases hk with ⟨kvs,hk⟩|⟨kvs,hk⟩
    ·obtain ⟨_,_,_,_,o,_,_,e,ex,_⟩:=I.hok p _ hk
     exact ⟨o,e,ex⟩
    ·obtain ⟨_,_,_,_,o,_,_,e,ex,_⟩:=I.hok p _ hk
     exact ⟨o,e,ex⟩
   obtain ⟨o,e,ex⟩:=z
   refine ⟨⟨o,e,ex.1⟩,fun a e2=>?_⟩
   cases e2
   exact ⟨o,e,ex.2.1⟩
  ·obtain ⟨o,_,_,_,e,ex,_⟩:=I.hok p _ hk
   refine ⟨⟨o,e,ex.1⟩,fun a e2=>?_⟩
   cases e2
   exact ⟨o,e,ex.2.1⟩
 |_=>exact False.elim ty
noncomputable def tBM (K:PySem.W.Frag) (T:String) (r:V->List V->Hp->VK->Prop) (to:TE) (t:TA):TE:=fun σ H Q=>to σ H fun x H1=>tyV K T x H1/\t σ H1 fun xs H2=>r x xs H2 Q
variable {o e:Expr}{es:List Expr}{to:TE}{t:TA}{name:Str}{apos cpos:Pos}{T id:String}{r:V->List V->Hp->VK->Prop}
theorem He (pa:PlainAttrs T) (slot:Slot T name id) (hty:typeOf (.builtin id)=pure (.type "method_descriptor")) (hm:MtR X id r) (ho:PE X o to) (ha:PA X (e::es) t)
  (hbase:attributeBase o name X.env (eval o X.env)=eval o X.env:=by rfl)
  (hfew:((backTo cpos (starEach (e::es) X.env)).all (fun x=>!x.1)&&(backToKw cpos (keywordEach [] X.env)).all (fun x=>x.1.isSome)
   && decide ((e::es).length+([]:List Keyword).length+(if ([]:List Keyword).isEmpty then 0 else 1)<30))=true:=by rfl)
  (hline:(apos.endLine==cpos.line)=true:=by rfl) (hs:starEach (e::es) X.env=(false,eval e X.env)::starEach es X.env:=by rfl) (hplain:(backTo cpos (starEach es X.env)).any (·.1)=false:=by rfl) :
  PE X (.Call (.Attribute o name apos) (e::es) [] cpos) (tBM X.K T r to t):=by
 intro pins s σ H Q I h
 refine wpAny_Call_method_late hbase hfew hline rfl (thn (ho pins s σ H _ I h) fun v s1 ⟨x,H1,I1,r1,ty,q1⟩=>?_)
 obtain ⟨h1,h2⟩:=iM I1 r1 ty
 refine ⟨T,id,pa,slot,hty,h1,h2,?_⟩
 have hA:=ha cpos pins s1 σ H1 _ I1 q1
 rw[hs] at hA ⊢
 refine Calls.callWith_builtin (by show (false||(backTo cpos (starEach es X.env)).any (·.1))=false;rw[hplain]<;>rfl) (Calls.evalArgs_plain ?_)
 exact thn hA fun us s2 ⟨vs,H2,I2,r2,q2⟩=>hm pins s2 σ H2 x vs v us Q I2 r1 r2 q2
end
end L2
namespace L2
open PySem PySem.Spec PyProof.Rows
noncomputable def MtM (X:Cx) (id:String) (r:V->List V->Hp->VK->Prop):Prop:=
 ∀(pins:List (Addr×Obj)) (s:Shared) (σ:St) (H:Hp) (x:V) (xs:List V) (v:Value) (us:List Value) (Q:VK),Inv X pins σ H s->RelV x v->Vals xs us->r x xs H Q ->
  wpAny (model X.prog X.w) X.A (call (.builtin id) (v::us)) (EP X pins σ Q) X.xe s
theorem Vals.one:∀{x:V}{us:List Value},Vals [x] us->∃u,us=[u]/\RelV x u
 |_,_,.cons r .nil=>⟨_,rfl,r⟩
theorem Vals.rep {xs:List V}{us:List Value} (h:Vals xs us):∀k:Nat,Vals (List.replicate k xs).flatten (List.replicate k us).flatten
 |0=>.nil
 |k+1=>by
  rw[List.replicate_succ,List.replicate_succ,List.flatten_cons,List.flatten_cons]
  exact Vals.append h (Vals.rep h k)
theorem foldl_rep (its:List Value):∀(k:Nat) (acc:List Value),
  List.foldl (fun x1 x2=>x1++x2) acc.toArray (List.replicate k its.toArray)=(acc++(List.replicate k its).flatten).toArray
 |0,acc=>by simp
 |k+1,acc=>by
  have e:acc.toArray++its.toArray=(acc++its).toArray:=by simp
  have e2:(acc++its)++(List.replicate k its).flatten=acc++(List.replicate (k+1) its).flatten:=by
   rw[List.replicate_succ,List.flatten_cons,List.append_assoc]
  rw[<-e2,<-foldl_rep its k (acc++its),<-e,List.replicate_succ,List.foldl_cons]
section
variable {X:Cx}{pins:List (Addr×Obj)}{σ:St}{H:Hp}{s:Shared}{l b:Addr}{xs ys zs:List V}
theorem Inv.jf {its its':List Value}{n:Nat}{f:Array Value->Array Value}{t':Nat} (I:Inv X pins σ H s) (hH:H l=some (.lst xs))
  (e:s.heap.get? l=some { cls:=.type "list",data:=.seq its.toArray n }) (hf:f its.toArray=its'.toArray) (hv:Vals ys its') (hz:ys.length<=sizeLine) :
  Inv X pins σ (upd H l (.lst ys)) { s with heap:=s.heap.update l (Obj.mapSeq f),toks:=t' }:=by
 have q:=PySem.IsL.update e f
 rw[hf] at q
 refine I.write (x:=l) (e:=l) (by rw[hH];exact trivial) (.inl rfl) (fun b' u hb hu=>(Heap.get?_update_other s.heap (Obj.mapSeq f) (Ne.symm hb)).trans hu) ⟨_,q⟩ ?_
 exact ⟨hz,its',_,hv,q⟩
theorem Inv.je {its:List Value}{t':Nat} (I:Inv X pins σ H s) (hv:Vals ys its) (hz:ys.length<=sizeLine) :
  Inv X pins σ (upd H s.heap.objs.size (.lst ys)) { s with heap:=s.heap.push { cls:=.type "list",data:=.seq its.toArray },toks:=t' }:=
 I.laid (fun _ _ q=>Heap.get?_push_of_some _ q) (Nat.le_refl _) ⟨hz,its,0,hv,Heap.get?_push_size _ rfl⟩
theorem Inv.fresh (I:Inv X pins σ H s):H s.heap.objs.size=none:=I.hok.fresh (Nat.le_refl _)
theorem Inv.ai (I:Inv X pins σ H s) (hH:H l=some (.lst xs)):xs.length<=sizeLine/\∃(its:List Value) (n:Nat),Vals xs its/\xs.length=its.length/\s.heap.get? l=some { cls:=.type "list",data:=.seq its.toArray n }:=by
 obtain ⟨z,its,n,r,e⟩:=I.hok l _ hH
 exact ⟨z,its,n,r,r.length,e⟩
theorem WG {n:Nat} (h:n<=sizeLine):Builtin.List.listTooLong n=false:=by
 unfold Builtin.List.listTooLong
 exact decide_eq_false (by omega)
end
section
variable {X:Cx}
noncomputable def Vc:V->List V->Hp->VK->Prop:=fun x vs H Q=>∃l xs y,x = .ref l/\vs=[y]/\H l=some (.lst xs)/\xs.length<sizeLine/\Q .non (upd H l (.lst (xs++[y])))
theorem CP:MtM X "list.append" Vc:=by
 intro pins s σ H x vs v us Q I rx rv h
 obtain ⟨l,xs,y,rfl,rfl,hH,hz,q⟩:=h
 cases rx
 obtain ⟨u,rfl,ru⟩:=rv.one
 obtain ⟨z,its,n,r,hl,e⟩:=I.ai hH
 refine call_meets F.slot_list_append ⟨_,e,rfl⟩ F.entry_list_append (F.args_list_append_2 _ _) (PySem.list_append l its.toArray n u (by rw[List.size_toArray];omega)) ⟨e,?_⟩
 refine ⟨.non,_,I.jf (its':=its++[u]) hH e (by simp) (r.append (.cons ru .nil)) ?_,rfl,q⟩
 rw[List.length_append,List.length_singleton]
 omega
noncomputable def ff:V->List V->Hp->VK->Prop:=fun x vs H Q=>∃l b xs zs,x = .ref l/\vs=[.ref b]/\H l=some (.lst xs)/\H b=some (.lst zs)/\xs.length+zs.length<=sizeLine/\Q .non (upd H l (.lst (xs++zs)))
theorem Mt:MtM X "list.extend" ff:=by
 intro pins s σ H x vs v us Q I rx rv h
 obtain ⟨l,b,xs,zs,rfl,rfl,hH,hB,hz,q⟩:=h
 cases rx
 obtain ⟨u,rfl,ru⟩:=rv.one
 cases ru
 obtain ⟨z,its,n,r,hl,e⟩:=I.ai hH
 obtain ⟨z2,its2,n2,r2,hl2,e2⟩:=I.ai hB
 have hsz:its.toArray.size+its2.toArray.size<=sizeLine:=by rw[List.size_toArray,List.size_toArray];omega
 have hlong:¬(!its.toArray.isEmpty&&Builtin.List.listTooLong (its.toArray.size+its2.toArray.size))=true:=by
  rw[WG hsz,Bool.and_false]
  exact Bool.false_ne_true
 refine call_meets F.slot_list_extend ⟨_,e,rfl⟩ F.entry_list_extend (F.args_list_extend_2 _ _)
  (AutoSeq1.list_extend_list_list_0 l its.toArray n b its2.toArray n2 hlong (by rw[List.size_toArray];omega) (by omega)) ⟨e,e2,?_⟩
 refine ⟨.non,_,I.jf (its':=its++its2) hH e (by simp) (r.append r2) ?_,rfl,q⟩
 rw[List.length_append]
 omega
noncomputable def jo:R2:=fun x y H Q=>∃l b xs zs,x = .ref l/\y = .ref b/\H l=some (.lst xs)/\H b=some (.lst zs)/\xs.length+zs.length<=sizeLine/\∀p,H p=none->Q (.ref p) (upd H p (.lst (xs++zs)))
theorem Kf:OpR X (binaryOp .Add) jo:=by
 intro pins s σ H x y v u Q I rx ry h
 obtain ⟨l,b,xs,zs,rfl,rfl,hH,hB,hz,q⟩:=h
 cases rx
 cases ry
 obtain ⟨z,its,n,r,hl,e⟩:=I.ai hH
 obtain ⟨z2,its2,n2,r2,hl2,e2⟩:=I.ai hB
 refine PySem.P.add_list e e2 ?_ (by rw[List.size_toArray,List.size_toArray];omega)
 have ea:its.toArray++its2.toArray=(its++its2).toArray:=by simp
 rw[ea]
 exact ⟨.ref _,_,I.je (t':=s.toks) (r.append r2) (by rw[List.length_append];omega),rfl,q _ I.fresh⟩
noncomputable def kf:R2:=fun x y H Q=>∃l k xs,x = .ref l/\y = .int k/\H l=some (.lst xs)/\-(2^63)<=k/\k<2^63/\xs.length*k.toNat<=sizeLine /\
 ∀p,H p=none->Q (.ref p) (upd H p (.lst (List.replicate k.toNat xs).flatten))
theorem len_rep {α:Type} (xs:List α) (k:Nat):(List.replicate k xs).flatten.length=k*xs.length:=by
 induction k with
 |zero=>simp
 |succ k ih=>rw[List.replicate_succ,List.flatten_cons,List.length_append,ih,Nat.succ_mul,Nat.add_comm]
theorem ib:OpR X (binaryOp .Mult) kf:=by
 intro pins s σ H x y v u Q I rx ry h
 obtain ⟨l,k,xs,rfl,rfl,hH,h1,h2,hz,q⟩:=h
 cases rx
 obtain ⟨t,rfl⟩:=ry
 obtain ⟨z,its,n,r,hl,e⟩:=I.ai hH
 have hlen:its.toArray.size*k.toNat<=sizeLine:=by rw[List.size_toArray,<-hl];exact hz
 have hcap:¬its.toArray.size*k.toNat > (2^63-1)/8:=by
  have:(sizeLine:Nat)<=(2^63-1)/8:=by decide
  omega
 have hfit:¬(!Builtin.List.listFitsIndex k)=true:=by
  rw[fitsIndex_both h1 h2]
  exact Bool.false_ne_true
 have hlong:¬Builtin.List.listTooLong (its.toArray.size*k.toNat)=true:=by
  rw[WG hlen]
  exact Bool.false_ne_true
 have hnew:List.foldl (fun x1 x2=>x1++x2) #[] (List.replicate (if its.toArray.isEmpty=true then 0 else k.toNat) its.toArray)=(List.replicate k.toNat its).flatten.toArray:=by
  have f0:∀m:Nat,List.foldl (fun x1 x2=>x1++x2) #[] (List.replicate m its.toArray)=(List.replicate m its).flatten.toArray:=fun m=>by
   have:=foldl_rep its m []
   rw[List.nil_append] at this
   exact this
  rw[f0]
  cases its with
  |nil=>simp
  |cons a r'=>rw[if_neg (by simp)]
 refine wpAny_binaryOp_repeat_ref (T:="list") (U:="int") (by decide) ⟨_,e,rfl⟩ (fun s'=>typeIs_int s' k t) noFill_list_mul F.fills_int_mul F.slot_int_rmul repeat_list F.slot_int_index.lookup
  (call_meets F.slot_int_rmul (typeIs_int s k t) F.entry_int_rmul (F.args_int_rmul_2 _ _) (int___rmul___int_list k t l its.toArray n)
   ⟨e,rfl,⟨_,e,rfl⟩,call_meets F.slot_list_mul ⟨_,e,rfl⟩ F.entry_list_mul (F.args_list_mul_2 _ _) (AutoListH.list___mul___list_int_3 l its.toArray n k t hfit hcap hlong) ⟨e,?_⟩⟩)
 rw[hnew]
 exact ⟨.ref _,_,I.je (t':=s.toks) (r.rep k.toNat) (by rw[len_rep,Nat.mul_comm];exact hz),rfl,q _ I.fresh⟩
end
end L2
namespace L2
open PySem PySem.Spec PyProof.Rows
theorem Vals.ints:∀{ns:List Int}{us:List Value},Vals (ns.map V.int) us->IntsAre us ns
 |[],us,h=>by
  rw[List.map_nil] at h
  cases h
  exact IntsAre.nil
 |n::ns,us,h=>by
  rw[List.map_cons] at h
  cases h with
  |cons r t=>
   obtain ⟨k,rfl⟩:=r
   exact IntsAre.cons n k (Vals.ints t)
theorem Vals.bls:∀{bs:List Bool}{us:List Value},Vals (bs.map V.bl) us->us=bs.map Value.bool
 |[],us,h=>by
  rw[List.map_nil] at h
  cases h
  rfl
 |b::bs,us,h=>by
  rw[List.map_cons] at h
  cases h with
  |cons r t=>
   cases r
   rw[Vals.bls t,List.map_cons]
theorem Vals.ir {a:Addr}{us:List Value} (r:Vals [V.ref a] us):us=[Value.ref a]:=by
 cases r with
 |cons r t=>
  cases t
  cases r
  rfl
section
variable {prog:Program}{w:World}{A:Around}{E:Value->Shared->Prop}{s:Shared}{l:Addr}{its:List Value}{ns:List Int}{Q:Value->Shared->Prop}
theorem fJ (hh:A.handled=none) (hl:s.heap.IsList l its.toArray) (hi:IntsAre its ns)
  (h:∀h' tk t',(∀b o,s.heap.get? b=some o->h'.get? b=some o)->Q (.int ns.sum t') { s with heap:=h',toks:=tk }):wpAny (model prog w) A (call (.builtin "sum") [.ref l]) Q E s:=by
 obtain ⟨xs,e⟩:=hi.allInts.items
 have hn:numsOf (intItems xs).toList=ns:=by rw[<-e];exact hi.numsOf
 rw[nums_intItems] at hn
 rw[e] at hl
 refine PySem.sum_intListG hh hl fun h' tk t' hk=>?_
 have:=h h' tk t' hk
 rw[preSum_eq,List.take_of_length_le (by simp),hn];exact this
end
section
variable {X:Cx}
noncomputable def kg (K:PySem.W.Frag):List V->Hp->VK->Prop:=fun vs H Q=>∃(a:Addr) (ns:List Int),vs=[V.ref a]/\SqL K H a (ns.map V.int)/\Q (.int ns.sum) H
theorem JV (hc:X.calm=true):Je X (.builtin "sum") (kg X.K):=by
 intro pins s σ H vs us Q I r h
 obtain ⟨a,ns,rfl,hs,q⟩:=h
 obtain ⟨its,rv,hl,_⟩:=I.list hs
 rw[Vals.ir r]
 exact fJ (I.ok.hd hc) hl.isList rv.ints fun h' tk t' hk=>⟨.int _,H,I.kept hk,⟨_,rfl⟩,q⟩
end
theorem bY {prog:Program}{w:World}{A:Around}{E:Value->Shared->Prop}{s:Shared}{l:Addr}{items:Array Value}{Q:Value->Shared->Prop} (hl:s.heap.IsList l items)
  (h:∀s₂:Shared,s₂={ s with heap:=s.heap.push { cls:=.type "list_iterator",data:=.fields #[.ref l,.int 0 0] } } ->
   (s₂.heap.IsListIter s.heap.objs.size l 0/\s₂.heap.IsList l items)->l≠s.heap.objs.size->Q (.ref s.heap.objs.size) s₂):wpAny (model prog w) A (pyIter (.ref l)) Q E s:=by
 have hlt:l<s.heap.objs.size:=by obtain ⟨_,e,_⟩:=hl;exact Heap.lt_size e
 exact wpAny_pyIter_list hl (h _ rfl ⟨⟨_,Heap.get?_push_size _ rfl,rfl,rfl⟩,hl.push _⟩ (Nat.ne_of_lt hlt))
theorem Xf {prog:Program}{w:World}{A:Around}{bs:List Bool}{its:List Value} (e:its=bs.map Value.bool) :
  TruthOf prog w A (fun i v=>its.toArray[i]?=some v) (fun i=>bs.getD i false):=fun i v s Q E hv hq=>by
 have hv':its[i]?=some v:=by simpa using hv
 rw[e,List.getElem?_map] at hv'
 obtain ⟨b,hb,rfl⟩:=Option.map_eq_some_iff.mp hv'
 have hg:bs.getD i false=b:=by rw[List.getD_eq_getElem?_getD,hb]<;>rfl
 have hq':Q (bs.getD i false) s:=hq
 rw[hg] at hq'
 exact wpAny_truthy_bool hq'
theorem any_range:∀bs:List Bool,(List.range bs.length).any (fun i=>bs.getD i false)=bs.any id
 |[]=>rfl
 |b::bs=>by
  rw[List.length_cons,List.range_succ_eq_map,List.any_cons,List.any_map,List.any_cons,<-any_range bs]
  all_goals rfl
theorem all_range:∀bs:List Bool,(List.range bs.length).all (fun i=>bs.getD i false)=bs.all id
 |[]=>rfl
 |b::bs=>by
  rw[List.length_cons,List.range_succ_eq_map,List.all_cons,List.all_map,List.all_cons,<-all_range bs]
  all_goals rfl
section
variable {X:Cx}
noncomputable def jZ (K:PySem.W.Frag):List V->Hp->VK->Prop:=fun vs H Q=>∃(a:Addr) (bs:List Bool),vs=[V.ref a]/\SqL K H a (bs.map V.bl)/\Q (.bl (bs.all id)) H
theorem gu (hc:X.calm=true):Je X (.builtin "all") (jZ X.K):=by
 intro pins s σ H vs us Q I r h
 obtain ⟨a,bs,rfl,hs,q⟩:=h
 obtain ⟨its,rv,hl,_⟩:=I.list hs
 rw[Vals.ir r]
 have hb:=rv.bls
 refine call_all_walk (bY hl.isList fun s₂ e2 st hne=>?_)
 subst e2
 refine ⟨_,_,_,_,_,_,_,rfl,Walks.list (A:=X.A.in1) (I.ok.hd hc) _ a hne its.toArray,st,Xf hb,fun h' tk hk=>?_⟩
 refine ⟨.bl _,H,I.kept fun b o eo=>hk b o (fun hmem=>?_) (Heap.get?_push_of_some _ eo),?_,q⟩
 ·rcases List.mem_cons.mp hmem with e1|hmem
  ·exact absurd (e1 ▸ Heap.lt_size eo) (Nat.lt_irrefl _)
  ·cases hmem
 ·show Value.bool _=Value.bool _
  rw[<-all_range,hb,List.size_toArray,List.length_map]
end
end L2
namespace L2
open PySem PySem.Spec PyProof.Rows
noncomputable abbrev bb (h:Heap) (c:Addr) (v:Option Value):Prop:=h.IsCell c v
noncomputable def kh (scope sc:Scope):Scope:=
 { scope with names:=scope.names.map fun (n,k)=>if (k==.free&&sc.kind==.function&&sc.names.lookup n==some .cell) then (n,.cell) else (n,k) }
noncomputable def Bv (cells:List (Str×Addr)):List (Str×NameKind)->List (Str×Addr)->List (Str×Addr)
 |[],acc=>acc
 |(n,k)::r,acc=>if k==.free then Bv cells r ((n,(cells.lookup n).getD 0)::acc) else Bv cells r acc
theorem KD (env:Env) (f:Str×NameKind->List (Str×Addr)->Sem (ForInStep (List (Str×Addr))))
  (hf:∀n k c,f (n,k) c=if k==.free then (do let a <-cellOf env n;pure (.yield ((n,a)::c))) else pure (.yield c)) :
  ∀(names:List (Str×NameKind)) (acc:List (Str×Addr)),(∀y∈names,y.2 = .free->∃c,env.cells.lookup y.1=some c)->forIn names acc f=pure (Bv env.cells names acc)
 |[],acc,_=>by rw[List.forIn_nil];rfl
 |(n,k)::r,acc,h=>by
  rw[List.forIn_cons,hf]
  have ih:=fun acc=>KD env f hf r acc fun y hy=>h y (List.mem_cons_of_mem _ hy)
  unfold Bv
  by_cases hk:(k==NameKind.free)=true
  ·rw[if_pos hk,if_pos hk]
   obtain ⟨c,hc⟩:=h (n,k) List.mem_cons_self (by simpa using hk)
   have e:cellOf env n=pure c:=by unfold cellOf;rw[hc]
   rw[e]
   have e2:(env.cells.lookup n).getD 0=c:=by rw[hc];rfl
   rw[e2]
   exact ih _
  ·rw[if_neg hk,if_neg hk]
   exact ih _
theorem Xx {scope:Scope}{env:Env} (h:∀y∈scope.names,y.2 = .free->∃c,env.cells.lookup y.1=some c):closureFor scope env=pure (Bv env.cells scope.names []):=by
 simp only [closureFor]
 rw[KD env _ (fun n k c=>rfl) scope.names [] h]
 rfl
theorem mem_lookup {α:Type}:∀{l:List (Str×α)}{n:Str}{c:α},(n,c)∈l->∃c',l.lookup n=some c'
 |(k,v)::r,n,c,h=>by
  rw[List.lookup_cons]
  cases hb:n==k with
  |true=>exact ⟨_,rfl⟩
  |false=>
   rcases List.mem_cons.mp h with e|h
   ·cases e;simp at hb
   ·exact mem_lookup h
theorem Fp {cells:List (Str×Addr)}:∀{names:List (Str×NameKind)}{acc:List (Str×Addr)}{n:Str}{c:Addr},(n,c)∈Bv cells names acc->(n,c)∈acc\/((n,.free)∈names/\c=(cells.lookup n).getD 0)
 |[],_,_,_,h=>.inl h
 |(m,k)::r,acc,n,c,h=>by
  unfold Bv at h
  split at h
  ·rename_i hk
   have hk:k = .free:=by simpa using hk
   rcases Fp h with h|⟨h1,h2⟩
   ·rcases List.mem_cons.mp h with e|h
    ·cases e;exact .inr ⟨hk ▸ List.mem_cons_self,rfl⟩
    ·exact .inl h
   ·exact .inr ⟨List.mem_cons_of_mem _ h1,h2⟩
  ·rcases Fp h with h|⟨h1,h2⟩
   ·exact .inl h
   ·exact .inr ⟨List.mem_cons_of_mem _ h1,h2⟩
theorem HA {cells:List (Str×Addr)}:∀{names:List (Str×NameKind)}{acc:List (Str×Addr)}{p:Str×Addr},p∈acc->p∈Bv cells names acc
 |[],_,_,h=>h
 |(m,k)::r,acc,p,h=>by
  unfold Bv
  split
  ·exact HA (List.mem_cons_of_mem _ h)
  ·exact HA h
theorem HB {cells:List (Str×Addr)}:∀{names:List (Str×NameKind)}{acc:List (Str×Addr)}{n:Str},(n,.free)∈names->(n,(cells.lookup n).getD 0)∈Bv cells names acc
 |(m,k)::r,acc,n,h=>by
  unfold Bv
  rcases List.mem_cons.mp h with e|h
  ·cases e
   exact HA List.mem_cons_self
  ·split
   ·exact HB h
   ·exact HB h
theorem FP:∀{names:List (Str×NameKind)}{h:Heap}{acc:List (Str×Addr)}{x:Str}{c:Addr},(x,c)∈cellsFrom h.objs.size names acc ->
  (x,c)∈acc\/((x,.cell)∈names/\h.objs.size<=c/\bb (pushCells h names) c none)
 |[],_,_,_,_,h=>.inl h
 |(n,k)::r,h,acc,x,c,hm=>by
  unfold cellsFrom at hm
  unfold pushCells
  split at hm
  ·rename_i hk
   rw[if_pos hk]
   have hk:k = .cell:=by simpa using hk
   rw[<-Heap.size_push h { cls:=.type "cell",data:=.cell none }] at hm
   rcases FP hm with hm|⟨h1,h2,h3⟩
   ·rcases List.mem_cons.mp hm with e|hm
    ·cases e
     exact .inr ⟨hk ▸ List.mem_cons_self,Nat.le_refl _,_,pushCells_keeps r _ _ _ (Heap.get?_push_size _ rfl),rfl⟩
    ·exact .inl hm
   ·rw[Heap.size_push] at h2
    exact .inr ⟨List.mem_cons_of_mem _ h1,Nat.le_of_succ_le h2,h3⟩
  ·rename_i hk
   rw[if_neg hk]
   rcases FP hm with hm|⟨h1,h2,h3⟩
   ·exact .inl hm
   ·exact .inr ⟨List.mem_cons_of_mem _ h1,h2,h3⟩
theorem IS:∀{names:List (Str×NameKind)}{n:Nat}{acc:List (Str×Addr)}{p:Str×Addr},p∈acc->p∈cellsFrom n names acc
 |[],_,_,_,h=>h
 |(m,k)::r,n,acc,p,h=>by
  unfold cellsFrom
  split
  ·exact IS (List.mem_cons_of_mem _ h)
  ·exact IS h
theorem Mh:∀{names:List (Str×NameKind)}{n:Nat}{acc:List (Str×Addr)}{x:Str},(x,.cell)∈names->∃c,(x,c)∈cellsFrom n names acc
 |(m,k)::r,n,acc,x,h=>by
  unfold cellsFrom
  rcases List.mem_cons.mp h with e|h
  ·cases e
   exact ⟨n,IS List.mem_cons_self⟩
  ·split
   ·exact Mh h
   ·exact Mh h
theorem Mi:∀{names:List (Str×NameKind)}{h:Heap}{acc:List (Str×Addr)}{x y:Str}{c:Addr},(∀p∈acc,p.2<h.objs.size)->(∀x y c,(x,c)∈acc->(y,c)∈acc->x=y) ->
  (x,c)∈cellsFrom h.objs.size names acc->(y,c)∈cellsFrom h.objs.size names acc->x=y
 |[],_,_,_,_,_,_,hi,h1,h2=>hi _ _ _ h1 h2
 |(n,k)::r,h,acc,x,y,c,hl,hi,h1,h2=>by
  unfold cellsFrom at h1 h2
  split at h1
  ·rename_i hk
   rw[if_pos hk] at h2
   rw[<-Heap.size_push h { cls:=.type "cell",data:=.cell none }] at h1 h2
   refine Mi (h:=h.push _) (fun p hp=>?_) (fun x y c a b=>?_) h1 h2
   ·rw[Heap.size_push]
    rcases List.mem_cons.mp hp with rfl|hp
    ·exact Nat.lt_succ_self _
    ·exact Nat.lt_succ_of_lt (hl p hp)
   ·rcases List.mem_cons.mp a with e|a<;>rcases List.mem_cons.mp b with e'|b
    ·cases e;cases e';rfl
    ·cases e;exact absurd (hl _ b) (Nat.lt_irrefl _)
    ·cases e';exact absurd (hl _ a) (Nat.lt_irrefl _)
    ·exact hi _ _ _ a b
  ·rename_i hk
   rw[if_neg hk] at h2
   exact Mi hl hi h1 h2
theorem WE {M:Model}{A:Around}{E:Value->Shared->Prop}{s:Shared}{scope:Scope}{globals:Addr}{closure:List (Str×Addr)}{qual:Str}{func:Option Addr}{code:Value}{around:Env}{builtins:Addr}{Q:Env->Shared->Prop}
  (h:Q (newEnv scope s.heap.objs.size globals (cellsFrom (s.heap.objs.size+1) scope.names closure) qual func code (some around) builtins)
   { s with heap:=pushCells (s.heap.push { cls:=.type "dict",data:=.dict #[] }) scope.names }) :
  wpAny M A (newFunctionEnv scope globals closure [] qual func code (some around) builtins) Q E s:=by
 simp only [newFunctionEnv,Option.isSome_some,if_true]
 refine wpAny_bind (wpAny_alloc ?_)
 refine wpAny_bind (wpAny_layCells _ (fun n k c=>rfl) scope.names closure _ _ ?_)
 rw[show ({ s with heap:=s.heap.push { cls:=.type "dict",data:=.dict #[] } }:Shared).heap.objs.size=s.heap.objs.size+1 from Heap.size_push ..]
 rw[List.forIn_nil]
 exact wpAny_bind (wpAny_pure (wpAny_pure h))
theorem HE {sc:Scope}:∀{names:List (Str×NameKind)}{x:Str}{k:NameKind},
  (names.map fun (n,k)=>if (k==NameKind.free&&sc.kind==.function&&sc.names.lookup n==some .cell) then (n,NameKind.cell) else (n,k)).lookup x=some k ->
  ∃k',names.lookup x=some k'/\(k=k'\/(k' = .free/\k = .cell))
 |[],_,_,h=>by simp at h
 |(n,k₀)::r,x,k,h=>by
  have ih:=@HE sc r x k
  have h':List.lookup x ((if (k₀==NameKind.free&&sc.kind==.function&&sc.names.lookup n==some .cell)=true then (n,NameKind.cell) else (n,k₀))::(r.map _))=some k:=h
  cases hx:x==n with
  |true=>
   simp only [List.lookup_cons,hx]
   by_cases hc:(k₀==NameKind.free&&sc.kind==.function&&sc.names.lookup n==some .cell)=true
   ·rw[if_pos hc] at h'
    simp only [List.lookup_cons,hx] at h'
    cases h'
    simp only [Bool.and_eq_true,beq_iff_eq] at hc
    exact ⟨k₀,rfl,.inr ⟨hc.1.1,rfl⟩⟩
   ·rw[if_neg hc] at h'
    simp only [List.lookup_cons,hx] at h'
    cases h'
    exact ⟨_,rfl,.inl rfl⟩
  |false=>
   simp only [List.lookup_cons,hx]
   by_cases hc:(k₀==NameKind.free&&sc.kind==.function&&sc.names.lookup n==some .cell)=true
   ·rw[if_pos hc] at h'
    simp only [List.lookup_cons,hx] at h'
    exact ih h'
   ·rw[if_neg hc] at h'
    simp only [List.lookup_cons,hx] at h'
    exact ih h'
structure YO (N:List Str) (sc scope:Scope) (own:List (Str×Nat)):Prop where
 kind:scope.kind = .function
 uniq:∀y∈scope.names,scope.names.lookup y.1=some y.2
 ix:∀p∈own,N[p.2]?=some p.1
 free:∀y∈scope.names,y.2 = .free->sc.names.lookup y.1=some .cell\/sc.names.lookup y.1=some .free
 own:∀y∈scope.names,y.2 = .local\/y.2 = .cell->y.1∈own.map (·.1)\/y.1∉N
noncomputable def wipe (σ:St):List Nat->St
 |[]=>σ
 |v::vs=>(wipe σ vs).set v none
theorem IM (σ:St):∀vs:List Nat,(wipe σ vs).length=σ.length
 |[]=>rfl
 |v::vs=>by unfold wipe;rw[List.length_set,IM σ vs]
theorem MN {σ:St}{i:Nat}{x:V}:∀{vs:List Nat},(wipe σ vs)[i]?=some (some x)->σ[i]?=some (some x)/\i∉vs
 |[],h=>⟨h,by simp⟩
 |v::vs,h=>by
  unfold wipe at h
  by_cases hi:v=i
  ·subst hi
   by_cases hv:v<(wipe σ vs).length
   ·rw[List.getElem?_set_self hv] at h;cases h
   ·rw[List.getElem?_eq_none (by simpa using hv)] at h;cases h
  ·rw[List.getElem?_set_ne hi] at h
   obtain ⟨h1,h2⟩:=MN h
   exact ⟨h1,by simp only [List.mem_cons,not_or];exact ⟨fun e=>hi e.symm,h2⟩⟩
noncomputable abbrev Cx.blk (X:Cx) (s:Shared) (H:Hp) (scope:Scope) (cenv:Env) (fp:List Addr):Cx:={ X with s_0:=s,H_0:=H,env:=cenv,outer:=X.stack,ex:=fp,fn:=fun x=>scope.names.lookup x==some .cell,pn:=[],xe:=fun _ _=>False }
section
variable {X:Cx}{pins:List (Addr×Obj)}{σ:St}{H:Hp}{s:Shared}
theorem Vz {scope:Scope}{own:List (Str×Nat)}{fp:List Addr} (I:Inv X pins σ H s) (ok:YO X.N X.env.scope scope own) (hN:X.N.Nodup) (hfp:∀b∈fp,OU X pins H b/\b<s.heap.objs.size) :
  Inv (X.blk s H scope (compEnvC scope (cellsFrom (s.heap.objs.size+1) scope.names (Bv X.env.cells scope.names [])) s.heap.objs.size X.env) fp) [] (wipe σ (own.map (·.2))) H { s with heap:=pushCells (s.heap.push { cls:=.type "dict",data:=.dict #[] }) scope.names }:=by
 have hfree:∀y∈scope.names,y.2 = .free->∃c,X.env.cells.lookup y.1=some c:=fun y hy e=>by
  rcases ok.free y hy e with k|k
  ·exact I.ok.has _ (.inl k)
  ·exact I.ok.has _ (.inr k)
 generalize hcenv:compEnvC scope (cellsFrom (s.heap.objs.size+1) scope.names (Bv X.env.cells scope.names [])) s.heap.objs.size X.env=cenv
 have kp:∀b o,s.heap.get? b=some o->(pushCells (s.heap.push { cls:=.type "dict",data:=.dict #[] }) scope.names).get? b=some o:=fun b o e=>pushCells_keeps _ _ _ _ (Heap.get?_push_of_some _ e)
 have hL:cenv.locals=s.heap.objs.size:=by rw[<-hcenv];rfl
 have hcl:cenv.cells=cellsFrom (s.heap.objs.size+1) scope.names (Bv X.env.cells scope.names []):=by rw[<-hcenv];rfl
 have hsc:cenv.scope=kh scope X.env.scope:=by rw[<-hcenv];rfl
 rw[<-Heap.size_push s.heap { cls:=.type "dict",data:=.dict #[] }] at hcl
 have cm:∀{y c},(y,c)∈Bv X.env.cells scope.names []->X.env.cells.lookup y=some c/\c<s.heap.objs.size:=fun {y c} hm=>by
  rcases Fp hm with hm|⟨h1,rfl⟩
  ·cases hm
  ·obtain ⟨c,hc⟩:=hfree _ h1 rfl
   rw[hc]
   obtain ⟨w,z⟩:=I.cell _ _ hc
   exact ⟨rfl,z.lt⟩
 have mem:∀{y c},cenv.cells.lookup y=some c->(X.env.cells.lookup y=some c/\c<s.heap.objs.size)\/(s.heap.objs.size+1<=c/\bb (pushCells (s.heap.push { cls:=.type "dict",data:=.dict #[] }) scope.names) c none):=fun {y c} e=>by
  rw[hcl] at e
  rcases FP (PySem.mem_of_lookup e) with hm|⟨_,h2,h3⟩
  ·exact .inl (cm hm)
  ·rw[Heap.size_push] at h2;exact .inr ⟨h2,h3⟩
 have look:∀{y},scope.names.lookup y=some .free->∃c,cenv.cells.lookup y=some c/\X.env.cells.lookup y=some c:=fun {y} hl=>by
  have hy:(y,NameKind.free)∈scope.names:=PySem.mem_of_lookup hl
  obtain ⟨c',e'⟩:=mem_lookup (IS (names:=scope.names) (n:=(s.heap.push { cls:=.type "dict",data:=.dict #[] }).objs.size) (HB (cells:=X.env.cells) (acc:=[]) hy))
  rw[<-hcl] at e'
  refine ⟨c',e',?_⟩
  rw[hcl] at e'
  rcases FP (PySem.mem_of_lookup e') with hm|⟨h1,_,_⟩
  ·exact (cm hm).1
  ·have:=ok.uniq _ h1
   rw[hl] at this;cases this
 have okB:(X.blk s H scope cenv fp).Ok:=by
  refine ⟨I.ok.mod,by show cenv.scope.kind=_;rw[hsc];exact ok.kind,by show cenv.globals=_;rw[<-hcenv];exact I.ok.glob,by show cenv.builtins=_;rw[<-hcenv];exact I.ok.blt,by show s.heap.objs.size<=cenv.locals;rw[hL];exact Nat.le_refl _,
   fun y z c e1 e2=>?_,fun y hy=>?_,fun y c z e=>?_,I.ok.hd,I.ok.frames,.inl rfl,fun b hb=>⟨?_,fun y c e z=>?_⟩,I.bs,Nat.le_trans I.ok.bsz I.sz,fun b o e hb=>?_,fun b hb z=>?_,I.stack,I.OR⟩
  ·have e1:cenv.cells.lookup y=some c:=e1
   have e2:cenv.cells.lookup z=some c:=e2
   rw[hcl] at e1 e2
   refine Mi (fun p hp=>?_) (fun y z c a b=>I.ok.inj y z c (cm a).1 (cm b).1) (PySem.mem_of_lookup e1) (PySem.mem_of_lookup e2)
   rw[Heap.size_push]
   exact Nat.lt_succ_of_lt (cm (y:=p.1) (c:=p.2) hp).2
  ·show ∃c,cenv.cells.lookup y=some c
   have key:∀k,cenv.kindOf y=some k->(k = .cell\/k = .free)->∃c,cenv.cells.lookup y=some c:=fun k hk hk'=>by
    unfold Env.kindOf at hk
    rw[hsc] at hk
    obtain ⟨k',e,r⟩:=HE hk
    have:k' = .cell\/k' = .free:=by
     rcases r with rfl|⟨rfl,_⟩
     ·exact hk'
     ·exact .inr rfl
    rcases this with rfl|rfl
    ·obtain ⟨c,hm⟩:=Mh (n:=(s.heap.push { cls:=.type "dict",data:=.dict #[] }).objs.size) (acc:=Bv X.env.cells scope.names []) (PySem.mem_of_lookup e)
     obtain ⟨c',e'⟩:=mem_lookup hm
     exact ⟨c',by rw[hcl];exact e'⟩
    ·obtain ⟨c,h1,_⟩:=look e
     exact ⟨c,h1⟩
   rcases hy with hy|hy
   ·exact key _ hy (.inl rfl)
   ·exact key _ hy (.inr rfl)
  ·have z:(scope.names.lookup y==some NameKind.cell)=true:=z
   have z:scope.names.lookup y=some .cell:=by simpa using z
   have e:cenv.cells.lookup y=some c:=e
   rw[hcl] at e
   rcases FP (PySem.mem_of_lookup e) with hm|⟨_,h2,_⟩
   ·rcases Fp hm with hm|⟨h1,_⟩
    ·cases hm
    ·have q:=ok.uniq _ h1
     rw[z] at q;cases q
   ·rw[Heap.size_push] at h2
    exact Nat.le_of_succ_le h2
  ·show b≠cenv.locals
   rw[hL];exact Nat.ne_of_lt (hfp b hb).2
  ·have e:cenv.cells.lookup y=some c:=e
   rcases mem e with ⟨h1,_⟩|⟨h1,_⟩
   ·exact (hfp b hb).1.2.2.2.2.1 y c h1 z
   ·have h2:s.heap.objs.size+1<=b:=by rw[<-z];exact h1
    exact absurd (Nat.lt_of_lt_of_le (hfp b hb).2 (Nat.le_of_succ_le h2)) (Nat.lt_irrefl _)
  ·rcases (hfp b hb).1.2.2.2.1 with z|z
   ·exact I.ok.ao b o e z
   ·exact absurd (Nat.lt_of_lt_of_le (Heap.lt_size e) (Nat.le_trans I.ok.bsz z)) (Nat.lt_irrefl _)
  ·rcases List.mem_cons.mp (I.YC b z) with z|z
   ·exact (hfp b hb).1.2.1 z
   ·exact (hfp b hb).1.2.2.1 z
 refine ⟨okB,rfl,I.bare,Un.kept kp,⟨fun _=>none,?_,fun i y av e1 e2 e3=>?_⟩,fun y c e=>?_,?_,fun y c e=>?_,fun p hp=>?_,I.hok.kept kp,by rw[IM];exact I.len⟩
 ·show Heap.Ns _ cenv.locals _
  rw[hL]
  exact Heap.Ns.keeps (Heap.Ns.new ..) fun b o e=>pushCells_keeps _ _ _ _ e
 ·obtain ⟨e2,hne⟩:=MN e2
  have hfr:scope.names.lookup y=some .free/\(cenv.kindOf y=some .cell\/cenv.kindOf y=some .free):=by
   have key:∀k,cenv.scope.names.lookup y=some k->k = .local\/k = .cell\/k = .free->scope.names.lookup y=some .free/\(cenv.kindOf y=some .cell\/cenv.kindOf y=some .free):=fun k hk hk'=>by
    have hk0:=hk
    rw[hsc] at hk
    obtain ⟨k',e,r⟩:=HE hk
    have no:¬(k' = .local\/k' = .cell):=fun hh=>by
     rcases ok.own _ (PySem.mem_of_lookup e) hh with e'|e'
     ·obtain ⟨p,hp,hpy⟩:=List.mem_map.mp e'
      have e3:=ok.ix p hp
      have:p.1=y:=hpy
      rw[this] at e3
      exact hne (List.mem_map.mpr ⟨p,hp,Qn hN e3 e1⟩)
     ·exact e' (List.mem_of_getElem? e1)
    rcases r with rfl|⟨rfl,rfl⟩
    ·rcases hk' with rfl|rfl|rfl
     ·exact absurd (.inl rfl) no
     ·exact absurd (.inr rfl) no
     ·exact ⟨e,.inr hk0⟩
    ·exact ⟨e,.inl hk0⟩
   have e3:Vis cenv.scope y:=e3
   rcases e3 with e3|e3|e3
   ·exact key _ e3 (.inl rfl)
   ·exact key _ e3 (.inr (.inl rfl))
   ·exact key _ e3 (.inr (.inr rfl))
  obtain ⟨m,hn,hl⟩:=I.loc
  have hvis:Vis X.env.scope y:=(ok.free _ (PySem.mem_of_lookup hfr.1) rfl).elim (fun k=>.inr (.inl k)) (fun k=>.inr (.inr k))
  obtain ⟨w,r,q⟩:=hl i y av e1 e2 hvis
  refine ⟨w,r,.inr ⟨hfr.2,?_⟩⟩
  obtain ⟨c,h1,h2⟩:=look hfr.1
  rcases q with ⟨k,_⟩|⟨_,c',e',z⟩
  ·have k:X.env.scope.names.lookup y=some .local:=k
   rcases ok.free _ (PySem.mem_of_lookup hfr.1) rfl with k'|k'<;>rw[show X.env.scope.names.lookup y=_ from k'] at k<;>cases k
  ·rw[h2] at e';cases e'
   exact ⟨c,h1,z.keeps kp⟩
 ·have e:cenv.cells.lookup y=some c:=e
  rcases mem e with ⟨h1,_⟩|⟨_,z⟩
  ·obtain ⟨w,z⟩:=I.cell y c h1
   exact ⟨w,z.keeps kp⟩
  ·exact ⟨_,z⟩
 ·show H cenv.locals=none
  rw[hL];exact I.hok.fresh (Nat.le_refl _)
 ·have e:cenv.cells.lookup y=some c:=e
  rcases mem e with ⟨h1,_⟩|⟨h1,_⟩
  ·exact I.ER y c h1
  ·exact I.hok.fresh (Nat.le_of_succ_le h1)
 ·exact absurd (show p∈([]:List (Addr×Obj))++[] from hp) (by simp)
theorem gm {E:Value->Shared->Prop}{D:Addr}{xs:List V}{y:V}{v:Value}{Q:Value->Shared->Prop} (I:Inv X pins σ H s) (hD:H D=some (.lst xs)) (hz:xs.length<sizeLine) (r:RelV y v)
  (h:∀s',Inv X pins σ (upd H D (.lst (xs++[y]))) s'->Q .none s'):wpAny (model X.prog X.w) X.A (call (.builtin "list.append") [.ref D,v]) Q E s:=by
 obtain ⟨hz',its,n,ri,e⟩:=I.hok D _ hD
 have hl:=ri.length
 refine append_at (hsz:=by rw[List.size_toArray];omega) e fun h' sb ho'=>?_
 refine h { s with heap:=h' } (I.write (t':=s.toks) (by rw[hD];trivial) (.inl rfl) (fun b u hb q=>(sb.2 b hb).trans q) ⟨_,ho'⟩ ⟨by rw[List.length_append];exact hz,its++[v],n+1,ri.append (.cons r .nil),?_⟩)
 rw[ho']
 simp
noncomputable def PTs (X:Cx) (ifs:List Expr) (t:TT):Prop:=
 ∀(pins:List (Addr×Obj)) (s:Shared) (σ:St) (H:Hp) (Q:Bool->Hp->Prop),Inv X pins σ H s->t σ H Q ->
  wpAny (model X.prog X.w) X.A (forIn ifs true fun c r=>if r=true then do let ok <-isTrue c X.env (eval c X.env);pure (ForInStep.yield ok) else pure (ForInStep.yield r)) (TP X pins σ Q) X.xe s
noncomputable def jC:TT:=fun _ H Q=>Q true H
theorem Gz:PTs X [] jC:=fun _ _ _ H _ I h=>wpAny_tests_nil ⟨H,I,h⟩
end
theorem aV {α:Type}{t:Sem α}{Q Q':α->Shared->Prop}{M:Model}{A:Around}{E:Value->Shared->Prop}{s:Shared} (h:wpAny M A t Q (fun _ _=>False) s) (hQ:∀a s,Q a s->Q' a s):wpAny M A t Q' E s:=wpAny_mono h hQ fun _ _ z=>False.elim z
theorem TY {prog:Program}{w:World}{A:Around}{R:Result->Shared->Prop}{s:Shared}{elt target iter:Expr}{ifs:List Expr}{scope:Scope}{pos:Pos}{it acc:Value}{env:Env} (I:Nat->Shared->Prop)
  (turn:∀n s,I n s->wpAny (model prog w) A (pyNext it) (fun r s₁=>match r with
   |none=>R (.ok .next) s₁
   |some v=>wpAny (model prog w) A (letOwnedTupleGo target it v) (fun _ s₁'=>wpAny (model prog w) A (assign target env v) (fun _ s₂=>
     wpAny (model prog w) A (forIn ifs true fun c r=>if r=true then do let ok <-isTrue c env (eval c env);pure (ForInStep.yield ok) else pure (ForInStep.yield r)) (fun ok s₃=>
      if ok=true then wpAny (model prog w) A (eval elt env) (fun x s₄=>
       wpAny (model prog w) A (call (.builtin "list.append") [acc,x]) (fun _ s₅=>∃m,m<n/\I m s₅) (notedBy (model prog w) A env fun e s'=>R (.error e) s') s₄) (notedBy (model prog w) A env fun e s'=>R (.error e) s') s₃
      else ∃m,m<n/\I m s₃) (notedBy (model prog w) A env fun e s'=>R (.error e) s') s₂) (notedBy (model prog w) A env fun e s'=>R (.error e) s') s₁') (notedBy (model prog w) A env fun e s'=>R (.error e) s') s₁) (notedBy (model prog w) A env fun e s'=>R (.error e) s') s)
  (n:Nat) (h:I n s) :
  codeAny (model prog w) A (.compLoop (.ListComp elt [⟨target,iter,ifs,0⟩] scope pos) 0 it acc env) R s:=by
 refine codeAny_loop rfl I (fun n s hI=>?_) n h
 show wpAny _ A ((compTurn (.ListComp elt [⟨target,iter,ifs,0⟩] scope pos) 0 it acc env).onRaise (fun x=>do noteFrame x env;theTreesLotGoes x)) _ _ s
 refine wpAny_noted ?_
 rw[compTurn_list]
 refine wpAny_bind (wpAny_standAt (wpAny_bind (wpAny_mono (turn n s hI) (fun r s₁ h₁=>?_) fun _ _ h'=>h')))
 cases r with
 |none=>exact wpAny_pure h₁
 |some v=>
  refine wpAny_bind (wpAny_mono h₁ (fun _ s₁' h₁'=>?_) fun _ _ h'=>h')
  refine wpAny_bind (wpAny_mono h₁' (fun _ s₂ h₂=>wpAny_bind (wpAny_mono h₂ (fun ok s₃ h₃=>?_) fun _ _ h'=>h')) fun _ _ h'=>h')
  cases ok with
  |false=>exact wpAny_pure ⟨rfl,h₃⟩
  |true=>
   exact wpAny_bind (wpAny_bind (wpAny_mono h₃ (fun x s₄ h₄=>wpAny_bind (wpAny_mono h₄ (fun _ s₅ h₅=>wpAny_pure (wpAny_pure ⟨rfl,h₅⟩)) fun _ _ h'=>h')) fun _ _ h'=>h'))
section
variable {X:Cx}
noncomputable def tLc (wi:TI) (g:TG) (tt:TT) (te:TE) (vs:List Nat):TE:=fun σ H Q=>wi σ H fun J H1=>∀D,H1 D=none->∃W:Nat->Nat->Hp->Prop,(∃m,W 0 m (upd H1 D (.lst [])))/\∀i m H,W i m H ->
 (J.stop i H/\Q (.ref D) H)\/(J.go i H/\∃Nx:Hp->Prop,(∀H',Nx H'->∃m',m'<m/\W (i+1) m' H')/\∀x H',J.yld i H x H'->g x (wipe σ vs) H' fun σ2 H2=>wipe σ2 vs=wipe σ vs/\tt σ2 H2 fun b H3=>
  if b=true then te σ2 H3 fun y H4=>∃acc,H4 D=some (.lst acc)/\acc.length<sizeLine/\Nx (upd H4 D (.lst (acc++[y]))) else Nx H3)
theorem eK {pins:List (Addr×Obj)}{s:Shared}{σ:St}{H:Hp}{Q:VK}{elt tg iter:Expr}{ifs:List Expr}{scope:Scope}{own:List (Str×Nat)}{pos pos':Pos}{wi:TI}{g:TG}{tt:TT}{te:TE}{use:Option (Value->Sem Unit)}{Qf:Value->Shared->Prop}
  (hc:X.calm=true) (hN:X.N.Nodup) (I:Inv X pins σ H s) (hi:PI X tg iter wi) (ok:YO X.N X.env.scope scope own)
  (hg:∀(s:Shared) (H:Hp) (C:Addr) (cl:List (Str×Addr)) (fp:List Addr),PG (X.blk s H scope (compEnvC scope cl C X.env) fp) tg g) (ht:∀(s:Shared) (H:Hp) (C:Addr) (cl:List (Str×Addr)) (fp:List Addr),PTs (X.blk s H scope (compEnvC scope cl C X.env) fp) ifs tt)
  (he:∀(s:Shared) (H:Hp) (C:Addr) (cl:List (Str×Addr)) (fp:List Addr),PE (X.blk s H scope (compEnvC scope cl C X.env) fp) elt te) (hs:∀x,foldedSetIterable iter X.env x=pure x)
  (h:tLc wi g tt te (own.map (·.2)) σ H Q)
  (hRR:∀D C s' m H',Inv X pins σ H' s'->Q (.ref D) H'->s'.heap.Ns C m->OU X pins H' C->compPost (model X.prog X.w) X.A X.xe use Qf (.ref D) C (.ok .next) s') :
  wpAny (model X.prog X.w) X.A (comprehension (.ListComp elt [⟨tg,iter,ifs,0⟩] scope pos) scope X.env pos' (newList []) false (eval iter X.env) use) Qf X.xe s:=by
 have hfree:∀y∈scope.names,y.2 = .free->∃c,X.env.cells.lookup y.1=some c:=fun y hy e=>by
  rcases ok.free y hy e with k|k
  ·exact I.ok.has _ (.inl k)
  ·exact I.ok.has _ (.inr k)
 refine wpAny_comprehension_free (use:=use) rfl hs (Xx hfree) ok.kind (fun y hy e=>by rw[ok.uniq y hy,e])
  (thn (hi pins s σ H _ I h) fun xv s1 hx=>thn hx fun itv s2 h2=>?_)
 obtain ⟨it,fp,tn,J,H2,e,I2,T,st2,f2,q⟩:=h2
 subst e
 refine wpAny_newObj_type (WE ?_) (by show 0<=sizeLine;decide)
 generalize hD:s2.heap.objs.size=D
 have hDn:H2 D=none:=I2.hok.fresh (Nat.le_of_eq hD)
 obtain ⟨W,⟨m0,w0⟩,turn⟩:=q D hDn
 generalize hs3:({ s2 with heap:=s2.heap.push { cls:=.type "list",data:=.seq ([]:List Value).toArray } }:Shared)=s3
 have I3:Inv X pins σ (upd H2 D (.lst [])) s3:=by
  rw[<-hs3]
  refine I2.laid (t':=s2.toks) (fun b o e=>Heap.get?_push_of_some _ e) (Nat.le_of_eq hD) ⟨Nat.zero_le _,[],0,.nil,?_⟩
  rw[<-hD]
  exact Heap.get?_push_size _ rfl
 have h3:s3.heap=s2.heap.push { cls:=.type "list",data:=.seq ([]:List Value).toArray }:=by rw[<-hs3]
 have sz:∀b∈fp,b<s2.heap.objs.size:=fun b hb=>by
  obtain ⟨o,e,_⟩:=T.obj _ _ st2 b hb
  exact Heap.lt_size e
 have f3:∀b∈fp,OU X pins (upd H2 D (.lst [])) b/\b<s3.heap.objs.size:=fun b hb=>by
  have hlt:=sz b hb
  refine ⟨⟨?_,(f2 b hb).2⟩,by rw[h3,Heap.size_push];exact Nat.lt_succ_of_lt hlt⟩
  rw[Ai (by rw[<-hD];exact Nat.ne_of_lt hlt)]
  exact (f2 b hb).1
 have st3:tn 0 s3.heap:=T.keep _ _ _ st2 fun b _ o e=>by rw[h3];exact Heap.get?_push_of_some _ e
 have I4:=Vz I3 ok hN f3
 have pg:=hg s3 (upd H2 D (.lst [])) s3.heap.objs.size (cellsFrom (s3.heap.objs.size+1) scope.names (Bv X.env.cells scope.names [])) fp
 have pt:=ht s3 (upd H2 D (.lst [])) s3.heap.objs.size (cellsFrom (s3.heap.objs.size+1) scope.names (Bv X.env.cells scope.names [])) fp
 have pe:=he s3 (upd H2 D (.lst [])) s3.heap.objs.size (cellsFrom (s3.heap.objs.size+1) scope.names (Bv X.env.cells scope.names [])) fp
 show codeAny _ _ (.compStart (.ListComp elt [⟨tg,iter,ifs,0⟩] scope pos) 0 (.ref it) (.ref D) (compEnvC scope (cellsFrom (s3.heap.objs.size+1) scope.names (Bv X.env.cells scope.names [])) s3.heap.objs.size X.env)) (compPost (model X.prog X.w) X.A X.xe use Qf (.ref D) s3.heap.objs.size) { s3 with heap:=pushCells (s3.heap.push { cls:=.type "dict",data:=.dict #[] }) scope.names }
 have nfp:∀b∈fp,(upd H2 D (.lst [])) b=none:=fun b hb=>(f3 b hb).1.1
 generalize hce:compEnvC scope (cellsFrom (s3.heap.objs.size+1) scope.names (Bv X.env.cells scope.names [])) s3.heap.objs.size X.env=ce at I4 pg pt pe ⊢
 have cL:ce.locals=s3.heap.objs.size:=by subst hce;rfl
 generalize hH3:upd H2 D (.lst [])=H3 at I3 I4 pg pt pe w0 nfp f3
 generalize hs4:({ s3 with heap:=pushCells (s3.heap.push { cls:=.type "dict",data:=.dict #[] }) scope.names }:Shared)=s4 at I4 ⊢
 have st4:tn 0 s4.heap:=T.keep _ _ _ st3 fun b _ o e=>by rw[<-hs4];exact pushCells_keeps _ _ _ _ (Heap.get?_push_of_some _ e)
 have stat:∀{σ':St}{H':Hp}{s':Shared},Inv (X.blk s3 H3 scope ce fp) [] σ' H' s'->(∀b∈fp,H' b=none)->∀b∈fp,OU (X.blk s3 H3 scope ce fp) [] H' b:=fun {σ' H' s'} I' hn b hb=>
  ⟨hn b hb,(I'.ok.exf b hb).1,I'.ok.ZQ b hb,.inl hb,fun x c e=>(I'.ok.exf b hb).2 x c e,fun p hp=>absurd (show p∈([]:List (Addr×Obj))++[] from hp) (by simp)⟩
 have loop:codeAny (model X.prog X.w) X.A (.compLoop (.ListComp elt [⟨tg,iter,ifs,0⟩] scope pos) 0 (.ref it) (.ref D) ce) (compPost (model X.prog X.w) X.A X.xe use Qf (.ref D) s3.heap.objs.size) s4:=by
  refine TY (fun n s'=>∃i H',Inv (X.blk s3 H3 scope ce fp) [] (wipe σ (own.map (·.2))) H' s'/\tn i s'.heap/\(∀b∈fp,H' b=none)/\W i n H') ?_ m0 ⟨0,H3,I4,st4,nfp,w0⟩
  rintro n s5 ⟨i,H5,I5,st5,n5,w5⟩
  rcases turn i n H5 w5 with ⟨stop,qq⟩|⟨go,Nx,hNx,step⟩
  ·have td:=T.done (X.blk s3 H3 scope ce fp) rfl rfl rfl hc i [] s5 _ H5 (fun _ _=>False) I5 (stat I5 n5) st5 stop
   refine aV td fun r s6 ⟨hr,I6⟩=>?_
   subst hr
   have I7:Inv X pins σ H5 s6:=I3.bB (ch:=fp) I6.os I6.base I6.hok I6.bare fun b hb=>⟨(f3 b hb).1.2.2.2.1,(f3 b hb).1.2.1,(f3 b hb).1.2.2.2.2.1,(f3 b hb).1.2.2.2.2.2⟩
   have nC:H5 s3.heap.objs.size=none:=by
    have z:H5 ce.locals=none:=I6.free
    rw[cL] at z
    exact z
   obtain ⟨m,hn,_⟩:=I6.loc
   have hn:s6.heap.Ns ce.locals m:=hn
   rw[cL] at hn
   exact hRR D s3.heap.objs.size s6 m H5 I7 qq hn (I3.XR (Nat.le_refl _) nC)
  ·have ti:=T.item (X.blk s3 H3 scope ce fp) rfl rfl rfl hc i [] s5 _ H5 (fun _ _=>False) I5 (stat I5 n5) st5 go
   refine aV ti fun r s6 ⟨u,hr,h6⟩=>?_
   subst hr
   refine aV h6 fun _ s7 ⟨x,H7,I7,r7,y7,st7,n7⟩=>?_
   have I7':=I7.pinned (stat I7 n7) (T.obj _ _ st7)
   refine aV (pg _ s7 _ H7 x u _ I7' r7 (step x H7 y7)) fun _ s8 ⟨σ8,H8,I8,hw8,q8⟩=>?_
   refine aV (pt _ s8 σ8 H8 _ I8 q8) fun b s9 ⟨H9,I9,q9⟩=>?_
   have fin:∀{s':Shared}{H':Hp},Inv (X.blk s3 H3 scope ce fp) ([]++QO fp s7.heap) σ8 H' s'->Nx H'->∃m,m<n/\∃i H',Inv (X.blk s3 H3 scope ce fp) [] (wipe σ (own.map (·.2))) H' s'/\tn i s'.heap/\(∀b∈fp,H' b=none)/\W i m H':=fun {s' H'} I' nx=>by
    obtain ⟨m',hm,w'⟩:=hNx H' nx
    have pin':∀b∈fp,∀o,s7.heap.get? b=some o->s'.heap.get? b=some o/\H' b=none:=fun b hb o e=>
     let z:=I'.pin (b,o) (List.mem_append_right _ (List.mem_append_right _ (Ka hb e)))
     ⟨z.1,z.2.1⟩
    have hl:(wipe σ (own.map (·.2))).length=σ8.length:=by rw[<-hw8,IM]
    refine ⟨m',hm,i+1,H',(I'.LZ (pins:=[])).weak hl (fun j v e=>?_),T.keep _ _ _ st7 fun b hb o e=>(pin' b hb o e).1,fun b hb=>?_,w'⟩
    ·rw[<-hw8] at e
     exact (MN e).1
    ·obtain ⟨o,e,_⟩:=T.obj _ _ st7 b hb
     exact (pin' b hb o e).2
   cases b with
   |false=>
    simp only [Bool.false_eq_true,if_false] at q9 ⊢
    exact fin I9 q9
   |true=>
    simp only [if_true] at q9 ⊢
    refine aV (pe _ s9 σ8 H9 _ I9 q9) fun z s10 ⟨yv,H10,I10,r10,acc,hD10,hz10,nx⟩=>?_
    exact gm (X:=X.blk s3 H3 scope ce fp) I10 hD10 hz10 r10 fun s11 I11=>fin I11 nx
 exact codeAny_compStart_list loop (T.self X.A 0 _ _ _ st4 loop)
theorem QM {elt tg iter:Expr}{ifs:List Expr}{scope:Scope}{own:List (Str×Nat)}{pos:Pos}{wi:TI}{g:TG}{tt:TT}{te:TE} (hc:X.calm=true) (hN:X.N.Nodup) (hi:PI X tg iter wi) (ok:YO X.N X.env.scope scope own)
  (hg:∀(s:Shared) (H:Hp) (C:Addr) (cl:List (Str×Addr)) (fp:List Addr),PG (X.blk s H scope (compEnvC scope cl C X.env) fp) tg g) (ht:∀(s:Shared) (H:Hp) (C:Addr) (cl:List (Str×Addr)) (fp:List Addr),PTs (X.blk s H scope (compEnvC scope cl C X.env) fp) ifs tt)
  (he:∀(s:Shared) (H:Hp) (C:Addr) (cl:List (Str×Addr)) (fp:List Addr),PE (X.blk s H scope (compEnvC scope cl C X.env) fp) elt te) (hs:∀x,foldedSetIterable iter X.env x=pure x:=by intro _;rfl) :
  PE X (.ListComp elt [⟨tg,iter,ifs,0⟩] scope pos) (tLc wi g tt te (own.map (·.2))):=by
 intro pins s σ H Q I h
 rw[eval_ListComp]
 refine eK hc hN I hi ok hg ht he hs h fun D C s' m H' I' q hn f=>⟨m,hn,fun h'' sb=>?_⟩
 obtain ⟨f0,f1,f2,f3,f4,f5⟩:=f
 exact ⟨.ref D,H',I'.turned (t':=s'.toks) (fun b o hb e=>(sb.2 b hb).trans e) f0 f1 f3 f4 f5,rfl,q⟩
end
theorem bZ {lo:Int}{n:Nat}{g:TG}{tt:TT}{te:TE}{vs:List Nat}{σ:St}{H1:Hp}{D:Addr}{Qd:Hp->Prop} (Pv:Nat->Hp->Prop) (h0:Pv 0 (upd H1 D (.lst [])))
  (hs:∀i H,i<n->Pv i H->g (.int (lo+i)) (wipe σ vs) H fun σ2 H2=>wipe σ2 vs=wipe σ vs/\tt σ2 H2 fun b H3=>
   if b=true then te σ2 H3 fun y H4=>∃acc,H4 D=some (.lst acc)/\acc.length<sizeLine/\Pv (i+1) (upd H4 D (.lst (acc++[y]))) else Pv (i+1) H3) (hd:∀H,Pv n H->Qd H) :
  ∃W:Nat->Nat->Hp->Prop,(∃m,W 0 m (upd H1 D (.lst [])))/\∀i m H,W i m H ->
   ((Itr lo n).stop i H/\Qd H)\/((Itr lo n).go i H/\∃Nx:Hp->Prop,(∀H',Nx H'->∃m',m'<m/\W (i+1) m' H')/\∀x H',(Itr lo n).yld i H x H'->g x (wipe σ vs) H' fun σ2 H2=>wipe σ2 vs=wipe σ vs/\tt σ2 H2 fun b H3=>
    if b=true then te σ2 H3 fun y H4=>∃acc,H4 D=some (.lst acc)/\acc.length<sizeLine/\Nx (upd H4 D (.lst (acc++[y]))) else Nx H3):=by
 refine ⟨fun i m H=>m=n-i/\i<=n/\Pv i H,⟨n,by simp,Nat.zero_le _,h0⟩,?_⟩
 rintro i m H ⟨rfl,hi,p⟩
 by_cases hlt:i<n
 ·refine .inr ⟨hlt,Pv (i+1),fun H' p'=>⟨n-(i+1),by omega,rfl,hlt,p'⟩,fun x H' y=>?_⟩
  obtain ⟨e,y⟩:=y
  subst e y
  exact hs i _ hlt p
 ·have e:i=n:=by omega
  subst e
  exact .inl ⟨Nat.le_refl _,hd H p⟩
theorem KW {K:PySem.W.Frag}{a:Addr}{xs:List V}{g:TG}{tt:TT}{te:TE}{vs:List Nat}{σ:St}{H1:Hp}{D:Addr}{Qd:Hp->Prop} (Pv:Nat->Hp->Prop) (h0:Pv 0 (upd H1 D (.lst []))) (hl:∀i H,i<=xs.length->Pv i H->SqL K H a xs)
  (hs:∀i x H,xs[i]?=some x->Pv i H->g x (wipe σ vs) H fun σ2 H2=>wipe σ2 vs=wipe σ vs/\tt σ2 H2 fun b H3=>
   if b=true then te σ2 H3 fun y H4=>∃acc,H4 D=some (.lst acc)/\acc.length<sizeLine/\Pv (i+1) (upd H4 D (.lst (acc++[y]))) else Pv (i+1) H3) (hd:∀H,Pv xs.length H->Qd H) :
  ∃W:Nat->Nat->Hp->Prop,(∃m,W 0 m (upd H1 D (.lst [])))/\∀i m H,W i m H ->
   ((Itl K a).stop i H/\Qd H)\/((Itl K a).go i H/\∃Nx:Hp->Prop,(∀H',Nx H'->∃m',m'<m/\W (i+1) m' H')/\∀x H',(Itl K a).yld i H x H'->g x (wipe σ vs) H' fun σ2 H2=>wipe σ2 vs=wipe σ vs/\tt σ2 H2 fun b H3=>
    if b=true then te σ2 H3 fun y H4=>∃acc,H4 D=some (.lst acc)/\acc.length<sizeLine/\Nx (upd H4 D (.lst (acc++[y]))) else Nx H3):=by
 refine ⟨fun i m H=>m=xs.length-i/\i<=xs.length/\Pv i H,⟨xs.length,by simp,Nat.zero_le _,h0⟩,?_⟩
 rintro i m H ⟨rfl,hi,p⟩
 have q:=hl i H hi p
 by_cases hlt:i<xs.length
 ·refine .inr ⟨⟨xs,xs[i],q,by simp[hlt]⟩,Pv (i+1),fun H' p'=>⟨xs.length-(i+1),by omega,rfl,hlt,p'⟩,fun x H' y=>?_⟩
  obtain ⟨e,y⟩:=y
  subst e
  exact hs i x _ (y xs q) p
 ·have e:i=xs.length:=by omega
  subst e
  exact .inl ⟨⟨xs,q,Nat.le_refl _⟩,hd H p⟩
noncomputable def TN (N:List Str) (sc scope:Scope) (own:List (Str×Nat)):Bool:=
 (match scope.kind with|.function=>true|_=>false)&&(scope.names.all fun y=>decide (scope.names.lookup y.1=some y.2))&&(own.all fun p=>decide (N[p.2]?=some p.1)) &&
  (scope.names.all fun y=>match y.2 with
   |.free=>(match sc.names.lookup y.1 with|some .cell=>true|some .free=>true|_=>false)
   |.local=>decide (y.1∈own.map (·.1))||decide (y.1∉N)
   |.cell=>decide (y.1∈own.map (·.1))||decide (y.1∉N)
   |_=>true)
theorem EJ {N:List Str}{sc scope:Scope}{own:List (Str×Nat)} (h:TN N sc scope own=true):YO N sc scope own:=by
 unfold TN at h
 simp only [Bool.and_eq_true,List.all_eq_true,decide_eq_true_eq] at h
 obtain ⟨⟨⟨h1,h2⟩,h3⟩,h4⟩:=h
 refine ⟨?_,h2,h3,fun y hy e=>?_,fun y hy e=>?_⟩
 ·split at h1
  ·assumption
  ·cases h1
 ·have q:=h4 y hy
  simp only [e] at q
  split at q<;>first|exact .inl (by assumption)|exact .inr (by assumption)|cases q
 ·have q:=h4 y hy
  rcases e with e|e<;>(simp only [e,Bool.or_eq_true,decide_eq_true_eq] at q;exact q)
end L2
namespace L2
open PySem PySem.Spec PyProof.Rows
section
variable {κ:Type} [DecidableEq κ]
noncomputable def Cj (kvs:List (κ×V)) (k:κ):Option V:=(kvs.find? fun kv=>decide (kv.1=k)).map (·.2)
noncomputable def putK (kvs:List (κ×V)) (k:κ) (v:V):List (κ×V):=
 if (kvs.any fun kv=>decide (kv.1=k))=true then kvs.map (fun kv=>if kv.1=k then (kv.1,v) else kv) else kvs++[(k,v)]
theorem CL {p:κ×V}{r:List (κ×V)}{k:κ} (e:p.1=k):Cj (p::r) k=some p.2:=by simp[Cj,List.find?_cons,e]
theorem CK {p:κ×V}{r:List (κ×V)}{k:κ} (e:¬p.1=k):Cj (p::r) k=Cj r k:=by simp[Cj,List.find?_cons,e]
theorem Ma (k:κ):∀kvs:List (κ×V),(kvs.any fun kv=>decide (kv.1=k))=(Cj kvs k).isSome
 |[]=>rfl
 |p::r=>by
  rw[List.any_cons]
  by_cases e:p.1=k
  ·simp only [CL e,decide_eq_true e,Bool.true_or,Option.isSome_some]
  ·rw[CK e,decide_eq_false e,Bool.false_or];exact Ma k r
theorem Xj (k j:κ) (y:V):∀kvs:List (κ×V),Cj (kvs.map fun kv=>if kv.1=k then (kv.1,y) else kv) j=(Cj kvs j).map fun x=>if j=k then y else x
 |[]=>rfl
 |p::r=>by
  have ih:=Xj k j y r
  rw[List.map_cons]
  by_cases h:p.1=k
  ·rw[if_pos h]
   by_cases e:p.1=j
   ·rw[CL (p:=(p.1,y)) e,CL e,Option.map_some,if_pos (e.symm.trans h)]
   ·rw[CK (p:=(p.1,y)) e,CK e,ih]
  ·rw[if_neg h]
   by_cases e:p.1=j
   ·rw[CL (p:=p) e,CL e,Option.map_some,if_neg (fun z=>h (e.trans z))]
   ·rw[CK (p:=p) e,CK e,ih]
theorem Tu (k j:κ) (y:V):∀kvs:List (κ×V),Cj kvs k=none->Cj (kvs++[(k,y)]) j=if j=k then some y else Cj kvs j
 |[],_=>by
  by_cases e:k=j
  ·rw[if_pos e.symm];exact CL (p:=(k,y)) e
  ·rw[if_neg (fun z=>e z.symm)];exact CK (p:=(k,y)) e
 |p::r,hn=>by
  rw[List.cons_append]
  have hk:¬p.1=k:=fun z=>by rw[CL z] at hn;cases hn
  rw[CK hk] at hn
  have ih:=Tu k j y r hn
  by_cases e:p.1=j
  ·rw[CL e,CL e,if_neg (fun z=>hk (e.trans z))]
  ·rw[CK e,CK e,ih]
theorem Mb (kvs:List (κ×V)) (k j:κ) (y:V):Cj (putK kvs k y) j=if j=k then some y else Cj kvs j:=by
 unfold putK
 by_cases a:(kvs.any fun kv=>decide (kv.1=k))=true
 ·rw[if_pos a,Xj]
  rw[Ma] at a
  by_cases e:j=k
  ·obtain ⟨x,hx⟩:=Option.isSome_iff_exists.mp a
   rw[if_pos e,e,hx,Option.map_some,if_pos rfl]
  ·rw[if_neg e]
   cases Cj kvs j with
   |none=>rfl
   |some x=>rw[Option.map_some,if_neg e]
 ·rw[if_neg a]
  refine Tu k j y kvs ?_
  rw[Ma] at a
  cases q:Cj kvs k with
  |none=>rfl
  |some x=>rw[q] at a;exact (a rfl).elim
theorem Dm (kvs:List (κ×V)) (k:κ) (v:V):(putK kvs k v).length<=kvs.length+1:=by
 unfold putK
 split
 ·rw[List.length_map];omega
 ·rw[List.length_append,List.length_cons,List.length_nil];omega
theorem Fg.FR {o:Option V}{u:Option Value} (r:Fg o u):o.isSome=u.isSome:=by
 cases o with
 |none=>cases u with
  |none=>rfl
  |some _=>exact (show False from r).elim
 |some _=>cases u with
  |none=>exact (show False from r).elim
  |some _=>rfl
theorem Fg.getD {o:Option V}{u:Option Value}{d:V}{d':Value} (r:Fg o u) (rd:RelV d d'):RelV (o.getD d) (u.getD d'):=by
 cases o with
 |none=>cases u with
  |none=>exact rd
  |some _=>exact (show False from r).elim
 |some _=>cases u with
  |none=>exact (show False from r).elim
  |some _=>exact r
theorem KV.val {kvs:List (κ×V)}{vs:List (κ×Value)} (r:KV kvs vs) (k:κ):Fg (Cj kvs k) (valueAt vs k):=by
 unfold KV at r
 induction r with
 |nil=>exact True.intro
 |@cons p q ps qs h t ih=>
  obtain ⟨h1,h2⟩:=h
  by_cases e:p.1=k
  ·have e':q.1=k:=h1.symm.trans e
   have b:valueAt (q::qs) k=some q.2:=by simp[valueAt,List.find?_cons,e']
   rw[CL e,b];exact h2
  ·have e':¬q.1=k:=fun z=>e (h1.trans z)
   have b:valueAt (q::qs) k=valueAt qs k:=by simp[valueAt,List.find?_cons,e']
   rw[CK e,b];exact ih
theorem KV.any {kvs:List (κ×V)}{vs:List (κ×Value)} (r:KV kvs vs) (k:κ):(kvs.any fun kv=>decide (kv.1=k))=vs.any fun kv=>decide (kv.1=k):=by
 unfold KV at r
 induction r with
 |nil=>rfl
 |cons h t ih=>rw[List.any_cons,List.any_cons,ih,h.1]
theorem KV.iu {kvs:List (κ×V)}{vs:List (κ×Value)} (r:KV kvs vs) (k:κ) {y:V}{u:Value} (ry:RelV y u) :
  KV (kvs.map fun kv=>if kv.1=k then (kv.1,y) else kv) (vs.map fun kv=>if kv.1=k then (kv.1,u) else kv):=by
 unfold KV at r ⊢
 induction r with
 |nil=>exact .nil
 |@cons p q ps qs h t ih=>
  rw[List.map_cons,List.map_cons]
  refine .cons ?_ ih
  obtain ⟨h1,h2⟩:=h
  by_cases e:p.1=k
  ·rw[if_pos e,if_pos (h1.symm.trans e)];exact ⟨h1,ry⟩
  ·rw[if_neg e,if_neg (fun z=>e (h1.trans z))];exact ⟨h1,h2⟩
theorem KV.put {kvs:List (κ×V)}{vs:List (κ×Value)} (r:KV kvs vs) (k:κ) {y:V}{u:Value} (ry:RelV y u):KV (putK kvs k y) (stored vs k u):=by
 unfold putK stored
 rw[r.any k]
 by_cases e:(vs.any fun kv=>decide (kv.1=k))=true
 ·rw[if_pos e,if_pos e];exact r.iu k ry
 ·rw[if_neg e,if_neg e];exact Paired.snoc r ⟨rfl,ry⟩
theorem KV.length {kvs:List (κ×V)}{vs:List (κ×Value)} (r:KV kvs vs):kvs.length=vs.length:=Paired.length r
end
theorem SQ {P:Program}{w:World}{k:Key}{u:Value} (r:RelV (kV k) u):(Ce P w).is k u=true:=by
 cases k with
 |inl i=>obtain ⟨t,e⟩:=(show ∃t,u=Value.int i t from r);subst e;exact Wl P w i t
 |inr x=>obtain ⟨t,e⟩:=(show ∃t,u=Value.str x t from r);subst e;exact Wm P w x t
theorem SO {P:Program}{w:World}:∀{ks:List Key}{us:List Value},Vals (ks.map kV) us->ItemsAre (Ce P w) ks us
 |[],_,r=>by rw[List.map_nil] at r;cases r;exact .nil
 |k::ks,_,r=>by
  rw[List.map_cons] at r
  cases r with
  |cons h t=>exact .cons (SQ h) (SO t)
noncomputable abbrev KT (H:Hp):List (List Key×V)->List (List Key×Addr×Value)->Prop:=Paired fun p q=>p.1=q.1/\H q.2.1=some (.tup (p.1.map kV))/\RelV p.2 q.2.2
theorem KT.val {H:Hp}{kvs:List (List Key×V)}{xs:List (List Key×Addr×Value)} (r:KT H kvs xs) (k:List Key):Fg (Cj kvs k) ((atKey xs k).map (·.2)):=by
 induction r with
 |nil=>exact True.intro
 |@cons p q ps qs h t ih=>
  obtain ⟨h1,_,h2⟩:=h
  by_cases e:p.1=k
  ·have e':q.1=k:=h1.symm.trans e
   have b:atKey (q::qs) k=some q.2:=by simp[atKey,List.find?_cons,e']
   rw[CL e,b];exact h2
  ·have e':¬q.1=k:=fun z=>e (h1.trans z)
   have b:atKey (q::qs) k=atKey qs k:=by simp[atKey,List.find?_cons,e']
   rw[CK e,b];exact ih
theorem KT.iu {H:Hp}{kvs:List (List Key×V)}{xs:List (List Key×Addr×Value)} (r:KT H kvs xs) (k:List Key) {y:V}{u:Value} (ry:RelV y u) :
  KT H (kvs.map fun kv=>if kv.1=k then (kv.1,y) else kv) (xs.map (putAt k u)):=by
 induction r with
 |nil=>exact .nil
 |@cons p q ps qs h t ih=>
  rw[List.map_cons,List.map_cons]
  refine .cons ?_ ih
  obtain ⟨h1,h2,h3⟩:=h
  unfold putAt
  by_cases e:p.1=k
  ·rw[if_pos e,if_pos (h1.symm.trans e)];exact ⟨h1,h2,ry⟩
  ·rw[if_neg e,if_neg (fun z=>e (h1.trans z))];exact ⟨h1,h2,h3⟩
theorem KT.put {H:Hp}{kvs:List (List Key×V)}{xs:List (List Key×Addr×Value)} (r:KT H kvs xs) (k:List Key) {b:Addr}{y:V}{u:Value} (hb:H b=some (.tup (k.map kV))) (ry:RelV y u) :
  KT H (putK kvs k y) (storedH xs k b u):=by
 have e:(kvs.any fun kv=>decide (kv.1=k))=(atKey xs k).isSome:=by
  rw[Ma,(r.val k).FR,Option.isSome_map]
 unfold putK storedH
 rw[e]
 by_cases q:(atKey xs k).isSome=true
 ·rw[if_pos q,if_pos q];exact r.iu k ry
 ·rw[if_neg q,if_neg q];exact Paired.snoc r ⟨rfl,hb,ry⟩
theorem KT.keeps {H H':Hp}{kvs:List (List Key×V)}{xs:List (List Key×Addr×Value)} (r:KT H kvs xs) (ht:∀b ys,H b=some (.tup ys)->H' b=some (.tup ys)):KT H' kvs xs:=
 Paired.hJ r fun _ _ z=>⟨z.1,ht _ _ z.2.1,z.2.2⟩
section
variable {P:Program}{w:World}{H:Hp}{h:Heap}{a:Addr}
theorem gc {u:HO} (ok:HOk P w H h) (e:Rd H a u):BH P w H h a u:=e.ok ok
theorem Pg {kvs:List (Key×V)} (ok:HOk P w H h) (e:Rd H a (.dK kvs)):kvs.length<=sizeLine/\(a==sysModules)=false/\∃vs,KV kvs vs/\h.DictOf (Ce P w) a vs:=
 show BH P w H h a (.dK kvs) from gc ok e
theorem iU {kvs:List (Key×V)} (ok:HOk P w H h) (e:H a=some (.dK kvs)):kvs.length<=sizeLine/\(a==sysModules)=false/\∃vs,KV kvs vs/\h.DictOf (Ce P w) a vs:=Pg ok (.inl e)
theorem Mq {ks:List Key} (ok:HOk P w H h) (e:H a=some (.tup (ks.map kV))):(tupleKind (Ce P w)).is h ks a:=by
 obtain ⟨_,its,r,o,h1,h2,n,h3⟩:=(show BH P w H h a (.tup (ks.map kV)) from ok a _ e)
 exact ⟨o,its.toArray,n,h1,h2,h3,by simpa using SO r⟩
theorem Ph {kvs:List (List Key×V)} (ok:HOk P w H h) (e:Rd H a (.dT kvs)):kvs.length<=sizeLine/\(a==sysModules)=false /\
  ∃xs,KT H kvs xs/\h.DictOfH (tupleKind (Ce P w)) a xs:=by
 obtain ⟨z,y,xs,r,o,es,ep,h1,h2,h3,h4,h5⟩:=(show BH P w H h a (.dT kvs) from gc ok e)
 refine ⟨z,y,xs,r,o,es,ep,h1,h2,h3,h4,fun x hx=>?_,h5⟩
 have all:∀{l:List (List Key×V)}{m:List (List Key×Addr×Value)},KT H l m->∀x∈m,(tupleKind (Ce P w)).is h x.1 x.2.1:=by
  intro l m q
  induction q with
  |nil=>intro x hx;exact nomatch hx
  |@cons p q ps qs hq t ih=>
   intro x hx
   rcases List.mem_cons.mp hx with e|hx
   ·subst e
    exact Mq ok (by rw[<-hq.1];exact hq.2.1)
   ·exact ih x hx
 exact all r x hx
theorem iV {kvs:List (List Key×V)} (ok:HOk P w H h) (e:H a=some (.dT kvs)):kvs.length<=sizeLine/\(a==sysModules)=false /\
  ∃xs,KT H kvs xs/\h.DictOfH (tupleKind (Ce P w)) a xs:=Ph ok (.inl e)
end
noncomputable def Hs (H:Hp) (a:Addr) (y:V) (r:Option V):Prop:=
 (∃kvs k,Rd H a (.dK kvs)/\y=kV k/\r=Cj kvs k)\/∃kvs k b,Rd H a (.dT kvs)/\y = .ref b/\H b=some (.tup (k.map kV))/\r=Cj kvs k
noncomputable def TF (H:Hp) (a:Addr) (y v:V) (H':Hp):Prop:=
 (∃kvs k,H a=some (.dK kvs)/\y=kV k/\kvs.length<sizeLine/\H'=upd H a (.dK (putK kvs k v))) \/
 ∃kvs k b,H a=some (.dT kvs)/\y = .ref b/\H b=some (.tup (k.map kV))/\kvs.length<sizeLine/\H'=upd H a (.dT (putK kvs k v))
theorem Hs.t {H:Hp}{a b:Addr}{kvs:List (List Key×V)}{k:List Key} (e:H a=some (.dT kvs)) (eb:H b=some (.tup (k.map kV))):Hs H a (.ref b) (Cj kvs k):=.inr ⟨kvs,k,b,.inl e,rfl,eb,rfl⟩
theorem TF.t {H:Hp}{a b:Addr}{kvs:List (List Key×V)}{k:List Key}{v:V} (e:H a=some (.dT kvs)) (eb:H b=some (.tup (k.map kV))) (hl:kvs.length<sizeLine) :
  TF H a (.ref b) v (upd H a (.dT (putK kvs k v))):=.inr ⟨kvs,k,b,e,rfl,eb,hl,rfl⟩
section
variable {X:Cx}{pins:List (Addr×Obj)}{σ:St}{H:Hp}{s:Shared}{a:Addr}{y v:V}{u r:Value}{o:Option V}{A:Around}{E:Value->Shared->Prop}
theorem Inv.big (I:Inv X pins σ H s):sysModules<s.heap.objs.size:=by
 have h:mainGlobals<s.heap.objs.size:=(I.mod.glob.keeps I.bk).lt
 exact Nat.lt_trans (by decide) h
theorem ZJ {Q:Value->Shared->Prop} (hu:A.units+1<cLine) (I:Inv X pins σ H s) (g:Hs H a y (some v)) (ry:RelV y u) (h:∀w' s',Inv X pins σ H s'->RelV v w'->Q w' s') :
  wpAny (model X.prog X.w) A (getItem (.ref a) u) Q E s:=by
 rcases g with ⟨kvs,k,e,ey,l⟩|⟨kvs,k,b,e,ey,eb,l⟩
 ·subst ey
  obtain ⟨z,hd,vs,rel,dd⟩:=Pg I.hok e
  obtain ⟨w',hw,rw'⟩:=Fg.some_of (v:=v) (o:=valueAt vs k) (by rw[l];exact rel.val k)
  exact wpAny_getItem_of (SQ ry) dd.mapOf hw (h w' _ (I.tok _) rw')
 ·subst ey
  cases (show u=Value.ref b from ry)
  obtain ⟨z,hd,xs,rel,dd⟩:=Ph I.hok e
  obtain ⟨w',hw,rw'⟩:=Fg.some_of (v:=v) (o:=(atKey xs k).map (·.2)) (by rw[l];exact rel.val k)
  obtain ⟨p,hp,hp2⟩:=Option.map_eq_some_iff.mp hw
  refine wpAny_getItem_heap (tupleKind_room_in1 hu) (Mq I.hok eb) dd hp ?_
  rw[hp2]
  exact h w' _ (I.tok _) rw'
theorem jO {Q:Value->Shared->Prop} (hu:A.units+1<cLine) (I:Inv X pins σ H s) (g:Hs H a y o) (ry:RelV y u) (h:∀s',Inv X pins σ H s'->Q (.bool o.isSome) s') :
  wpAny (model X.prog X.w) A (compareOp .In u (.ref a)) Q E s:=by
 rcases g with ⟨kvs,k,e,ey,l⟩|⟨kvs,k,b,e,ey,eb,l⟩
 ·subst ey
  obtain ⟨z,hd,vs,rel,dd⟩:=Pg I.hok e
  refine wpAny_in_of (SQ ry) hd dd.mapOf ?_
  rw[<-(rel.val k).FR,<-l]
  exact h _ (I.tok _)
 ·subst ey
  cases (show u=Value.ref b from ry)
  obtain ⟨z,hd,xs,rel,dd⟩:=Ph I.hok e
  refine wpAny_in_heap (tupleKind_room_in1 hu) (Mq I.hok eb) hd dd ?_
  have q:=(rel.val k).FR
  rw[Option.isSome_map] at q
  rw[<-q,<-l]
  exact h _ (I.tok _)
theorem eu {Q:Value->Shared->Prop} (hu:A.units+1<cLine) (I:Inv X pins σ H s) (g:Hs H a y o) (ry:RelV y u) (h:∀s',Inv X pins σ H s'->Q (.bool (!o.isSome)) s') :
  wpAny (model X.prog X.w) A (compareOp .NotIn u (.ref a)) Q E s:=by
 rcases g with ⟨kvs,k,e,ey,l⟩|⟨kvs,k,b,e,ey,eb,l⟩
 ·subst ey
  obtain ⟨z,hd,vs,rel,dd⟩:=Pg I.hok e
  refine wpAny_notIn_of (SQ ry) hd dd.mapOf ?_
  rw[<-(rel.val k).FR,<-l]
  exact h _ (I.tok _)
 ·subst ey
  cases (show u=Value.ref b from ry)
  obtain ⟨z,hd,xs,rel,dd⟩:=Ph I.hok e
  refine wpAny_notIn_heap (tupleKind_room_in1 hu) (Mq I.hok eb) hd dd ?_
  have q:=(rel.val k).FR
  rw[Option.isSome_map] at q
  rw[<-q,<-l]
  exact h _ (I.tok _)
theorem YV {h':Heap}{t':Nat}{ob:HO} (I:Inv X pins σ H s) (mu:Mut (H a)) (hs:Heap.SameBut a s.heap h') (he:∃q,h'.get? a=some q) (new:BH X.prog X.w (upd H a ob) h' a ob) :
  Inv X pins σ (upd H a ob) { s with heap:=h',toks:=t' }:=
 I.write (x:=a) (e:=a) mu (.inl rfl) (fun b q hb z=>(hs.2 b hb).trans z) he new
theorem gA {P:Program}{w:World}{H':Hp}{h':Heap}{kvs:List (Key×V)}{vs:List (Key×Value)} (z:kvs.length<=sizeLine) (hd:(a==sysModules)=false) (rel:KV kvs vs) (dd:h'.DictOf (Ce P w) a vs) :
  BH P w H' h' a (.dK kvs):=⟨z,hd,vs,rel,dd⟩
theorem ZK {H':Hp}{Q:Unit->Shared->Prop} (hu:A.units+1<cLine) (I:Inv X pins σ H s) (g:TF H a y v H') (ry:RelV y u) (rv:RelV v r) (h:∀s',Inv X pins σ H' s'->Q () s') :
  wpAny (model X.prog X.w) A (setItem (.ref a) u r) Q E s:=by
 rcases g with ⟨kvs,k,e,ey,l,eH⟩|⟨kvs,k,b,e,ey,eb,l,eH⟩
 ·subst ey eH
  obtain ⟨z,hd,vs,rel,dd⟩:=iU I.hok e
  have hz:vs.length<=sizeLine:=by rw[<-rel.length];exact z
  have hl:(putK kvs k v).length<=sizeLine:=by have:=Dm kvs k v;omega
  refine wpAny_setItem_pairs (hsz:=hz) (SQ ry) dd fun h' dd' hs=>h _ ?_
  have he:∃q,h'.get? a=some q:=let ⟨q,_,_,hq,_⟩:=dd';⟨q,hq⟩
  exact YV I (by rw[e];exact True.intro) hs he (gA hl hd (rel.put k rv) dd')
 ·subst ey eH
  cases (show u=Value.ref b from ry)
  obtain ⟨z,hd,xs,rel,dd⟩:=iV I.hok e
  have hz:xs.length<=sizeLine:=by rw[<-Paired.length rel];exact z
  have hl:(putK kvs k v).length<=sizeLine:=by have:=Dm kvs k v;omega
  refine wpAny_setItem_heap (hsz:=hz) (tupleKind_room_in1 hu) (Mq I.hok eb) dd fun h' dd' hs=>h _ ?_
  obtain ⟨q,es,ep,hq,h2,h3,h4,_,h5⟩:=dd'
  refine YV I (by rw[e];exact True.intro) hs ⟨q,hq⟩ ⟨hl,hd,_,(rel.put k eb rv).keeps fun c ys ec=>?_,q,es,ep,hq,h2,h3,h4,h5⟩
  rw[Ai (CI ec e (fun z=>nomatch z))]
  exact ec
end
noncomputable def iP (i:Expr):Prop:=∀ov iv,subscripted i false ov iv=operate [ov,iv] (getItem ov iv)
theorem fG {prog:Program}{w:World}{A:Around}{E:Value->Shared->Prop}{s:Shared}{env:Env}{value slice:Expr}{pos:Pos}{T id:String}{Q:Value->Shared->Prop}
  (hl:typeLookup (.type T) "__getitem__" = pure (some (.builtin id))) (hs:iP slice)
  (h:wpAny (model prog w) A (eval value env) (fun o s₁=>wpAny (model prog w) A (eval slice env) (fun i s₂=>s₂.TypeIs o T/\wpAny (model prog w) A (getItem o i) Q E s₂) E s₁) E s) :
  wpAny (model prog w) A (eval (.Subscript value slice pos) env) Q E s:=by
 refine Subscript_ (wpAny_mono h (fun o s₁ h₁=>wpAny_mono h₁ (fun i s₂ h₂=>?_) fun _ _ x=>x) fun _ _ x=>x)
 obtain ⟨hT,h₂⟩:=h₂
 unfold subscriptTail
 refine wpAny_bind ?_
 rw[getitemInPython_of_ne hT.not_modules]
 refine wpAny_bind (wpAny_specialOf hT hl ?_)
 have fin:wpAny (model prog w) A (subscripted slice false o i) (fun r s₃=>wpAny (model prog w) A (letTemporaryGo value o r >>= fun _=>pure r) Q E s₃) E s₂:=by
  rw[hs o i]
  exact wpAny_operating (wpAny_mono h₂ (fun r s₃ h₃=>wpAny_bind (wpAny_letTemporaryGo (wpAny_pure h₃))) fun _ _ x=>x)
 first
  |exact wpAny_pure (wpAny_bind fin)
  |exact wpAny_bind (wpAny_pure (wpAny_bind fin))
  |exact wpAny_bind fin
theorem VI {X:Cx}{pins:List (Addr×Obj)}{σ:St}{H:Hp}{s:Shared}{a:Addr}{y:V}{o:Option V} (I:Inv X pins σ H s) (g:Hs H a y o):s.TypeIs (.ref a) "dict":=by
 rcases g with ⟨kvs,k,e,_,_⟩|⟨kvs,k,b,e,_,_,_⟩
 ·obtain ⟨_,_,vs,_,dd⟩:=Pg I.hok e
  exact dd.typeIs
 ·obtain ⟨_,_,xs,_,dd⟩:=Ph I.hok e
  exact dd.typeIs
noncomputable def jx (td ty:TE):TE:=fun σ H Q=>td σ H fun x H1=>ty σ H1 fun y H2=>∃a v,x = .ref a/\Hs H2 a y (some v)/\Q v H2
noncomputable def jy (ty td:TE):TE:=fun σ H Q=>ty σ H fun y H1=>td σ H1 fun x H2=>∃a o,x = .ref a/\Hs H2 a y o/\Q (.bl o.isSome) H2
noncomputable def fK (ty td:TE):TE:=fun σ H Q=>ty σ H fun y H1=>td σ H1 fun x H2=>∃a o,x = .ref a/\Hs H2 a y o/\Q (.bl (!o.isSome)) H2
noncomputable def gg (td ty tv:TE):TS:=fun D σ H=>tv σ H fun v H1=>td σ H1 fun x H2=>ty σ H2 fun y H3=>∃a H4,x = .ref a/\TF H3 a y v H4/\D.nx σ H4
section
variable {X:Cx}{o i e value:Expr}{pos pos' tpos:Pos}{td ty tv:TE}
theorem Zk (hu:X.A.units+1<cLine) (ho:PE X o td) (hi:PE X i ty) (hs:iP i):PE X (.Subscript o i pos) (jx td ty):=by
 intro pins s σ H Q I h
 refine fG PySem.F.slot_dict_getitem.lookup hs (thn (ho pins s σ H _ I h) fun u s1 ⟨x,H1,I1,rx,q1⟩=>thn (hi pins s1 σ H1 _ I1 q1) fun iv s2 ⟨y,H2,I2,ry,a,v,ex,g,q2⟩=>?_)
 subst ex
 obtain rfl:u=Value.ref a:=rx
 exact ⟨VI I2 g,ZJ hu I2 g ry fun w' s3 I3 rw'=>⟨v,H2,I3,rw',q2⟩⟩
theorem Yt (hu:X.A.units+1<cLine) (hi:PE X i ty) (ho:PE X o td):PC X .In i o (jy ty td):=by
 intro pins s σ H Q I h
 refine thn (hi pins s σ H _ I h) fun iv s1 ⟨y,H1,I1,ry,q1⟩=>thn (ho pins s1 σ H1 _ I1 q1) fun u s2 ⟨x,H2,I2,rx,a,ov,ex,g,q2⟩=>?_
 subst ex
 obtain rfl:u=Value.ref a:=rx
 exact jO hu I2 g ry fun s3 I3=>⟨.bl ov.isSome,H2,I3,rfl,q2⟩
theorem ay (hu:X.A.units+1<cLine) (hi:PE X i ty) (ho:PE X o td):PC X .NotIn i o (fK ty td):=by
 intro pins s σ H Q I h
 refine thn (hi pins s σ H _ I h) fun iv s1 ⟨y,H1,I1,ry,q1⟩=>thn (ho pins s1 σ H1 _ I1 q1) fun u s2 ⟨x,H2,I2,rx,a,ov,ex,g,q2⟩=>?_
 subst ex
 obtain rfl:u=Value.ref a:=rx
 exact eu hu I2 g ry fun s3 I3=>⟨.bl (!ov.isSome),H2,I3,rfl,q2⟩
theorem LA (hu:X.A.units+1<cLine) (ho:PE X o td) (hi:PE X i ty) (hv:PE X value tv) (hs:swapsWith value (some (.Subscript o i pos')) pos.line X.env=pure false) :
  PS X (.Assign [.Subscript o i pos'] value pos) (gg td ty tv):=by
 intro pins s σ H D I h
 refine wpAny_Assign_Subscript (thn (hv pins s σ H _ I h) fun r s1 ⟨v,H1,I1,rv,q1⟩=>thn (ho pins s1 σ H1 _ I1 q1) fun u s2 ⟨x,H2,I2,rx,q2⟩=>thn (hi pins s2 σ H2 _ I2 q2) fun iv s3 ⟨y,H3,I3,ry,a,H4,ex,g,q3⟩=>?_) hs
 subst ex
 obtain rfl:u=Value.ref a:=rx
 exact ZK hu I3 g ry rv fun s4 I4=>⟨σ,H4,I4,q3⟩
end
theorem bI {P:Program}{w:World}{H:Hp} (h:Heap) (hb:sysModules<h.objs.size):BH P w H (h.push { cls:=.type "dict",data:=.dict #[] }) h.objs.size (.dT []):=
 ⟨Nat.zero_le _,beq_eq_false_iff_ne.mpr (Ne.symm (Nat.ne_of_lt hb)),[],.nil,_,#[],0,Heap.get?_push_size _ rfl,⟨rfl,rfl,rfl⟩,rfl,rfl,List.nodup_nil⟩
noncomputable def iI:TE:=fun _ H Q=>∀p,H p=none->Q (.ref p) (upd H p (.dT []))
section
variable {X:Cx}{pos:Pos}
theorem Lx:PE X (.Dict [] [] pos) iI:=fun pins s σ H Q I h=>
 wpAny_Dict_empty ⟨.ref s.heap.objs.size,_,I.laid (a:=s.heap.objs.size) (o:=.dT []) (t':=s.toks) (fun _ _ q=>Heap.get?_push_of_some _ q) (Nat.le_refl _) (bI s.heap I.big),rfl,h _ (I.hok.fresh (Nat.le_refl _))⟩
end
structure M1 (X:Cx) (o:Expr) (m:Str) (apos:Pos) (e:Expr) (cpos:Pos):Prop where
 base:attributeBase o m X.env (eval o X.env)=eval o X.env
 few:((backTo cpos (starEach [e] X.env)).all (fun x=>!x.1)&&(backToKw cpos (keywordEach [] X.env)).all (fun x=>x.1.isSome)
  && decide (([e]:List Expr).length+([]:List Keyword).length+(if ([]:List Keyword).isEmpty then 0 else 1)<30))=true
 line:(apos.endLine==cpos.line)=true
 trees:backTo cpos (starEach [e] X.env)=[(false,eval e X.env)]
noncomputable def IsD (H:Hp) (a:Addr):Prop:=(∃kvs,Rd H a (.dK kvs))\/∃kvs,Rd H a (.dT kvs)
theorem gP {X:Cx}{pins:List (Addr×Obj)}{σ:St}{H:Hp}{s:Shared}{a:Addr} (I:Inv X pins σ H s) (d:IsD H a) :
  s.TypeIs (.ref a) "dict"/\(∀b,Value.ref a = .ref b->∃ob,s.heap.get? b=some ob/\ob.dict=none)/\(a==sysModules)=false:=by
 rcases d with ⟨kvs,e⟩|⟨kvs,e⟩
 ·obtain ⟨_,hd,vs,_,dd⟩:=Pg I.hok e
  refine ⟨dd.typeIs,fun b q=>?_,hd⟩
  cases q
  obtain ⟨ob,_,_,h1,h2,_⟩:=dd
  exact ⟨ob,h1,h2.2.1⟩
 ·obtain ⟨_,hd,xs,_,dd⟩:=Ph I.hok e
  refine ⟨dd.typeIs,fun b q=>?_,hd⟩
  cases q
  obtain ⟨ob,_,_,h1,h2,_⟩:=dd
  exact ⟨ob,h1,h2.2.1⟩
section
variable {X:Cx}{pins:List (Addr×Obj)}{σ:St}{H:Hp}{s:Shared}{a:Addr}{y d:V}{u r:Value}{o:Option V}{A:Around}{E:Value->Shared->Prop}
theorem gy {Q:Value->Shared->Prop} (hu:A.units+1<cLine) (I:Inv X pins σ H s) (g:Hs H a y o) (ry:RelV y u) (h:∀w' s',Inv X pins σ H s'->RelV (o.getD .non) w'->Q w' s') :
  wpAny (model X.prog X.w) A (call (.builtin "dict.get") [.ref a,u]) Q E s:=by
 rcases g with ⟨kvs,k,e,ey,l⟩|⟨kvs,k,b,e,ey,eb,l⟩
 ·subst ey
  obtain ⟨z,hd,vs,rel,dd⟩:=Pg I.hok e
  refine call_meetsIn PySem.F.slot_dict_get dd.typeIs PySem.F.entry_dict_get (PySem.F.args_dict_get_2 _ _) (meets_dict_get (Ce X.prog X.w) a (SQ ry) hd) ⟨_,dd.mapOf,h _ _ (I.tok _) ?_⟩
  rw[l]
  exact (rel.val k).getD rfl
 ·subst ey
  cases (show u=Value.ref b from ry)
  obtain ⟨z,hd,xs,rel,dd⟩:=Ph I.hok e
  refine call_meetsIn PySem.F.slot_dict_get dd.typeIs PySem.F.entry_dict_get (PySem.F.args_dict_get_2 _ _) (meetsH_dict_get (tupleKind (Ce X.prog X.w)) a b hd) ⟨tupleKind_room_in1 hu,k,xs,Mq I.hok eb,dd,h _ _ (I.tok _) ?_⟩
  rw[l]
  exact (rel.val k).getD rfl
end
noncomputable def dE (td ty:TE):TE:=fun σ H Q=>td σ H fun x H1=>∃a,x = .ref a/\IsD H1 a/\ty σ H1 fun y H2=>∃o,Hs H2 a y o/\Q (o.getD .non) H2
section
variable {X:Cx}{o e f:Expr}{apos cpos:Pos}{td ty tx:TE}
theorem cz (hu:X.A.units+1<cLine) (ho:PE X o td) (he:PE X e ty) (m:M1 X o "get" apos e cpos):PE X (.Call (.Attribute o "get" apos) [e] [] cpos) (dE td ty):=by
 intro pins s σ H Q I h
 refine wpAny_Call_method m.base m.few m.line PySem.F.plainAttrs_dict PySem.F.slot_dict_get PySem.F.type_dict_get (thn (ho pins s σ H _ I h) fun u s1 ⟨x,H1,I1,rx,a,ex,d,q1⟩=>?_)
 subst ex
 obtain rfl:u=Value.ref a:=rx
 obtain ⟨t1,t2,_⟩:=gP I1 d
 refine ⟨t1,t2,?_⟩
 rw[m.trees]
 refine Calls.callWith_builtin rfl (Calls.evalArgs_plain (Calls.spliced_cons (thn (he pins s1 σ H1 _ I1 q1) fun iv s2 ⟨y,H2,I2,ry,ov,g,q2⟩=>Calls.spliced_nil ?_)))
 exact gy hu I2 g ry fun w' s3 I3 rw'=>⟨_,H2,I3,rw',q2⟩
end
end L2
namespace L2
open PySem PySem.Spec PyProof.Rows
section
variable {X:Cx}{pins:List (Addr×Obj)}{σ:St}{H:Hp}{s:Shared}{h':Heap}
theorem Inv.Tt {t':Nat}{ch:List Addr}{T:Addr}{ob:HO} (I:Inv X pins σ H s) (k:∀b o,b∉ch->s.heap.get? b=some o->h'.get? b=some o) (hf:∀b∈ch,OU X pins H b) (hT:s.heap.objs.size<=T)
  (new:BH X.prog X.w (upd H T ob) h' T ob):Inv X pins σ (upd H T ob) { s with heap:=h',toks:=t' }:=by
 have hn:H T=none:=I.hok.fresh hT
 have nit:∀b u,H b=some u->b∉ch:=fun b u e z=>by
  have q:=(hf b z).1
  rw[q] at e;cases e
 refine I.step (g':=s.gens) (d':=s.drawn) (ch:=ch) (fun b hb=>⟨(hf b hb).2.2.2.1,(hf b hb).2.1,(hf b hb).2.2.2.2.1,(hf b hb).2.2.2.2.2⟩) (fun b o _ _ hc e _=>k b o hc e) (fun b o _ _ hc e _=>⟨o.slots,k b o hc e⟩)
  (fun b o _ e n=>?_) (fun b o hc e=>⟨o,k b o hc e⟩) (fun b xs e=>?_) (fun b o u e=>?_) (fun b ps e=>⟨#[],?_⟩) (fun m hm=>?_) (fun b u e=>?_) I.bare
 ·rw[Ai (Nat.ne_of_lt (Nat.lt_of_lt_of_le (Heap.lt_size e) hT))];exact n
 ·rw[Ai (An e hn)];exact e
 ·rw[Ai (An e hn)];exact e
 ·rw[Ai (An e hn),e];simp
 ·obtain ⟨o,es,ep,ho,r⟩:=hm
  exact ⟨o,es,ep,k _ o (fun z=>(hf _ z).2.1 rfl) ho,r⟩
 ·by_cases hb:b=T
  ·subst hb
   rw[Ae] at e
   cases e
   exact new
  ·rw[Ai hb] at e
   refine (I.hok b u e).Sr (fun c v hc q=>k c v ?_ q) (fun c q=>by rw[Ai (An q hn)];exact q) fun c xs q=>by rw[Ai (An q hn)];exact q
   rcases hc with z|z
   ·rw[z];exact nit b u e
   ·exact nit c _ z
end
section
variable {X:Cx}
theorem cE {tg:Expr}{pins:List (Addr×Obj)}{σ:St}{H:Hp}{s:Shared}{R:It->Hp->Prop}{J:It}{tn:Nat->Heap->Prop}{tk:Nat} (I:Inv X pins σ H s) (o:Obj)
  (T:Turn X.prog X.w X.K tg J [s.heap.objs.size] s.heap.objs.size tn) (st:tn 0 (s.heap.push o)) (q:R J H):PIE X pins σ tg R (.ref s.heap.objs.size) { s with heap:=s.heap.push o,toks:=tk }:=by
 refine ⟨s.heap.objs.size,[s.heap.objs.size],tn,J,H,rfl,I.kept fun b ob e=>Heap.get?_push_of_some _ e,T,st,fun b hb=>?_,q⟩
 have e:b=s.heap.objs.size:=by simpa using hb
 subst e
 exact I.XR (Nat.le_refl _) (I.hok.fresh (Nat.le_refl _))
end
noncomputable def Its (x:Str):It:=⟨fun i _=>i<x.cps.size,fun i H v H'=>H'=H/\∃c,x.cps[i]?=some c/\v = .str ⟨#[c]⟩,fun i _=>x.cps.size<=i⟩
theorem Xh {P:Program}{w:World}{K:PySem.W.Frag}{tg:Expr} (it:Addr) (x:Str) (t:Tok) (ty:String) (hty:ty="str_ascii_iterator"\/ty="str_iterator") :
  Turn P w K tg (Its x) [it] it (fun i h=>h.IsStrIter it ty x t i) where
 mem:=by simp
 obj:=fun i h st b hb=>by
  have e:b=it:=by simpa using hb
  subst e
  obtain ⟨o,e,c,d⟩:=st
  exact ⟨o,e,fun v z=>by rw[d] at z;cases z⟩
 keep:=fun i h h' st k=>let ⟨o,ho,r⟩:=st;⟨o,k it (by simp) o ho,r⟩
 item:=by
  intro X hP hw hK hc i pins s σ H E I hf st hg
  subst hP hw hK
  obtain ⟨f0,f1,f2,f3,f4,f5⟩:=hf it (by simp)
  have W:Walks X.prog X.w X.A it [it] [it] x.cps.size (SignAt x) (fun i h=>h.IsStrIter it ty x t i):=by
   rcases hty with e|e
   ·rw[e];exact Walks.strAscii (I.ok.hd hc) it x t
   ·rw[e];exact Walks.strWide (I.ok.hd hc) it x t
  have hno:["enumerate","zip","dict_itemiterator","dict_reverseitemiterator","odict_iterator","itertools.zip_longest","itertools.pairwise"].contains ty=false:=by
   rcases hty with e|e
   ·rw[e];decide
   ·rw[e];decide
  refine W.item i s _ _ hg st fun v h' tk hv st' kk=>?_
  obtain ⟨c,u,hcx,rfl⟩:=hv
  have I1:Inv X pins σ H { s with heap:=h',toks:=tk }:=I.turned (fun b o hb e=>kk b o (by simpa using hb) e) f0 f1 f3 f4 f5
  obtain ⟨oi,e,cc,dd⟩:=id st'
  exact ⟨_,rfl,Ze (s:={ s with heap:=h',toks:=tk }) e cc dd hno ⟨.str ⟨#[c]⟩,H,I1,⟨u,rfl⟩,⟨rfl,c,hcx,rfl⟩,st',fun b hb=>(hf b hb).1⟩⟩
 done:=by
  intro X hP hw hK hc i pins s σ H E I hf st hg
  subst hP hw hK
  obtain ⟨f0,f1,f2,f3,f4,f5⟩:=hf it (by simp)
  have hx:x.cps[i]?=none:=Array.getElem?_eq_none hg
  rcases hty with e|e
  ·rw[e] at st
   exact wpAny_pyNext_ascii_end (I.ok.hd hc) st hx fun h' eb=>⟨rfl,I.turned (t':=s.toks) (fun b o hb e=>eb b o hb e) f0 f1 f3 f4 f5⟩
  ·rw[e] at st
   exact wpAny_pyNext_wide_end (I.ok.hd hc) st hx fun h' eb=>⟨rfl,I.turned (t':=s.toks) (fun b o hb e=>eb b o hb e) f0 f1 f3 f4 f5⟩
 self:=fun A i s Q E st h=>by
  rcases hty with e|e
  ·rw[e] at st;exact wpAny_pyIter_striter_ascii st h
  ·rw[e] at st;exact wpAny_pyIter_striter_wide st h
noncomputable def jS (te:TE):TI:=fun σ H R=>te σ H fun v H1=>∃x,v = .str x/\R (Its x) H1
theorem cF {X:Cx}{tg e:Expr}{te:TE} (he:PE X e te):PI X tg e (jS te):=by
 intro pins s σ H R I h
 refine thn (he pins s σ H _ I h) fun v s1 ⟨y,H1,I1,r1,x,ex,q⟩=>?_
 subst ex
 obtain ⟨t,rfl⟩:=r1
 cases ha:x.cps.all (· < 128)
 ·exact wpAny_pyIter_wide ha (cE (tk:=s1.toks) I1 _ (Xh _ x t "str_iterator" (.inr rfl)) ⟨_,Heap.get?_push_size _ rfl,rfl,rfl⟩ q)
 ·exact wpAny_pyIter_ascii ha (cE (tk:=s1.toks) I1 _ (Xh _ x t "str_ascii_iterator" (.inl rfl)) ⟨_,Heap.get?_push_size _ rfl,rfl,rfl⟩ q)
noncomputable def Ite (K:PySem.W.Frag) (a:Addr):It:=
 ⟨fun i H=>∃(xs:List V) (x:V),SqL K H a xs/\xs[i]?=some x,fun i H v H'=>∃T x,v = .ref T/\H T=none/\H'=upd H T (.tup [.int (i:Nat),x])/\∀xs,SqL K H a xs->xs[i]?=some x,fun i H=>∃xs:List V,SqL K H a xs/\xs.length<=i⟩
theorem aX {P:Program}{w:World}{K:PySem.W.Frag}{elts:List Expr}{kk:Nat}{tpos:Pos} (a e it:Addr) :
  Turn P w K (.Tuple elts kk tpos) (Ite K a) [e,it] e (fun i h=>(∃old,IsEnum h e it ((i:Nat):Int) old)/\h.IsListIter it a i/\e≠it) where
 mem:=by simp
 obj:=fun i h st b hb=>by
  obtain ⟨⟨old,he⟩,⟨o,ho,hc,hd⟩,_⟩:=st
  have e':b=e\/b=it:=by simpa using hb
  rcases e' with z|z
  ·rw[z];exact ⟨_,he,fun v q=>nomatch q⟩
  ·rw[z];exact ⟨o,ho,fun v q=>by rw[hd] at q;cases q⟩
 keep:=fun i h h' st k=>let ⟨⟨old,he⟩,hi,hne⟩:=st;⟨⟨old,k e (by simp) _ he⟩,hi.at fun o q=>k it (by simp) o q,hne⟩
 item:=by
  intro X hP hw hK hc i pins s σ H E I hf st hg
  subst hP hw hK
  obtain ⟨⟨old,he⟩,hit,hne⟩:=st
  obtain ⟨xs,x,hq,hx⟩:=hg
  obtain ⟨its,rv,p,hz⟩:=I.list hq
  obtain ⟨u,hu,ru⟩:=rv.get hx
  have hel:e<s.heap.objs.size:=Heap.lt_size he
  have hil:it<s.heap.objs.size:=by obtain ⟨_,q,_⟩:=hit;exact Heap.lt_size q
  refine wpAny_pyNext_enum_item he hit p.isList (x:=u) (by simpa using hu) hne fun h' ho hit' hT hsz hk=>?_
  refine ⟨_,rfl,wpAny_letOwnedTupleGo_enum (s:={ s with heap:=h',toks:=s.toks+1 }) ho fun h'' he' sb=>?_⟩
  have hT2:h''.get? s.heap.objs.size=some { cls:=.type "tuple",data:=.seq #[.int i s.toks,u] }:=(sb.2 _ (Nat.ne_of_gt hel)).trans hT
  have new:BH X.prog X.w (upd H s.heap.objs.size (.tup [.int (i:Nat),x])) h'' s.heap.objs.size (.tup [.int (i:Nat),x]):=
   ⟨by show 2<=sizeLine;decide,[.int i s.toks,u],.cons ⟨_,rfl⟩ (.cons ru .nil),⟨_,hT2,rfl,_,rfl⟩⟩
  have I1:Inv X pins σ (upd H s.heap.objs.size (.tup [.int (i:Nat),x])) { s with heap:=h'',toks:=s.toks+1 }:=
   I.Tt (ch:=[e,it]) (fun b ob hb q=>(sb.2 b (fun z=>hb (by simp[z]))).trans (hk b ob (fun z=>hb (by simp[z])) (fun z=>hb (by simp[z])) q)) hf (Nat.le_refl _) new
  refine ⟨.ref s.heap.objs.size,_,I1,rfl,⟨_,x,rfl,I.hok.fresh (Nat.le_refl _),rfl,fun ys hy=>by rw[I.PV hy hq];exact hx⟩,⟨⟨u,?_⟩,hit'.at fun o q=>(sb.2 it (Ne.symm hne)).trans q,hne⟩,fun b hb=>?_⟩
  ·have e1:((i+1:Nat):Int)=(i:Int)+1:=by omega
   rw[e1];exact he'
  ·have hb':b<s.heap.objs.size:=by
    have e':b=e\/b=it:=by simpa using hb
    rcases e' with z|z
    ·rw[z];exact hel
    ·rw[z];exact hil
   rw[Ai (Nat.ne_of_lt hb')]
   exact (hf b hb).1
 done:=by
  intro X hP hw hK hc i pins s σ H E I hf st hg
  subst hP hw hK
  obtain ⟨⟨old,he⟩,hit,hne⟩:=st
  obtain ⟨xs,hq,hx⟩:=hg
  obtain ⟨its,rv,p,hz⟩:=I.list hq
  obtain ⟨f0,f1,f2,f3,f4,f5⟩:=hf it (by simp)
  have hl:=rv.length
  exact wpAny_pyNext_enum_end (I.ok.hd hc) he hit p.isList (by simp;omega) fun h' eb=>⟨rfl,I.turned (t':=s.toks) (fun b o hb q=>eb b o hb q) f0 f1 f3 f4 f5⟩
 self:=fun A i s Q E st h=>let ⟨⟨_,he⟩,_⟩:=st;wpAny_pyIter_enum he h
noncomputable def ja (K:PySem.W.Frag) (ta:TA):TI:=fun σ H R=>ta σ H fun vs H1=>∃a xs,vs=[.ref a]/\SqL K H1 a xs/\R (Ite K a) H1
theorem UZ {X:Cx}{e:Expr}{ta:TA}{p pos tpos:Pos}{elts:List Expr}{kk:Nat} (hg:Gl X "enumerate") (hm:X.mg "enumerate" = none) (ha:PA X [e] ta) (hs:starEach [e] X.env=[(false,eval e X.env)]:=by rfl) :
  PI X (.Tuple elts kk tpos) (.Call (.Name "enumerate" p) [e] [] pos) (ja X.K ta):=by
 intro pins s σ H R I h
 refine Call_ (Mr I hg hm boot_enumerate (PyProof.Rows.callWith_type1 (thn (ha pos pins s σ H _ I h) fun us s1 ⟨vs,H1,I1,r1,q1⟩=>?_) hs rfl))
 obtain ⟨a,xs,ex,hq,q⟩:=q1
 subst ex
 cases r1 with
 |cons r rr=>
  cases rr
  cases r
  obtain ⟨its,rv,p',hz⟩:=I1.list hq
  refine call_enumerate_list p'.isList fun h' he hit hsz hk=>wpAny_pyIter_enum he ?_
  have I2:Inv X pins σ H1 { s1 with heap:=h' }:=I1.kept (t':=s1.toks) hk
  refine ⟨s1.heap.objs.size+1,[s1.heap.objs.size+1,s1.heap.objs.size],_,_,H1,rfl,I2,aX a (s1.heap.objs.size+1) s1.heap.objs.size,⟨⟨.none,he⟩,hit,Nat.succ_ne_self _⟩,fun b hb=>?_,q⟩
  have e':b=s1.heap.objs.size+1\/b=s1.heap.objs.size:=by simpa using hb
  have hle:s1.heap.objs.size<=b:=by
   rcases e' with z|z
   ·rw[z];exact Nat.le_add_right _ _
   ·rw[z];exact Nat.le_refl _
  exact I1.XR hle (I1.hok.fresh hle)
end L2
section
namespace TL
open PySem PySem.Builtin PySem.Builtin.Str PySem.StrLaws
noncomputable def pre (S l:List Nat):Bool:=l.take S.length==S
noncomputable def par (S:List Nat):List Nat->List Nat->Option (List Nat×List Nat)
 |_,[]=>none
 |acc,c::r=>if pre S (c::r)=true then some (acc,(c::r).drop S.length) else par S (acc++[c]) r
end TL
end
namespace L2
open PySem PySem.Spec PyProof.Rows
theorem GH:∀{ys:List Str}{us:List Value},Vals (ys.map V.str) us->StrsAre us ys
 |[],_,.nil=>.nil
 |y::ys,_,.cons r t=>by
  obtain ⟨k,rfl⟩:=r
  exact .cons y k (GH t)
section
variable {X:Cx}
theorem eO:MtR X "str.join" (fun x xs H Q=>∃a p,∃ys:List Str,x = .str a/\xs=[.ref p]/\(SqL X.K H p (ys.map V.str)\/SqT X.K H p (ys.map V.str)) /\
  (ys.map (·.length)).sum+ys.length*a.length<=16777216/\Q (.str (Txt.join a ys)) H):=by
 intro pins s σ H x xs v us Q I rx rs h
 obtain ⟨a,p,ys,rfl,rfl,hp,hz,h⟩:=h
 obtain ⟨t,rfl⟩:=rx
 cases rs with
 |cons r1 rs=>
  cases rs
  cases r1
  rcases hp with hp|hp
  ·obtain ⟨its,r,⟨o,n,ho,hc,_,hd⟩,_⟩:=I.list hp
   exact PyProof.Rows.join_list (items:=its.toArray) ⟨o,ho,hc,n,hd⟩ (by rw[List.toList_toArray];exact GH r) hz fun t' k=>⟨.str _,H,I.tok k,⟨t',rfl⟩,h⟩
  ·obtain ⟨its,r,ht,_⟩:=I.tuple hp
   exact PyProof.Rows.join_tuple (items:=its.toArray) ht (by rw[List.toList_toArray];exact GH r) hz fun t' k=>⟨.str _,H,I.tok k,⟨t',rfl⟩,h⟩
end
section
variable {X:Cx}{o e:Expr}{to te:TE}
noncomputable def tM1 (r:V->List V->Hp->VK->Prop) (to te:TE):TE:=fun σ H Q=>to σ H fun x H1=>(∃a,x = .str a)/\te σ H1 fun y H2=>r x [y] H2 Q
theorem cA {id:String}{name:Str}{apos pos:Pos}{r:V->List V->Hp->VK->Prop} (slot:Slot "str" name id) (ty:typeOf (.builtin id)=pure (.type "method_descriptor")) (rule:MtR X id r) (ho:PE X o to) (he:PE X e te)
  (hs:starEach [e] X.env=[(false,eval e X.env)]:=by rfl) (hbase:attributeBase o name X.env (eval o X.env)=eval o X.env:=by rfl) (hline:(apos.endLine==pos.line)=true:=by rfl) :
  PE X (.Call (.Attribute o name apos) [e] [] pos) (tM1 r to te):=by
 intro pins s σ H Q I h
 refine PySem.Call_method1 hbase hs hline (thn (ho pins s σ H _ I h) fun v s1 ⟨x,H1,I1,r1,q1⟩=>?_)
 obtain ⟨⟨a,rfl⟩,q1⟩:=q1
 obtain ⟨t,rfl⟩:=_root_.id r1
 refine ⟨"str",_,F.plainAttrs_str,slot,ty,typeIs_str _ _ _,(fun _ e=>nomatch e),Calls.callWith_builtin rfl (Calls.evalArgs_plain (Calls.spliced_cons ?_))⟩
 exact thn (he pins s1 σ H1 _ I1 q1) fun u s2 ⟨y,H2,I2,r2,q2⟩=>Calls.spliced_nil (rule pins s2 σ H2 _ [y] _ [u] Q I2 r1 (.cons r2 .nil) q2)
theorem eV {apos pos:Pos} (ho:PE X o to) (he:PE X e te) (hs:starEach [e] X.env=[(false,eval e X.env)]:=by rfl) (hbase:attributeBase o "join" X.env (eval o X.env)=eval o X.env:=by rfl) (hline:(apos.endLine==pos.line)=true:=by rfl) :
  PE X (.Call (.Attribute o "join" apos) [e] [] pos) (tM1 (fun x xs H Q=>∃a p,∃ys:List Str,x = .str a/\xs=[.ref p]/\(SqL X.K H p (ys.map V.str)\/SqT X.K H p (ys.map V.str)) /\
   (ys.map (·.length)).sum+ys.length*a.length<=16777216/\Q (.str (Txt.join a ys)) H) to te):=
 cA F.slot_str_join F.type_str_join eO ho he hs hbase hline
end
end L2
namespace L2
open PySem PySem.Spec PyProof.Rows
noncomputable def inClass (s:Stmt) (j:Nat):Stmt:=match s with
 |.ClassDef _ _ _ body _ _ _ _ _ _ _=>body.getD j (.Pass ⟨0,0,0,0⟩)
 |_=>.Pass ⟨0,0,0,0⟩
noncomputable def EB (s:Stmt):Arguments:=match s with
 |.FunctionDef _ a _ _ _ _ _ _ _ _=>a
 |_=>{ posonlyargs:=[],args:=[],vararg:=none,kwonlyargs:=[],kw_defaults:=[],kwarg:=none,defaults:=[] }
noncomputable def Cn (s:Stmt):List Stmt:=match s with
 |.FunctionDef _ _ b _ _ _ _ _ _ _=>b
 |_=>[]
noncomputable def Ah (s:Stmt):Scope:=match s with
 |.FunctionDef _ _ _ _ _ _ sc _ _ _=>sc
 |_=>{ kind:=.function,names:=[],isGenerator:=false,isCoroutine:=false }
noncomputable abbrev CX0:CXT:=fun _ _ _ _ _ _=>False
noncomputable abbrev E0:XK:=fun _ _ _=>False
structure Fun (K:PySem.W.Frag) (x qual:Str) (st:Stmt) (f:Addr) (fd:FuncData):Prop where
 ex:∃(oc:Value) (od:Option Addr) (kV doc pm:Value) (an:Option Addr) (cdv ct:Value) (osl:Array (Option Value)),
  fd=PySem.W.fnOf x qual (EB st) (Cn st) (Ah st) .none kV doc pm an cdv ct/\K.lookup f=some ⟨oc,od,.func fd,osl⟩/\PySem.W.codeIn K cdv qual=true
 kp:PySem.W.keepIn K (.ref f)=true
section
variable {P:Program}{w:World}{K:PySem.W.Frag}{mg:Str->Option Value}{base:Heap}
theorem Fun.ok {x qual:Str}{st:Stmt}{f:Addr}{fd:FuncData}{N ps:List Str}{k:Nat}{sp:Sp} (F:Fun K x qual st f fd) (S:Am N ps (Ah st)) (len:∀vs H Q E,sp vs H Q E->vs.length=ps.length)
  (hbody:∀(cdv:Value) (A:Around) (outer:List Env) (s:Shared) (H:Hp) (vs:List V) (Q:VK) (E:XK),Cm k (A.deeper (envOfC qual (Ah st) s.heap.objs.size f cdv))->sp vs H Q E ->
   ∃t,PSs (EN CX0 P w K mg base N qual (Ah st) f cdv A outer s H E).nox (Cn st) t/\t { nx:=fun _ H'=>Q .non H',rt:=Q } (start N vs) H):FD P w K mg base CX0 (k+1) f fd ps sp:=by
 obtain ⟨oc,od,kV,doc,pm,an,cdv,ct,osl,rfl,lk,hcd⟩:=F.ex
 refine fV lk hcd S len fun A outer s H vs Q E hr hsp=>?_
 obtain ⟨t,h,q⟩:=hbody cdv A outer s H vs Q E hr hsp
 exact ⟨t,h.nox,q⟩
theorem Fun.binds {x qual:Str}{st:Stmt}{f:Addr}{fd:FuncData}{ps:List Str} (F:Fun K x qual st f fd)
  (h:∀(kV doc pm:Value) (an:Option Addr) (cdv ct:Value) (us:List Value),us.length=ps.length->bindArgs (PySem.W.fnOf x qual (EB st) (Cn st) (Ah st) .none kV doc pm an cdv ct) ⟨us,[]⟩=pure (ps.zip us)):Binds K fd ps []:=by
 obtain ⟨oc,od,kV,doc,pm,an,cdv,ct,osl,rfl,lk,hcd⟩:=F.ex
 exact .all (h kV doc pm an cdv ct)
theorem Uo {x qual:Str}{st:Stmt}{f:Addr}{oc:Value}{od an:Option Addr}{osl:Array (Option Value)}{kV doc pm cdv ct:Value} (l:K.lookup f=some ⟨oc,od,.func (PySem.W.fnOf x qual (EB st) (Cn st) (Ah st) .none kV doc pm an cdv ct),osl⟩)
  (c:PySem.W.codeIn K cdv qual=true) (k:PySem.W.keepIn K (.ref f)=true):Fun K x qual st f (PySem.W.fnOf x qual (EB st) (Cn st) (Ah st) .none kV doc pm an cdv ct):=⟨⟨oc,od,kV,doc,pm,an,cdv,ct,osl,rfl,l,c⟩,k⟩
end
theorem GR {A:Around}{k:Nat} (hr:Cm k A):A.units+1<cLine:=Nat.lt_of_le_of_lt (Nat.add_le_add_left (by decide:1<=64) _) hr.units
section
variable {X:Cx}
theorem pv (i:Nat) {x:Str}{pos:Pos} (hN:X.N[i]?=some x:=by rfl) (hv:Vis X.env.scope x:=by first|exact Or.inl rfl|exact Or.inr (Or.inl rfl)|exact Or.inr (Or.inr rfl)) (hd:(x==("__debug__":Str))=false:=by decide)
  (hcd:(x==("__classdict__":Str))=false:=by decide):PE X (.Name x pos) (AW i):=ij hN hv hd hcd
end
theorem Bw {A B:Prop} (h:B):if false=true then A else B:=by
 rw[if_neg Bool.false_ne_true]
 exact h
theorem Bx {A B:Prop} (h:A):if true=true then A else B:=by
 rw[if_pos rfl]
 exact h
theorem Bn {c A B:Prop} [Decidable c] (h1:c->A) (h2:¬c->B):if c then A else B:=by
 by_cases h:c
 ·rw[if_pos h]
  exact h1 h
 ·rw[if_neg h]
  exact h2 h
theorem at_of {xs:List V}{z:Int}{j:Nat}{v:V} (e:z=(j:Int)) (h:xs[j]?=some v):atI xs z=some v:=by
 rw[e]
 exact AK h
end L2
namespace L2
open PySem PySem.Spec PyProof.Rows
noncomputable def bX:Value->Bool
 |.str _ _=>true
 |_=>false
structure XC (K:PySem.W.Frag) (C fI:Addr):Prop where
 obj:∃(nm q:Str) (N:Addr) (bs:List Value) (sn:List Str) (sub:List Value) (ab:Bool) (col:Option Bool) (dd:Option Addr) (k0 k1 k2 k3 k5:Option Value) (oc:Value) (od:Option Addr) (es:Array DictEntry) (en:Nat) (sl:Array (Option Value)),
  K.lookup C=some (excClassObj nm q C N bs Fs true sn sub ab col dd k0 k1 k2 k3 k5 "Exception.__new__")/\K.lookup N=some ⟨oc,od,.dict es en,sl⟩/\(es.toList.all fun e=>bX e.key)=true /\
  (["kind","place","__setattr__","__getattribute__","__getattr__"]:List Str).all (fun n=>(nsFind es n).isNone)=true
 init:PySem.W.findIn K (.ref C) "__init__" = some (some (.ref fI))
 fn:PySem.W.isFn K (.ref fI)=true
 kp:PySem.W.keepIn K (.ref C)=true
structure XH (h:Heap) (C:Addr) (nm q:Str) (N:Addr) (bs:List Value) (sn:List Str) (sub:List Value) (ab:Bool) (col:Option Bool) (dd:Option Addr) (k0 k1 k2 k3 k5:Option Value) (mN:Str->Option Value):Prop where
 cls:h.get? C=some (excClassObj nm q C N bs Fs true sn sub ab col dd k0 k1 k2 k3 k5 "Exception.__new__")
 ns:h.Ns N mN
 no:∀n∈(["kind","place","__setattr__","__getattribute__","__getattr__"]:List Str),mN n=none
theorem XC.at {K:PySem.W.Frag}{C fI:Addr} (c:XC K C fI) {h:Heap} (X:K.In h):∃nm q N bs sn sub ab col dd k0 k1 k2 k3 k5 mN,XH h C nm q N bs sn sub ab col dd k0 k1 k2 k3 k5 mN:=by
 obtain ⟨nm,q,N,bs,sn,sub,ab,col,dd,k0,k1,k2,k3,k5,oc,od,es,en,sl,h1,h2,h3,h4⟩:=c.obj
 refine ⟨nm,q,N,bs,sn,sub,ab,col,dd,k0,k1,k2,k3,k5,nsFind es,X _ _ h1,⟨_,es,en,X _ _ h2,rfl,fun e he=>?_,fun _=>rfl⟩,fun n hn=>?_⟩
 ·have:=List.all_eq_true.mp h3 e (Array.mem_toList_iff.mpr he)
  cases q:e.key with
  |str n t=>exact ⟨n,t,rfl⟩
  |_=>rw[q] at this;cases this
 ·exact Option.isNone_iff_eq_none.mp (List.all_eq_true.mp h4 n hn)
noncomputable def xo (C:Addr) (d:Option Addr) (a:Addr):HO:=.ext fun h=>∃a0,h.get? a=some ⟨.ref C,d,.fields #[.ref a0,.none,.none,.none,.bool false,.none],#[]⟩
noncomputable def IP (fs:List (Str×V)) (a:Addr):HO:=.ext fun h=>∃mA,h.Ns1 a mA/\(∀f,Fg (fs.lookup f) (mA f))/\PySem.Within mA (fs.map (·.1))
section
variable {P:Program}{w:World}{H:Hp}{h:Heap}{a C:Addr}{d:Option Addr}{fs:List (Str×V)}
theorem dJ {a0:Addr} (e:h.get? a=some ⟨.ref C,d,.fields #[.ref a0,.none,.none,.none,.bool false,.none],#[]⟩):BH P w H h a (xo C d a):=
 ⟨⟨a0,e⟩,⟨_,e⟩,fun h1 h2 ⟨z,q⟩ k=>⟨z,k _ q⟩⟩
theorem Vr (x:BH P w H h a (xo C d a)):∃a0,h.get? a=some ⟨.ref C,d,.fields #[.ref a0,.none,.none,.none,.bool false,.none],#[]⟩:=x.1
theorem Xo {mA:Str->Option Value} (n:h.Ns1 a mA) (r:∀f,Fg (fs.lookup f) (mA f)) (wi:PySem.Within mA (fs.map (·.1))):BH P w H h a (IP fs a):=by
 refine ⟨⟨mA,n,r,wi⟩,?_,fun h1 h2 ⟨m,n1,r1,w1⟩ k=>⟨m,n1.at fun o q=>k o q,r1,w1⟩⟩
 obtain ⟨o,_,_,e,_⟩:=n
 exact ⟨o,e⟩
theorem TB (x:BH P w H h a (IP fs a)):∃mA,h.Ns1 a mA/\(∀f,Fg (fs.lookup f) (mA f))/\PySem.Within mA (fs.map (·.1)):=x.1
end
noncomputable def Su (H:Hp) (a:Addr):Hp:=fun b=>if b=a then none else H b
theorem OS {H:Hp}{a b:Addr} (h:b≠a):Su H a b=H b:=by unfold Su;rw[if_neg h]
theorem MM {H:Hp}{a:Addr}:Su H a a=none:=by unfold Su;rw[if_pos rfl]
section
variable {X:Cx}{pins:List (Addr×Obj)}{σ:St}{H:Hp}{s:Shared}{a:Addr}{φ:Heap->Prop}
theorem Inv.Su (I:Inv X pins σ H s) (e:H a=some (.ext φ)):Inv X pins σ (Su H a) s:=by
 have nn:∀b,H b=none->L2.Su H a b=none:=fun b n=>by
  by_cases q:b=a
  ·rw[q];exact MM
  ·rw[OS q];exact n
 have ns:∀b o,H b=some o->(∀ψ,o≠.ext ψ)->L2.Su H a b=some o:=fun b o q n=>by
  rw[OS fun z=>?_]
  ·exact q
  ·rw[z,e] at q;cases q;exact n _ rfl
 refine ⟨I.ok,I.os,I.bare,⟨I.base.keep,I.base.slot,fun b o q n hx=>nn b (I.base.free b o q n hx),I.base.there,fun b xs q=>ns b _ (I.base.Rp b xs q) (fun _ z=>nomatch z),fun b o u q=>ns b _ (I.base.Of b o u q) (fun _ z=>nomatch z),fun b ps q=>?_⟩,
  I.loc,I.cell,nn _ I.free,fun x c q=>nn c (I.ER x c q),fun p hp=>?_,fun b o q=>?_,I.len⟩
 ·obtain ⟨more,z⟩:=I.base.Rn b ps q
  exact ⟨more,ns b _ z fun _ z=>nomatch z⟩
 ·obtain ⟨h1,h2,h3⟩:=I.pin p hp
  exact ⟨h1,nn _ h2,h3⟩
 ·by_cases hb:b=a
  ·rw[hb,MM] at q;cases q
  ·rw[OS hb] at q
   exact (I.hok b o q).Sr (fun _ _ _ z=>z) (fun c z=>ns c _ z fun _ z=>nomatch z) fun c xs z=>ns c _ z fun _ z=>nomatch z
end
noncomputable def CXF (C:Addr) (P:Program) (w:World):CXT:=fun outer H s E e s'=>∃(ea:Addr) (oe:Obj) (vs:Array Value) (T dx:Addr) (H':Hp),e = .ref ea/\s'.os=s.os/\AllBare s'.gens/\Un (frs outer) [] H H' s.heap s'.heap/\HOk P w H' s'.heap /\
 s.heap.objs.size<=ea/\H' ea=none/\H' T=none/\oe.cls = .ref C/\oe.dict=some dx/\s'.heap.Fly ea oe vs s.heap.objs.size T .none/\E (.ref C) (some dx) H'
theorem HOk.eff {P:Program}{w:World}{H:Hp}{h h':Heap}{fs ch:List Addr} (x:HOk P w H h) (y:Heap.Eff fs ch h h') (h1:∀b∈fs,H b=none) (h2:∀b∈ch,H b=none):HOk P w H h':=fun b o e=>by
 refine (x b o e).Sr (fun c u hc q=>y.keep c u (fun z=>?_) (fun z=>?_) q) (fun _ q=>q) fun _ _ q=>q
 ·rcases hc with rfl|hc
  ·rw[h1 _ z] at e;cases e
  ·rw[h1 _ z] at hc;cases hc
 ·rcases hc with rfl|hc
  ·rw[h2 _ z] at e;cases e
  ·rw[h2 _ z] at hc;cases hc
section
variable {C:Addr}{P:Program}{w:World}{K:PySem.W.Frag}{mg:Str->Option Value}{base:Heap}{N:List Str}{qual:Str}{scope:Scope}{f:Addr}{cd:Value}{A:Around}{outer:List Env}{s:Shared}{H:Hp}{E:XK}
theorem Zd {pins:List (Addr×Obj)}{σ:St}{H':Hp}{s':Shared}{ea dx:Addr}{oe:Obj}{vs:Array Value} (I:Inv (EN (CXF C P w) P w K mg base N qual scope f cd A outer s H E) pins σ H' s')
  (hea:s.heap.objs.size<=ea) (nea:H' ea=none) (hc:oe.cls = .ref C) (hdx:oe.dict=some dx) (hE:E (.ref C) (some dx) H')
  (hx:(s'.heap.get? ea=some oe/\oe.data = .fields vs/\vs[1]?=some .none)\/∃T,H' T=none/\s'.heap.Fly ea oe vs s.heap.objs.size T .none) :
  (EN (CXF C P w) P w K mg base N qual scope f cd A outer s H E).xe (.ref ea) s':=by
 have hfr:=I.ok.frames
 have hst:=I.stack
 have hfree:=I.OR
 have hsz:s.heap.objs.size<=s'.heap.objs.size:=I.sz
 have un:Un (frs outer) [] H H' s.heap s'.heap:=I.base
 have fin:∀(h':Heap) (T':Addr) (ch:List Addr) (vs':Array Value),(∀b∈ch,s.heap.objs.size<=b/\H' b=none)->Heap.Eff (frs (envOfC qual scope s.heap.objs.size f cd::outer)) ch s'.heap h' ->
   Heap.Fly h' ea { oe with data:=.fields vs' } vs' s'.heap.objs.size T' .none->CXF C P w outer H s E (.ref ea) { s' with heap:=h' }:=by
  intro h' T' ch vs' hch ef fl
  have nch:∀b o,s.heap.get? b=some o->b∉ch:=fun b o q z=>absurd (Nat.lt_of_lt_of_le (Heap.lt_size q) (hch b z).1) (Nat.lt_irrefl _)
  have nfr:∀b o,s.heap.get? b=some o->b∉frs outer->b∉frs (envOfC qual scope s.heap.objs.size f cd::outer):=fun b o q n z=>by
   rcases List.mem_cons.mp (show b∈s.heap.objs.size::frs outer from z) with z|z
   ·rw[z] at q;exact absurd (Heap.lt_size q) (Nat.lt_irrefl _)
   ·exact n z
  refine ⟨ea,{ oe with data:=.fields vs' },vs',T',dx,H',rfl,I.os,I.bare,⟨fun b o q n hb hx=>ef.keep b o (nfr b o q hb) (nch b o q) (un.keep b o q n hb hx),fun b o q n hb hx=>?_,un.free,fun b o q hx=>?_,un.Rp,un.Of,un.Rn⟩,
   I.hok.eff ef hfree fun b z=>(hch b z).2,hea,nea,I.hok.fresh fl.new,hc,hdx,⟨fl.at_,fl.data,fl.one,fl.ne,Nat.le_trans hsz fl.new,fl.tb⟩,hE⟩
  ·obtain ⟨sl,q1⟩:=un.slot b o q n hb hx
   obtain ⟨sl2,q2⟩:=ef.slot b _ (nch b o q) q1
   exact ⟨sl2,q2⟩
  ·obtain ⟨o1,q1⟩:=un.there b o q hx
   exact ef.there b o1 q1
 rcases hx with ⟨h1,h2,h3⟩|⟨T,hT,fl⟩
 ·exact Wf (n:=s'.heap.objs.size) hfr hst rfl h1 h2 h3 (Nat.le_refl _) fun h' T' ef fl=>fin h' T' [ea] _ (fun b z=>by rw[List.mem_singleton] at z;rw[z];exact ⟨hea,nea⟩) ef fl
 ·refine XW (n:=s'.heap.objs.size) hfr hst rfl fl (Nat.le_refl _) fun h' T' ef fl'=>fin h' T' [ea,T] _ (fun b z=>?_) ef fl'
  rcases List.mem_cons.mp z with z|z
  ·rw[z];exact ⟨hea,nea⟩
  ·rw[List.mem_singleton] at z;rw[z];exact ⟨fl.new,hT⟩
theorem Ak:Passes (CXF C P w) (EN (CXF C P w) P w K mg base N qual scope f cd A outer s H E) E:=by
 intro pins σ H1 s1 e s' I hx
 obtain ⟨ea,oe,vs,T,dx,H',rfl,ho,hb,un,hok,h1,h2,h3,h4,h5,fl,hE⟩:=hx
 have I':=I.bB ho un hok hb fun b z=>absurd z (by simp)
 have hsz:s.heap.objs.size<=s1.heap.objs.size:=I.sz
 exact Zd I' (Nat.le_trans hsz h1) h2 h4 h5 hE (.inr ⟨T,h3,⟨fl.at_,fl.data,fl.one,fl.ne,Nat.le_trans hsz fl.new,fl.tb⟩⟩)
end
end L2
namespace PySem
open Sem (wp)
open PySem.W (Looks InitBack)
section
variable {prog:Program}{w:World}{A:Around}{E:Value->Shared->Prop}{h:Heap}{g:Array GenState}{d:Drawn}{t:Nat}{os:OsState}{R:Result->Shared->Prop}
variable {nm q:Str}{C N:Addr}{bs:List Value}{sn:List Str}{sub:List Value}{ab:Bool}{col:Option Bool}{dd:Option Addr}{k0 k1 k2 k3 k5:Option Value}
noncomputable abbrev Ej (rest:List Value):Obj:={ cls:=.type "tuple",data:=.seq rest.toArray }
noncomputable abbrev FG (C t:Addr):Obj:={ cls:=.ref C,data:=.fields #[.ref t,.none,.none,.none,.bool false,.none] }
theorem bP {rest:List Value}{fI:Addr} (hC:h.get? C=some (excClassObj nm q C N bs Fs true sn sub ab col dd k0 k1 k2 k3 k5 "Exception.__new__"))
  (hi:Looks (model prog w) h (typeLookup (.ref C) "__init__") (some (.ref fI))) (hb:∀self,Looks (model prog w) h (bindSpecial (.ref fI) self) (.ref fI,[self])) (hl:rest.length<=sizeLine)
  (hq:codeAny (model prog w) (A.under (.builtin "type.__call__" ⟨.ref C::rest,[]⟩)) (.call (.ref fI) ⟨.ref (h.objs.size+1)::rest,[]⟩) (InitBack (h.objs.size+1) R) ⟨(h.push (Ej rest)).push (FG C h.objs.size),g,d,t,os⟩) :
  codeAny (model prog w) A (.call (.ref C) ⟨rest,[]⟩) R ⟨h,g,d,t,os⟩:=by
 have F:=PySem.F.excBase_Exception
 have f1:=tc_lookup
 have f2:=tc_bind (.ref C)
 have hT:(⟨h,g,d,t,os⟩:Shared).TypeIs (.ref C) "type":=⟨_,hC,rfl⟩
 refine codeAny_of_tree ?_
 show wpAny _ _ (callAny (.ref C) _) _ _ _
 repeat (any_goals (first|assumption|with_reducible refine wpAny_loadPart_at hC ?_|wp_step))
 refine ⟨rfl,?_⟩
 refine codeAny_call_builtin_at (Code.quiet_builtin _ (by decide +kernel)) entry_typeCall (wpAny_check_type_call_sub hC ?_)
 repeat (first|with_reducible refine wpAny_loadPart_at hC ?_|with_reducible refine wpAny_madeBy_exc hC ?_|wp_step)
 refine codeAny_call_builtin_code (Code.quiet_builtin _ F.quiet) (wpAny_check_new_sub F hC ?_)
 refine codeAny_exc_new_sub F hC ?_ hl
 show wpAny _ _ _ _ _ _
 have k:∀b o,h.get? b=some o->((h.push (Ej rest)).push (FG C h.objs.size)).get? b=some o:=fun b o e=>Heap.get?_push_of_some _ (Heap.get?_push_of_some _ e)
 have hC2:=k _ _ hC
 have hget:((h.push (Ej rest)).push (FG C h.objs.size)).get? (h.objs.size+1)=some (FG C h.objs.size):=by heap_get
 have hcC:(Value.ref C::Fs).contains (.ref C)=true:=by simp
 unfold isInstance
 repeat (first|with_reducible refine wpAny_loadPart_at hget ?_|(with_reducible refine wpAny_isSubtype_exc hC2 ?_;rw[hcC])|wp_step)
 show wpAny (model prog w) _ (isSubtype (.ref C) (.ref C)) _ _ ⟨(h.push (Ej rest)).push (FG C h.objs.size),g,d,t,os⟩
 refine wpAny_isSubtype_exc hC2 ?_
 rw[hcC]
 refine wpAny_bind (wpAny_holding ?_)
 unfold callSpecial? specialOf
 refine wpAny_bind (wpAny_bind (wpAny_bind (wpAny_loadPart_at hget (wpAny_pure ?_))))
 refine (hi.keeps k).here ?_
 refine wpAny_holding (wpAny_bind (((hb (.ref (h.objs.size+1))).keeps k).here ?_))
 refine wpAny_bind (wpAny_call (codeAny_mono hq fun r s' z=>?_))
 cases r with
 |error e=>exact z
 |ok f=>
  cases f with
  |ret v=>
   obtain ⟨rfl,z⟩:=z
   exact wpAny_pure (wpAny_pure z)
  |next=>exact z.elim
  |brk=>exact z.elim
  |cont=>exact z.elim
theorem ZF {e t0:Addr}{od:Option Addr}{sl:Array (Option Value)}{a1 a2 a3 a4 a5:Value}{Q:Value->Shared->Prop} (hC:h.get? C=some (excClassObj nm q C N bs Fs true sn sub ab col dd k0 k1 k2 k3 k5 "Exception.__new__"))
  (he:h.get? e=some ⟨.ref C,od,.fields #[.ref t0,a1,a2,a3,a4,a5],sl⟩)
  (hq:∀h',(∀b o,b≠e->h.get? b=some o->h'.get? b=some o)->h'.get? e=some ⟨.ref C,od,.fields #[.ref h.objs.size,a1,a2,a3,a4,a5],sl⟩->Q .none ⟨h',g,d,t,os⟩) :
  wpAny (model prog w) A (call (.builtin "Exception.__init__") [.ref e]) Q E ⟨h,g,d,t,os⟩:=by
 have F:=PySem.F.excBase_Exception
 refine wpAny_call (codeAny_call_builtin F.init.plain F.initEntry (wpAny_check_init_sub F hC he rfl ?_))
 wp_walk
 have he2:=Heap.get?_push_of_some (Ej []) he
 refine hq _ (fun b o hb q=>?_) ?_
 ·rw[Heap.get?_update_other _ _ (Ne.symm hb)]
  exact Heap.get?_push_of_some _ q
 ·rw[Heap.get?_update_self _ he2 rfl]
  rfl
end
end PySem
namespace PySem
open Sem (wp)
open Builtin Builtin.ObjectAttr
section
variable {prog:Program}{w:World}{A:Around}{E:Value->Shared->Prop}{h:Heap}{g:Array GenState}{d:Drawn}{t:Nat}{os:OsState}
variable {nm q:Str}{C N x:Addr}{bs bm:List Value}{sn:List Str}{sub:List Value}{ab:Bool}{col:Option Bool}{dd:Option Addr}{k0 k1 k2 k3 k5:Option Value}{mN mA:Str->Option Value}{name:Str}{v:Value}{vs:Array Value}{sl:Array (Option Value)}
 {B newId sa owner:String}{o:Obj}
theorem dM {tk:Tok}{Q:Fin->Shared->Prop} (SF:StoreFacts B bm sa owner)
  (hC:h.get? C=some (excClassObj nm q C N bs bm true sn sub ab col dd k0 k1 k2 k3 k5 newId)) (hn:h.Ns N mN) (hna:mN name=none)
  (hB:typeLookup (.type B) name=pure none) (hx:h.get? x=some o) (hc:o.cls = .ref C)
  (hq:wpAny (model prog w) A (do let r <-instanceDict x true;match r with
    |some d=>storeInDict d (.str name tk) name v
    |none=>noDictFor (.ref x) (.ref C) name false) Q E ⟨h,g,d,t,os⟩) :
  wpAny (model prog w) A (Builtin.«object.__setattr__» ⟨[.ref x,.str name tk,v],[]⟩) Q E ⟨h,g,d,t,os⟩:=by
 have hpass:=SF.passes (.ref x)
 rw[PySem.W.osa_eq,refuse_eq]
 refine wpAny_bind (wpAny_bind (wpAny_bind (wpAny_loadPart_at hx (wpAny_pure ?_))))
 rw[hc]
 refine wpAny_bind (wpAny_mroOf_exc hC ?_)
 rw[refuseLoop_ref,hpass]
 refine wpAny_pure (wpAny_bind (wpAny_bind (wpAny_loadPart_at hx (wpAny_pure ?_))))
 rw[hc]
 refine wpAny_bind (wpAny_typeLookup_exc hC hn SF.mro hB ?_)
 rw[hna]
 exact wpAny_bind (wpAny_pure (wpAny_bind (wpAny_pure hq)))
theorem ZA {Q:Unit->Shared->Prop} (SF:StoreFacts B bm sa owner)
  (hC:h.get? C=some (excClassObj nm q C N bs bm true sn sub ab col dd k0 k1 k2 k3 k5 newId)) (hn:h.Ns N mN) (hns:mN "__setattr__" = none) (hna:mN name=none)
  (hB:typeLookup (.type B) name=pure none) (hx:h.get? x=some o) (hc:o.cls = .ref C)
  (hq:∀A',wpAny (model prog w) A' (do let r <-instanceDict x true;match r with
    |some d=>storeInDict d (.str name t) name v
    |none=>noDictFor (.ref x) (.ref C) name false) (fun fin s'=>fin = .done (.ret .none)/\Q () s') (fun _ _=>False) ⟨h,g,d,t+1,os⟩) :
  wpAny (model prog w) A (setAttr (.ref x) name v) Q E ⟨h,g,d,t,os⟩:=by
 have f3:=SF.slot.bind (.ref x)
 unfold setAttr callSpecial? specialOf
 refine wpAny_bind (wpAny_mkText (wpAny_bind (wpAny_bind (wpAny_bind (wpAny_bind (wpAny_loadPart_at hx (wpAny_pure ?_)))))))
 rw[hc]
 refine wpAny_typeLookup_exc hC hn SF.mro SF.slot.lookup ?_
 rw[hns]
 refine wpAny_holding ?_
 rw[f3]
 refine wpAny_bind (wpAny_pure (wpAny_bind (wpAny_call (codeAny_call_builtin SF.slot.plain SF.entry (wpAny_check_sa SF hC hx hc (dM SF hC hn hna hB hx hc ?_))))))
 refine wpAny_mono (hq _) (fun fin s' z=>?_) fun _ _ z=>z.elim
 obtain ⟨rfl,z⟩:=z
 exact wpAny_pure (wpAny_pure z)
theorem dN {Q:Unit->Shared->Prop} (SF:StoreFacts B bm sa owner)
  (hC:h.get? C=some (excClassObj nm q C N bs bm true sn sub ab col dd k0 k1 k2 k3 k5 newId)) (hn:h.Ns N mN) (hns:mN "__setattr__" = none) (hna:mN name=none)
  (hB:typeLookup (.type B) name=pure none) (hx:h.get? x=some ⟨.ref C,none,.fields vs,sl⟩)
  (hq:∀h' tk',h'.Ns1 h.objs.size (fun y=>if y=name then some v else none)->(∀b o,b≠x->h.get? b=some o->h'.get? b=some o)->h'.get? x=some ⟨.ref C,some h.objs.size,.fields vs,sl⟩->Q () ⟨h',g,d,tk',os⟩) :
  wpAny (model prog w) A (setAttr (.ref x) name v) Q E ⟨h,g,d,t,os⟩:=by
 refine ZA SF hC hn hns hna hB hx rfl fun A'=>?_
 have hx1:(h.push { cls:=.type "dict",data:=.dict #[] }).get? x=some ⟨.ref C,none,.fields vs,sl⟩:=Heap.get?_push_of_some _ hx
 have hxs:x≠h.objs.size:=Nat.ne_of_lt (Heap.lt_size hx)
 refine wpAny_bind ?_
 unfold instanceDict
 refine wpAny_bind (wpAny_loadPart_at hx ?_)
 refine wpAny_bind (wpAny_bind (wpAny_load hC (wpAny_pure ?_)))
 show wpAny _ _ (do let d <-alloc { cls:=Value.type "dict",data:=Data.dict #[] };update x fun o=>{ o with dict:=some d };dictMade (.ref C) x d) _ _ _
 refine wpAny_bind (wpAny_alloc (wpAny_bind (wpAny_update hx1 (wpAny_pure ?_))))
 have hgd:((h.push { cls:=.type "dict",data:=.dict #[] }).update x fun o=>{ o with dict:=some h.objs.size }).get? h.objs.size=some { cls:=.type "dict",data:=.dict #[] }:=
  (Heap.get?_update_ne _ _ _ _ hxs.symm).trans (Heap.get?_push_at rfl rfl)
 have hnd:((h.push { cls:=.type "dict",data:=.dict #[] }).update x fun o=>{ o with dict:=some h.objs.size }).Ns h.objs.size (fun _=>none):=⟨_,#[],_,hgd,rfl,fun e he=>absurd he (by simp),fun _=>rfl⟩
 show wpAny _ _ (storeInDict h.objs.size (.str name t) name v) _ _ _
 unfold storeInDict newKeyGuard
 refine wpAny_bind (wpAny_pure (wpAny_bind (wpAny_nsSet1 (Heap.Ns1.of_empty hnd) fun h' hn' hs=>?_)))
 obtain ⟨oD,esD,epD,hoD,hdD,hcD⟩:=hn'.count (Within.cons name v Within.nil)
 refine wpAny_bind (wpAny_lookBehind hoD (by rw[hdD];exact pastItsLine_dict (Nat.le_trans hcD (by rw[List.length_cons,List.length_nil,sizeLine_eq];omega))) ?_)
 refine wpAny_pure ⟨rfl,hq _ _ hn' (fun b o hb e=>?_) ?_⟩
 ·exact (hs.2 b (Nat.ne_of_lt (Heap.lt_size e))).trans ((Heap.get?_update_ne _ _ _ _ hb).trans (Heap.get?_push_of_some _ e))
 ·exact (hs.2 x hxs).trans (Heap.get?_update_self _ hx1 rfl)
theorem fR {ns:List Str}{dx:Addr}{Q:Unit->Shared->Prop} (SF:StoreFacts B bm sa owner)
  (hC:h.get? C=some (excClassObj nm q C N bs bm true sn sub ab col dd k0 k1 k2 k3 k5 newId)) (hn:h.Ns N mN) (hns:mN "__setattr__" = none) (hna:mN name=none)
  (hB:typeLookup (.type B) name=pure none) (hx:h.get? x=some ⟨.ref C,some dx,.fields vs,sl⟩) (hd:h.Ns1 dx mA) (hne:dx≠x) (hw:Within mA ns) (hsz:ns.length<sizeLine)
  (hq:∀h' tk',h'.Ns1 dx (fun y=>if y=name then some v else mA y)->(∀b o,b≠dx->h.get? b=some o->h'.get? b=some o)->Q () ⟨h',g,d,tk',os⟩) :
  wpAny (model prog w) A (setAttr (.ref x) name v) Q E ⟨h,g,d,t,os⟩:=by
 refine ZA SF hC hn hns hna hB hx rfl fun A'=>?_
 refine wpAny_bind ?_
 unfold instanceDict
 refine wpAny_bind (wpAny_loadPart_at hx ?_)
 refine wpAny_bind (wpAny_bind (wpAny_load hC (wpAny_pure ?_)))
 show wpAny _ _ (pure (some dx)) _ _ _
 refine wpAny_pure ?_
 show wpAny _ _ (storeInDict dx (.str name t) name v) _ _ _
 unfold storeInDict newKeyGuard
 refine wpAny_bind (wpAny_pure (wpAny_bind (wpAny_nsSet1 hd fun h' hn' hs=>?_)))
 obtain ⟨oD,esD,epD,hoD,hdD,hcD⟩:=hn'.count (Within.cons name v hw)
 refine wpAny_bind (wpAny_lookBehind hoD (by rw[hdD];exact pastItsLine_dict (Nat.le_trans hcD (by rw[List.length_cons];omega))) ?_)
 exact wpAny_pure ⟨rfl,hq _ _ hn' fun b o hb e=>(hs.2 b hb).trans e⟩
end
end PySem
namespace L2
open PySem PySem.Spec PyProof.Rows
section
variable {P:Program}{w:World}{H H':Hp}{h h':Heap}{S fs ex:List Addr}
theorem HOk.exts (S:List Addr) (ok:HOk P w H h) (hS:∀b∈S,∀u,H b=some u->∃ψ,u = .ext ψ) (k:∀b o,b∉S->h.get? b=some o->h'.get? b=some o) (new:∀b∈S,∀u,H' b=some u->BH P w H' h' b u) (oth:∀b,b∉S->H' b=H b):HOk P w H' h':=fun b u e=>by
 by_cases hb:b∈S
 ·exact new b hb u e
 ·rw[oth b hb] at e
  have nS:∀c v,H c=some v->(∀ψ,v≠.ext ψ)->c∉S:=fun c v q n z=>by
   obtain ⟨ψ,r⟩:=hS c z v q
   exact n ψ r
  refine (ok b u e).Sr (fun c v hc q=>k c v ?_ q) (fun c q=>by rw[oth c (nS c _ q fun _ z=>nomatch z)];exact q) fun c xs q=>by rw[oth c (nS c _ q fun _ z=>nomatch z)];exact q
  rcases hc with rfl|hc
  ·exact hb
  ·exact nS c _ hc fun _ z=>nomatch z
theorem Un.exts (S:List Addr) (hS:∀b∈S,∀u,H b=some u->∃ψ,u = .ext ψ) (hf:∀b∈S,H b=none->h.get? b=none) (k:∀b o,b∉S->h.get? b=some o->h'.get? b=some o) (th:∀b∈S,∃o,h'.get? b=some o) (oth:∀b,b∉S->H' b=H b):Un fs ex H H' h h':=by
 have nS:∀c v,H c=some v->(∀ψ,v≠.ext ψ)->c∉S:=fun c v q n z=>by
  obtain ⟨ψ,r⟩:=hS c z v q
  exact n ψ r
 have nN:∀b o,h.get? b=some o->H b=none->b∉S:=fun b o q n z=>by rw[hf b z n] at q;cases q
 refine ⟨fun b o q n _ _=>k b o (nN b o q n) q,fun b o q n _ _=>⟨o.slots,k b o (nN b o q n) q⟩,fun b o q n _=>by rw[oth b (nN b o q n)];exact n,fun b o q _=>?_,fun b xs q=>by rw[oth b (nS b _ q fun _ z=>nomatch z)];exact q,fun b o u q=>by rw[oth b (nS b _ q fun _ z=>nomatch z)];exact q,fun b ps q=>⟨#[],by rw[oth b (nS b _ q fun _ z=>nomatch z),q];simp⟩⟩
 by_cases hb:b∈S
 ·exact th b hb
 ·exact ⟨o,k b o hb q⟩
end
section
variable {X:Cx}{o e value:Expr}{f:Str}{pos pos' apos cpos p1:Pos}{ta tv:TE}{C fI:Addr}
theorem gY {f:Str} (h:f∈(["kind","place"]:List Str)):typeLookup (.type "Exception") f=pure none:=by
 rcases List.mem_cons.mp h with rfl|h
 ·rw[typeLookup_type,builtinLookup_eq_fast];kernel_rfl
 ·rw[List.mem_singleton] at h
  subst h
  rw[typeLookup_type,builtinLookup_eq_fast];kernel_rfl
theorem hR {f:Str} (h:f∈(["kind","place"]:List Str)):f∈(["kind","place","__setattr__","__getattribute__","__getattr__"]:List Str):=by
 rcases List.mem_cons.mp h with rfl|h
 ·exact .head _
 ·rw[List.mem_singleton] at h
  subst h
  exact .tail _ (.head _)
noncomputable def jt (C:Addr) (ta tv:TE) (f:Str):TS:=fun D σ H=>tv σ H fun y H1=>ta σ H1 fun x H2=>∃a,x = .ref a /\
 ((H2 a=some (xo C none a)/\∀dx,H2 dx=none->dx≠a->D.nx σ (upd (upd H2 a (xo C (some dx) a)) dx (IP [(f,y)] dx))) \/
  ∃dx fs,H2 a=some (xo C (some dx) a)/\H2 dx=some (IP fs dx)/\dx≠a/\fs.length<1000/\D.nx σ (upd H2 dx (IP (BD f y fs) dx)))
theorem Zl (c:XC X.K C fI) (hf:f∈(["kind","place"]:List Str)) (ha:PE X o ta) (hv:PE X value tv) (hs:swapsWith value (some (.Attribute o f pos')) pos.line X.env=pure false):PS X (.Assign [.Attribute o f pos'] value pos) (jt C ta tv f):=by
 intro pins s σ H D I h
 refine plainObj_wpAny_Assign_Attribute (thn (hv pins s σ H _ I h) fun u s1 ⟨y,H1,I1,ry,q⟩=>thn (ha pins s1 σ H1 _ I1 q) fun ov s2 ⟨x,H2,I2,rx,a,ex,q2⟩=>?_) hs
 subst ex
 obtain rfl:ov=Value.ref a:=rx
 obtain ⟨nm,q,N,bs,sn,sub,ab,col,dd,k0,k1,k2,k3,k5,mN,hC,hN,hno⟩:=c.at I2.kIn
 have SF:=PySem.F.store_Exception
 rcases q2 with ⟨ha,k⟩|⟨dx,fs,ha,hd,ne,hl,k⟩
 ·obtain ⟨a0,he⟩:=Vr (I2.hok a _ ha)
  obtain ⟨hp,g,d,tk,os⟩:=s2
  refine dN SF hC hN (hno _ (.tail _ (.tail _ (.head _)))) (hno _ (hR hf)) (gY hf) he fun h' tk' hn' hk hx'=>?_
  have hnew:H2 hp.objs.size=none:=I2.hok.fresh (Nat.le_refl _)
  have nea:hp.objs.size≠a:=Nat.ne_of_gt (Heap.lt_size he)
  refine ⟨σ,_,I2.un (t':=tk') (Un.exts [a,hp.objs.size] (fun b hb u q=>?_) (fun b hb n=>?_) (fun b o hb q=>hk b o (fun z=>hb (by rw[z];exact .head _)) q) (fun b hb=>?_) fun b hb=>?_)
   (I2.hok.exts [a,hp.objs.size] (fun b hb u q=>?_) (fun b o hb q=>hk b o (fun z=>hb (by rw[z];exact .head _)) q) (fun b hb u q=>?_) fun b hb=>?_),k hp.objs.size hnew nea⟩
  ·rcases List.mem_cons.mp hb with rfl|hb
   ·rw[ha] at q;cases q;exact ⟨_,rfl⟩
   ·rw[List.mem_singleton] at hb;rw[hb,hnew] at q;cases q
  ·rcases List.mem_cons.mp hb with rfl|hb
   ·rw[ha] at n;cases n
   ·rw[List.mem_singleton] at hb;rw[hb];exact Heap.get?_none_of_le (Nat.le_refl _)
  ·rcases List.mem_cons.mp hb with rfl|hb
   ·exact ⟨_,hx'⟩
   ·rw[List.mem_singleton] at hb;rw[hb]
    obtain ⟨od,_,_,z,_⟩:=hn'
    exact ⟨od,z⟩
  ·rw[Ai (fun z=>hb (by rw[z];exact .tail _ (.head _))),Ai (fun z=>hb (by rw[z];exact .head _))]
  ·rcases List.mem_cons.mp hb with rfl|hb
   ·rw[ha] at q;cases q;exact ⟨_,rfl⟩
   ·rw[List.mem_singleton] at hb;rw[hb,hnew] at q;cases q
  ·by_cases hb2:b=hp.objs.size
   ·subst hb2
    rw[Ae] at q
    cases q
    refine Xo hn' (fun g=>?_) fun g hg=>?_
    ·by_cases z:g=f
     ·rw[if_pos z,z,show List.lookup f [(f,y)]=some y by simp[List.lookup]]
      exact ry
     ·have zb:(g==f)=false:=beq_eq_false_iff_ne.mpr z
      rw[if_neg z,show List.lookup g [(f,y)]=none by simp[List.lookup,zb]]
      exact True.intro
    ·by_cases z:g=f
     ·rw[z];simp
     ·rw[if_neg z] at hg;exact absurd rfl hg
   ·have hba:b=a:=by
     rcases List.mem_cons.mp hb with z|z
     ·exact z
     ·rw[List.mem_singleton] at z;exact absurd z hb2
    subst hba
    rw[Ai hb2,Ae] at q
    cases q
    exact dJ hx'
  ·rw[Ai (fun z=>hb (by rw[z];exact .tail _ (.head _))),Ai (fun z=>hb (by rw[z];exact .head _))]
 ·obtain ⟨a0,he⟩:=Vr (I2.hok a _ ha)
  obtain ⟨mA,hn,hr,hw⟩:=TB (I2.hok dx _ hd)
  obtain ⟨hp,g,d,tk,os⟩:=s2
  refine fR SF hC hN (hno _ (.tail _ (.tail _ (.head _)))) (hno _ (hR hf)) (gY hf) he hn ne hw (by rw[List.length_map,sizeLine_eq];omega) fun h' tk' hn' hk=>?_
  refine ⟨σ,_,I2.un (t':=tk') (Un.exts [dx] (fun b hb u q=>?_) (fun b hb n=>?_) (fun b o hb q=>hk b o (fun z=>hb (by rw[z];exact .head _)) q) (fun b hb=>?_) fun b hb=>?_)
   (I2.hok.exts [dx] (fun b hb u q=>?_) (fun b o hb q=>hk b o (fun z=>hb (by rw[z];exact .head _)) q) (fun b hb u q=>?_) fun b hb=>?_),k⟩
  ·rw[List.mem_singleton] at hb;rw[hb,hd] at q;cases q;exact ⟨_,rfl⟩
  ·rw[List.mem_singleton] at hb;rw[hb,hd] at n;cases n
  ·rw[List.mem_singleton] at hb;rw[hb]
   obtain ⟨od,_,_,z,_⟩:=hn'
   exact ⟨od,z⟩
  ·rw[Ai (fun z=>hb (by rw[z];exact .head _))]
  ·rw[List.mem_singleton] at hb;rw[hb,hd] at q;cases q;exact ⟨_,rfl⟩
  ·rw[List.mem_singleton] at hb
   subst hb
   rw[Ae] at q
   cases q
   refine Xo hn' (fun g=>?_) fun g hg=>?_
   ·rw[HD]
    by_cases z:g=f
    ·rw[if_pos z,if_pos z];exact ry
    ·rw[if_neg z,if_neg z];exact hr g
   ·by_cases z:g=f
    ·rw[z];exact (FT f y fs).1
    ·rw[if_neg z] at hg
     exact (FT f y fs).2 g (hw g hg)
  ·rw[Ai (fun z=>hb (by rw[z];exact .head _))]
end
end L2
namespace L2
open PySem PySem.Spec PyProof.Rows
theorem Ua {K:PySem.W.Frag}:PySem.W.findCls K (.type "Exception") (.type "type") "__init__" = some (.val (.builtin "Exception.__init__")):=by rfl
section
variable {X:Cx}{e:Expr}{apos cpos pos p1 np:Pos}{ta:TE}{C fI:Addr}
noncomputable def iH (C:Addr) (ta:TE):TE:=fun σ H Q=>ta σ H fun x H1=>∃a,x = .ref a/\H1 a=some (xo C none a)/\Q .non H1
theorem cw {pl:Sem Bool} (c:XC X.K C fI) (hg:Gl X "Exception") (hm:X.mg "Exception" = none) (ha:PE X e ta)
  (hst:starEach [e] X.env=(false,eval e X.env)::starEach [] X.env:=by rfl)
  (ht:eval (.Call (.Attribute (.Name "Exception" p1) "__init__" apos) [e] [] cpos) X.env=(do
   let ov <-eval (.Name "Exception" p1) X.env
   standAt apos.atName
   let (f,first) <-holding [ov] (getMethod ov "__init__" pl)
   callWith cpos f first (backTo cpos (starEach [e] X.env)) (backToKw cpos (keywordEach [] X.env))):=by rfl) :
  PE X (.Call (.Attribute (.Name "Exception" p1) "__init__" apos) [e] [] cpos) (iH C ta):=by
 intro pins s σ H Q I h
 obtain ⟨m,Fm⟩:=I.fr
 refine PySem.W.methodCall_KW (pl:=pl) (Mr (u:=.type "Exception") I hg hm rfl ?_) ht
 refine PySem.W.method_type (T:="Exception") Fm I.ok.mod.kin rfl (by decide +kernel) Ua rfl ?_
 rw[hst]
 have I0:=I.tok (s.toks+1)
 refine Calls.callWith_builtin rfl (Calls.evalArgs_plain (Calls.spliced_cons (thn (ha pins _ σ H _ I0 h) fun u s1 ⟨x,H1,I1,r1,a,ex,hx,q⟩=>Calls.spliced_nil ?_)))
 subst ex
 obtain rfl:u=Value.ref a:=r1
 obtain ⟨nm,q',N,bs,sn,sub,ab,col,dd,k0,k1,k2,k3,k5,mN,hC,hN,hno⟩:=c.at I1.kIn
 obtain ⟨t0,he⟩:=Vr (I1.hok a _ hx)
 obtain ⟨hp,g,d,tk,os⟩:=s1
 refine ZF hC he fun h' hk hx'=>⟨.non,H1,?_,rfl,q⟩
 refine I1.un (t':=tk) (Un.exts [a] (fun b hb u q=>?_) (fun b hb n=>?_) (fun b o hb q=>hk b o (fun z=>hb (by rw[z];exact .head _)) q) (fun b hb=>?_) fun b hb=>rfl)
   (I1.hok.exts [a] (fun b hb u q=>?_) (fun b o hb q=>hk b o (fun z=>hb (by rw[z];exact .head _)) q) (fun b hb u q=>?_) fun b hb=>rfl)
 ·rw[List.mem_singleton] at hb;rw[hb,hx] at q;cases q;exact ⟨_,rfl⟩
 ·rw[List.mem_singleton] at hb;rw[hb,hx] at n;cases n
 ·rw[List.mem_singleton] at hb;rw[hb];exact ⟨_,hx'⟩
 ·rw[List.mem_singleton] at hb;rw[hb,hx] at q;cases q;exact ⟨_,rfl⟩
 ·rw[List.mem_singleton] at hb
  subst hb
  rw[hx] at q
  cases q
  exact dJ hx'
end
section
variable {X:Cx}{CX:CXT}{k:Nat}{C fI:Addr}{fd:FuncData}{ps:List Str}{x:Str}{np cpos pos:Pos}{e:Expr}{es:List Expr}{t:TA}
structure bf (X:Cx) (C:Addr) (H:Hp) (s:Shared) (ea dx:Addr):Prop where
 new:X.s_0.heap.objs.size<=ea
 free:H ea=none
 at_:∃a0,s.heap.get? ea=some ⟨.ref C,some dx,.fields #[.ref a0,.none,.none,.none,.bool false,.none],#[]⟩
noncomputable def spX (C:Addr) (fs:V->V->List (Str×V)):Sp:=fun vs H Q _=>∃(a:Addr) (y z:V),vs=[.ref a,y,z]/\H a=some (xo C none a) /\
 ∀dx,H dx=none->dx≠a->Q .non (upd (upd H a (xo C (some dx) a)) dx (IP (fs y z) dx))
noncomputable def IJ (fs:V->V->List (Str×V)) (W:Hp->Addr->Prop) (t:TA):TS:=fun _ σ H=>t σ H fun vs H1=>∃y z,vs=[y,z]/\∀dx,H1 dx=none->W (upd H1 dx (IP (fs y z) dx)) dx
theorem dF {H:Hp}{a dx:Addr}{o o1 o2:HO} (hn:H a=none) (ne:dx≠a):Su (upd (upd (upd H a o) a o1) dx o2) a=upd H dx o2:=by
 funext b
 by_cases hb:b=a
 ·rw[hb,MM,Ai (Ne.symm ne),hn]
 ·rw[OS hb]
  by_cases hd:b=dx
  ·rw[hd,Ae,Ae]
  ·rw[Ai hd,Ai hb,Ai hb,Ai hd]
theorem cH {fs:V->V->List (Str×V)}{W:Hp->Addr->Prop} (c:XC X.K C fI) (F:FD X.prog X.w X.K X.mg X.base CX0 k fI fd ps (spX C fs)) (hr:Cm (k+1) X.A) (hg:Gl X x) (hm:X.mg x=some (.ref C)) (hb:Binds X.K fd ps [])
  (ha:PA X (e::es) t) (hW:∀pins σ H s ea dx,Inv X pins σ H s->bf X C H s ea dx->W H dx->X.xe (.ref ea) s)
  (hdb:(x==("__debug__":Str))=false:=by decide) (he:starEach (e::es) X.env=(false,eval e X.env)::starEach es X.env:=by rfl) (hpl:(backTo cpos (starEach es X.env)).any (·.1)=false:=by rfl) :
  PS X (.Raise (some (.Call (.Name x np) (e::es) [] cpos)) none pos) (IJ fs W t):=by
 intro pins s σ H D I h
 obtain ⟨nm,q',N,bs,sn,sub,ab,col,dd,k0,k1,k2,k3,k5,oc,od,es',en,sl,h1,h2,h3,h4⟩:=c.obj
 rw[arm_exec_Raise]
 refine wpAny_bind (wpAny_standAt (Yv (C:=C) (nm:=nm) (q:=q') (N:=N) (bs:=bs) (bm:=Fs) (hdct:=true) (sn:=sn) (sub:=sub) (ab:=ab) (col:=col) (dd:=dd) (k0:=k0) (k1:=k1) (k2:=k2) (k3:=k3) (k5:=k5) (newId:="Exception.__new__") (by decide +kernel) hr.hd ?_))
 refine wpAny_bind (wpAny_mono ?_ (fun v s3 h3=>wpAny_bind (wpAny_standAt (wpAny_pure h3))) fun _ _ z=>z)
 refine wpAny_Call_Name_kw (IT I hg hm ?_ hdb)
 refine PySem.W.callWith_K (h₀:=X.base) I.ok.mod.kin c.kp (thn (ha cpos pins s σ H _ I h) fun us s1 ⟨vs,H1,I1,r,y,z,ev,q⟩=>⟨I1.kIn,?_⟩) he hpl
 subst ev
 have KI:=I1.kIn
 have hC:=KI _ _ h1
 have e1:(s1.heap.push (Ej us)).get? s1.heap.objs.size=some (Ej us):=Heap.get?_push_size s1.heap rfl
 have e2:((s1.heap.push (Ej us)).push (FG C s1.heap.objs.size)).get? (s1.heap.objs.size+1)=some (FG C s1.heap.objs.size):=by
  have:=Heap.get?_push_size (s1.heap.push (Ej us)) (o:=FG C s1.heap.objs.size) rfl
  rwa [Heap.size_push] at this
 have J1:=I1.kept (h':=s1.heap.push (Ej us)) (t':=s1.toks) fun b u q=>Heap.get?_push_of_some _ q
 have I2:Inv X pins σ (upd H1 (s1.heap.objs.size+1) (xo C none (s1.heap.objs.size+1))) { s1 with heap:=(s1.heap.push (Ej us)).push (FG C s1.heap.objs.size) }:=
  J1.laid (a:=s1.heap.objs.size+1) (t':=s1.toks) (fun b u q=>Heap.get?_push_of_some _ q) (Nat.le_of_eq (Heap.size_push _ _)) (dJ e2)
 have hnew:H1 (s1.heap.objs.size+1)=none:=I1.hok.fresh (Nat.le_succ _)
 have hl2:us.length=2:=r.length.symm
 have hq:spX C fs [.ref (s1.heap.objs.size+1),y,z] (upd H1 (s1.heap.objs.size+1) (xo C none (s1.heap.objs.size+1)))
   (fun v H2=>v = .non/\∃dx,H1 dx=none/\dx≠s1.heap.objs.size+1/\H2=upd (upd (upd H1 (s1.heap.objs.size+1) (xo C none (s1.heap.objs.size+1))) (s1.heap.objs.size+1) (xo C (some dx) (s1.heap.objs.size+1))) dx (IP (fs y z) dx)) E0:=by
  refine ⟨_,y,z,rfl,Ae,fun dx hd ne=>⟨rfl,dx,?_,ne,rfl⟩⟩
  rw[Ai ne] at hd
  exact hd
 have r2:Vals [V.ref (s1.heap.objs.size+1),y,z] (Value.ref (s1.heap.objs.size+1)::us):=.cons rfl r
 have hl:(Value.ref (s1.heap.objs.size+1)::us++[]).length=ps.length:=by
  rw[List.append_nil,<-r2.length];exact F.len _ _ _ _ hq
 refine wpAny_call (bP (fI:=fI) hC (PySem.W.looks_findIn KI c.init) (fun self=>PySem.W.bind_fn KI self (beq_iff_eq.mp c.fn)) (by show us.length<=sizeLine;rw[hl2];decide) ?_)
 refine codeAny_mono (F.run _ X.stack _ _ ⟨Value.ref (s1.heap.objs.size+1)::us,[]⟩ (Value.ref (s1.heap.objs.size+1)::us) _ _ E0 (hr.make C us []) (I2.gD.make C us []) (by
  have:=hb { s1 with heap:=(s1.heap.push (Ej us)).push (FG C s1.heap.objs.size) } (Value.ref (s1.heap.objs.size+1)::us) I2.kIn hl
  rwa [List.append_nil] at this) r2 hq) fun rr s' hq'=>?_
 cases rr with
 |error e=>exact hq'.elim
 |ok fl=>
  cases fl with
  |next=>exact hq'.elim
  |brk=>exact hq'.elim
  |cont=>exact hq'.elim
  |ret u=>
   obtain ⟨v,H',I3,rv,ev,dx,hdn,ne,eH⟩:=I2.after hq'
   subst ev
   subst eH
   have hx3:(upd (upd (upd H1 (s1.heap.objs.size+1) (xo C none (s1.heap.objs.size+1))) (s1.heap.objs.size+1) (xo C (some dx) (s1.heap.objs.size+1))) dx (IP (fs y z) dx)) (s1.heap.objs.size+1)=some (xo C (some dx) (s1.heap.objs.size+1)):=by
    rw[Ai (Ne.symm ne),Ae]
   obtain ⟨a0,he3⟩:=Vr (I3.hok _ _ hx3)
   have I4:=I3.Su hx3
   rw[dF hnew ne] at I4
   refine ⟨rv,_,.ref a0,some dx,#[],rfl,I4.kIn _ _ h1,he3,hW pins σ _ s' _ dx I4 ⟨?_,?_,a0,he3⟩ (q dx hdn)⟩
   ·exact Nat.le_trans I1.sz (Nat.le_succ _)
   ·rw[Ai (Ne.symm ne)];exact hnew
end
section
variable {C:Addr}{P:Program}{w:World}{K:PySem.W.Frag}{mg:Str->Option Value}{base:Heap}{N:List Str}{qual:Str}{scope:Scope}{f:Addr}{cd:Value}{A:Around}{outer:List Env}{s:Shared}{H:Hp}{E:XK}
theorem Em:∀pins σ H' s' ea dx,Inv (EN (CXF C P w) P w K mg base N qual scope f cd A outer s H E) pins σ H' s'->bf (EN (CXF C P w) P w K mg base N qual scope f cd A outer s H E) C H' s' ea dx->E (.ref C) (some dx) H' ->
  (EN (CXF C P w) P w K mg base N qual scope f cd A outer s H E).xe (.ref ea) s':=fun pins σ H' s' ea dx I F hE=>
 let ⟨_,h⟩:=F.at_
 Zd I F.new F.free rfl rfl hE (.inl ⟨h,rfl,rfl⟩)
end
end L2
namespace PySem
open Sem (wp)
section
variable {M:Model}{A:Around}{E:Value->Shared->Prop}{s:Shared}
theorem Xw {base:Heap}{env:Env}{outer:List Env}{L e T:Addr}{oe:Obj}{vs:Array Value}{n0 n:Nat}{Q:Unit->Shared->Prop}
  (hfr:A.frames=some (env::outer)) (hl:s.heap.FunFrames base (env::outer)) (hf:env.frame=some L) (x:Heap.Fly s.heap e oe vs n0 T .none) (hn:n<=s.heap.objs.size)
  (h:∀h' T',Heap.Eff ((env::outer).filterMap (·.frame)) [e,T] s.heap h'->Heap.Fly h' e { oe with data:=.fields (vs.setIfInBounds 1 (.ref T')) } (vs.setIfInBounds 1 (.ref T')) n T' .none->Q () { s with heap:=h' }) :
  wpAny M A (noteFrame (.ref e) env) (fun _ s2=>wpAny M A (setFlight (.ref e) none) Q E s2) E s:=by
 refine SW (n:=s.heap.objs.size) hfr hl hf x (Nat.le_refl _) fun h1' T' x' y=>land (s:={ s with heap:=h1' }) y fun h2 z1 z2=>?_
 refine h h2 T' ?_ ⟨z2.at_,z2.data,z2.one,z2.ne,Nat.le_trans hn z2.new,z2.tb⟩
 refine ⟨fun b o n1 n2 q=>z1.keep b o (by simp) (fun w=>?_) (x'.keep b o n1 n2 q),fun b o n2 q=>?_,fun b o q=>?_⟩
 ·rw[List.mem_singleton] at w;rw[w] at q
  exact absurd (Nat.lt_of_lt_of_le (Heap.lt_size q) y.new) (Nat.lt_irrefl _)
 ·obtain ⟨sl,q1⟩:=x'.slot b o n2 q
  obtain ⟨sl2,q2⟩:=z1.slot b _ (fun w=>by rw[List.mem_singleton] at w;rw[w] at q;exact absurd (Nat.lt_of_lt_of_le (Heap.lt_size q) y.new) (Nat.lt_irrefl _)) q1
  exact ⟨sl2,q2⟩
 ·obtain ⟨o1,q1⟩:=x'.there b o q
  exact z1.there b o1 q1
end
end PySem
namespace L2
open PySem PySem.Spec PyProof.Rows
section
variable {X:Cx}{e:Expr}{f:Str}{pos:Pos}{ta:TE}{C fI ea dx:Addr}{oe:Obj}{vs:Array Value}
noncomputable def iJ (ea dx:Addr) (ta:TE) (f:Str):TE:=fun σ H Q=>ta σ H fun x H1=>x = .ref ea/\∃fs v,H1 dx=some (IP fs dx)/\fs.lookup f=some v/\Q v H1
theorem WM (c:XC X.K C fI) (hf:f∈(["kind","place"]:List Str)) (hp:(ea,oe)∈X.pn) (hc:oe.cls = .ref C) (hd:oe.dict=some dx) (hdat:oe.data = .fields vs) (he:PE X e ta) (hb:attributeBase e f X.env (eval e X.env)=eval e X.env) :
  PE X (.Attribute e f pos) (iJ ea dx ta f):=by
 intro pins s σ H Q I h
 refine YQ hb (thn (he pins s σ H _ I h) fun u s1 ⟨x,H1,I1,r1,ex,fs,v,hx,hl,q⟩=>?_)
 subst ex
 obtain rfl:u=Value.ref ea:=r1
 obtain ⟨nm,q',N,bs,sn,sub,ab,col,dd,k0,k1,k2,k3,k5,mN,hC,hN,hno⟩:=c.at I1.kIn
 obtain ⟨mA,n1,r,wi⟩:=TB (I1.hok dx _ hx)
 obtain ⟨w,hw,rw'⟩:=Fg.some_of (v:=v) (o:=mA f) (by rw[<-hl];exact r f)
 obtain ⟨h1,h2,h3⟩:=I1.pin (ea,oe) (List.mem_append.mpr (.inl hp))
 have hbm:mroOf (.type "Exception")=pure Fs:=by rfl
 obtain ⟨hp',g,d,t,os⟩:=s1
 exact bO hbm (by decide +kernel) hC hN (hno _ (hR hf)) (hno _ (.tail _ (.tail _ (.tail _ (.head _))))) (hno _ (.tail _ (.tail _ (.tail _ (.tail _ (.head _)))))) (gY hf) h1 hc hdat hd n1.ns hw (PySem.W.handedOut_of (SM rw')) ⟨v,H1,I1.tok (t+1),rw',q⟩
end
noncomputable def XE (X:Cx) (C:Addr) (W:Addr->Hp->Prop) (e:Value) (s':Shared):Prop:=∃pins σ H ea oe vs T dx,e = .ref ea/\Inv X pins σ H s'/\X.s_0.heap.objs.size<=ea/\H ea=none/\H T=none/\oe.cls = .ref C/\oe.dict=some dx/\s'.heap.Fly ea oe vs X.s_0.heap.objs.size T .none/\W dx H
section
variable {X:Cx}{C fI:Addr}{W:Addr->Hp->Prop}
theorem gb:Passes (CXF C X.prog X.w) (X.MO (XE X C W)) (fun _ od H=>∃dx,od=some dx/\W dx H):=by
 intro pins σ H1 s1 e s' I hx
 obtain ⟨ea,oe,vs,T,dx,H',rfl,ho,hb,un,hok,h1,h2,h3,h4,h5,fl,dx',e5,hW⟩:=hx
 cases e5
 have I':=I.Fe.bB ho un hok hb fun b z=>absurd z (by simp)
 have hsz:X.s_0.heap.objs.size<=s1.heap.objs.size:=I.Fe.sz
 exact ⟨pins,σ,H',ea,oe,vs,T,dx,rfl,I',Nat.le_trans hsz h1,h2,h3,h4,h5,⟨fl.at_,fl.data,fl.one,fl.ne,Nat.le_trans hsz fl.new,fl.tb⟩,hW⟩
noncomputable abbrev Cx.Hq (X:Cx) (ea:Addr) (oe:Obj):Cx:={ X with A:=X.A.mark (some (.ref ea)),calm:=false,pn:=[(ea,oe)],xe:=fun _ _=>False }
theorem Inv.Hq {pins:List (Addr×Obj)}{σ:St}{H:Hp}{s:Shared}{ea:Addr}{oe:Obj}{vs:Array Value} (I:Inv X pins σ H s) (h1:s.heap.get? ea=some oe) (h2:H ea=none) (h3:ea≠X.env.locals) (h4:ea∉X.fs) (hd:oe.data = .fields vs):Inv (X.Hq ea oe) [] σ H s:=by
 refine ⟨⟨I.ok.mod,I.ok.kind,I.ok.glob,I.ok.blt,I.ok.above,I.ok.inj,I.ok.has,I.ok.cab,fun z=>Bool.noConfusion (show false=true from z),I.ok.frames,I.ok.stk,I.ok.exf,I.ok.bs,I.ok.bsz,I.ok.ao,I.ok.ZQ,I.ok.KR,I.ok.frf⟩,I.os,I.bare,I.base,I.loc,I.cell,I.free,I.ER,fun p hp=>?_,I.hok,I.len⟩
 rcases List.mem_append.mp hp with z|z
 ·rw[List.mem_singleton] at z
  subst z
  exact ⟨h1,h2,h3,h4,fun v q=>by rw[hd] at q;cases q⟩
 ·exact absurd z (by simp)
theorem Inv.fN {pins:List (Addr×Obj)}{σ:St}{H:Hp}{s:Shared}{ea:Addr}{oe:Obj} (ok:X.Ok) (hpn:X.pn=[]) (I:Inv (X.Hq ea oe) pins σ H s):Inv X [] σ H s:=by
 refine ⟨ok,I.os,I.bare,I.base,I.loc,I.cell,I.free,I.ER,fun p hp=>?_,I.hok,I.len⟩
 rw[hpn] at hp
 exact absurd hp (by simp)
theorem Eff.un {fs ch:List Addr}{H:Hp}{h h':Heap} (y:Heap.Eff fs ch h h') (hch:∀b∈ch,H b=none):Un fs ch H H h h':=
 ⟨fun b o q _ hb hx=>y.keep b o hb hx q,fun b o q _ _ hx=>y.slot b o hx q,fun b o _ n _=>n,fun b o q hx=>y.there b o q,fun _ _ q=>q,fun _ _ _ q=>q,fun b ps q=>⟨#[],by rw[q];simp⟩⟩
end
end L2
namespace L2
open PySem PySem.Spec PyProof.Rows
section
variable {X:Cx}{C fI:Addr}{W:Addr->Hp->Prop}
theorem iL {σ:St}{H:Hp}{s:Shared}{D:Ends}{body:List Stmt}{cn n:Str}{i:Nat}{b0:Stmt}{Hq:List Stmt}{p1 hp pos:Pos}{tb:TS} (hpn:X.pn=[]) (hex:X.ex=[])
  (hst:X.stack=X.env::X.outer) (hfr:X.env.frame=some X.env.locals) (I:Inv X [] σ H s) (c:XC X.K C fI) (hg:Gl X cn) (hm:X.mg cn=some (.ref C)) (hN:X.N.Nodup) (hi:X.N[i]?=some n) (hk:X.env.kindOf n=some .local) (hl:X.env.scope.names.lookup n=some .local)
  (hb:PSs (X.MO (XE X C W)) body tb) (ht:tb D σ H)
  (hs:∀ea oe vs dx,oe.cls = .ref C->oe.dict=some dx->oe.data = .fields vs->∃ts,PSs (X.Hq ea oe) (b0::Hq) ts/\∀(σ':St) (H':Hp),σ'.length=X.N.length->W dx H'->ts { nx:=fun _ _=>False,rt:=D.rt } (σ'.set i (some (.ref ea))) H')
  (hdb:(cn==("__debug__":Str))=false:=by decide) :
  wpAny (model X.prog X.w) X.A (exec (.Try body [.ExceptHandler (some (.Name cn p1)) (some n) (b0::Hq) hp] [] [] pos) X.env) (SP X [] D) X.xe s:=by
 refine wpAny_Try_except (wpAny_mono (hb [] s σ H _ (I.MO _) ht) (fun f s1 h1=>?_) (fun e s1 h1=>?_))
 ·have h1':SP X [] D f s1:=h1.Fe
  cases f with
  |next=>exact wpAny_execs_nil h1'
  |brk=>exact h1'
  |cont=>exact h1'
  |ret u=>exact h1'
 ·obtain ⟨pins,σ1,H1,ea,oe,vs,T,dx,rfl,I1,hea,nea,nT,hc,hdx,fl,hW⟩:=h1
  have notF:∀{b:Addr}{o:Obj}{us:Array Value},s1.heap.get? b=some o->o.data = .fields us->b≠X.env.locals/\(∀x c,X.env.cells.lookup x=some c->c≠b):=fun {b o us} q d=>by
   refine ⟨fun z=>?_,fun x c q2 z=>?_⟩
   ·obtain ⟨m,⟨o',es,ep,e1,e2,_⟩,_⟩:=I1.loc
    rw[z] at q
    rw[q] at e1
    cases e1
    rw[d] at e2
    cases e2
   ·obtain ⟨v,o',e1,e2⟩:=I1.cell x c q2
    rw[z,q] at e1
    cases e1
    rw[d] at e2
    cases e2
  have nfs:∀b,X.s_0.heap.objs.size<=b->b∉X.fs:=fun b hb hm=>by
   have:=I1.ok.KR
   obtain ⟨_,o,q,_⟩:=Heap.FunFrames.mem this hm
   exact absurd (Nat.lt_of_lt_of_le (Heap.lt_size q) hb) (Nat.lt_irrefl _)
  obtain ⟨oT,ts0,hT,hdT,_⟩:=fl.tb
  have fr:=I1.ok.frames
  rw[hst] at fr
  have stk:=I1.stack
  rw[hst] at stk
  have J1:Inv X [] σ1 H1 s1:=I1.Va fun p hp=>absurd hp (by simp)
  refine Xw (n:=s1.heap.objs.size) fr stk hfr fl (Nat.le_refl _) fun h2 T2 ef fl2=>?_
  have J2:Inv X [] σ1 H1 { s1 with heap:=h2 }:=by
   have hch:∀b∈[ea,T],(b∈X.ex\/X.s_0.heap.objs.size<=b)/\b≠X.env.locals/\(∀x c,X.env.cells.lookup x=some c->c≠b)/\∀p∈X.pn++[],p.1≠b:=fun b hb=>by
    rw[hpn]
    rcases List.mem_cons.mp hb with z|z
    ·rw[z];exact ⟨.inr hea,(notF fl.at_ fl.data).1,(notF fl.at_ fl.data).2,fun p hp=>absurd hp (by simp)⟩
    ·rw[List.mem_singleton] at z;rw[z];exact ⟨.inr fl.new,(notF hT hdT).1,(notF hT hdT).2,fun p hp=>absurd hp (by simp)⟩
   have hn:∀b∈[ea,T],H1 b=none:=fun b hb=>by
    rcases List.mem_cons.mp hb with z|z
    ·rw[z];exact nea
    ·rw[List.mem_singleton] at z;rw[z];exact nT
   have ef':Heap.Eff (frs X.stack) [ea,T] s1.heap h2:=by rw[hst];exact ef
   exact J1.call (g':=s1.gens) (t':=s1.toks) (d':=s1.drawn) (Eff.un ef' hn) (J1.hok.eff ef' J1.OR hn) J1.bare hch
  have nT2:H1 T2=none:=J1.hok.fresh fl2.new
  have S2:=J2.Hq fl2.at_ nea (notF fl.at_ fl.data).1 (nfs ea hea) rfl
  refine ZX ?_
  refine IT S2 hg hm ?_ hdb
  obtain ⟨nm,q',N,bs,sn,sub,ab,col,dd,k0,k1,k2,k3,k5,mN,hC,hNs,hno⟩:=c.at S2.kIn
  refine wpAny_excMatches_sub_self hC fl2.at_ hc (by decide +kernel) ⟨rfl,?_⟩
  obtain ⟨oT2,ts2,hT2,hdT2,_⟩:=fl2.tb
  have notF2:T2≠X.env.locals/\(∀x c,X.env.cells.lookup x=some c->c≠T2):=by
   refine ⟨fun z=>?_,fun x c q2 z=>?_⟩
   ·obtain ⟨m,⟨o',es,ep,e1,e2,_⟩,_⟩:=J2.loc
    rw[z] at hT2
    rw[hT2] at e1
    cases e1
    rw[hdT2] at e2
    cases e2
   ·obtain ⟨v,o',e1,e2⟩:=J2.cell x c q2
    rw[z,hT2] at e1
    cases e1
    rw[hdT2] at e2
    cases e2
  refine land (s:={ s1 with heap:=h2 }) fl2 fun h3 ef3 fl3=>?_
  have S3:=S2.turned (h':=h3) (t':=s1.toks) (it:=T2) (fun b o hb q=>ef3.keep b o (by simp) (fun z=>hb (List.mem_singleton.mp z)) q) nT2 notF2.1 (.inr (Nat.le_trans I1.sz fl2.new)) notF2.2 (fun p hp=>by
   rcases List.mem_append.mp hp with z|z
   ·rw[List.mem_singleton] at z;rw[z];exact Ne.symm fl2.ne
   ·exact absurd z (by simp))
  refine wpAny_bindName (LW (X:=X.Hq ea { oe with data:=.fields (vs.setIfInBounds 1 (.ref T2)) }) (v:=.ref ea) S3 hN hi (.inl hl) rfl (fun s4 I4=>?_) (.inr hl))
  obtain ⟨ts,hp1,hq⟩:=hs ea { oe with data:=.fields (vs.setIfInBounds 1 (.ref T2)) } _ dx hc hdx rfl
  refine wpAny_mono (hp1 [] s4 _ H1 _ I4 (hq σ1 H1 I1.len hW)) (fun f s5 h5=>?_) (fun _ _ z=>z)
  cases f with
  |next=>obtain ⟨_,_,_,z⟩:=h5;exact z.elim
  |brk=>obtain ⟨_,_,_,z⟩:=h5;exact False.elim z
  |cont=>obtain ⟨_,_,_,z⟩:=h5;exact False.elim z
  |ret u=>
   obtain ⟨v,σ5,H5,I5,rv,q⟩:=h5
   have I6:=Inv.fN I1.ok hpn I5
   obtain ⟨m,hn,_⟩:=I6.loc
   refine wpAny_nameGoes hk hn (by rw[I1.ok.kind];rfl) (fun h' m' hn' sb=>⟨v,List.replicate X.N.length none,H5,?_,rv,q⟩)
   have kb:∀b o,b≠X.env.locals->s5.heap.get? b=some o->h'.get? b=some o:=fun b o hb z=>(sb.2 b hb).trans z
   have low:∀b o,X.s_0.heap.get? b=some o->b≠X.env.locals:=fun b o z y=>by
    rw[y] at z
    exact absurd (Nat.lt_of_lt_of_le (Heap.lt_size z) I1.ok.above) (Nat.lt_irrefl _)
   have un:=I6.base
   refine ⟨I6.ok,I6.os,I6.bare,⟨fun b o z n hb hx=>kb b o (low b o z) (un.keep b o z n hb hx),fun b o z n hb hx=>?_,un.free,fun b o z hx=>?_,un.Rp,un.Of,un.Rn⟩,⟨m',hn',fun j x v' _ z=>?_⟩,fun x c z=>?_,I6.free,I6.ER,fun p hp=>?_,fun b o z=>?_,by simp⟩
   ·obtain ⟨sl,y⟩:=un.slot b o z n hb hx
    exact ⟨sl,kb b _ (low b o z) y⟩
   ·obtain ⟨o1,y⟩:=un.there b o z hx
    exact ⟨o1,kb b _ (low b o z) y⟩
   ·rw[List.getElem?_replicate] at z
    split at z<;>cases z
   ·obtain ⟨v',o',e1,e2⟩:=I6.cell x c z
    exact ⟨v',o',kb c _ (I6.cne x c z) e1,e2⟩
   ·rw[hpn] at hp
    exact absurd hp (by simp)
   ·refine (I6.hok b o z).Sr (fun d u hd y=>kb d u (fun w=>?_) y) (fun _ y=>y) fun _ _ y=>y
    rcases hd with r|r
    ·rw[<-r,w,I6.free] at z;cases z
    ·rw[w,I6.free] at r;cases r
end
end L2
namespace L2
open PySem PySem.Spec PyProof.Rows
section
variable {X:Cx}
noncomputable def CB (i j:Int):Prop:=i.natAbs<2^250/\j.natAbs<2^250
theorem YS {i:Int} (h:i.natAbs<2^250):Builtin.Int.intBits i<=251:=by
 unfold Builtin.Int.intBits
 by_cases z:i=0
 ·rw[z];decide
 ·have:(i==0)=false:=beq_eq_false_iff_ne.mpr z
  rw[this,if_neg (by decide)]
  have h2:=(Nat.log2_lt (n:=i.natAbs) (k:=250) (by omega)).mpr h
  omega
theorem CB.ok {i j:Int} (h:CB i j):IntMulOk i j:=by
 have h1:=YS h.1
 have h2:=YS h.2
 have hc:Builtin.Int.intTooBig (Builtin.Int.intBits i+Builtin.Int.intBits j)=false:=by
  unfold Builtin.Int.intTooBig bitsLine
  exact decide_eq_false (by omega)
 unfold IntMulOk
 rw[hc]
 simp
theorem Bl:OpR X (binaryOp .Mult) (rI CB fun i j=>.int (i*j)):=opI fun _ _ _ _ _ _ _ hc q=>mul_int q hc.ok
noncomputable def CDB (i j:Int):Prop:=0<j/\j<2^250
theorem BY:OpR X (binaryOp .FloorDiv) (rI CDB fun i j=>.int (i/j)):=opI fun i j _ _ _ _ _ hc q=>by
 have h1:0<j:=hc.1
 have h2:j<2^250:=hc.2
 refine floordiv_int (by omega) (by rw[Int.fdiv_eq_ediv_of_nonneg i (by omega)];exact q) (.inl (PyProof.noPylong_of_log2 ?_))
 have h3:=(Nat.log2_lt (n:=j.natAbs) (k:=250) (by omega)).mpr (by omega)
 omega
end
section
variable {X:Cx}{e value:Expr}{es:List Expr}{te ta:TE}{pos:Pos}
theorem cg:MtR X "str.zfill" (fun x xs H Q=>∃a i,x = .str a/\xs=[.int i]/\PadOk i=true/\Q (.str (Txt.zfill a i)) H):=by
 intro pins s σ H x xs v us Q I rx rs h
 obtain ⟨a,i,rfl,rfl,hp,h⟩:=h
 obtain ⟨t,rfl⟩:=rx
 obtain ⟨u,rfl,ru⟩:=vals1 rs
 obtain ⟨t2,rfl⟩:=ru
 exact PySem.SC.zfill hp fun t' k=>⟨.str (Txt.zfill a i),H,I.tok k,⟨t',rfl⟩,h⟩
theorem Ye:MtR X "str.rstrip" (fun x xs H Q=>∃a b,x = .str a/\xs=[.str b]/\a.length<=sizeLine/\Q (.str (Txt.rstripChars a b)) H):=by
 intro pins s σ H x xs v us Q I rx rs h
 obtain ⟨a,b,rfl,rfl,hz,h⟩:=h
 obtain ⟨t,rfl⟩:=rx
 obtain ⟨u,rfl,ru⟩:=vals1 rs
 obtain ⟨t2,rfl⟩:=ru
 exact PyProof.Rows.SCL.rstripChars (fun t' k _=>⟨.str (Txt.rstripChars a b),H,I.tok k,⟨t',rfl⟩,h⟩) hz
noncomputable def kn (ta:TE):TE:=fun σ H Q=>ta σ H fun x H1=>(∃y,x = .str y/\y.length<=sizeLine/\Q (.str y) H1)\/(∃i,x = .int i/\i.natAbs.log2<1920/\Q (.str (toString i)) H1)
theorem Gy (ha:PE X value ta):PE X (.FormattedValue value (-1) none pos) (kn ta):=by
 intro pins s σ H Q I h
 refine FormattedValue_plain (thn (ha pins s σ H _ I h) fun u s1 ⟨x,H1,I1,r1,q⟩=>?_)
 rcases q with ⟨y,rfl,hz,q⟩|⟨i,rfl,hl,q⟩
 ·obtain ⟨t,rfl⟩:=r1
  exact formatField_str (fun t' tk=>⟨.str y,H1,I1.tok tk,⟨t',rfl⟩,q⟩) hz
 ·obtain ⟨t,rfl⟩:=r1
  exact formatField_int_small hl ⟨.str (toString i),H1,I1.tok _,⟨_,rfl⟩,q⟩
noncomputable def tJ:List TE->Str->TE
 |[],out=>fun _ H Q=>out.length<=sizeLine/\Q (.str out) H
 |t::ts,out=>fun σ H Q=>t σ H fun x H1=>∃y,x = .str y/\(out++y).length<=sizeLine/\tJ ts (out++y) σ H1 Q
noncomputable def PJ (X:Cx) (es:List Expr) (ts:List TE):Prop:=∀(out:Str) (pins:List (Addr×Obj)) (s:Shared) (σ:St) (H:Hp) (Q:VK),Inv X pins σ H s->tJ ts out σ H Q->wpAny (model X.prog X.w) X.A (joinParts out (evalEach es X.env)) (EP X pins σ Q) X.xe s
theorem Vb:PJ X [] []:=fun out pins s σ H Q I h=>by
 unfold evalEach
 exact joinParts_nil ⟨.str out,H,I.tok _,⟨_,rfl⟩,h.2⟩ h.1
theorem BO {ts:List TE} (he:PE X e te) (hr:PJ X es ts):PJ X (e::es) (te::ts):=fun out pins s σ H Q I h=>by
 unfold evalEach
 refine joinParts_cons (thn (he pins s σ H _ I h) fun u s1 ⟨x,H1,I1,r1,y,ex,hz,q⟩=>?_)
 subst ex
 obtain ⟨t,rfl⟩:=r1
 exact ⟨hz,hr _ pins s1 σ H1 Q I1 q⟩
theorem IU {e2:Expr}{ts:List TE} (h:PJ X (e::e2::es) ts):PE X (.JoinedStr (e::e2::es) pos) (tJ ts Str.empty):=fun pins s σ H Q I q=>JoinedStr_many (h Str.empty pins s σ H Q I q)
end
noncomputable def ev4 {α:Type}:List α->List α
 |a::_::_::_::r=>a::ev4 r
 |a::_=>[a]
 |[]=>[]
theorem Vals.jP (n:Nat):∀{xs:List V}{us:List Value},xs.length<=n->Vals xs us->Vals (L2.ev4 xs) (L2.ev4 us):=by
 induction n with
 |zero=>
  intro xs us h v
  cases v with
  |nil=>exact .nil
  |cons _ _=>exact absurd h (Nat.not_succ_le_zero _)
 |succ n ih=>
  intro xs us h v
  cases v with
  |nil=>exact .nil
  |cons r v=>
   cases v with
   |nil=>exact .cons r .nil
   |cons _ v=>
    cases v with
    |nil=>exact .cons r .nil
    |cons _ v=>
     cases v with
     |nil=>exact .cons r .nil
     |cons _ v=>exact .cons r (ih (Nat.le_of_succ_le (Nat.le_of_succ_le (Nat.le_of_succ_le (Nat.le_of_succ_le_succ h)))) v)
theorem Vals.ev4 {xs:List V}{us:List Value} (v:Vals xs us):Vals (L2.ev4 xs) (L2.ev4 us):=Vals.jP _ (Nat.le_refl _) v
theorem Zb {α:Type}:∀l:List α,(ev4 l).length<=l.length
 |[]=>Nat.le_refl _
 |[a]=>by simp[ev4]
 |[a,_]=>by simp[ev4]
 |[a,_,_]=>by simp[ev4]
 |a::_::_::_::r=>by
  have:=Zb r
  simp only [ev4,List.length_cons]
  omega
theorem SI {α:Type}:∀l:List α,(List.range ((l.length+3)/4)).filterMap (fun j=>l[4*j]?)=ev4 l
 |[]=>by simp[ev4]
 |[a]=>by simp[ev4,List.range_succ]
 |[a,b]=>by simp[ev4,List.range_succ]
 |[a,b,c]=>by simp[ev4,List.range_succ]
 |a::b::c::d::r=>by
  have ih:=SI r
  have e:((a::b::c::d::r).length+3)/4=(r.length+3)/4+1:=by simp only [List.length_cons];omega
  rw[e,List.range_succ_eq_map,List.filterMap_cons]
  show a::_=ev4 (a::b::c::d::r)
  rw[ev4,<-ih,List.filterMap_map]
  congr 1
theorem jm (its:List Value) (k:Nat):slicePick its.toArray (some (k:Int)) none (some 4)=(ev4 (its.drop k)).toArray:=by
 unfold slicePick sliceBounds sliceRange
 congr 1
 have hk:¬((k:Int)<0):=by omega
 simp only [Option.getD_some,List.size_toArray,if_pos (show (4:Int) > 0 by decide),if_neg hk]
 have ea:max (0:Int) (min (k:Int) (its.length:Int))=((min k its.length:Nat):Int):=by omega
 rw[ea,<-SI,List.filterMap_map,List.length_drop]
 have ec:(if ((min k its.length:Nat):Int)<(its.length:Int) then ((its.length:Int)-((min k its.length:Nat):Int)+4-1)/4 else 0).toNat=(its.length-k+3)/4:=by
  by_cases h:k<its.length
  ·rw[if_pos (by omega)];omega
  ·rw[if_neg (by omega)];omega
 rw[ec]
 by_cases h:k<its.length
 ·congr 1
  funext j
  show its.toArray[(((min k its.length:Nat):Int)+4*((j:Nat):Int)).toNat]?=(its.drop k)[4*j]?
  rw[show (((min k its.length:Nat):Int)+4*((j:Nat):Int)).toNat=k+4*j by omega,List.getElem?_drop]
  simp
 ·rw[show (its.length-k+3)/4=0 by omega]
  rfl
section
variable {X:Cx}{e:Expr}{te:TE}{j1 j2:Nat}{q1 q2 pos p2:Pos}{k:Nat}
noncomputable def km (K:PySem.W.Frag) (k:Nat) (te:TE):TE:=fun σ H Q=>te σ H fun x H1=>∃a xs,x = .ref a/\SqL K H1 a xs/\∀p,H1 p=none->Q (.ref p) (upd H1 p (.lst (ev4 (xs.drop k))))
theorem UW (he:PE X e te):PE X (.Subscript e (.Slice (some (.Constant (.int (k:Nat)) j1 q1)) none (some (.Constant (.int 4) j2 q2)) p2) pos) (km X.K k te):=by
 intro pins s σ H Q I h
 refine Subscript_ (thn (he pins s σ H _ I h) fun v s1 ⟨x,H1,I1,r1,a,xs,ex,hx,q⟩=>?_)
 subst ex
 obtain rfl:v=Value.ref a:=r1
 refine wpAny_Slice ?_
 rw[evalPart_some]
 refine wpAny_Constant_int ?_
 rw[evalPart_none]
 refine wpAny_pure ?_
 rw[evalPart_some]
 refine wpAny_Constant_int ?_
 have I4:=I1.kept (h':=s1.heap.push { cls:=.type "slice",data:=.fields #[.int (k:Nat) s1.toks,.none,.int 4 (s1.toks+1)] }) (t':=s1.toks+1+1) fun b ob q=>Heap.get?_push_of_some _ q
 obtain ⟨its,r,ht,hz⟩:=I4.list hx
 have hlen:=r.length
 refine tail_any (ops:=[.ref a,.ref s1.heap.objs.size]) (T:="list") ht.isList.typeIs slot_list_getitem.lookup ?_ (by with_unfolding_all rfl)
 refine wpAny_getItem_list_slice ht.isList (Heap.IsSliceOf.new ..) (.int _ _) .none (.int _ _) (by simp) ?_ (by rw[List.size_toArray]<;>omega)
 rw[jm]
 refine ⟨.ref _,_,I4.laid (o:=.lst (ev4 (xs.drop k))) (fun b ob q=>Heap.get?_push_of_some _ q) (Nat.le_refl _) ?_,rfl,q _ (I4.hok.fresh (Nat.le_refl _))⟩
 exact ⟨Nat.le_trans (Zb _) (Nat.le_trans (by rw[List.length_drop];omega) hz),_,0,(r.drop k).ev4,Heap.get?_push_size _ rfl⟩
noncomputable def jq (K:PySem.W.Frag):R2:=fun x y H Q=>∃p xs,∃i:Int,∃v,x = .ref p/\y = .int i/\SqL K H p xs/\0<=i/\xs[i.toNat]?=some v/\Q v H
theorem bS:iQ X (jq X.K):=by
 intro pins s σ H o i ov iv Q I r1 r2 h
 obtain ⟨p,xs,i,v,rfl,rfl,hq,h0,hv,q⟩:=h
 cases r1
 obtain ⟨t,rfl⟩:=r2
 obtain ⟨its,r,pl,hz⟩:=I.list hq
 obtain ⟨w,ew,rw'⟩:=r.get hv
 have hl:=r.length
 have hn:=JX
 have h2:i.toNat<xs.length:=(List.getElem?_eq_some_iff.mp hv).1
 exact wpAny_getItem_list pl.isList h0 (by omega) (by simpa using ew) ⟨v,H,I,rw',q⟩
end
end L2
namespace PySem
open Sem (wp)
open AutoSeq1 (wpAny_loadPart')
noncomputable abbrev HC (l:Addr):Obj:={ cls:=.type "list_iterator",data:=.fields #[.ref l,.int 0 0] }
noncomputable abbrev Mj (it:Addr):Obj:={ cls:=.type "enumerate",data:=.fields #[.none,.bool false,.ref it,rawInt 1,.none,.none] }
theorem ZN (l:Addr) (items:Array Value) (n:Nat) (dct:Option Addr) (sl:Array (Option Value)) (t:Tok) :
  Meets (Builtin.«enumerate.__new__» ⟨[.type "enumerate",.ref l],[("start",.int 1 t)]⟩) (fun _ R s=>s.heap.get? l=some { cls:=.type "list",dict:=dct,data:=.seq items n,slots:=sl } /\
   R (.ok (.ret (.ref (s.heap.push (HC l)).objs.size))) { s with heap:=(s.heap.push (HC l)).push (Mj s.heap.objs.size) }):=
 .of_wp fun prog w A R s h=>by
  obtain ⟨heap,gs,dr,tks,osx⟩:=s;obtain ⟨hl,h⟩:=h
  have sE:=sub_enumerate
  have LL:Heap.IsList (Shared.heap ⟨heap,gs,dr,tks,osx⟩) l items:=⟨_,hl,rfl,n,rfl⟩
  have f1:=AutoSeq1.idx_int
  wp_walk using wpAny_loadPart' hl
  refine wpAny_stack_any fun stk=>wpAny_pure ?_
  split
  ·rename_i cc _ _ _ _ _
   cases (cc==Value.type "enumerate")
   ·wp_walk using wpAny_loadPart' hl,wpAny_pyIter_list LL
    exact ⟨_,rfl,h⟩
   ·wp_walk using wpAny_loadPart' hl,wpAny_pyIter_list LL
    exact ⟨_,rfl,h⟩
  ·wp_walk using wpAny_loadPart' hl,wpAny_pyIter_list LL
   exact ⟨_,rfl,h⟩
theorem bM (x y:Value):checkTypeCall "enumerate" ⟨[x],[("start",y)]⟩=pure ():=by kernel_rfl
theorem bK (x y:Value):checkBuiltinCall "enumerate.__new__" ⟨[.type "enumerate",x],[("start",y)]⟩=pure ():=by kernel_rfl
theorem bL (x y z:Value):argsOk "object.__init__" ⟨[x,y],[("start",z)]⟩:=by
 unfold argsOk
 rw[signature?_of (id:="object.__init__") (n:=['_','_','t','i','n','i','_','_']) (o:=['t','c','e','j','b','o']) (by kernel_rfl) F.owner_object]
 kernel_rfl
theorem XB (self x y:Value):Meets (Builtin.«object.__init__» ⟨[self,x],[("start",y)]⟩) (fun _ R s=>s.TypeIs self "enumerate"/\R (.ok (.ret .none)) s):=by
 have hl:=F.called_enumerate.init.lookup
 have hm:=F.called_enumerate.made
 have hne:(some "enumerate.__new__" != some "object.__new__")=true:=by decide
 refine Meets.of_wp fun prog w A R s hs=>?_
 obtain ⟨hT,hq⟩:=hs
 repeat (any_goals (first|assumption|wp_step))
 exact ⟨_,rfl,hq⟩
section
variable {prog:Program}{w:World}{A:Around}{E:Value->Shared->Prop}{s:Shared}
theorem XA {l:Addr}{items:Array Value}{t:Tok}{Q:Value->Shared->Prop} (hL:s.heap.IsList l items)
  (h:∀h',IsEnum h' (s.heap.objs.size+1) s.heap.objs.size 1 .none->h'.IsListIter s.heap.objs.size l 0->h'.objs.size=s.heap.objs.size+2->(∀b o,s.heap.get? b=some o->h'.get? b=some o)->Q (.ref (s.heap.objs.size+1)) { s with heap:=h' }) :
  wpAny (model prog w) A (call (.type "enumerate") [.ref l] [("start",.int 1 t)]) Q E s:=by
 obtain ⟨⟨cc,dct,dt,sl⟩,hl,hc,n,hd⟩:=hL
 replace hc:cc = .type "list":=hc
 replace hd:dt = .seq items n:=hd
 subst hc hd
 have ft:=F.called_enumerate
 obtain ⟨c,tl,em⟩:=ft.mro
 have e1:=ft.made
 have e2:=ft.sub
 have e3:=bM (.ref l) (.int 1 t)
 refine wpAny_call (codeAny_of_tree ?_)
 show wpAny _ _ (callAny (.type "enumerate") _) _ _ _
 refine wpAny_pure ⟨Code.quiet_builtin _ (by decide +kernel),codeAny_builtin F.entry_type_call ?_⟩
 rw[Around.under_plain (weight_type_call_type "enumerate" [.ref l] [("start",.int 1 t)]) (units_type_call_type "enumerate" [.ref l] [("start",.int 1 t)])]
 have h1:=ft.notType
 have h2:=ft.canCreate
 repeat (any_goals (first|assumption|wp_step))
 refine codeAny_mono (codeAny_call_builtin ft.plain F.entry_enumerate_new (wpAny_of_eq (bK (.ref l) (.int 1 t)) (ZN l items n dct sl t prog w A.in1 (wants (fun obj s1=>obj = .ref (s.heap.objs.size+1)/\s1={ s with heap:=(s.heap.push (HC l)).push (Mj s.heap.objs.size) }) E) s ⟨hl,?_⟩))) fun r s1 hr=>?_
 ·show _/\_
  exact ⟨by rw[Heap.size_push],rfl⟩
 cases r with
 |error e=>exact hr
 |ok fl=>
  cases fl with
  |ret obj=>
   obtain ⟨rfl,rfl⟩:=hr
   have hz:(s.heap.push (HC l)).objs.size=s.heap.objs.size+1:=Heap.size_push ..
   have he:IsEnum ((s.heap.push (HC l)).push (Mj s.heap.objs.size)) (s.heap.objs.size+1) s.heap.objs.size 1 .none:=by
    have:=Heap.get?_push_size (s.heap.push (HC l)) (o:=Mj s.heap.objs.size) rfl
    rw[hz] at this
    exact this
   have hT:Shared.TypeIs { s with heap:=(s.heap.push (HC l)).push (Mj s.heap.objs.size) } (.ref (s.heap.objs.size+1)) "enumerate":=⟨_,he,rfl⟩
   have g1:=ft.init.lookup
   have g2:=ft.init.bind (.ref (s.heap.objs.size+1))
   repeat (any_goals (first|assumption|wp_step))
   refine codeAny_mono (codeAny_call_builtin ft.init.plain F.entry_object_init (ft.init.check _ _ _ _ _ _ _ _ hT (bL _ _ _) (XB _ _ _ prog w A.in1 (wants (fun r s2=>r = .none/\s2={ s with heap:=(s.heap.push (HC l)).push (Mj s.heap.objs.size) }) E) _ ⟨hT,?_⟩))) fun r2 s2 hr2=>?_
   ·exact ⟨rfl,rfl⟩
   cases r2 with
   |error e=>exact hr2
   |ok f2=>
    cases f2 with
    |ret r=>
     obtain ⟨rfl,rfl⟩:=hr2
     have fin:=h _ he ⟨_,Heap.get?_push_of_some _ (Heap.get?_push_size _ rfl),rfl,rfl⟩ (by rw[Heap.size_push,hz]) fun b o x=>Heap.get?_push_of_some _ (Heap.get?_push_of_some _ x)
     repeat (any_goals (first|assumption|wp_step))
    |_=>exact hr2.elim
  |_=>exact hr.elim
end
end PySem
namespace L2
open PySem PySem.Spec PyProof.Rows
noncomputable def bh (K:PySem.W.Frag) (a:Addr):It:=
 ⟨fun i H=>∃(xs:List V) (x:V),SqL K H a xs/\xs[i]?=some x,fun i H v H'=>∃T x,v = .ref T/\H T=none/\H'=upd H T (.tup [.int ((i:Nat)+1:Nat),x])/\∀xs,SqL K H a xs->xs[i]?=some x,fun i H=>∃xs:List V,SqL K H a xs/\xs.length<=i⟩
theorem gB {P:Program}{w:World}{A:Around}{it a:Addr}{items:Array Value} (hh:A.handled=none) (hne:a≠it) :
  Draws P w A it [it,a] (items.size+1) (fun j v=>items[j-1]?=some v) (fun j h=>1<=j/\h.IsListIter it a (j-1)/\h.IsList a items) where
 live:=fun i h st=>let ⟨_,⟨o,ho,_⟩,_⟩:=st;⟨o,ho⟩
 frame:=fun i h h' st k=>by
  obtain ⟨h1,hi,⟨o,ho,r⟩⟩:=st
  exact ⟨h1,hi.at fun o q=>k it (by simp) o q,⟨o,k a (by simp) o ho,r⟩⟩
 item:=fun j s Q E hj st hQ=>by
  obtain ⟨h1,hi,hl⟩:=st
  obtain ⟨x,hx⟩:∃x,items[j-1]?=some x:=⟨_,Array.getElem?_eq_getElem (by omega)⟩
  refine wpAny_nextOf_list_item hi hl hx fun h' hi' sb=>hQ x h' s.toks hx ⟨by omega,by rw[show j+1-1=j-1+1 by omega];exact hi',?_⟩ sb
  obtain ⟨o,ho,r⟩:=hl
  exact ⟨o,(sb.2 a hne).trans ho,r⟩
 done:=fun s Q E st hE=>by
  obtain ⟨h1,hi,hl⟩:=st
  exact wpAny_nextOf_list_end hh hi hl (by simp) hE
theorem ZM {P:Program}{w:World}{A:Around}{it a:Addr}{items:Array Value}{i:Nat} (hh:A.handled=none) (hi:items.size<=i) :
  Draws P w A it [it,a] (i+1) (fun _ _=>True) (fun j h=>j=i+1/\h.IsListIter it a i/\h.IsList a items) where
 live:=fun j h st=>let ⟨_,⟨o,ho,_⟩,_⟩:=st;⟨o,ho⟩
 frame:=fun j h h' st k=>by
  obtain ⟨h1,hi,⟨o,ho,r⟩⟩:=st
  exact ⟨h1,hi.at fun o q=>k it (by simp) o q,⟨o,k a (by simp) o ho,r⟩⟩
 item:=fun j s Q E hj st hQ=>by
  obtain ⟨h1,_⟩:=st
  omega
 done:=fun s Q E st hE=>by
  obtain ⟨h1,hi',hl⟩:=st
  exact wpAny_nextOf_list_end hh hi' hl (Array.getElem?_eq_none hi) hE
theorem YI {P:Program}{w:World}{K:PySem.W.Frag}{elts:List Expr}{kk:Nat}{tpos:Pos} (a e it:Addr) :
  Turn P w K (.Tuple elts kk tpos) (bh K a) [e,it] e (fun i h=>(∃old,IsEnum h e it (((i:Nat)+1:Nat):Int) old)/\h.IsListIter it a i/\e≠it) where
 mem:=by simp
 obj:=fun i h st b hb=>by
  obtain ⟨⟨old,he⟩,⟨o,ho,hc,hd⟩,_⟩:=st
  rcases (show b=e\/b=it by simpa using hb) with rfl|rfl
  ·exact ⟨_,he,fun v q=>nomatch q⟩
  ·exact ⟨o,ho,fun v q=>by rw[hd] at q;cases q⟩
 keep:=fun i h h' st k=>let ⟨⟨old,he⟩,hi,hne⟩:=st;⟨⟨old,k e (by simp) _ he⟩,hi.at fun o q=>k it (by simp) o q,hne⟩
 item:=by
  intro X hP hw hK hc i pins s σ H E I hf st hg
  subst hP hw hK
  obtain ⟨⟨old,he⟩,hit,hne⟩:=st
  obtain ⟨xs,x,hq,hx⟩:=hg
  obtain ⟨its,rv,p,hz⟩:=I.list hq
  obtain ⟨u,hu,ru⟩:=rv.get hx
  have hel:e<s.heap.objs.size:=Heap.lt_size he
  have hil:it<s.heap.objs.size:=by obtain ⟨_,q,_⟩:=hit;exact Heap.lt_size q
  have hlen:=rv.length
  have hilt:i<its.length:=(List.getElem?_eq_some_iff.mp hu).1
  have nai:a≠it:=fun z=>by
   obtain ⟨o1,q1,c1,_⟩:=p.isList
   obtain ⟨o2,q2,c2,_⟩:=hit
   rw[z,q2] at q1
   cases q1
   exact absurd (Value.type.inj (c1.symm.trans c2)) (by decide)
  have nae:e≠a:=fun z=>by
   obtain ⟨o1,q1,c1,_⟩:=p.isList
   have he':s.heap.get? e=some _:=he
   rw[z,q1] at he'
   have h2:=Option.some.inj he'
   rw[h2] at c1
   exact absurd (Value.type.inj c1) (by decide)
  have hh:X.A.handled=none:=I.ok.hd hc
  refine wpAny_pyNext_enum_itemD (gB (items:=its.toArray) (A:=X.A.in1) hh nai) (i:=i+1) he ⟨by omega,hit,p.isList⟩ (by simpa using hilt) hne (by simp[hne,nae]) fun x' h' tk hx' ho hst' hT hsz hk=>?_
  have hxu:x'=u:=by
   have e1:its.toArray[i]?=some x':=hx'
   rw[show its.toArray[i]?=some u by simpa using hu] at e1
   exact (Option.some.inj e1).symm
  subst hxu
  refine ⟨_,rfl,wpAny_letOwnedTupleGo_enum (s:={ s with heap:=h',toks:=tk+1 }) ho fun h'' he' sb=>?_⟩
  have hT2:=(sb.2 _ (Nat.ne_of_gt hel)).trans hT
  have new:BH X.prog X.w (upd H s.heap.objs.size (.tup [.int ((i:Nat)+1:Nat),x])) h'' s.heap.objs.size (.tup [.int ((i:Nat)+1:Nat),x]):=
   ⟨by show 2<=sizeLine;decide,[.int ((i:Nat)+1:Nat) tk,x'],.cons ⟨_,rfl⟩ (.cons ru .nil),⟨_,hT2,rfl,_,rfl⟩⟩
  have I1:=I.Tt (ch:=[e,it]) (t':=tk+1) (fun b ob hb q=>(sb.2 b (fun z=>hb (by simp[z]))).trans (hk b ob (fun z=>hb (by simp[z])) (fun z=>hb (by simp[z])) q)) hf (Nat.le_refl _) new
  refine ⟨.ref s.heap.objs.size,_,I1,rfl,⟨_,x,rfl,I.hok.fresh (Nat.le_refl _),rfl,fun ys hy=>by rw[I.PV hy hq];exact hx⟩,⟨⟨x',?_⟩,?_,hne⟩,fun b hb=>?_⟩
  ·rw[show (((i+1:Nat)+1:Nat):Int)=((i+1:Nat):Int)+1 by omega]
   exact he'
  ·exact hst'.2.1.at fun o q=>(sb.2 it (Ne.symm hne)).trans q
  ·have hb':b<s.heap.objs.size:=by
    rcases (show b=e\/b=it by simpa using hb) with rfl|rfl
    ·exact hel
    ·exact hil
   rw[Ai (Nat.ne_of_lt hb')]
   exact (hf b hb).1
 done:=by
  intro X hP hw hK hc i pins s σ H E I hf st hg
  subst hP hw hK
  obtain ⟨⟨old,he⟩,hit,hne⟩:=st
  obtain ⟨xs,hq,hx⟩:=hg
  obtain ⟨its,rv,p,hz⟩:=I.list hq
  obtain ⟨f0,f1,f2,f3,f4,f5⟩:=hf it (by simp)
  have hl:=rv.length
  refine wpAny_pyNext_enum_endD (ZM (A:=X.A.in1) (items:=its.toArray) (i:=i) (I.ok.hd hc) (by simp;omega)) he ⟨rfl,hit,p.isList⟩ fun h' eb=>⟨rfl,I.turned (t':=s.toks) (fun b o hb q=>eb b o hb q) f0 f1 f3 f4 f5⟩
 self:=fun A i s Q E st h=>let ⟨⟨_,he⟩,_⟩:=st;wpAny_pyIter_enum he h
theorem jE {M:Model}{A:Around}{E:Value->Shared->Prop}{s:Shared}{pos:Pos}{T:String}{args:List (Bool×Sem Value)}{kws:List (Option Str×Sem Value)}{Q:Value->Shared->Prop} (hp:(args.any (·.1)||kws.any (·.1.isNone))=false)
  (h:wpAny M A (evalArgs (.type T) true args kws) (fun b u=>wpAny M A (call (.type T) b.pos b.kw) Q E u) E s):wpAny M A (callWith pos (.type T) [] args kws) Q E s:=by
 unfold callWith
 refine wpAny_bind (wpAny_holding (wpAny_mono h (fun b u hu=>wpAny_bind (wpAny_standAt ?_)) fun _ _ y=>y))
 simp only [hp]
 refine wpAny_bind (wpAny_pure ?_)
 exact wpAny_bind (wpAny_mono hu (fun r u2 hr=>wpAny_bind (wpAny_holding (wpAny_point (wpAny_pure hr)))) fun _ _ y=>y)
noncomputable def gI (K:PySem.W.Frag) (ta:TA):TI:=fun σ H R=>ta σ H fun vs H1=>∃a xs,vs=[.ref a]/\SqL K H1 a xs/\R (bh K a) H1
theorem cD {X:Cx}{e:Expr}{ta:TA}{p pos tpos kpos cpos:Pos}{elts:List Expr}{kk j:Nat} (hg:Gl X "enumerate") (hm:X.mg "enumerate" = none) (ha:PA X [e] ta) (hs:starEach [e] X.env=[(false,eval e X.env)]:=by rfl) :
  PI X (.Tuple elts kk tpos) (.Call (.Name "enumerate" p) [e] [⟨some "start",.Constant (.int 1) j cpos,kpos⟩] pos) (gI X.K ta):=by
 intro pins s σ H R I h
 refine wpAny_Call_Name_kw (Mr I hg hm boot_enumerate (jE (by rw[hs];rfl) (PyProof.Rows.evalArgs_kw2 rfl (thn (ha pos pins s σ H _ I h) fun us s1 ⟨vs,H1,I1,r1,q1⟩=>?_) hs)))
 refine thn (eZ (nm:=some "start") (kpos:=kpos) (X:=X) (Ao (i:=1) (j:=j) (pos:=cpos)) il pos pins s1 σ H1 (fun zs H2=>zs=[.int 1]/\H2=H1) I1 ⟨rfl,rfl⟩) fun ws s2 ⟨zs,H2,I2,rz,ez,eH⟩=>?_
 subst ez eH
 obtain ⟨w1,rfl,t1,rfl⟩:=vals1 rz
 obtain ⟨a,xs,ex,hq,q⟩:=q1
 subst ex
 obtain rfl:=Vals.ir r1
 obtain ⟨its,rv,p',hz⟩:=I2.list hq
 refine XA p'.isList fun h' he hit hsz hk=>wpAny_pyIter_enum he ?_
 have I3:Inv X pins σ H2 { s2 with heap:=h' }:=I2.kept (t':=s2.toks) hk
 refine ⟨s2.heap.objs.size+1,[s2.heap.objs.size+1,s2.heap.objs.size],_,_,H2,rfl,I3,YI a (s2.heap.objs.size+1) s2.heap.objs.size,⟨⟨.none,he⟩,hit,Nat.succ_ne_self _⟩,fun b hb=>?_,q⟩
 have hle:s2.heap.objs.size<=b:=by
  rcases (show b=s2.heap.objs.size+1\/b=s2.heap.objs.size by simpa using hb) with z|z
  ·rw[z];exact Nat.le_succ _
  ·rw[z];exact Nat.le_refl _
 exact I2.XR hle (I2.hok.fresh hle)
end L2
namespace Td
open PySem PySem.Spec PyProof.Rows L2
noncomputable def top (i:Nat):Stmt:=PySem.Challenge.pw_tidemachine_s01_answers.main.body.getD i (.Pass ⟨0,0,0,0⟩)
noncomputable abbrev LC:Stmt:=inClass (top 3) 0
noncomputable abbrev QV:Stmt:=top 7
noncomputable abbrev NN:Stmt:=top 8
noncomputable abbrev QZ:Stmt:=top 9
noncomputable abbrev Jz:Stmt:=inClass (top 10) 0
noncomputable abbrev JA:Stmt:=inClass (top 10) 1
noncomputable abbrev Hj:Stmt:=inClass (top 10) 2
noncomputable abbrev Hi:Stmt:=inClass (top 10) 3
noncomputable abbrev EZ:Stmt:=inClass (top 10) 4
noncomputable abbrev Ee:Stmt:=inClass (top 10) 5
noncomputable abbrev Eg:Stmt:=inClass (top 10) 6
noncomputable abbrev EY:Stmt:=inClass (top 10) 7
noncomputable abbrev Ef:Stmt:=inClass (top 10) 8
noncomputable abbrev Ex:Stmt:=inClass (top 10) 9
noncomputable abbrev DH:Stmt:=inClass (top 10) 10
noncomputable abbrev LD:Stmt:=inClass (top 22) 0
noncomputable abbrev Ij:Stmt:=inClass (top 23) 0
noncomputable abbrev Iw:Stmt:=top 24
noncomputable abbrev LQ:Stmt:=top 25
noncomputable abbrev LO:Stmt:=top 26
noncomputable abbrev LN:Stmt:=top 27
noncomputable abbrev NR:Stmt:=top 28
noncomputable abbrev Ip:Stmt:=top 29
noncomputable abbrev LH:Stmt:=top 30
noncomputable abbrev Ti:Stmt:=top 31
noncomputable abbrev En:Stmt:=top 32
noncomputable abbrev Iv:Stmt:=top 33
noncomputable abbrev Iu:Stmt:=top 34
noncomputable abbrev Ki:Stmt:=top 35
noncomputable abbrev Iq:Stmt:=top 37
noncomputable abbrev Ga:Stmt:=top 38
noncomputable abbrev QY:Stmt:=top 40
noncomputable abbrev QX:Stmt:=top 41
noncomputable abbrev LI:Stmt:=top 42
noncomputable abbrev NI:Stmt:=inClass (top 63) 0
noncomputable abbrev NH:Stmt:=inClass (top 64) 0
noncomputable abbrev NG:Stmt:=inClass (top 65) 0
noncomputable abbrev QW:Stmt:=top 66
noncomputable abbrev NQ:Stmt:=top 67
noncomputable abbrev LK:Stmt:=top 68
noncomputable abbrev NU:Stmt:=top 69
noncomputable abbrev NS:Stmt:=top 70
noncomputable abbrev LP:Stmt:=top 71
noncomputable abbrev NT:Stmt:=top 72
noncomputable abbrev LM:Stmt:=top 73
noncomputable abbrev JH:Stmt:=top 74
noncomputable abbrev JF:Stmt:=top 75
noncomputable abbrev Dv:Stmt:=top 76
noncomputable abbrev JG:Stmt:=top 77
noncomputable abbrev NJ:Stmt:=top 78
noncomputable abbrev JJ:Stmt:=top 81
noncomputable abbrev Kj:Stmt:=top 82
noncomputable abbrev DP:Stmt:=top 84
noncomputable abbrev Fx:Stmt:=top 85
noncomputable abbrev NM:Stmt:=top 86
noncomputable abbrev QT:Stmt:=top 93
noncomputable abbrev LJ:Stmt:=top 94
noncomputable abbrev Gb:Stmt:=top 95
noncomputable abbrev Ey:Stmt:=top 96
noncomputable abbrev Hk:Stmt:=top 97
noncomputable abbrev JI:Stmt:=top 98
noncomputable abbrev Iy:Stmt:=top 99
noncomputable abbrev NP:Stmt:=top 103
noncomputable abbrev Ir:Stmt:=top 104
noncomputable abbrev QU:Stmt:=top 105
noncomputable abbrev NF:Stmt:=inClass (top 127) 0
noncomputable abbrev ME:Stmt:=top 128
noncomputable abbrev JE:Stmt:=top 129
noncomputable abbrev NL:Stmt:=top 130
noncomputable abbrev JD:Stmt:=top 131
noncomputable abbrev DI:Stmt:=top 132
noncomputable abbrev Fw:Stmt:=top 133
noncomputable abbrev Il:Stmt:=top 134
noncomputable abbrev JC:Stmt:=top 135
noncomputable abbrev Io:Stmt:=top 136
noncomputable abbrev NK:Stmt:=top 137
noncomputable abbrev LG:Stmt:=top 138
noncomputable abbrev Im:Stmt:=top 139
noncomputable abbrev Ik:Stmt:=top 140
noncomputable abbrev JB:Stmt:=top 141
noncomputable abbrev NO:Stmt:=top 142
noncomputable abbrev Ut:List Str:=["self","kind","place"]
noncomputable abbrev Du:List Str:=["self","kind","place"]
theorem Sk:Am Ut Du (Ah LC):=⟨rfl,rfl,rfl,by decide +kernel,rfl,by decide +kernel,by decide +kernel⟩
noncomputable abbrev Yh:List Str:=["byte"]
noncomputable abbrev QC:List Str:=["byte"]
theorem WU:Am Yh QC (Ah QV):=⟨rfl,rfl,rfl,by decide +kernel,rfl,by decide +kernel,by decide +kernel⟩
noncomputable abbrev Ww:List Str:=["byte"]
noncomputable abbrev Nq:List Str:=["byte"]
theorem Vk:Am Ww Nq (Ah NN):=⟨rfl,rfl,rfl,by decide +kernel,rfl,by decide +kernel,by decide +kernel⟩
noncomputable abbrev Yl:List Str:=["digits","value","digit"]
noncomputable abbrev QH:List Str:=["digits"]
theorem Fy:Am Yl QH (Ah QZ):=⟨rfl,rfl,rfl,by decide +kernel,rfl,by decide +kernel,by decide +kernel⟩
noncomputable abbrev RQ:List Str:=["self","text"]
noncomputable abbrev Jn:List Str:=["self","text"]
theorem Ra:Am RQ Jn (Ah Jz):=⟨rfl,rfl,rfl,by decide +kernel,rfl,by decide +kernel,by decide +kernel⟩
noncomputable abbrev RR:List Str:=["self"]
noncomputable abbrev Jo:List Str:=["self"]
theorem Rb:Am RR Jo (Ah JA):=⟨rfl,rfl,rfl,by decide +kernel,rfl,by decide +kernel,by decide +kernel⟩
noncomputable abbrev Om:List Str:=["self","sign"]
noncomputable abbrev Ha:List Str:=["self","sign"]
theorem MG:Am Om Ha (Ah Hj):=⟨rfl,rfl,rfl,by decide +kernel,rfl,by decide +kernel,by decide +kernel⟩
noncomputable abbrev Ol:List Str:=["self"]
noncomputable abbrev GZ:List Str:=["self"]
theorem MF:Am Ol GZ (Ah Hi):=⟨rfl,rfl,rfl,by decide +kernel,rfl,by decide +kernel,by decide +kernel⟩
noncomputable abbrev Kc:List Str:=["self","word","sign"]
noncomputable abbrev EW:List Str:=["self","word"]
theorem EA:Am Kc EW (Ah EZ):=⟨rfl,rfl,rfl,by decide +kernel,rfl,by decide +kernel,by decide +kernel⟩
noncomputable abbrev HJ:List Str:=["self","words","word"]
noncomputable abbrev DZ:List Str:=["self","words"]
theorem DJ:Am HJ DZ (Ah Ee):=⟨rfl,rfl,rfl,by decide +kernel,rfl,by decide +kernel,by decide +kernel⟩
noncomputable abbrev HL:List Str:=["self","words"]
noncomputable abbrev Eb:List Str:=["self","words"]
theorem Hx:Am HL Eb (Ah Eg):=⟨rfl,rfl,rfl,by decide +kernel,rfl,by decide +kernel,by decide +kernel⟩
noncomputable abbrev Kb:List Str:=["self","first"]
noncomputable abbrev EV:List Str:=["self"]
theorem Ez:Am Kb EV (Ah EY):=⟨rfl,rfl,rfl,by decide +kernel,rfl,by decide +kernel,by decide +kernel⟩
noncomputable abbrev HK:List Str:=["self","most","digits"]
noncomputable abbrev Ea:List Str:=["self","most"]
theorem DK:Am HK Ea (Ah Ef):=⟨rfl,rfl,rfl,by decide +kernel,rfl,by decide +kernel,by decide +kernel⟩
noncomputable abbrev Jb:List Str:=["self","most"]
noncomputable abbrev Eu:List Str:=["self","most"]
theorem Iz:Am Jb Eu (Ah Ex):=⟨rfl,rfl,rfl,by decide +kernel,rfl,by decide +kernel,by decide +kernel⟩
noncomputable abbrev Hv:List Str:=["self","most","behind","digits","part"]
noncomputable abbrev DF:List Str:=["self","most","behind"]
theorem BG:Am Hv DF (Ah DH):=⟨rfl,rfl,rfl,by decide +kernel,rfl,by decide +kernel,by decide +kernel⟩
noncomputable abbrev Uu:List Str:=["self","name","name_place","size","start","start_place","pairs"]
noncomputable abbrev Lk:List Str:=["self","name","name_place","size","start","start_place","pairs"]
theorem Sl:Am Uu Lk (Ah LD):=⟨rfl,rfl,rfl,by decide +kernel,rfl,by decide +kernel,by decide +kernel⟩
noncomputable abbrev PX:List Str:=["self","teeth","minutes","trains"]
noncomputable abbrev HR:List Str:=["self","teeth","minutes","trains"]
theorem OD:Am PX HR (Ah Ij):=⟨rfl,rfl,rfl,by decide +kernel,rfl,by decide +kernel,by decide +kernel⟩
noncomputable abbrev Qj:List Str:=["text","reader","teeth","minutes","trains"]
noncomputable abbrev Ic:List Str:=["text"]
theorem Cu:Am Qj Ic (Ah Iw):=⟨rfl,rfl,rfl,by decide +kernel,rfl,by decide +kernel,by decide +kernel⟩
noncomputable abbrev UE:List Str:=["reader","name_place","name","size","start_place","start","pairs"]
noncomputable abbrev Lv:List Str:=["reader"]
theorem Cc:Am UE Lv (Ah LQ):=⟨rfl,rfl,rfl,by decide +kernel,rfl,by decide +kernel,by decide +kernel⟩
noncomputable abbrev UC:List Str:=["reader"]
noncomputable abbrev Ls:List Str:=["reader"]
theorem So:Am UC Ls (Ah LO):=⟨rfl,rfl,rfl,by decide +kernel,rfl,by decide +kernel,by decide +kernel⟩
noncomputable abbrev UB:List Str:=["reader","pairs"]
noncomputable abbrev Lr:List Str:=["reader"]
theorem JL:Am UB Lr (Ah LN):=⟨rfl,rfl,rfl,by decide +kernel,rfl,by decide +kernel,by decide +kernel⟩
noncomputable abbrev WA:List Str:=["reader","driving","driven"]
noncomputable abbrev Nw:List Str:=["reader"]
theorem GF:Am WA Nw (Ah NR):=⟨rfl,rfl,rfl,by decide +kernel,rfl,by decide +kernel,by decide +kernel⟩
noncomputable abbrev Qe:List Str:=["trains","names","number","train"]
noncomputable abbrev HY:List Str:=["trains"]
theorem Dh:Am Qe HY (Ah Ip):=⟨rfl,rfl,rfl,by decide +kernel,rfl,by decide +kernel,by decide +kernel⟩
noncomputable abbrev Uw:List Str:=["train","pair"]
noncomputable abbrev Lm:List Str:=["train"]
theorem JK:Am Uw Lm (Ah LH):=⟨rfl,rfl,rfl,by decide +kernel,rfl,by decide +kernel,by decide +kernel⟩
noncomputable abbrev ak:List Str:=["machine","teeth","minutes","text","train"]
noncomputable abbrev Tc:List Str:=["machine"]
theorem Fd:Am ak Tc (Ah Ti):=⟨rfl,rfl,rfl,by decide +kernel,rfl,by decide +kernel,by decide +kernel⟩
noncomputable abbrev GU:List Str:=["train","size","start","pairs","pair"]
noncomputable abbrev Hc:List Str:=["train"]
theorem BI:Am GU Hc (Ah En):=⟨rfl,rfl,rfl,by decide +kernel,rfl,by decide +kernel,by decide +kernel⟩
noncomputable abbrev Qi:List Str:=["size","whole","part"]
noncomputable abbrev Ib:List Str:=["size"]
theorem Er:Am Qi Ib (Ah Iv):=⟨rfl,rfl,rfl,by decide +kernel,rfl,by decide +kernel,by decide +kernel⟩
noncomputable abbrev Qh:List Str:=["pair","driving","driven"]
noncomputable abbrev Ia:List Str:=["pair"]
theorem Ep:Am Qh Ia (Ah Iu):=⟨rfl,rfl,rfl,by decide +kernel,rfl,by decide +kernel,by decide +kernel⟩
noncomputable abbrev Qc:List Str:=["text","sign"]
noncomputable abbrev QA:List Str:=["text"]
theorem IB:Am Qc QA (Ah Ki):=⟨rfl,rfl,rfl,by decide +kernel,rfl,by decide +kernel,by decide +kernel⟩
noncomputable abbrev Qg:List Str:=["above","below","common"]
noncomputable abbrev HZ:List Str:=["above","below"]
theorem Ho:Am Qg HZ (Ah Iq):=⟨rfl,rfl,rfl,by decide +kernel,rfl,by decide +kernel,by decide +kernel⟩
noncomputable abbrev Mu:List Str:=["one","other","rest"]
noncomputable abbrev FX:List Str:=["one","other"]
theorem Cz:Am Mu FX (Ah Ga):=⟨rfl,rfl,rfl,by decide +kernel,rfl,by decide +kernel,by decide +kernel⟩
noncomputable abbrev Yk:List Str:=["train","above","below","pair"]
noncomputable abbrev QG:List Str:=["train"]
theorem Dq:Am Yk QG (Ah QY):=⟨rfl,rfl,rfl,by decide +kernel,rfl,by decide +kernel,by decide +kernel⟩
noncomputable abbrev Yj:List Str:=["machine","train","turns"]
noncomputable abbrev QE:List Str:=["machine","train"]
theorem NV:Am Yj QE (Ah QX):=⟨rfl,rfl,rfl,by decide +kernel,rfl,by decide +kernel,by decide +kernel⟩
noncomputable abbrev Ux:List Str:=["machine","train","steps","turns","below","start"]
noncomputable abbrev Ln:List Str:=["machine","train","steps"]
theorem DU:Am Ux Ln (Ah LI):=⟨rfl,rfl,rfl,by decide +kernel,rfl,by decide +kernel,by decide +kernel⟩
noncomputable abbrev Wr:List Str:=["self","times","name","place"]
noncomputable abbrev Nk:List Str:=["self","times","name","place"]
theorem Vi:Am Wr Nk (Ah NI):=⟨rfl,rfl,rfl,by decide +kernel,rfl,by decide +kernel,by decide +kernel⟩
noncomputable abbrev Wq:List Str:=["self","number","terms"]
noncomputable abbrev Nj:List Str:=["self","number","terms"]
theorem Vh:Am Wq Nj (Ah NH):=⟨rfl,rfl,rfl,by decide +kernel,rfl,by decide +kernel,by decide +kernel⟩
noncomputable abbrev Wo:List Str:=["self","word","name","place"]
noncomputable abbrev Ni:List Str:=["self","word","name","place"]
theorem Vg:Am Wo Ni (Ah NG):=⟨rfl,rfl,rfl,by decide +kernel,rfl,by decide +kernel,by decide +kernel⟩
noncomputable abbrev Yi:List Str:=["text","reader","lines"]
noncomputable abbrev QD:List Str:=["text"]
theorem IE:Am Yi QD (Ah QW):=⟨rfl,rfl,rfl,by decide +kernel,rfl,by decide +kernel,by decide +kernel⟩
noncomputable abbrev Wz:List Str:=["reader","word","place","line"]
noncomputable abbrev Nv:List Str:=["reader"]
theorem EE:Am Wz Nv (Ah NQ):=⟨rfl,rfl,rfl,by decide +kernel,rfl,by decide +kernel,by decide +kernel⟩
noncomputable abbrev Uz:List Str:=["reader","line"]
noncomputable abbrev Lp:List Str:=["reader","line"]
theorem Sn:Am Uz Lp (Ah LK):=⟨rfl,rfl,rfl,by decide +kernel,rfl,by decide +kernel,by decide +kernel⟩
noncomputable abbrev WD:List Str:=["reader","line","word"]
noncomputable abbrev NA:List Str:=["reader","line"]
theorem DA:Am WD NA (Ah NU):=⟨rfl,rfl,rfl,by decide +kernel,rfl,by decide +kernel,by decide +kernel⟩
noncomputable abbrev WB:List Str:=["reader","parts","word","behind","number","part"]
noncomputable abbrev Ny:List Str:=["reader","parts","word","behind"]
theorem EF:Am WB Ny (Ah NS):=⟨rfl,rfl,rfl,by decide +kernel,rfl,by decide +kernel,by decide +kernel⟩
noncomputable abbrev UD:List Str:=["reader","terms","behind","word","joints"]
noncomputable abbrev Lu:List Str:=["reader","terms","behind"]
theorem De:Am UD Lu (Ah LP):=⟨rfl,rfl,rfl,by decide +kernel,rfl,by decide +kernel,by decide +kernel⟩
noncomputable abbrev WC:List Str:=["reader","word","times","place"]
noncomputable abbrev Nz:List Str:=["reader","word"]
theorem Dz:Am WC Nz (Ah NT):=⟨rfl,rfl,rfl,by decide +kernel,rfl,by decide +kernel,by decide +kernel⟩
noncomputable abbrev UA:List Str:=["reader","count","digits"]
noncomputable abbrev Lq:List Str:=["reader"]
theorem DW:Am UA Lq (Ah LM):=⟨rfl,rfl,rfl,by decide +kernel,rfl,by decide +kernel,by decide +kernel⟩
noncomputable abbrev RY:List Str:=["reader"]
noncomputable abbrev Jv:List Str:=["reader"]
theorem Rf:Am RY Jv (Ah JH):=⟨rfl,rfl,rfl,by decide +kernel,rfl,by decide +kernel,by decide +kernel⟩
noncomputable abbrev RW:List Str:=["lines","words","angles","number","line"]
noncomputable abbrev Jt:List Str:=["lines"]
theorem Ci:Am RW Jt (Ah JF):=⟨rfl,rfl,rfl,by decide +kernel,rfl,by decide +kernel,by decide +kernel⟩
noncomputable abbrev ES:List Str:=["line","term","factor"]
noncomputable abbrev HX:List Str:=["line"]
theorem Ct:Am ES HX (Ah Dv):=⟨rfl,rfl,rfl,by decide +kernel,rfl,by decide +kernel,by decide +kernel⟩
noncomputable abbrev RX:List Str:=["line","words","wanted","term"]
noncomputable abbrev Ju:List Str:=["line","words"]
theorem Fc:Am RX Ju (Ah JG):=⟨rfl,rfl,rfl,by decide +kernel,rfl,by decide +kernel,by decide +kernel⟩
noncomputable abbrev Ws:List Str:=["line","terms","part"]
noncomputable abbrev Nl:List Str:=["line"]
theorem GA:Am Ws Nl (Ah NJ):=⟨rfl,rfl,rfl,by decide +kernel,rfl,by decide +kernel,by decide +kernel⟩
noncomputable abbrev Sa:List Str:=["sky","rates","speeds","line"]
noncomputable abbrev Jx:List Str:=["sky"]
theorem DB:Am Sa Jx (Ah JJ):=⟨rfl,rfl,rfl,by decide +kernel,rfl,by decide +kernel,by decide +kernel⟩
noncomputable abbrev Ql:List Str:=["terms","known","term"]
noncomputable abbrev QF:List Str:=["terms","known"]
theorem IG:Am Ql QF (Ah Kj):=⟨rfl,rfl,rfl,by decide +kernel,rfl,by decide +kernel,by decide +kernel⟩
noncomputable abbrev FU:List Str:=["machine","speeds","train"]
noncomputable abbrev FW:List Str:=["machine","speeds"]
theorem Dx:Am FU FW (Ah DP):=⟨rfl,rfl,rfl,by decide +kernel,rfl,by decide +kernel,by decide +kernel⟩
noncomputable abbrev Lc:List Str:=["machine","train","speeds","part","speed","grown","whole","each","needed"]
noncomputable abbrev Fv:List Str:=["machine","train","speeds","part"]
theorem Bu:Am Lc Fv (Ah Fx):=⟨rfl,rfl,rfl,by decide +kernel,rfl,by decide +kernel,by decide +kernel⟩
noncomputable abbrev Wv:List Str:=["machine","speeds","part","found","number","train","steps"]
noncomputable abbrev Np:List Str:=["machine","speeds","part"]
theorem CQ:Am Wv Np (Ah NM):=⟨rfl,rfl,rfl,by decide +kernel,rfl,by decide +kernel,by decide +kernel⟩
noncomputable abbrev Yf:List Str:=["part"]
noncomputable abbrev Qz:List Str:=["part"]
theorem WT:Am Yf Qz (Ah QT):=⟨rfl,rfl,rfl,by decide +kernel,rfl,by decide +kernel,by decide +kernel⟩
noncomputable abbrev Uy:List Str:=["angle","cosine","half","size"]
noncomputable abbrev Lo:List Str:=["angle"]
theorem DV:Am Uy Lo (Ah LJ):=⟨rfl,rfl,rfl,by decide +kernel,rfl,by decide +kernel,by decide +kernel⟩
noncomputable abbrev Mw:List Str:=["above","below","quarters","rest"]
noncomputable abbrev FY:List Str:=["above","below"]
theorem Dy:Am Mw FY (Ah Gb):=⟨rfl,rfl,rfl,by decide +kernel,rfl,by decide +kernel,by decide +kernel⟩
noncomputable abbrev Jc:List Str:=["above","below"]
noncomputable abbrev Ew:List Str:=["above","below"]
theorem IC:Am Jc Ew (Ah Ey):=⟨rfl,rfl,rfl,by decide +kernel,rfl,by decide +kernel,by decide +kernel⟩
noncomputable abbrev Oo:List Str:=["arc","terms"]
noncomputable abbrev Hb:List Str:=["arc"]
theorem Gd:Am Oo Hb (Ah Hk):=⟨rfl,rfl,rfl,by decide +kernel,rfl,by decide +kernel,by decide +kernel⟩
noncomputable abbrev RZ:List Str:=["arc","terms"]
noncomputable abbrev Jw:List Str:=["arc"]
theorem IF:Am RZ Jw (Ah JI):=⟨rfl,rfl,rfl,by decide +kernel,rfl,by decide +kernel,by decide +kernel⟩
noncomputable abbrev Qk:List Str:=["arc","term","terms"]
noncomputable abbrev Ie:List Str:=["arc"]
theorem Di:Am Qk Ie (Ah Iy):=⟨rfl,rfl,rfl,by decide +kernel,rfl,by decide +kernel,by decide +kernel⟩
noncomputable abbrev Wy:List Str:=["machine","steps","height","train"]
noncomputable abbrev Nt:List Str:=["machine","steps"]
theorem ED:Am Wy Nt (Ah NP):=⟨rfl,rfl,rfl,by decide +kernel,rfl,by decide +kernel,by decide +kernel⟩
noncomputable abbrev Na:List Str:=["machine","steps","count","more"]
noncomputable abbrev Nu:List Str:=["machine","steps","count"]
theorem GD:Am Na Nu (Ah Ir):=⟨rfl,rfl,rfl,by decide +kernel,rfl,by decide +kernel,by decide +kernel⟩
noncomputable abbrev Yg:List Str:=["pens","high","low","scale","width","curve","column","pen","row","place"]
noncomputable abbrev QB:List Str:=["pens","high","low","scale"]
theorem CJ:Am Yg QB (Ah QU):=⟨rfl,rfl,rfl,by decide +kernel,rfl,by decide +kernel,by decide +kernel⟩
noncomputable abbrev Wn:List Str:=["self"]
noncomputable abbrev Nh:List Str:=["self"]
theorem Vf:Am Wn Nh (Ah NF):=⟨rfl,rfl,rfl,by decide +kernel,rfl,by decide +kernel,by decide +kernel⟩
noncomputable abbrev aj:List Str:=["calls","desk","told","place","end","answer"]
noncomputable abbrev Tb:List Str:=["calls"]
theorem Dk:Am aj Tb (Ah ME):=⟨rfl,rfl,rfl,by decide +kernel,rfl,by decide +kernel,by decide +kernel⟩
noncomputable abbrev RV:List Str:=["calls","place","call"]
noncomputable abbrev Js:List Str:=["calls","place"]
theorem ID:Am RV Js (Ah JE):=⟨rfl,rfl,rfl,by decide +kernel,rfl,by decide +kernel,by decide +kernel⟩
noncomputable abbrev Wu:List Str:=["desk","call","given"]
noncomputable abbrev Nn:List Str:=["desk","call","given"]
theorem Vj:Am Wu Nn (Ah NL):=⟨rfl,rfl,rfl,by decide +kernel,rfl,by decide +kernel,by decide +kernel⟩
noncomputable abbrev RU:List Str:=["desk","call","text","fault"]
noncomputable abbrev Jr:List Str:=["desk","call","text"]
theorem IA:Am RU Jr (Ah JD):=⟨rfl,rfl,rfl,by decide +kernel,rfl,by decide +kernel,by decide +kernel⟩
noncomputable abbrev Hw:List Str:=["machine","call","given"]
noncomputable abbrev DG:List Str:=["machine","call","given"]
theorem GC:Am Hw DG (Ah DI):=⟨rfl,rfl,rfl,by decide +kernel,rfl,by decide +kernel,by decide +kernel⟩
noncomputable abbrev Lb:List Str:=["desk","call","given","speeds"]
noncomputable abbrev Fu:List Str:=["desk","call","given"]
theorem Fb:Am Lb Fu (Ah Fw):=⟨rfl,rfl,rfl,by decide +kernel,rfl,by decide +kernel,by decide +kernel⟩
noncomputable abbrev PZ:List Str:=["machine","text"]
noncomputable abbrev HU:List Str:=["machine"]
theorem Hm:Am PZ HU (Ah Il):=⟨rfl,rfl,rfl,by decide +kernel,rfl,by decide +kernel,by decide +kernel⟩
noncomputable abbrev RT:List Str:=["machine"]
noncomputable abbrev Jq:List Str:=["machine"]
theorem Rc:Am RT Jq (Ah JC):=⟨rfl,rfl,rfl,by decide +kernel,rfl,by decide +kernel,by decide +kernel⟩
noncomputable abbrev Qb:List Str:=["machine","number","speed"]
noncomputable abbrev HW:List Str:=["machine","number"]
theorem Hn:Am Qb HW (Ah Io):=⟨rfl,rfl,rfl,by decide +kernel,rfl,by decide +kernel,by decide +kernel⟩
noncomputable abbrev Wt:List Str:=["machine","number","steps","part","lowest"]
noncomputable abbrev Nm:List Str:=["machine","number","steps"]
theorem GB:Am Wt Nm (Ah NK):=⟨rfl,rfl,rfl,by decide +kernel,rfl,by decide +kernel,by decide +kernel⟩
noncomputable abbrev Uv:List Str:=["machine","steps","count"]
noncomputable abbrev Ll:List Str:=["machine","steps","count"]
theorem Sm:Am Uv Ll (Ah LG):=⟨rfl,rfl,rfl,by decide +kernel,rfl,by decide +kernel,by decide +kernel⟩
noncomputable abbrev Qa:List Str:=["machine","speeds","number","part","train","steps"]
noncomputable abbrev HV:List Str:=["machine","speeds","number","part"]
theorem Eo:Am Qa HV (Ah Im):=⟨rfl,rfl,rfl,by decide +kernel,rfl,by decide +kernel,by decide +kernel⟩
noncomputable abbrev PY:List Str:=["machine","speeds","part","found"]
noncomputable abbrev HS:List Str:=["machine","speeds","part"]
theorem Hl:Am PY HS (Ah Ik):=⟨rfl,rfl,rfl,by decide +kernel,rfl,by decide +kernel,by decide +kernel⟩
noncomputable abbrev RS:List Str:=["machine","given","steps","wide","high","low","scale","curve"]
noncomputable abbrev Jp:List Str:=["machine","given"]
theorem BK:Am RS Jp (Ah JB):=⟨rfl,rfl,rfl,by decide +kernel,rfl,by decide +kernel,by decide +kernel⟩
noncomputable abbrev Wx:List Str:=["number","least","greatest"]
noncomputable abbrev Nr:List Str:=["number","least","greatest"]
theorem Vl:Am Wx Nr (Ah NO):=⟨rfl,rfl,rfl,by decide +kernel,rfl,by decide +kernel,by decide +kernel⟩
end Td
namespace Td
open PySem PySem.Spec PyProof.Rows L2
noncomputable def GI (mg:Str->Option Value) (x:Str) (n:Int):Prop:=∃t,mg x=some (.int n t)
noncomputable def GS (mg:Str->Option Value) (x:Str) (n:Str):Prop:=∃t,mg x=some (.str n t)
noncomputable def AM (K:PySem.W.Frag) (mg:Str->Option Value) (x:Str) (st:Stmt):Prop:=∃f fd,Fun K x x st f fd/\mg x=some (.ref f)
noncomputable def GN (K:PySem.W.Frag) (x q:Str) (C:Addr) (st:Stmt):Prop:=∃f fd,Fun K x q st f fd/\Meth K C x f
noncomputable def Ko (K:PySem.W.Frag) (mg:Str->Option Value) (x:Str) (C:Addr) (st:Stmt):Prop:=∃f fd q,Fun K "__init__" q st f fd/\Mk K C f/\mg x=some (.ref C)
structure Ad where
 CF:Addr
 fF:Addr
 CR:Addr
 CT:Addr
 CM:Addr
 Cte:Addr
 Cpa:Addr
 Cli:Addr
 CD:Addr
structure Txt (K:PySem.W.Frag) (mg:Str->Option Value) (a:Ad):Prop where
 FO:GI mg "GRAMMAR" (1)
 Ku:GI mg "NAME_TWICE" (2)
 fT:GI mg "END" (256)
 TV:GI mg "NAME_SIGNS" (7)
 Kx:GI mg "TOO_MANY_TRAINS" (3)
 Kw:GI mg "START_TOO_LARGE" (4)
 RB:GI mg "MOST_TRAINS" (64)
 TQ:GI mg "MOST_PAIRS" (6)
 EL:GI mg "TEETH_DIGITS" (3)
 Me:GI mg "MINUTES_DIGITS" (5)
 Pb:GI mg "START_DIGITS" (6)
 RC:GI mg "SIZE_DIGITS" (2)
 DY:GI mg "SIZE_DIGITS_BEHIND" (4)
 YT:GI mg "METRE" (10000)
 Pa:GI mg "NAME_NOT_FIT" (3)
 Mf:GI mg "TOO_MANY_LINES" (4)
 Xv:GI mg "TOO_MUCH" (5)
 Ry:GI mg "MOST_ANGLES" (16)
 RA:GI mg "MOST_OTHERS" (128)
 TU:GI mg "MOST_TERMS" (8)
 TR:GI mg "MOST_PARTS" (8)
 Rz:GI mg "MOST_COUNTS" (12)
 GQ:GI mg "NUMBER_DIGITS" (3)
 Dr:GI mg "NUMBER_DIGITS_BEHIND" (12)
 VB:GI mg "ONE_skies" (1000000000000)
 Ks:GS mg "ANGLE" "angle "
 TX:GS mg "WAVE" "wave "
 bz:GS mg "SUM" "sum "
 Xu:GS mg "PLUS" "+ "
 OI:GS mg "MINUS" "- "
 bA:GS mg "TURN" "turn "
 Kt:GS mg "FACTOR" "factor "
 Kv:GS mg "SHIFT" "shift "
 EM:GI mg "TURN_IN_A_MINUTE" (21600000000000000)
 MS:GI mg "FULL_TURN" (4294967296)
 bx:GI mg "BITS" (192)
 Ji:GI mg "QUARTER_ARC" (9860048348863269281198066682114134445731725432595044866280)
 ed:GI mg "TERMS" (64)
 GO:GI mg "BITS_LEFT_OUT" (162)
 ZH:GI mg "ONE_pen" (1073741824)
 gq:GI mg "HALF" (536870912)
 Md:GI mg "MACHINE" (0)
 fU:GI mg "SKY" (1)
 dY:GI mg "PRINT" (2)
 gr:GI mg "SIZE" (3)
 dZ:GI mg "SPEED" (4)
 jN:GI mg "AT" (5)
 iT:GI mg "PEN" (6)
 YU:GI mg "RIGHT" (7)
 dX:GI mg "FIRST" (8)
 Ob:∃p,mg "WHOLE_NUMBERS" = some (.ref p)/\∀H,SqT K H p [.int 0,.int 0,.int 0,.int 0,.int 1,.int 2,.int 2,.int 2,.int 1,.int 5]
 BR:GI mg "OUT_OF_BOUNDS" (-1)
 GP:GI mg "NOT_THERE_YET" (-3)
 JU:GI mg "NO_TRAIN" (-4)
 Oa:GI mg "TEXT_AT_FAULT" (-6)
 SD:GI mg "NO_WAVE" (-9)
 OH:GI mg "LEAST" (-2147483648)
 EK:GI mg "GREATEST" (2147483647)
 VA:GI mg "MOST_PENS" (256)
 MU:GI mg "MOST_PART" (1000000)
 MT:GI mg "MOST_BITS" (64)
 Hy:mg "ord" = none
 DD:mg "len" = none
 dR:mg "tuple" = none
 Fl:mg "enumerate" = none
 fS:mg "str" = none
 bt:mg "list" = none
 OZ:mg "sum" = none
 YR:mg "abs" = none
 iS:mg "all" = none
 dQ:mg "range" = none
 Vy:mg "Exception" = none
 XI:AM K mg "is_digit" QV
 VQ:AM K mg "is_letter" NN
 XQ:AM K mg "value_of" QZ
 bW:Ko K mg "Reader" a.CR Jz
 RO:GN K "look" "Reader.look" a.CR JA
 Oj:GN K "stands" "Reader.stands" a.CR Hj
 Oi:GN K "at_end" "Reader.at_end" a.CR Hi
 JZ:GN K "take_word" "Reader.take_word" a.CR EZ
 HF:GN K "take_choice" "Reader.take_choice" a.CR Ee
 HH:GN K "take_end_or" "Reader.take_end_or" a.CR Eg
 JY:GN K "take_name" "Reader.take_name" a.CR EY
 HG:GN K "take_digits" "Reader.take_digits" a.CR Ef
 Ja:GN K "take_whole" "Reader.take_whole" a.CR Ex
 Hu:GN K "take_decimal" "Reader.take_decimal" a.CR DH
 eJ:Ko K mg "Train" a.CT LD
 ZZ:Ko K mg "Machine" a.CM Ij
 Py:AM K mg "read_machine" Iw
 Ul:AM K mg "read_train" LQ
 Uj:AM K mg "read_start" LO
 Ui:AM K mg "read_pairs" LN
 VV:AM K mg "read_pair" NR
 Pt:AM K mg "judge_trains" Ip
 Uc:AM K mg "last_teeth" LH
 ZS:AM K mg "printed" Ti
 Oe:AM K mg "printed_train" En
 Px:AM K mg "printed_size" Iv
 Pw:AM K mg "printed_pair" Iu
 XF:AM K mg "bytes_of" Ki
 Pu:AM K mg "lowest_terms" Iq
 Mm:AM K mg "common_divisor" Ga
 XO:AM K mg "turns_of" QY
 XM:AM K mg "speed_of" QX
 Ud:AM K mg "part_after" LI
 gM:Ko K mg "Term" a.Cte NI
 gL:Ko K mg "Part" a.Cpa NH
 gK:Ko K mg "Line" a.Cli NG
 XJ:AM K mg "read_sky" QW
 VU:AM K mg "read_line" NQ
 Ug:AM K mg "read_angle" LK
 VY:AM K mg "read_wave" NU
 VW:AM K mg "read_part" NS
 Uk:AM K mg "read_terms" LP
 VX:AM K mg "read_term" NT
 Uh:AM K mg "read_count" LM
 RK:AM K mg "read_number" JH
 RI:AM K mg "judge_lines" JF
 Pr:AM K mg "has_too_much" Dv
 RJ:AM K mg "judge_names" JG
 VM:AM K mg "all_terms" NJ
 RM:AM K mg "wave_speeds" JJ
 XN:AM K mg "total_of" Kj
 Ml:AM K mg "all_have_waves" DP
 KL:AM K mg "steps_until_off" Fx
 VP:AM K mg "first_off" NM
 XD:AM K mg "angle_of" QT
 Ue:AM K mg "ray_cosine" LJ
 Mo:AM K mg "cosine_of_turn" Gb
 IY:AM K mg "cosine_of_quarter" Ey
 Od:AM K mg "cosine_of_arc" Hk
 RL:AM K mg "sine_of_arc" JI
 Pz:AM K mg "terms_of_arc" Iy
 VS:AM K mg "pen_after" NP
 VT:AM K mg "pens_from" Ir
 XG:AM K mg "curve_of" QU
 gJ:Ko K mg "Desk" a.CD NF
 ZR:AM K mg "answers" ME
 RH:AM K mg "end_of_call" JE
 VO:AM K mg "answer_to" NL
 RG:AM K mg "answer_text" JD
 Ht:AM K mg "answer_with_machine" DI
 KJ:AM K mg "answer_with_sky" Fw
 Po:AM K mg "answer_print" Il
 RF:AM K mg "answer_size" JC
 Pq:AM K mg "answer_speed" Io
 VN:AM K mg "answer_at" NK
 Ub:AM K mg "answer_pen" LG
 Pp:AM K mg "answer_right" Im
 Pn:AM K mg "answer_first" Ik
 RE:AM K mg "answer_draw" JB
 VR:AM K mg "is_within" NO
 Aj:Cls K a.CR
 DS:Bf K a.CR "text"
 AG:Bf K a.CR "place"
 Bc:Cls K a.CT
 Cp:Bf K a.CT "name"
 Dj:Bf K a.CT "name_place"
 Gv:Bf K a.CT "size"
 DT:Bf K a.CT "start"
 Et:Bf K a.CT "start_place"
 Dd:Bf K a.CT "pairs"
 AR:Cls K a.CM
 Cr:Bf K a.CM "teeth"
 BW:Bf K a.CM "minutes"
 AU:Bf K a.CM "trains"
 Fo:Cls K a.Cte
 Gu:Bf K a.Cte "times"
 HM:Bf K a.Cte "name"
 La:Bf K a.Cte "place"
 KC:Cls K a.Cpa
 Jk:Bf K a.Cpa "number"
 Gs:Bf K a.Cpa "terms"
 AX:Cls K a.Cli
 CH:Bf K a.Cli "word"
 Dn:Bf K a.Cli "name"
 EC:Bf K a.Cli "place"
 HI:Bf K a.Cli "rate"
 Co:Bf K a.Cli "terms"
 Ds:Bf K a.Cli "factors"
 FH:Bf K a.Cli "shifts"
 Df:Cls K a.CD
 By:Bf K a.CD "machine"
 Gr:Bf K a.CD "sky"
 xc:XC K a.CF a.fF
 mgF:mg "Fault" = some (.ref a.CF)
 xi:∃fd,Fun K "__init__" "Fault.__init__" LC a.fF fd
section
theorem Aq {α β:Type}{P:α->β->Prop} (a:α) (b:β) (z:P a b):∃a b,P a b:=⟨a,b,z⟩
theorem AN {α β γ:Type}{P:α->β->γ->Prop} (a:α) (b:β) (c:γ) (z:P a b c):∃a b c,P a b c:=⟨a,b,c,z⟩
theorem Aw {α β γ δ:Type}{P:α->β->γ->δ->Prop} (a:α) (b:β) (c:γ) (d:δ) (z:P a b c d):∃a b c d,P a b c d:=⟨a,b,c,d,z⟩
theorem AA {α β γ δ ε:Type}{P:α->β->γ->δ->ε->Prop} (a:α) (b:β) (c:γ) (d:δ) (e:ε) (z:P a b c d e):∃a b c d e,P a b c d e:=⟨a,b,c,d,e,z⟩
theorem Pl {α β γ δ ε ζ:Type}{P:α->β->γ->δ->ε->ζ->Prop} (a:α) (b:β) (c:γ) (d:δ) (e:ε) (f:ζ) (z:P a b c d e f):∃a b c d e f,P a b c d e f:=⟨a,b,c,d,e,f,z⟩
theorem bQ {α β γ δ ε ζ η:Type}{P:α->β->γ->δ->ε->ζ->η->Prop} (a:α) (b:β) (c:γ) (d:δ) (e:ε) (f:ζ) (g:η) (z:P a b c d e f g):∃a b c d e f g,P a b c d e f g:=⟨a,b,c,d,e,f,g,z⟩
theorem gG {α β γ δ ε ζ η θ:Type}{P:α->β->γ->δ->ε->ζ->η->θ->Prop} (a:α) (b:β) (c:γ) (d:δ) (e:ε) (f:ζ) (g:η) (h:θ) (z:P a b c d e f g h):∃a b c d e f g h,P a b c d e f g h:=⟨a,b,c,d,e,f,g,h,z⟩
theorem CC {P:List Value->Prop} (h:∀a0,P [a0]):∀us:List Value,us.length=1->P us:=fun us e=>match us,e with|[a0],_=>h a0
theorem Fh {P:List Value->Prop} (h:∀a0 a1,P [a0,a1]):∀us:List Value,us.length=2->P us:=fun us e=>match us,e with|[a0,a1],_=>h a0 a1
theorem JS {P:List Value->Prop} (h:∀a0 a1 a2,P [a0,a1,a2]):∀us:List Value,us.length=3->P us:=fun us e=>match us,e with|[a0,a1,a2],_=>h a0 a1 a2
theorem Xt {P:List Value->Prop} (h:∀a0 a1 a2 a3,P [a0,a1,a2,a3]):∀us:List Value,us.length=4->P us:=fun us e=>match us,e with|[a0,a1,a2,a3],_=>h a0 a1 a2 a3
theorem jM {P:List Value->Prop} (h:∀a0 a1 a2 a3 a4 a5 a6,P [a0,a1,a2,a3,a4,a5,a6]):∀us:List Value,us.length=7->P us:=fun us e=>match us,e with|[a0,a1,a2,a3,a4,a5,a6],_=>h a0 a1 a2 a3 a4 a5 a6
theorem Wg {α:Type}{n:Nat}{vs:List V}{f:α->List V}{R:α->Prop} (k:∀a0,(f a0).length=n):(∃a0,vs=f a0/\R a0)->vs.length=n:=fun ⟨a0,e,_⟩=>e ▸ k _
theorem RN {α β:Type}{n:Nat}{vs:List V}{f:α->β->List V}{R:α->β->Prop} (k:∀a0 a1,(f a0 a1).length=n):(∃a0 a1,vs=f a0 a1/\R a0 a1)->vs.length=n:=fun ⟨a0,a1,e,_⟩=>e ▸ k _ _
theorem PQ {α β γ:Type}{n:Nat}{vs:List V}{f:α->β->γ->List V}{R:α->β->γ->Prop} (k:∀a0 a1 a2,(f a0 a1 a2).length=n):(∃a0 a1 a2,vs=f a0 a1 a2/\R a0 a1 a2)->vs.length=n:=fun ⟨a0,a1,a2,e,_⟩=>e ▸ k _ _ _
theorem IZ {α β γ δ:Type}{n:Nat}{vs:List V}{f:α->β->γ->δ->List V}{R:α->β->γ->δ->Prop} (k:∀a0 a1 a2 a3,(f a0 a1 a2 a3).length=n):(∃a0 a1 a2 a3,vs=f a0 a1 a2 a3/\R a0 a1 a2 a3)->vs.length=n:=fun ⟨a0,a1,a2,a3,e,_⟩=>e ▸ k _ _ _ _
theorem Oh {α β γ δ ε:Type}{n:Nat}{vs:List V}{f:α->β->γ->δ->ε->List V}{R:α->β->γ->δ->ε->Prop} (k:∀a0 a1 a2 a3 a4,(f a0 a1 a2 a3 a4).length=n):(∃a0 a1 a2 a3 a4,vs=f a0 a1 a2 a3 a4/\R a0 a1 a2 a3 a4)->vs.length=n:=fun ⟨a0,a1,a2,a3,a4,e,_⟩=>e ▸ k _ _ _ _ _
theorem XY {α β γ δ ε ζ:Type}{n:Nat}{vs:List V}{f:α->β->γ->δ->ε->ζ->List V}{R:α->β->γ->δ->ε->ζ->Prop} (k:∀a0 a1 a2 a3 a4 a5,(f a0 a1 a2 a3 a4 a5).length=n):(∃a0 a1 a2 a3 a4 a5,vs=f a0 a1 a2 a3 a4 a5/\R a0 a1 a2 a3 a4 a5)->vs.length=n:=fun ⟨a0,a1,a2,a3,a4,a5,e,_⟩=>e ▸ k _ _ _ _ _ _
theorem Wh {α β γ δ ε ζ η:Type}{n:Nat}{vs:List V}{f:α->β->γ->δ->ε->ζ->η->List V}{R:α->β->γ->δ->ε->ζ->η->Prop} (k:∀a0 a1 a2 a3 a4 a5 a6,(f a0 a1 a2 a3 a4 a5 a6).length=n):(∃a0 a1 a2 a3 a4 a5 a6,vs=f a0 a1 a2 a3 a4 a5 a6/\R a0 a1 a2 a3 a4 a5 a6)->vs.length=n:=fun ⟨a0,a1,a2,a3,a4,a5,a6,e,_⟩=>e ▸ k _ _ _ _ _ _ _
theorem gX {α β γ δ ε ζ η θ:Type}{n:Nat}{vs:List V}{f:α->β->γ->δ->ε->ζ->η->θ->List V}{R:α->β->γ->δ->ε->ζ->η->θ->Prop} (k:∀a0 a1 a2 a3 a4 a5 a6 a7,(f a0 a1 a2 a3 a4 a5 a6 a7).length=n):(∃a0 a1 a2 a3 a4 a5 a6 a7,vs=f a0 a1 a2 a3 a4 a5 a6 a7/\R a0 a1 a2 a3 a4 a5 a6 a7)->vs.length=n:=fun ⟨a0,a1,a2,a3,a4,a5,a6,a7,e,_⟩=>e ▸ k _ _ _ _ _ _ _ _
theorem jd {α β γ δ ε ζ η θ ι:Type}{n:Nat}{vs:List V}{f:α->β->γ->δ->ε->ζ->η->θ->ι->List V}{R:α->β->γ->δ->ε->ζ->η->θ->ι->Prop} (k:∀a0 a1 a2 a3 a4 a5 a6 a7 a8,(f a0 a1 a2 a3 a4 a5 a6 a7 a8).length=n):(∃a0 a1 a2 a3 a4 a5 a6 a7 a8,vs=f a0 a1 a2 a3 a4 a5 a6 a7 a8/\R a0 a1 a2 a3 a4 a5 a6 a7 a8)->vs.length=n:=fun ⟨a0,a1,a2,a3,a4,a5,a6,a7,a8,e,_⟩=>e ▸ k _ _ _ _ _ _ _ _ _
theorem jc {α β γ δ ε ζ η θ ι κ:Type}{n:Nat}{vs:List V}{f:α->β->γ->δ->ε->ζ->η->θ->ι->κ->List V}{R:α->β->γ->δ->ε->ζ->η->θ->ι->κ->Prop} (k:∀a0 a1 a2 a3 a4 a5 a6 a7 a8 a9,(f a0 a1 a2 a3 a4 a5 a6 a7 a8 a9).length=n):(∃a0 a1 a2 a3 a4 a5 a6 a7 a8 a9,vs=f a0 a1 a2 a3 a4 a5 a6 a7 a8 a9/\R a0 a1 a2 a3 a4 a5 a6 a7 a8 a9)->vs.length=n:=fun ⟨a0,a1,a2,a3,a4,a5,a6,a7,a8,a9,e,_⟩=>e ▸ k _ _ _ _ _ _ _ _ _ _
theorem fX {α β γ δ ε ζ η θ ι κ μ ν:Type}{n:Nat}{vs:List V}{f:α->β->γ->δ->ε->ζ->η->θ->ι->κ->μ->ν->List V}{R:α->β->γ->δ->ε->ζ->η->θ->ι->κ->μ->ν->Prop} (k:∀a0 a1 a2 a3 a4 a5 a6 a7 a8 a9 a10 a11,(f a0 a1 a2 a3 a4 a5 a6 a7 a8 a9 a10 a11).length=n):(∃a0 a1 a2 a3 a4 a5 a6 a7 a8 a9 a10 a11,vs=f a0 a1 a2 a3 a4 a5 a6 a7 a8 a9 a10 a11/\R a0 a1 a2 a3 a4 a5 a6 a7 a8 a9 a10 a11)->vs.length=n:=fun ⟨a0,a1,a2,a3,a4,a5,a6,a7,a8,a9,a10,a11,e,_⟩=>e ▸ k _ _ _ _ _ _ _ _ _ _ _ _
theorem hid {G:Prop} (k:∀X:Prop,(G->X)->X):G:=k G id
end
section
variable {P:Program}{w:World}{K:PySem.W.Frag}{mg:Str->Option Value}{base:Heap}{a:Ad}
noncomputable def Cal (P:Program) (w:World) (K:PySem.W.Frag) (mg:Str->Option Value) (base:Heap) (a:Ad) (k:Nat) (x:Str) (ps:List Str) (sp:Sp):Prop:=
 ∃f fd,FD P w K mg base (CXF a.CF P w) k f fd ps sp/\mg x=some (.ref f)/\PySem.W.keepIn K (.ref f)=true/\Binds K fd ps []
noncomputable def Mc (P:Program) (w:World) (K:PySem.W.Frag) (mg:Str->Option Value) (base:Heap) (a:Ad) (k:Nat) (C:Addr) (x:Str) (ps:List Str) (sp:Sp):Prop:=
 ∃f fd,FD P w K mg base (CXF a.CF P w) k f fd ps sp/\Meth K C x f/\Binds K fd ps []
noncomputable def Rx (P:Program) (w:World) (K:PySem.W.Frag) (mg:Str->Option Value) (base:Heap) (a:Ad) (k:Nat) (C:Addr) (x:Str) (ps:List Str) (sp:Sp):Prop:=
 ∃f fd,FD P w K mg base (CXF a.CF P w) k f fd ps sp/\Mk K C f/\mg x=some (.ref C)/\Binds K fd ps []
noncomputable abbrev cx (P:Program) (w:World) (K:PySem.W.Frag) (mg:Str->Option Value) (base:Heap) (a:Ad) (N:List Str) (qual:Str) (st:Stmt) (f:Addr) (cdv:Value) (A:Around) (outer:List Env) (s:Shared) (H:Hp) (E:XK):Cx:=
 EN (CXF a.CF P w) P w K mg base N qual (Ah st) f cdv A outer s H E
theorem OJ {x qual:Str}{st:Stmt}{f:Addr}{fd:FuncData}{N ps:List Str}{k:Nat}{sp:Sp} (F:Fun K x qual st f fd) (S:Am N ps (Ah st)) (len:∀vs H Q E,sp vs H Q E->vs.length=ps.length)
  (hbody:∀(cdv:Value) (A:Around) (outer:List Env) (s:Shared) (H:Hp) (vs:List V) (Q:VK) (E:XK),Cm k (cx P w K mg base a N qual st f cdv A outer s H E).A->sp vs H Q E ->
   ∃t,PSs (cx P w K mg base a N qual st f cdv A outer s H E) (Cn st) t/\t { nx:=fun _ H'=>Q .non H',rt:=Q } (start N vs) H):FD P w K mg base (CXF a.CF P w) (k+1) f fd ps sp:=by
 obtain ⟨oc,od,kV,doc,pm,an,cdv,ct,osl,rfl,lk,hcd⟩:=F.ex
 exact fV lk hcd S len fun A outer s H vs Q E hr hsp=>hbody cdv A outer s H vs Q E hr hsp
noncomputable def OE (x q:Str) (st:Stmt) (ps:List Str):Prop:=∀(kV doc pm:Value) (an:Option Addr) (cdv ct:Value) (us:List Value),us.length=ps.length->bindArgs (PySem.W.fnOf x q (EB st) (Cn st) (Ah st) .none kV doc pm an cdv ct) ⟨us,[]⟩=pure (ps.zip us)
theorem AF {x:Str}{st:Stmt}{N ps:List Str}{k:Nat}{sp:Sp} (D:AM K mg x st) (S:Am N ps (Ah st)) (hb:OE x x st ps) (len:∀vs H Q E,sp vs H Q E->vs.length=ps.length)
  (hbody:∀(f:Addr) (cdv:Value) (A:Around) (outer:List Env) (s:Shared) (H:Hp) (vs:List V) (Q:VK) (E:XK),Cm k (cx P w K mg base a N x st f cdv A outer s H E).A->sp vs H Q E ->
   ∃t,PSs (cx P w K mg base a N x st f cdv A outer s H E) (Cn st) t/\t { nx:=fun _ H'=>Q .non H',rt:=Q } (start N vs) H):Cal P w K mg base a (k+1) x ps sp:=by
 obtain ⟨f,fd,F,m⟩:=D
 exact ⟨f,fd,OJ F S len (hbody f),m,F.kp,F.binds hb⟩
theorem DR {x q:Str}{C:Addr}{st:Stmt}{N ps:List Str}{k:Nat}{sp:Sp} (D:GN K x q C st) (S:Am N ps (Ah st)) (hb:OE x q st ps) (len:∀vs H Q E,sp vs H Q E->vs.length=ps.length)
  (hbody:∀(f:Addr) (cdv:Value) (A:Around) (outer:List Env) (s:Shared) (H:Hp) (vs:List V) (Q:VK) (E:XK),Cm k (cx P w K mg base a N q st f cdv A outer s H E).A->sp vs H Q E ->
   ∃t,PSs (cx P w K mg base a N q st f cdv A outer s H E) (Cn st) t/\t { nx:=fun _ H'=>Q .non H',rt:=Q } (start N vs) H):Mc P w K mg base a (k+1) C x ps sp:=by
 obtain ⟨f,fd,F,m⟩:=D
 exact ⟨f,fd,OJ F S len (hbody f),m,F.binds hb⟩
theorem Gp {x:Str}{C:Addr}{st:Stmt}{N ps:List Str}{k:Nat}{sp:Sp} (D:Ko K mg x C st) (S:Am N ps (Ah st)) (hb:∀q,OE "__init__" q st ps) (len:∀vs H Q E,sp vs H Q E->vs.length=ps.length)
  (hbody:∀(q:Str) (f:Addr) (cdv:Value) (A:Around) (outer:List Env) (s:Shared) (H:Hp) (vs:List V) (Q:VK) (E:XK),Cm k (cx P w K mg base a N q st f cdv A outer s H E).A->sp vs H Q E ->
   ∃t,PSs (cx P w K mg base a N q st f cdv A outer s H E) (Cn st) t/\t { nx:=fun _ H'=>Q .non H',rt:=Q } (start N vs) H):Rx P w K mg base a (k+1) C x ps sp:=by
 obtain ⟨f,fd,q,F,m,g⟩:=D
 exact ⟨f,fd,OJ F S len (hbody q f),m,g,F.binds (hb q)⟩
end
section
variable {X:Cx}{a:Ad}{k j:Nat}{x m:Str}{ps:List Str}{sp:Sp}{E:XK}{C:Addr}{p pos apos:Pos}{e o:Expr}{es:List Expr}{ta:TE}{t:TA}
theorem Ay {n:Int} (h:GI X.mg x n) (hg:Gl X x:=by rfl) (hd:(x==("__debug__":Str))=false:=by decide):PE X (.Name x pos) (tC (.int n)):=by
 obtain ⟨t,e⟩:=h
 exact UX hg e ⟨t,rfl⟩ hd
theorem BP {n:Str} (h:GS X.mg x n) (hg:Gl X x:=by rfl) (hd:(x==("__debug__":Str))=false:=by decide):PE X (.Name x pos) (tC (.str n)):=by
 obtain ⟨t,e⟩:=h
 exact UX hg e ⟨t,rfl⟩ hd
theorem cu {C:Addr}{P:Program}{w:World}:Passes (CXF C P w) X E0:=fun _ _ _ _ _ _ _ h=>by
 obtain ⟨_,_,_,_,_,_,_,_,_,_,_,_,_,_,_,_,_,z⟩:=h
 exact z.elim
theorem Ar (F:Cal X.prog X.w X.K X.mg X.base a j x ps sp) (hr:Cm k X.A) (hx:Passes (CXF a.CF X.prog X.w) X E) (ha:PA X (e::es) t) (hj:j<=k:=by decide) (hg:Gl X x:=by rfl) (hdb:(x==("__debug__":Str))=false:=by decide)
  (he:starEach (e::es) X.env=(false,eval e X.env)::starEach es X.env:=by rfl) (hpl:(backTo pos (starEach es X.env)).any (·.1)=false:=by rfl):PE X (.Call (.Name x p) (e::es) [] pos) (Gg sp [] E t):=by
 obtain ⟨f,fd,F,hm,hk,hb⟩:=F
 exact eU F (hr.mono hj) hg hm hk hb .nil hx ha hdb he hpl
theorem Gx (F:Rx X.prog X.w X.K X.mg X.base a j C x ps sp) (hr:Cm k X.A) (hx:Passes (CXF a.CF X.prog X.w) X E) (ha:PA X (e::es) t) (hj:j+1<=k:=by decide) (hg:Gl X x:=by rfl) (hdb:(x==("__debug__":Str))=false:=by decide)
  (he:starEach (e::es) X.env=(false,eval e X.env)::starEach es X.env:=by rfl) (hpl:(backTo pos (starEach es X.env)).any (·.1)=false:=by rfl):PE X (.Call (.Name x p) (e::es) [] pos) (Tq C sp [] E t):=by
 obtain ⟨f,fd,F,hM,hm,hb⟩:=F
 exact eX hM F (hr.mono hj) hg hm hb .nil hx ha hdb he hpl
theorem cy (F:Rx X.prog X.w X.K X.mg X.base a j C x ps sp) (hr:Cm k X.A) (hx:Passes (CXF a.CF X.prog X.w) X E) (hj:j+1<=k:=by decide) (hg:Gl X x:=by rfl) (hdb:(x==("__debug__":Str))=false:=by decide):PE X (.Call (.Name x p) [] [] pos) (Tq C sp [] E BQ):=by
 obtain ⟨f,fd,F,hM,hm,hb⟩:=F
 exact cB hM F (hr.mono hj) hg hm hb .nil hx hdb
theorem AE {pl:Sem Bool} (F:Mc X.prog X.w X.K X.mg X.base a j C m ps sp) (c:Cls X.K C) (hr:Cm k X.A) (hx:Passes (CXF a.CF X.prog X.w) X E) (ho:PE X o ta) (ha:PA X (e::es) t) (hj:j<=k:=by decide)
  (hst:starEach (e::es) X.env=(false,eval e X.env)::starEach es X.env:=by rfl) (hpl:(backTo pos (starEach es X.env)).any (·.1)=false:=by rfl)
  (ht:eval (.Call (.Attribute o m apos) (e::es) [] pos) X.env=(do
   let ov <-eval o X.env
   standAt apos.atName
   let (f,first) <-holding [ov] (getMethod ov m pl)
   callWith pos f first (backTo pos (starEach (e::es) X.env)) (backToKw pos (keywordEach [] X.env))):=by rfl) :
  PE X (.Call (.Attribute o m apos) (e::es) [] pos) (Hr C m sp [] E ta t):=by
 obtain ⟨f,fd,F,hm,hb⟩:=F
 exact eY ho c hm F (hr.mono hj) hb .nil hx ha hst hpl ht
theorem BZ {pl:Sem Bool} (F:Mc X.prog X.w X.K X.mg X.base a j C m ps sp) (c:Cls X.K C) (hr:Cm k X.A) (hx:Passes (CXF a.CF X.prog X.w) X E) (ho:PE X o ta) (hj:j<=k:=by decide)
  (ht:eval (.Call (.Attribute o m apos) [] [] pos) X.env=(do
   let ov <-eval o X.env
   standAt apos.atName
   let (f,first) <-holding [ov] (getMethod ov m pl)
   callWith pos f first (backTo pos (starEach [] X.env)) (backToKw pos (keywordEach [] X.env))):=by rfl) :
  PE X (.Call (.Attribute o m apos) [] [] pos) (Hr C m sp [] E ta BQ):=by
 obtain ⟨f,fd,F,hm,hb⟩:=F
 exact cC ho c hm F (hr.mono hj) hb .nil hx ht
end
section
variable {C:Addr}{P:Program}{w:World}{K:PySem.W.Frag}{mg:Str->Option Value}{base:Heap}{N:List Str}{qual:Str}{scope:Scope}{f:Addr}{cd:Value}{A:Around}{outer:List Env}{s:Shared}{H:Hp}{E:XK}
theorem El:PassesOwn (model P w) (EN (CXF C P w) P w K mg base N qual scope f cd A outer s H E).A (EN (CXF C P w) P w K mg base N qual scope f cd A outer s H E).env (EN (CXF C P w) P w K mg base N qual scope f cd A outer s H E).xe:=PassesOwn.leaving
end
end Td
namespace Td
open PySem PySem.Spec PyProof.Rows L2
open Tide (Bytes Cur)
local macro_rules|`(tactic| walk_at "rd")=>`(tactic| repeat (first|refine ⟨_,rfl,?_⟩|refine (Aq _ _ ⟨ rfl,rfl,?_⟩)|refine ⟨rfl,?_⟩))
section
variable {P:Program}{w:World}{K:PySem.W.Frag}{mg:Str->Option Value}{base:Heap}{a:Ad}
noncomputable def xfs (y z:V):List (Str×V):=[("kind",y),("place",z)]
theorem xfn (T:Txt K mg a):∃fd,FD P w K mg base CX0 1 a.fF fd Du (spX a.CF xfs)/\Binds K fd Du []:=by
 obtain ⟨fd,F⟩:=T.xi
 refine ⟨fd,F.ok Sk (fun vs H Q E h=>?_) (fun cdv A outer s H vs Q E hr h=>?_),F.binds fun _ _ _ _ _ _=>JS fun _ _ _=>rfl⟩
 ·obtain ⟨_,_,_,rfl,_⟩:=h
  rfl
 ·obtain ⟨p,y,z,rfl,hp,k⟩:=h
  refine ⟨_,Ab (AJ (cw T.xc rfl T.Vy (pv 0))) (Ab (Zl T.xc (by decide) (pv 0) (pv 1) rfl) (Af (Zl T.xc (by decide) (pv 0) (pv 2) rfl))),?_⟩
  refine ⟨_,rfl,p,rfl,hp,_,rfl,_,rfl,p,rfl,.inl ⟨hp,fun dx hd ne=>?_⟩⟩
  refine ⟨_,rfl,_,rfl,p,rfl,.inr ⟨dx,_,by rw[Ai (Ne.symm ne),Ae],Ae,ne,(by show 1<1000;decide),?_⟩⟩
  have:=k dx hd ne
  rw[Zx]
  exact this
end
section
variable {X:Cx}{a:Ad}{k:Nat}{np cpos pos:Pos}{e:Expr}{es:List Expr}{t:TA}{W:Hp->Addr->Prop}
theorem Hf (c:XC X.K a.CF a.fF) (F:∃fd,FD X.prog X.w X.K X.mg X.base CX0 1 a.fF fd Du (spX a.CF xfs)/\Binds X.K fd Du []) (hr:Cm k X.A) (hm:X.mg "Fault" = some (.ref a.CF)) (ha:PA X (e::es) t)
  (hW:∀pins σ H s ea dx,Inv X pins σ H s->bf X a.CF H s ea dx->W H dx->X.xe (.ref ea) s) (hj:2<=k:=by decide) (hg:Gl X "Fault":=by rfl)
  (he:starEach (e::es) X.env=(false,eval e X.env)::starEach es X.env:=by rfl) (hpl:(backTo cpos (starEach es X.env)).any (·.1)=false:=by rfl):PS X (.Raise (some (.Call (.Name "Fault" np) (e::es) [] cpos)) none pos) (IJ xfs W t):=by
 obtain ⟨fd,F,hb⟩:=F
 exact cH c F (hr.mono hj) hg hm hb ha hW (by decide) he hpl
end
theorem dV {i j:Int}:decide (V.int i=V.int j)=decide (i=j):=decide_eq_decide.mpr ⟨fun h=>by cases h;rfl,fun h=>by rw[h]⟩
noncomputable def bV (b:Bytes):List V:=b.map fun c=>V.int (c.toNat:Int)
noncomputable def rf (t:Addr) (n:Nat):List (Str×V):=[("text",.ref t),("place",.int n)]
structure Rdr (a:Ad) (H:Hp) (x t:Addr) (b:Bytes) (c:Cur):Prop where
 ins:∃dx,H x=some (.ins a.CR dx (rf t c.at_))
 txt:H t=some (.lst (bV b))
 inn:In b c
 sm:b.length<=30000
noncomputable def Mv (S:List Addr) (H H':Hp):Prop:=∀c o,H c=some o->c∉S->H' c=some o
theorem Mv.refl {S:List Addr}{H:Hp}:Mv S H H:=fun _ _ h _=>h
theorem Mv.trans {S:List Addr}{H H1 H2:Hp} (h:Mv S H H1) (k:Mv S H1 H2):Mv S H H2:=fun c o e n=>k c o (h c o e n) n
theorem Mv.mono {S S':List Addr}{H H':Hp} (h:Mv S H H') (k:∀c∈S,c∈S'):Mv S' H H':=fun c o e n=>h c o e fun z=>n (k c z)
theorem Mv.new {S:List Addr}{H:Hp}{p:Addr}{o:HO} (h:H p=none):Mv S H (upd H p o):=fun c u e _=>by rw[Ai (An e h)];exact e
theorem Mv.at {S:List Addr}{H:Hp}{p:Addr}{o:HO} (h:p∈S):Mv S H (upd H p o):=fun c u e n=>by rw[Ai (fun z=>n (by rw[z];exact h))];exact e
noncomputable def nx (c:Cur):Int:=match c.next with
 |some y=>(y.toNat:Int)
 |none=>256
theorem Dp {c:Cur}{y:UInt8}:nx c=(y.toNat:Int)<->c.next=some y:=by
 unfold nx
 cases c.next with
 |none=>
  constructor
  ·intro h;have:=y.toNat_lt;simp only at h;omega
  ·intro h;cases h
 |some z=>
  constructor
  ·intro h;simp only at h;congr 1;apply UInt8.toNat_inj.mp;omega
  ·intro h;cases h;rfl
theorem Qo {c:Cur}:nx c=256<->c.next=none:=by
 unfold nx
 cases c.next with
 |none=>simp
 |some z=>
  constructor
  ·intro h;have:=z.toNat_lt;simp only at h;omega
  ·intro h;cases h
noncomputable def Flt (H:Hp) (dx:Addr) (k p:Nat):Prop:=H dx=some (IP (xfs (.int k) (.int p)) dx)
noncomputable def Tk (a:Ad) (S:List Addr) (H:Hp) (x t:Addr) (b:Bytes) (Q:VK) (E:XK) {α:Type} (r:Except Nat (α×Cur)) (rv:α->V->Hp->Prop):Prop:=
 (∀y c,r = .ok (y,c)->∀v H',Rdr a H' x t b c->Mv (x::S) H H'->rv y v H'->Q v H')/\(∀p,r = .error p->∀dx H',Mv (x::S) H H'->Flt H' dx 1 p->E (.ref a.CF) (some dx) H')
noncomputable def TkU (a:Ad) (S:List Addr) (H:Hp) (x t:Addr) (b:Bytes) (Q:VK) (E:XK) (r:Except Nat Cur):Prop:=
 (∀c,r = .ok c->∀H',Rdr a H' x t b c->Mv (x::S) H H'->Q .non H')/\(∀p,r = .error p->∀dx H',Mv (x::S) H H'->Flt H' dx 1 p->E (.ref a.CF) (some dx) H')
section
variable {P:Program}{w:World}{K:PySem.W.Frag}{mg:Str->Option Value}{base:Heap}{a:Ad}
noncomputable def dg (n:Int):Bool:=decide (48<=n)&&decide (n<=57)
noncomputable def lt (n:Int):Bool:=(decide (65<=n)&&decide (n<=90))||(decide (97<=n)&&decide (n<=122))
noncomputable def WW:Sp:=fun vs H Q _=>∃n,vs=[.int n]/\Q (.bl (dg n)) H
theorem HQ (T:Txt K mg a):Cal P w K mg base a 1 "is_digit" QC WW:=by
 refine AF (k:=0) T.XI WU (fun _ _ _ _ _ _=>CC fun _=>rfl) (fun _ _ _ _=>Wg fun _=>rfl) (fun f cdv A outer s H vs Q E hr h=>?_)
 ·obtain ⟨n,rfl,k⟩:=h
  refine ⟨_,(Af (Ap (Lw GX GX (AD CG rfl T.Hy boot_ord (Aa AH Ac)) (pv 0) (AD CG rfl T.Hy boot_ord (Aa AH Ac))))),?_⟩
  walk_at "rd"
  refine Bn (fun hc=>?_) (fun hc=>?_)
  ·walk_at "rd"
   have:dg n=decide (n<=57):=by unfold dg;rw[show decide ((48:Int)<=n)=true from hc];rfl
   rw[this] at k
   exact k
  ·have:dg n=false:=by unfold dg;rw[show decide ((48:Int)<=n)=false from Bool.eq_false_iff.mpr hc];rfl
   rw[this] at k
   exact k
noncomputable def Vp:Sp:=fun vs H Q _=>∃n,vs=[.int n]/\Q (.bl (lt n)) H
theorem Lg (T:Txt K mg a):Cal P w K mg base a 1 "is_letter" Nq Vp:=by
 refine AF (k:=0) T.VQ Vk (fun _ _ _ _ _ _=>CC fun _=>rfl) (fun _ _ _ _=>Wg fun _=>rfl) (fun f cdv A outer s H vs Q E hr h=>?_)
 ·obtain ⟨n,rfl,k⟩:=h
  refine ⟨_,(Af (Ap (jl (Lw GX GX (AD CG rfl T.Hy boot_ord (Aa AH Ac)) (pv 0) (AD CG rfl T.Hy boot_ord (Aa AH Ac))) (ig (Lw GX GX (AD CG rfl T.Hy boot_ord (Aa AH Ac)) (pv 0) (AD CG rfl T.Hy boot_ord (Aa AH Ac))))))),?_⟩
  walk_at "rd"
  refine Bn (fun hc=>?_) (fun hc=>?_)
  ·walk_at "rd"
   refine Bn (fun hd=>?_) (fun hd=>?_)
   ·have:lt n=true:=by unfold lt;rw[show decide ((65:Int)<=n)=true from hc,show decide (n<=(90:Int))=true from hd];rfl
    rw[this] at k
    exact k
   ·walk_at "rd"
    have:lt n=(decide (97<=n)&&decide (n<=122)):=by unfold lt;rw[show decide ((65:Int)<=n)=true from hc,show decide (n<=(90:Int))=false from Bool.eq_false_iff.mpr hd];rfl
    rw[this] at k
    refine Bn (fun he=>?_) (fun he=>?_)
    ·walk_at "rd"
     rw[show decide ((97:Int)<=n)=true from he] at k
     exact k
    ·rw[show decide ((97:Int)<=n)=false from Bool.eq_false_iff.mpr he] at k
     exact k
  ·refine ⟨_,rfl,Bw ?_⟩
   walk_at "rd"
   have:lt n=(decide (97<=n)&&decide (n<=122)):=by unfold lt;rw[show decide ((65:Int)<=n)=false from Bool.eq_false_iff.mpr hc];rfl
   rw[this] at k
   refine Bn (fun he=>?_) (fun he=>?_)
   ·walk_at "rd"
    rw[show decide ((97:Int)<=n)=true from he] at k
    exact k
   ·rw[show decide ((97:Int)<=n)=false from Bool.eq_false_iff.mpr he] at k
    exact k
noncomputable def cO (a:Ad):Sp:=fun vs H Q _=>∃x dx t b,vs=[.ref x,.ref t]/\H x=some (.ins a.CR dx [])/\H t=some (.lst (bV b))/\b.length<=30000/\∀H',Rdr a H' x t b ⟨b,0⟩->Mv [x] H H'->Q .non H'
theorem HN (T:Txt K mg a):Rx P w K mg base a 1 a.CR "Reader" Jn (cO a):=by
 refine Gp (k:=0) T.bW Ra (fun _=>(fun _ _ _ _ _ _=>Fh fun _ _=>rfl)) (fun _ _ _ _=>IZ fun _ _ _ _=>rfl) (fun q f cdv A outer s H vs Q E hr h=>?_)
 ·obtain ⟨x,dx,t,b,rfl,hx,ht,hb,k⟩:=h
  refine ⟨_,(Ab (Br (pv 0) (pv 1) rfl) (Af (Br (pv 0) Ao rfl))),?_⟩
  refine ⟨_,rfl,_,rfl,AN x a.CR dx ⟨ [],rfl,hx,T.Aj,T.DS,(by show 0<1000;decide),?_⟩⟩
  refine ⟨_,rfl,Aw x a.CR dx _ ⟨ rfl,Ae,T.Aj,T.AG,(by show 1<1000;decide),?_⟩⟩
  rw[Zx]
  refine k _ ⟨⟨dx,Ae⟩,?_,In.start b,hb⟩ (Mv.at (by simp))
  rw[Ai (CI ht hx (by intro z;cases z))]
  exact ht
noncomputable def cP (a:Ad):Sp:=fun vs H Q _=>∃x t b c,vs=[.ref x]/\Rdr a H x t b c/\Q (.int (nx c)) H
theorem Bo (T:Txt K mg a):Mc P w K mg base a 1 a.CR "look" Jo (cP a):=by
 refine DR (k:=0) T.RO Rb (fun _ _ _ _ _ _=>CC fun _=>rfl) (fun _ _ _ _=>IZ fun _ _ _ _=>rfl) (fun f cdv A outer s H vs Q E hr h=>?_)
 ·obtain ⟨x,t,b,c,rfl,R,k⟩:=h
  obtain ⟨dx,hx⟩:=R.ins
  refine ⟨_,(Ab (AS (Av GY (Au (pv 0) rfl) (AD AQ rfl T.DD boot_len (Aa (Au (pv 0) rfl) Ac)) (AB _)) (Af (Ap (Be Bs (Au (pv 0) rfl) (Au (pv 0) rfl) (fun _ _=>rfl)))) Ax) (Af (Ap (Ay T.fT)))),?_⟩
  refine ⟨_,rfl,AA x a.CR dx _ _ ⟨ rfl,hx,T.Aj,T.AG,rfl,_,rfl,AA x a.CR dx _ _ ⟨ rfl,hx,T.Aj,T.DS,rfl,Aq t _ ⟨ rfl,.inl (SqL.of R.txt),Aq _ _ ⟨ rfl,rfl,_,rfl,?_⟩⟩⟩⟩⟩
  refine Bn (fun hc=>?_) (fun hc=>?_)
  ·refine ⟨_,rfl,AA x a.CR dx _ _ ⟨ rfl,hx,T.Aj,T.DS,rfl,_,rfl,AA x a.CR dx _ _ ⟨ rfl,hx,T.Aj,T.AG,rfl,Aw t _ _ _ ⟨ rfl,rfl,SqL.of R.txt,at_of rfl ?_,k⟩⟩⟩⟩
   have h1:c.at_<b.length:=by
    have:=of_decide_eq_true hc
    rw[show (bV b).length=b.length by unfold bV;simp] at this
    omega
   show (bV b)[c.at_]?=some (.int (nx c))
   unfold bV nx
   rw[R.inn.next,List.getElem?_map,List.getElem?_eq_getElem h1]
   rfl
  ·have h1:¬c.at_<b.length:=fun z=>hc (decide_eq_true (by rw[show (bV b).length=b.length by unfold bV;simp];omega))
   have:nx c=256:=by
    unfold nx
    rw[R.inn.next,List.getElem?_eq_none (by omega)]
   rw[this] at k
   exact k
noncomputable def Yy (a:Ad):Sp:=fun vs H Q _=>∃x t b c,∃y:Nat,vs=[.ref x,.str ⟨#[y]⟩]/\Rdr a H x t b c/\Q (.bl (decide (nx c=y))) H
theorem Bg (T:Txt K mg a):Mc P w K mg base a 2 a.CR "stands" Ha (Yy a):=by
 refine DR (k:=1) T.Oj MG (fun _ _ _ _ _ _=>Fh fun _ _=>rfl) (fun _ _ _ _=>Oh fun _ _ _ _ _=>rfl) (fun f cdv A outer s H vs Q E hr h=>?_)
 ·obtain ⟨x,t,b,c,y,rfl,R,k⟩:=h
  obtain ⟨dx,hx⟩:=R.ins
  refine ⟨_,(Af (Ap (OM BA (BZ (Bo T) T.Aj hr Ak (pv 0)) (AD CG rfl T.Hy boot_ord (Aa (pv 1) Ac)) (AB _)))),?_⟩
  refine ⟨_,rfl,AN x dx _ ⟨ rfl,hx,rfl,Aw x t b c ⟨ rfl,R,?_⟩⟩⟩
  refine ⟨_,rfl,_,rfl,rfl,rfl,?_⟩
  rw[dV]
  exact k
noncomputable def fj (a:Ad):Sp:=fun vs H Q _=>∃x t b c,vs=[.ref x]/\Rdr a H x t b c/\Q (.bl (decide (nx c=256))) H
theorem FV (T:Txt K mg a):Mc P w K mg base a 2 a.CR "at_end" GZ (fj a):=by
 refine DR (k:=1) T.Oi MF (fun _ _ _ _ _ _=>CC fun _=>rfl) (fun _ _ _ _=>IZ fun _ _ _ _=>rfl) (fun f cdv A outer s H vs Q E hr h=>?_)
 ·obtain ⟨x,t,b,c,rfl,R,k⟩:=h
  obtain ⟨dx,hx⟩:=R.ins
  refine ⟨_,(Af (Ap (OM BA (BZ (Bo T) T.Aj hr Ak (pv 0)) (Ay T.fT) (AB _)))),?_⟩
  refine ⟨_,rfl,AN x dx _ ⟨ rfl,hx,rfl,Aw x t b c ⟨ rfl,R,?_⟩⟩⟩
  refine ⟨rfl,?_⟩
  rw[dV]
  exact k
end
end Td
namespace Td
open PySem PySem.Spec PyProof.Rows L2
open Tide (Bytes Cur lit some_ someDigits nameIn isDigit isLetter nextIs decimal pointed plainNumber)
theorem eC {x:Str}{g:TG}{tb:TS}{D:Ends}{σ:L2.St}{H:Hp} (Pv:Nat->L2.St->Hp->Prop) (h0:Pv 0 σ H)
  (hs:∀(i:Nat) (c:Nat) σ H,x.cps.toList[i]?=some c->Pv i σ H->g (.str ⟨#[c]⟩) σ H fun σ2 H2=>tb { D with nx:=Pv (i+1),ct:=Pv (i+1),bk:=D.nx } σ2 H2) (hd:∀σ H,Pv x.cps.toList.length σ H->D.nx σ H) :
  ∃W:Nat->Nat->L2.St->Hp->Prop,(∃m,W 0 m σ H)/\∀i m σ H,W i m σ H ->
   ((Its x).stop i H/\D.nx σ H)\/((Its x).go i H/\∃N:L2.St->Hp->Prop,(∀σ' H',N σ' H'->∃m',m'<m/\W (i+1) m' σ' H')/\∀v H',(Its x).yld i H v H'->g v σ H' fun σ2 H2=>tb { D with nx:=N,ct:=N,bk:=D.nx } σ2 H2):=by
 refine ⟨fun i m σ H=>m=x.cps.size-i/\i<=x.cps.size/\Pv i σ H,⟨_,rfl,Nat.zero_le _,h0⟩,?_⟩
 rintro i m σ H ⟨rfl,hi,p⟩
 by_cases hlt:i<x.cps.size
 ·refine .inr ⟨hlt,Pv (i+1),fun σ' H' p'=>⟨x.cps.size-(i+1),by omega,rfl,hlt,p'⟩,fun v H' y=>?_⟩
  obtain ⟨e,c,hc,ev⟩:=y
  subst e ev
  exact hs i c σ _ (by simpa using hc) p
 ·have e:i=x.cps.toList.length:=by simp;omega
  refine .inl ⟨by show x.cps.size<=i;omega,hd σ H ?_⟩
  rw[<-e]
  exact p
theorem PF {K:PySem.W.Frag}{a:Addr}{xs:List V}{g:TG}{tb:TS}{D:Ends}{σ:L2.St}{H:Hp} (Pv:Nat->L2.St->Hp->Prop) (h0:Pv 0 σ H) (hl:∀i σ H,i<=xs.length->Pv i σ H->SqL K H a xs)
  (hs:∀(i:Nat) x p σ H,xs[i]?=some x->Pv i σ H->H p=none->g (.ref p) σ (upd H p (.tup [.int i,x])) fun σ2 H2=>tb { D with nx:=Pv (i+1),ct:=Pv (i+1),bk:=D.nx } σ2 H2) (hd:∀σ H,Pv xs.length σ H->D.nx σ H) :
  ∃W:Nat->Nat->L2.St->Hp->Prop,(∃m,W 0 m σ H)/\∀i m σ H,W i m σ H ->
   ((Ite K a).stop i H/\D.nx σ H)\/((Ite K a).go i H/\∃N:L2.St->Hp->Prop,(∀σ' H',N σ' H'->∃m',m'<m/\W (i+1) m' σ' H')/\∀x H',(Ite K a).yld i H x H'->g x σ H' fun σ2 H2=>tb { D with nx:=N,ct:=N,bk:=D.nx } σ2 H2):=by
 refine ⟨fun i m σ H=>m=xs.length-i/\i<=xs.length/\Pv i σ H,⟨_,rfl,Nat.zero_le _,h0⟩,?_⟩
 rintro i m σ H ⟨rfl,hi,p⟩
 have q:=hl i σ H hi p
 by_cases hlt:i<xs.length
 ·refine .inr ⟨⟨xs,xs[i],q,by simp[hlt]⟩,Pv (i+1),fun σ' H' p'=>⟨xs.length-(i+1),by omega,rfl,hlt,p'⟩,fun x H' y=>?_⟩
  obtain ⟨T,z,ev,hT,eH,hz⟩:=y
  subst ev eH
  exact hs i z T σ H (hz xs q) p hT
 ·have e:i=xs.length:=by omega
  subst e
  exact .inl ⟨⟨xs,q,Nat.le_refl _⟩,hd σ H p⟩
section
variable {P:Program}{w:World}{K:PySem.W.Frag}{mg:Str->Option Value}{base:Heap}{a:Ad}
noncomputable def codes (s:Str):List Nat:=s.cps.toList
noncomputable def Ba (s:Str) (w:Bytes):Prop:=codes s=w.map fun y=>y.toNat
noncomputable def LV (a:Ad):Sp:=fun vs H Q E=>∃x t b c s wd,vs=[.ref x,.str s]/\Ba s wd/\Rdr a H x t b c/\TkU a [] H x t b Q E (lit wd c)
theorem Rdr.step {H:Hp}{x t dx:Addr}{b:Bytes}{c:Cur}{y:UInt8} (R:Rdr a H x t b c) (hx:H x=some (.ins a.CR dx (rf t c.at_))) (e:c.next=some y):Rdr a (upd H x (.ins a.CR dx (rf t c.on.at_))) x t b c.on:=
 ⟨⟨dx,Ae⟩,by rw[Ai (CI R.txt hx (by intro z;cases z))];exact R.txt,R.inn.on e,R.sm⟩
theorem Vd (t:Addr) (n:Nat):BD "place" (.int ((n:Int)+1)) (rf t n)=rf t (n+1):=by
 show [(("text":Str),V.ref t),("place",V.int ((n:Int)+1))]=rf t (n+1)
 unfold rf
 rw[show ((n+1:Nat):Int)=(n:Int)+1 by omega]
theorem As (T:Txt K mg a):Mc P w K mg base a 3 a.CR "take_word" EW (LV a):=by
 refine DR (k:=2) T.JZ EA (fun _ _ _ _ _ _=>Fh fun _ _=>rfl) (fun _ _ _ _=>XY fun _ _ _ _ _ _=>rfl) (fun f cdv A outer s H vs Q E hr h=>?_)
 ·obtain ⟨x,t,b,c,sw,wd,rfl,hw,R,kO,kE⟩:=h
  refine ⟨_,(Af (DN El rfl (cF (pv 1)) (Bm (i:=2) EA.nd rfl (Or.inl rfl)) (Ab (AS (CY (Bt (AE (Bg T) T.Aj hr Ak (pv 0) (Aa (pv 2) Ac)))) (Af (Hf T.xc (xfn T) hr T.mgF (Aa (Ay T.FO) (Aa (Au (pv 0) rfl) Ac)) Em)) Ax) (Af (MA (pv 0) Ao XS))))),?_⟩
  refine ⟨_,rfl,_,rfl,eC (x:=sw) (fun i σ H'=>∃v c',σ=[some (.ref x),some (.str sw),v]/\Rdr a H' x t b c'/\Mv [x] H H'/\lit wd c=lit (wd.drop i) c') (Aq none c ⟨ rfl,R,Mv.refl,rfl⟩) ?_ ?_⟩
  ·rintro i y σ H1 hy ⟨v,c1,rfl,R1,M1,e1⟩
   obtain ⟨dx,hx⟩:=R1.ins
   have hy':wd[i]?.map (fun z=>z.toNat)=some y:=by
    rw[<-List.getElem?_map]
    rw[show wd.map (fun z=>z.toNat)=sw.cps.toList from hw.symm]
    exact hy
   obtain ⟨z,hz,rfl⟩:∃z,wd[i]?=some z/\z.toNat=y:=by
    cases q:wd[i]? with
    |none=>rw[q] at hy';cases hy'
    |some z=>rw[q] at hy';exact ⟨z,rfl,Option.some.inj hy'⟩
   have hdr:wd.drop i=z::wd.drop (i+1):=by
    obtain ⟨h1,h2⟩:=List.getElem?_eq_some_iff.mp hz
    rw[List.drop_eq_getElem_cons h1,h2]
   refine ⟨_,rfl,AN x dx _ ⟨ rfl,hx,rfl,_,rfl,AA x t b c1 _ ⟨ rfl,R1,_,rfl,?_⟩⟩⟩
   by_cases hq:c1.next=some z
   ·have hd:decide (nx c1=((z.toNat:Nat):Int))=true:=decide_eq_true (Dp.mpr hq)
    rw[hd]
    refine Bw ?_
    refine ⟨_,rfl,AA x a.CR dx _ _ ⟨ rfl,hx,T.Aj,T.AG,rfl,Aq _ _ ⟨ rfl,rfl,?_⟩⟩⟩
    refine (Aq dx _ ⟨ hx,(by show 2<1000;decide),_,c1.on,rfl,?_,M1.trans (Mv.at (by simp)),?_⟩)
    ·rw[Vd]
     exact R1.step hx hq
    ·rw[e1,hdr,lit,if_pos hq]
   ·have hd:decide (nx c1=((z.toNat:Nat):Int))=false:=decide_eq_false fun z=>hq (Dp.mp z)
    rw[hd]
    refine Bx ?_
    refine ⟨_,rfl,AA x a.CR dx _ _ ⟨ rfl,hx,T.Aj,T.AG,rfl,Aq _ _ ⟨ rfl,fun d2 hd2=>?_⟩⟩⟩
    refine kE c1.at_ ?_ _ _ (M1.trans (Mv.new hd2)) Ae
    rw[e1,hdr,lit,if_neg hq]
  ·rintro σ H1 ⟨v,c1,rfl,R1,M1,e1⟩
   have hl:wd.drop sw.cps.toList.length=[]:=by
    have:sw.cps.toList.length=wd.length:=by
     have:=congrArg List.length hw
     rw[List.length_map] at this
     exact this
    rw[this,List.drop_length]
   rw[hl,lit] at e1
   exact kO c1 e1 _ R1 M1
noncomputable def choice:List (Str×Bytes)->Cur->Except Nat (Str×Cur)
 |[],c=>.error c.at_
 |w::r,c=>if c.next=w.2.head? then (lit w.2 c).map fun d=>(w.1,d) else choice r c
theorem Ca {s:Str}{z:UInt8}{zs:Bytes}{r:List (Str×Bytes)}{c:Cur} (h:c.next=some z):choice ((s,z::zs)::r) c=(lit (z::zs) c).map fun d=>(s,d):=if_pos h
theorem BU {s:Str}{z:UInt8}{zs:Bytes}{r:List (Str×Bytes)}{c:Cur} (h:¬c.next=some z):choice ((s,z::zs)::r) c=choice r c:=if_neg h
noncomputable def Cv (ws:List (Str×Bytes)):List V:=ws.map fun w=>V.str w.1
noncomputable def Words (ws:List (Str×Bytes)):Prop:=∀w∈ws,Ba w.1 w.2/\w.2≠[]/\w.2.length<=100
noncomputable def Rh (K:PySem.W.Frag) (a:Ad):Sp:=fun vs H Q E=>∃x t b c p ws,vs=[.ref x,.ref p]/\SqT K H p (Cv ws)/\Words ws/\Rdr a H x t b c/\Tk a [] H x t b Q E (choice ws c) fun y v _=>v = .str y
theorem BM (T:Txt K mg a):Mc P w K mg base a 4 a.CR "take_choice" DZ (Rh K a):=by
 refine DR (k:=3) T.HF DJ (fun _ _ _ _ _ _=>Fh fun _ _=>rfl) (fun _ _ _ _=>XY fun _ _ _ _ _ _=>rfl) (fun f cdv A outer s H vs Q E hr h=>?_)
 ·obtain ⟨x,t,b,c,p,ws,rfl,hS,hW,R,kO,kE⟩:=h
  obtain ⟨dx,hx⟩:=R.ins
  refine ⟨_,(Ab (DN El rfl (ik (pv 1)) (Bm (i:=2) DJ.nd rfl (Or.inl rfl)) (Af (AS (Bt (AE (Bg T) T.Aj hr Ak (pv 0) (Aa (Be gQ (pv 2) Ao (fun _ _=>rfl)) Ac))) (Ab (AJ (AE (As T) T.Aj hr Ak (pv 0) (Aa (pv 2) Ac))) (Af (Ap (pv 2)))) Ax))) (Af (Hf T.xc (xfn T) hr T.mgF (Aa (Ay T.FO) (Aa (Au (pv 0) rfl) Ac)) Em))),?_⟩
  refine ⟨_,rfl,p,rfl,⟨_,hS⟩,eD (xs:=Cv ws) (fun i σ H'=>∃v,σ=[some (.ref x),some (.ref p),v]/\H'=H/\choice ws c=choice (ws.drop i) c) ⟨none,rfl,rfl,rfl⟩ (fun i σ H' _ ⟨_,_,e,_⟩=>by rw[e];exact hS) ?_ ?_⟩
  ·rintro i y σ H1 hy ⟨v,rfl,rfl,e1⟩
   obtain ⟨wd,hz,rfl⟩:∃z,ws[i]?=some z/\V.str z.1=y:=by
    unfold Cv at hy
    rw[List.getElem?_map] at hy
    cases q:ws[i]? with
    |none=>rw[q] at hy;cases hy
    |some z=>rw[q] at hy;exact ⟨z,rfl,Option.some.inj hy⟩
   have hdr:ws.drop i=wd::ws.drop (i+1):=by
    obtain ⟨h1,h2⟩:=List.getElem?_eq_some_iff.mp hz
    rw[List.drop_eq_getElem_cons h1,h2]
   obtain ⟨hT,hne,hln⟩:=hW wd (List.mem_of_getElem? hz)
   obtain ⟨sw,w2⟩:=wd
   cases w2 with
   |nil=>exact absurd rfl hne
   |cons z zs=>
    have hlen:sw.length<=100:=by
     have:=congrArg List.length (show codes sw=(z::zs).map (fun y=>y.toNat) from hT)
     rw[List.length_map] at this
     have h3:(z::zs).length<=100:=hln
     show sw.cps.size<=100
     have h2:(codes sw).length=sw.cps.size:=by unfold codes;simp
     omega
    refine ⟨_,rfl,AN x dx _ ⟨ rfl,hx,rfl,_,rfl,sw,0,z.toNat,rfl,rfl,Nat.le_trans hlen (by decide),?_,?_⟩⟩
    ·have:sw.cps.toList=z.toNat::zs.map fun y=>y.toNat:=hT
     rw[this]
     exact AK (j:=0) rfl
    refine (Aw x t b c ⟨ z.toNat,rfl,R,_,rfl,?_⟩)
    by_cases hq:c.next=some z
    ·rw[decide_eq_true (Dp.mpr hq)]
     refine Bx ?_
     refine ⟨_,rfl,AN x dx _ ⟨ rfl,hx,rfl,_,rfl,AA x t b c sw ⟨ z::zs,rfl,hT,R,fun d e H2 R2 M2=>?_,fun p e d2 H2 M2 hF=>?_⟩⟩⟩
     ·refine ⟨_,rfl,kO sw d ?_ _ _ R2 M2 rfl⟩
      rw[e1,hdr,Ca hq,e]
      rfl
     ·refine kE p ?_ _ _ M2 hF
      rw[e1,hdr,Ca hq,e]
      rfl
    ·rw[decide_eq_false fun z=>hq (Dp.mp z)]
     refine Bw ⟨_,rfl,rfl,?_⟩
     rw[e1,hdr,BU hq]
  ·rintro σ H1 ⟨v,rfl,rfl,e1⟩
   refine ⟨_,rfl,AA x a.CR dx _ _ ⟨ rfl,hx,T.Aj,T.AG,rfl,Aq _ _ ⟨ rfl,fun d2 hd2=>?_⟩⟩⟩
   refine kE c.at_ ?_ _ _ (Mv.new hd2) Ae
   rw[e1,show (Cv ws).length=ws.length by unfold Cv;simp,List.drop_length,choice]
noncomputable def MX (ws:List (Str×Bytes)) (c:Cur):Except Nat (Str×Cur):=if ws=[]\/c.next=some 10 then (lit [10] c).map fun d=>(Str.empty,d) else lit [32] c >>= choice ws
noncomputable def MH (K:PySem.W.Frag) (a:Ad):Sp:=fun vs H Q E=>∃x t b c p ws,vs=[.ref x,.ref p]/\H p=some (.tup (Cv ws))/\Words ws/\Rdr a H x t b c/\Tk a [] H x t b Q E (MX ws c) fun y v _=>v = .str y
theorem DE (T:Txt K mg a):Mc P w K mg base a 5 a.CR "take_end_or" Eb (MH K a):=by
 refine DR (k:=4) T.HH Hx (fun _ _ _ _ _ _=>Fh fun _ _=>rfl) (fun _ _ _ _=>XY fun _ _ _ _ _ _=>rfl) (fun f cdv A outer s H vs Q E hr h=>?_)
 ·obtain ⟨x,t,b,c,p,ws,rfl,hS,hW,R,kO,kE⟩:=h
  obtain ⟨dx,hx⟩:=R.ins
  have npx:p≠x:=CI hS hx (by intro z;cases z)
  have lf:Ba "\n" [10]:=rfl
  have sp:Ba " " [32]:=rfl
  refine ⟨_,(Ab (AS (PW.pt (Hh (CY (WR (pv 1) (fun _=>rfl))) (EX (Bt (AE (Bg T) T.Aj hr Ak (pv 0) (Aa AH Ac)))))) (Ab (AJ (AE (As T) T.Aj hr Ak (pv 0) (Aa AH Ac))) (Af (Ap AH))) Ax) (Ab (AJ (AE (As T) T.Aj hr Ak (pv 0) (Aa AH Ac))) (Af (Ap (AE (BM T) T.Aj hr Ak (pv 0) (Aa (pv 1) Ac)))))),?_⟩
  have go1:(ws=[]\/c.next=some 10)->Hr a.CR "take_word" (LV a) [] E (AW 0) (AL (tC (.str "\n")) BQ) [some (.ref x),some (.ref p)] H (fun _ H1=>Q (.str "") H1):=fun hc=>by
   refine ⟨_,rfl,AN x dx _ ⟨ rfl,hx,rfl,AA x t b c _ ⟨ [10],rfl,lf,R,fun d e H2 R2 M2=>?_,fun p e d2 H2 M2 hF=>?_⟩⟩⟩
   ·exact kO _ d (by unfold MX;rw[if_pos hc,e];rfl) _ _ R2 M2 rfl
   ·exact kE p (by unfold MX;rw[if_pos hc,e];rfl) _ _ M2 hF
  have go2:¬(ws=[]\/c.next=some 10)->Hr a.CR "take_word" (LV a) [] E (AW 0) (AL (tC (.str " ")) BQ) [some (.ref x),some (.ref p)] H (fun _ H1=>Hr a.CR "take_choice" (Rh K a) [] E (AW 0) (AL (AW 1) BQ) [some (.ref x),some (.ref p)] H1 Q):=fun hc=>by
   refine ⟨_,rfl,AN x dx _ ⟨ rfl,hx,rfl,AA x t b c _ ⟨ [32],rfl,sp,R,fun d e H2 R2 M2=>?_,fun p e d2 H2 M2 hF=>?_⟩⟩⟩
   ·obtain ⟨dx2,hx2⟩:=R2.ins
    refine ⟨_,rfl,AN x dx2 _ ⟨ rfl,hx2,rfl,_,rfl,Pl x t b d p ws ⟨ rfl,SqT.of (M2 _ _ hS (by simpa using npx)),hW,R2,fun y c2 e2 v H3 R3 M3 hv=>?_,fun p e2 d2 H3 M3 hF=>?_⟩⟩⟩
    ·exact kO y c2 (by unfold MX;rw[if_neg hc,e];exact e2) _ _ R3 (M2.trans M3) hv
    ·exact kE p (by unfold MX;rw[if_neg hc,e];exact e2) _ _ (M2.trans M3) hF
   ·exact kE p (by unfold MX;rw[if_neg hc,e];rfl) _ _ M2 hF
  by_cases h0:ws=[]
  ·subst h0
   exact ⟨_,rfl,false,.inr (.inl ⟨_,SqT.of hS,rfl⟩),Bx (go1 (.inl rfl))⟩
  ·have ht:true = !(Cv ws).isEmpty:=by
    cases ws with
    |nil=>exact absurd rfl h0
    |cons _ _=>rfl
   refine ⟨_,rfl,true,.inr (.inl ⟨_,SqT.of hS,ht⟩),Bw ?_⟩
   refine ⟨_,rfl,AN x dx _ ⟨ rfl,hx,rfl,Aw x t b c ⟨ 10,rfl,R,_,rfl,?_⟩⟩⟩
   by_cases hq:c.next=some 10
   ·rw[show decide (nx c=((10:Nat):Int))=true from decide_eq_true (Dp (y:=10).mpr hq)]
    exact Bx (go1 (.inr hq))
   ·rw[show decide (nx c=((10:Nat):Int))=false from decide_eq_false fun z=>hq (Dp (y:=10).mp z)]
    exact Bw (go2 fun z=>z.elim h0 hq)
end
end Td
namespace Td
open PySem PySem.Spec PyProof.Rows L2
open Tide (Bytes Cur lit some_ someDigits nameIn isDigit isLetter nextIs decimal pointed plainNumber)
local macro_rules|`(tactic| walk_at "rd")=>`(tactic| repeat (first|refine ⟨_,rfl,?_⟩|refine (Aq _ _ ⟨ rfl,rfl,?_⟩)|refine ⟨rfl,?_⟩))
theorem nl (c:Cur):lt (nx c)=nextIs isLetter c:=by
 unfold lt nx nextIs
 cases c.next with
 |none=>rfl
 |some y=>
  unfold isLetter
  simp only
  congr 1<;>congr 1<;>exact decide_eq_decide.mpr (by omega)
theorem nd (c:Cur):dg (nx c)=nextIs isDigit c:=by
 unfold dg nx nextIs
 cases c.next with
 |none=>rfl
 |some y=>
  unfold isDigit
  simp only
  congr 1<;>exact decide_eq_decide.mpr (by omega)
theorem Ff:∀l:List Int,(∀n∈l,0<=n/\n<=9)->0<=Fi l/\Fi l<10^l.length
 |[],_=>by simp[Fi]
 |x::r,h=>by
  have h1:=Ff r fun n hn=>h n (List.mem_cons_of_mem _ hn)
  have h2:=h x (List.mem_cons_self ..)
  have e:Fi (x::r)=x*10^r.length+Fi r:=by
   show r.foldl (fun (v d:Int)=>v*10+d) (0*10+x)=_
   rw[Gi]
   simp
  have hp:(0:Int)<=10^r.length:=Int.pow_nonneg (by decide)
  have m1:x*10^r.length<=9*10^r.length:=Int.mul_le_mul_of_nonneg_right h2.2 hp
  have m2:0<=x*10^r.length:=Int.mul_nonneg h2.1 hp
  rw[e,List.length_cons,Int.pow_succ]
  omega
section
variable {P:Program}{w:World}{K:PySem.W.Frag}{mg:Str->Option Value}{base:Heap}{a:Ad}
noncomputable def WZ (K:PySem.W.Frag):Sp:=fun vs H Q _=>∃p,∃ns:List Int,vs=[.ref p]/\SqL K H p (ns.map V.int)/\ns.length<=20/\(∀n∈ns,0<=n/\n<=9)/\Q (.int (Fi ns)) H
theorem take_one {l:List Int}{i:Nat}{n:Int} (h:l[i]?=some n):Fi (l.take (i+1))=Fi (l.take i)*10+n:=by
 obtain ⟨h1,h2⟩:=List.getElem?_eq_some_iff.mp h
 rw[List.take_succ_eq_append_getElem h1,IK,h2]
 simp[Fi]
theorem Ng (T:Txt K mg a):Cal P w K mg base a 1 "value_of" QH (WZ K):=by
 refine AF (k:=0) T.XQ Fy (fun _ _ _ _ _ _=>CC fun _=>rfl) (fun _ _ _ _=>RN fun _ _=>rfl) (fun f cdv A outer s H vs Q E hr h=>?_)
 ·obtain ⟨p,ns,rfl,hS,hl,hb,k⟩:=h
  refine ⟨_,(Ab (Al (i:=1) Fy.nd rfl (Or.inl rfl) Ao) (Ab (DN El rfl (Dg (pv 0)) (Bm (i:=2) Fy.nd rfl (Or.inl rfl)) (Af (Al (i:=1) Fy.nd rfl (Or.inl rfl) (Az CU (Az Bl (pv 1) Ao) (pv 2))))) (Af (Ap (pv 1))))),?_⟩
  refine ⟨_,rfl,p,rfl,⟨_,hS⟩,EO (xs:=ns.map V.int) (fun i σ H'=>∃v,σ=[some (.ref p),some (.int (Fi (ns.take i))),v]/\H'=H) ⟨none,rfl,rfl⟩ (fun i σ H' _ ⟨_,_,e⟩=>by rw[e];exact hS) ?_ ?_⟩
  ·rintro i y σ H1 hy ⟨v,rfl,rfl⟩
   obtain ⟨n,hn,rfl⟩:∃n,ns[i]?=some n/\V.int n=y:=by
    rw[List.getElem?_map] at hy
    cases q:ns[i]? with
    |none=>rw[q] at hy;cases hy
    |some z=>rw[q] at hy;exact ⟨z,rfl,Option.some.inj hy⟩
   have hi:i<ns.length:=(List.getElem?_eq_some_iff.mp hn).1
   have hB:=Ff (ns.take i) fun n hn=>hb n (List.mem_of_mem_take hn)
   have hB2:Fi (ns.take i)<10^20:=Int.lt_of_lt_of_le hB.2 (by
    have:(ns.take i).length<=20:=by rw[List.length_take];omega
    exact_mod_cast Nat.pow_le_pow_right (by decide:0<10) this)
   refine ⟨_,rfl,Aq _ _ ⟨ rfl,rfl,⟨by omega,by decide⟩,_,rfl,Aq _ _ ⟨ rfl,rfl,?_⟩⟩⟩
   exact ⟨_,by rw[take_one hn];rfl,rfl⟩
  ·rintro σ H1 ⟨v,rfl,rfl⟩
   refine ⟨_,rfl,?_⟩
   rw[List.length_map,List.take_length]
   exact k
theorem Mv.ext {S:List Addr}{H H1:Hp}{p:Addr}{o:HO} (M:Mv S H H1) (h:H p=none):Mv S H (upd H1 p o):=fun c u e n=>by rw[Ai (An e h)];exact M c u e n
theorem Rdr.keep {H H':Hp}{x t:Addr}{b:Bytes}{c:Cur} (R:Rdr a H x t b c) (h1:∀o,H x=some o->H' x=some o) (h2:∀o,H t=some o->H' t=some o):Rdr a H' x t b c:=
 let ⟨dx,hx⟩:=R.ins;⟨⟨dx,h1 _ hx⟩,h2 _ R.txt,R.inn,R.sm⟩
theorem Rdr.upd {H:Hp}{x t p:Addr}{b:Bytes}{c:Cur}{o:HO} (R:Rdr a H x t b c) (h1:p≠x) (h2:p≠t):Rdr a (upd H p o) x t b c:=
 R.keep (fun u e=>by rw[Ai (Ne.symm h1)];exact e) fun u e=>by rw[Ai (Ne.symm h2)];exact e
theorem Gf {p:UInt8->Bool}{k:Nat}{c:Cur}{y:UInt8} (h:c.next=some y) (hp:p y=true):some_ p (k+1) c=(y::(some_ p k c.on).1,(some_ p k c.on).2):=by
 rw[some_,h]
 simp only [hp,if_true]
theorem To {p:UInt8->Bool}{k:Nat}{c:Cur} (h:nextIs p c=false):some_ p k c=([],c):=by
 cases k with
 |zero=>rfl
 |succ k=>
  rw[some_]
  unfold nextIs at h
  cases q:c.next with
  |none=>rfl
  |some y=>
   rw[q] at h
   simp only at h
   simp only [h,Bool.false_eq_true,if_false]
noncomputable def dgs (l:Bytes):List V:=l.map fun y=>V.int (CN y)
noncomputable def Yx (a:Ad):Sp:=fun vs H Q E=>∃x t b c,∃n:Nat,vs=[.ref x,.int n]/\1<=n/\n<=20/\Rdr a H x t b c/\Tk a [] H x t b Q E (someDigits n c) fun y v H'=>∃p,v = .ref p/\H p=none/\p≠x/\p≠t/\H' p=some (.lst (dgs y))
theorem BN (T:Txt K mg a):Mc P w K mg base a 3 a.CR "take_digits" Ea (Yx a):=by
 refine DR (k:=2) T.HG DK (fun _ _ _ _ _ _=>Fh fun _ _=>rfl) (fun _ _ _ _=>Oh fun _ _ _ _ _=>rfl) (fun f cdv A outer s H vs Q E hr h=>?_)
 ·obtain ⟨x,t,b,c,n,rfl,hn1,hn2,R,kO,kE⟩:=h
  refine ⟨_,(Ab (Al (i:=2) DK.nd rfl (Or.inl rfl) (Bb Ac)) (Ab (Cs El (PW.pt (MB (Av GY (AD AQ rfl T.DD boot_len (Aa (pv 2) Ac)) (pv 1) (AB _)) (IV (Bt (Ar (HQ T) hr Ak (Aa (BZ (Bo T) T.Aj hr Ak (pv 0)) Ac)))))) (Ab (AJ (He PySem.F.plainAttrs_list PySem.F.slot_list_append PySem.F.type_list_append CP (pv 2) (Aa (Az Dt (BZ (Bo T) T.Aj hr Ak (pv 0)) (AD CG rfl T.Hy boot_ord (Aa AH Ac))) Ac))) (Af (MA (pv 0) Ao XS)))) (Ab (AS (CY (WR (pv 2) (fun _=>rfl))) (Af (Hf T.xc (xfn T) hr T.mgF (Aa (Ay T.FO) (Aa (Au (pv 0) rfl) Ac)) Em)) Ax) (Af (Ap (pv 2)))))),?_⟩
  refine ⟨Nat.zero_le _,fun p hp=>?_⟩
  obtain ⟨dx0,hx0⟩:=R.ins
  have npx:p≠x:=fun z=>by rw[z,hx0] at hp;cases hp
  have npt:p≠t:=fun z=>by rw[z,R.txt] at hp;cases hp
  refine ⟨fun m σ H'=>∃c' pre,σ=[some (.ref x),some (.int n),some (.ref p)]/\Rdr a H' x t b c'/\Mv [x] H H'/\H' p=some (.lst (dgs pre))/\pre.length<=n/\m=n-pre.length /\
   some_ isDigit n c=(pre++(some_ isDigit (n-pre.length) c').1,(some_ isDigit (n-pre.length) c').2)/\(pre=[]->c'=c)/\(pre≠[]->nextIs isDigit c=true),(Aq n c ⟨ [],rfl,R.upd npx npt,Mv.refl.ext hp,Ae,Nat.zero_le _,rfl,rfl,fun _=>rfl,fun z=>absurd rfl z⟩),?_⟩
  rintro m σ H1 hI_
  refine hid fun X_ k_=>?_
  obtain ⟨c1,pre,rfl,R1,M1,hp1,hl,rfl,e1,hc1,hc2⟩:=hI_
  refine k_ ?_;clear k_
  obtain ⟨dx,hx⟩:=R1.ins
  have hlen:(dgs pre).length=pre.length:=by unfold dgs;simp
  have fin:some_ isDigit n c=(pre,c1)->Kl (YE (jB (fun σ H Q=>∃v,σ[2]?=some (some v)/\∃k,gk K v H k/\Q k H)) (IJ xfs (fun H dx=>E (.ref a.CF) (some dx) H) (AL (tC (.int 1)) (AL (Gh K (AW 0) "place") BQ))) NX) (MI (AW 2)) { nx:=fun _ H'=>Q .non H',rt:=Q } [some (.ref x),some (.int n),some (.ref p)] H1:=fun e=>by
   cases pre with
   |nil=>
    refine ⟨_,rfl,false,.inl ⟨_,SqL.of hp1,rfl⟩,Bx ?_⟩
    refine ⟨_,rfl,AA x a.CR dx _ _ ⟨ rfl,hx,T.Aj,T.AG,rfl,Aq _ _ ⟨ rfl,fun d2 hd2=>?_⟩⟩⟩
    have ec:=hc1 rfl
    subst ec
    refine kE c1.at_ ?_ _ _ (M1.trans (Mv.new hd2)) Ae
    unfold someDigits
    refine if_neg fun z=>?_
    have:=LR (n:=n-1) z
    rw[show n-1+1=n by omega,e] at this
    exact absurd this (by simp)
   |cons y ys=>
    refine ⟨_,rfl,true,.inl ⟨_,SqL.of hp1,rfl⟩,Bw ⟨_,rfl,?_⟩⟩
    refine kO _ _ ?_ _ _ R1 M1 ⟨p,rfl,hp,npx,npt,hp1⟩
    unfold someDigits
    rw[if_pos (hc2 (by simp)),e]
  refine ⟨_,rfl,Aq p _ ⟨ rfl,.inl (SqL.of hp1),_,rfl,Aq _ _ ⟨ rfl,rfl,_,rfl,?_⟩⟩⟩
  rw[hlen]
  by_cases hlt:pre.length<n
  ·refine Bn (fun _=>?_) (fun z=>absurd (decide_eq_true (show ((pre.length:Nat):Int)<(n:Int) by omega)) z)
   refine ⟨_,rfl,AN x dx _ ⟨ rfl,hx,rfl,Aw x t b c1 ⟨ rfl,R1,_,rfl,_,rfl,?_⟩⟩⟩
   rw[nd]
   cases hq:nextIs isDigit c1 with
   |true=>
    obtain ⟨y,hy,hyd⟩:=Bz hq
    refine Bx ⟨fun σ' H'=>_,fun σ' H' z=>z,?_⟩
    refine ⟨_,rfl,.inl ⟨rfl,_,SqL.of hp1⟩,⟨_,rfl,AN x dx _ ⟨ rfl,hx,rfl,Aw x t b c1 ⟨ rfl,R1,_,rfl,rfl,Aq _ _ ⟨ rfl,rfl,AN p _ _ ⟨ rfl,rfl,hp1,by rw[hlen];exact Nat.lt_of_lt_of_le hlt (Nat.le_trans hn2 (by decide)),?_⟩⟩⟩⟩⟩⟩
    have hx2:(upd H1 p (HO.lst (dgs pre++[V.int (nx c1-48)]))) x=some (.ins a.CR dx (rf t c1.at_)):=by rw[Ai (Ne.symm npx)];exact hx
    refine ⟨_,rfl,AA x a.CR dx _ _ ⟨ rfl,hx2,T.Aj,T.AG,rfl,Aq _ _ ⟨ rfl,rfl,Aq dx _ ⟨ hx2,(by show 2<1000;decide),?_⟩⟩⟩⟩
    refine ⟨n-(pre.length+1),by omega,c1.on,pre++[y],rfl,?_,(M1.ext hp).trans (Mv.at (by simp)),?_,by rw[List.length_append];simp;omega,by rw[List.length_append];rfl,?_,fun z=>absurd z (by simp),fun _=>?_⟩
    ·rw[Vd]
     exact (R1.upd npx npt).step hx2 hy
    ·rw[Ai npx,Ae]
     unfold dgs CN
     rw[show nx c1=(y.toNat:Int) from Dp.mpr hy,List.map_append]
     rfl
    ·rw[e1,show n-pre.length=(n-(pre++[y]).length)+1 by rw[List.length_append];simp;omega,Gf hy hyd]
     simp
    ·cases pre with
     |nil=>rw[hc1 rfl] at hq;exact hq
     |cons _ _=>exact hc2 (by simp)
   |false=>
    refine Bw (fin ?_)
    rw[e1,To hq]
    simp
  ·refine Bn (fun z=>absurd (of_decide_eq_true z) (by omega)) (fun _=>Bw (fin ?_))
   rw[e1,show n-pre.length=0 by omega]
   simp[some_]
end
end Td
namespace Td
open PySem PySem.Spec PyProof.Rows L2
open Tide (Bytes Cur lit some_ someDigits nameIn isDigit isLetter nextIs decimal pointed plainNumber)
section
variable {P:Program}{w:World}{K:PySem.W.Frag}{mg:Str->Option Value}{base:Heap}{a:Ad}
noncomputable def ld (y:UInt8):Bool:=isLetter y||isDigit y
theorem nld (c:Cur):(nextIs isLetter c||nextIs isDigit c)=nextIs ld c:=by
 unfold nextIs ld
 cases c.next<;>rfl
noncomputable def Ri (a:Ad):Sp:=fun vs H Q E=>∃x t b c,vs=[.ref x]/\Rdr a H x t b c/\Tk a [] H x t b Q E (nameIn c) fun y v H'=>∃p,v = .ref p/\H p=none/\H' p=some (.tup (bV y))
theorem gv (b:Bytes) (n m:Nat) (h:n+m<=b.length):Oc (bV b) (some (n:Int)) (some ((n+m:Nat):Int))=bV ((b.drop n).take m):=by
 unfold Oc bV
 rw[List.length_map,HT.LB,HT.LB,show min n b.length=n by omega,show min (n+m) b.length=n+m by omega,show n+m-n=m by omega,<-List.map_drop,<-List.map_take]
theorem CS (T:Txt K mg a):Mc P w K mg base a 3 a.CR "take_name" EV (Ri a):=by
 refine DR (k:=2) T.JY Ez (fun _ _ _ _ _ _=>CC fun _=>rfl) (fun _ _ _ _=>IZ fun _ _ _ _=>rfl) (fun f cdv A outer s H vs Q E hr h=>?_)
 ·obtain ⟨x,t,b,c,rfl,R,kO,kE⟩:=h
  refine ⟨_,(Ab (Al (i:=1) Ez.nd rfl (Or.inl rfl) (Au (pv 0) rfl)) (Ab (AS (CY (Bt (Ar (Lg T) hr Ak (Aa (BZ (Bo T) T.Aj hr Ak (pv 0)) Ac)))) (Af (Hf T.xc (xfn T) hr T.mgF (Aa (Ay T.FO) (Aa (pv 1) Ac)) Em)) Ax) (Ab (Cs El (PW.pt (MB (Av GY (Au (pv 0) rfl) (Az CU (pv 1) (Ay T.TV)) (AB _)) (IV (PW.pt (Hh (Bt (Ar (Lg T) hr Ak (Aa (BZ (Bo T) T.Aj hr Ak (pv 0)) Ac))) (EX (Bt (Ar (HQ T) hr Ak (Aa (BZ (Bo T) T.Aj hr Ak (pv 0)) Ac))))))))) (Af (MA (pv 0) Ao XS))) (Af (Ap (FZ RD rfl T.dR boot_tuple (Aa (QN Vm (Au (pv 0) rfl) (Lz (pv 1)) (Lz (Au (pv 0) rfl))) Ac))))))),?_⟩
  obtain ⟨dx0,hx0⟩:=R.ins
  refine ⟨_,rfl,AA x a.CR dx0 _ _ ⟨ rfl,hx0,T.Aj,T.AG,rfl,?_⟩⟩
  refine ⟨_,rfl,AN x dx0 _ ⟨ rfl,hx0,rfl,Aw x t b c ⟨ rfl,R,_,rfl,_,rfl,?_⟩⟩⟩
  rw[nl]
  cases hq:nextIs isLetter c with
  |false=>
   refine Bx ⟨_,rfl,Aq _ _ ⟨ rfl,fun d2 hd2=>?_⟩⟩
   refine kE c.at_ ?_ _ _ (Mv.new hd2) Ae
   unfold nameIn
   rw[hq]
   rfl
  |true=>
   have hname:nameIn c = .ok (some_ ld 7 c):=by
    unfold nameIn
    rw[hq]
    rfl
   refine Bw ?_
   refine ⟨fun m σ H'=>∃c',∃j:Nat,σ=[some (.ref x),some (.int c.at_)]/\Rdr a H' x t b c'/\Mv [x] H H'/\j<=7/\m=7-j/\c'.at_=c.at_+j /\
    some_ ld 7 c=((b.drop c.at_).take j++(some_ ld (7-j) c').1,(some_ ld (7-j) c').2),⟨7,c,0,rfl,R,Mv.refl,by decide,rfl,rfl,by simp⟩,?_⟩
   rintro m σ H1 ⟨c1,j,rfl,R1,M1,hj,rfl,hat,e1⟩
   obtain ⟨dx,hx⟩:=R1.ins
   have fin:some_ ld 7 c=((b.drop c.at_).take j,c1)->MI (tCB (fun xs H Q=>∃p ys,xs=[.ref p]/\((SqL K H p ys/\∀l,H l=none->Q (.ref l) (upd H l (.tup ys)))\/(SqT K H p ys/\Q (.ref p) H))) (AL (tSl (ip K) (Gh K (AW 0) "text") (Zv (AW 1)) (Zv (Gh K (AW 0) "place"))) BQ))
     { nx:=fun _ H'=>Q .non H',rt:=Q } [some (.ref x),some (.int c.at_)] H1:=fun e=>by
    refine ⟨_,rfl,AA x a.CR dx _ _ ⟨ rfl,hx,T.Aj,T.DS,rfl,_,rfl,_,rfl,_,rfl,AA x a.CR dx _ _ ⟨ rfl,hx,T.Aj,T.AG,rfl,_,rfl,Aq t _ ⟨ rfl,SqL.of R1.txt,fun p hp=>?_⟩⟩⟩⟩
    refine (Aq p _ ⟨ rfl,.inl ⟨SqL.of Ae,fun l hl=>?_⟩⟩)
    have nlp:l≠p:=fun z=>by rw[z,Ae] at hl;cases hl
    have hl1:H1 l=none:=by rw[Ai nlp] at hl;exact hl
    have neq:∀{q:Addr},H1 q=none->q≠x/\q≠t:=fun {q} h=>⟨fun z=>(by rw[z,hx] at h;cases h),fun z=>(by rw[z,R1.txt] at h;cases h)⟩
    have hH:∀q,H1 q=none->H q=none\/q=x:=fun q h=>by
     cases z:H q with
     |none=>exact .inl rfl
     |some o=>
      by_cases hqx:q=x
      ·exact .inr hqx
      ·rw[M1 q o z (by simpa using hqx)] at h;cases h
    refine kO _ c1 (by rw[hname,e]) _ _ ((R1.upd (neq hp).1 (neq hp).2).upd (neq hl1).1 (neq hl1).2) ((M1.ext ((hH p hp).resolve_right (neq hp).1)).ext ((hH l hl1).resolve_right (neq hl1).1)) ⟨l,rfl,(hH l hl1).resolve_right (neq hl1).1,?_⟩
    rw[Ae,hat,gv b c.at_ j (by have:=R1.inn.2;rw[hat] at this;exact this)]
   refine ⟨_,rfl,AA x a.CR dx _ _ ⟨ rfl,hx,T.Aj,T.AG,rfl,_,rfl,Aq _ _ ⟨ rfl,rfl,Aq _ _ ⟨ rfl,rfl,_,rfl,?_⟩⟩⟩⟩
   by_cases hlt:j<7
   ·refine Bn (fun _=>?_) (fun z=>absurd (decide_eq_true (show ((c1.at_:Nat):Int)<(c.at_:Int)+7 by omega)) z)
    refine ⟨_,rfl,AN x dx _ ⟨ rfl,hx,rfl,Aw x t b c1 ⟨ rfl,R1,_,rfl,_,rfl,?_⟩⟩⟩
    rw[nl]
    cases hA:nextIs isLetter c1 with
    |true=>
     refine Bx (Bx ⟨fun σ' H'=>_,fun σ' H' z=>z,?_⟩)
     have hld:nextIs ld c1=true:=by rw[<-nld,hA];simp
     obtain ⟨y,hy,hyd⟩:=Bz hld
     refine ⟨_,rfl,AA x a.CR dx _ _ ⟨ rfl,hx,T.Aj,T.AG,rfl,Aq _ _ ⟨ rfl,rfl,Aq dx _ ⟨ hx,(by show 2<1000;decide),?_⟩⟩⟩⟩
     refine ⟨7-(j+1),by omega,c1.on,j+1,rfl,?_,M1.trans (Mv.at (by simp)),by omega,rfl,(by show c1.at_+1=_;omega),?_⟩
     ·rw[Vd]
      exact R1.step hx hy
     ·have hb:b[c.at_+j]?=some y:=by rw[<-hat,<-R1.inn.next];exact hy
      obtain ⟨hb1,hb2⟩:=List.getElem?_eq_some_iff.mp hb
      have h2:(b.drop c.at_).take (j+1)=(b.drop c.at_).take j++[y]:=by
       rw[List.take_succ_eq_append_getElem (by rw[List.length_drop];omega),List.getElem_drop,hb2]
      rw[e1,show 7-j=(7-(j+1))+1 by omega,Gf hy hyd,h2]
      simp
    |false=>
     refine Bw ⟨_,rfl,AN x dx _ ⟨ rfl,hx,rfl,Aw x t b c1 ⟨ rfl,R1,_,rfl,_,rfl,?_⟩⟩⟩
     rw[nd]
     cases hB:nextIs isDigit c1 with
     |true=>
      refine Bx ⟨fun σ' H'=>_,fun σ' H' z=>z,?_⟩
      have hld:nextIs ld c1=true:=by rw[<-nld,hB];simp
      obtain ⟨y,hy,hyd⟩:=Bz hld
      refine ⟨_,rfl,AA x a.CR dx _ _ ⟨ rfl,hx,T.Aj,T.AG,rfl,Aq _ _ ⟨ rfl,rfl,Aq dx _ ⟨ hx,(by show 2<1000;decide),?_⟩⟩⟩⟩
      refine ⟨7-(j+1),by omega,c1.on,j+1,rfl,?_,M1.trans (Mv.at (by simp)),by omega,rfl,(by show c1.at_+1=_;omega),?_⟩
      ·rw[Vd]
       exact R1.step hx hy
      ·have hb:b[c.at_+j]?=some y:=by rw[<-hat,<-R1.inn.next];exact hy
       obtain ⟨hb1,hb2⟩:=List.getElem?_eq_some_iff.mp hb
       have h2:(b.drop c.at_).take (j+1)=(b.drop c.at_).take j++[y]:=by
        rw[List.take_succ_eq_append_getElem (by rw[List.length_drop];omega),List.getElem_drop,hb2]
       rw[e1,show 7-j=(7-(j+1))+1 by omega,Gf hy hyd,h2]
       simp
     |false=>
      refine Bw (fin ?_)
      rw[e1,To (by rw[<-nld,hA,hB];rfl)]
      simp
   ·refine Bn (fun z=>absurd (of_decide_eq_true z) (by omega)) (fun _=>Bw (fin ?_))
    rw[e1,show 7-j=0 by omega]
    simp[some_]
theorem Pe (y:Bytes):dgs y=(y.map CN).map V.int:=by
 unfold dgs
 rw[List.map_map]
 rfl
theorem Gq {y:Bytes} (h:∀z∈y,isDigit z=true):∀n∈y.map CN,0<=n/\n<=9:=fun n hn=>by
 obtain ⟨z,hz,rfl⟩:=List.mem_map.mp hn
 have:=Dl.mp (h z hz)
 unfold CN
 omega
noncomputable def aB (a:Ad):Sp:=fun vs H Q E=>∃x t b c,∃n:Nat,vs=[.ref x,.int n]/\1<=n/\n<=20/\Rdr a H x t b c/\Tk a [] H x t b Q E (plainNumber false n c) fun y v _=>v = .int y
theorem QQ {n:Nat}{c:Cur} (h:c.next=some 48):plainNumber false n c = .error c.at_:=by
 unfold plainNumber nextIs
 rw[h]
 rfl
theorem Kh {n:Nat}{c:Cur} (h:¬c.next=some 48):plainNumber false n c=(someDigits n c).map fun q=>(decimal q.1,q.2):=by
 unfold plainNumber someDigits nextIs
 cases q:c.next with
 |none=>rfl
 |some y=>
  have:(y != 48)=true:=bne_iff_ne.mpr fun z=>h (by rw[q,z])
  cases hd:isDigit y with
  |true=>simp[hd,this,Except.map]
  |false=>simp[hd,Except.map]
theorem Bk (T:Txt K mg a):Mc P w K mg base a 4 a.CR "take_whole" Eu (aB a):=by
 refine DR (k:=3) T.Ja Iz (fun _ _ _ _ _ _=>Fh fun _ _=>rfl) (fun _ _ _ _=>Oh fun _ _ _ _ _=>rfl) (fun f cdv A outer s H vs Q E hr h=>?_)
 ·obtain ⟨x,t,b,c,n,rfl,hn1,hn2,R,kO,kE⟩:=h
  refine ⟨_,(Ab (AS (Bt (AE (Bg T) T.Aj hr Ak (pv 0) (Aa AH Ac))) (Af (Hf T.xc (xfn T) hr T.mgF (Aa (Ay T.FO) (Aa (Au (pv 0) rfl) Ac)) Em)) Ax) (Af (Ap (Ar (Ng T) hr Ak (Aa (AE (BN T) T.Aj hr Ak (pv 0) (Aa (pv 1) Ac)) Ac))))),?_⟩
  obtain ⟨dx,hx⟩:=R.ins
  refine ⟨_,rfl,AN x dx _ ⟨ rfl,hx,rfl,Aw x t b c ⟨ 48,rfl,R,_,rfl,?_⟩⟩⟩
  by_cases hq:c.next=some 48
  ·rw[show decide (nx c=((48:Nat):Int))=true from decide_eq_true (Dp (y:=48).mpr hq)]
   refine Bx ⟨_,rfl,AA x a.CR dx _ _ ⟨ rfl,hx,T.Aj,T.AG,rfl,Aq _ _ ⟨ rfl,fun d2 hd2=>?_⟩⟩⟩
   exact kE c.at_ (QQ hq) _ _ (Mv.new hd2) Ae
  ·rw[show decide (nx c=((48:Nat):Int))=false from decide_eq_false fun z=>hq (Dp (y:=48).mp z)]
   refine Bw ⟨_,rfl,AN x dx _ ⟨ rfl,hx,rfl,_,rfl,AA x t b c n ⟨ rfl,hn1,hn2,R,fun y c2 e2 v H2 R2 M2 hv=>?_,fun p e2 d2 H2 M2 hF=>?_⟩⟩⟩
   ·obtain ⟨p,rfl,hp,npx,npt,hp2⟩:=hv
    obtain ⟨_,_,_,hl,hd⟩:=Cd (n:=n-1) (show someDigits (n-1+1) c=_ by rw[show n-1+1=n by omega];exact e2) R.inn
    rw[Pe] at hp2
    refine (Aq p _ ⟨ rfl,SqL.of hp2,by rw[List.length_map];omega,Gq hd,?_⟩)
    rw[IL y hd]
    exact kO _ c2 (by rw[Kh hq,e2];rfl) _ _ R2 M2 rfl
   ·exact kE p (by rw[Kh hq,e2];rfl) _ _ M2 hF
noncomputable def WV (a:Ad):Sp:=fun vs H Q E=>∃x t b c,∃m k:Nat,vs=[.ref x,.int m,.int k]/\1<=m/\1<=k/\m+k<=20/\Rdr a H x t b c/\Tk a [] H x t b Q E (pointed m k c) fun y v _=>v = .int y
theorem ck (c:Cur):nextIs (fun z=>z==46) c=decide (nx c=((46:Nat):Int)):=by
 unfold nextIs
 by_cases h:c.next=some 46
 ·rw[h,show decide (nx c=((46:Nat):Int))=true from decide_eq_true (Dp (y:=46).mpr h)]
  rfl
 ·rw[show decide (nx c=((46:Nat):Int))=false from decide_eq_false fun z=>h (Dp (y:=46).mp z)]
  cases q:c.next with
  |none=>rfl
  |some y=>exact beq_eq_false_iff_ne.mpr fun z=>h (by rw[q,z])
theorem Cq (T:Txt K mg a):Mc P w K mg base a 4 a.CR "take_decimal" DF (WV a):=by
 refine DR (k:=3) T.Hu BG (fun _ _ _ _ _ _=>JS fun _ _ _=>rfl) (fun _ _ _ _=>XY fun _ _ _ _ _ _=>rfl) (fun f cdv A outer s H vs Q E hr h=>?_)
 ·obtain ⟨x,t,b,c,m,k,rfl,hm,hk,hmk,R,kO,kE⟩:=h
  refine ⟨_,(Ab (Al (i:=3) BG.nd rfl (Or.inl rfl) (AE (BN T) T.Aj hr Ak (pv 0) (Aa (pv 1) Ac))) (Ab (Al (i:=4) BG.nd rfl (Or.inl rfl) (Bb Ac)) (Ab (AS (Bt (AE (Bg T) T.Aj hr Ak (pv 0) (Aa AH Ac))) (Ab (AJ (AE (As T) T.Aj hr Ak (pv 0) (Aa AH Ac))) (Af (Al (i:=4) BG.nd rfl (Or.inl rfl) (AE (BN T) T.Aj hr Ak (pv 0) (Aa (pv 2) Ac))))) Ax) (Ab (Cs El (Av GY (AD AQ rfl T.DD boot_len (Aa (pv 4) Ac)) (pv 2) (AB _)) (Af (AJ (He PySem.F.plainAttrs_list PySem.F.slot_list_append PySem.F.type_list_append CP (pv 4) (Aa Ao Ac))))) (Af (Ap (Ar (Ng T) hr Ak (Aa (Az Kf (pv 3) (pv 4)) Ac)))))))),?_⟩
  obtain ⟨dx,hx⟩:=R.ins
  refine ⟨_,rfl,AN x dx _ ⟨ rfl,hx,rfl,_,rfl,AA x t b c m ⟨ rfl,hm,by omega,R,fun d c1 e1 v H1 R1 M1 hv=>?_,fun p e1 d2 H2 M2 hF=>?_⟩⟩⟩
  ·obtain ⟨p1,rfl,hp1,n1x,n1t,hd1⟩:=hv
   obtain ⟨_,_,_,hl1,hD1⟩:=Cd (n:=m-1) (show someDigits (m-1+1) c=_ by rw[show m-1+1=m by omega];exact e1) R.inn
   refine ⟨Nat.zero_le _,fun p2 hp2=>?_⟩
   obtain ⟨dx1,hx1⟩:=R1.ins
   have n2x:p2≠x:=fun z=>(by rw[z,hx1] at hp2;cases hp2)
   have n2t:p2≠t:=fun z=>(by rw[z,R1.txt] at hp2;cases hp2)
   have n21:p2≠p1:=fun z=>(by rw[z,hd1] at hp2;cases hp2)
   have hp2H:H p2=none:=by
    cases z:H p2 with
    |none=>rfl
    |some o=>rw[M1 p2 o z (by simpa using n2x)] at hp2;cases hp2
   have rest:∀(q:Addr) (f:Bytes) (c2:Cur) (H2:Hp),Rdr a H2 x t b c2->Mv [x] H H2->H q=none->q≠x->q≠t->q≠p1->H2 p1=some (.lst (dgs d))->H2 q=some (.lst (dgs f))->f.length<=k->(∀z∈f,isDigit z=true) ->
     pointed m k c = .ok (decimal d*10^k+decimal f*10^(k-f.length),c2) ->
     Kl (MJ (Eh (tOp (rI0 fun i j=>.bl (decide (i<j))) (tCB (fun xs H Q=>∃p ys,xs=[.ref p]/\(SqL K H p ys\/SqT K H p ys)/\Q (.int ys.length) H) (AL (AW 4) BQ)) (AW 2))) (Xb (tBM K "list" Vc (AW 4) (AL (tC (.int 0)) BQ))))
      (MI (Gg (WZ K) [] E (AL (tOp jo (AW 3) (AW 4)) BQ))) { nx:=fun _ H'=>Q .non H',rt:=Q } [some (.ref x),some (.int m),some (.int k),some (.ref p1),some (.ref q)] H2:=by
    intro q f c2 H2 R2 M2 hq nqx nqt nq1 hd2 hf2 hfl hfd e2
    refine ⟨fun mm σ H'=>∃j:Nat,σ=[some (.ref x),some (.int m),some (.int k),some (.ref p1),some (.ref q)]/\Rdr a H' x t b c2/\Mv [x] H H'/\H' p1=some (.lst (dgs d))/\H' q=some (.lst (dgs f++List.replicate j (V.int 0)))/\f.length+j<=k/\mm=k-(f.length+j),
     ⟨_,0,rfl,R2,M2,hd2,by simpa using hf2,hfl,rfl⟩,?_⟩
    rintro mm σ H3 ⟨j,rfl,R3,M3,hd3,hf3,hj,rfl⟩
    have hlen:(dgs f++List.replicate j (V.int 0)).length=f.length+j:=by unfold dgs;simp
    refine ⟨_,rfl,Aq q _ ⟨ rfl,.inl (SqL.of hf3),_,rfl,Aq _ _ ⟨ rfl,rfl,_,rfl,?_⟩⟩⟩
    rw[hlen]
    by_cases hlt:f.length+j<k
    ·refine Bn (fun _=>?_) (fun z=>absurd (decide_eq_true (show ((f.length+j:Nat):Int)<(k:Int) by omega)) z)
     refine ⟨fun σ' H'=>_,fun σ' H' z=>z,?_⟩
     refine ⟨_,rfl,.inl ⟨rfl,_,SqL.of hf3⟩,AN q _ _ ⟨ rfl,rfl,hf3,by rw[hlen];exact Nat.lt_of_lt_of_le hlt (Nat.le_trans (show k<=20 by omega) (by decide)),?_⟩⟩
     refine ⟨k-(f.length+(j+1)),by omega,j+1,rfl,R3.upd nqx nqt,M3.ext hq,by rw[Ai (Ne.symm nq1)];exact hd3,?_,by omega,rfl⟩
     rw[Ae,List.append_assoc,<-List.replicate_succ']
    ·refine Bn (fun z=>absurd (of_decide_eq_true z) (by omega)) (fun _=>?_)
     refine ⟨_,rfl,_,rfl,Aw p1 q _ _ ⟨ rfl,rfl,hd3,hf3,by rw[hlen,show (dgs d).length=d.length by unfold dgs;simp];exact Nat.le_trans (show d.length+(f.length+j)<=20 by omega) (by decide),fun p4 hp4=>?_⟩⟩
     have el:dgs d++(dgs f++List.replicate j (V.int 0))=(d.map CN++(f.map CN++List.replicate (k-f.length) 0)).map V.int:=by
      rw[List.map_append,List.map_append,<-Pe,<-Pe,List.map_replicate,show k-f.length=j by omega]
     refine (Aq p4 _ ⟨ rfl,SqL.of (by rw[Ae,el]),by simp;omega,fun n hn=>?_,?_⟩)
     ·rcases List.mem_append.mp hn with hn|hn
      ·exact Gq hD1 n hn
      rcases List.mem_append.mp hn with hn|hn
      ·exact Gq hfd n hn
      ·rw[(List.mem_replicate.mp hn).2];decide
     ·obtain ⟨dx3,hx3⟩:=R3.ins
      have n4:p4≠x/\p4≠t:=⟨fun z=>(by rw[z,hx3] at hp4;cases hp4),fun z=>(by rw[z,R3.txt] at hp4;cases hp4)⟩
      rw[Rt hD1 hfd hfl]
      refine kO _ c2 e2 _ _ (R3.upd n4.1 n4.2) (M3.trans (Mv.new hp4)) ?_
      show V.int _=V.int _
      congr 1
   have R1':=R1.upd (o:=.lst []) n2x n2t
   have M1':Mv [x] H (upd H1 p2 (.lst [])):=M1.ext hp2H
   have hx1':(upd H1 p2 (.lst [])) x=some (.ins a.CR dx1 (rf t c1.at_)):=by rw[Ai (Ne.symm n2x)];exact hx1
   have hd1':(upd H1 p2 (.lst [])) p1=some (.lst (dgs d)):=by rw[Ai (Ne.symm n21)];exact hd1
   refine ⟨_,rfl,AN x dx1 _ ⟨ rfl,hx1',rfl,Aw x t b c1 ⟨ 46,rfl,R1',_,rfl,?_⟩⟩⟩
   rw[<-ck]
   cases hq:nextIs (fun z=>z==46) c1 with
   |false=>
    refine Bw (rest p2 [] c1 _ R1' M1' hp2H n2x n2t n21 hd1' Ae (Nat.zero_le _) (fun z hz=>absurd hz (by simp)) ?_)
    unfold pointed
    rw[e1]
    show (if nextIs (fun z=>z==46) c1=true then someDigits k c1.on else .ok ([],c1)) >>= _=_
    rw[hq]
    rfl
   |true=>
    obtain ⟨y,hy,hy2⟩:=Bz hq
    obtain rfl:y=46:=eq_of_beq hy2
    have hlit:lit [46] c1 = .ok c1.on:=by rw[lit,if_pos hy,lit]
    have hpt:pointed m k c=(someDigits k c1.on >>= fun q=>pure (decimal d*10^k+decimal q.1*10^(k-q.1.length),q.2)):=by
     unfold pointed
     rw[e1]
     show (if nextIs (fun z=>z==46) c1=true then someDigits k c1.on else .ok ([],c1)) >>= _=_
     rw[hq]
     rfl
    refine Bx ⟨_,rfl,AN x dx1 _ ⟨ rfl,hx1',rfl,AA x t b c1 _ ⟨ [46],rfl,rfl,R1',fun c2 e2 H2 R2 M2=>?_,fun p e2 d2 H2 M2 hF=>by rw[hlit] at e2;cases e2⟩⟩⟩
    rw[hlit] at e2
    cases e2
    obtain ⟨dx2,hx2⟩:=R2.ins
    refine ⟨_,rfl,AN x dx2 _ ⟨ rfl,hx2,rfl,_,rfl,AN x t b ⟨ c1.on,k,rfl,hk,by omega,R2,fun f c3 e3 v H3 R3 M3 hv=>?_,fun p e3 d2 H3 M3 hF=>?_⟩⟩⟩
    ·obtain ⟨p3,rfl,hp3,n3x,n3t,hd3⟩:=hv
     obtain ⟨_,_,_,hl3,hD3⟩:=Cd (n:=k-1) (show someDigits (k-1+1) c1.on=_ by rw[show k-1+1=k by omega];exact e3) R2.inn
     have M3':=(M1'.trans M2).trans M3
     have hp1':H3 p1=some (.lst (dgs d)):=M3 _ _ (M2 _ _ hd1' (by simpa using n1x)) (by simpa using n1x)
     have hp3H:H p3=none:=by
      cases z:H p3 with
      |none=>rfl
      |some o=>rw[(M1'.trans M2) p3 o z (by simpa using n3x)] at hp3;cases hp3
     have n31:p3≠p1:=fun z=>(by rw[z,M2 _ _ hd1' (by simpa using n1x)] at hp3;cases hp3)
     exact rest p3 f c3 H3 R3 M3' hp3H n3x n3t n31 hp1' hd3 (by omega) hD3 (by rw[hpt,e3];rfl)
    ·exact kE p (by rw[hpt,e3];rfl) _ _ ((M1'.trans M2).trans M3) hF
  ·refine kE p ?_ _ _ M2 hF
   unfold pointed
   rw[e1]
   rfl
end
end Td
namespace Td
open PySem PySem.Spec PyProof.Rows L2
open Tide (Bytes Cur lit some_ someDigits nameIn isDigit isLetter nextIs decimal pointed plainNumber blank pairsIn trainIn trainsIn cogGrammar Train Machine LF ascii)
section
variable {P:Program}{w:World}{K:PySem.W.Frag}{mg:Str->Option Value}{base:Heap}{a:Ad}
theorem Bd {H:Hp}{p q:Addr}{o:HO} (h:H p=none) (k:H q=some o):p≠q:=fun z=>by rw[z,k] at h;cases h
theorem Mv.none {S:List Addr}{H H':Hp}{p:Addr} (M:Mv S H H') (n:p∉S) (h:H' p=none):H p=none:=by
 cases z:H p with
 |none=>rfl
 |some o=>rw[M p o z n] at h;cases h
noncomputable def CV (c:Cur):Except Nat ((Nat×Nat)×Cur):=do
 let (x,c) <-plainNumber false 3 c
 let c <-lit [47] c
 let (y,c) <-plainNumber false 3 c
 return ((x,y),c)
theorem Rdr.new {H:Hp}{x t p:Addr}{b:Bytes}{c:Cur} (R:Rdr a H x t b c) (h:H p=none):p≠x/\p≠t:=let ⟨_,hx⟩:=R.ins;⟨Bd h hx,Bd h R.txt⟩
theorem Rdr.lay {H:Hp}{x t p:Addr}{b:Bytes}{c:Cur}{o:HO} (R:Rdr a H x t b c) (h:H p=none):Rdr a (L2.upd H p o) x t b c:=R.upd (R.new h).1 (R.new h).2
noncomputable def fB (a:Ad):Sp:=fun vs H Q E=>∃x t b c,vs=[.ref x]/\Rdr a H x t b c/\Tk a [] H x t b Q E (CV c) fun y v H'=>∃q,v = .ref q/\H q=none/\H' q=some (.tup [.int y.1,.int y.2])
theorem Li (T:Txt K mg a):Cal P w K mg base a 5 "read_pair" Nw (fB a):=by
 refine AF (k:=4) T.VV GF (fun _ _ _ _ _ _=>CC fun _=>rfl) (fun _ _ _ _=>IZ fun _ _ _ _=>rfl) (fun f cdv A outer s H vs Q E hr h=>?_)
 ·refine hid fun X_ k_=>?_
  obtain ⟨x,t,b,c,rfl,R,kO,kE⟩:=h
  refine k_ ?_;clear k_
  refine ⟨_,(Ab (Al (i:=1) GF.nd rfl (Or.inl rfl) (AE (Bk T) T.Aj hr Ak (pv 0) (Aa (Ay T.EL) Ac))) (Ab (AJ (AE (As T) T.Aj hr Ak (pv 0) (Aa AH Ac))) (Ab (Al (i:=2) GF.nd rfl (Or.inl rfl) (AE (Bk T) T.Aj hr Ak (pv 0) (Aa (Ay T.EL) Ac))) (Af (Ap (CW (Aa (pv 1) (Aa (pv 2) Ac)))))))),?_⟩
  obtain ⟨dx,hx⟩:=R.ins
  refine ⟨_,rfl,AN x dx _ ⟨ rfl,hx,rfl,Aw x t b c ⟨ 3,rfl,by decide,by decide,R,fun y c1 e1 v H1 R1 M1 hv=>?_,fun p e d2 H2 M2 hF=>kE p (by unfold CV;rw[e];rfl) _ _ M2 hF⟩⟩⟩
  subst hv
  obtain ⟨dx1,hx1⟩:=R1.ins
  refine ⟨_,rfl,AN x dx1 _ ⟨ rfl,hx1,rfl,AA x t b c1 _ ⟨ [47],rfl,rfl,R1,fun c2 e2 H2 R2 M2=>?_,fun p e d2 H2 M2 hF=>kE p (by unfold CV;rw[e1];show lit [47] c1 >>= _=_;rw[e];rfl) _ _ (M1.trans M2) hF⟩⟩⟩
  obtain ⟨dx2,hx2⟩:=R2.ins
  refine ⟨_,rfl,AN x dx2 _ ⟨ rfl,hx2,rfl,Aw x t b c2 ⟨ 3,rfl,by decide,by decide,R2,fun z c3 e3 v H3 R3 M3 hv=>?_,fun p e d2 H3 M3 hF=>kE p (by unfold CV;rw[e1];show lit [47] c1 >>= _=_;rw[e2];show plainNumber false 3 c2 >>= _=_;rw[e];rfl) _ _ ((M1.trans M2).trans M3) hF⟩⟩⟩
  subst hv
  refine ⟨_,rfl,_,rfl,(by show 2<=sizeLine;decide),fun q hq=>?_⟩
  have M:=(M1.trans M2).trans M3
  refine kO (y,z) c3 (by unfold CV;rw[e1];show lit [47] c1 >>= _=_;rw[e2];show plainNumber false 3 c2 >>= _=_;rw[e3];rfl) _ _ (R3.lay hq) (M.trans (Mv.new hq)) ⟨q,rfl,M.none (by simpa using (R3.new hq).1) hq,Ae⟩
noncomputable def Cg (c:Cur):Except Nat (List (Nat×Nat)×Cur):=do
 let c <-blank c
 let (p,c) <-CV c
 let (r,c) <-pairsIn 5 c
 return (p::r,c)
theorem WJ {k:Nat}{c:Cur} (h:c.next=some 32):pairsIn (k+1) c=(do
  let c <-blank c
  let (p,c) <-CV c
  let (r,c) <-pairsIn k c
  return (p::r,c)):=by
 rw[pairsIn,if_neg (by rw[h];decide)]
 unfold CV
 simp only [bind_assoc,pure_bind]
theorem Te {k:Nat}{c:Cur} (h:¬c.next=some 32):pairsIn k c=(lit [10] c).map fun d=>([],d):=by
 cases k with
 |zero=>rfl
 |succ k=>
  rw[pairsIn]
  by_cases hl:c.next=some LF
  ·rw[if_pos hl,lit,if_pos (show c.next=some 10 from hl),lit];rfl
  ·rw[if_neg hl,lit,if_neg (show ¬c.next=some 10 from hl)]
   unfold blank
   rw[lit,if_neg h]
   rfl
noncomputable def Jf (H:Hp) (qs:List Addr) (ps:List (Nat×Nat)):Prop:=qs.length=ps.length/\∀(i:Nat) q pr,qs[i]?=some q->ps[i]?=some pr->H q=some (.tup [.int pr.1,.int pr.2])
theorem Jf.mono {H H':Hp}{qs:List Addr}{ps:List (Nat×Nat)} (h:Jf H qs ps) (k:∀q∈qs,∀o,H q=some o->H' q=some o):Jf H' qs ps:=⟨h.1,fun i q pr h1 h2=>k q (List.mem_of_getElem? h1) _ (h.2 i q pr h1 h2)⟩
theorem Jf.snoc {H:Hp}{qs:List Addr}{ps:List (Nat×Nat)}{q:Addr}{pr:Nat×Nat} (h:Jf H qs ps) (k:H q=some (.tup [.int pr.1,.int pr.2])):Jf H (qs++[q]) (ps++[pr]):=by
 refine ⟨by simp[h.1],fun i q' pr' h1 h2=>?_⟩
 by_cases hi:i<qs.length
 ·rw[List.getElem?_append_left hi] at h1
  rw[List.getElem?_append_left (by rw[<-h.1];exact hi)] at h2
  exact h.2 i q' pr' h1 h2
 ·rw[List.getElem?_append_right (by omega)] at h1
  rw[List.getElem?_append_right (by rw[<-h.1];omega),<-h.1] at h2
  have:i-qs.length=0:=by
   have:=(List.getElem?_eq_some_iff.mp h1).1
   simp at this
   omega
  rw[this] at h1 h2
  cases h1
  cases h2
  exact k
noncomputable def cZ (a:Ad):Sp:=fun vs H Q E=>∃x t b c,vs=[.ref x]/\Rdr a H x t b c/\Tk a [] H x t b Q E (Cg c) fun y v H'=>∃l qs,v = .ref l/\H l=none/\(∀q∈qs,H q=none)/\H' l=some (.lst (qs.map V.ref))/\Jf H' qs y
theorem Sh (T:Txt K mg a):Cal P w K mg base a 6 "read_pairs" Lr (cZ a):=by
 refine AF (k:=5) T.Ui JL (fun _ _ _ _ _ _=>CC fun _=>rfl) (fun _ _ _ _=>IZ fun _ _ _ _=>rfl) (fun f cdv A outer s H vs Q E hr h=>?_)
 ·refine hid fun X_ k_=>?_
  obtain ⟨x,t,b,c,rfl,R,kO,kE⟩:=h
  refine k_ ?_;clear k_
  refine ⟨_,(Ab (AJ (AE (As T) T.Aj hr Ak (pv 0) (Aa AH Ac))) (Ab (Al (i:=1) JL.nd rfl (Or.inl rfl) (Bb (Aa (Ar (Li T) hr Ak (Aa (pv 0) Ac)) Ac))) (Ab (Cs El (PW.pt (MB (Av GY (AD AQ rfl T.DD boot_len (Aa (pv 1) Ac)) (Ay T.TQ) (AB _)) (IV (Bt (AE (Bg T) T.Aj hr Ak (pv 0) (Aa AH Ac)))))) (Ab (AJ (AE (As T) T.Aj hr Ak (pv 0) (Aa AH Ac))) (Af (AJ (He PySem.F.plainAttrs_list PySem.F.slot_list_append PySem.F.type_list_append CP (pv 1) (Aa (Ar (Li T) hr Ak (Aa (pv 0) Ac)) Ac)))))) (Ab (AJ (AE (As T) T.Aj hr Ak (pv 0) (Aa AH Ac))) (Af (Ap (pv 1))))))),?_⟩
  obtain ⟨dx,hx⟩:=R.ins
  refine ⟨_,rfl,AN x dx _ ⟨ rfl,hx,rfl,AA x t b c _ ⟨ [32],rfl,rfl,R,fun c1 e1 H1 R1 M1=>?_,fun p e d2 H2 M2 hF=>kE p (by unfold Cg blank;rw[e];rfl) _ _ M2 hF⟩⟩⟩
  refine ⟨_,rfl,Aw x t b c1 ⟨ rfl,R1,fun y c2 e2 v H2 R2 M2 hv=>?_,fun p e d2 H2 M2 hF=>kE p (by unfold Cg blank;rw[e1];show CV c1 >>= _=_;rw[e];rfl) _ _ (M1.trans M2) hF⟩⟩
  obtain ⟨q,rfl,hq1,hq2⟩:=hv
  refine ⟨(by show 1<=sizeLine;decide),fun l hl=>?_⟩
  have hall:Cg c=(do let (r,d) <-pairsIn 5 c2;return (y::r,d)):=by unfold Cg blank;rw[e1];show CV c1 >>= _=_;rw[e2];rfl
  have nlx:=R2.new hl
  have hlH:H l=none:=(M1.trans M2).none (by simpa using nlx.1) hl
  have hqH:H q=none:=M1.none (by obtain ⟨dx2,hx2⟩:=R2.ins;simpa using CI hq2 hx2 (by intro z;cases z)) hq1
  have nlq:l≠q:=Bd hl hq2
  refine ⟨fun m σ H'=>∃c' pre qs,σ=[some (.ref x),some (.ref l)]/\Rdr a H' x t b c'/\Mv [x] H H'/\H' l=some (.lst (qs.map V.ref))/\(∀q∈qs,H q=none/\q≠l/\q≠x)/\Jf H' qs pre/\1<=pre.length/\pre.length<=6/\m=6-pre.length /\
   Cg c=(do let (r,d) <-pairsIn (6-pre.length) c';return (pre++r,d)),
   ⟨5,c2,[y],[q],rfl,R2.lay hl,(M1.trans M2).trans (Mv.new hl),Ae,fun q' hq'=>?_,⟨rfl,fun i q' pr h1 h2=>?_⟩,Nat.le_refl 1,(by show 1<=6;decide),rfl,hall⟩,?_⟩
  ·rw[List.mem_singleton] at hq'
   rw[hq']
   obtain ⟨dx2,hx2⟩:=R2.ins
   exact ⟨hqH,Ne.symm nlq,CI hq2 hx2 (by intro z;cases z)⟩
  ·have:i=0:=by have:=(List.getElem?_eq_some_iff.mp h1).1;simp at this;omega
   subst this
   cases h1
   cases h2
   rw[Ai (Ne.symm nlq)]
   exact hq2
  rintro m σ H3 hI_
  refine hid fun X_ k_=>?_
  obtain ⟨c3,pre,qs,rfl,R3,M3,hl3,hqs,hP,hp1,hp6,rfl,e3⟩:=hI_
  refine k_ ?_;clear k_
  obtain ⟨dx3,hx3⟩:=R3.ins
  have hqlen:(qs.map V.ref).length=pre.length:=by rw[List.length_map,hP.1]
  have fin:Cg c=(lit [10] c3).map (fun d=>(pre,d))->Kl (Xb (Hr a.CR "take_word" (LV a) [] E (AW 0) (AL (tC (.str "\n")) BQ))) (MI (AW 1)) { nx:=fun _ H'=>Q .non H',rt:=Q } [some (.ref x),some (.ref l)] H3:=fun e=>by
   refine ⟨_,rfl,AN x dx3 _ ⟨ rfl,hx3,rfl,AA x t b c3 _ ⟨ [10],rfl,rfl,R3,fun c4 e4 H4 R4 M4=>?_,fun p e4 d2 H4 M4 hF=>kE p (by rw[e,e4];rfl) _ _ (M3.trans M4) hF⟩⟩⟩
   refine ⟨_,rfl,kO pre c4 (by rw[e,e4];rfl) _ _ R4 (M3.trans M4) (Aq l qs ⟨ rfl,hlH,fun q hq=>(hqs q hq).1,M4 _ _ hl3 (by simpa using nlx.1),hP.mono fun q hq o z=>M4 _ _ z (by simpa using (hqs q hq).2.2)⟩)⟩
  refine ⟨_,rfl,Aq l _ ⟨ rfl,.inl (SqL.of hl3),Aq _ _ ⟨ rfl,rfl,_,rfl,?_⟩⟩⟩
  rw[hqlen]
  by_cases hlt:pre.length<6
  ·refine Bn (fun _=>?_) (fun z=>absurd (decide_eq_true (show ((pre.length:Nat):Int)<6 by omega)) z)
   refine ⟨_,rfl,AN x dx3 _ ⟨ rfl,hx3,rfl,Aw x t b c3 ⟨ 32,rfl,R3,_,rfl,?_⟩⟩⟩
   by_cases hq:c3.next=some 32
   ·rw[show decide (nx c3=((32:Nat):Int))=true from decide_eq_true (Dp (y:=32).mpr hq)]
    have e4:Cg c=(do
      let c <-blank c3
      let (p,c) <-CV c
      let (r,d) <-pairsIn (6-(pre.length+1)) c
      return (pre++[p]++r,d)):=by
     rw[e3,show 6-pre.length=(6-(pre.length+1))+1 by omega,WJ hq]
     simp only [bind_assoc,pure_bind,List.append_assoc,List.singleton_append]
    refine Bx ⟨fun σ' H'=>_,fun σ' H' z=>z,?_⟩
    refine ⟨_,rfl,AN x dx3 _ ⟨ rfl,hx3,rfl,AA x t b c3 _ ⟨ [32],rfl,rfl,R3,fun c5 e5 H5 R5 M5=>?_,fun p e5 d2 H5 M5 hF=>kE p (by rw[e4];unfold blank;rw[e5];rfl) _ _ (M3.trans M5) hF⟩⟩⟩
    have hl5:=M5 _ _ hl3 (by simpa using nlx.1)
    refine ⟨_,rfl,.inl ⟨rfl,_,SqL.of hl5⟩,_,rfl,Aw x t b c5 ⟨ rfl,R5,fun z c6 e6 v H6 R6 M6 hv=>?_,fun p e6 d2 H6 M6 hF=>kE p (by rw[e4];unfold blank;rw[e5];show CV c5 >>= _=_;rw[e6];rfl) _ _ ((M3.trans M5).trans M6) hF⟩⟩
    obtain ⟨q6,rfl,hq6,hq6'⟩:=hv
    have hl6:=M6 _ _ hl5 (by simpa using nlx.1)
    have nq6:q6≠l:=Bd hq6 hl5
    have nq6x:q6≠x:=by obtain ⟨dx5,hx5⟩:=R5.ins;exact Bd hq6 hx5
    refine (AN l _ _ ⟨ rfl,rfl,hl6,by rw[hqlen];exact Nat.lt_of_lt_of_le hlt (by decide),?_⟩)
    refine ⟨6-(pre.length+1),by omega,c6,pre++[z],qs++[q6],rfl,R6.upd nlx.1 nlx.2,(((M3.trans M5).trans M6).ext hlH),?_,fun q hq=>?_,?_,by simp,by simp;omega,by simp,?_⟩
    ·rw[Ae,List.map_append]
     rfl
    ·rcases List.mem_append.mp hq with hq|hq
     ·exact hqs q hq
     ·rw[List.mem_singleton] at hq
      rw[hq]
      exact ⟨(M3.trans M5).none (by simpa using nq6x) hq6,nq6,nq6x⟩
    ·refine Jf.snoc (hP.mono fun q hq o z=>?_) (by rw[Ai nq6];exact hq6')
     rw[Ai (hqs q hq).2.1]
     exact M6 _ _ (M5 _ _ z (by simpa using (hqs q hq).2.2)) (by simpa using (hqs q hq).2.2)
    ·rw[e4]
     unfold blank
     rw[e5]
     show CV c5 >>= _=_
     rw[e6]
     simp
     rfl
   ·rw[show decide (nx c3=((32:Nat):Int))=false from decide_eq_false fun z=>hq (Dp (y:=32).mp z)]
    refine Bw (fin ?_)
    rw[e3,Te hq]
    cases lit [10] c3<;>simp[Except.map,bind,Except.bind,pure,Except.pure]
  ·refine Bn (fun z=>absurd (of_decide_eq_true z) (by omega)) (fun _=>Bw (fin ?_))
   rw[e3,show 6-pre.length=0 by omega,pairsIn]
   show ((lit [10] c3).map _ >>= _)=_
   cases lit [10] c3<;>simp[Except.map,bind,Except.bind,pure,Except.pure]
end
end Td
namespace Td
open PySem PySem.Spec PyProof.Rows L2
open Tide (Bytes Cur lit some_ someDigits nameIn isDigit isLetter nextIs decimal pointed plainNumber blank pairsIn trainIn trainsIn cogGrammar Train Machine LF ascii)
section
variable {P:Program}{w:World}{K:PySem.W.Frag}{mg:Str->Option Value}{base:Heap}{a:Ad}
noncomputable def cQ (a:Ad):Sp:=fun vs H Q _=>∃p dx v0 v1 v2 v3 v4 v5,vs=[.ref p,v0,v1,v2,v3,v4,v5]/\H p=some (.ins a.CT dx [])/\∀H',H' p=some (.ins a.CT dx [("name",v0),("name_place",v1),("size",v2),("start",v3),("start_place",v4),("pairs",v5)])->Mv [p] H H'->Q .non H'
theorem Sb (T:Txt K mg a):Rx P w K mg base a 1 a.CT "Train" Lk (cQ a):=by
 refine Gp (k:=0) T.eJ Sl (fun _=>(fun _ _ _ _ _ _=>jM fun _ _ _ _ _ _ _=>rfl)) (fun _ _ _ _=>gX fun _ _ _ _ _ _ _ _=>rfl) (fun q f cdv A outer s H vs Q E hr h=>?_)
 ·obtain ⟨p,dx,v0,v1,v2,v3,v4,v5,rfl,hp,k⟩:=h
  refine ⟨_,(Ab (Br (pv 0) (pv 1) rfl) (Ab (Br (pv 0) (pv 2) rfl) (Ab (Br (pv 0) (pv 3) rfl) (Ab (Br (pv 0) (pv 4) rfl) (Ab (Br (pv 0) (pv 5) rfl) (Af (Br (pv 0) (pv 6) rfl))))))),?_⟩
  refine ⟨_,rfl,_,rfl,Aw p a.CT dx _ ⟨ rfl,hp,T.Bc,T.Cp,(by show 0<1000;decide),?_⟩⟩
  refine ⟨_,rfl,_,rfl,Aw p a.CT dx _ ⟨ rfl,Ae,T.Bc,T.Dj,(by show 1<1000;decide),?_⟩⟩
  refine ⟨_,rfl,_,rfl,Aw p a.CT dx _ ⟨ rfl,Ae,T.Bc,T.Gv,(by show 2<1000;decide),?_⟩⟩
  refine ⟨_,rfl,_,rfl,Aw p a.CT dx _ ⟨ rfl,Ae,T.Bc,T.DT,(by show 3<1000;decide),?_⟩⟩
  refine ⟨_,rfl,_,rfl,Aw p a.CT dx _ ⟨ rfl,Ae,T.Bc,T.Et,(by show 4<1000;decide),?_⟩⟩
  refine ⟨_,rfl,_,rfl,Aw p a.CT dx _ ⟨ rfl,Ae,T.Bc,T.Dd,(by show 5<1000;decide),?_⟩⟩
  exact k _ Ae (fun c o e n=>by rw[Ai (by simpa using n),Ai (by simpa using n),Ai (by simpa using n),Ai (by simpa using n),Ai (by simpa using n),Ai (by simpa using n)];exact e)
noncomputable def Yz (a:Ad):Sp:=fun vs H Q _=>∃p dx v0 v1 v2,vs=[.ref p,v0,v1,v2]/\H p=some (.ins a.CM dx [])/\∀H',H' p=some (.ins a.CM dx [("teeth",v0),("minutes",v1),("trains",v2)])->Mv [p] H H'->Q .non H'
theorem Oq (T:Txt K mg a):Rx P w K mg base a 1 a.CM "Machine" HR (Yz a):=by
 refine Gp (k:=0) T.ZZ OD (fun _=>(fun _ _ _ _ _ _=>Xt fun _ _ _ _=>rfl)) (fun _ _ _ _=>Oh fun _ _ _ _ _=>rfl) (fun q f cdv A outer s H vs Q E hr h=>?_)
 ·obtain ⟨p,dx,v0,v1,v2,rfl,hp,k⟩:=h
  refine ⟨_,(Ab (Br (pv 0) (pv 1) rfl) (Ab (Br (pv 0) (pv 2) rfl) (Af (Br (pv 0) (pv 3) rfl)))),?_⟩
  refine ⟨_,rfl,_,rfl,Aw p a.CM dx _ ⟨ rfl,hp,T.AR,T.Cr,(by show 0<1000;decide),?_⟩⟩
  refine ⟨_,rfl,_,rfl,Aw p a.CM dx _ ⟨ rfl,Ae,T.AR,T.BW,(by show 1<1000;decide),?_⟩⟩
  refine ⟨_,rfl,_,rfl,Aw p a.CM dx _ ⟨ rfl,Ae,T.AR,T.AU,(by show 2<1000;decide),?_⟩⟩
  exact k _ Ae (fun c o e n=>by rw[Ai (by simpa using n),Ai (by simpa using n),Ai (by simpa using n)];exact e)
noncomputable def trf (pn pp:Addr) (x:Train):List (Str×V):=[("name",.ref pn),("name_place",.int x.at_),("size",.int x.size),("start",.int x.start),("start_place",.int x.startAt),("pairs",.ref pp)]
noncomputable def JP (a:Ad) (as:List Addr) (H:Hp) (p:Addr) (x:Train):Prop:=∃dx pn pp qs,H p=some (.ins a.CT dx (trf pn pp x))/\H pn=some (.tup (bV x.name))/\H pp=some (.lst (qs.map V.ref))/\Jf H qs x.pairs/\p∈as/\pn∈as/\pp∈as/\∀q∈qs,q∈as
theorem JP.mono {as as':List Addr}{H H':Hp}{p:Addr}{x:Train} (h:JP a as H p x) (s:∀c∈as,c∈as') (k:∀c∈as,∀o,H c=some o->H' c=some o):JP a as' H' p x:=by
 obtain ⟨dx,pn,pp,qs,h1,h2,h3,h4,m1,m2,m3,m4⟩:=h
 exact ⟨dx,pn,pp,qs,k _ m1 _ h1,k _ m2 _ h2,k _ m3 _ h3,h4.mono fun q hq=>k q (m4 q hq),s _ m1,s _ m2,s _ m3,fun q hq=>s _ (m4 q hq)⟩
noncomputable def dj (a:Ad):Sp:=fun vs H Q E=>∃x t b c,vs=[.ref x]/\Rdr a H x t b c/\Tk a [] H x t b Q E (plainNumber true 6 c) fun y v _=>v = .int y
theorem QP {n:Nat}{c:Cur} (h:¬c.next=some 48):plainNumber true n c=plainNumber false n c:=by
 unfold plainNumber
 rw[if_neg (show ¬(true=true/\c.next=some 48) from fun z=>h z.2),if_neg (show ¬(false=true/\c.next=some 48) from fun z=>h z.2)]
theorem Si (T:Txt K mg a):Cal P w K mg base a 5 "read_start" Ls (dj a):=by
 refine AF (k:=4) T.Uj So (fun _ _ _ _ _ _=>CC fun _=>rfl) (fun _ _ _ _=>IZ fun _ _ _ _=>rfl) (fun f cdv A outer s H vs Q E hr h=>?_)
 ·obtain ⟨x,t,b,c,rfl,R,kO,kE⟩:=h
  refine ⟨_,(Ab (AS (Bt (AE (Bg T) T.Aj hr Ak (pv 0) (Aa AH Ac))) (Ab (AJ (AE (As T) T.Aj hr Ak (pv 0) (Aa AH Ac))) (Af (Ap Ao))) Ax) (Af (Ap (AE (Bk T) T.Aj hr Ak (pv 0) (Aa (Ay T.Pb) Ac))))),?_⟩
  obtain ⟨dx,hx⟩:=R.ins
  refine ⟨_,rfl,AN x dx _ ⟨ rfl,hx,rfl,Aw x t b c ⟨ 48,rfl,R,_,rfl,?_⟩⟩⟩
  by_cases hq:c.next=some 48
  ·rw[show decide (nx c=((48:Nat):Int))=true from decide_eq_true (Dp (y:=48).mpr hq)]
   have hp:plainNumber true 6 c = .ok (0,c.on):=by unfold plainNumber;rw[if_pos ⟨rfl,hq⟩]
   have hlit:lit [48] c = .ok c.on:=by rw[lit,if_pos hq,lit]
   refine Bx ⟨_,rfl,AN x dx _ ⟨ rfl,hx,rfl,AA x t b c _ ⟨ [48],rfl,rfl,R,fun c2 e2 H2 R2 M2=>?_,fun p e2 d2 H2 M2 hF=>by rw[hlit] at e2;cases e2⟩⟩⟩
   rw[hlit] at e2
   cases e2
   exact kO 0 c.on hp _ _ R2 M2 rfl
  ·rw[show decide (nx c=((48:Nat):Int))=false from decide_eq_false fun z=>hq (Dp (y:=48).mp z)]
   refine Bw ⟨_,rfl,AN x dx _ ⟨ rfl,hx,rfl,Aw x t b c ⟨ 6,rfl,by decide,by decide,R,fun y c2 e2 v H2 R2 M2 hv=>?_,fun p e2 d2 H2 M2 hF=>?_⟩⟩⟩
   ·exact kO y c2 (by rw[QP hq,e2]) _ _ R2 M2 hv
   ·exact kE p (by rw[QP hq,e2]) _ _ M2 hF
theorem Km (c:Cur):trainIn c=(do
  let c <-lit (ascii "train ") c
  let p:=c.at_
  let (n,c) <-nameIn c
  let c <-blank c
  let (z,c) <-pointed 2 4 c
  let c <-blank c
  let q:=c.at_
  let (s,c) <-plainNumber true 6 c
  let (r,c) <-Cg c
  return (⟨n,p,z,s,q,r⟩,c)):=by
 unfold trainIn Cg CV
 simp only [bind_assoc,pure_bind]
 rfl
noncomputable def dn (a:Ad):Sp:=fun vs H Q E=>∃x t b c,vs=[.ref x]/\Rdr a H x t b c/\Tk a [] H x t b Q E (trainIn c) fun y v H'=>∃p as,v = .ref p/\(∀c∈as,H c=none)/\JP a as H' p y
theorem YH:Ba "train " (ascii "train "):=by
 show codes _=_
 decide +kernel
theorem Sj (T:Txt K mg a):Cal P w K mg base a 7 "read_train" Lv (dn a):=by
 refine AF (k:=6) T.Ul Cc (fun _ _ _ _ _ _=>CC fun _=>rfl) (fun _ _ _ _=>IZ fun _ _ _ _=>rfl) (fun f cdv A outer s H vs Q E hr h=>?_)
 ·obtain ⟨x,t,b,c,rfl,R,kO,kE⟩:=h
  refine ⟨_,(Ab (AJ (AE (As T) T.Aj hr Ak (pv 0) (Aa AH Ac))) (Ab (Al (i:=1) Cc.nd rfl (Or.inl rfl) (Au (pv 0) rfl)) (Ab (Al (i:=2) Cc.nd rfl (Or.inl rfl) (BZ (CS T) T.Aj hr Ak (pv 0))) (Ab (AJ (AE (As T) T.Aj hr Ak (pv 0) (Aa AH Ac))) (Ab (Al (i:=3) Cc.nd rfl (Or.inl rfl) (AE (Cq T) T.Aj hr Ak (pv 0) (Aa (Ay T.RC) (Aa (Ay T.DY) Ac)))) (Ab (AJ (AE (As T) T.Aj hr Ak (pv 0) (Aa AH Ac))) (Ab (Al (i:=4) Cc.nd rfl (Or.inl rfl) (Au (pv 0) rfl)) (Ab (Al (i:=5) Cc.nd rfl (Or.inl rfl) (Ar (Si T) hr Ak (Aa (pv 0) Ac))) (Ab (Al (i:=6) Cc.nd rfl (Or.inl rfl) (Ar (Sh T) hr Ak (Aa (pv 0) Ac))) (Af (Ap (Gx (Sb T) hr Ak (Aa (pv 2) (Aa (pv 1) (Aa (pv 3) (Aa (pv 5) (Aa (pv 4) (Aa (pv 6) Ac)))))))))))))))))),?_⟩
  rw[Km] at kO kE
  obtain ⟨dx,hx⟩:=R.ins
  refine ⟨_,rfl,AN x dx _ ⟨ rfl,hx,rfl,Pl x t b c _ _ ⟨ rfl,YH,R,fun c1 e1 H1 R1 M1=>?_,fun p e d2 H2 M2 hF=>kE p (by rw[e];rfl) _ _ M2 hF⟩⟩⟩
  rw[e1] at kO kE
  obtain ⟨dx1,hx1⟩:=R1.ins
  refine ⟨_,rfl,AA x a.CR dx1 _ _ ⟨ rfl,hx1,T.Aj,T.AG,rfl,?_⟩⟩
  refine ⟨_,rfl,AN x dx1 _ ⟨ rfl,hx1,rfl,Aw x t b c1 ⟨ rfl,R1,fun n c2 e2 v H2 R2 M2 hv=>?_,fun p e d2 H2 M2 hF=>kE p (by show nameIn c1 >>= _=_;rw[e];rfl) _ _ (M1.trans M2) hF⟩⟩⟩
  obtain ⟨pn,rfl,hpn0,hpn⟩:=hv
  replace kO:=fun y c' h=>kO y c' (show nameIn c1 >>= _=_ by rw[e2];exact h)
  replace kE:=fun p h=>kE p (show nameIn c1 >>= _=_ by rw[e2];exact h)
  obtain ⟨dx2,hx2⟩:=R2.ins
  refine ⟨_,rfl,AN x dx2 _ ⟨ rfl,hx2,rfl,AA x t b c2 _ ⟨ [32],rfl,rfl,R2,fun c3 e3 H3 R3 M3=>?_,fun p e d2 H2 M2' hF=>kE p (by show lit [32] c2 >>= _=_;rw[e];rfl) _ _ ((M1.trans M2).trans M2') hF⟩⟩⟩
  replace kO:=fun y c' h=>kO y c' (show lit [32] c2 >>= _=_ by rw[e3];exact h)
  replace kE:=fun p h=>kE p (show lit [32] c2 >>= _=_ by rw[e3];exact h)
  obtain ⟨dx3,hx3⟩:=R3.ins
  refine ⟨_,rfl,AN x dx3 _ ⟨ rfl,hx3,rfl,Aw x t b c3 ⟨ 2,4,rfl,by decide,by decide,by decide,R3,fun z c4 e4 v H4 R4 M4 hv=>?_,fun p e d2 H2 M2' hF=>kE p (by show pointed 2 4 c3 >>= _=_;rw[e];rfl) _ _ (((M1.trans M2).trans M3).trans M2') hF⟩⟩⟩
  subst hv
  replace kO:=fun y c' h=>kO y c' (show pointed 2 4 c3 >>= _=_ by rw[e4];exact h)
  replace kE:=fun p h=>kE p (show pointed 2 4 c3 >>= _=_ by rw[e4];exact h)
  obtain ⟨dx4,hx4⟩:=R4.ins
  have M4':=((M1.trans M2).trans M3).trans M4
  refine ⟨_,rfl,AN x dx4 _ ⟨ rfl,hx4,rfl,AA x t b c4 _ ⟨ [32],rfl,rfl,R4,fun c5 e5 H5 R5 M5=>?_,fun p e d2 H2 M2' hF=>kE p (by show lit [32] c4 >>= _=_;rw[e];rfl) _ _ (M4'.trans M2') hF⟩⟩⟩
  replace kO:=fun y c' h=>kO y c' (show lit [32] c4 >>= _=_ by rw[e5];exact h)
  replace kE:=fun p h=>kE p (show lit [32] c4 >>= _=_ by rw[e5];exact h)
  obtain ⟨dx5,hx5⟩:=R5.ins
  refine ⟨_,rfl,AA x a.CR dx5 _ _ ⟨ rfl,hx5,T.Aj,T.AG,rfl,?_⟩⟩
  refine ⟨_,rfl,Aw x t b c5 ⟨ rfl,R5,fun st c6 e6 v H6 R6 M6 hv=>?_,fun p e d2 H2 M2' hF=>kE p (by show plainNumber true 6 c5 >>= _=_;rw[e];rfl) _ _ ((M4'.trans M5).trans M2') hF⟩⟩
  subst hv
  replace kO:=fun y c' h=>kO y c' (show plainNumber true 6 c5 >>= _=_ by rw[e6];exact h)
  replace kE:=fun p h=>kE p (show plainNumber true 6 c5 >>= _=_ by rw[e6];exact h)
  have M6':=(M4'.trans M5).trans M6
  refine ⟨_,rfl,Aw x t b c6 ⟨ rfl,R6,fun r c7 e7 v H7 R7 M7 hv=>?_,fun p e d2 H2 M2' hF=>kE p (by show Cg c6 >>= _=_;rw[e];rfl) _ _ (M6'.trans M2') hF⟩⟩
  obtain ⟨pp,qs,rfl,hpp0,hqs0,hpp,hqs⟩:=hv
  have M7':=M6'.trans M7
  have Mn:Mv [x] H2 H7:=(((M3.trans M4).trans M5).trans M6).trans M7
  have npnx:pn≠x:=Bd hpn0 hx1
  have hpn7:H7 pn=some (.tup (bV n)):=Mn _ _ hpn (by simpa using npnx)
  refine ⟨_,rfl,_,rfl,_,rfl,_,rfl,_,rfl,_,rfl,fun q dq hq hdq ne=>?_⟩
  refine (gG q dq _ _ _ _ _ _ ⟨ rfl,Ae,fun H8 hq8 M8=>⟨rfl,?_⟩⟩)
  have nqx:=R7.new hq
  have ndx:=R7.new hdq
  have up:∀c o,c≠q->c≠dq->H7 c=some o->H8 c=some o:=fun c o n1 n2 e=>M8 c o (by rw[Ai n1,Ai n2];exact e) (by simpa using n1)
  have R8:Rdr a H8 x t b c7:=R7.keep (fun o e=>up x o (Ne.symm nqx.1) (Ne.symm ndx.1) e) fun o e=>up t o (Ne.symm nqx.2) (Ne.symm ndx.2) e
  have M8':Mv [x] H H8:=fun c o e n=>by
   have e7:=M7' c o e n
   exact up c o (fun z=>by rw[z,hq] at e7;cases e7) (fun z=>by rw[z,hdq] at e7;cases e7) e7
  have old:∀{c:Addr}{o:HO},H7 c=some o->H8 c=some o:=fun {c o} e=>up c o (fun z=>by rw[z,hq] at e;cases e) (fun z=>by rw[z,hdq] at e;cases e) e
  refine kO ⟨n,c1.at_,z,st,c5.at_,r⟩ c7 (by show Cg c6 >>= _=_;rw[e7];rfl) _ _ R8 M8' ⟨q,q::pn::pp::qs,rfl,fun c hc=>?_,Aw dq pn pp qs ⟨ hq8,old hpn7,old hpp,hqs.mono fun _ _ _ z=>old z,by simp,by simp,by simp,fun c hc=>by simp[hc]⟩⟩
  rcases List.mem_cons.mp hc with rfl|hc
  ·exact M7'.none (by simpa using nqx.1) hq
  rcases List.mem_cons.mp hc with rfl|hc
  ·exact M1.none (by simpa using npnx) hpn0
  have M6n:∀c,H6 c=none->H c=none:=fun c h=>M6'.none (by simpa using (R6.new h).1) h
  rcases List.mem_cons.mp hc with rfl|hc
  ·exact M6n _ hpp0
  ·exact M6n _ (hqs0 c hc)
end
end Td
namespace Td
open PySem PySem.Spec PyProof.Rows L2
open Tide (Bytes Cur lit some_ someDigits nameIn isDigit isLetter nextIs decimal pointed plainNumber blank pairsIn trainIn trainsIn cogGrammar Train Machine LF ascii judgeCog)
section
variable {P:Program}{w:World}{K:PySem.W.Frag}{mg:Str->Option Value}{base:Heap}{a:Ad}
noncomputable def fz (a:Ad):Sp:=fun vs H Q _=>∃p x as,vs=[.ref p]/\JP a as H p x/\x.pairs≠[]/\Q (.int x.last) H
theorem Jl (T:Txt K mg a):Cal P w K mg base a 1 "last_teeth" Lm (fz a):=by
 refine AF (k:=0) T.Uc JK (fun _ _ _ _ _ _=>CC fun _=>rfl) (fun _ _ _ _=>PQ fun _ _ _=>rfl) (fun f cdv A outer s H vs Q E hr h=>?_)
 ·refine hid fun X_ k_=>?_
  obtain ⟨p,x,as,rfl,hT,hne,k⟩:=h
  refine k_ ?_;clear k_
  refine hid fun X_ k_=>?_
  obtain ⟨dx,pn,pp,qs,h1,h2,h3,h4,m1,m2,m3,m4⟩:=hT
  refine k_ ?_;clear k_
  have hl:0<x.pairs.length:=List.length_pos_iff.mpr hne
  have hq:qs.length=x.pairs.length:=h4.1
  obtain ⟨q,hq'⟩:∃q,qs[x.pairs.length-1]?=some q:=⟨_,List.getElem?_eq_getElem (by omega)⟩
  have hpr:x.pairs[x.pairs.length-1]?=some (x.pairs[x.pairs.length-1]'(by omega)):=List.getElem?_eq_getElem (by omega)
  have hlast:x.last=(x.pairs[x.pairs.length-1]'(by omega)).2:=by
   unfold Tide.Train.last
   rw[List.getLast?_eq_getElem?,hpr]
   rfl
  refine ⟨_,(Ab (Al (i:=1) JK.nd rfl (Or.inl rfl) (Be Bs (Au (pv 0) rfl) (Az Dt (AD AQ rfl T.DD boot_len (Aa (Au (pv 0) rfl) Ac)) Ao) (fun _ _=>rfl))) (Af (Ap (Be BE (pv 1) Ao (fun _ _=>rfl))))),?_⟩
  refine ⟨_,rfl,AA p a.CT dx _ _ ⟨ rfl,h1,T.Bc,T.Dd,rfl,_,rfl,AA p a.CT dx _ _ ⟨ rfl,h1,T.Bc,T.Dd,rfl,Aq pp _ ⟨ rfl,.inl (SqL.of h3),Aq _ _ ⟨ rfl,rfl,Aw pp _ _ _ ⟨ rfl,rfl,SqL.of h3,at_of (j:=x.pairs.length-1) (v:=.ref q) (by rw[List.length_map,hq];omega) (by rw[List.getElem?_map,hq'];rfl),?_⟩⟩⟩⟩⟩⟩
  refine ⟨_,rfl,Aw q _ _ _ ⟨ rfl,rfl,SqT.of (h4.2 _ _ _ hq' hpr),AK (j:=1) rfl,?_⟩⟩
  rw[<-hlast]
  exact k
noncomputable def nk (n:Bytes):List Key:=n.map fun c=>Sum.inl (c.toNat:Int)
theorem MR (n:Bytes):bV n=(nk n).map kV:=by unfold bV nk;rw[List.map_map];rfl
theorem Qm:∀{m n:Bytes},nk m=nk n->m=n
 |[],[],_=>rfl
 |[],_::_,h=>by cases h
 |_::_,[],h=>by cases h
 |x::m,y::n,h=>by
  unfold nk at h
  rw[List.map_cons,List.map_cons] at h
  have h1:=(List.cons.inj h).1
  have h2:=Qm (m:=m) (n:=n) (List.cons.inj h).2
  have h3:x.toNat=y.toNat:=by have:=Sum.inl.inj h1;omega
  rw[h2,UInt8.toNat_inj.mp h3]
noncomputable def OV (a:Ad) (as:List Addr) (H:Hp) (ps:List Addr) (xs:List Train):Prop:=ps.length=xs.length/\∀(i:Nat) p x,ps[i]?=some p->xs[i]?=some x->JP a as H p x
theorem OV.mono {as as':List Addr}{H H':Hp}{ps:List Addr}{xs:List Train} (h:OV a as H ps xs) (s:∀c∈as,c∈as') (k:∀c∈as,∀o,H c=some o->H' c=some o):OV a as' H' ps xs:=⟨h.1,fun i p x h1 h2=>(h.2 i p x h1 h2).mono s k⟩
noncomputable def Jg (a:Ad) (H:Hp) (Q:VK) (E:XK) (r:Option (Nat×Nat)):Prop:=(r=none->∀H',Mv [] H H'->Q .non H')/\(∀k p,r=some (k,p)->∀dx H',Mv [] H H'->Flt H' dx k p->E (.ref a.CF) (some dx) H')
noncomputable def aI (a:Ad):Sp:=fun vs H Q E=>∃l ps xs as,vs=[.ref l]/\H l=some (.lst (ps.map V.ref))/\OV a as H ps xs/\(∀x∈xs,x.pairs≠[])/\Jg a H Q E (AI [] xs)
theorem Oy (T:Txt K mg a):Cal P w K mg base a 3 "judge_trains" HY (aI a):=by
 refine AF (k:=2) T.Pt Dh (fun _ _ _ _ _ _=>CC fun _=>rfl) (fun _ _ _ _=>IZ fun _ _ _ _=>rfl) (fun f cdv A outer s H vs Q E hr h=>?_)
 ·refine hid fun X_ k_=>?_
  obtain ⟨l,ps,xs,as,rfl,hl,hT,hne,kO,kE⟩:=h
  refine k_ ?_;clear k_
  refine ⟨_,(Ab (Al (i:=1) Dh.nd rfl (Or.inl rfl) Lx) (Af (DN El rfl (UZ rfl T.Fl (Aa (pv 0) Ac)) (UY rfl (Ec (Bm (i:=2) Dh.nd rfl (Or.inl rfl)) (Ec (Bm (i:=3) Dh.nd rfl (Or.inl rfl)) ON))) (Ab (AS (Yu (Yt (GR hr) (Au (pv 3) rfl) (pv 1))) (Af (Hf T.xc (xfn T) hr T.mgF (Aa (Ay T.Ku) (Aa (Au (pv 3) rfl) Ac)) Em)) Ax) (Ab (AS (Av SY (pv 2) (Ay T.RB) (AB _)) (Af (Hf T.xc (xfn T) hr T.mgF (Aa (Ay T.Kx) (Aa (Au (pv 3) rfl) Ac)) Em)) Ax) (Ab (AS (Av SY (Au (pv 3) rfl) (Ar (Jl T) hr Ak (Aa (pv 3) Ac)) (AB _)) (Af (Hf T.xc (xfn T) hr T.mgF (Aa (Ay T.Kw) (Aa (Au (pv 3) rfl) Ac)) Em)) Ax) (Af (LA (GR hr) (pv 1) (Au (pv 3) rfl) jk rfl)))))))),?_⟩
  refine fun d hd=>?_
  refine ⟨_,rfl,Aq l _ ⟨ rfl,SqL.of (by rw[Ai (An hl hd)];exact hl),PF (K:=K) (a:=l) (xs:=ps.map V.ref) (fun i σ H'=>∃v1 v2 kvs,σ=[some (.ref l),some (.ref d),v1,v2]/\Mv [] H H'/\H' d=some (.dT kvs)/\kvs.length<=i/\i<=64 /\
   (∀n,(Cj kvs (nk n)).isSome=(xs.take i).any (fun y=>y.name==n))/\AI [] xs=AI (xs.take i) (xs.drop i)) (Aq none none ⟨ [],rfl,Mv.refl.ext hd,Ae,Nat.le_refl _,Nat.zero_le _,fun n=>rfl,rfl⟩) (fun i σ H' _ ⟨_,_,_,_,M,_⟩=>SqL.of (M _ _ hl (by simp))) ?_ ?_⟩⟩
  ·rintro i y p σ H1 hy ⟨v1,v2,kvs,rfl,M1,hd1,hkl,hi64,hk,e1⟩ hp
   obtain ⟨q,hq,rfl⟩:∃q,ps[i]?=some q/\V.ref q=y:=by
    rw[List.getElem?_map] at hy
    cases z:ps[i]? with
    |none=>rw[z] at hy;cases hy
    |some z'=>rw[z] at hy;exact ⟨z',rfl,Option.some.inj hy⟩
   have hi:i<xs.length:=by have:=(List.getElem?_eq_some_iff.mp hq).1;rw[<-hT.1];exact this
   have hx:xs[i]?=some xs[i]:=List.getElem?_eq_getElem hi
   generalize hxi:xs[i]=x at hx
   have hTx:=(hT.2 i q x hq hx).mono (H':=upd H1 p (.tup [.int i,.ref q])) (fun _ z=>z) fun c _ o z=>by
    have z1:=M1 c o z (by simp)
    rw[Ai (An z1 hp)]
    exact z1
   refine hid fun X_ k_=>?_
   obtain ⟨dx,pn,pp,qs,h1,h2,h3,h4,m1,m2,m3,m4⟩:=id hTx
   refine k_ ?_;clear k_
   have hd2:(upd H1 p (.tup [.int i,.ref q])) d=some (.dT kvs):=by rw[Ai (An hd1 hp)];exact hd1
   have Mp:Mv [] H (upd H1 p (.tup [.int i,.ref q])):=M1.trans (Mv.new hp)
   rw[MR] at h2
   have hdr:xs.drop i=x::xs.drop (i+1):=by rw[List.drop_eq_getElem_cons hi,hxi]
   have htk:xs.take (i+1)=xs.take i++[x]:=by rw[List.take_succ_eq_append_getElem hi,hxi]
   have htl:(xs.take i).length=i:=by rw[List.length_take];omega
   have e2:AI [] xs=match BL (xs.take i) x with|some f=>some f|none=>AI (xs.take (i+1)) (xs.drop (i+1)):=by rw[e1,hdr,AI,htk]<;>rfl
   refine (Aq p _ ⟨ rfl,SqT.of Ae,rfl,Aq _ _ ⟨ rfl,Aq _ _ ⟨ rfl,rfl,?_⟩⟩⟩)
   refine ⟨_,rfl,AA q a.CT dx _ _ ⟨ rfl,h1,T.Bc,T.Cp,rfl,_,rfl,Aq d _ ⟨ rfl,Hs.t hd2 h2,_,rfl,?_⟩⟩⟩
   rw[hk]
   cases ha:(xs.take i).any (fun y=>y.name==x.name) with
   |true=>
    refine Bx ⟨_,rfl,AA q a.CT dx _ _ ⟨ rfl,h1,T.Bc,T.Dj,rfl,Aq _ _ ⟨ rfl,fun d2 hd2'=>?_⟩⟩⟩
    refine kE 2 x.at_ ?_ _ _ (Mp.trans (Mv.new hd2')) Ae
    rw[e2]
    unfold BL
    rw[if_pos ha]
   |false=>
    refine Bw ⟨_,rfl,Aq _ _ ⟨ rfl,rfl,_,rfl,?_⟩⟩
    by_cases h64:64<=i
    ·refine Bn (fun _=>?_) (fun z=>absurd (decide_eq_true (show (64:Int)<=(i:Int) by omega)) z)
     refine ⟨_,rfl,AA q a.CT dx _ _ ⟨ rfl,h1,T.Bc,T.Dj,rfl,Aq _ _ ⟨ rfl,fun d2 hd2'=>?_⟩⟩⟩
     refine kE 3 x.at_ ?_ _ _ (Mp.trans (Mv.new hd2')) Ae
     rw[e2]
     unfold BL
     rw[if_neg (by rw[ha];decide),if_pos (by rw[htl];exact h64)]
    ·refine Bn (fun z=>absurd (of_decide_eq_true z) (by omega)) (fun _=>?_)
     refine ⟨_,rfl,AA q a.CT dx _ _ ⟨ rfl,h1,T.Bc,T.DT,rfl,_,rfl,AN q x as ⟨ rfl,hTx,hne x (List.mem_of_getElem? hx),Aq _ _ ⟨ rfl,rfl,_,rfl,?_⟩⟩⟩⟩
     by_cases hs:x.last<=x.start
     ·refine Bn (fun _=>?_) (fun z=>absurd (decide_eq_true (show ((x.last:Nat):Int)<=(x.start:Int) by omega)) z)
      refine ⟨_,rfl,AA q a.CT dx _ _ ⟨ rfl,h1,T.Bc,T.Et,rfl,Aq _ _ ⟨ rfl,fun d2 hd2'=>?_⟩⟩⟩
      refine kE 4 x.startAt ?_ _ _ (Mp.trans (Mv.new hd2')) Ae
      rw[e2]
      unfold BL
      rw[if_neg (by rw[ha];decide),if_neg (by rw[htl];exact h64),if_pos hs]
     ·refine Bn (fun z=>absurd (of_decide_eq_true z) (by omega)) (fun _=>?_)
      refine ⟨_,rfl,_,rfl,AA q a.CT dx _ _ ⟨ rfl,h1,T.Bc,T.Cp,rfl,Aq d _ ⟨ rfl,TF.t hd2 h2 (Nat.lt_of_le_of_lt hkl (Nat.lt_of_lt_of_le (show i<64 by omega) (by decide))),?_⟩⟩⟩
      refine (Aq _ _ ⟨ putK kvs (nk x.name) (.bl true),rfl,Mp.ext hd,Ae,Nat.le_trans (Dm _ _ _) (by omega),by omega,fun n=>?_,?_⟩)
      ·rw[Mb,htk,List.any_append]
       by_cases hn:n=x.name
       ·subst hn
        rw[if_pos rfl]
        simp
       ·rw[if_neg fun z=>hn (Qm z),hk n]
        have:(x.name==n)=false:=beq_eq_false_iff_ne.mpr (Ne.symm hn)
        simp[this]
      ·rw[e2]
       unfold BL
       rw[if_neg (by rw[ha];decide),if_neg (by rw[htl];exact h64),if_neg hs]
  ·rintro σ H1 hI_
   refine hid fun X_ k_=>?_
   obtain ⟨v1,v2,kvs,rfl,M1,hd1,hkl,hi64,hk,e1⟩:=hI_
   refine k_ ?_;clear k_
   refine kO ?_ _ M1
   rw[e1,List.length_map,hT.1,List.drop_length,AI]
end
end Td
namespace Td
open PySem PySem.Spec PyProof.Rows L2
open Tide (Bytes Cur lit some_ someDigits nameIn isDigit isLetter nextIs decimal pointed plainNumber blank pairsIn trainIn trainsIn cogGrammar Train Machine LF ascii judgeCog)
section
variable {P:Program}{w:World}{K:PySem.W.Frag}{mg:Str->Option Value}{base:Heap}{a:Ad}
noncomputable def BB (a:Ad) (as:List Addr) (H:Hp) (p:Addr) (m:Machine):Prop:=∃dx l ps,H p=some (.ins a.CM dx [("teeth",.int m.teeth),("minutes",.int m.minutes),("trains",.ref l)])/\H l=some (.lst (ps.map V.ref))/\OV a as H ps m.trains/\p∈as/\l∈as
theorem BB.mono {as as':List Addr}{H H':Hp}{p:Addr}{m:Machine} (h:BB a as H p m) (s:∀c∈as,c∈as') (k:∀c∈as,∀o,H c=some o->H' c=some o):BB a as' H' p m:=by
 refine hid fun X_ k_=>?_
 obtain ⟨dx,l,ps,h1,h2,h3,m1,m2⟩:=h
 refine k_ ?_;clear k_
 exact ⟨dx,l,ps,k _ m1 _ h1,k _ m2 _ h2,h3.mono s k,s _ m1,s _ m2⟩
noncomputable def df (a:Ad):Sp:=fun vs H Q E=>∃t b,vs=[.ref t]/\H t=some (.lst (bV b))/\b.length<=30000 /\
 (∀m,judgeCog b = .ok m->∀p as H',Mv [] H H'->(∀c∈as,H c=none)->BB a as H' p m->Q (.ref p) H') /\
 (∀k p,judgeCog b = .error (k,p)->∀dx H',Mv [] H H'->Flt H' dx k p->E (.ref a.CF) (some dx) H')
theorem YG:Ba "crank " (ascii "crank "):=by
 show codes _=_
 decide +kernel
theorem DX {H:Hp}{C x dx c:Addr}{o:HO} (h1:H x=none) (h2:H dx=none) (e:H c=some o):(upd (upd H dx (.own x)) x (.ins C dx [])) c=some o:=by
 rw[Ai (An e h1),Ai (An e h2)]
 exact e
theorem Mv.drop {H H1 H2:Hp}{x:Addr} (M:Mv [x] H1 H2) (n:H x=Option.none) (k:Mv [] H H1):Mv [] H H2:=fun c o e _=>M c o (k c o e (by simp)) (by simpa using An e n)
theorem OB (T:Txt K mg a):Cal P w K mg base a 8 "read_machine" Ic (df a):=by
 refine AF (k:=7) T.Py Cu (fun _ _ _ _ _ _=>CC fun _=>rfl) (fun _ _ _ _=>RN fun _ _=>rfl) (fun f cdv A outer s H vs Q E hr h=>?_)
 ·refine hid fun X_ k_=>?_
  obtain ⟨t,b,rfl,ht,hb,kO,kE⟩:=h
  refine k_ ?_;clear k_
  refine ⟨_,(Ab (Al (i:=1) Cu.nd rfl (Or.inl rfl) (Gx (HN T) hr Ak (Aa (pv 0) Ac))) (Ab (AJ (AE (As T) T.Aj hr Ak (pv 1) (Aa AH Ac))) (Ab (Al (i:=2) Cu.nd rfl (Or.inl rfl) (AE (Bk T) T.Aj hr Ak (pv 1) (Aa (Ay T.EL) Ac))) (Ab (AJ (AE (As T) T.Aj hr Ak (pv 1) (Aa AH Ac))) (Ab (Al (i:=3) Cu.nd rfl (Or.inl rfl) (AE (Bk T) T.Aj hr Ak (pv 1) (Aa (Ay T.Me) Ac))) (Ab (AJ (AE (As T) T.Aj hr Ak (pv 1) (Aa AH Ac))) (Ab (Al (i:=4) Cu.nd rfl (Or.inl rfl) (Bb Ac)) (Ab (Cs El (CY (Bt (BZ (FV T) T.Aj hr Ak (pv 1)))) (Af (AJ (He PySem.F.plainAttrs_list PySem.F.slot_list_append PySem.F.type_list_append CP (pv 4) (Aa (Ar (Sj T) hr Ak (Aa (pv 1) Ac)) Ac))))) (Ab (AJ (Ar (Oy T) hr Ak (Aa (pv 4) Ac))) (Af (Ap (Gx (Oq T) hr Ak (Aa (pv 2) (Aa (pv 3) (Aa (pv 4) Ac))))))))))))))),?_⟩
  rw[Ft] at kO kE
  refine ⟨_,rfl,fun x dx hxn hdn nxd=>?_⟩
  refine (Aw x dx t b ⟨ rfl,Ae,DX hxn hdn ht,hb,fun H0 R0 M0=>⟨rfl,?_⟩⟩)
  have N0:Mv [] H H0:=fun c o e _=>M0 c o (DX hxn hdn e) (by simpa using An e hxn)
  have gE:∀p,cogGrammar b = .error p->∀d2 H2,Mv [x] H0 H2->Flt H2 d2 1 p->E (.ref a.CF) (some d2) H2:=fun p e d2 H2 M hF=>kE 1 p (by rw[e]) d2 H2 (M.drop hxn N0) hF
  have gdef:cogGrammar b=(do
   let c <-lit (ascii "crank ") ⟨b,0⟩
   let (t,c) <-plainNumber false 3 c
   let c <-blank c
   let (m,c) <-plainNumber false 5 c
   let c <-lit [LF] c
   let r <-trainsIn (b.length+1) c
   return ⟨t,m,r⟩):=rfl
  rw[gdef] at gE
  obtain ⟨dx0,hx0⟩:=R0.ins
  refine ⟨_,rfl,AN x dx0 _ ⟨ rfl,hx0,rfl,Pl x t b _ _ _ ⟨ rfl,YG,R0,fun c1 e1 H1 R1 M1=>?_,fun p e d2 H2 M2 hF=>gE p (by rw[e];rfl) _ _ M2 hF⟩⟩⟩
  replace gE:=fun p h=>gE p (show lit (ascii "crank ") ⟨b,0⟩ >>= _=_ by rw[e1];exact h)
  obtain ⟨dx1,hx1⟩:=R1.ins
  refine ⟨_,rfl,AN x dx1 _ ⟨ rfl,hx1,rfl,Aw x t b c1 ⟨ 3,rfl,by decide,by decide,R1,fun te c2 e2 v H2 R2 M2 hv=>?_,fun p e d2 H2 M2 hF=>gE p (by show plainNumber false 3 c1 >>= _=_;rw[e];rfl) _ _ (M1.trans M2) hF⟩⟩⟩
  subst hv
  replace gE:=fun p h=>gE p (show plainNumber false 3 c1 >>= _=_ by rw[e2];exact h)
  obtain ⟨dx2,hx2⟩:=R2.ins
  refine ⟨_,rfl,AN x dx2 _ ⟨ rfl,hx2,rfl,AA x t b c2 _ ⟨ [32],rfl,rfl,R2,fun c3 e3 H3 R3 M3=>?_,fun p e d2 H2 M2' hF=>gE p (by show lit [32] c2 >>= _=_;rw[e];rfl) _ _ ((M1.trans M2).trans M2') hF⟩⟩⟩
  replace gE:=fun p h=>gE p (show lit [32] c2 >>= _=_ by rw[e3];exact h)
  obtain ⟨dx3,hx3⟩:=R3.ins
  have M3':=(M1.trans M2).trans M3
  refine ⟨_,rfl,AN x dx3 _ ⟨ rfl,hx3,rfl,Aw x t b c3 ⟨ 5,rfl,by decide,by decide,R3,fun mi c4 e4 v H4 R4 M4 hv=>?_,fun p e d2 H2 M2 hF=>gE p (by show plainNumber false 5 c3 >>= _=_;rw[e];rfl) _ _ (M3'.trans M2) hF⟩⟩⟩
  subst hv
  replace gE:=fun p h=>gE p (show plainNumber false 5 c3 >>= _=_ by rw[e4];exact h)
  obtain ⟨dx4,hx4⟩:=R4.ins
  refine ⟨_,rfl,AN x dx4 _ ⟨ rfl,hx4,rfl,AA x t b c4 _ ⟨ [10],rfl,rfl,R4,fun c5 e5 H5 R5 M5=>?_,fun p e d2 H2 M2' hF=>gE p (by show lit [10] c4 >>= _=_;rw[e];rfl) _ _ ((M3'.trans M4).trans M2') hF⟩⟩⟩
  replace gE:=fun p h=>gE p (show lit [10] c4 >>= _=_ by rw[e5];exact h)
  have M5':=(M3'.trans M4).trans M5
  have gall:cogGrammar b=(trainsIn (b.length+1) c5 >>= fun r=>pure ⟨te,mi,r⟩):=by
   rw[gdef,e1]
   show plainNumber false 3 c1 >>= _=_
   rw[e2]
   show lit [32] c2 >>= _=_
   rw[e3]
   show plainNumber false 5 c3 >>= _=_
   rw[e4]
   show lit [10] c4 >>= _=_
   rw[e5]
   rfl
  refine ⟨Nat.zero_le _,fun l hl=>?_⟩
  have nl:=R5.new hl
  have hlH:H l=none:=(M5'.drop hxn N0).none (by simp) hl
  have hl0:H0 l=none:=M5'.none (by simpa using nl.1) hl
  refine ⟨fun m σ H'=>∃c' pre ps as,∃f:Nat,σ=[some (.ref t),some (.ref x),some (.int te),some (.int mi),some (.ref l)]/\Rdr a H' x t b c'/\Mv [x] H0 H'/\H' l=some (.lst (ps.map V.ref))/\OV a as H' ps pre/\(∀c∈as,H c=none/\c≠l/\c≠x) /\
   (∀y∈pre,y.pairs≠[])/\m=b.length-c'.at_/\f+pre.length=b.length+1/\pre.length<=c'.at_/\trainsIn (b.length+1) c5=(trainsIn f c' >>= fun r=>pure (pre++r)),
   (Aq _ c5 ⟨ [],[],[],b.length+1,rfl,R5.lay hl,M5'.trans (Mv.new hl),Ae,⟨rfl,fun i p x h=>(by cases h)⟩,fun c hc=>(by cases hc),fun y hy=>(by cases hy),rfl,rfl,Nat.zero_le _,(by simp)⟩),?_⟩
  rintro m σ H6 hI_
  refine hid fun X_ k_=>?_
  obtain ⟨c6,pre,ps,as,f6,rfl,R6,M6,hl6,hT6,has,hpr,rfl,hf6,hc6,e6⟩:=hI_
  refine k_ ?_;clear k_
  obtain ⟨dx6,hx6⟩:=R6.ins
  refine ⟨_,rfl,AN x dx6 _ ⟨ rfl,hx6,rfl,Aw x t b c6 ⟨ rfl,R6,_,rfl,?_⟩⟩⟩
  by_cases hend:c6.next=none
  ·rw[show decide (nx c6=256)=true from decide_eq_true (Qo.mpr hend)]
   have hrest:c6.rest=[]:=by
    unfold Cur.next at hend
    exact List.head?_eq_none_iff.mp hend
   have etr:trainsIn (b.length+1) c5 = .ok pre:=by
    rw[e6]
    cases f6 with
    |zero=>rw[trainsIn];simp[bind,Except.bind,pure,Except.pure]
    |succ f=>rw[trainsIn,if_pos hrest];simp[bind,Except.bind,pure,Except.pure]
   have eg:cogGrammar b = .ok ⟨te,mi,pre⟩:=by rw[gall,etr];rfl
   rw[eg] at kO kE
   have M6H:Mv [] H H6:=M6.drop hxn N0
   refine Bw ⟨_,rfl,Aw l ps pre as ⟨ rfl,hl6,hT6,hpr,fun ej H7 M7=>?_,fun k p ej d2 H7 M7 hF=>kE k p (by show (match AI [] pre with|some f=>_|none=>_)=_;rw[ej]) _ _ (M6H.trans M7) hF⟩⟩
   refine ⟨_,rfl,_,rfl,_,rfl,fun q dq hq hdq ne=>?_⟩
   refine (AA q dq _ _ _ ⟨ rfl,Ae,fun H8 hq8 M8=>⟨rfl,?_⟩⟩)
   have old:∀{c:Addr}{o:HO},H7 c=some o->H8 c=some o:=fun {c o} e=>M8 c o (DX hq hdq e) (by simpa using An e hq)
   refine kO ⟨te,mi,pre⟩ (by show (match AI [] pre with|some f=>_|none=>_)=_;rw[ej]) q (q::l::as) H8 (fun c o e n=>old (M7 _ _ (M6H c o e n) (by simp))) (fun c hc=>?_) ⟨dq,l,ps,hq8,old (M7 _ _ hl6 (by simp)),hT6.mono (fun c hc=>by simp[hc]) fun c _ o z=>old (M7 _ _ z (by simp)),by simp,by simp⟩
   rcases List.mem_cons.mp hc with rfl|hc
   ·exact (M6H.trans M7).none (by simp) hq
   rcases List.mem_cons.mp hc with rfl|hc
   ·exact hlH
   ·exact (has c hc).1
  ·rw[show decide (nx c6=256)=false from decide_eq_false fun z=>hend (Qo.mp z)]
   have hrest:¬c6.rest=[]:=fun z=>hend (by unfold Cur.next;rw[z];rfl)
   have hlt:c6.at_<b.length:=Nat.lt_of_not_le fun z=>hrest (R6.inn.Za.mpr z)
   obtain ⟨f,rfl⟩:∃f,f6=f+1:=⟨f6-1,by omega⟩
   have e7:trainsIn (b.length+1) c5=(trainIn c6 >>= fun q=>trainsIn f q.2 >>= fun r=>pure (pre++[q.1]++r)):=by
    rw[e6,trainsIn,if_neg hrest]
    simp only [bind_assoc,pure_bind,List.append_assoc,List.singleton_append]
   refine Bx ⟨fun σ' H'=>_,fun σ' H' z=>z,?_⟩
   refine ⟨_,rfl,.inl ⟨rfl,_,SqL.of hl6⟩,_,rfl,Aw x t b c6 ⟨ rfl,R6,fun y c8 e8 v H8 R8 M8 hv=>?_,fun p e d2 H2 M2 hF=>gE p (by show trainsIn (b.length+1) c5 >>= _=_;rw[e7,e];rfl) _ _ (M6.trans M2) hF⟩⟩
   obtain ⟨q,as2,rfl,has2,hT8⟩:=hv
   have hl8:=M8 _ _ hl6 (by simpa using nl.1)
   refine hid fun X_ k_=>?_
   obtain ⟨hin8,_,_,hlt8,hpy,_⟩:=DQ e8 R6.inn
   refine k_ ?_;clear k_
   have hat8:c6.at_<c8.at_:=by have:=DQ e8 R6.inn;omega
   have hsz:(ps.map V.ref).length<sizeLine:=by
    rw[List.length_map,hT6.1]
    exact Nat.lt_of_le_of_lt (show pre.length<=30000 by omega) (by decide)
   refine (AN l _ _ ⟨ rfl,rfl,hl8,hsz,?_⟩)
   have nas2:∀c∈as2,c≠l/\c≠x:=fun c hc=>⟨Bd (has2 c hc) hl6,Bd (has2 c hc) hx6⟩
   refine ⟨b.length-c8.at_,by have:=R8.inn.2;omega,c8,pre++[y],ps++[q],as++as2,f,rfl,R8.upd nl.1 nl.2,(M6.trans M8).ext hl0,by rw[Ae,List.map_append];rfl,?_,fun c hc=>?_,fun z hz=>?_,rfl,by simp;omega,by simp;omega,?_⟩
   ·refine ⟨by simp[hT6.1],fun i p z h1 h2=>?_⟩
    by_cases hi:i<ps.length
    ·rw[List.getElem?_append_left hi] at h1
     rw[List.getElem?_append_left (by rw[<-hT6.1];exact hi)] at h2
     refine (hT6.2 i p z h1 h2).mono (fun c hc=>List.mem_append_left _ hc) fun c hc o zz=>?_
     rw[Ai (has c hc).2.1]
     exact M8 _ _ zz (by simpa using (has c hc).2.2)
    ·rw[List.getElem?_append_right (by omega)] at h1
     rw[List.getElem?_append_right (by rw[<-hT6.1];omega),<-hT6.1] at h2
     have hz:i-ps.length=0:=by
      have:=(List.getElem?_eq_some_iff.mp h1).1
      simp at this
      omega
     rw[hz] at h1 h2
     cases h1
     cases h2
     refine hT8.mono (fun c hc=>List.mem_append_right _ hc) fun c hc o zz=>?_
     rw[Ai (nas2 c hc).1]
     exact zz
   ·rcases List.mem_append.mp hc with hc|hc
    ·exact has c hc
    ·exact ⟨(M6.drop hxn N0).none (by simp) (has2 c hc),nas2 c hc⟩
   ·rcases List.mem_append.mp hz with hz|hz
    ·exact hpr z hz
    ·rw[List.mem_singleton] at hz;rw[hz];exact hpy
   ·rw[e7,e8]
    rfl
end
end Td
namespace Td
open PySem PySem.Spec PyProof.Rows L2
open Tide (Bytes Cur lit some_ someDigits nameIn isDigit isLetter nextIs decimal pointed plainNumber blank number termIn behind terms sumIn mays partsIn turnIn lineIn linesIn Term Part Line LF ascii)
section
variable {P:Program}{w:World}{K:PySem.W.Frag}{mg:Str->Option Value}{base:Heap}{a:Ad}
noncomputable def Vo (a:Ad):Sp:=fun vs H Q _=>∃p dx v0 v1 v2,vs=[.ref p,v0,v1,v2]/\H p=some (.ins a.Cte dx [])/\∀H',H' p=some (.ins a.Cte dx [("times",v0),("name",v1),("place",v2)])->Mv [p] H H'->Q .non H'
theorem UK (T:Txt K mg a):Rx P w K mg base a 1 a.Cte "Term" Nk (Vo a):=by
 refine Gp (k:=0) T.gM Vi (fun _=>(fun _ _ _ _ _ _=>Xt fun _ _ _ _=>rfl)) (fun _ _ _ _=>Oh fun _ _ _ _ _=>rfl) (fun q f cdv A outer s H vs Q E hr h=>?_)
 ·obtain ⟨p,dx,v0,v1,v2,rfl,hp,k⟩:=h
  refine ⟨_,(Ab (Br (pv 0) (pv 1) rfl) (Ab (Br (pv 0) (pv 2) rfl) (Af (Br (pv 0) (pv 3) rfl)))),?_⟩
  refine ⟨_,rfl,_,rfl,Aw p a.Cte dx _ ⟨ rfl,hp,T.Fo,T.Gu,(by show 0<1000;decide),?_⟩⟩
  refine ⟨_,rfl,_,rfl,Aw p a.Cte dx _ ⟨ rfl,Ae,T.Fo,T.HM,(by show 1<1000;decide),?_⟩⟩
  refine ⟨_,rfl,_,rfl,Aw p a.Cte dx _ ⟨ rfl,Ae,T.Fo,T.La,(by show 2<1000;decide),?_⟩⟩
  exact k _ Ae (fun c o e n=>by rw[Ai (by simpa using n),Ai (by simpa using n),Ai (by simpa using n)];exact e)
noncomputable def fo (a:Ad):Sp:=fun vs H Q _=>∃p dx v0 v1,vs=[.ref p,v0,v1]/\H p=some (.ins a.Cpa dx [])/\∀H',H' p=some (.ins a.Cpa dx [("number",v0),("terms",v1)])->Mv [p] H H'->Q .non H'
theorem UJ (T:Txt K mg a):Rx P w K mg base a 1 a.Cpa "Part" Nj (fo a):=by
 refine Gp (k:=0) T.gL Vh (fun _=>(fun _ _ _ _ _ _=>JS fun _ _ _=>rfl)) (fun _ _ _ _=>IZ fun _ _ _ _=>rfl) (fun q f cdv A outer s H vs Q E hr h=>?_)
 ·obtain ⟨p,dx,v0,v1,rfl,hp,k⟩:=h
  refine ⟨_,(Ab (Br (pv 0) (pv 1) rfl) (Af (Br (pv 0) (pv 2) rfl))),?_⟩
  refine ⟨_,rfl,_,rfl,Aw p a.Cpa dx _ ⟨ rfl,hp,T.KC,T.Jk,(by show 0<1000;decide),?_⟩⟩
  refine ⟨_,rfl,_,rfl,Aw p a.Cpa dx _ ⟨ rfl,Ae,T.KC,T.Gs,(by show 1<1000;decide),?_⟩⟩
  exact k _ Ae (fun c o e n=>by rw[Ai (by simpa using n),Ai (by simpa using n)];exact e)
theorem Yo (neg:Bool) (e:Cur) (k m:Nat):(do
  let (d,c) <-someDigits 3 e
  let (f,c) <-(if nextIs (fun (x:UInt8)=>x==46) c=true then someDigits m c.on else .ok ([],c))
  let v:Nat:=decimal d*k+decimal f*10^(m-f.length)
  return (if neg=true then -(v:Int) else (v:Int),c):Except Nat (Int×Cur))=(do
  let (d,c) <-someDigits 3 e
  let (f,c) <-(if nextIs (fun (x:UInt8)=>x==46) c=true then someDigits m c.on else .ok ([],c))
  return (decimal d*k+decimal f*10^(m-f.length),c):Except Nat (Nat×Cur)).map (fun q=>(if neg=true then -(q.1:Int) else (q.1:Int),q.2)):=by
 cases someDigits 3 e with
 |error p=>rfl
 |ok q=>
  obtain ⟨d,c1⟩:=q
  simp only [bind,Except.bind]
  cases (if nextIs (fun (x:UInt8)=>x==46) c1=true then someDigits m c1.on else Except.ok ([],c1)) with
  |error p=>rfl
  |ok q=>rfl
theorem Yp (c:Cur):number c=(pointed 3 12 (if nextIs (fun (x:UInt8)=>x==45) c=true then c.on else c)).map (fun q=>(if nextIs (fun (x:UInt8)=>x==45) c=true then -(q.1:Int) else (q.1:Int),q.2)):=by
 unfold number pointed
 exact Yo _ _ (10^12) 12
theorem SX (c:Cur):number c=if c.next=some 45 then (pointed 3 12 c.on).map (fun q=>(-(q.1:Int),q.2)) else (pointed 3 12 c).map (fun q=>((q.1:Int),q.2)):=by
 rw[Yp]
 by_cases h:c.next=some 45
 ·have hn:nextIs (fun (x:UInt8)=>x==45) c=true:=by unfold nextIs;rw[h];rfl
  rw[if_pos h]
  simp only [hn,if_true]
 ·have hn:nextIs (fun (x:UInt8)=>x==45) c=false:=by
   unfold nextIs
   cases q:c.next with
   |none=>rfl
   |some y=>exact beq_eq_false_iff_ne.mpr fun z=>h (by rw[q,z])
  rw[if_neg h]
  simp only [hn,Bool.false_eq_true,if_false]
noncomputable def aK (a:Ad):Sp:=fun vs H Q E=>∃x t b c,vs=[.ref x]/\Rdr a H x t b c/\Tk a [] H x t b Q E (number c) fun y v _=>v = .int y
theorem ET (T:Txt K mg a):Cal P w K mg base a 5 "read_number" Jv (aK a):=by
 refine AF (k:=4) T.RK Rf (fun _ _ _ _ _ _=>CC fun _=>rfl) (fun _ _ _ _=>IZ fun _ _ _ _=>rfl) (fun f cdv A outer s H vs Q E hr h=>?_)
 ·obtain ⟨x,t,b,c,rfl,R,kO,kE⟩:=h
  refine ⟨_,(Ab (AS (Bt (AE (Bg T) T.Aj hr Ak (pv 0) (Aa AH Ac))) (Ab (AJ (AE (As T) T.Aj hr Ak (pv 0) (Aa AH Ac))) (Af (Ap (WL Rr (AE (Cq T) T.Aj hr Ak (pv 0) (Aa (Ay T.GQ) (Aa (Ay T.Dr) Ac))))))) Ax) (Af (Ap (AE (Cq T) T.Aj hr Ak (pv 0) (Aa (Ay T.GQ) (Aa (Ay T.Dr) Ac)))))),?_⟩
  rw[SX] at kO kE
  obtain ⟨dx,hx⟩:=R.ins
  refine ⟨_,rfl,AN x dx _ ⟨ rfl,hx,rfl,Aw x t b c ⟨ 45,rfl,R,_,rfl,?_⟩⟩⟩
  by_cases hq:c.next=some 45
  ·rw[show decide (nx c=((45:Nat):Int))=true from decide_eq_true (Dp (y:=45).mpr hq)]
   rw[if_pos hq] at kO kE
   have hlit:lit [45] c = .ok c.on:=by rw[lit,if_pos hq,lit]
   refine Bx ⟨_,rfl,AN x dx _ ⟨ rfl,hx,rfl,AA x t b c _ ⟨ [45],rfl,rfl,R,fun c2 e2 H2 R2 M2=>?_,fun p e2 d2 H2 M2 hF=>by rw[hlit] at e2;cases e2⟩⟩⟩
   rw[hlit] at e2
   cases e2
   obtain ⟨dx2,hx2⟩:=R2.ins
   refine ⟨_,rfl,AN x dx2 _ ⟨ rfl,hx2,rfl,AN x t b ⟨ c.on,3,12,rfl,by decide,by decide,by decide,R2,fun y c3 e3 v H3 R3 M3 hv=>?_,fun p e3 d2 H3 M3 hF=>kE p (by rw[e3];rfl) _ _ (M2.trans M3) hF⟩⟩⟩
   subst hv
   exact ⟨_,rfl,kO _ c3 (by rw[e3];rfl) _ _ R3 (M2.trans M3) rfl⟩
  ·rw[show decide (nx c=((45:Nat):Int))=false from decide_eq_false fun z=>hq (Dp (y:=45).mp z)]
   rw[if_neg hq] at kO kE
   refine Bw ⟨_,rfl,AN x dx _ ⟨ rfl,hx,rfl,Aw x t b c ⟨ 3,12,rfl,by decide,by decide,by decide,R,fun y c3 e3 v H3 R3 M3 hv=>?_,fun p e3 d2 H3 M3 hF=>kE p (by rw[e3];rfl) _ _ M3 hF⟩⟩⟩
   exact kO _ c3 (by rw[e3];rfl) _ _ R3 M3 hv
noncomputable def countIn (c:Cur):Except Nat (Nat×Cur):=do
 let (k,e) <-plainNumber false 1 c
 if k=1/\nextIs (fun y=>decide (48<=y.toNat)&&decide (y.toNat<=53)) e=true then return (10+decimal (some_ isDigit 1 e).1,e.on) else return (k,e)
theorem Zn {c:Cur}{y:UInt8} (h:c.next=some y) (hd:isDigit y=true):some_ isDigit 1 c=([y],c.on):=by rw[Gf h hd];rfl
theorem aT (mi:Bool) (c:Cur):termIn mi c=(do
  let (k,c) <-(if nextIs isDigit c=true then do
    let (k,e) <-countIn c
    let e <-blank e
    return (k,e)
   else .ok (1,c):Except Nat (Nat×Cur))
  let (n,e) <-nameIn c
  return (⟨mi,k,n,c.at_⟩,e)):=by
 unfold termIn
 cases q:c.next with
 |none=>
  have h1:∀p:UInt8->Bool,nextIs p c=false:=fun p=>by unfold nextIs;rw[q]
  simp only [h1,Bool.false_eq_true,if_false]
 |some y=>
  have h1:∀p:UInt8->Bool,nextIs p c=p y:=fun p=>by unfold nextIs;rw[q]
  simp only [h1]
  by_cases hd:isDigit y=true
  ·have hd':=Dl.mp hd
   by_cases h0:y.toNat=48
   ·have hy:y=48:=UInt8.toNat_inj.mp h0
    have hc:countIn c = .error c.at_:=by unfold countIn;rw[QQ (by rw[q,hy])];rfl
    rw[hd,hc,show (decide (49<=y.toNat)&&decide (y.toNat<=57))=false by rw[h0];rfl]
    have hn:nameIn c = .error c.at_:=by
     unfold nameIn
     rw[h1,show isLetter y=false by rw[hy];decide]
     rfl
    show (nameIn c >>= _)=_
    rw[hn]
    rfl
   ·have hy:¬y=48:=fun z=>h0 (by rw[z];rfl)
    rw[hd,show (decide (49<=y.toNat)&&decide (y.toNat<=57))=true by rw[decide_eq_true (show 49<=y.toNat by omega),decide_eq_true (show y.toNat<=57 by omega)];rfl]
    simp only [if_true]
    have hs:=Zn q hd
    have hc:countIn c=(if y.toNat=49/\nextIs (fun y=>decide (48<=y.toNat)&&decide (y.toNat<=53)) c.on=true then .ok (10+decimal (some_ isDigit 1 c.on).1,c.on.on) else .ok (y.toNat-48,c.on)):=by
     unfold countIn
     rw[Kh (by rw[q];exact fun z=>hy (Option.some.inj z))]
     unfold someDigits
     rw[h1,hd,hs]
     have hdec:decimal [y]=y.toNat-48:=by unfold decimal;simp
     show (if decimal [y]=1/\_ then _ else _)=_
     rw[hdec]
     by_cases h49:y.toNat=49
     ·by_cases hx:nextIs (fun y=>decide (48<=y.toNat)&&decide (y.toNat<=53)) c.on=true
      ·rw[if_pos ⟨by omega,hx⟩,if_pos ⟨h49,hx⟩]
       rfl
      ·rw[if_neg (fun z=>hx z.2),if_neg (fun z=>hx z.2)]
       rfl
     ·rw[if_neg (fun z=>h49 (by omega)),if_neg (fun z=>h49 z.1)]
      rfl
    rw[hc,hs]
    have hyb:(y==49)=decide (y.toNat=49):=by
     by_cases z:y=49
     ·rw[z];rfl
     ·rw[beq_eq_false_iff_ne.mpr z,decide_eq_false (show ¬y.toNat=49 from fun w=>z (UInt8.toNat_inj.mp w))]
    simp only [hyb,decide_eq_true_eq]
    by_cases hcond:y.toNat=49/\nextIs (fun y=>decide (48<=y.toNat)&&decide (y.toNat<=53)) c.on=true
    ·rw[if_pos hcond,if_pos hcond]
     obtain ⟨z,hz,hz2⟩:=Bz hcond.2
     have hzz:48<=z.toNat/\z.toNat<=53:=by
      rw[Bool.and_eq_true] at hz2
      exact ⟨of_decide_eq_true hz2.1,of_decide_eq_true hz2.2⟩
     rw[Zn hz (Dl.mpr (by omega))]
     have e1:decimal ([y]++[z])=10+decimal [z]:=by unfold decimal;simp;omega
     show ((blank c.on.on >>= _) >>= _)=((blank c.on.on >>= _) >>= _)
     cases blank c.on.on with
     |error p=>rfl
     |ok d=>
      show (nameIn d >>= _)=(nameIn d >>= _)
      rw[e1]
    ·rw[if_neg hcond,if_neg hcond]
     have e1:decimal ([y]++[])=y.toNat-48:=by unfold decimal;simp
     show ((blank c.on >>= _) >>= _)=((blank c.on >>= _) >>= _)
     cases blank c.on with
     |error p=>rfl
     |ok d=>
      show (nameIn d >>= _)=(nameIn d >>= _)
      rw[e1]
  ·have hd2:isDigit y=false:=Bool.eq_false_iff.mpr hd
   have hd3:(decide (49<=y.toNat)&&decide (y.toNat<=57))=false:=by
    rw[Bool.and_eq_false_iff]
    unfold isDigit at hd2
    rw[Bool.and_eq_false_iff] at hd2
    rcases hd2 with z|z
    ·exact .inl (decide_eq_false (by have:=of_decide_eq_false z;omega))
    ·exact .inr z
   rw[hd2,hd3]
   rfl
end
end Td
namespace Td
open PySem PySem.Spec PyProof.Rows L2
open Tide (Bytes Cur lit some_ someDigits nameIn isDigit isLetter nextIs decimal pointed plainNumber blank number termIn behind terms sumIn mays partsIn turnIn lineIn linesIn Term Part Line LF ascii)
section
variable {P:Program}{w:World}{K:PySem.W.Frag}{mg:Str->Option Value}{base:Heap}{a:Ad}
noncomputable def cX (a:Ad):Sp:=fun vs H Q E=>∃x t b c,vs=[.ref x]/\Rdr a H x t b c/\Tk a [] H x t b Q E (countIn c) fun y v _=>v = .int y
theorem Sg (T:Txt K mg a):Cal P w K mg base a 5 "read_count" Lq (cX a):=by
 refine AF (k:=4) T.Uh DW (fun _ _ _ _ _ _=>CC fun _=>rfl) (fun _ _ _ _=>IZ fun _ _ _ _=>rfl) (fun f cdv A outer s H vs Q E hr h=>?_)
 ·obtain ⟨x,t,b,c,rfl,R,kO,kE⟩:=h
  refine ⟨_,(Ab (Al (i:=1) DW.nd rfl (Or.inl rfl) (AE (Bk T) T.Aj hr Ak (pv 0) (Aa Ao Ac))) (Ab (AS (PW.pt (MB (Av BA (pv 1) Ao (AB _)) (IV (WQ GX GX (AD CG rfl T.Hy boot_ord (Aa AH Ac)) (BZ (Bo T) T.Aj hr Ak (pv 0)) (AD CG rfl T.Hy boot_ord (Aa AH Ac)))))) (Ab (Al (i:=2) DW.nd rfl (Or.inl rfl) (AE (BN T) T.Aj hr Ak (pv 0) (Aa Ao Ac))) (Af (Al (i:=1) DW.nd rfl (Or.inl rfl) (Az CU Ao (Be Bs (pv 2) Ao (fun _ _=>rfl)))))) Ax) (Af (Ap (pv 1))))),?_⟩
  obtain ⟨dx,hx⟩:=R.ins
  refine ⟨_,rfl,AN x dx _ ⟨ rfl,hx,rfl,Aw x t b c ⟨ 1,rfl,by decide,by decide,R,fun k e e1 v H1 R1 M1 hv=>?_,fun p e d2 H2 M2 hF=>kE p (by unfold countIn;rw[e];rfl) _ _ M2 hF⟩⟩⟩
  subst hv
  have hc:countIn c=if k=1/\nextIs (fun y=>decide (48<=y.toNat)&&decide (y.toNat<=53)) e=true then .ok (10+decimal (some_ isDigit 1 e).1,e.on) else .ok (k,e):=by unfold countIn;rw[e1];rfl
  rw[hc] at kO kE
  obtain ⟨dx1,hx1⟩:=R1.ins
  refine ⟨_,rfl,rfl,_,rfl,?_⟩
  rw[dV]
  by_cases hk:k=1
  ·refine Bn (fun _=>?_) (fun z=>absurd (decide_eq_true (show ((k:Nat):Int)=1 by omega)) z)
   refine ⟨_,rfl,rfl,_,rfl,AN x dx1 _ ⟨ rfl,hx1,rfl,Aw x t b e ⟨ rfl,R1,Aq _ _ ⟨ rfl,rfl,_,rfl,?_⟩⟩⟩⟩
   have hnx:nextIs (fun y=>decide (48<=y.toNat)&&decide (y.toNat<=53)) e=(decide (48<=nx e)&&decide (nx e<=53)):=by
    unfold nextIs nx
    cases e.next with
    |none=>rfl
    |some y=>
     simp only
     congr 1<;>exact decide_eq_decide.mpr (by omega)
   rw[hnx] at kO kE
   have no:¬(decide (48<=nx e)&&decide (nx e<=53))=true->Q (.int k) H1:=fun z=>kO k e (if_neg fun w=>z w.2) _ _ R1 M1 rfl
   refine Bn (fun h1=>?_) (fun h1=>?_)
   ·refine ⟨_,rfl,rfl,Aq _ _ ⟨ rfl,rfl,_,rfl,?_⟩⟩
    refine Bn (fun h2=>?_) (fun h2=>?_)
    ·have hb:48<=nx e/\nx e<=53:=⟨of_decide_eq_true h1,of_decide_eq_true h2⟩
     obtain ⟨y,hy⟩:∃y,e.next=some y:=by
      cases q:e.next with
      |none=>rw[Qo.mpr q] at hb;omega
      |some y=>exact ⟨y,rfl⟩
     have hyn:nx e=(y.toNat:Int):=Dp.mpr hy
     have hyd:isDigit y=true:=Dl.mpr (by omega)
     have hsd:someDigits 1 e = .ok ([y],e.on):=by
      unfold someDigits
      rw[show nextIs isDigit e=true by unfold nextIs;rw[hy];exact hyd,Zn hy hyd]
      rfl
     refine ⟨_,rfl,AN x dx1 _ ⟨ rfl,hx1,rfl,Aw x t b e ⟨ 1,rfl,by decide,by decide,R1,fun d c2 e2 v H2 R2 M2 hv=>?_,fun p e2 d2 H2 M2 hF=>by rw[hsd] at e2;cases e2⟩⟩⟩
     rw[hsd] at e2
     cases e2
     obtain ⟨p,rfl,hp0,npx,npt,hp⟩:=hv
     refine ⟨_,rfl,Aw p _ _ _ ⟨ rfl,rfl,SqL.of hp,AK (j:=0) rfl,Aq _ _ ⟨ rfl,rfl,?_⟩⟩⟩
     refine ⟨_,rfl,?_⟩
     refine kO _ e.on (if_pos ⟨hk,by rw[decide_eq_true hb.1,decide_eq_true hb.2];rfl⟩) _ _ R2 (M1.trans M2) ?_
     rw[Zn hy hyd]
     show V.int (10+CN y)=V.int ((10+decimal [y]:Nat):Int)
     unfold CN decimal
     simp
     omega
    ·exact ⟨_,rfl,no fun z=>h2 (by rw[Bool.and_eq_true] at z;exact z.2)⟩
   ·exact ⟨_,rfl,Bw ⟨_,rfl,no fun z=>h1 (by rw[Bool.and_eq_true] at z;exact z.1)⟩⟩
  ·refine Bn (fun z=>absurd (of_decide_eq_true z) (by omega)) (fun _=>Bw ⟨_,rfl,?_⟩)
   exact kO k e (if_neg fun z=>hk z.1) _ _ R1 M1 rfl
noncomputable def Xr (a:Ad) (as:List Addr) (H:Hp) (p:Addr) (y:Term):Prop:=∃dx pn,H p=some (.ins a.Cte dx [("times",.int y.times),("name",.ref pn),("place",.int y.at_)])/\H pn=some (.tup (bV y.name))/\p∈as/\pn∈as
theorem Xr.mono {as as':List Addr}{H H':Hp}{p:Addr}{y:Term} (h:Xr a as H p y) (s:∀c∈as,c∈as') (k:∀c∈as,∀o,H c=some o->H' c=some o):Xr a as' H' p y:=by
 obtain ⟨dx,pn,h1,h2,m1,m2⟩:=h
 exact ⟨dx,pn,k _ m1 _ h1,k _ m2 _ h2,s _ m1,s _ m2⟩
noncomputable def sgn (mi:Bool):Str:=if mi=true then "- " else "+ "
noncomputable def Zp (a:Ad):Sp:=fun vs H Q E=>∃x t b c mi,vs=[.ref x,.str (sgn mi)]/\Rdr a H x t b c/\Tk a [] H x t b Q E (termIn mi c) fun y v H'=>∃p as,v = .ref p/\(∀c∈as,H c=none)/\Xr a as H' p y
theorem aA (mi:Bool):decide (V.str (sgn mi)=V.str "- ")=mi:=by cases mi<;>decide +kernel
theorem UR (T:Txt K mg a):Cal P w K mg base a 6 "read_term" Nz (Zp a):=by
 refine AF (k:=5) T.VX Dz (fun _ _ _ _ _ _=>Fh fun _ _=>rfl) (fun _ _ _ _=>Oh fun _ _ _ _ _=>rfl) (fun f cdv A outer s H vs Q E hr h=>?_)
 ·obtain ⟨x,t,b,c,mi,rfl,R,kO,kE⟩:=h
  refine ⟨_,(Ab (Al (i:=2) Dz.nd rfl (Or.inl rfl) Ao) (Ab (AS (Bt (Ar (HQ T) hr Ak (Aa (BZ (Bo T) T.Aj hr Ak (pv 0)) Ac))) (Ab (Al (i:=2) Dz.nd rfl (Or.inl rfl) (Ar (Sg T) hr Ak (Aa (pv 0) Ac))) (Af (AJ (AE (As T) T.Aj hr Ak (pv 0) (Aa AH Ac))))) Ax) (Ab (AS (Av BA (pv 1) (BP T.OI) (AB _)) (Af (Al (i:=2) Dz.nd rfl (Or.inl rfl) (WL Rr (pv 2)))) Ax) (Ab (Al (i:=3) Dz.nd rfl (Or.inl rfl) (Au (pv 0) rfl)) (Af (Ap (Gx (UK T) hr Ak (Aa (pv 2) (Aa (BZ (CS T) T.Aj hr Ak (pv 0)) (Aa (pv 3) Ac)))))))))),?_⟩
  obtain ⟨dx,hx⟩:=R.ins
  rw[aT] at kO kE
  have rest:∀(k:Nat) (c1:Cur) (H1:Hp),Rdr a H1 x t b c1->Mv [x] H H1->(∀y d,(nameIn c1 >>= fun q=>pure (⟨mi,k,q.1,c1.at_⟩,q.2):Except Nat (Term×Cur)) = .ok (y,d)->∀(v:V) (H':Hp),Rdr a H' x t b d->Mv [x] H H'->(∃p as,v = .ref p/\(∀c∈as,H c=none)/\Xr a as H' p y)->Q v H') ->
    (∀p,(nameIn c1 >>= fun q=>pure (⟨mi,k,q.1,c1.at_⟩,q.2):Except Nat (Term×Cur)) = .error p->∀dx H',Mv [x] H H'->Flt H' dx 1 p->E (.ref a.CF) (some dx) H') ->
    Kl (YE (Eh (tOp rEq (AW 1) (tC (.str "- ")))) (Rl (tUn (rU fun i=>.int (-i)) (AW 2)) (FQ 2)) NX) (Kl (Rl (Gh K (AW 0) "place") (FQ 3)) (MI (Tq a.Cte (Vo a) [] E (AL (AW 2) (AL (Hr a.CR "take_name" (Ri a) [] E (AW 0) BQ) (AL (AW 3) BQ))))))
     { nx:=fun _ H'=>Q .non H',rt:=Q } [some (.ref x),some (.str (sgn mi)),some (.int k),none] H1:=by
   intro k c1 H1 R1 M1 kO kE
   have last:∀z:Int,z=(if mi=true then -(k:Int) else (k:Int))->Kl (Rl (Gh K (AW 0) "place") (FQ 3)) (MI (Tq a.Cte (Vo a) [] E (AL (AW 2) (AL (Hr a.CR "take_name" (Ri a) [] E (AW 0) BQ) (AL (AW 3) BQ)))))
     { nx:=fun _ H'=>Q .non H',rt:=Q } [some (.ref x),some (.str (sgn mi)),some (.int z),none] H1:=by
    intro z hz
    obtain ⟨dx1,hx1⟩:=R1.ins
    refine ⟨_,rfl,AA x a.CR dx1 _ _ ⟨ rfl,hx1,T.Aj,T.AG,rfl,?_⟩⟩
    refine ⟨_,rfl,_,rfl,AN x dx1 _ ⟨ rfl,hx1,rfl,Aw x t b c1 ⟨ rfl,R1,fun n c2 e2 v H2 R2 M2 hv=>?_,fun p e d2 H2 M2 hF=>kE p (by rw[e];rfl) _ _ (M1.trans M2) hF⟩⟩⟩
    obtain ⟨pn,rfl,hpn0,hpn⟩:=hv
    refine ⟨_,rfl,fun q dq hq hdq ne=>?_⟩
    refine (AA q dq _ _ _ ⟨ rfl,Ae,fun H8 hq8 M8=>⟨rfl,?_⟩⟩)
    have old:∀{c:Addr}{o:HO},H2 c=some o->H8 c=some o:=fun {c o} e=>M8 c o (DX hq hdq e) (by simpa using An e hq)
    have M12:=M1.trans M2
    have hQ:H q=none:=M12.none (by simpa using (R2.new hq).1) hq
    have hP:H pn=none:=M1.none (by simpa using (R1.new hpn0).1) hpn0
    refine kO ⟨mi,k,n,c1.at_⟩ c2 (by rw[e2];rfl) _ _ (R2.keep (fun o e=>old e) fun o e=>old e) (fun c o e n=>old (M12 c o e n)) ⟨q,[q,pn],rfl,fun c hc=>?_,Aq dq pn ⟨ ?_,old hpn,by simp,by simp⟩⟩
    ·rcases List.mem_cons.mp hc with rfl|hc
     ·exact hQ
     ·rw[List.mem_singleton] at hc;rw[hc];exact hP
    ·rw[hq8]
     unfold Tide.Term.times
     rw[hz]
   refine ⟨_,rfl,rfl,_,rfl,?_⟩
   rw[aA]
   cases mi with
   |true=>exact Bx ⟨_,rfl,_,rfl,last _ rfl⟩
   |false=>exact Bw (last _ rfl)
  refine ⟨_,rfl,AN x dx _ ⟨ rfl,hx,rfl,Aw x t b c ⟨ rfl,R,_,rfl,_,rfl,?_⟩⟩⟩
  rw[nd]
  cases hq:nextIs isDigit c with
  |false=>
   rw[hq] at kO kE
   exact Bw (rest 1 c H R Mv.refl (fun y d h=>kO y d h) fun p h=>kE p h)
  |true=>
   rw[hq] at kO kE
   refine Bx ⟨_,rfl,Aw x t b c ⟨ rfl,R,fun k c1 e1 v H1 R1 M1 hv=>?_,fun p e d2 H2 M2 hF=>kE p (by show ((countIn c >>= _) >>= _)=_;rw[e];rfl) _ _ M2 hF⟩⟩
   subst hv
   obtain ⟨dx1,hx1⟩:=R1.ins
   refine ⟨_,rfl,AN x dx1 _ ⟨ rfl,hx1,rfl,AA x t b c1 _ ⟨ [32],rfl,rfl,R1,fun c2 e2 H2 R2 M2=>?_,fun p e d2 H2 M2 hF=>kE p (by show ((countIn c >>= _) >>= _)=_;rw[e1];show ((lit [32] c1 >>= _) >>= _)=_;rw[e];rfl) _ _ (M1.trans M2) hF⟩⟩⟩
   refine rest k c2 H2 R2 (M1.trans M2) (fun y d h=>kO y d ?_) fun p h=>kE p ?_
   ·show ((countIn c >>= _) >>= _)=_
    rw[e1]
    show ((lit [32] c1 >>= _) >>= _)=_
    rw[e2]
    exact h
   ·show ((countIn c >>= _) >>= _)=_
    rw[e1]
    show ((lit [32] c1 >>= _) >>= _)=_
    rw[e2]
    exact h
end
end Td
namespace L2
open PySem PySem.Spec PyProof.Rows
section
variable {X:Cx}
noncomputable def cI:R2:=fun x y H Q=>∃a b xs ys,x = .ref a/\y = .ref b/\H a=some (.tup xs)/\H b=some (.tup ys)/\xs.length+ys.length<=sizeLine /\
 ∀p H',H' p=some (.tup (xs++ys))->(∀c o,H c=some o->H' c=some o)->Q (.ref p) H'
theorem Zi:OpR X (binaryOp .Add) cI:=by
 intro pins s σ H x y v u Q I rx ry h
 obtain ⟨a,b,xs,ys,rfl,rfl,ha,hb,hz,q⟩:=h
 cases rx
 cases ry
 obtain ⟨its,r1,p1,_⟩:=I.tuple (SqT.of ha)
 obtain ⟨its2,r2,p2,_⟩:=I.tuple (SqT.of hb)
 obtain ⟨m,Fm⟩:=I.fr
 have hz':its.length+its2.length<=sizeLine:=by rw[<-r1.length,<-r2.length];exact hz
 by_cases hx:xs=[]
 ·subst hx
  exact PyProof.Rows.add_tuples (news:=[]) Fm (fun p hp=>absurd hp (by simp)) p1 p2 (fun _=>⟨.ref b,H,I,rfl,q b H (by simpa using hb) fun _ _ z=>z⟩) (fun z=>absurd (r1.OL.mpr rfl) z) (fun z=>absurd (r1.OL.mpr rfl) z) hz'
 ·refine HT.ei p1 p2 (fun z=>hx (r1.OL.mp z)) (fun z=>⟨.ref a,H,I,rfl,q a H (by rw[r2.OL.mp z,List.append_nil];exact ha) fun _ _ z=>z⟩) (fun z=>?_) hz'
  refine ⟨.ref s.heap.objs.size,_,I.laid (t':=s.toks) (o:=.tup (xs++ys)) (fun b ob q=>Heap.get?_push_of_some _ q) (Nat.le_refl _) ?_,rfl,q _ _ Ae fun c o z=>?_⟩
  ·exact ⟨by rw[List.length_append];exact hz,_,r1.append r2,IsTup.new _ _⟩
  ·rw[Ai (An z (I.hok.fresh (Nat.le_refl _)))];exact z
end
end L2
namespace Td
open PySem PySem.Spec PyProof.Rows L2
open Tide (Bytes Cur lit some_ someDigits nameIn isDigit isLetter nextIs decimal pointed plainNumber blank number termIn behind terms sumIn mays partsIn turnIn lineIn linesIn Term Part Line LF ascii)
noncomputable def JN (x:UInt8):Bytes:=if x=43\/x=45 then [32] else if x=116 then ascii "urn " else if x=102 then ascii "actor " else ascii "hift "
noncomputable def Jd (x:UInt8):Str:=if x=43 then "+ " else if x=45 then "- " else if x=116 then "turn " else if x=102 then "factor " else "shift "
noncomputable def wd (x:UInt8):Str×Bytes:=(Jd x,x::JN x)
noncomputable def isW (x:UInt8):Prop:=x=43\/x=45\/x=116\/x=102\/x=115
theorem Zy {x:UInt8} (h:isW x):Ba (wd x).1 (wd x).2/\(wd x).2≠[]/\(wd x).2.length<=100:=by
 refine ⟨?_,by unfold wd;simp,?_⟩
 ·rcases h with rfl|rfl|rfl|rfl|rfl<;>(show codes _=_;decide +kernel)
 ·rcases h with rfl|rfl|rfl|rfl|rfl<;>decide +kernel
theorem words_of {L:Bytes} (h:∀x∈L,isW x):Words (L.map wd):=fun q hq=>by
 obtain ⟨x,hx,rfl⟩:=List.mem_map.mp hq
 exact Zy (h x hx)
noncomputable def KS:Option UInt8->Str
 |none=>Str.empty
 |some x=>Jd x
noncomputable def Cb (k:Option UInt8) (c:Cur):Except Nat Cur:=match k with
 |none=>.ok c
 |some x=>lit (JN x) c
theorem SE (d:Cur):∀L:Bytes,choice (L.map wd) d=match d.next with
  |some x=>if L.contains x=true then (lit (JN x) d.on).map fun e=>(Jd x,e) else .error d.at_
  |none=>.error d.at_
 |[]=>by cases h:d.next<;>simp[choice,h]
 |y::L=>by
  have ih:=SE d L
  cases h:d.next with
  |none=>
   rw[h] at ih
   rw[List.map_cons]
   show choice ((Jd y,y::JN y)::L.map wd) d=_
   rw[BU (by rw[h];simp),ih]
  |some x=>
   rw[h] at ih
   rw[List.map_cons]
   show choice ((Jd y,y::JN y)::L.map wd) d=_
   by_cases hxy:x=y
   ·subst hxy
    rw[Ca h,lit,if_pos h]
    simp
   ·rw[BU (by rw[h];simpa using hxy),ih]
    have:(y::L).contains x=L.contains x:=by
     rw[List.contains_cons,beq_eq_false_iff_ne.mpr hxy]
     simp
    simp only [this]
theorem KH (L:Bytes) (c:Cur):MX (L.map wd) c=behind L c >>= fun q=>(Cb q.1 q.2).map fun e=>(KS q.1,e):=by
 unfold MX behind
 by_cases hlf:c.next=some 10
 ·rw[if_pos (.inr hlf),if_pos (show c.next=some LF from hlf),lit,if_pos hlf,lit]
  rfl
 ·rw[if_neg (show ¬c.next=some LF from hlf)]
  cases L with
  |nil=>
   rw[if_pos (.inl rfl),lit,if_neg hlf,if_neg (fun z=>z.2 rfl)]
   rfl
  |cons y L=>
   rw[if_neg (fun z=>z.elim (by simp) hlf),lit]
   by_cases hb:c.next=some 32
   ·rw[if_pos hb,if_pos ⟨hb,by simp⟩,lit]
    show choice ((y::L).map wd) c.on=_
    rw[SE]
    cases h:c.on.next with
    |none=>rfl
    |some x=>
     by_cases hx:(y::L).contains x=true
     ·simp only [hx,if_true]
      rfl
     ·simp only [hx,if_false]
      rfl
   ·rw[if_neg hb,if_neg (fun z=>hb z.1)]
    rfl
noncomputable def EG (may:Bytes) (c:Cur):Except Nat ((List Term×Option UInt8)×Cur):=do
 let (l,k,c) <-sumIn may c
 let c <-Cb k c
 return ((l,k),c)
noncomputable def sumF (may:Bytes) (f:Nat) (mi:Bool) (pre:List Term) (c:Cur):Except Nat ((List Term×Option UInt8)×Cur):=terms may f mi pre c >>= fun q=>Cb q.2.1 q.2.2 >>= fun d=>pure ((q.1,q.2.1),d)
noncomputable def dA (may:Bytes) (f:Nat) (pre:List Term) (k:Option UInt8) (e:Cur):Except Nat ((List Term×Option UInt8)×Cur):=if k=some 43\/k=some 45 then sumF may f (k==some 45) pre e else .ok ((pre,k),e)
theorem aS (may:Bytes) (f:Nat) (mi:Bool) (pre:List Term) (c:Cur):sumF may (f+1) mi pre c=(termIn mi c >>= fun q=>behind (mays (pre.length+1) may) q.2 >>= fun r=>Cb r.1 r.2 >>= fun e=>dA may f (pre++[q.1]) r.1 e):=by
 unfold sumF dA
 rw[terms]
 cases termIn mi c with
 |error p=>rfl
 |ok q=>
  obtain ⟨y,c3⟩:=q
  show ((behind (mays (pre++[y]).length may) c3 >>= _) >>= _)=(behind (mays (pre.length+1) may) c3 >>= _)
  rw[show (pre++[y]).length=pre.length+1 by simp]
  cases behind (mays (pre.length+1) may) c3 with
  |error p=>rfl
  |ok r=>
   obtain ⟨k,d⟩:=r
   show ((if k=some 43\/k=some 45 then _ else _) >>= _)=(Cb k d >>= fun e=>if k=some 43\/k=some 45 then _ else _)
   by_cases hk:k=some 43\/k=some 45
   ·simp only [hk,if_true]
    have he:Cb k d=blank d:=by
     rcases hk with rfl|rfl<;>rfl
    rw[he]
    cases blank d with
    |error p=>rfl
    |ok e=>rfl
   ·simp only [hk,if_false]
    rfl
theorem Zr (may:Bytes) (c:Cur):EG may c=if c.next=some 45 then lit [45,32] c >>= sumF may 8 true [] else sumF may 8 false [] c:=by
 unfold EG sumIn
 by_cases h:c.next=some 45
 ·have hn:nextIs (fun (x:UInt8)=>x==45) c=true:=by unfold nextIs;rw[h];rfl
  rw[if_pos h,hn,lit,if_pos h]
  show (((if true=true then blank c.on else .ok c) >>= _) >>= _)=_
  rw[if_pos rfl]
  show ((lit [32] c.on >>= _) >>= _)=(lit [32] c.on >>= _)
  cases lit [32] c.on with
  |error p=>rfl
  |ok d=>rfl
 ·have hn:nextIs (fun (x:UInt8)=>x==45) c=false:=by
   unfold nextIs
   cases q:c.next with
   |none=>rfl
   |some y=>exact beq_eq_false_iff_ne.mpr fun z=>h (by rw[q,z])
  rw[if_neg h,hn]
  rfl
theorem jj {mi:Bool}{σ:L2.St}{H:Hp}{Q:Bool->Hp->Prop} (hs:σ[3]?=some (some (.str (if mi=true then "- " else "+ ")))) (h:Q true H):tOr (Eh (tOp rEq (AW 3) (tC (.str "+ ")))) (Eh (tOp rEq (AW 3) (tC (.str "- ")))) σ H Q:=by
 refine ⟨_,hs,rfl,_,rfl,?_⟩
 cases mi with
 |false=>exact Bn (fun _=>h) fun z=>absurd (by decide +kernel) z
 |true=>exact Bn (fun z=>absurd z (by decide +kernel)) fun _=>⟨_,hs,rfl,_,rfl,h⟩
noncomputable def kOk (k:Option UInt8):Prop:=k=none\/k=some 116\/k=some 102\/k=some 115
theorem ji {k:Option UInt8}{σ:L2.St}{H:Hp}{Q:Bool->Hp->Prop} (hk:kOk k) (hs:σ[3]?=some (some (.str (KS k)))) (h:Q false H):tOr (Eh (tOp rEq (AW 3) (tC (.str "+ ")))) (Eh (tOp rEq (AW 3) (tC (.str "- ")))) σ H Q:=by
 have h1:decide (V.str (KS k)=V.str "+ ")=false:=by rcases hk with rfl|rfl|rfl|rfl<;>decide +kernel
 have h2:decide (V.str (KS k)=V.str "- ")=false:=by rcases hk with rfl|rfl|rfl|rfl<;>decide +kernel
 refine ⟨_,hs,rfl,_,rfl,?_⟩
 rw[h1]
 refine Bw ⟨_,hs,rfl,_,rfl,?_⟩
 rw[h2]
 exact h
noncomputable def BJ (a:Ad) (as:List Addr) (H:Hp) (ps:List Addr) (ys:List Term):Prop:=ps.length=ys.length/\∀(i:Nat) p y,ps[i]?=some p->ys[i]?=some y->Xr a as H p y
section
variable {P:Program}{w:World}{K:PySem.W.Frag}{mg:Str->Option Value}{base:Heap}{a:Ad}
theorem BJ.mono {as as':List Addr}{H H':Hp}{ps:List Addr}{ys:List Term} (h:BJ a as H ps ys) (s:∀c∈as,c∈as') (k:∀c∈as,∀o,H c=some o->H' c=some o):BJ a as' H' ps ys:=⟨h.1,fun i p x h1 h2=>(h.2 i p x h1 h2).mono s k⟩
theorem BJ.nil {as:List Addr}{H:Hp}:BJ a as H [] []:=⟨rfl,fun i p x h=>(by cases h)⟩
theorem BJ.snoc {as:List Addr}{H:Hp}{ps:List Addr}{ys:List Term}{q:Addr}{y:Term} (h:BJ a as H ps ys) (k:Xr a as H q y):BJ a as H (ps++[q]) (ys++[y]):=by
 refine ⟨by simp[h.1],fun i q' y' h1 h2=>?_⟩
 by_cases hi:i<ps.length
 ·rw[List.getElem?_append_left hi] at h1
  rw[List.getElem?_append_left (by rw[<-h.1];exact hi)] at h2
  exact h.2 i q' y' h1 h2
 ·rw[List.getElem?_append_right (by omega)] at h1
  rw[List.getElem?_append_right (by rw[<-h.1];omega),<-h.1] at h2
  have:i-ps.length=0:=by
   have:=(List.getElem?_eq_some_iff.mp h1).1
   simp at this
   omega
  rw[this] at h1 h2
  cases h1
  cases h2
  exact k
noncomputable def WY (a:Ad):Sp:=fun vs H Q E=>∃x t b c pl pb may,vs=[.ref x,.ref pl,.ref pb]/\H pl=some (.lst [])/\pl≠t/\H pb=some (.tup (Cv (may.map wd)))/\(∀y∈may,y=116\/y=102\/y=115)/\may.length<=3/\Rdr a H x t b c /\
 Tk a [pl] H x t b Q E (EG may c) fun y v H'=>v = .str (KS y.2)/\∃ps as,H' pl=some (.lst (ps.map V.ref))/\(∀c∈as,H c=none)/\BJ a as H' ps y.1
noncomputable abbrev jA (K:PySem.W.Frag) (a:Ad) (E:XK):TS:=Kl (MJ (tOr (Eh (tOp rEq (AW 3) (tC (.str "+ ")))) (Eh (tOp rEq (AW 3) (tC (.str "- ")))))
 (Kl (Xb (tBM K "list" Vc (AW 1) (AL (Gg (Zp a) [] E (AL (AW 0) (AL (AW 3) BQ))) BQ)))
  (Kl (Rl (tIf (Eh (tOp (rI0 fun i j=>.bl (decide (i<j))) (tCB (fun xs H Q=>∃p ys,xs=[.ref p]/\(SqL K H p ys\/SqT K H p ys)/\Q (.int ys.length) H) (AL (AW 1) BQ)) (tC (.int 8)))) (YF (AL (tC (.str "+ ")) (AL (tC (.str "- ")) BQ))) (YF BQ)) (FQ 4))
   (Rl (Hr a.CR "take_end_or" (MH K a) [] E (AW 0) (AL (tOp cI (AW 4) (AW 2)) BQ)) (FQ 3))))) (MI (AW 3))
theorem FJ (T:Txt K mg a):Cal P w K mg base a 7 "read_terms" Lu (WY a):=by
 refine AF (k:=6) T.Uk De (fun _ _ _ _ _ _=>JS fun _ _ _=>rfl) (fun _ _ _ _=>Wh fun _ _ _ _ _ _ _=>rfl) (fun f cdv A outer s H vs Q E hr h=>?_)
 ·obtain ⟨x,t,b,c,pl,pb,may,rfl,hpl,nplt,hpb,hmay,hml,R,kO,kE⟩:=h
  refine ⟨_,(Ab (Al (i:=3) De.nd rfl (Or.inl rfl) (BP T.Xu)) (Ab (AS (Bt (AE (Bg T) T.Aj hr Ak (pv 0) (Aa AH Ac))) (Af (Al (i:=3) De.nd rfl (Or.inl rfl) (AE (BM T) T.Aj hr Ak (pv 0) (Aa (CW (Aa (BP T.OI) Ac)) Ac)))) Ax) (Ab (Cs El (PW.pt (Hh (Av BA (pv 3) (BP T.Xu) (AB _)) (EX (Av BA (pv 3) (BP T.OI) (AB _))))) (Ab (AJ (He PySem.F.plainAttrs_list PySem.F.slot_list_append PySem.F.type_list_append CP (pv 1) (Aa (Ar (UR T) hr Ak (Aa (pv 0) (Aa (pv 3) Ac))) Ac))) (Ab (Al (i:=4) De.nd rfl (Or.inl rfl) (Ig (Av GY (AD AQ rfl T.DD boot_len (Aa (pv 1) Ac)) (Ay T.TU) (AB _)) (CW (Aa (BP T.Xu) (Aa (BP T.OI) Ac))) (CW Ac))) (Af (Al (i:=3) De.nd rfl (Or.inl rfl) (AE (DE T) T.Aj hr Ak (pv 0) (Aa (Az Zi (pv 4) (pv 2)) Ac))))))) (Af (Ap (pv 3)))))),?_⟩
  obtain ⟨dx,hx⟩:=R.ins
  have nplx:pl≠x:=CI hpl hx (by intro z;cases z)
  have npb:pb≠pl:=CI hpb hpl (by intro z;cases z)
  have npbx:pb≠x:=CI hpb hx (by intro z;cases z)
  have loop:∀(mi:Bool) (c1:Cur) (H1:Hp),Rdr a H1 x t b c1->Mv [x,pl] H H1->H1 pl=some (.lst [])->EG may c=sumF may 8 mi [] c1->jA K a E { nx:=fun _ H'=>Q .non H',rt:=Q } [some (.ref x),some (.ref pl),some (.ref pb),some (.str (sgn mi)),none] H1:=by
   intro mi c1 H1 R1 M1 hl1 e1
   refine ⟨fun m σ H'=>∃c' pre ps as v4,Rdr a H' x t b c'/\Mv [x,pl] H H'/\H' pl=some (.lst (ps.map V.ref))/\BJ a as H' ps pre/\(∀c∈as,H c=none/\c≠pl/\c≠x) /\
    ((∃mi,σ=[some (.ref x),some (.ref pl),some (.ref pb),some (.str (sgn mi)),v4]/\pre.length<=7/\m=9-pre.length/\EG may c=sumF may (8-pre.length) mi pre c') \/
     (∃k,σ=[some (.ref x),some (.ref pl),some (.ref pb),some (.str (KS k)),v4]/\kOk k/\m=0/\EG may c = .ok ((pre,k),c'))),
    ⟨9,c1,[],[],[],none,R1,M1,hl1,BJ.nil,fun c hc=>(by cases hc),.inl ⟨mi,rfl,Nat.zero_le _,rfl,e1⟩⟩,?_⟩
   rintro m σ H2 ⟨c2,pre,ps,as,v4,R2,M2,hl2,hT2,has,⟨mi2,rfl,hp7,rfl,e2⟩|⟨k,rfl,hk,rfl,e2⟩⟩
   ·refine jj (mi:=mi2) rfl (Bx ⟨fun σ' H'=>_,fun σ' H' z=>z,?_⟩)
    rw[show 8-pre.length=(7-pre.length)+1 by omega,aS] at e2
    refine ⟨_,rfl,.inl ⟨rfl,_,SqL.of hl2⟩,_,rfl,_,rfl,AA x t b c2 mi2 ⟨ rfl,R2,fun y c3 e3 v H3 R3 M3 hv=>?_,fun p e d2 H3 M3 hF=>kE p (by rw[e2,e];rfl) _ _ (M2.trans (M3.mono fun c hc=>by rw[List.mem_singleton] at hc;rw[hc];simp)) hF⟩⟩
    rw[e3] at e2
    replace e2:EG may c=(behind (mays (pre.length+1) may) c3 >>= fun r=>Cb r.1 r.2 >>= fun e=>dA may (7-pre.length) (pre++[y]) r.1 e):=e2
    obtain ⟨q,as2,rfl,has2,hTq⟩:=hv
    have hl3:=M3 _ _ hl2 (by simpa using nplx)
    have hlen:(ps.map V.ref).length=pre.length:=by rw[List.length_map,hT2.1]
    obtain ⟨dx2,hx2⟩:=R2.ins
    have n2:∀c∈as2,c≠pl/\c≠x:=fun c hc=>⟨Bd (has2 c hc) hl2,Bd (has2 c hc) hx2⟩
    have M23:Mv [x,pl] H H3:=M2.trans (M3.mono fun c hc=>by rw[List.mem_singleton] at hc;rw[hc];simp)
    refine (AN pl _ _ ⟨ rfl,rfl,hl3,by rw[hlen];exact Nat.lt_of_le_of_lt hp7 (by decide),?_⟩)
    have R4:=R3.upd (o:=.lst (ps.map V.ref++[.ref q])) nplx nplt
    have M4:Mv [x,pl] H (upd H3 pl (.lst (ps.map V.ref++[.ref q]))):=M23.trans (Mv.at (by simp))
    have hl4:(upd H3 pl (.lst (ps.map V.ref++[.ref q]))) pl=some (.lst ((ps++[q]).map V.ref)):=by rw[Ae,List.map_append];rfl
    have hT4:BJ a (as++as2) (upd H3 pl (.lst (ps.map V.ref++[.ref q]))) (ps++[q]) (pre++[y]):=by
     refine BJ.snoc (hT2.mono (fun c hc=>List.mem_append_left _ hc) fun c hc o z=>?_) (hTq.mono (fun c hc=>List.mem_append_right _ hc) fun c hc o z=>?_)
     ·rw[Ai (has c hc).2.1]
      exact M3 _ _ z (by simpa using (has c hc).2.2)
     ·rw[Ai (n2 c hc).1]
      exact z
    have has4:∀c∈as++as2,H c=none/\c≠pl/\c≠x:=fun c hc=>by
     rcases List.mem_append.mp hc with hc|hc
     ·exact has c hc
     ·exact ⟨M2.none (by simp[n2 c hc]) (has2 c hc),n2 c hc⟩
    have hpb4:(upd H3 pl (.lst (ps.map V.ref++[.ref q]))) pb=some (.tup (Cv (may.map wd))):=M4 _ _ hpb (by simp[npb,npbx])
    generalize upd H3 pl (.lst (ps.map V.ref++[.ref q]))=H4 at R4 M4 hl4 hT4 hpb4
    have after:∀(L0:Bytes) (pj:Addr),(∀z∈L0,z=43\/z=45)->L0.length<=2->mays (pre.length+1) may=L0++may->(7<=pre.length->L0=[])->H4 pj=none ->
      Rl (Hr a.CR "take_end_or" (MH K a) [] E (AW 0) (AL (tOp cI (AW 4) (AW 2)) BQ)) (FQ 3)
       { nx:=fun σ' H'=>∃m',m'<9-pre.length/\∃c' pre ps as v4,Rdr a H' x t b c'/\Mv [x,pl] H H'/\H' pl=some (.lst (ps.map V.ref))/\BJ a as H' ps pre/\(∀c∈as,H c=none/\c≠pl/\c≠x) /\
        ((∃mi,σ'=[some (.ref x),some (.ref pl),some (.ref pb),some (.str (sgn mi)),v4]/\pre.length<=7/\m'=9-pre.length/\EG may c=sumF may (8-pre.length) mi pre c') \/
         (∃k,σ'=[some (.ref x),some (.ref pl),some (.ref pb),some (.str (KS k)),v4]/\kOk k/\m'=0/\EG may c = .ok ((pre,k),c'))),rt:=Q }
       [some (.ref x),some (.ref pl),some (.ref pb),some (.str (sgn mi2)),some (.ref pj)] (upd H4 pj (.tup (Cv (L0.map wd)))):=by
     intro L0 pj hL0 hL2 hmy h7 hpj
     obtain ⟨dx4,hx4⟩:=R4.ins
     have hw:∀z∈L0++may,isW z:=fun z hz=>by
      rcases List.mem_append.mp hz with hz|hz
      ·rcases hL0 z hz with h|h
       ·exact .inl h
       ·exact .inr (.inl h)
      ·rcases hmay z hz with h|h|h
       ·exact .inr (.inr (.inl h))
       ·exact .inr (.inr (.inr (.inl h)))
       ·exact .inr (.inr (.inr (.inr h)))
     have hx5:(upd H4 pj (.tup (Cv (L0.map wd)))) x=some (.ins a.CR dx4 (rf t c3.at_)):=by rw[Ai (An hx4 hpj)];exact hx4
     refine ⟨_,rfl,AN x dx4 _ ⟨ rfl,hx5,rfl,_,rfl,_,rfl,Aw pj pb _ _ ⟨ rfl,rfl,Ae,by rw[Ai (An hpb4 hpj)];exact hpb4,?_,fun p6 H6 hp6 k6=>?_⟩⟩⟩
     ·unfold Cv
      simp only [List.length_map]
      exact Nat.le_trans (show L0.length+may.length<=5 by omega) (by decide)
     have up6:∀{c:Addr}{o:HO},H4 c=some o->H6 c=some o:=fun {c o} e=>k6 c o (by rw[Ai (An e hpj)];exact e)
     have R6:Rdr a H6 x t b c3:=R4.keep (fun o e=>up6 e) fun o e=>up6 e
     have M6:Mv [x,pl] H H6:=fun c o e n=>up6 (M4 c o e n)
     have hp6':H6 p6=some (.tup (Cv ((L0++may).map wd))):=by
      rw[hp6]
      unfold Cv
      rw[List.map_append,List.map_append]
     refine (Pl x t b c3 p6 _ ⟨ rfl,hp6',words_of hw,R6,fun y7 c7 e7 v H7 R7 M7 hv=>?_,fun p e d2 H7 M7 hF=>?_⟩)
     ·subst hv
      rw[KH] at e7
      obtain ⟨r,hr,he⟩:=Ag.mp e7
      obtain ⟨e8,hE,hy⟩:=Ek.mp he
      obtain ⟨k,d⟩:=r
      cases hy
      rw[hmy,hr] at e2
      replace e2:EG may c=dA may (7-pre.length) (pre++[y]) k c7:=by
       rw[e2]
       show (Cb k d >>= _)=_
       rw[show Cb k d = .ok c7 from hE]
       rfl
      have hkin:∀z,k=some z->z∈L0++may:=fun z hz=>(EH hr R6.inn).2.2 z hz
      have M7':Mv [x,pl] H H7:=M6.trans (M7.mono fun c hc=>by rw[List.mem_singleton] at hc;rw[hc];simp)
      have hl7:H7 pl=some (.lst ((ps++[q]).map V.ref)):=M7 _ _ (up6 hl4) (by simpa using nplx)
      have hT7:BJ a (as++as2) H7 (ps++[q]) (pre++[y]):=hT4.mono (fun _ z=>z) fun c hc o z=>M7 _ _ (up6 z) (by simpa using (has4 c hc).2.2)
      unfold dA at e2
      by_cases hk:k=some 43\/k=some 45
      ·rw[if_pos hk] at e2
       have hl6:pre.length<=6:=Nat.le_of_not_lt fun z=>by
        have hL:=h7 (by omega)
        rcases hk with rfl|rfl
        ·have:=hkin 43 rfl
         rw[hL] at this
         rcases hmay _ (by simpa using this) with h|h|h<;>exact absurd h (by decide)
        ·have:=hkin 45 rfl
         rw[hL] at this
         rcases hmay _ (by simpa using this) with h|h|h<;>exact absurd h (by decide)
       refine ⟨9-(pre++[y]).length,by simp;omega,c7,pre++[y],ps++[q],as++as2,some (.ref pj),R7,M7',hl7,hT7,has4,.inl ⟨k==some 45,?_,by simp;omega,rfl,by rw[e2,show 8-(pre++[y]).length=7-pre.length by simp]⟩⟩
       rcases hk with rfl|rfl<;>rfl
      ·rw[if_neg hk] at e2
       have hkk:kOk k:=by
        cases k with
        |none=>exact .inl rfl
        |some z=>
         rcases List.mem_append.mp (hkin z rfl) with h|h
         ·rcases hL0 z h with h|h
          ·exact absurd (.inl (by rw[h])) hk
          ·exact absurd (.inr (by rw[h])) hk
         ·rcases hmay z h with h|h|h
          ·exact .inr (.inl (by rw[h]))
          ·exact .inr (.inr (.inl (by rw[h])))
          ·exact .inr (.inr (.inr (by rw[h])))
       exact ⟨0,by omega,c7,pre++[y],ps++[q],as++as2,_,R7,M7',hl7,hT7,has4,.inr ⟨k,rfl,hkk,rfl,e2⟩⟩
     ·rw[KH] at e
      refine kE p ?_ _ _ (M6.trans (M7.mono fun c hc=>by rw[List.mem_singleton] at hc;rw[hc];simp)) hF
      rw[e2,hmy]
      cases hr:behind (L0++may) c3 with
      |error p2=>rw[hr] at e;cases e;rfl
      |ok r=>
       rw[hr] at e
       show (Cb r.1 r.2 >>= _)=_
       replace e:(Cb r.1 r.2).map _ = .error p:=e
       cases hE:Cb r.1 r.2 with
       |error p2=>rw[hE] at e;cases e;rfl
       |ok e8=>rw[hE] at e;cases e
    refine ⟨_,rfl,Aq pl _ ⟨ rfl,.inl (SqL.of hl4),Aq _ _ ⟨ rfl,rfl,_,rfl,?_⟩⟩⟩
    have hlen4:((ps++[q]).map V.ref).length=pre.length+1:=by rw[List.length_map,List.length_append,hT2.1];rfl
    rw[hlen4]
    by_cases h8:pre.length+1<8
    ·refine Bn (fun _=>?_) (fun z=>absurd (decide_eq_true (show ((pre.length+1:Nat):Int)<8 by omega)) z)
     refine ⟨(by show 2<=sizeLine;decide),fun pj hpj=>?_⟩
     exact after [43,45] pj (fun z hz=>by simpa using hz) (by decide) (by unfold mays;rw[if_pos (show pre.length+1<Tide.TERMS from h8)]) (fun z=>by omega) hpj
    ·refine Bn (fun z=>absurd (of_decide_eq_true z) (by omega)) (fun _=>?_)
     refine ⟨(by show 0<=sizeLine;decide),fun pj hpj=>?_⟩
     exact after [] pj (fun z hz=>by cases hz) (by decide) (by unfold mays;rw[if_neg (show ¬pre.length+1<Tide.TERMS from h8)]) (fun _=>rfl) hpj
   ·refine ji hk rfl (Bw ⟨_,rfl,?_⟩)
    exact kO (pre,k) c2 e2 _ _ R2 M2 ⟨rfl,Aq ps as ⟨ hl2,fun c hc=>(has c hc).1,hT2⟩⟩
  rw[Zr] at loop
  refine ⟨_,rfl,AN x dx _ ⟨ rfl,hx,rfl,Aw x t b c ⟨ 45,rfl,R,_,rfl,?_⟩⟩⟩
  by_cases hq:c.next=some 45
  ·rw[show decide (nx c=((45:Nat):Int))=true from decide_eq_true (Dp (y:=45).mpr hq)]
   rw[if_pos hq] at loop
   have hsum:EG may c=lit [45,32] c >>= sumF may 8 true []:=by rw[Zr,if_pos hq]
   have hch:choice [wd 45] c=(lit [45,32] c).map fun e=>((wd 45).1,e):=Ca hq
   refine Bx ⟨_,rfl,AN x dx _ ⟨ rfl,hx,rfl,(by show 1<=sizeLine;decide),fun pj hpj=>?_⟩⟩
   refine (AA x t b c pj ⟨ [wd 45],rfl,SqT.of Ae,fun q hq=>?_,R.lay hpj,fun y c2 e2 v H2 R2 M2 hv=>?_,fun p e d2 H2 M2 hF=>?_⟩)
   ·rw[List.mem_singleton] at hq
    rw[hq]
    exact Zy (.inr (.inl rfl))
   ·subst hv
    rw[hch] at e2
    obtain ⟨e8,hE,hy⟩:=Ek.mp e2
    cases hy
    refine loop true c2 H2 R2 ?_ (M2 _ _ (by rw[Ai (An hpl hpj)];exact hpl) (by simpa using nplx)) (by rw[hE];rfl)
    exact fun c o e n=>M2 c o (by rw[Ai (An e hpj)];exact e) (by simp at n ⊢;exact n.1)
   ·refine kE p ?_ _ _ (fun c o e n=>M2 c o (by rw[Ai (An e hpj)];exact e) (by simp at n ⊢;exact n.1)) hF
    rw[hch] at e
    rw[hsum]
    cases hE:lit [45,32] c with
    |error p2=>rw[hE] at e;cases e;rfl
    |ok e8=>rw[hE] at e;cases e
  ·rw[show decide (nx c=((45:Nat):Int))=false from decide_eq_false fun z=>hq (Dp (y:=45).mp z)]
   rw[if_neg hq] at loop
   exact Bw (loop false c H R Mv.refl hpl rfl)
end
end Td
namespace Td
open PySem PySem.Spec PyProof.Rows L2
open Tide (Bytes Cur lit some_ someDigits nameIn isDigit isLetter nextIs decimal pointed plainNumber blank number termIn behind terms sumIn mays partsIn turnIn lineIn linesIn Term Part Line LF ascii)
theorem Mv.join {S T:List Addr}{H H1 H2:Hp} (M1:Mv S H H1) (M2:Mv T H1 H2) (h:∀c∈T,c∈S\/H c=Option.none):Mv S H H2:=fun c o e n=>M2 c o (M1 c o e n) fun z=>by
 rcases h c z with q|q
 ·exact n q
 ·rw[q] at e;cases e
section
variable {P:Program}{w:World}{K:PySem.W.Frag}{mg:Str->Option Value}{base:Heap}{a:Ad}
noncomputable def ZD (a:Ad) (as:List Addr) (H:Hp) (q:Addr) (y:Part):Prop:=∃dx pl ps,H q=some (.ins a.Cpa dx [("number",.int y.number),("terms",.ref pl)])/\H pl=some (.lst (ps.map V.ref))/\BJ a as H ps y.sum/\q∈as/\pl∈as
theorem ZD.mono {as as':List Addr}{H H':Hp}{p:Addr}{y:Part} (h:ZD a as H p y) (s:∀c∈as,c∈as') (k:∀c∈as,∀o,H c=some o->H' c=some o):ZD a as' H' p y:=by
 obtain ⟨dx,pl,ps,h1,h2,h3,m1,m2⟩:=h
 exact ⟨dx,pl,ps,k _ m1 _ h1,k _ m2 _ h2,h3.mono s k,s _ m1,s _ m2⟩
noncomputable def Cy (a:Ad) (as:List Addr) (H:Hp) (ps:List Addr) (ys:List Part):Prop:=ps.length=ys.length/\∀(i:Nat) p y,ps[i]?=some p->ys[i]?=some y->ZD a as H p y
theorem Cy.mono {as as':List Addr}{H H':Hp}{ps:List Addr}{ys:List Part} (h:Cy a as H ps ys) (s:∀c∈as,c∈as') (k:∀c∈as,∀o,H c=some o->H' c=some o):Cy a as' H' ps ys:=⟨h.1,fun i p x h1 h2=>(h.2 i p x h1 h2).mono s k⟩
theorem Cy.nil {as:List Addr}{H:Hp}:Cy a as H [] []:=⟨rfl,fun i p x h=>(by cases h)⟩
theorem Cy.snoc {as:List Addr}{H:Hp}{ps:List Addr}{ys:List Part}{q:Addr}{y:Part} (h:Cy a as H ps ys) (k:ZD a as H q y):Cy a as H (ps++[q]) (ys++[y]):=by
 refine ⟨by simp[h.1],fun i q' y' h1 h2=>?_⟩
 by_cases hi:i<ps.length
 ·rw[List.getElem?_append_left hi] at h1
  rw[List.getElem?_append_left (by rw[<-h.1];exact hi)] at h2
  exact h.2 i q' y' h1 h2
 ·rw[List.getElem?_append_right (by omega)] at h1
  rw[List.getElem?_append_right (by rw[<-h.1];omega),<-h.1] at h2
  have:i-ps.length=0:=by
   have:=(List.getElem?_eq_some_iff.mp h1).1
   simp at this
   omega
  rw[this] at h1 h2
  cases h1
  cases h2
  exact k
noncomputable def KZ (L:UInt8) (later:Bytes) (n:Nat):Bytes:=(if n+1<8 then [L] else [])++later
noncomputable def Jy (L:UInt8) (later:Bytes) (n:Nat) (c:Cur):Except Nat ((Part×Option UInt8)×Cur):=do
 let (v,c) <-number c
 let c <-blank c
 let (y,c) <-EG (KZ L later n) c
 return ((⟨v,y.1⟩,y.2),c)
noncomputable def OQ (a:Ad):Sp:=fun vs H Q E=>∃x t b c pp pb L later ps,vs=[.ref x,.ref pp,.str (Jd L),.ref pb]/\H pp=some (.lst (ps.map V.ref))/\ps.length<=7/\pp≠t/\H pb=some (.tup (Cv (later.map wd)))/\(L=102\/L=115)/\(∀y∈later,y=116\/y=102\/y=115)/\later.length<=1/\Rdr a H x t b c /\
 Tk a [pp] H x t b Q E (Jy L later ps.length c) fun y v H'=>v = .str (KS y.2)/\∃q as,H' pp=some (.lst ((ps++[q]).map V.ref))/\(∀c∈as,H c=none)/\ZD a as H' q y.1
theorem Lj (T:Txt K mg a):Cal P w K mg base a 8 "read_part" Ny (OQ a):=by
 refine AF (k:=7) T.VW EF (fun _ _ _ _ _ _=>Xt fun _ _ _ _=>rfl) (fun _ _ _ _=>jd fun _ _ _ _ _ _ _ _ _=>rfl) (fun f cdv A outer s H vs Q E hr h=>?_)
 ·obtain ⟨x,t,b,c,pp,pb,L,later,ps,rfl,hpp,hp7,nppt,hpb,hL,hla,hll,R,kO,kE⟩:=h
  refine ⟨_,(Ab (Al (i:=4) EF.nd rfl (Or.inl rfl) (Ar (ET T) hr Ak (Aa (pv 0) Ac))) (Ab (AJ (AE (As T) T.Aj hr Ak (pv 0) (Aa AH Ac))) (Ab (Al (i:=5) EF.nd rfl (Or.inl rfl) (Gx (UJ T) hr Ak (Aa (pv 4) (Aa (Bb Ac) Ac)))) (Ab (AJ (He PySem.F.plainAttrs_list PySem.F.slot_list_append PySem.F.type_list_append CP (pv 1) (Aa (pv 5) Ac))) (Ab (AS (Av GY (AD AQ rfl T.DD boot_len (Aa (pv 1) Ac)) (Ay T.TR) (AB _)) (Af (Al (i:=3) EF.nd rfl (Or.inl rfl) (Az Zi (CW (Aa (pv 2) Ac)) (pv 3)))) Ax) (Af (Ap (Ar (FJ T) hr Ak (Aa (pv 0) (Aa (Au (pv 5) rfl) (Aa (pv 3) Ac))))))))))),?_⟩
  obtain ⟨dx,hx⟩:=R.ins
  have nppx:pp≠x:=CI hpp hx (by intro z;cases z)
  have npbx:pb≠x:=CI hpb hx (by intro z;cases z)
  have npb:pb≠pp:=CI hpb hpp (by intro z;cases z)
  have sub1:∀c∈[x],c∈[x,pp]:=fun c hc=>by rw[List.mem_singleton] at hc;rw[hc];simp
  refine ⟨_,rfl,Aw x t b c ⟨ rfl,R,fun v c1 e1 vv H1 R1 M1 hv=>?_,fun p e d2 H2 M2 hF=>kE p (by unfold Jy;rw[e];rfl) _ _ (M2.mono sub1) hF⟩⟩
  subst hv
  obtain ⟨dx1,hx1⟩:=R1.ins
  refine ⟨_,rfl,AN x dx1 _ ⟨ rfl,hx1,rfl,AA x t b c1 _ ⟨ [32],rfl,rfl,R1,fun c2 e2 H2 R2 M2=>?_,fun p e d2 H2 M2 hF=>kE p (by unfold Jy;rw[e1];show lit [32] c1 >>= _=_;rw[e];rfl) _ _ ((M1.trans M2).mono sub1) hF⟩⟩⟩
  have hall:Jy L later ps.length c=(EG (KZ L later ps.length) c2 >>= fun y=>pure ((⟨v,y.1.1⟩,y.1.2),y.2)):=by
   unfold Jy
   rw[e1]
   show lit [32] c1 >>= _=_
   rw[e2]
   rfl
  have M12:=M1.trans M2
  refine ⟨_,rfl,Nat.zero_le _,fun pl hpl=>?_⟩
  intro q dq hq hdq ne
  have nql:q≠pl:=Bd hq Ae
  have ndl:dq≠pl:=Bd hdq Ae
  have hq2:H2 q=none:=by rw[Ai nql] at hq;exact hq
  have hdq2:H2 dq=none:=by rw[Ai ndl] at hdq;exact hdq
  refine (Aw q dq _ _ ⟨ rfl,Ae,fun H3 hq3 M3=>⟨rfl,?_⟩⟩)
  have old:∀{c:Addr}{o:HO},H2 c=some o->H3 c=some o:=fun {c o} e=>M3 c o (DX hq hdq (by rw[Ai (An e hpl)];exact e)) (by simpa using An e hq2)
  have hpl3:H3 pl=some (.lst []):=M3 _ _ (DX hq hdq Ae) (by simpa using Ne.symm nql)
  have hpp3:H3 pp=some (.lst (ps.map V.ref)):=old (M12 _ _ hpp (by simpa using nppx))
  have R3:Rdr a H3 x t b c2:=R2.keep (fun o e=>old e) fun o e=>old e
  have M3':Mv [x,pp] H H3:=fun c o e n=>old (M12 c o e (by simp at n ⊢;exact n.1))
  have hplH:H pl=none:=M12.none (by simpa using (R2.new hpl).1) hpl
  have hqH:H q=none:=M12.none (by simpa using (R2.new hq2).1) hq2
  have npp:pp≠pl/\pp≠q:=⟨fun z=>(by rw[z,hplH] at hpp;cases hpp),fun z=>(by rw[z,hqH] at hpp;cases hpp)⟩
  refine ⟨_,rfl,.inl ⟨rfl,_,SqL.of hpp3⟩,_,rfl,AN pp _ _ ⟨ rfl,rfl,hpp3,by rw[List.length_map];exact Nat.lt_of_le_of_lt hp7 (by decide),?_⟩⟩
  have R4:=R3.upd (o:=.lst (ps.map V.ref++[.ref q])) nppx nppt
  have M4:Mv [x,pp] H (upd H3 pp (.lst (ps.map V.ref++[.ref q]))):=M3'.trans (Mv.at (by simp))
  have hpp4:(upd H3 pp (.lst (ps.map V.ref++[.ref q]))) pp=some (.lst ((ps++[q]).map V.ref)):=by rw[Ae,List.map_append];rfl
  have hpl4:(upd H3 pp (.lst (ps.map V.ref++[.ref q]))) pl=some (.lst []):=by rw[Ai (Ne.symm npp.1)];exact hpl3
  have hq4:(upd H3 pp (.lst (ps.map V.ref++[.ref q]))) q=some (.ins a.Cpa dq [("number",.int v),("terms",.ref pl)]):=by rw[Ai (Ne.symm npp.2)];exact hq3
  have hpb4:(upd H3 pp (.lst (ps.map V.ref++[.ref q]))) pb=some (.tup (Cv (later.map wd))):=M4 _ _ hpb (by simp[npb,npbx])
  generalize upd H3 pp (.lst (ps.map V.ref++[.ref q]))=H4 at R4 M4 hpp4 hpl4 hq4 hpb4
  have last:∀(pb':Addr) (H5:Hp),(∀c o,H4 c=some o->H5 c=some o)->H5 pb'=some (.tup (Cv ((KZ L later ps.length).map wd))) ->
    MI (Gg (WY a) [] E (AL (AW 0) (AL (Gh K (AW 5) "terms") (AL (AW 3) BQ)))) { nx:=fun _ H'=>Q .non H',rt:=Q } [some (.ref x),some (.ref pp),some (.str (Jd L)),some (.ref pb'),some (.int v),some (.ref q)] H5:=by
   intro pb' H5 up hpb5
   have R5:Rdr a H5 x t b c2:=R4.keep (fun o e=>up _ _ e) fun o e=>up _ _ e
   have M5:Mv [x,pp] H H5:=fun c o e n=>up _ _ (M4 c o e n)
   have npl:pl≠t:=fun z=>(by rw[z] at hplH;rw[R.txt] at hplH;cases hplH)
   have hj:∀c∈[x,pl],c∈[x,pp]\/H c=none:=fun c hc=>by
    rcases List.mem_cons.mp hc with rfl|hc
    ·exact .inl (by simp)
    ·rw[List.mem_singleton] at hc;rw[hc];exact .inr hplH
   refine ⟨_,rfl,_,rfl,AA q a.Cpa dq _ _ ⟨ rfl,up _ _ hq4,T.KC,T.Gs,rfl,_,rfl,Pl x t b c2 pl pb' ⟨ KZ L later ps.length,rfl,up _ _ hpl4,npl,hpb5,fun y hy=>?_,?_,R5,fun y c6 e6 v6 H6 R6 M6 hv=>?_,fun p e d2 H6 M6 hF=>kE p (by rw[hall,e];rfl) _ _ (M5.join M6 hj) hF⟩⟩⟩
   ·unfold KZ at hy
    rcases List.mem_append.mp hy with hy|hy
    ·split at hy
     ·rw[List.mem_singleton] at hy
      rw[hy]
      exact .inr hL
     ·cases hy
    ·exact hla y hy
   ·unfold KZ
    rw[List.length_append]
    split
    ·show 1+later.length<=3;omega
    ·show 0+later.length<=3;omega
   ·obtain ⟨rfl,qs,as,h1,h2,h3⟩:=hv
    have npp6:pp∉[x,pl]:=by simp[nppx,npp.1]
    have nq6:q∉[x,pl]:=by
     have:q≠x:=fun z=>(by rw[z,hx] at hqH;cases hqH)
     simp[this,nql]
    refine kO (⟨v,y.1⟩,y.2) c6 (by rw[hall,e6];rfl) _ _ R6 (M5.join M6 hj) ⟨rfl,q,q::pl::as,M6 _ _ (up _ _ hpp4) npp6,fun c hc=>?_,AN dq pl qs ⟨ M6 _ _ (up _ _ hq4) nq6,h1,h3.mono (fun c hc=>by simp[hc]) fun _ _ _ z=>z,by simp,by simp⟩⟩
    rcases List.mem_cons.mp hc with rfl|hc
    ·exact hqH
    rcases List.mem_cons.mp hc with rfl|hc
    ·exact hplH
    ·have h5:=h2 c hc
     cases z:H c with
     |none=>rfl
     |some o=>
      by_cases hcx:c=x
      ·obtain ⟨dx5,hx5⟩:=R5.ins
       rw[hcx,hx5] at h5;cases h5
      ·by_cases hcp:c=pp
       ·rw[hcp,up _ _ hpp4] at h5;cases h5
       ·rw[M5 c o z (by simp[hcx,hcp])] at h5;cases h5
  refine ⟨_,rfl,Aq pp _ ⟨ rfl,.inl (SqL.of hpp4),Aq _ _ ⟨ rfl,rfl,_,rfl,?_⟩⟩⟩
  rw[List.length_map,List.length_append]
  by_cases h8:ps.length+1<8
  ·refine Bn (fun _=>?_) (fun z=>absurd (decide_eq_true (show ((ps.length + [q].length:Nat):Int)<8 by show ((ps.length+1:Nat):Int)<8;omega)) z)
   refine ⟨_,rfl,(by show 1<=sizeLine;decide),fun pj hpj=>?_⟩
   refine ⟨_,rfl,Aw pj pb _ _ ⟨ rfl,rfl,Ae,by rw[Ai (An hpb4 hpj)];exact hpb4,?_,fun p6 H6 hp6 k6=>?_⟩⟩
   ·unfold Cv
    simp only [List.length_map,List.length_cons,List.length_nil]
    exact Nat.le_trans (show 0+1+later.length<=2 by omega) (by decide)
   ·refine last p6 H6 (fun c o e=>k6 c o (by rw[Ai (An e hpj)];exact e)) ?_
    rw[hp6]
    unfold KZ
    rw[if_pos h8]
    rfl
  ·refine Bn (fun z=>absurd (of_decide_eq_true z) (by show ¬((ps.length+1:Nat):Int)<8;omega)) (fun _=>?_)
   refine last pb H4 (fun _ _ z=>z) ?_
   unfold KZ
   rw[if_neg h8]
   exact hpb4
end
end Td
namespace Td
open PySem PySem.Spec PyProof.Rows L2
open Tide (Bytes Cur lit some_ someDigits nameIn isDigit isLetter nextIs decimal pointed plainNumber blank number termIn behind terms sumIn mays partsIn turnIn lineIn linesIn Term Part Line LF ascii)
theorem dB {b:Bytes}{c:Cur} (k:In b c):EG [] c=(sumIn [] c).map fun q=>((q.1,q.2.1),q.2.2):=by
 unfold EG
 cases h:sumIn [] c with
 |error p=>rfl
 |ok q=>
  obtain ⟨l,y,d⟩:=q
  obtain ⟨_,_,_,_,_,_,hy⟩:=DC h k
  cases y with
  |none=>rfl
  |some z=>exact absurd (hy z rfl).1 (by simp)
noncomputable def Bp (L:UInt8) (later:Bytes):Nat->Option UInt8->List Part->Cur->Except Nat ((List Part×Option UInt8)×Cur)
 |0,k,l,c=>.ok ((l,k),c)
 |f+1,k,l,c=>if k=some L then Jy L later l.length c >>= fun q=>Bp L later f q.1.2 (l++[q.1.1]) q.2 else .ok ((l,k),c)
theorem QK (L:UInt8) (later:Bytes):∀(f:Nat) (k:Option UInt8) (l:List Part) (c:Cur),f+l.length=8 ->
  (Cb k c >>= fun d=>Bp L later f k l d)=(partsIn L (JN L) later f k l c >>= fun q=>Cb q.2.1 q.2.2 >>= fun d=>pure ((q.1,q.2.1),d))
 |0,k,l,c,_=>by
  rw[partsIn]
  show _=(Cb k c >>= _)
  cases Cb k c<;>rfl
 |f+1,k,l,c,hf=>by
  rw[partsIn]
  by_cases hk:k=some L
  ·subst hk
   rw[if_pos rfl]
   show (lit (JN L) c >>= _)=((lit (JN L) c >>= _) >>= _)
   cases lit (JN L) c with
   |error p=>rfl
   |ok c1=>
    show Bp L later (f+1) (some L) l c1=((number c1 >>= _) >>= _)
    rw[Bp,if_pos rfl]
    unfold Jy
    cases number c1 with
    |error p=>rfl
    |ok q=>
     obtain ⟨v,c2⟩:=q
     show ((blank c2 >>= _) >>= _)=((blank c2 >>= _) >>= _)
     cases blank c2 with
     |error p=>rfl
     |ok c3=>
      have hm:KZ L later l.length=(if f=0 then [] else [L])++later:=by
       unfold KZ
       by_cases h0:f=0
       ·rw[if_pos h0,if_neg (by omega)]
       ·rw[if_neg h0,if_pos (by omega)]
      show ((EG (KZ L later l.length) c3 >>= _) >>= _)=((sumIn ((if f=0 then [] else [L])++later) c3 >>= _) >>= _)
      rw[hm]
      unfold EG
      cases sumIn ((if f=0 then [] else [L])++later) c3 with
      |error p=>rfl
      |ok r=>
       obtain ⟨s,k2,c4⟩:=r
       have ih:=QK L later f k2 (l++[⟨v,s⟩]) c4 (by simp;omega)
       show _=(partsIn L (JN L) later f k2 (l++[⟨v,s⟩]) c4 >>= _)
       rw[<-ih]
       show (((Cb k2 c4 >>= _) >>= _) >>= _)=(Cb k2 c4 >>= _)
       cases Cb k2 c4 with
       |error p=>rfl
       |ok d=>rfl
  ·rw[if_neg hk]
   show _=(Cb k c >>= _)
   cases Cb k c with
   |error p=>rfl
   |ok d=>
    show Bp L later (f+1) k l d=_
    rw[Bp,if_neg hk]
    rfl
theorem UT {b:Bytes} (L:UInt8) (wo later:Bytes) (hL:L∉later):∀(f:Nat) (k:Option UInt8) (l:List Part) (c:Cur) {l':List Part}{k':Option UInt8}{d:Cur},(k=some L->f≠0)->(∀z,k=some z->z=L\/z∈later)->partsIn L wo later f k l c = .ok (l',k',d)->In b c->∀z,k'=some z->z∈later
 |0,k,l,c,l',k',d,h0,hk,h,_,z,hz=>by
  rw[partsIn] at h
  cases h
  rcases hk z hz with q|q
  ·exact absurd rfl (h0 (by rw[hz,q]))
  ·exact q
 |f+1,k,l,c,l',k',d,h0,hk,h,i,z,hz=>by
  rw[partsIn] at h
  by_cases q:k=some L
  ·rw[if_pos q] at h
   obtain ⟨c1,h1,h⟩:=Ag.mp h
   obtain ⟨⟨v,c2⟩,h2,h⟩:=Ag.mp h
   obtain ⟨c3,h3,h⟩:=Ag.mp h
   obtain ⟨⟨s,k2,c4⟩,h4,h⟩:=Ag.mp h
   have i1:=(Bj h1 i).1
   have i2:=(EI h2 i1).1
   have i3:=(AY h3 i2).1
   obtain ⟨_,_,i4,_,_,_,hy⟩:=DC h4 i3
   refine UT L wo later hL f k2 _ c4 (fun e e0=>?_) (fun z' e=>?_) h i4 z hz
   ·have:=(hy L e).1
    rw[if_pos e0] at this
    have e2:L∈later:=by simpa using this
    exact hL e2
   ·have:=(hy z' e).1
    rcases List.mem_append.mp this with r|r
    ·split at r
     ·cases r
     ·exact .inl (List.mem_singleton.mp r)
    ·exact .inr r
  ·rw[if_neg q] at h
   cases h
   rcases hk z hz with r|r
   ·exact absurd (by rw[hz,r]) q
   ·exact r
noncomputable def dG (c:Cur):Except Nat ((List Term×Nat×List Part×List Part)×Cur):=do
 let (s,k,c) <-sumIn [116,102,115] c
 let (q,k,c) <-(if k=some 116 then do
  let c <-lit (ascii "urn ") c
  let (q,c) <-turnIn c
  let (k,c) <-behind [102,115] c
  return (q,k,c)
 else .ok (0,k,c):Except Nat (Nat×Option UInt8×Cur))
 let (fs,k,c) <-partsIn 102 (ascii "actor ") [115] Tide.PARTS k [] c
 let (ss,_,c) <-partsIn 115 (ascii "hift ") [] Tide.PARTS k [] c
 return ((s,q,fs,ss),c)
noncomputable def Rq (k:Option UInt8) (c:Cur):Except Nat ((Nat×Option UInt8)×Cur):=if k=some 116 then do
  let (q,c) <-turnIn c
  let (k,c) <-behind [102,115] c
  let c <-Cb k c
  return ((q,k),c)
 else .ok ((0,k),c)
noncomputable def JM (c:Cur):Except Nat ((List Term×Nat×List Part×List Part)×Cur):=do
 let (y,c) <-EG [116,102,115] c
 let (z,c) <-Rq y.2 c
 let (f,c) <-Bp 102 [115] 8 z.2 [] c
 let (s,c) <-Bp 115 [] 8 f.2 [] c
 return ((y.1,z.1,f.1,s.1),c)
theorem Tf {b:Bytes}{c:Cur} (i:In b c) (s:List Term) (q:Nat) (k:Option UInt8) (hk:∀z,k=some z->z=102\/z=115) :
  (Cb k c >>= fun d=>Bp 102 [115] 8 k [] d >>= fun f=>Bp 115 [] 8 f.1.2 [] f.2 >>= fun r=>pure ((s,q,f.1.1,r.1.1),r.2)) =
  (partsIn 102 (ascii "actor ") [115] Tide.PARTS k [] c >>= fun f=>partsIn 115 (ascii "hift ") [] Tide.PARTS f.2.1 [] f.2.2 >>= fun r=>pure ((s,q,f.1,r.1),r.2.2):Except Nat ((List Term×Nat×List Part×List Part)×Cur)):=by
 have p1:=QK 102 [115] 8 k [] c rfl
 have e1:(Cb k c >>= fun d=>Bp 102 [115] 8 k [] d >>= fun f=>Bp 115 [] 8 f.1.2 [] f.2 >>= fun r=>pure ((s,q,f.1.1,r.1.1),r.2))=((Cb k c >>= fun d=>Bp 102 [115] 8 k [] d) >>= fun f=>Bp 115 [] 8 f.1.2 [] f.2 >>= fun r=>pure ((s,q,f.1.1,r.1.1),r.2):Except Nat ((List Term×Nat×List Part×List Part)×Cur)):=by
  cases Cb k c<;>rfl
 rw[e1,p1]
 show ((partsIn 102 (ascii "actor ") [115] 8 k [] c >>= _) >>= _)=(partsIn 102 (ascii "actor ") [115] 8 k [] c >>= _)
 cases h:partsIn 102 (ascii "actor ") [115] 8 k [] c with
 |error p=>rfl
 |ok f=>
  obtain ⟨fs,k2,c2⟩:=f
  have i2:In b c2:=by obtain ⟨_,_,_,z,_⟩:=DM h i;exact z
  have hk2:=UT 102 _ [115] (by decide) 8 k [] c (fun _=>by decide) (fun z hz=>by rcases hk z hz with r|r<;>simp[r]) h i
  have p2:=QK 115 [] 8 k2 [] c2 rfl
  have e2:((Cb k2 c2 >>= fun d=>pure ((fs,k2),d)) >>= fun f=>Bp 115 [] 8 f.1.2 [] f.2 >>= fun r=>pure ((s,q,f.1.1,r.1.1),r.2))=((Cb k2 c2 >>= fun d=>Bp 115 [] 8 k2 [] d) >>= fun r=>pure ((s,q,fs,r.1.1),r.2):Except Nat ((List Term×Nat×List Part×List Part)×Cur)):=by
   cases Cb k2 c2<;>rfl
  show ((Cb k2 c2 >>= fun d=>pure ((fs,k2),d)) >>= _)=(partsIn 115 (ascii "hift ") [] 8 k2 [] c2 >>= _)
  rw[e2,p2]
  show ((partsIn 115 (ascii "hift ") [] 8 k2 [] c2 >>= _) >>= _)=_
  cases h3:partsIn 115 (ascii "hift ") [] 8 k2 [] c2 with
  |error p=>rfl
  |ok r=>
   obtain ⟨ss,k3,c3⟩:=r
   have hk3:=UT 115 _ [] (by simp) 8 k2 [] c2 (fun _=>by decide) (fun z hz=>by have:=hk2 z hz;simp at this;exact .inl this) h3 i2
   cases k3 with
   |none=>rfl
   |some z=>exact absurd (hk3 z rfl) (by simp)
theorem fQ {b:Bytes}{c:Cur} (i:In b c):JM c=dG c:=by
 unfold JM dG EG
 cases h:sumIn [116,102,115] c with
 |error p=>rfl
 |ok r=>
  obtain ⟨s,k,c1⟩:=r
  obtain ⟨_,_,i1,_,_,_,hy⟩:=DC h i
  by_cases hk:k=some 116
  ·subst hk
   show ((lit (ascii "urn ") c1 >>= _) >>= _)=(((lit (ascii "urn ") c1 >>= _):Except Nat _) >>= _)
   cases h1:lit (ascii "urn ") c1 with
   |error p=>rfl
   |ok c2=>
    have i2:=(Bj h1 i1).1
    show (((turnIn c2 >>= _):Except Nat _) >>= _)=(((turnIn c2 >>= _):Except Nat _) >>= _)
    cases h2:turnIn c2 with
    |error p=>rfl
    |ok q=>
     obtain ⟨tn,c3⟩:=q
     have i3:=(ML h2 i2).1
     show (((behind [102,115] c3 >>= _):Except Nat _) >>= _)=(((behind [102,115] c3 >>= _):Except Nat _) >>= _)
     cases h3:behind [102,115] c3 with
     |error p=>rfl
     |ok q=>
      obtain ⟨k2,c4⟩:=q
      obtain ⟨i4,_,hk2⟩:=EH h3 i3
      refine Eq.trans ?_ (Tf i4 s tn k2 fun z hz=>by have:=hk2 z hz;simpa using this)
      show (((Cb k2 c4 >>= _):Except Nat _) >>= _)=(Cb k2 c4 >>= _)
      cases Cb k2 c4<;>rfl
  ·refine Eq.trans ?_ (Eq.trans (Tf i1 s 0 k fun z hz=>?_) ?_)
   ·show (((Cb k c1 >>= _):Except Nat _) >>= _)=(Cb k c1 >>= _)
    cases Cb k c1 with
    |error p=>rfl
    |ok d=>
     show (Rq k d >>= _)=_
     unfold Rq
     rw[if_neg hk]
     rfl
   ·have:=(hy z hz).1
    simp at this
    rcases this with r|r|r
    ·exact absurd (by rw[hz,r]) hk
    ·exact .inl r
    ·exact .inr r
   ·show _=((if k=some 116 then _ else _) >>= _)
    rw[if_neg hk]
    rfl
noncomputable def FE (c:Cur):Except Nat ((Int×Int)×Cur):=do
 let (x,c) <-number c
 let c <-blank c
 let (y,c) <-number c
 let c <-lit [LF] c
 return ((x,y),c)
noncomputable def OT:Str×Bytes:=("angle ",ascii "angle ")
noncomputable def Vt:Str×Bytes:=("wave ",ascii "wave ")
noncomputable def bj:Str×Bytes:=("sum ",ascii "sum ")
noncomputable def Dc (wo:Str) (n:Bytes) (p:Nat) (c:Cur):Except Nat (Line×Cur):=if wo="angle " then (FE c).map fun q=>(.angle n p q.1.1 q.1.2,q.2)
 else if wo="wave " then (JM c).map fun q=>(.wave n p q.1.1 q.1.2.1 q.1.2.2.1 q.1.2.2.2,q.2)
 else (EG [] c).map fun q=>(.sum n p q.1.1,q.2)
theorem Rm (n:Bytes) (p:Nat) (c:Cur):Dc "angle " n p c=(FE c).map fun q=>(.angle n p q.1.1 q.1.2,q.2):=if_pos rfl
theorem Tr (n:Bytes) (p:Nat) (c:Cur):Dc "wave " n p c=(JM c).map fun q=>(.wave n p q.1.1 q.1.2.1 q.1.2.2.1 q.1.2.2.2,q.2):=by
 unfold Dc
 rw[if_neg (by decide +kernel),if_pos rfl]
theorem Xc (n:Bytes) (p:Nat) (c:Cur):Dc "sum " n p c=(EG [] c).map fun q=>(.sum n p q.1.1,q.2):=by
 unfold Dc
 rw[if_neg (by decide +kernel),if_neg (by decide +kernel)]
noncomputable def Jj (c:Cur):Except Nat (Line×Cur):=do
 let (wo,c) <-choice [OT,Vt,bj] c
 let p:=c.at_
 let (n,c) <-nameIn c
 let c <-blank c
 Dc wo n p c
theorem MP:ascii "angle " = 97::[110,103,108,101,32]:=by decide +kernel
theorem OX:ascii "wave " = 119::[97,118,101,32]:=by decide +kernel
theorem Sw:ascii "sum " = 115::[117,109,32]:=by decide +kernel
theorem eM {b:Bytes}{c:Cur} (i:In b c):lineIn c=Jj c:=by
 unfold lineIn Jj
 have hA:OT=(("angle ":Str),97::[110,103,108,101,32]):=by unfold OT;rw[MP]
 have hW:Vt=(("wave ":Str),119::[97,118,101,32]):=by unfold Vt;rw[OX]
 have hS:bj=(("sum ":Str),115::[117,109,32]):=by unfold bj;rw[Sw]
 rw[hA,hW,hS,MP,OX,Sw]
 by_cases h1:c.next=some 97
 ·rw[if_pos h1,Ca h1]
  cases hl:lit (97::[110,103,108,101,32]) c with
  |error p=>rfl
  |ok c1=>
   show (nameIn c1 >>= _)=(nameIn c1 >>= _)
   cases nameIn c1 with
   |error p=>rfl
   |ok q=>
    obtain ⟨n,c2⟩:=q
    show (blank c2 >>= _)=(blank c2 >>= _)
    cases blank c2 with
    |error p=>rfl
    |ok c3=>
     show (number c3 >>= _)=Dc "angle " n c1.at_ c3
     rw[Rm]
     unfold FE
     cases number c3 with
     |error p=>rfl
     |ok q=>
      obtain ⟨v,c4⟩:=q
      show (blank c4 >>= _)=Except.map _ (blank c4 >>= _)
      cases blank c4 with
      |error p=>rfl
      |ok c5=>
       show (number c5 >>= _)=Except.map _ (number c5 >>= _)
       cases number c5 with
       |error p=>rfl
       |ok q=>
        obtain ⟨v2,c6⟩:=q
        show (lit [LF] c6 >>= _)=Except.map _ (lit [LF] c6 >>= _)
        cases lit [LF] c6<;>rfl
 ·rw[if_neg h1,BU h1]
  by_cases h2:c.next=some 119
  ·rw[if_pos h2,Ca h2]
   cases hl:lit (119::[97,118,101,32]) c with
   |error p=>rfl
   |ok c1=>
    have i1:=(Bj hl i).1
    show (nameIn c1 >>= _)=(nameIn c1 >>= _)
    cases hn:nameIn c1 with
    |error p=>rfl
    |ok q=>
     obtain ⟨n,c2⟩:=q
     have i2:=(Cf hn i1).1
     show (blank c2 >>= _)=(blank c2 >>= _)
     cases hb:blank c2 with
     |error p=>rfl
     |ok c3=>
      have i3:=(AY hb i2).1
      show (sumIn [116,102,115] c3 >>= _)=Dc "wave " n c1.at_ c3
      rw[Tr,fQ i3]
      unfold dG
      cases sumIn [116,102,115] c3 with
      |error p=>rfl
      |ok r=>
       obtain ⟨s,k,c4⟩:=r
       simp only [bind,Except.bind]
       generalize (if k=some 116 then _ else _:Except Nat (Nat×Option UInt8×Cur))=z
       cases z with
       |error p=>rfl
       |ok r=>
        obtain ⟨q,k2,c5⟩:=r
        show (partsIn 102 (ascii "actor ") [115] Tide.PARTS k2 [] c5 >>= _)=Except.map _ (partsIn 102 (ascii "actor ") [115] Tide.PARTS k2 [] c5 >>= _)
        cases partsIn 102 (ascii "actor ") [115] Tide.PARTS k2 [] c5 with
        |error p=>rfl
        |ok r=>
         obtain ⟨fs,k3,c6⟩:=r
         show (partsIn 115 (ascii "hift ") [] Tide.PARTS k3 [] c6 >>= _)=Except.map _ (partsIn 115 (ascii "hift ") [] Tide.PARTS k3 [] c6 >>= _)
         cases partsIn 115 (ascii "hift ") [] Tide.PARTS k3 [] c6<;>rfl
  ·rw[if_neg h2,BU h2]
   by_cases h3:c.next=some 115
   ·rw[if_pos h3,Ca h3]
    cases hl:lit (115::[117,109,32]) c with
    |error p=>rfl
    |ok c1=>
     have i1:=(Bj hl i).1
     show (nameIn c1 >>= _)=(nameIn c1 >>= _)
     cases hn:nameIn c1 with
     |error p=>rfl
     |ok q=>
      obtain ⟨n,c2⟩:=q
      have i2:=(Cf hn i1).1
      show (blank c2 >>= _)=(blank c2 >>= _)
      cases hb:blank c2 with
      |error p=>rfl
      |ok c3=>
       have i3:=(AY hb i2).1
       show (sumIn [] c3 >>= _)=Dc "sum " n c1.at_ c3
       rw[Xc,dB i3]
       cases sumIn [] c3<;>rfl
   ·rw[if_neg h3,BU h3]
    rfl
end Td
namespace Td
open PySem PySem.Spec PyProof.Rows L2
open Tide (Bytes Cur lit some_ someDigits nameIn isDigit isLetter nextIs decimal pointed plainNumber blank number termIn behind terms sumIn mays partsIn turnIn lineIn linesIn Term Part Line LF ascii)
section
variable {P:Program}{w:World}{K:PySem.W.Frag}{mg:Str->Option Value}{base:Heap}{a:Ad}
noncomputable def lnf (wo:Str) (pn:Addr) (pl:Nat) (rate:Int) (pt pf ps:Addr):List (Str×V):=[("word",.str wo),("name",.ref pn),("place",.int pl),("rate",.int rate),("terms",.ref pt),("factors",.ref pf),("shifts",.ref ps)]
noncomputable def fm (a:Ad):Sp:=fun vs H Q _=>∃p dx wo pn,∃pl:Nat,vs=[.ref p,.str wo,.ref pn,.int pl]/\H p=some (.ins a.Cli dx [])/\∀H' pt pf ps,H' p=some (.ins a.Cli dx (lnf wo pn pl 0 pt pf ps))->H' pt=some (.lst [])->H' pf=some (.lst [])->H' ps=some (.lst []) ->
 H pt=none->H pf=none->H ps=none->pt≠pf->pt≠ps->pf≠ps->Mv [p] H H'->Q .non H'
theorem UI (T:Txt K mg a):Rx P w K mg base a 1 a.Cli "Line" Ni (fm a):=by
 refine Gp (k:=0) T.gK Vg (fun _=>(fun _ _ _ _ _ _=>Xt fun _ _ _ _=>rfl)) (fun _ _ _ _=>Oh fun _ _ _ _ _=>rfl) (fun q f cdv A outer s H vs Q E hr h=>?_)
 ·obtain ⟨p,dx,wo,pn,pl,rfl,hp,k⟩:=h
  refine ⟨_,(Ab (Br (pv 0) (pv 1) rfl) (Ab (Br (pv 0) (pv 2) rfl) (Ab (Br (pv 0) (pv 3) rfl) (Ab (Br (pv 0) Ao rfl) (Ab (Br (pv 0) (Bb Ac) rfl) (Ab (Br (pv 0) (Bb Ac) rfl) (Af (Br (pv 0) (Bb Ac) rfl)))))))),?_⟩
  refine ⟨_,rfl,_,rfl,Aw p a.Cli dx _ ⟨ rfl,hp,T.AX,T.CH,(by show 0<1000;decide),?_⟩⟩
  refine ⟨_,rfl,_,rfl,Aw p a.Cli dx _ ⟨ rfl,Ae,T.AX,T.Dn,(by show 1<1000;decide),?_⟩⟩
  refine ⟨_,rfl,_,rfl,Aw p a.Cli dx _ ⟨ rfl,Ae,T.AX,T.EC,(by show 2<1000;decide),?_⟩⟩
  refine ⟨_,rfl,Aw p a.Cli dx _ ⟨ rfl,Ae,T.AX,T.HI,(by show 3<1000;decide),?_⟩⟩
  have st:∀{H1:Hp}{o:HO},Mv [p] H H1->Mv [p] H (upd H1 p o):=fun M=>M.trans (Mv.at (by simp))
  have M0:Mv [p] H (upd (upd (upd (upd H p (.ins a.Cli dx (BD "word" (.str wo) []))) p (.ins a.Cli dx (BD "name" (.ref pn) (BD "word" (.str wo) [])))) p (.ins a.Cli dx (BD "place" (.int pl) (BD "name" (.ref pn) (BD "word" (.str wo) []))))) p (.ins a.Cli dx (BD "rate" (.int 0) (BD "place" (.int pl) (BD "name" (.ref pn) (BD "word" (.str wo) [])))))):=st (st (st (st Mv.refl)))
  have hp0:(upd (upd (upd (upd H p (.ins a.Cli dx (BD "word" (.str wo) []))) p (.ins a.Cli dx (BD "name" (.ref pn) (BD "word" (.str wo) [])))) p (.ins a.Cli dx (BD "place" (.int pl) (BD "name" (.ref pn) (BD "word" (.str wo) []))))) p (.ins a.Cli dx (BD "rate" (.int 0) (BD "place" (.int pl) (BD "name" (.ref pn) (BD "word" (.str wo) [])))))) p=some (.ins a.Cli dx [("word",.str wo),("name",.ref pn),("place",.int pl),("rate",.int 0)]):=Ae
  generalize (upd (upd (upd (upd H p (.ins a.Cli dx (BD "word" (.str wo) []))) p (.ins a.Cli dx (BD "name" (.ref pn) (BD "word" (.str wo) [])))) p (.ins a.Cli dx (BD "place" (.int pl) (BD "name" (.ref pn) (BD "word" (.str wo) []))))) p (.ins a.Cli dx (BD "rate" (.int 0) (BD "place" (.int pl) (BD "name" (.ref pn) (BD "word" (.str wo) []))))))=H0 at M0 hp0 ⊢
  refine ⟨Nat.zero_le _,fun pt hpt=>?_⟩
  have n1:pt≠p:=Bd hpt hp0
  refine ⟨_,rfl,Aw p a.Cli dx _ ⟨ rfl,by rw[Ai (Ne.symm n1)];exact hp0,T.AX,T.Co,(by show 4<1000;decide),?_⟩⟩
  refine ⟨Nat.zero_le _,fun pf hpf=>?_⟩
  have n2:pf≠p:=Bd hpf Ae
  have hpf0:(upd H0 pt (.lst [])) pf=none:=by rw[Ai n2] at hpf;exact hpf
  have n3:pf≠pt:=Bd hpf0 Ae
  refine ⟨_,rfl,Aw p a.Cli dx _ ⟨ rfl,by rw[Ai (Ne.symm n2)];exact Ae,T.AX,T.Ds,(by show 5<1000;decide),?_⟩⟩
  refine ⟨Nat.zero_le _,fun ps hps=>?_⟩
  have n4:ps≠p:=Bd hps Ae
  have hps1:=hps
  rw[Ai n4] at hps1
  have n5:ps≠pf:=Bd hps1 Ae
  rw[Ai n5,Ai n4] at hps1
  have n6:ps≠pt:=Bd hps1 Ae
  refine ⟨_,rfl,Aw p a.Cli dx _ ⟨ rfl,by rw[Ai (Ne.symm n4)];exact Ae,T.AX,T.FH,(by show 6<1000;decide),?_⟩⟩
  have z1:H pt=none:=M0.none (by simpa using n1) hpt
  have z2:H pf=none:=M0.none (by simpa using n2) (by rw[Ai n3] at hpf0;exact hpf0)
  have z3:H ps=none:=M0.none (by simpa using n4) (by rw[Ai n6] at hps1;exact hps1)
  refine k _ pt pf ps Ae ?_ ?_ ?_ z1 z2 z3 (Ne.symm n3) (Ne.symm n6) (Ne.symm n5) ?_
  ·rw[Ai n1,Ai (Ne.symm n6),Ai n1,Ai (Ne.symm n3),Ai n1,Ae]
  ·rw[Ai n2,Ai (Ne.symm n5),Ai n2,Ae]
  ·rw[Ai n4,Ae]
  ·exact st ((st ((st (M0.ext z1)).ext z2)).ext z3)
noncomputable def cV (a:Ad):Sp:=fun vs H Q E=>∃x t b c p dx wo pn pl pt pf ps,vs=[.ref x,.ref p]/\H p=some (.ins a.Cli dx (lnf wo pn pl 0 pt pf ps))/\Rdr a H x t b c /\
 Tk a [p] H x t b Q E (FE c) fun y v H'=>v = .non/\H' p=some (.ins a.Cli dx (lnf wo pn pl y.2 pt pf ps))
theorem Sf (T:Txt K mg a):Cal P w K mg base a 6 "read_angle" Lp (cV a):=by
 refine AF (k:=5) T.Ug Sn (fun _ _ _ _ _ _=>Fh fun _ _=>rfl) (fun _ _ _ _=>fX fun _ _ _ _ _ _ _ _ _ _ _ _=>rfl) (fun f cdv A outer s H vs Q E hr h=>?_)
 ·obtain ⟨x,t,b,c,p,dp,wo,pn,pl,pt,pf,ps,rfl,hp,R,kO,kE⟩:=h
  refine ⟨_,(Ab (AJ (Ar (ET T) hr Ak (Aa (pv 0) Ac))) (Ab (AJ (AE (As T) T.Aj hr Ak (pv 0) (Aa AH Ac))) (Ab (Br (pv 1) (Ar (ET T) hr Ak (Aa (pv 0) Ac)) rfl) (Af (AJ (AE (As T) T.Aj hr Ak (pv 0) (Aa AH Ac))))))),?_⟩
  obtain ⟨dx,hx⟩:=R.ins
  have npx:p≠x:=CI hp hx (by intro z;have:=(HO.ins.inj z).2.2;exact absurd (congrArg List.length this) (by show ¬7=2;decide))
  have npt:p≠t:=CI hp R.txt (by intro z;cases z)
  have sub1:∀c∈[x],c∈[x,p]:=fun c hc=>by rw[List.mem_singleton] at hc;rw[hc];simp
  refine ⟨_,rfl,Aw x t b c ⟨ rfl,R,fun v c1 e1 vv H1 R1 M1 hv=>?_,fun p e d2 H2 M2 hF=>kE p (by unfold FE;rw[e];rfl) _ _ (M2.mono sub1) hF⟩⟩
  obtain ⟨dx1,hx1⟩:=R1.ins
  refine ⟨_,rfl,AN x dx1 _ ⟨ rfl,hx1,rfl,AA x t b c1 _ ⟨ [32],rfl,rfl,R1,fun c2 e2 H2 R2 M2=>?_,fun p e d2 H2 M2 hF=>kE p (by unfold FE;rw[e1];show lit [32] c1 >>= _=_;rw[e];rfl) _ _ ((M1.trans M2).mono sub1) hF⟩⟩⟩
  have M12:=M1.trans M2
  refine ⟨_,rfl,Aw x t b c2 ⟨ rfl,R2,fun v3 c3 e3 vv3 H3 R3 M3 hv3=>?_,fun p e d2 H2 M2 hF=>kE p (by unfold FE;rw[e1];show lit [32] c1 >>= _=_;rw[e2];show number c2 >>= _=_;rw[e];rfl) _ _ ((M12.trans M2).mono sub1) hF⟩⟩
  subst hv3
  have M3':=M12.trans M3
  have hp3:H3 p=some (.ins a.Cli dp (lnf wo pn pl 0 pt pf ps)):=M3' _ _ hp (by simpa using npx)
  refine ⟨_,rfl,Aw p a.Cli dp _ ⟨ rfl,hp3,T.AX,T.HI,(by show 7<1000;decide),?_⟩⟩
  have R4:=R3.upd (o:=.ins a.Cli dp (lnf wo pn pl v3 pt pf ps)) npx npt
  have M4:Mv [x,p] H (upd H3 p (.ins a.Cli dp (lnf wo pn pl v3 pt pf ps))):=(M3'.mono sub1).trans (Mv.at (by simp))
  obtain ⟨dx4,hx4⟩:=R4.ins
  refine ⟨_,rfl,AN x dx4 _ ⟨ rfl,hx4,rfl,AA x t b c3 _ ⟨ [10],rfl,rfl,R4,fun c5 e5 H5 R5 M5=>?_,fun p e d2 H2 M2 hF=>kE p (by unfold FE;rw[e1];show lit [32] c1 >>= _=_;rw[e2];show number c2 >>= _=_;rw[e3];show lit [10] c3 >>= _=_;rw[e];rfl) _ _ (M4.trans (M2.mono sub1)) hF⟩⟩⟩
  exact kO (v,v3) c5 (by unfold FE;rw[e1];show lit [32] c1 >>= _=_;rw[e2];show number c2 >>= _=_;rw[e3];show lit [10] c3 >>= _=_;rw[e5];rfl) _ _ R5 (M4.trans (M5.mono sub1)) ⟨rfl,M5 _ _ Ae (by simpa using npx)⟩
end
end Td
namespace Td
open PySem PySem.Spec PyProof.Rows L2
open Tide (Bytes Cur lit some_ someDigits nameIn isDigit isLetter nextIs decimal pointed plainNumber blank number termIn behind terms sumIn mays partsIn turnIn lineIn linesIn Term Part Line LF ascii)
theorem Zs {b:Bytes}{may:Bytes}{c d:Cur}{l:List Term}{k:Option UInt8} (h:EG may c = .ok ((l,k),d)) (i:In b c):∀z,k=some z->z∈may/\z≠43/\z≠45:=by
 unfold EG at h
 obtain ⟨⟨l1,k1,c1⟩,h1,h⟩:=Ag.mp h
 obtain ⟨c2,h2,h⟩:=Ag.mp h
 have h3:=AZ.mp h
 cases h3
 obtain ⟨_,_,_,_,_,_,hy⟩:=DC h1 i
 exact hy
theorem eT {b:Bytes}{L:UInt8}{later:Bytes}{n:Nat}{c d:Cur}{y:Part}{k:Option UInt8} (h:Jy L later n c = .ok ((y,k),d)) (i:In b c):∀z,k=some z->z∈KZ L later n:=by
 unfold Jy at h
 obtain ⟨⟨v,c1⟩,h1,h⟩:=Ag.mp h
 obtain ⟨c2,h2,h⟩:=Ag.mp h
 obtain ⟨⟨⟨l,k1⟩,c3⟩,h3,h⟩:=Ag.mp h
 have h4:=AZ.mp h
 cases h4
 exact fun z hz=>(Zs h3 (AY h2 (EI h1 i).1).1 z hz).1
theorem Zz {k:Option UInt8}{L:UInt8} (hk:kOk k) (hL:L=116\/L=102\/L=115):decide (V.str (KS k)=V.str (Jd L))=decide (k=some L):=by
 rcases hk with rfl|rfl|rfl|rfl<;>rcases hL with rfl|rfl|rfl<;>decide +kernel
theorem aw {L:UInt8}{later:Bytes}{f:Nat}{k:Option UInt8}{l:List Part}{c:Cur} (h:k=some L):Bp L later (f+1) k l c=Jy L later l.length c >>= fun q=>Bp L later f q.1.2 (l++[q.1.1]) q.2:=if_pos h
theorem ax {L:UInt8}{later:Bytes}{f:Nat}{k:Option UInt8}{l:List Part}{c:Cur} (h:¬k=some L):Bp L later f k l c = .ok ((l,k),c):=by
 cases f with
 |zero=>rfl
 |succ f=>exact if_neg h
noncomputable def KU:Bytes->TA
 |[]=>BQ
 |y::r=>AL (tC (.str (Jd y))) (KU r)
theorem MY:∀(l:Bytes) {σ:L2.St}{H:Hp}{Q:List V->Hp->Prop},Q (Cv (l.map wd)) H->KU l σ H Q
 |[],_,_,_,h=>h
 |y::r,σ,H,Q,h=>MY r (Q:=fun vs H2=>Q (.str (Jd y)::vs) H2) h
section
variable {P:Program}{w:World}{K:PySem.W.Frag}{mg:Str->Option Value}{base:Heap}{a:Ad}
theorem QL {L:UInt8}{later:Bytes}{fn:Str}{E:XK}{D:Ends}{p dp pp x t:Addr}{fs:List (Str×V)}{b:Bytes}{k:Option UInt8}{c:Cur}{H:Hp} (hL:L=102\/L=115) (hLl:L∉later) (hla:∀y∈later,y=115) (hll:later.length<=1) (cl:Cls K a.Cli) (hnf:Bf K a.Cli fn)
  (hfs:fs.lookup fn=some (.ref pp)) (R:Rdr a H x t b c) (hp:H p=some (.ins a.Cli dp fs)) (npx:p≠x) (hpp:H pp=some (.lst [])) (nppt:pp≠t) (hk:kOk k)
  (hO:∀ys k' c' H' qs as,Bp L later 8 k [] c = .ok ((ys,k'),c')->Rdr a H' x t b c'->Mv [x,pp] H H'->H' pp=some (.lst (qs.map V.ref))->(∀c∈as,H c=none)->Cy a as H' qs ys->kOk k'->D.nx [some (.ref x),some (.ref p),some (.str (KS k'))] H')
  (hE:∀e,Bp L later 8 k [] c = .error e->∀dx H',Mv [x,pp] H H'->Flt H' dx 1 e->E (.ref a.CF) (some dx) H') :
  MJ (Eh (tOp rEq (AW 2) (tC (.str (Jd L))))) (Rl (Gg (OQ a) [] E (AL (AW 0) (AL (Gh K (AW 1) fn) (AL (tC (.str (Jd L))) (AL (YF (KU later)) BQ))))) (FQ 2)) D [some (.ref x),some (.ref p),some (.str (KS k))] H:=by
 obtain ⟨dx0,hx0⟩:=R.ins
 have nppx:pp≠x:=CI hpp hx0 (by intro z;cases z)
 have npp:p≠pp:=CI hp hpp (by intro z;cases z)
 refine ⟨fun m σ H'=>∃k' c' ys qs as,∃f:Nat,σ=[some (.ref x),some (.ref p),some (.str (KS k'))]/\Rdr a H' x t b c'/\Mv [x,pp] H H'/\H' pp=some (.lst (qs.map V.ref))/\(∀c∈as,H c=none/\c≠pp/\c≠x)/\Cy a as H' qs ys/\kOk k'/\f+ys.length=8/\m=f/\(k'=some L->f≠0)/\Bp L later 8 k [] c=Bp L later f k' ys c',
  ⟨8,k,c,[],[],[],8,rfl,R,Mv.refl,hpp,fun c hc=>(by cases hc),Cy.nil,hk,rfl,rfl,fun _=>by decide,rfl⟩,?_⟩
 rintro m σ H1 hI_
 refine hid fun X_ k_=>?_
 obtain ⟨k1,c1,ys,qs,as,f,rfl,R1,M1,hpp1,has,hP1,hk1,hf,rfl,hf0,e1⟩:=hI_
 refine k_ ?_;clear k_
 refine ⟨_,rfl,rfl,_,rfl,?_⟩
 rw[Zz hk1 (.inr hL)]
 by_cases hq:k1=some L
 ·rw[decide_eq_true hq]
  obtain ⟨f,rfl⟩:∃g,m=g+1:=⟨m-1,by have:=hf0 hq;omega⟩
  rw[aw hq] at e1
  refine Bx ⟨fun σ' H'=>_,fun σ' H' z=>z,?_⟩
  have hp1:H1 p=some (.ins a.Cli dp fs):=M1 _ _ hp (by simp[npx,npp])
  refine ⟨_,rfl,_,rfl,AA p a.Cli dp fs _ ⟨ rfl,hp1,cl,hnf,hfs,?_⟩⟩
  refine MY later ⟨?_,fun pb hpb=>?_⟩
  ·unfold Cv
   simp only [List.length_map]
   exact Nat.le_trans hll (by decide)
  have up:∀{c:Addr}{o:HO},H1 c=some o->(upd H1 pb (.tup (Cv (later.map wd)))) c=some o:=fun {c o} e=>by rw[Ai (An e hpb)];exact e
  have hql:qs.length=ys.length:=hP1.1
  have up2:Mv [x,pp] H (upd H1 pb (.tup (Cv (later.map wd)))):=fun c o e n=>up (M1 c o e n)
  refine ⟨x,t,b,c1,pp,pb,L,later,qs,rfl,up hpp1,by omega,nppt,Ae,hL,fun y hy=>.inr (.inr (hla y hy)),hll,R1.lay hpb,fun y c2 e2 v H2 R2 M2 hv=>?_,fun e e2 d2 H2 M2 hF=>?_⟩
  ·obtain ⟨y,k2⟩:=y
   obtain ⟨rfl,q,as2,hpp2,has2,hPq⟩:=hv
   have hk2:=eT e2 R1.inn
   rw[hql] at e2 hk2
   rw[e2] at e1
   have nas2:∀c∈as2,H c=none/\c≠pp/\c≠x:=fun c hc=>by
    have h1:=has2 c hc
    have n1:c≠pp:=Bd h1 (up hpp1)
    obtain ⟨dx1,hx1⟩:=R1.ins
    have n2:c≠x:=Bd h1 (up hx1)
    exact ⟨up2.none (by simp[n1,n2]) h1,n1,n2⟩
   refine ⟨f,by omega,k2,c2,ys++[y],qs++[q],as++as2,f,rfl,R2,up2.trans M2,hpp2,fun c hc=>?_,Cy.snoc (hP1.mono (fun c hc=>List.mem_append_left _ hc) fun c hc o z=>M2 _ _ (up z) (by simp[(has c hc).2.1,(has c hc).2.2])) (hPq.mono (fun c hc=>List.mem_append_right _ hc) fun _ _ _ z=>z),?_,by simp;omega,rfl,fun hz h0=>?_,e1⟩
   ·rcases List.mem_append.mp hc with hc|hc
    ·exact has c hc
    ·exact nas2 c hc
   ·cases k2 with
    |none=>exact .inl rfl
    |some z=>
     have:=hk2 z rfl
     unfold KZ at this
     rcases List.mem_append.mp this with r|r
     ·split at r
      ·rw[List.mem_singleton] at r
       rw[r]
       rcases hL with h|h
       ·rw[h];exact .inr (.inr (.inl rfl))
       ·rw[h];exact .inr (.inr (.inr rfl))
      ·cases r
     ·rw[hla z r];exact .inr (.inr (.inr rfl))
   ·have:=hk2 L hz
    unfold KZ at this
    rw[if_neg (by omega)] at this
    exact hLl (by simpa using this)
  ·rw[hql] at e2
   refine hE e ?_ _ _ (up2.trans M2) hF
   rw[e1,e2]
   rfl
 ·rw[decide_eq_false hq]
  refine Bw (hO ys k1 c1 H1 qs as ?_ R1 M1 hpp1 (fun c hc=>(has c hc).1) hP1 hk1)
  rw[e1,ax hq]
noncomputable def T90:Str×Bytes:=("90",ascii "90")
noncomputable def bo:Str×Bytes:=("180",ascii "180")
noncomputable def bp:Str×Bytes:=("270",ascii "270")
theorem Xg (c:Cur):∃g:Str->Nat,turnIn c=(choice [T90,bo,bp] c).map fun q=>(g q.1,q.2):=by
 have h1:T90=(("90":Str),57::[48]):=by unfold T90;rw[show ascii "90" = 57::[48] by decide +kernel]
 have h2:bo=(("180":Str),49::[56,48]):=by unfold bo;rw[show ascii "180" = 49::[56,48] by decide +kernel]
 have h3:bp=(("270":Str),50::[55,48]):=by unfold bp;rw[show ascii "270" = 50::[55,48] by decide +kernel]
 refine ⟨fun s=>if s="90" then 1 else if s="180" then 2 else 3,?_⟩
 unfold turnIn
 rw[h1,h2,h3,show ascii "90" = 57::[48] by decide +kernel,show ascii "180" = 49::[56,48] by decide +kernel,show ascii "270" = 50::[55,48] by decide +kernel]
 by_cases q1:c.next=some 57
 ·rw[if_pos q1,Ca q1]
  cases lit (57::[48]) c with
  |error p=>rfl
  |ok d=>rfl
 ·rw[if_neg q1,BU q1]
  by_cases q2:c.next=some 49
  ·rw[if_pos q2,Ca q2]
   cases lit (49::[56,48]) c with
   |error p=>rfl
   |ok d=>rfl
  ·rw[if_neg q2,BU q2]
   by_cases q3:c.next=some 50
   ·rw[if_pos q3,Ca q3]
    cases lit (50::[55,48]) c with
    |error p=>rfl
    |ok d=>rfl
   ·rw[if_neg q3,BU q3]
    rfl
theorem YL:Words [T90,bo,bp]:=fun q hq=>by
 rcases List.mem_cons.mp hq with rfl|hq
 ·exact ⟨by show codes _=_;decide +kernel,by decide +kernel,by decide +kernel⟩
 rcases List.mem_cons.mp hq with rfl|hq
 ·exact ⟨by show codes _=_;decide +kernel,by decide +kernel,by decide +kernel⟩
 rw[List.mem_singleton] at hq
 subst hq
 exact ⟨by show codes _=_;decide +kernel,by decide +kernel,by decide +kernel⟩
end
end Td
namespace Td
open PySem PySem.Spec PyProof.Rows L2
open Tide (Bytes Cur lit some_ someDigits nameIn isDigit isLetter nextIs decimal pointed plainNumber blank number termIn behind terms sumIn mays partsIn turnIn lineIn linesIn Term Part Line LF ascii)
section
variable {P:Program}{w:World}{K:PySem.W.Frag}{mg:Str->Option Value}{base:Heap}{a:Ad}
noncomputable def fE (a:Ad):Sp:=fun vs H Q E=>∃x t b c p dx wo pn pl pt pf ps,vs=[.ref x,.ref p]/\H p=some (.ins a.Cli dx (lnf wo pn pl 0 pt pf ps))/\H pt=some (.lst [])/\H pf=some (.lst [])/\H ps=some (.lst [])/\pt≠pf/\pt≠ps/\pf≠ps/\pt≠t/\pf≠t/\ps≠t/\Rdr a H x t b c /\
 Tk a [pt,pf,ps] H x t b Q E (JM c) fun y v H'=>v = .non/\∃as ts qf qs,(∀c∈as,H c=none)/\H' pt=some (.lst (ts.map V.ref))/\BJ a as H' ts y.1/\H' pf=some (.lst (qf.map V.ref))/\Cy a as H' qf y.2.2.1/\H' ps=some (.lst (qs.map V.ref))/\Cy a as H' qs y.2.2.2
theorem Wa {S:List Addr}{H H1:Hp}{as:List Addr} (M:Mv S H H1) (hS:∀c∈S,∃o,H1 c=some o) (h:∀c∈as,H1 c=none):∀c∈as,H c=none:=fun c hc=>M.none (fun z=>by obtain ⟨o,e⟩:=hS c z;rw[h c hc] at e;cases e) (h c hc)
theorem US (T:Txt K mg a):Cal P w K mg base a 9 "read_wave" NA (fE a):=by
 refine AF (k:=8) T.VY DA (fun _ _ _ _ _ _=>Fh fun _ _=>rfl) (fun _ _ _ _=>fX fun _ _ _ _ _ _ _ _ _ _ _ _=>rfl) (fun f cdv A outer s H vs Q E hr h=>?_)
 ·refine hid fun X_ k_=>?_
  obtain ⟨x,t,b,c,p,dp,wo,pn,pl,pt,pf,ps,rfl,hp,hpt,hpf,hps,n1,n2,n3,nt1,nt2,nt3,R,kO,kE⟩:=h
  refine k_ ?_;clear k_
  refine ⟨_,(Ab (Al (i:=2) DA.nd rfl (Or.inl rfl) (Ar (FJ T) hr Ak (Aa (pv 0) (Aa (Au (pv 1) rfl) (Aa (CW (Aa (BP T.bA) (Aa (BP T.Kt) (Aa (BP T.Kv) Ac)))) Ac))))) (Ab (AS (Av BA (pv 2) (BP T.bA) (AB _)) (Ab (AJ (AE (BM T) T.Aj hr Ak (pv 0) (Aa (CW (Aa AH (Aa AH (Aa AH Ac)))) Ac))) (Af (Al (i:=2) DA.nd rfl (Or.inl rfl) (AE (DE T) T.Aj hr Ak (pv 0) (Aa (CW (Aa (BP T.Kt) (Aa (BP T.Kv) Ac))) Ac))))) Ax) (Ab (Cs El (Av BA (pv 2) (BP T.Kt) (AB _)) (Af (Al (i:=2) DA.nd rfl (Or.inl rfl) (Ar (Lj T) hr Ak (Aa (pv 0) (Aa (Au (pv 1) rfl) (Aa (BP T.Kt) (Aa (CW (Aa (BP T.Kv) Ac)) Ac)))))))) (Af (Cs El (Av BA (pv 2) (BP T.Kv) (AB _)) (Af (Al (i:=2) DA.nd rfl (Or.inl rfl) (Ar (Lj T) hr Ak (Aa (pv 0) (Aa (Au (pv 1) rfl) (Aa (BP T.Kv) (Aa (CW Ac) Ac)))))))))))),?_⟩
  obtain ⟨dx,hx⟩:=R.ins
  have npx:p≠x:=CI hp hx (by intro z;have:=(HO.ins.inj z).2.2;exact absurd (congrArg List.length this) (by show ¬7=2;decide))
  have npt:p≠pt:=CI hp hpt (by intro z;cases z)
  have npf:p≠pf:=CI hp hpf (by intro z;cases z)
  have nps:p≠ps:=CI hp hps (by intro z;cases z)
  have nxt:pt≠x:=CI hpt hx (by intro z;cases z)
  have nxf:pf≠x:=CI hpf hx (by intro z;cases z)
  have nxs:ps≠x:=CI hps hx (by intro z;cases z)
  have loops:∀(s:List Term) (q:Nat) (k:Option UInt8) (c1:Cur) (H1:Hp) (as1 ts:List Addr),Rdr a H1 x t b c1->Mv [x,pt,pf,ps] H H1->H1 p=some (.ins a.Cli dp (lnf wo pn pl 0 pt pf ps))->H1 pf=some (.lst [])->H1 ps=some (.lst [])->kOk k->(∀c∈as1,H c=none/\c≠x/\c≠pf/\c≠ps)->H1 pt=some (.lst (ts.map V.ref))->BJ a as1 H1 ts s ->
    JM c=(Bp 102 [115] 8 k [] c1 >>= fun f=>Bp 115 [] 8 f.1.2 [] f.2 >>= fun r=>pure ((s,q,f.1.1,r.1.1),r.2)) ->
    Kl (MJ (Eh (tOp rEq (AW 2) (tC (.str (Jd 102))))) (Rl (Gg (OQ a) [] E (AL (AW 0) (AL (Gh K (AW 1) "factors") (AL (tC (.str (Jd 102))) (AL (YF (KU [115])) BQ))))) (FQ 2)))
     (MJ (Eh (tOp rEq (AW 2) (tC (.str (Jd 115))))) (Rl (Gg (OQ a) [] E (AL (AW 0) (AL (Gh K (AW 1) "shifts") (AL (tC (.str (Jd 115))) (AL (YF (KU [])) BQ))))) (FQ 2)))
     { nx:=fun _ H'=>Q .non H',rt:=Q } [some (.ref x),some (.ref p),some (.str (KS k))] H1:=by
   intro s q k c1 H1 as1 ts R1 M1 hp1 hpf1 hps1 hk1 has1 hpt1 hT1 e1
   refine QL (.inl rfl) (by decide) (fun y hy=>by simpa using hy) (by decide) T.AX T.Ds rfl R1 hp1 npx hpf1 nt2 hk1 (fun ys k2 c2 H2 qf as2 e2 R2 M2 hpf2 has2 hP2 hk2=>?_) (fun e e2 d2 H2 M2 hF=>?_)
   ·rw[e2] at e1
    have M12:Mv [x,pt,pf,ps] H H2:=M1.trans (M2.mono fun c hc=>by simp at hc ⊢;rcases hc with h|h<;>simp[h])
    have hp2:=M2 _ _ hp1 (by simp[npx,npf])
    have hps2:=M2 _ _ hps1 (by simp[nxs,Ne.symm n3])
    have hpt2:=M2 _ _ hpt1 (by simp[nxt,n1])
    have as2n:∀c∈as2,H c=none/\c≠x/\c≠pf/\c≠ps/\c≠pt:=fun c hc=>by
     have h:=has2 c hc
     obtain ⟨dx1,hx1⟩:=R1.ins
     have m1:=Bd h hx1
     have m2:=Bd h hpf1
     have m3:=Bd h hps1
     have m4:=Bd h hpt1
     exact ⟨M1.none (by simp[m1,m2,m3,m4]) h,m1,m2,m3,m4⟩
    have hT2:BJ a as1 H2 ts s:=hT1.mono (fun _ z=>z) fun c hc o z=>M2 _ _ z (by simp[(has1 c hc).2.1,(has1 c hc).2.2.1])
    refine QL (.inr rfl) (by simp) (fun y hy=>by cases hy) (by decide) T.AX T.FH rfl R2 hp2 npx hps2 nt3 hk2 (fun zs k3 c3 H3 qs as3 e3 R3 M3 hps3 has3 hP3 hk3=>?_) (fun e e3 d2 H3 M3 hF=>?_)
    ·have M13:Mv [x,pt,pf,ps] H H3:=M12.trans (M3.mono fun c hc=>by simp at hc ⊢;rcases hc with h|h<;>simp[h])
     refine kO (s,q,ys,zs) c3 (by rw[e1];show (Bp 115 [] 8 k2 [] c2 >>= _)=_;rw[e3];rfl) _ _ R3 M13 ⟨rfl,as1++(as2++as3),AN ts qf qs ⟨ fun c hc=>?_,M3 _ _ hpt2 (by simp[nxt,n2]),?_,M3 _ _ hpf2 (by simp[nxf,n3]),?_,hps3,?_⟩⟩
     ·rcases List.mem_append.mp hc with hc|hc
      ·exact (has1 c hc).1
      rcases List.mem_append.mp hc with hc|hc
      ·exact (as2n c hc).1
      ·have h:=has3 c hc
       obtain ⟨dx2,hx2⟩:=R2.ins
       exact M12.none (by simp[Bd h hx2,Bd h hpf2,Bd h hps2,Bd h hpt2]) h
     ·exact hT2.mono (fun c hc=>by simp[hc]) fun c hc o z=>M3 _ _ z (by simp[(has1 c hc).2.1,(has1 c hc).2.2.2])
     ·exact hP2.mono (fun c hc=>by simp[hc]) fun c hc o z=>M3 _ _ z (by simp[(as2n c hc).2.1,(as2n c hc).2.2.2.1])
     ·exact hP3.mono (fun c hc=>by simp[hc]) fun _ _ _ z=>z
    ·refine kE e ?_ _ _ (M12.trans (M3.mono fun c hc=>by simp at hc ⊢;rcases hc with h|h<;>simp[h])) hF
     rw[e1]
     show (Bp 115 [] 8 k2 [] c2 >>= _)=_
     rw[e3]
     rfl
   ·refine kE e ?_ _ _ (M1.trans (M2.mono fun c hc=>by simp at hc ⊢;rcases hc with h|h<;>simp[h])) hF
    rw[e1,e2]
    rfl
  refine ⟨_,rfl,_,rfl,AA p a.Cli dp _ _ ⟨ rfl,hp,T.AX,T.Co,rfl,(by show 3<=sizeLine;decide),fun pj hpj=>?_⟩⟩
  have upj:∀{c:Addr}{o:HO}{u:HO},H c=some o->(upd H pj u) c=some o:=fun {c o u} e=>by rw[Ai (An e hpj)];exact e
  refine ⟨x,t,b,c,pt,pj,[116,102,115],rfl,upj hpt,nt1,Ae,fun y hy=>by simpa using hy,by decide,R.lay hpj,fun y c1 e1 v H1 R1 M1 hv=>?_,fun e e1 d2 H2 M2 hF=>kE e (by unfold JM;rw[e1];rfl) _ _ (fun c o z n=>M2 c o (upj z) (by simp at n ⊢;exact ⟨n.1,n.2.1⟩)) hF⟩
  obtain ⟨s,k⟩:=y
  refine hid fun X_ k_=>?_
  obtain ⟨rfl,ts,as1,hpt1,has1,hT1⟩:=hv
  refine k_ ?_;clear k_
  have hk1:kOk k:=by
   cases k with
   |none=>exact .inl rfl
   |some z=>
    refine hid fun X_ k_=>?_
    obtain ⟨h1,h2,h3⟩:=Zs e1 R.inn z rfl
    refine k_ ?_;clear k_
    simp at h1
    rcases h1 with h|h|h
    ·rw[h];exact .inr (.inl rfl)
    ·rw[h];exact .inr (.inr (.inl rfl))
    ·rw[h];exact .inr (.inr (.inr rfl))
  have M1':Mv [x,pt,pf,ps] H H1:=fun c o z n=>M1 c o (upj z) (by simp at n ⊢;exact ⟨n.1,n.2.1⟩)
  have hp1:=M1 _ _ (upj (u:=.tup (Cv ([116,102,115].map wd))) hp) (by simp[npx,npt])
  have hpf1:=M1 _ _ (upj (u:=.tup (Cv ([116,102,115].map wd))) hpf) (by simp[nxf,Ne.symm n1])
  have hps1:=M1 _ _ (upj (u:=.tup (Cv ([116,102,115].map wd))) hps) (by simp[nxs,Ne.symm n2])
  have has1':∀c∈as1,H c=none/\c≠x/\c≠pf/\c≠ps:=fun c hc=>by
   have h:=has1 c hc
   refine ⟨?_,Bd h (upj hx),Bd h (upj hpf),Bd h (upj hps)⟩
   cases z:H c with
   |none=>rfl
   |some o=>rw[upj z] at h;cases h
  have hall:JM c=(Rq k c1 >>= fun z=>Bp 102 [115] 8 z.1.2 [] z.2 >>= fun f=>Bp 115 [] 8 f.1.2 [] f.2 >>= fun r=>pure ((s,z.1.1,f.1.1,r.1.1),r.2)):=by
   unfold JM
   rw[e1]
   rfl
  refine ⟨_,rfl,rfl,_,rfl,?_⟩
  rw[show decide (V.str (KS k)=V.str "turn ")=decide (k=some 116) from Zz hk1 (.inl rfl)]
  by_cases hq:k=some 116
  ·rw[decide_eq_true hq]
   obtain ⟨dx1,hx1⟩:=R1.ins
   obtain ⟨g,hg⟩:=Xg c1
   have ht:Rq k c1=(turnIn c1 >>= fun q=>behind [102,115] q.2 >>= fun r=>Cb r.1 r.2 >>= fun d=>pure ((q.1,r.1),d)):=if_pos hq
   refine Bx ⟨_,rfl,AN x dx1 _ ⟨ rfl,hx1,rfl,(by show 3<=sizeLine;decide),fun pk hpk=>?_⟩⟩
   refine (AA x t b c1 pk ⟨ [T90,bo,bp],rfl,SqT.of Ae,YL,R1.lay hpk,fun y c2 e2 v H2 R2 M2 hv=>?_,fun e e2 d2 H2 M2 hF=>?_⟩)
   ·have upk:∀{c:Addr}{o:HO}{u:HO},H1 c=some o->(upd H1 pk u) c=some o:=fun {c o u} e=>by rw[Ai (An e hpk)];exact e
    have M2':Mv [x,pt,pf,ps] H H2:=M1'.trans fun c o z n=>M2 c o (upk z) (by simp at n ⊢;exact n.1)
    obtain ⟨dx2,hx2⟩:=R2.ins
    refine ⟨_,rfl,AN x dx2 _ ⟨ rfl,hx2,rfl,(by show 2<=sizeLine;decide),fun pm hpm=>?_⟩⟩
    have upm:∀{c:Addr}{o:HO}{u:HO},H2 c=some o->(upd H2 pm u) c=some o:=fun {c o u} e=>by rw[Ai (An e hpm)];exact e
    have ht2:Rq k c1=(behind [102,115] c2 >>= fun r=>Cb r.1 r.2 >>= fun d=>pure ((g y,r.1),d)):=by rw[ht,hg,e2];rfl
    refine (AA x t b c2 pm ⟨ [102,115].map wd,rfl,Ae,words_of (fun z hz=>by simp at hz;rcases hz with h|h<;>rw[h];exact .inr (.inr (.inr (.inl rfl)));exact .inr (.inr (.inr (.inr rfl)))),R2.lay hpm,fun y3 c3 e3 v3 H3 R3 M3 hv3=>?_,fun e e3 d2 H3 M3 hF=>?_⟩)
    ·subst hv3
     rw[KH] at e3
     refine hid fun X_ k_=>?_
     obtain ⟨r,hr,he⟩:=Ag.mp e3
     refine k_ ?_;clear k_
     refine hid fun X_ k_=>?_
     obtain ⟨e8,hE,hy⟩:=Ek.mp he
     refine k_ ?_;clear k_
     obtain ⟨k2,d⟩:=r
     cases hy
     have hk2:=(EH hr R2.inn).2.2
     have M3':Mv [x,pt,pf,ps] H H3:=M2'.trans fun c o z n=>M3 c o (upm z) (by simp at n ⊢;exact n.1)
     have keep:∀{c:Addr}{o:HO},c≠x->H1 c=some o->H3 c=some o:=fun {c o} n z=>M3 _ _ (upm (M2 _ _ (upk z) (by simpa using n))) (by simpa using n)
     refine loops s (g y) k2 c3 H3 as1 ts R3 M3' (keep npx hp1) (keep nxf hpf1) (keep nxs hps1) ?_ has1' (keep nxt hpt1) (hT1.mono (fun _ z=>z) fun c hc o z=>keep (has1' c hc).2.1 z) ?_
     ·cases k2 with
      |none=>exact .inl rfl
      |some z=>
       have:=hk2 z rfl
       simp at this
       rcases this with h|h
       ·rw[h];exact .inr (.inr (.inl rfl))
       ·rw[h];exact .inr (.inr (.inr rfl))
     ·rw[hall,ht2,hr]
      show ((Cb k2 d >>= _) >>= _)=_
      rw[show Cb k2 d = .ok c3 from hE]
      rfl
    ·refine kE e ?_ _ _ (M2'.trans fun c o z n=>M3 c o (upm z) (by simp at n ⊢;exact n.1)) hF
     rw[KH] at e3
     rw[hall,ht2]
     cases hr:behind [102,115] c2 with
     |error p2=>rw[hr] at e3;cases e3;rfl
     |ok r=>
      rw[hr] at e3
      replace e3:(Cb r.1 r.2).map _ = .error e:=e3
      show ((Cb r.1 r.2 >>= _) >>= _)=_
      cases hE:Cb r.1 r.2 with
      |error p2=>rw[hE] at e3;cases e3;rfl
      |ok e8=>rw[hE] at e3;cases e3
   ·refine kE e ?_ _ _ (M1'.trans fun c o z n=>M2 c o (by rw[Ai (An z hpk)];exact z) (by simp at n ⊢;exact n.1)) hF
    rw[hall,ht,hg,e2]
    rfl
  ·rw[decide_eq_false hq]
   refine Bw (loops s 0 k c1 H1 as1 ts R1 M1' hp1 hpf1 hps1 hk1 has1' hpt1 hT1 ?_)
   rw[hall]
   unfold Rq
   rw[if_neg hq]
   rfl
end
end Td
namespace Td
open PySem PySem.Spec PyProof.Rows L2
open Tide (Bytes Cur lit some_ someDigits nameIn isDigit isLetter nextIs decimal pointed plainNumber blank number termIn behind terms sumIn mays partsIn turnIn lineIn linesIn Term Part Line LF ascii)
noncomputable def wordOf:Line->Str
 |.angle ..=>"angle "
 |.wave ..=>"wave "
 |.sum ..=>"sum "
noncomputable def MD:Line->Int
 |.angle _ _ _ r=>r
 |_=>0
noncomputable def sumOf:Line->List Term
 |.angle ..=>[]
 |.wave _ _ s _ _ _=>s
 |.sum _ _ s=>s
noncomputable def CZ:Line->List Part
 |.wave _ _ _ _ f _=>f
 |_=>[]
noncomputable def Ge:Line->List Part
 |.wave _ _ _ _ _ s=>s
 |_=>[]
noncomputable def TH (a:Ad) (as:List Addr) (H:Hp) (p:Addr) (l:Line):Prop:=∃dx pn pt pf ps ts qf qs,H p=some (.ins a.Cli dx (lnf (wordOf l) pn l.place (MD l) pt pf ps))/\H pn=some (.tup (bV l.name))/\H pt=some (.lst (ts.map V.ref))/\BJ a as H ts (sumOf l) /\
 H pf=some (.lst (qf.map V.ref))/\Cy a as H qf (CZ l)/\H ps=some (.lst (qs.map V.ref))/\Cy a as H qs (Ge l)/\p∈as/\pn∈as/\pt∈as/\pf∈as/\ps∈as
theorem Pd {d:Cur}:∀{ws:List (Str×Bytes)}{c:Cur}{y:Str},choice ws c = .ok (y,d)->∃q∈ws,y=q.1
 |[],c,y,h=>by cases h
 |q::r,c,y,h=>by
  rw[choice] at h
  by_cases z:c.next=q.2.head?
  ·rw[if_pos z] at h
   obtain ⟨d,_,e⟩:=Ek.mp h
   cases e
   exact ⟨q,by simp,rfl⟩
  ·rw[if_neg z] at h
   obtain ⟨q',m,e⟩:=Pd h
   exact ⟨q',by simp[m],e⟩
theorem XZ:Words [OT,Vt,bj]:=fun q hq=>by
 rcases List.mem_cons.mp hq with rfl|hq
 ·exact ⟨by show codes _=_;decide +kernel,by decide +kernel,by decide +kernel⟩
 rcases List.mem_cons.mp hq with rfl|hq
 ·exact ⟨by show codes _=_;decide +kernel,by decide +kernel,by decide +kernel⟩
 rw[List.mem_singleton] at hq
 subst hq
 exact ⟨by show codes _=_;decide +kernel,by decide +kernel,by decide +kernel⟩
section
variable {P:Program}{w:World}{K:PySem.W.Frag}{mg:Str->Option Value}{base:Heap}{a:Ad}
theorem TH.mono {as as':List Addr}{H H':Hp}{p:Addr}{y:Line} (h:TH a as H p y) (s:∀c∈as,c∈as') (k:∀c∈as,∀o,H c=some o->H' c=some o):TH a as' H' p y:=by
 obtain ⟨dx,pn,pt,pf,ps,ts,qf,qs,h1,h2,h3,h4,h5,h6,h7,h8,m1,m2,m3,m4,m5⟩:=h
 exact ⟨dx,pn,pt,pf,ps,ts,qf,qs,k _ m1 _ h1,k _ m2 _ h2,k _ m3 _ h3,h4.mono s k,k _ m4 _ h5,h6.mono s k,k _ m5 _ h7,h8.mono s k,s _ m1,s _ m2,s _ m3,s _ m4,s _ m5⟩
noncomputable def fA (a:Ad):Sp:=fun vs H Q E=>∃x t b c,vs=[.ref x]/\Rdr a H x t b c/\Tk a [] H x t b Q E (lineIn c) fun y v H'=>∃p as,v = .ref p/\(∀c∈as,H c=none)/\TH a as H' p y
theorem UQ (T:Txt K mg a):Cal P w K mg base a 10 "read_line" Nv (fA a):=by
 refine AF (k:=9) T.VU EE (fun _ _ _ _ _ _=>CC fun _=>rfl) (fun _ _ _ _=>IZ fun _ _ _ _=>rfl) (fun f cdv A outer s H vs Q E hr h=>?_)
 ·obtain ⟨x,t,b,c,rfl,R,kO,kE⟩:=h
  refine ⟨_,(Ab (Al (i:=1) EE.nd rfl (Or.inl rfl) (AE (BM T) T.Aj hr Ak (pv 0) (Aa (CW (Aa (BP T.Ks) (Aa (BP T.TX) (Aa (BP T.bz) Ac)))) Ac))) (Ab (Al (i:=2) EE.nd rfl (Or.inl rfl) (Au (pv 0) rfl)) (Ab (Al (i:=3) EE.nd rfl (Or.inl rfl) (Gx (UI T) hr Ak (Aa (pv 1) (Aa (BZ (CS T) T.Aj hr Ak (pv 0)) (Aa (pv 2) Ac))))) (Ab (AJ (AE (As T) T.Aj hr Ak (pv 0) (Aa AH Ac))) (Ab (AS (Av BA (pv 1) (BP T.Ks) (AB _)) (Af (AJ (Ar (Sf T) hr Ak (Aa (pv 0) (Aa (pv 3) Ac))))) (Af (AS (Av BA (pv 1) (BP T.TX) (AB _)) (Af (AJ (Ar (US T) hr Ak (Aa (pv 0) (Aa (pv 3) Ac))))) (Af (AJ (Ar (FJ T) hr Ak (Aa (pv 0) (Aa (Au (pv 3) rfl) (Aa (CW Ac) Ac))))))))) (Af (Ap (pv 3)))))))),?_⟩
  rw[eM R.inn] at kO kE
  obtain ⟨dx,hx⟩:=R.ins
  refine ⟨_,rfl,AN x dx _ ⟨ rfl,hx,rfl,(by show 3<=sizeLine;decide),fun pj hpj=>?_⟩⟩
  have upj:∀{c:Addr}{o:HO}{u:HO},H c=some o->(upd H pj u) c=some o:=fun {c o u} e=>by rw[Ai (An e hpj)];exact e
  refine (AA x t b c pj ⟨ [OT,Vt,bj],rfl,SqT.of Ae,XZ,R.lay hpj,fun wo c1 e1 v H1 R1 M1 hv=>?_,fun e e1 d2 H2 M2 hF=>kE e (by unfold Jj;rw[e1];rfl) _ _ (fun c o z n=>M2 c o (upj z) n) hF⟩)
  subst hv
  have M1':Mv [x] H H1:=fun c o z n=>M1 c o (upj z) n
  obtain ⟨dx1,hx1⟩:=R1.ins
  refine ⟨_,rfl,AA x a.CR dx1 _ _ ⟨ rfl,hx1,T.Aj,T.AG,rfl,?_⟩⟩
  refine ⟨_,rfl,_,rfl,AN x dx1 _ ⟨ rfl,hx1,rfl,Aw x t b c1 ⟨ rfl,R1,fun n c2 e2 v H2 R2 M2 hv=>?_,fun e e2 d2 H2 M2 hF=>kE e (by unfold Jj;rw[e1];show nameIn c1 >>= _=_;rw[e2];rfl) _ _ (M1'.trans M2) hF⟩⟩⟩
  obtain ⟨pn,rfl,hpn0,hpn⟩:=hv
  have M2':=M1'.trans M2
  refine ⟨_,rfl,fun p dp hp0 hdp ne=>?_⟩
  refine (Aw p dp wo pn ⟨ c1.at_,rfl,Ae,fun H3 pt pf ps hp3 hpt3 hpf3 hps3 fpt fpf fps n1 n2 n3 M3=>⟨rfl,?_⟩⟩)
  have un:∀{c:Addr},(upd (upd H2 dp (.own p)) p (.ins a.Cli dp [])) c=none->H2 c=none:=fun {c} h=>by
   have m1:c≠p:=Bd h Ae
   rw[Ai m1] at h
   have m2:c≠dp:=Bd h Ae
   rw[Ai m2] at h
   exact h
  have old:∀{c:Addr}{o:HO},H2 c=some o->H3 c=some o:=fun {c o} e=>M3 c o (DX hp0 hdp e) (by simpa using An e hp0)
  have R3:Rdr a H3 x t b c2:=R2.keep (fun o e=>old e) fun o e=>old e
  have M3':Mv [x] H H3:=fun c o e n=>old (M2' c o e n)
  have fH:∀{c:Addr},H2 c=none->H c=none:=fun {c} h=>M2'.none (by simpa using (R2.new h).1) h
  have gpt:=fH (un fpt)
  have gpf:=fH (un fpf)
  have gps:=fH (un fps)
  have gp:=fH hp0
  have gpn:H pn=none:=M1'.none (by simpa using (R1.new hpn0).1) hpn0
  have hpn3:=old hpn
  have ntxt:∀{c:Addr},H c=none->c≠t:=fun {c} h z=>by rw[z,R.txt] at h;cases h
  have nx':∀{c:Addr},H c=none->c≠x:=fun {c} h z=>by rw[z,hx] at h;cases h
  obtain ⟨dx3,hx3⟩:=R3.ins
  refine ⟨_,rfl,AN x dx3 _ ⟨ rfl,hx3,rfl,AA x t b c2 _ ⟨ [32],rfl,rfl,R3,fun c4 e4 H4 R4 M4=>?_,fun e e4 d2 H4 M4 hF=>kE e (by unfold Jj;rw[e1];show nameIn c1 >>= _=_;rw[e2];show lit [32] c2 >>= _=_;rw[e4];rfl) _ _ (M3'.trans M4) hF⟩⟩⟩
  have M4':=M3'.trans M4
  have hall:Jj c=Dc wo n c1.at_ c4:=by
   unfold Jj
   rw[e1]
   show nameIn c1 >>= _=_
   rw[e2]
   show lit [32] c2 >>= _=_
   rw[e4]
   rfl
  have keep:∀{c:Addr}{o:HO},H c=none->H3 c=some o->H4 c=some o:=fun {c o} g e=>M4 c o e (by simpa using nx' g)
  have hp4:=keep gp hp3
  have hpt4:=keep gpt hpt3
  have hpf4:=keep gpf hpf3
  have hps4:=keep gps hps3
  have hpn4:=keep gpn hpn3
  have npn:pn≠p:=fun z=>(by rw[z,hp0] at hpn;cases hpn)
  have d1:pn≠pt:=fun z=>(by rw[z,un fpt] at hpn;cases hpn)
  have d2:pn≠pf:=fun z=>(by rw[z,un fpf] at hpn;cases hpn)
  have d3:pn≠ps:=fun z=>(by rw[z,un fps] at hpn;cases hpn)
  have e1p:p≠pt:=fun z=>(by rw[<-z,Ae] at fpt;cases fpt)
  have e2p:p≠pf:=fun z=>(by rw[<-z,Ae] at fpf;cases fpf)
  have e3p:p≠ps:=fun z=>(by rw[<-z,Ae] at fps;cases fps)
  obtain ⟨q,hq,rfl⟩:=Pd e1
  rcases List.mem_cons.mp hq with rfl|hq
  ·
   refine ⟨_,rfl,rfl,_,rfl,Bx ?_⟩
   have hA:Jj c=(FE c4).map fun q=>(.angle n c1.at_ q.1.1 q.1.2,q.2):=by rw[hall];exact Rm n c1.at_ c4
   have hj:∀c∈[x,p],c∈[x]\/H c=none:=fun c hc=>by
    rcases List.mem_cons.mp hc with rfl|hc
    ·exact .inl (by simp)
    ·rw[List.mem_singleton] at hc;rw[hc];exact .inr gp
   refine ⟨_,rfl,_,rfl,gG x t b c4 p dp _ pn ⟨ c1.at_,AN pt pf ps ⟨ rfl,hp4,R4,fun y c5 e5 v5 H5 R5 M5 hv5=>?_,fun e e5 dd H5 M5 hF=>kE e (by rw[hA,e5];rfl) _ _ (M4'.join M5 hj) hF⟩⟩⟩
   obtain ⟨rfl,hp5⟩:=hv5
   have k5:∀{c:Addr}{o:HO},H c=none->c≠p->H4 c=some o->H5 c=some o:=fun {c o} g m e=>M5 c o e (by simp[nx' g,m])
   refine ⟨_,rfl,kO (.angle n c1.at_ y.1 y.2) c5 (by rw[hA,e5];rfl) _ _ R5 (M4'.join M5 hj) ⟨p,[p,pn,pt,pf,ps],rfl,fun c hc=>?_,AA dp pn pt pf ps ⟨ [],[],[],hp5,k5 gpn npn hpn4,k5 gpt (Ne.symm e1p) hpt4,BJ.nil,k5 gpf (Ne.symm e2p) hpf4,Cy.nil,k5 gps (Ne.symm e3p) hps4,Cy.nil,by simp,by simp,by simp,by simp,by simp⟩⟩⟩
   simp at hc
   rcases hc with rfl|rfl|rfl|rfl|rfl<;>assumption
  rcases List.mem_cons.mp hq with rfl|hq
  ·
   refine ⟨_,rfl,rfl,_,rfl,Bw ⟨_,rfl,rfl,_,rfl,Bx ?_⟩⟩
   have hA:Jj c=(JM c4).map fun q=>(.wave n c1.at_ q.1.1 q.1.2.1 q.1.2.2.1 q.1.2.2.2,q.2):=by rw[hall];exact Tr n c1.at_ c4
   have hj:∀c∈[x,pt,pf,ps],c∈[x]\/H c=none:=fun c hc=>by
    simp at hc
    rcases hc with rfl|rfl|rfl|rfl
    ·exact .inl (by simp)
    ·exact .inr gpt
    ·exact .inr gpf
    ·exact .inr gps
   refine ⟨_,rfl,_,rfl,x,t,b,c4,p,dp,_,pn,c1.at_,pt,pf,ps,rfl,hp4,hpt4,hpf4,hps4,n1,n2,n3,ntxt gpt,ntxt gpf,ntxt gps,R4,fun y c5 e5 v5 H5 R5 M5 hv5=>?_,fun e e5 dd H5 M5 hF=>kE e (by rw[hA,e5];rfl) _ _ (M4'.join M5 hj) hF⟩
   obtain ⟨rfl,as,ts,qf,qs,has,g1,g2,g3,g4,g5,g6⟩:=hv5
   refine ⟨_,rfl,kO (.wave n c1.at_ y.1 y.2.1 y.2.2.1 y.2.2.2) c5 (by rw[hA,e5];rfl) _ _ R5 (M4'.join M5 hj) ⟨p,p::pn::pt::pf::ps::as,rfl,fun c hc=>?_,gG dp pn pt pf ps ts qf qs ⟨ M5 _ _ hp4 (by simp[nx' gp,e1p,e2p,e3p]),M5 _ _ hpn4 (by simp[nx' gpn,d1,d2,d3]),g1,g2.mono (fun c hc=>by simp[hc]) fun _ _ _ z=>z,g3,g4.mono (fun c hc=>by simp[hc]) fun _ _ _ z=>z,g5,g6.mono (fun c hc=>by simp[hc]) fun _ _ _ z=>z,by simp,by simp,by simp,by simp,by simp⟩⟩⟩
   simp at hc
   rcases hc with rfl|rfl|rfl|rfl|rfl|hc
   ·assumption
   ·assumption
   ·assumption
   ·assumption
   ·assumption
   ·exact Wa M4' (fun c hc=>by rw[List.mem_singleton] at hc;rw[hc];obtain ⟨dx4,hx4⟩:=R4.ins;exact ⟨_,hx4⟩) has c hc
  ·
   rw[List.mem_singleton] at hq
   subst hq
   refine ⟨_,rfl,rfl,_,rfl,Bw ⟨_,rfl,rfl,_,rfl,Bw ?_⟩⟩
   have hA:Jj c=(EG [] c4).map fun q=>(.sum n c1.at_ q.1.1,q.2):=by rw[hall];exact Xc n c1.at_ c4
   refine ⟨_,rfl,_,rfl,AA p a.Cli dp _ _ ⟨ rfl,hp4,T.AX,T.Co,rfl,(by show 0<=sizeLine;decide),fun pk hpk=>?_⟩⟩
   have upk:∀{c:Addr}{o:HO}{u:HO},H4 c=some o->(upd H4 pk u) c=some o:=fun {c o u} e=>by rw[Ai (An e hpk)];exact e
   have hj:∀c∈[x,pt],c∈[x]\/H c=none:=fun c hc=>by
    simp at hc
    rcases hc with rfl|rfl
    ·exact .inl (by simp)
    ·exact .inr gpt
   have Mk:∀{u:HO},Mv [x] H (upd H4 pk u):=fun {u} c o e n=>upk (M4' c o e n)
   refine (Pl x t b c4 pt pk ⟨ [],rfl,upk hpt4,ntxt gpt,Ae,fun y hy=>(by cases hy),by decide,R4.lay hpk,fun y c5 e5 v5 H5 R5 M5 hv5=>?_,fun e e5 dd H5 M5 hF=>kE e (by rw[hA,e5];rfl) _ _ (Mk.join M5 hj) hF⟩)
   obtain ⟨rfl,ts,as,g1,has,g2⟩:=hv5
   have k5:∀{c:Addr}{o:HO},H c=none->c≠pt->H4 c=some o->H5 c=some o:=fun {c o} g m e=>M5 c o (upk e) (by simp[nx' g,m])
   refine ⟨_,rfl,kO (.sum n c1.at_ y.1) c5 (by rw[hA,e5];rfl) _ _ R5 (Mk.join M5 hj) ⟨p,p::pn::pt::pf::ps::as,rfl,fun c hc=>?_,Pl dp pn pt pf ps ts ⟨ [],[],k5 gp e1p hp4,k5 gpn d1 hpn4,g1,g2.mono (fun c hc=>by simp[hc]) fun _ _ _ z=>z,k5 gpf (Ne.symm n1) hpf4,Cy.nil,k5 gps (Ne.symm n2) hps4,Cy.nil,by simp,by simp,by simp,by simp,by simp⟩⟩⟩
   simp at hc
   rcases hc with rfl|rfl|rfl|rfl|rfl|hc
   ·assumption
   ·assumption
   ·assumption
   ·assumption
   ·assumption
   ·exact Wa Mk (fun c hc=>by rw[List.mem_singleton] at hc;rw[hc];obtain ⟨dx4,hx4⟩:=R4.ins;exact ⟨_,upk hx4⟩) has c hc
noncomputable def FN (a:Ad) (as:List Addr) (H:Hp) (ps:List Addr) (ys:List Line):Prop:=ps.length=ys.length/\∀(i:Nat) p y,ps[i]?=some p->ys[i]?=some y->TH a as H p y
theorem FN.mono {as as':List Addr}{H H':Hp}{ps:List Addr}{ys:List Line} (h:FN a as H ps ys) (s:∀c∈as,c∈as') (k:∀c∈as,∀o,H c=some o->H' c=some o):FN a as' H' ps ys:=⟨h.1,fun i p x h1 h2=>(h.2 i p x h1 h2).mono s k⟩
theorem FN.nil {as:List Addr}{H:Hp}:FN a as H [] []:=⟨rfl,fun i p x h=>(by cases h)⟩
theorem FN.snoc {as:List Addr}{H:Hp}{ps:List Addr}{ys:List Line}{q:Addr}{y:Line} (h:FN a as H ps ys) (k:TH a as H q y):FN a as H (ps++[q]) (ys++[y]):=by
 refine ⟨by simp[h.1],fun i q' y' h1 h2=>?_⟩
 by_cases hi:i<ps.length
 ·rw[List.getElem?_append_left hi] at h1
  rw[List.getElem?_append_left (by rw[<-h.1];exact hi)] at h2
  exact h.2 i q' y' h1 h2
 ·rw[List.getElem?_append_right (by omega)] at h1
  rw[List.getElem?_append_right (by rw[<-h.1];omega),<-h.1] at h2
  have:i-ps.length=0:=by
   have:=(List.getElem?_eq_some_iff.mp h1).1
   simp at this
   omega
  rw[this] at h1 h2
  cases h1
  cases h2
  exact k
end
end Td
namespace Td
open PySem PySem.Spec PyProof.Rows L2
open Tide (Bytes Cur Term Part Line)
theorem gW {x:Str}{g:TG}{tt:TT}{te:TE}{vs:List Nat}{σ:L2.St}{H1:Hp}{D:Addr}{Qd:Hp->Prop} (Pv:Nat->Hp->Prop) (h0:Pv 0 (upd H1 D (.lst [])))
  (hs:∀(i:Nat) (c:Nat) H,x.cps.toList[i]?=some c->Pv i H->g (.str ⟨#[c]⟩) (wipe σ vs) H fun σ2 H2=>wipe σ2 vs=wipe σ vs/\tt σ2 H2 fun b H3=>
   if b=true then te σ2 H3 fun y H4=>∃acc,H4 D=some (.lst acc)/\acc.length<sizeLine/\Pv (i+1) (upd H4 D (.lst (acc++[y]))) else Pv (i+1) H3) (hd:∀H,Pv x.cps.toList.length H->Qd H) :
  ∃W:Nat->Nat->Hp->Prop,(∃m,W 0 m (upd H1 D (.lst [])))/\∀i m H,W i m H ->
   ((Its x).stop i H/\Qd H)\/((Its x).go i H/\∃Nx:Hp->Prop,(∀H',Nx H'->∃m',m'<m/\W (i+1) m' H')/\∀v H',(Its x).yld i H v H'->g v (wipe σ vs) H' fun σ2 H2=>wipe σ2 vs=wipe σ vs/\tt σ2 H2 fun b H3=>
    if b=true then te σ2 H3 fun y H4=>∃acc,H4 D=some (.lst acc)/\acc.length<sizeLine/\Nx (upd H4 D (.lst (acc++[y]))) else Nx H3):=by
 refine ⟨fun i m H=>m=x.cps.size-i/\i<=x.cps.size/\Pv i H,⟨_,rfl,Nat.zero_le _,h0⟩,?_⟩
 rintro i m H ⟨rfl,hi,p⟩
 by_cases hlt:i<x.cps.size
 ·refine .inr ⟨hlt,Pv (i+1),fun H' p'=>⟨x.cps.size-(i+1),by omega,rfl,hlt,p'⟩,fun v H' y=>?_⟩
  obtain ⟨e,c,hc,ev⟩:=y
  subst e ev
  exact hs i c _ (by simpa using hc) p
 ·have e:i=x.cps.toList.length:=by simp;omega
  refine .inl ⟨by show x.cps.size<=i;omega,hd H ?_⟩
  rw[<-e]
  exact p
theorem yes {σ:L2.St}{H:Hp}{A B:Hp->Prop} (h:A H):jC σ H (fun b H3=>if b=true then A H3 else B H3):=by
 show if true=true then A H else B H
 rw[if_pos rfl]
 exact h
theorem Ly {X:Cx}{e:Expr}{f:Str}{pos:Pos}{ta:TE}{K0:PySem.W.Frag} (hK:X.K=K0) (he:PE X e ta) (hb:attributeBase e f X.env (eval e X.env)=eval e X.env):PE X (.Attribute e f pos) (Gh K0 ta f):=by
 subst hK
 exact Au he hb
section
variable {P:Program}{w:World}{K:PySem.W.Frag}{mg:Str->Option Value}{base:Heap}{a:Ad}
noncomputable def cW:Sp:=fun vs H Q _=>∃s,vs=[.str s]/\(codes s).length<=100000/\∀q H',Mv [] H H'->H q=none->H' q=some (.lst ((codes s).map fun n=>V.int (n:Nat)))->Q (.ref q) H'
theorem HP (T:Txt K mg a):Cal P w K mg base a 1 "bytes_of" QA cW:=by
 refine AF (k:=0) T.XF IB (fun _ _ _ _ _ _=>CC fun _=>rfl) (fun _ _ _ _=>Wg fun _=>rfl) (fun f cdv A outer s H vs Q E hr h=>?_)
 ·obtain ⟨sx,rfl,hl,k⟩:=h
  refine ⟨_,(Af (Ap (QM (own:=[("sign",1)]) rfl IB.nd (cF (pv 0)) (EJ (by show TN Qc (Ah Ki) _ _=true;decide +kernel)) (fun _ _ _ _ _=>(Bm (i:=1) IB.nd rfl (Or.inl rfl))) (fun _ _ _ _ _=>Gz) (fun _ _ _ _ _=>by exact (AD CG rfl T.Hy boot_ord (Aa (pv 1) Ac)))))),?_⟩
  refine ⟨_,rfl,_,rfl,fun D hD=>?_⟩
  refine gW (x:=sx) (fun i H'=>Mv [] H H'/\H' D=some (.lst (((codes sx).take i).map fun n=>V.int (n:Nat)))) ⟨Mv.new hD,Ae⟩ ?_ ?_
  ·rintro i c H1 hc ⟨M1,hd1⟩
   refine ⟨rfl,yes ⟨_,rfl,_,rfl,rfl,?_⟩⟩
   have hi:i<(codes sx).length:=(List.getElem?_eq_some_iff.mp hc).1
   refine ⟨_,hd1,?_,M1.ext hD,?_⟩
   ·rw[List.length_map,List.length_take]
    exact Nat.lt_of_le_of_lt (show min i (codes sx).length<=100000 by omega) (by decide)
   ·rw[Ae,List.take_succ_eq_append_getElem hi,List.map_append]
    have:(codes sx)[i]=c:=(List.getElem?_eq_some_iff.mp hc).2
    rw[this]
    rfl
  ·rintro H1 ⟨M1,hd1⟩
   refine k D H1 M1 hD ?_
   rw[hd1]
   show some (HO.lst (((codes sx).take (codes sx).length).map _))=_
   rw[List.take_length]
end
end Td
namespace Td
open PySem PySem.Spec PyProof.Rows L2
open Tide (Bytes Cur lit some_ someDigits nameIn isDigit isLetter nextIs decimal pointed plainNumber blank number termIn behind terms sumIn mays partsIn turnIn lineIn linesIn Term Part Line LF ascii)
structure LSm (l:Line):Prop where
 s:(sumOf l).length<=8
 f:(CZ l).length<=8
 h:(Ge l).length<=8
 p:∀q∈CZ l++Ge l,q.sum.length<=8
 c:∀x∈sumOf l,1<=x.count/\x.count<=15
 r:(MD l).natAbs<10^15
theorem FL {b:Bytes}{m k:Nat}{c d:Cur}{v:Nat} (h:pointed (m+1) (k+1) c = .ok (v,d)) (i:In b c):v<10^(m+1+(k+1)):=by
 unfold pointed at h
 obtain ⟨⟨x,c1⟩,h1,h⟩:=Ag.mp h
 obtain ⟨⟨f,c2⟩,h2,h⟩:=Ag.mp h
 have h3:=AZ.mp h
 cases h3
 obtain ⟨i1,_,_,hl,hd⟩:=Cd h1 i
 obtain ⟨_,_,hl2,hd2⟩:=Um h2 i1
 have e:=Rt hd hd2 hl2
 have hb:=(Ff (x.map CN++(f.map CN++List.replicate (k+1-f.length) 0)) fun n hn=>by
  rcases List.mem_append.mp hn with hn|hn
  ·exact Gq hd n hn
  rcases List.mem_append.mp hn with hn|hn
  ·exact Gq hd2 n hn
  ·rw[(List.mem_replicate.mp hn).2];decide).2
 rw[e] at hb
 have hlen:(x.map CN++(f.map CN++List.replicate (k+1-f.length) 0)).length<=m+1+(k+1):=by simp;omega
 have hp:(10:Int)^(x.map CN++(f.map CN++List.replicate (k+1-f.length) 0)).length<=10^(m+1+(k+1)):=by
  exact_mod_cast Nat.pow_le_pow_right (by decide:0<10) hlen
 have:=Int.lt_of_lt_of_le hb hp
 exact_mod_cast this
theorem UG {b:Bytes}{c d:Cur}{v:Int} (h:number c = .ok (v,d)) (i:In b c):v.natAbs<10^15:=by
 rw[SX] at h
 by_cases q:c.next=some 45
 ·rw[if_pos q] at h
  obtain ⟨⟨z,e⟩,h1,h2⟩:=Ek.mp h
  cases h2
  have:=FL (m:=2) (k:=11) h1 (i.on q)
  show (-(z:Int)).natAbs<10^15
  rw[Int.natAbs_neg,Int.natAbs_natCast]
  exact this
 ·rw[if_neg q] at h
  obtain ⟨⟨z,e⟩,h1,h2⟩:=Ek.mp h
  cases h2
  have:=FL (m:=2) (k:=11) h1 i
  show ((z:Int)).natAbs<10^15
  rw[Int.natAbs_natCast]
  exact this
theorem PR {b:Bytes}{c d:Cur}{l:Line} (h:lineIn c = .ok (l,d)) (i:In b c):LSm l:=by
 unfold lineIn at h
 by_cases q:c.next=some 97
 ·rw[if_pos q] at h
  obtain ⟨c1,h1,h⟩:=Ag.mp h
  obtain ⟨⟨n,c2⟩,h2,h⟩:=Ag.mp h
  obtain ⟨c3,h3,h⟩:=Ag.mp h
  obtain ⟨⟨x,c4⟩,h4,h⟩:=Ag.mp h
  obtain ⟨c5,h5,h⟩:=Ag.mp h
  obtain ⟨⟨y,c6⟩,h6,h⟩:=Ag.mp h
  obtain ⟨c7,h7,h⟩:=Ag.mp h
  have h8:=AZ.mp h
  cases h8
  have i5:=(AY h5 (EI h4 (AY h3 (Cf h2 (Bj h1 i).1).1).1).1).1
  refine ⟨Nat.zero_le _,Nat.zero_le _,Nat.zero_le _,fun q hq=>(by cases hq),fun q hq=>(by cases hq),UG h6 i5⟩
 ·rw[if_neg q] at h
  by_cases q2:c.next=some 119
  ·rw[if_pos q2] at h
   obtain ⟨c1,h1,h⟩:=Ag.mp h
   obtain ⟨⟨n,c2⟩,h2,h⟩:=Ag.mp h
   obtain ⟨c3,h3,h⟩:=Ag.mp h
   obtain ⟨⟨s,k,c4⟩,h4,h⟩:=Ag.mp h
   obtain ⟨⟨tn,k2,c5⟩,h5,h⟩:=Ag.mp h
   obtain ⟨⟨fs,k3,c6⟩,h6,h⟩:=Ag.mp h
   obtain ⟨⟨ss,k4,c7⟩,h7,h⟩:=Ag.mp h
   have h8:=AZ.mp h
   cases h8
   have i3:=(AY h3 (Cf h2 (Bj h1 i).1).1).1
   obtain ⟨_,s1,i4,_,s2,_,_⟩:=DC h4 i3
   have i5:In b c5:=by
    by_cases z:k=some 116
    ·rw[if_pos z] at h5
     obtain ⟨e1,g1,h5⟩:=Ag.mp h5
     obtain ⟨⟨tq,e2⟩,g2,h5⟩:=Ag.mp h5
     obtain ⟨⟨kk,e3⟩,g3,h5⟩:=Ag.mp h5
     have g4:=AZ.mp h5
     cases g4
     exact (EH g3 (ML g2 (Bj g1 i4).1).1).1
    ·rw[if_neg z] at h5
     cases h5
     exact i4
   obtain ⟨r1,f1,f2,i6,_,f3,_⟩:=DM h6 i5
   obtain ⟨r2,g1,g2,i7,_,g3,_⟩:=DM h7 i6
   have f1':fs=r1:=by simpa using f1
   have g1':ss=r2:=by simpa using g1
   subst f1' g1'
   refine ⟨s1,f2,g2,fun q hq=>?_,s2,by show (0:Int).natAbs<10^15;decide⟩
   rcases List.mem_append.mp hq with hq|hq
   ·exact (f3 q hq).2.1
   ·exact (g3 q hq).2.1
  ·rw[if_neg q2] at h
   by_cases q3:c.next=some 115
   ·rw[if_pos q3] at h
    obtain ⟨c1,h1,h⟩:=Ag.mp h
    obtain ⟨⟨n,c2⟩,h2,h⟩:=Ag.mp h
    obtain ⟨c3,h3,h⟩:=Ag.mp h
    obtain ⟨⟨s,k,c4⟩,h4,h⟩:=Ag.mp h
    have h8:=AZ.mp h
    cases h8
    have i3:=(AY h3 (Cf h2 (Bj h1 i).1).1).1
    obtain ⟨_,s1,i4,_,s2,_,_⟩:=DC h4 i3
    exact ⟨s1,Nat.zero_le _,Nat.zero_le _,fun q hq=>(by cases hq),s2,by show (0:Int).natAbs<10^15;decide⟩
   ·rw[if_neg q3] at h
    cases h
theorem fO (l:Line):l.uses=sumOf l++(CZ l++Ge l).flatMap Part.sum:=by
 cases l<;>simp[Tide.Line.uses,sumOf,CZ,Ge]
theorem CO {ps:List Addr}{i:Nat}{y:V} (h:(ps.map V.ref)[i]?=some y):∃q,ps[i]?=some q/\V.ref q=y:=by
 rw[List.getElem?_map] at h
 cases z:ps[i]? with
 |none=>rw[z] at h;cases h
 |some q=>rw[z] at h;exact ⟨q,rfl,Option.some.inj h⟩
section
variable {P:Program}{w:World}{K:PySem.W.Frag}{mg:Str->Option Value}{base:Heap}{a:Ad}
theorem BJ.append {as:List Addr}{H:Hp}{ps qs:List Addr}{ys zs:List Term} (h:BJ a as H ps ys) (k:BJ a as H qs zs):BJ a as H (ps++qs) (ys++zs):=by
 refine ⟨by simp[h.1,k.1],fun i q' y' h1 h2=>?_⟩
 by_cases hi:i<ps.length
 ·rw[List.getElem?_append_left hi] at h1
  rw[List.getElem?_append_left (by rw[<-h.1];exact hi)] at h2
  exact h.2 i q' y' h1 h2
 ·rw[List.getElem?_append_right (by omega)] at h1
  rw[List.getElem?_append_right (by rw[<-h.1];omega),<-h.1] at h2
  exact k.2 _ q' y' h1 h2
theorem Cy.append {as:List Addr}{H:Hp}{ps qs:List Addr}{ys zs:List Part} (h:Cy a as H ps ys) (k:Cy a as H qs zs):Cy a as H (ps++qs) (ys++zs):=by
 refine ⟨by simp[h.1,k.1],fun i q' y' h1 h2=>?_⟩
 by_cases hi:i<ps.length
 ·rw[List.getElem?_append_left hi] at h1
  rw[List.getElem?_append_left (by rw[<-h.1];exact hi)] at h2
  exact h.2 i q' y' h1 h2
 ·rw[List.getElem?_append_right (by omega)] at h1
  rw[List.getElem?_append_right (by rw[<-h.1];omega),<-h.1] at h2
  exact k.2 _ q' y' h1 h2
noncomputable def cU (a:Ad):Sp:=fun vs H Q _=>∃p l as,vs=[.ref p]/\TH a as H p l/\LSm l/\∀q rs H',Mv [] H H'->H q=none->H' q=some (.lst (rs.map V.ref))->BJ a as H' rs l.uses->Q (.ref q) H'
theorem ZV {ys:List Part}{i:Nat}{y:Part} (h:ys[i]?=some y):(ys.take (i+1)).flatMap Part.sum=(ys.take i).flatMap Part.sum++y.sum:=by
 obtain ⟨h1,h2⟩:=List.getElem?_eq_some_iff.mp h
 rw[List.take_succ_eq_append_getElem h1,List.flatMap_append,h2]
 simp
theorem VZ:∀(ys:List Part),(∀q∈ys,q.sum.length<=8)->(ys.flatMap Part.sum).length<=8*ys.length
 |[],_=>by simp
 |y::r,h=>by
  have:=VZ r fun q hq=>h q (List.mem_cons_of_mem _ hq)
  have h1:=h y (List.mem_cons_self ..)
  rw[List.flatMap_cons,List.length_append,List.length_cons]
  omega
theorem UL (T:Txt K mg a):Cal P w K mg base a 1 "all_terms" Nl (cU a):=by
 refine AF (k:=0) T.VM GA (fun _ _ _ _ _ _=>CC fun _=>rfl) (fun _ _ _ _=>PQ fun _ _ _=>rfl) (fun f cdv A outer s H vs Q E hr h=>?_)
 ·obtain ⟨p,l,as,rfl,hL,hS,k⟩:=h
  obtain ⟨dx,pn,pt,pf,ps,ts,qf,qs,h1,h2,h3,h4,h5,h6,h7,h8,m1,m2,m3,m4,m5⟩:=hL
  refine ⟨_,(Ab (Al (i:=1) GA.nd rfl (Or.inl rfl) (FZ Kz rfl T.bt boot_list (Aa (Au (pv 0) rfl) Ac))) (Ab (DN El rfl (Dg (Az Kf (Au (pv 0) rfl) (Au (pv 0) rfl))) (Bm (i:=2) GA.nd rfl (Or.inl rfl)) (Af (AJ (He PySem.F.plainAttrs_list PySem.F.slot_list_extend PySem.F.type_list_extend Mt (pv 1) (Aa (Au (pv 2) rfl) Ac))))) (Af (Ap (pv 1))))),?_⟩
  refine ⟨_,rfl,AA p a.Cli dx _ _ ⟨ rfl,h1,T.AX,T.Co,rfl,Aq pt _ ⟨ rfl,.inl (SqL.of h3),fun q hq=>?_⟩⟩⟩
  have up:∀{c:Addr}{o:HO}{u:HO},H c=some o->(upd H q u) c=some o:=fun {c o u} e=>by rw[Ai (An e hq)];exact e
  have hP:=h6.append h8
  have hlf:qf.length+qs.length<=16:=by rw[h6.1,h8.1];have:=hS.f;have:=hS.h;omega
  refine ⟨_,rfl,AA p a.Cli dx _ _ ⟨ rfl,up h1,T.AX,T.Ds,rfl,_,rfl,AA p a.Cli dx _ _ ⟨ rfl,up h1,T.AX,T.FH,rfl,Aw pf ps _ _ ⟨ rfl,rfl,up h5,up h7,by rw[List.length_map,List.length_map];exact Nat.le_trans hlf (by decide),fun pc hpc=>?_⟩⟩⟩⟩
  have up2:∀{c:Addr}{o:HO}{u:HO},H c=some o->(upd (upd H q (.lst (ts.map V.ref))) pc u) c=some o:=fun {c o u} e=>by rw[Ai (An (up e) hpc)];exact up e
  have hqc:q≠pc:=fun z=>by rw[<-z,Ae] at hpc;cases hpc
  have hpcH:H pc=none:=by rw[Ai (Ne.symm hqc)] at hpc;exact hpc
  refine ⟨pc,rfl,⟨_,SqL.of Ae⟩,EO (xs:=qf.map V.ref++qs.map V.ref) (fun i σ H'=>∃v rs,σ=[some (.ref p),some (.ref q),v]/\Mv [] H H'/\H' pc=some (.lst (qf.map V.ref++qs.map V.ref))/\H' q=some (.lst (rs.map V.ref))/\BJ a as H rs (sumOf l++((CZ l++Ge l).take i).flatMap Part.sum)) ?_ (fun i σ H' _ ⟨_,_,_,_,e,_⟩=>SqL.of e) ?_ ?_⟩
  ·refine (Aq none ts ⟨ rfl,(Mv.refl.ext hq).ext hpcH,Ae,by rw[Ai hqc,Ae],?_⟩)
   simp only [List.take_zero,List.flatMap_nil,List.append_nil]
   exact h4
  ·rintro i y σ H1 hy ⟨v,rs,rfl,M1,hc1,hq1,hT1⟩
   rw[<-List.map_append] at hy
   obtain ⟨r,hr,rfl⟩:=CO hy
   have hi:i<(CZ l++Ge l).length:=by have:=(List.getElem?_eq_some_iff.mp hr).1;rw[<-hP.1];exact this
   have hpt':(CZ l++Ge l)[i]?=some (CZ l++Ge l)[i]:=List.getElem?_eq_getElem hi
   generalize hgi:(CZ l++Ge l)[i]=y at hpt'
   have hmem:=List.mem_of_getElem? hpt'
   obtain ⟨dr,pl,us,g1,g2,g3,g4,g5⟩:=hP.2 i r y hr hpt'
   replace g1:=M1 _ _ g1 (by simp)
   replace g2:=M1 _ _ g2 (by simp)
   have hln:rs.length<=8+8*16:=by
    rw[hT1.1,List.length_append]
    have b1:=hS.s
    have b2:=VZ ((CZ l++Ge l).take i) fun q hq=>hS.p q (List.mem_of_mem_take hq)
    have b3:((CZ l++Ge l).take i).length<=16:=by rw[List.length_take,List.length_append];have:=hS.f;have:=hS.h;omega
    omega
   refine ⟨_,rfl,.inl ⟨rfl,_,SqL.of hq1⟩,_,rfl,AA r a.Cpa dr _ _ ⟨ rfl,g1,T.KC,T.Gs,rfl,Aw q pl _ _ ⟨ rfl,rfl,hq1,g2,?_,?_⟩⟩⟩
   ·rw[List.length_map,List.length_map,g3.1]
    have:=hS.p y hmem
    exact Nat.le_trans (show rs.length+y.sum.length<=200 by omega) (by decide)
   ·refine ⟨_,rs++us,rfl,M1.ext hq,by rw[Ai (Ne.symm hqc)];exact hc1,by rw[Ae,List.map_append],?_⟩
    rw[ZV hpt',<-List.append_assoc]
    exact hT1.append g3
  ·rintro σ H1 ⟨v,rs,rfl,M1,hc1,hq1,hT1⟩
   refine ⟨_,rfl,k q rs H1 M1 hq hq1 ?_⟩
   rw[fO]
   have:(qf.map V.ref++qs.map V.ref).length=(CZ l++Ge l).length:=by rw[<-List.map_append,List.length_map,hP.1]
   rw[this,List.take_length] at hT1
   exact hT1.mono (fun _ z=>z) fun c _ o z=>M1 _ _ z (by simp)
theorem Tp:∀s:List Term,((s.map fun x=>if x.times<0 then -x.times else x.times).sum:Int)=(((s.map fun (x:Term)=>x.count).foldr (fun (a b:Nat)=>a+b) 0:Nat):Int)
 |[]=>rfl
 |x::r=>by
  have ih:=Tp r
  have:(if x.times<0 then -x.times else x.times)=(x.count:Int):=by
   unfold Tide.Term.times
   cases x.minus<;>simp<;>omega
  rw[List.map_cons,List.sum_cons,ih,this]
  simp
theorem Rk:∀s:List Part,((s.map fun x=>if x.number<0 then -x.number else x.number).sum:Int)=(((s.map fun (x:Part)=>x.number.natAbs).foldr (fun (a b:Nat)=>a+b) 0:Nat):Int)
 |[]=>rfl
 |x::r=>by
  have ih:=Rk r
  have:(if x.number<0 then -x.number else x.number)=(x.number.natAbs:Int):=by
   split<;>omega
  rw[List.map_cons,List.sum_cons,ih,this]
  simp
noncomputable def Zo (a:Ad):Sp:=fun vs H Q _=>∃p l as,vs=[.ref p]/\TH a as H p l/\LSm l/\∀H',Mv [] H H'->Q (.bl (tooMuch l)) H'
theorem Ox (T:Txt K mg a):Cal P w K mg base a 1 "has_too_much" HX (Zo a):=by
 refine AF (k:=0) T.Pr Ct (fun _ _ _ _ _ _=>CC fun _=>rfl) (fun _ _ _ _=>PQ fun _ _ _=>rfl) (fun f cdv A outer s H vs Q E hr h=>?_)
 ·obtain ⟨p,l,as,rfl,hL,hS,k⟩:=h
  obtain ⟨dx,pn,pt,pf,ps,ts,qf,qs,h1,h2,h3,h4,h5,h6,h7,h8,m1,m2,m3,m4,m5⟩:=hL
  refine ⟨_,(Ab (AS (Av BA (Au (pv 0) rfl) (BP T.bz) (AB _)) (Af (Ap (OM Ta (AD (JV rfl) rfl T.OZ boot_sum (Aa (QM (own:=[("term",1)]) rfl Ct.nd (Dg (Au (pv 0) rfl)) (EJ (by show TN ES (Ah Dv) _ _=true;decide +kernel)) (fun _ _ _ _ _=>(Bm (i:=1) Ct.nd rfl (Or.inl rfl))) (fun _ _ _ _ _=>Gz) (fun _ _ _ _ _=>by exact (AD Ky rfl T.YR boot_abs (Aa (Ly (K0:=K) rfl (pv 1) rfl) Ac)))) Ac)) (Ay T.Rz) (AB _)))) Ax) (Af (Ap (OM SY (AD (JV rfl) rfl T.OZ boot_sum (Aa (QM (own:=[("factor",2)]) rfl Ct.nd (Dg (Au (pv 0) rfl)) (EJ (by show TN ES (Ah Dv) _ _=true;decide +kernel)) (fun _ _ _ _ _=>(Bm (i:=2) Ct.nd rfl (Or.inl rfl))) (fun _ _ _ _ _=>Gz) (fun _ _ _ _ _=>by exact (AD Ky rfl T.YR boot_abs (Aa (Ly (K0:=K) rfl (pv 2) rfl) Ac)))) Ac)) (Ay T.VB) (AB _))))),?_⟩
  refine ⟨_,rfl,AA p a.Cli dx _ _ ⟨ rfl,h1,T.AX,T.CH,rfl,rfl,_,rfl,?_⟩⟩
  have other:wordOf l≠"sum "->((¬(∃n q s,l = .sum n q s))/\tooMuch l=decide ((10:Int)^12<=((CZ l).map fun x=>if x.number<0 then -x.number else x.number).sum)):=fun hw=>by
   cases l with
   |angle n q x y=>exact ⟨fun z=>(by obtain ⟨_,_,_,z⟩:=z;cases z),by unfold tooMuch CZ;rfl⟩
   |wave n q s tn fs ss=>
    refine ⟨fun z=>(by obtain ⟨_,_,_,z⟩:=z;cases z),?_⟩
    show decide _=decide _
    rw[show (CZ (.wave n q s tn fs ss))=fs from rfl,Rk]
    exact decide_eq_decide.mpr (by exact_mod_cast Iff.rfl)
   |sum n q s=>exact absurd rfl hw
  by_cases hw:wordOf l="sum "
  ·rw[show decide (V.str (wordOf l)=V.str "sum ")=true from decide_eq_true (by rw[hw])]
   refine Bx ⟨_,rfl,AA p a.Cli dx _ _ ⟨ rfl,h1,T.AX,T.Co,rfl,pt,rfl,⟨_,SqL.of h3⟩,fun D hD=>?_⟩⟩
   refine KW (K:=K) (a:=pt) (xs:=ts.map V.ref) (fun i H'=>Mv [] H H'/\H' D=some (.lst ((((sumOf l).take i).map fun x=>if x.times<0 then -x.times else x.times).map V.int))) ⟨Mv.new hD,Ae⟩ (fun i H' _ z=>SqL.of (z.1 _ _ h3 (by simp))) ?_ ?_
   ·rintro i y H1 hy ⟨M1,hd1⟩
    obtain ⟨r,hr,rfl⟩:=CO hy
    have hi:i<(sumOf l).length:=by have:=(List.getElem?_eq_some_iff.mp hr).1;rw[<-h4.1];exact this
    have hx:(sumOf l)[i]?=some (sumOf l)[i]:=List.getElem?_eq_getElem hi
    obtain ⟨dr,pr,g1,g2,_⟩:=h4.2 i r _ hr hx
    refine ⟨rfl,yes ⟨_,rfl,AA r a.Cte dr _ _ ⟨ rfl,M1 _ _ g1 (by simp),T.Fo,T.Gu,rfl,_,rfl,?_⟩⟩⟩
    refine ⟨_,hd1,?_,M1.ext hD,?_⟩
    ·rw[List.length_map,List.length_map,List.length_take]
     have:=hS.s
     exact Nat.lt_of_le_of_lt (show min i (sumOf l).length<=8 by omega) (by decide)
    ·rw[Ae,List.take_succ_eq_append_getElem hi,List.map_append,List.map_append]
     rfl
   ·rintro H1 ⟨M1,hd1⟩
    rw[List.length_map,h4.1,List.take_length] at hd1
    refine ⟨D,_,rfl,SqL.of hd1,Aq _ _ ⟨ rfl,rfl,?_⟩⟩
    rw[Tp]
    have:tooMuch l=decide (((12:Int))<(((sumOf l).map fun (x:Term)=>x.count).foldr (fun (a b:Nat)=>a+b) 0:Nat)):=by
     cases l with
     |sum n q s=>
      show decide _=decide _
      exact decide_eq_decide.mpr (by show (12<_<->_);exact_mod_cast Iff.rfl)
     |angle n q x y=>exact absurd hw (show ¬("angle ":Str)="sum " by decide +kernel)
     |wave n q s tn fs ss=>exact absurd hw (show ¬("wave ":Str)="sum " by decide +kernel)
    have fin:=k _ M1
    rw[this] at fin
    exact fin
  ·rw[show decide (V.str (wordOf l)=V.str "sum ")=false from decide_eq_false (fun z=>hw (V.str.inj z))]
   refine Bw ⟨_,rfl,AA p a.Cli dx _ _ ⟨ rfl,h1,T.AX,T.Ds,rfl,pf,rfl,⟨_,SqL.of h5⟩,fun D hD=>?_⟩⟩
   refine KW (K:=K) (a:=pf) (xs:=qf.map V.ref) (fun i H'=>Mv [] H H'/\H' D=some (.lst ((((CZ l).take i).map fun x=>if x.number<0 then -x.number else x.number).map V.int))) ⟨Mv.new hD,Ae⟩ (fun i H' _ z=>SqL.of (z.1 _ _ h5 (by simp))) ?_ ?_
   ·rintro i y H1 hy ⟨M1,hd1⟩
    obtain ⟨r,hr,rfl⟩:=CO hy
    have hi:i<(CZ l).length:=by have:=(List.getElem?_eq_some_iff.mp hr).1;rw[<-h6.1];exact this
    have hx:(CZ l)[i]?=some (CZ l)[i]:=List.getElem?_eq_getElem hi
    obtain ⟨dr,pr,us,g1,g2,_⟩:=h6.2 i r _ hr hx
    refine ⟨rfl,yes ⟨_,rfl,AA r a.Cpa dr _ _ ⟨ rfl,M1 _ _ g1 (by simp),T.KC,T.Jk,rfl,_,rfl,?_⟩⟩⟩
    refine ⟨_,hd1,?_,M1.ext hD,?_⟩
    ·rw[List.length_map,List.length_map,List.length_take]
     have:=hS.f
     exact Nat.lt_of_le_of_lt (show min i (CZ l).length<=8 by omega) (by decide)
    ·rw[Ae,List.take_succ_eq_append_getElem hi,List.map_append,List.map_append]
     rfl
   ·rintro H1 ⟨M1,hd1⟩
    rw[List.length_map,h6.1,List.take_length] at hd1
    refine ⟨D,_,rfl,SqL.of hd1,Aq _ _ ⟨ rfl,rfl,?_⟩⟩
    have:=(other hw).2
    rw[show (10:Int)^12=1000000000000 by decide] at this
    have fin:=k _ M1
    rw[this] at fin
    exact fin
end
end Td
namespace Td
open PySem PySem.Spec PyProof.Rows L2
open Tide (Bytes Cur lineIn linesIn Term Part Line grammar)
theorem ZW {K:PySem.W.Frag}{a:Addr}{xs:List V}{g:TG}{tb:TS}{D:Ends}{σ:L2.St}{H:Hp} (Pv:Nat->L2.St->Hp->Prop) (h0:Pv 0 σ H) (hl:∀i σ H,i<=xs.length->Pv i σ H->SqL K H a xs)
  (hs:∀(i:Nat) x p σ H,xs[i]?=some x->Pv i σ H->H p=none->g (.ref p) σ (upd H p (.tup [.int ((i:Nat)+1:Nat),x])) fun σ2 H2=>tb { D with nx:=Pv (i+1),ct:=Pv (i+1),bk:=D.nx } σ2 H2) (hd:∀σ H,Pv xs.length σ H->D.nx σ H) :
  ∃W:Nat->Nat->L2.St->Hp->Prop,(∃m,W 0 m σ H)/\∀i m σ H,W i m σ H ->
   ((bh K a).stop i H/\D.nx σ H)\/((bh K a).go i H/\∃N:L2.St->Hp->Prop,(∀σ' H',N σ' H'->∃m',m'<m/\W (i+1) m' σ' H')/\∀x H',(bh K a).yld i H x H'->g x σ H' fun σ2 H2=>tb { D with nx:=N,ct:=N,bk:=D.nx } σ2 H2):=by
 refine ⟨fun i m σ H=>m=xs.length-i/\i<=xs.length/\Pv i σ H,⟨_,rfl,Nat.zero_le _,h0⟩,?_⟩
 rintro i m σ H ⟨rfl,hi,p⟩
 have q:=hl i σ H hi p
 by_cases hlt:i<xs.length
 ·refine .inr ⟨⟨xs,xs[i],q,by simp[hlt]⟩,Pv (i+1),fun σ' H' p'=>⟨xs.length-(i+1),by omega,rfl,hlt,p'⟩,fun x H' y=>?_⟩
  refine hid fun X_ k_=>?_
  obtain ⟨T,z,ev,hT,eH,hz⟩:=y
  refine k_ ?_;clear k_
  subst ev eH
  exact hs i z T σ H (hz xs q) p hT
 ·have e:i=xs.length:=by omega
  subst e
  exact .inl ⟨⟨xs,q,Nat.le_refl _⟩,hd σ H p⟩
noncomputable def wordAt (before:List Line) (n:Bytes):Option V:=(before.find? fun y=>y.name==n).map fun y=>V.str (wordOf y)
noncomputable def JQ (l:List Line):Prop:=List.Pairwise (fun (x y:Line)=>x.name≠y.name) l
theorem SK:∀{l:List Line}{y z:Line}{n:Bytes},JQ l->l.find? (fun y=>y.name==n)=some y->z∈l->z.name=n->z=y
 |[],_,_,_,_,h,_,_=>by cases h
 |x::r,y,z,n,u,h,hz,hn=>by
  rw[List.find?_cons] at h
  have hu:=List.pairwise_cons.mp u
  cases hx:(x.name==n) with
  |true=>
   rw[hx] at h
   cases h
   rcases List.mem_cons.mp hz with rfl|hz
   ·rfl
   ·exact absurd ((eq_of_beq hx).trans hn.symm) (hu.1 z hz)
  |false=>
   rw[hx] at h
   rcases List.mem_cons.mp hz with rfl|hz
   ·exact absurd hn (beq_eq_false_iff_ne.mp hx)
   ·exact SK hu.2 h hz hn
theorem ZT {before:List Line}{l:Line}{x:Term} (u:JQ before):fits before l x=match before.find? (fun y=>y.name==x.name) with
  |some y=>if l.isWave=true then y.isAngle else y.isWave
  |none=>false:=by
 unfold fits
 cases h:before.find? (fun y=>y.name==x.name) with
 |none=>
  rw[List.any_eq_false]
  intro y hy
  have:=List.find?_eq_none.mp h y hy
  rw[Bool.and_eq_true]
  exact fun z=>this z.2
 |some y=>
  have hy:=List.mem_of_find?_eq_some h
  have hn:y.name=x.name:=by
   have hb:=List.find?_some h
   exact eq_of_beq hb
  show before.any _=(if l.isWave=true then y.isAngle else y.isWave)
  cases hb:(if l.isWave=true then y.isAngle else y.isWave) with
  |true=>exact List.any_eq_true.mpr ⟨y,hy,by rw[hb,hn];simp⟩
  |false=>
   rw[List.any_eq_false]
   intro z hz e
   rw[Bool.and_eq_true] at e
   have:=SK u h hz (eq_of_beq e.2)
   rw[this,hb] at e
   cases e.1
theorem JR (y:Line):decide (V.str (wordOf y)=V.str "angle ")=y.isAngle:=by
 cases y
 ·exact decide_eq_true rfl
 ·exact decide_eq_false (show ¬V.str ("wave ":Str)=V.str "angle " by decide +kernel)
 ·exact decide_eq_false (show ¬V.str ("sum ":Str)=V.str "angle " by decide +kernel)
theorem Tv (y:Line):decide (V.str (wordOf y)=V.str "wave ")=y.isWave:=by
 cases y
 ·exact decide_eq_false (show ¬V.str ("angle ":Str)=V.str "wave " by decide +kernel)
 ·exact decide_eq_true rfl
 ·exact decide_eq_false (show ¬V.str ("sum ":Str)=V.str "wave " by decide +kernel)
theorem dC (y:Line):decide (V.str (wordOf y)=V.str "sum ")=(!y.isAngle&&!y.isWave):=by
 cases y
 ·exact decide_eq_false (show ¬V.str ("angle ":Str)=V.str "sum " by decide +kernel)
 ·exact decide_eq_false (show ¬V.str ("wave ":Str)=V.str "sum " by decide +kernel)
 ·exact decide_eq_true rfl
noncomputable def wanted (l:Line):Str:=if (!l.isAngle&&!l.isWave)=true then "wave " else "angle "
theorem ZU {before:List Line}{l:Line}{x:Term} (u:JQ before) (hx:x∈l.uses):fits before l x=decide ((wordAt before x.name).getD .non=V.str (wanted l)):=by
 rw[ZT u]
 unfold wordAt
 cases h:before.find? (fun y=>y.name==x.name) with
 |none=>exact (decide_eq_false (by intro z;cases z)).symm
 |some y=>
  show (if l.isWave=true then y.isAngle else y.isWave)=decide (V.str (wordOf y)=V.str (wanted l))
  cases l with
  |angle n p v r=>cases hx
  |wave n p s tn fs ss=>exact (JR y).symm
  |sum n p s=>exact (Tv y).symm
theorem dw (o:Option V) (h:∀v,o=some v->∃s,v = .str s) (s:Str):iw (o.getD .non) (.str s)=true:=by
 cases o with
 |none=>rfl
 |some v=>
  obtain ⟨s',rfl⟩:=h v rfl
  rfl
section
variable {P:Program}{w:World}{K:PySem.W.Frag}{mg:Str->Option Value}{base:Heap}{a:Ad}
noncomputable def WX (a:Ad):Sp:=fun vs H Q E=>∃p l as d kvs before,vs=[.ref p,.ref d]/\TH a as H p l/\LSm l/\H d=some (.dT kvs)/\(∀n,Cj kvs (nk n)=wordAt before n)/\JQ before/\Jg a H Q E ((l.uses.find? fun (x:Term)=>!fits before l x).map fun (x:Term)=>(3,x.at_))
theorem Qu (T:Txt K mg a):Cal P w K mg base a 3 "judge_names" Ju (WX a):=by
 refine AF (k:=2) T.RJ Fc (fun _ _ _ _ _ _=>Fh fun _ _=>rfl) (fun _ _ _ _=>XY fun _ _ _ _ _ _=>rfl) (fun f cdv A outer s H vs Q E hr h=>?_)
 ·refine hid fun X_ k_=>?_
  obtain ⟨p,l,as,d,kvs,before,rfl,hL,hS,hd,hk,hu,kO,kE⟩:=h
  refine k_ ?_;clear k_
  refine hid fun X_ k_=>?_
  obtain ⟨dx,pn,pt,pf,ps,ts,qf,qs,h1,_⟩:=id hL
  refine k_ ?_;clear k_
  refine ⟨_,(Ab (Al (i:=2) Fc.nd rfl (Or.inl rfl) (Ig (Av BA (Au (pv 0) rfl) (BP T.bz) (AB _)) (BP T.TX) (BP T.Ks))) (Af (DN El rfl (Dg (Ar (UL T) hr Ak (Aa (pv 0) Ac))) (Bm (i:=3) Fc.nd rfl (Or.inl rfl)) (Af (AS (Av jh (cz (GR hr) (pv 1) (Au (pv 3) rfl) ⟨rfl,rfl,rfl,rfl⟩) (pv 2) (AB _)) (Af (Hf T.xc (xfn T) hr T.mgF (Aa (Ay T.Pa) (Aa (Au (pv 3) rfl) Ac)) Em)) Ax))))),?_⟩
  have loop:jz (fW K (Gg (cU a) [] E (AL (AW 0) BQ))) (FQ 3) (YE (Eh (tOp rNe (dE (AW 1) (Gh K (AW 3) "name")) (AW 2))) (IJ xfs (fun H dx=>E (.ref a.CF) (some dx) H) (AL (tC (.int 3)) (AL (Gh K (AW 3) "place") BQ))) NX)
    { nx:=fun _ H'=>Q .non H',rt:=Q } [some (.ref p),some (.ref d),some (.str (wanted l)),none] H:=by
   refine ⟨_,rfl,AN p l as ⟨ rfl,hL,hS,fun q rs H1 M1 hq hq1 hT1=>?_⟩⟩
   refine ⟨q,rfl,⟨_,SqL.of hq1⟩,EO (xs:=rs.map V.ref) (fun i σ H'=>∃v,σ=[some (.ref p),some (.ref d),some (.str (wanted l)),v]/\H'=H1/\l.uses.find? (fun x=>!fits before l x)=(l.uses.drop i).find? fun x=>!fits before l x) ⟨none,rfl,rfl,rfl⟩ (fun i σ H' _ ⟨_,_,e,_⟩=>by rw[e];exact SqL.of hq1) ?_ ?_⟩
   ·rintro i y σ H2 hy ⟨v,rfl,rfl,e1⟩
    obtain ⟨r,hr',rfl⟩:=CO hy
    have hi:i<l.uses.length:=by have:=(List.getElem?_eq_some_iff.mp hr').1;rw[<-hT1.1];exact this
    have hx:l.uses[i]?=some l.uses[i]:=List.getElem?_eq_getElem hi
    generalize hgi:l.uses[i]=x at hx
    refine hid fun X_ k_=>?_
    obtain ⟨dr,pr,g1,g2,_⟩:=hT1.2 i r x hr' hx
    refine k_ ?_;clear k_
    rw[MR] at g2
    have hmem:=List.mem_of_getElem? hx
    have hd1:=M1 _ _ hd (by simp)
    have hdr:l.uses.drop i=x::l.uses.drop (i+1):=by rw[List.drop_eq_getElem_cons hi,hgi]
    refine ⟨_,rfl,d,rfl,.inr ⟨kvs,.inl hd1⟩,_,rfl,AA r a.Cte dr _ _ ⟨ rfl,g1,T.Fo,T.HM,rfl,_,Hs.t hd1 g2,?_⟩⟩
    rw[hk]
    refine ⟨_,rfl,dw _ (fun v hv=>?_) _,_,rfl,?_⟩
    ·unfold wordAt at hv
     obtain ⟨y,_,rfl⟩:=Option.map_eq_some_iff.mp hv
     exact ⟨_,rfl⟩
    rw[<-ZU hu hmem]
    cases hf:fits before l x with
    |false=>
     refine Bx ⟨_,rfl,AA r a.Cte dr _ _ ⟨ rfl,g1,T.Fo,T.La,rfl,Aq _ _ ⟨ rfl,fun d2 hd2=>?_⟩⟩⟩
     refine kE 3 x.at_ ?_ _ _ (M1.trans (Mv.new hd2)) Ae
     rw[e1,hdr,List.find?_cons,hf]
     rfl
    |true=>
     refine Bw ⟨_,rfl,rfl,?_⟩
     rw[e1,hdr,List.find?_cons,hf]
     rfl
   ·rintro σ H2 ⟨v,rfl,rfl,e1⟩
    refine kO ?_ _ M1
    rw[e1,List.length_map,hT1.1,List.drop_length]
    rfl
  refine ⟨_,rfl,AA p a.Cli dx _ _ ⟨ rfl,h1,T.AX,T.CH,rfl,rfl,_,rfl,?_⟩⟩
  rw[dC]
  unfold wanted at loop
  cases hc:(!l.isAngle&&!l.isWave) with
  |true=>
   rw[hc] at loop
   exact Bx loop
  |false=>
   rw[hc] at loop
   exact Bw loop
theorem Xn (before:List Line) (n:Bytes):(wordAt before n).isSome=before.any fun y=>y.name==n:=by
 unfold wordAt
 rw[Option.isSome_map]
 cases h:before.find? (fun y=>y.name==n) with
 |none=>
  refine (List.any_eq_false.mpr fun y hy=>?_).symm
  exact List.find?_eq_none.mp h y hy
 |some y=>
  have hb:=List.find?_some h
  exact (List.any_eq_true.mpr ⟨y,List.mem_of_find?_eq_some h,hb⟩).symm
theorem Xm (before:List Line) (l:Line) (n:Bytes) (h:before.any (fun y=>y.name==l.name)=false):wordAt (before++[l]) n=if n=l.name then some (V.str (wordOf l)) else wordAt before n:=by
 unfold wordAt
 rw[List.find?_append]
 by_cases e:n=l.name
 ·subst e
  have:before.find? (fun y=>y.name==l.name)=none:=by
   rw[List.find?_eq_none]
   intro y hy z
   have:=List.any_eq_false.mp h y hy
   exact this z
  rw[this,if_pos rfl]
  simp
 ·rw[if_neg e]
  have:(l.name==n)=false:=beq_eq_false_iff_ne.mpr (Ne.symm e)
  cases before.find? (fun y=>y.name==n) with
  |none=>simp[this]
  |some y=>rfl
noncomputable def aH (a:Ad):Sp:=fun vs H Q E=>∃l ps ys as,vs=[.ref l]/\H l=some (.lst (ps.map V.ref))/\FN a as H ps ys/\(∀y∈ys,LSm y)/\Jg a H Q E (AO [] ys)
theorem Qt (T:Txt K mg a):Cal P w K mg base a 4 "judge_lines" Jt (aH a):=by
 refine AF (k:=3) T.RI Ci (fun _ _ _ _ _ _=>CC fun _=>rfl) (fun _ _ _ _=>IZ fun _ _ _ _=>rfl) (fun f cdv A outer s H vs Q E hr h=>?_)
 ·refine hid fun X_ k_=>?_
  obtain ⟨l,ps,ys,as,rfl,hl,hT,hSm,kO,kE⟩:=h
  refine k_ ?_;clear k_
  refine ⟨_,(Ab (Al (i:=1) Ci.nd rfl (Or.inl rfl) Lx) (Ab (Al (i:=2) Ci.nd rfl (Or.inl rfl) Ao) (Af (DN El rfl (cD rfl T.Fl (Aa (pv 0) Ac)) (UY rfl (Ec (Bm (i:=3) Ci.nd rfl (Or.inl rfl)) (Ec (Bm (i:=4) Ci.nd rfl (Or.inl rfl)) ON))) (Ab (AS (Av BA (Au (pv 4) rfl) (BP T.Ks) (AB _)) (Af (cG (i:=2) Ci.nd rfl (Or.inl rfl) Ao XT)) Ax) (Ab (AS (Yu (Yt (GR hr) (Au (pv 4) rfl) (pv 1))) (Af (Hf T.xc (xfn T) hr T.mgF (Aa (Ay T.Ku) (Aa (Au (pv 4) rfl) Ac)) Em)) Ax) (Ab (AS (PW.pt (Hh (Av Ta (pv 2) (Ay T.Ry) (AB _)) (EX (Av Ta (Az Dt (pv 3) (pv 2)) (Ay T.RA) (AB _))))) (Af (Hf T.xc (xfn T) hr T.mgF (Aa (Ay T.Mf) (Aa (Au (pv 4) rfl) Ac)) Em)) Ax) (Ab (AS (Bt (Ar (Ox T) hr Ak (Aa (pv 4) Ac))) (Af (Hf T.xc (xfn T) hr T.mgF (Aa (Ay T.Xv) (Aa (Au (pv 4) rfl) Ac)) Em)) Ax) (Ab (AJ (Ar (Qu T) hr Ak (Aa (pv 4) (Aa (pv 1) Ac)))) (Af (LA (GR hr) (pv 1) (Au (pv 4) rfl) (Au (pv 4) rfl) rfl))))))))))),?_⟩
  refine fun d hd=>?_
  refine ⟨_,rfl,Aq l _ ⟨ rfl,SqL.of (by rw[Ai (An hl hd)];exact hl),ZW (K:=K) (a:=l) (xs:=ps.map V.ref) (fun i σ H'=>∃v3 v4 kvs,∃A:Nat,σ=[some (.ref l),some (.ref d),some (.int A),v3,v4]/\A=((ys.take i).filter Tide.Line.isAngle).length/\Mv [] H H'/\H' d=some (.dT kvs)/\kvs.length<=i /\
   (∀n,Cj kvs (nk n)=wordAt (ys.take i) n)/\JQ (ys.take i)/\A<=16/\A<=i/\i-A<=128/\AO [] ys=AO (ys.take i) (ys.drop i)) (Aq none none ⟨ [],0,rfl,rfl,Mv.refl.ext hd,Ae,Nat.le_refl _,fun n=>rfl,.nil,by decide,Nat.le_refl _,by decide,rfl⟩) (fun i σ H' _ ⟨_,_,_,_,_,_,M,_⟩=>SqL.of (M _ _ hl (by simp))) ?_ ?_⟩⟩
  ·rintro i y p σ H1 hy ⟨v3,v4,kvs,A,rfl,hA,M1,hd1,hkl,hk,hu,hA16,hAi,hB,e1⟩ hp
   obtain ⟨q,hq,rfl⟩:=CO hy
   have hi:i<ys.length:=by have:=(List.getElem?_eq_some_iff.mp hq).1;rw[<-hT.1];exact this
   have hx:ys[i]?=some ys[i]:=List.getElem?_eq_getElem hi
   generalize hxi:ys[i]=x at hx
   have hS:=hSm x (List.mem_of_getElem? hx)
   have hTx:=(hT.2 i q x hq hx).mono (H':=upd H1 p (.tup [.int ((i:Nat)+1:Nat),.ref q])) (fun _ z=>z) fun c _ o z=>by
    have z1:=M1 c o z (by simp)
    rw[Ai (An z1 hp)]
    exact z1
   refine hid fun X_ k_=>?_
   obtain ⟨dx,pn,pt,pf,pS,ts,qf,qs,h1,h2,_⟩:=id hTx
   refine k_ ?_;clear k_
   have hd2:(upd H1 p (.tup [.int ((i:Nat)+1:Nat),.ref q])) d=some (.dT kvs):=by rw[Ai (An hd1 hp)];exact hd1
   have Mp:Mv [] H (upd H1 p (.tup [.int ((i:Nat)+1:Nat),.ref q])):=M1.trans (Mv.new hp)
   rw[MR] at h2
   have hdr:ys.drop i=x::ys.drop (i+1):=by rw[List.drop_eq_getElem_cons hi,hxi]
   have htk:ys.take (i+1)=ys.take i++[x]:=by rw[List.take_succ_eq_append_getElem hi,hxi]
   have htl:(ys.take i).length=i:=by rw[List.length_take];omega
   have hnb:((ys.take i).filter fun z=>!z.isAngle).length=i-A:=by
    have:∀l:List Line,(l.filter fun z=>!z.isAngle).length+(l.filter Tide.Line.isAngle).length=l.length:=by
     intro l
     induction l with
     |nil=>rfl
     |cons z r ih=>cases hz:z.isAngle<;>simp[List.filter_cons,hz]<;>omega
    have:=this (ys.take i)
    omega
   have e2:AO [] ys=match BS (ys.take i) x with|some f=>some f|none=>AO (ys.take (i+1)) (ys.drop (i+1)):=by rw[e1,hdr,AO,htk]<;>rfl
   have hpp:(upd H1 p (.tup [.int ((i:Nat)+1:Nat),.ref q])) p=some (.tup [.int ((i:Nat)+1:Nat),.ref q]):=Ae
   generalize upd H1 p (.tup [.int ((i:Nat)+1:Nat),.ref q])=H2 at hTx h1 h2 hd2 Mp hpp ⊢
   have rest:∀A':Nat,A'=A+(if x.isAngle=true then 1 else 0) ->
     Kl (YE (tB (jy (Gh K (AW 4) "name") (AW 1))) (IJ xfs (fun H dx=>E (.ref a.CF) (some dx) H) (AL (tC (.int 2)) (AL (Gh K (AW 4) "place") BQ))) NX)
      (Kl (YE (tOr (Eh (tOp (rI0 fun i j=>.bl (decide (j<i))) (AW 2) (tC (.int 16)))) (Eh (tOp (rI0 fun i j=>.bl (decide (j<i))) (tOp (rI0 fun i j=>.int (i-j)) (AW 3) (AW 2)) (tC (.int 128))))) (IJ xfs (fun H dx=>E (.ref a.CF) (some dx) H) (AL (tC (.int 4)) (AL (Gh K (AW 4) "place") BQ))) NX)
       (Kl (YE (tB (Gg (Zo a) [] E (AL (AW 4) BQ))) (IJ xfs (fun H dx=>E (.ref a.CF) (some dx) H) (AL (tC (.int 5)) (AL (Gh K (AW 4) "place") BQ))) NX)
        (Kl (Xb (Gg (WX a) [] E (AL (AW 4) (AL (AW 1) BQ)))) (gg (AW 1) (Gh K (AW 4) "name") (Gh K (AW 4) "word")))))
      { nx:=fun σ H'=>∃v3 v4 kvs,∃A:Nat,σ=[some (.ref l),some (.ref d),some (.int A),v3,v4]/\A=((ys.take (i+1)).filter Tide.Line.isAngle).length/\Mv [] H H'/\H' d=some (.dT kvs)/\kvs.length<=i+1 /\
         (∀n,Cj kvs (nk n)=wordAt (ys.take (i+1)) n)/\JQ (ys.take (i+1))/\A<=16/\A<=i+1/\i+1-A<=128/\AO [] ys=AO (ys.take (i+1)) (ys.drop (i+1)),rt:=Q,
         ct:=fun σ H'=>∃v3 v4 kvs,∃A:Nat,σ=[some (.ref l),some (.ref d),some (.int A),v3,v4]/\A=((ys.take (i+1)).filter Tide.Line.isAngle).length/\Mv [] H H'/\H' d=some (.dT kvs)/\kvs.length<=i+1 /\
         (∀n,Cj kvs (nk n)=wordAt (ys.take (i+1)) n)/\JQ (ys.take (i+1))/\A<=16/\A<=i+1/\i+1-A<=128/\AO [] ys=AO (ys.take (i+1)) (ys.drop (i+1)),bk:=fun _ H'=>Q .non H' }
      [some (.ref l),some (.ref d),some (.int A'),some (.int ((i:Nat)+1:Nat)),some (.ref q)] H2:=by
    intro A' hA'
    refine ⟨_,rfl,AA q a.Cli dx _ _ ⟨ rfl,h1,T.AX,T.Dn,rfl,_,rfl,Aq d _ ⟨ rfl,Hs.t hd2 h2,_,rfl,?_⟩⟩⟩
    rw[hk,Xn]
    cases ha:(ys.take i).any (fun y=>y.name==x.name) with
    |true=>
     refine Bx ⟨_,rfl,AA q a.Cli dx _ _ ⟨ rfl,h1,T.AX,T.EC,rfl,Aq _ _ ⟨ rfl,fun d2 hd2'=>?_⟩⟩⟩
     refine kE 2 x.place ?_ _ _ (Mp.trans (Mv.new hd2')) Ae
     rw[e2]
     unfold BS
     rw[if_pos ha]
    |false=>
     have hmany:tooMany (ys.take i) x=(decide (16<A')||decide (128<i+1-A')):=by
      unfold tooMany
      rw[<-hA,hnb]
      cases hxa:x.isAngle with
      |true=>
       rw[hxa] at hA'
       have hA'':A'=A+1:=hA'
       show decide (16<=A)=_
       rw[show decide (128<i+1-A')=false from decide_eq_false (by omega),Bool.or_false]
       exact decide_eq_decide.mpr (by omega)
      |false=>
       rw[hxa] at hA'
       have hA'':A'=A:=hA'
       show decide (128<=i-A)=_
       rw[show decide (16<A')=false from decide_eq_false (by omega),Bool.false_or]
       exact decide_eq_decide.mpr (by omega)
     have hA'i:A'<=i+1:=by rw[hA'];split<;>omega
     have raise4:tooMany (ys.take i) x=true->IJ xfs (fun H dx=>E (.ref a.CF) (some dx) H) (AL (tC (.int 4)) (AL (Gh K (AW 4) "place") BQ)) { nx:=fun _ _=>False,rt:=Q } [some (.ref l),some (.ref d),some (.int A'),some (.int ((i:Nat)+1:Nat)),some (.ref q)] H2:=fun hm=>by
      refine ⟨_,rfl,AA q a.Cli dx _ _ ⟨ rfl,h1,T.AX,T.EC,rfl,Aq _ _ ⟨ rfl,fun d2 hd2'=>?_⟩⟩⟩
      refine kE 4 x.place ?_ _ _ (Mp.trans (Mv.new hd2')) Ae
      rw[e2]
      unfold BS
      rw[if_neg (by rw[ha];decide),if_pos hm]
     refine Bw ⟨_,rfl,Aq _ _ ⟨ rfl,rfl,_,rfl,?_⟩⟩
     by_cases hb1:16<A'
     ·refine Bn (fun _=>?_) (fun z=>absurd (decide_eq_true (show (16:Int)<(A':Int) by omega)) z)
      exact Bx (raise4 (by rw[hmany,decide_eq_true hb1];rfl))
     ·refine Bn (fun z=>absurd (of_decide_eq_true z) (by omega)) (fun _=>?_)
      refine ⟨_,rfl,_,rfl,Aq _ _ ⟨ rfl,rfl,Aq _ _ ⟨ rfl,rfl,_,rfl,?_⟩⟩⟩
      by_cases hb2:128<i+1-A'
      ·refine Bn (fun _=>?_) (fun z=>absurd (decide_eq_true (show (128:Int)<((i+1:Nat):Int)-(A':Int) by omega)) z)
       exact raise4 (by rw[hmany,decide_eq_true hb2];simp)
      ·refine Bn (fun z=>absurd (of_decide_eq_true z) (by omega)) (fun _=>?_)
       have hm0:tooMany (ys.take i) x=false:=by rw[hmany,decide_eq_false hb1,decide_eq_false hb2];rfl
       refine ⟨_,rfl,AN q x as ⟨ rfl,hTx,hS,fun H3 M3=>?_⟩⟩
       have h13:=M3 _ _ h1 (by simp)
       refine ⟨_,rfl,?_⟩
       cases hmu:tooMuch x with
       |true=>
        refine Bx ⟨_,rfl,AA q a.Cli dx _ _ ⟨ rfl,h13,T.AX,T.EC,rfl,Aq _ _ ⟨ rfl,fun d2 hd2'=>?_⟩⟩⟩
        refine kE 5 x.place ?_ _ _ ((Mp.trans M3).trans (Mv.new hd2')) Ae
        rw[e2]
        unfold BS
        rw[if_neg (by rw[ha];decide),if_neg (by rw[hm0];decide),if_pos hmu]
       |false=>
        have hlf:BS (ys.take i) x=(x.uses.find? fun (z:Term)=>!fits (ys.take i) x z).map fun (z:Term)=>(3,z.at_):=by
         unfold BS
         rw[if_neg (by rw[ha];decide),if_neg (by rw[hm0];decide),if_neg (by rw[hmu];decide)]
        refine Bw ⟨_,rfl,_,rfl,Aw q x as d ⟨ kvs,ys.take i,rfl,hTx.mono (fun _ z=>z) (fun c _ o z=>M3 _ _ z (by simp)),hS,M3 _ _ hd2 (by simp),hk,hu,fun ej H4 M4=>?_,fun k p ej d2 H4 M4 hF=>?_⟩⟩
        ·have h14:=M4 _ _ h13 (by simp)
         have hd4:=M4 _ _ (M3 _ _ hd2 (by simp)) (by simp)
         have h24:=M4 _ _ (M3 _ _ h2 (by simp)) (by simp)
         refine ⟨_,rfl,AA q a.Cli dx _ _ ⟨ rfl,h14,T.AX,T.CH,rfl,_,rfl,_,rfl,AA q a.Cli dx _ _ ⟨ rfl,h14,T.AX,T.Dn,rfl,Aq d _ ⟨ rfl,TF.t hd4 h24 (Nat.lt_of_le_of_lt hkl (Nat.lt_of_lt_of_le (show i<200 by omega) (by decide))),?_⟩⟩⟩⟩
         refine (Aq _ _ ⟨ putK kvs (nk x.name) (.str (wordOf x)),A',rfl,?_,((Mp.trans M3).trans M4).ext hd,Ae,Nat.le_trans (Dm _ _ _) (by omega),fun n=>?_,?_,by omega,hA'i,by omega,?_⟩)
         ·rw[htk,List.filter_append,List.length_append,<-hA,hA']
          cases hxa:x.isAngle<;>simp[List.filter_cons,hxa]
         ·rw[Mb,htk,Xm _ _ _ ha]
          by_cases hn:n=x.name
          ·subst hn
           rw[if_pos rfl,if_pos rfl]
          ·rw[if_neg fun z=>hn (Qm z),if_neg hn,hk n]
         ·rw[htk]
          refine List.pairwise_append.mpr ⟨hu,List.pairwise_singleton _ _,fun z hz z2 hz2=>?_⟩
          rw[List.mem_singleton] at hz2
          rw[hz2]
          intro en
          have:=List.any_eq_false.mp ha z hz
          exact this (by rw[en];simp)
         ·rw[e2,hlf,ej]
        ·refine kE k p ?_ _ _ ((Mp.trans M3).trans M4) hF
         rw[e2,hlf,ej]
   refine (Aq p _ ⟨ rfl,SqT.of hpp,rfl,Aq _ _ ⟨ rfl,Aq _ _ ⟨ rfl,rfl,?_⟩⟩⟩)
   ·refine ⟨_,rfl,AA q a.Cli dx _ _ ⟨ rfl,h1,T.AX,T.CH,rfl,rfl,_,rfl,?_⟩⟩
    rw[JR]
    cases hxa:x.isAngle with
    |true=>exact Bx ⟨_,rfl,Aq _ _ ⟨ rfl,rfl,rest (A+1) (by rw[hxa];rfl)⟩⟩
    |false=>exact Bw (rest A (by rw[hxa];rfl))
  ·rintro σ H1 hI_
   refine hid fun X_ k_=>?_
   obtain ⟨v3,v4,kvs,A,rfl,hA,M1,hd1,hkl,hk,hu,hA16,hAi,hB,e1⟩:=hI_
   refine k_ ?_;clear k_
   refine kO ?_ _ M1
   rw[e1,List.length_map,hT.1,List.drop_length,AO]
noncomputable def Sv (a:Ad) (as:List Addr) (H:Hp) (l:Addr) (ys:List Line):Prop:=∃ps,H l=some (.lst (ps.map V.ref))/\FN a as H ps ys/\l∈as
theorem Sv.mono {as as':List Addr}{H H':Hp}{l:Addr}{ys:List Line} (h:Sv a as H l ys) (s:∀c∈as,c∈as') (k:∀c∈as,∀o,H c=some o->H' c=some o):Sv a as' H' l ys:=by
 refine hid fun X_ k_=>?_
 obtain ⟨ps,h1,h2,m⟩:=h
 refine k_ ?_;clear k_
 exact ⟨ps,k _ m _ h1,h2.mono s k,s _ m⟩
noncomputable def dh (a:Ad):Sp:=fun vs H Q E=>∃t b,vs=[.ref t]/\H t=some (.lst (bV b))/\b.length<=30000 /\
 (∀ys,Tide.judge b = .ok ys->∀l as H',Mv [] H H'->(∀c∈as,H c=none)->Sv a as H' l ys->Q (.ref l) H') /\
 (∀k p,Tide.judge b = .error (k,p)->∀dx H',Mv [] H H'->Flt H' dx k p->E (.ref a.CF) (some dx) H')
theorem WI (T:Txt K mg a):Cal P w K mg base a 11 "read_sky" QD (dh a):=by
 refine AF (k:=10) T.XJ IE (fun _ _ _ _ _ _=>CC fun _=>rfl) (fun _ _ _ _=>RN fun _ _=>rfl) (fun f cdv A outer s H vs Q E hr h=>?_)
 ·refine hid fun X_ k_=>?_
  obtain ⟨t,b,rfl,ht,hb,kO,kE⟩:=h
  refine k_ ?_;clear k_
  refine ⟨_,(Ab (Al (i:=1) IE.nd rfl (Or.inl rfl) (Gx (HN T) hr Ak (Aa (pv 0) Ac))) (Ab (Al (i:=2) IE.nd rfl (Or.inl rfl) (Bb Ac)) (Ab (Cs El (CY (Bt (BZ (FV T) T.Aj hr Ak (pv 1)))) (Af (AJ (He PySem.F.plainAttrs_list PySem.F.slot_list_append PySem.F.type_list_append CP (pv 2) (Aa (Ar (UQ T) hr Ak (Aa (pv 1) Ac)) Ac))))) (Ab (AJ (Ar (Qt T) hr Ak (Aa (pv 2) Ac))) (Af (Ap (pv 2))))))),?_⟩
  rw[Wd] at kO kE
  refine ⟨_,rfl,fun x dx hxn hdn nxd=>?_⟩
  refine (Aw x dx t b ⟨ rfl,Ae,DX hxn hdn ht,hb,fun H0 R0 M0=>⟨rfl,?_⟩⟩)
  have N0:Mv [] H H0:=fun c o e _=>M0 c o (DX hxn hdn e) (by simpa using An e hxn)
  have gE:∀p,grammar b = .error p->∀d2 H2,Mv [x] H0 H2->Flt H2 d2 1 p->E (.ref a.CF) (some d2) H2:=fun p e d2 H2 M hF=>kE 1 p (by rw[e]) d2 H2 (M.drop hxn N0) hF
  have gdef:grammar b=linesIn (b.length+1) ⟨b,0⟩:=rfl
  refine ⟨Nat.zero_le _,fun l hl=>?_⟩
  have nl:=R0.new hl
  have hlH:H l=none:=N0.none (by simp) hl
  refine ⟨fun m σ H'=>∃c' pre ps as,∃f:Nat,σ=[some (.ref t),some (.ref x),some (.ref l)]/\Rdr a H' x t b c'/\Mv [x] H0 H'/\H' l=some (.lst (ps.map V.ref))/\FN a as H' ps pre/\(∀c∈as,H c=none/\c≠l/\c≠x) /\
   (∀y∈pre,LSm y)/\m=b.length-c'.at_/\f+pre.length=b.length+1/\pre.length<=c'.at_/\grammar b=(linesIn f c' >>= fun r=>pure (pre++r)),
   ⟨_,⟨b,0⟩,[],[],[],b.length+1,rfl,R0.lay hl,Mv.new hl,Ae,FN.nil,fun c hc=>(by cases hc),fun y hy=>(by cases hy),rfl,rfl,Nat.zero_le _,(by rw[gdef];simp)⟩,?_⟩
  rintro m σ H6 hI_
  refine hid fun X_ k_=>?_
  obtain ⟨c6,pre,ps,as,f6,rfl,R6,M6,hl6,hT6,has,hpr,rfl,hf6,hc6,e6⟩:=hI_
  refine k_ ?_;clear k_
  obtain ⟨dx6,hx6⟩:=R6.ins
  have M6H:Mv [] H H6:=M6.drop hxn N0
  refine ⟨_,rfl,AN x dx6 _ ⟨ rfl,hx6,rfl,Aw x t b c6 ⟨ rfl,R6,_,rfl,?_⟩⟩⟩
  by_cases hend:c6.next=none
  ·rw[show decide (nx c6=256)=true from decide_eq_true (Qo.mpr hend)]
   have hrest:c6.rest=[]:=by
    unfold Tide.Cur.next at hend
    exact List.head?_eq_none_iff.mp hend
   have eg:grammar b = .ok pre:=by
    rw[e6]
    cases f6 with
    |zero=>rw[linesIn];simp[bind,Except.bind,pure,Except.pure]
    |succ f=>rw[linesIn,if_pos hrest];simp[bind,Except.bind,pure,Except.pure]
   rw[eg] at kO kE
   refine Bw ⟨_,rfl,Aw l ps pre as ⟨ rfl,hl6,hT6,hpr,fun ej H7 M7=>?_,fun k p ej d2 H7 M7 hF=>kE k p (by show (match AO [] pre with|some f=>_|none=>_)=_;rw[ej]) _ _ (M6H.trans M7) hF⟩⟩
   refine ⟨_,rfl,kO pre (by show (match AO [] pre with|some f=>_|none=>_)=_;rw[ej]) l (l::as) H7 (M6H.trans M7) (fun c hc=>?_) ⟨ps,M7 _ _ hl6 (by simp),hT6.mono (fun c hc=>by simp[hc]) fun c _ o z=>M7 _ _ z (by simp),by simp⟩⟩
   rcases List.mem_cons.mp hc with rfl|hc
   ·exact hlH
   ·exact (has c hc).1
  ·rw[show decide (nx c6=256)=false from decide_eq_false fun z=>hend (Qo.mp z)]
   have hrest:¬c6.rest=[]:=fun z=>hend (by unfold Tide.Cur.next;rw[z];rfl)
   have hlt:c6.at_<b.length:=Nat.lt_of_not_le fun z=>hrest (R6.inn.Za.mpr z)
   obtain ⟨f,rfl⟩:∃f,f6=f+1:=⟨f6-1,by omega⟩
   have e7:grammar b=(lineIn c6 >>= fun q=>linesIn f q.2 >>= fun r=>pure (pre++[q.1]++r)):=by
    rw[e6,linesIn,if_neg hrest]
    simp only [bind_assoc,pure_bind,List.append_assoc,List.singleton_append]
   refine Bx ⟨fun σ' H'=>_,fun σ' H' z=>z,?_⟩
   refine ⟨_,rfl,.inl ⟨rfl,_,SqL.of hl6⟩,_,rfl,Aw x t b c6 ⟨ rfl,R6,fun y c8 e8 v H8 R8 M8 hv=>?_,fun p e d2 H2 M2 hF=>gE p (by rw[e7,e];rfl) _ _ (M6.trans M2) hF⟩⟩
   obtain ⟨q,as2,rfl,has2,hT8⟩:=hv
   have hl8:=M8 _ _ hl6 (by simpa using nl.1)
   obtain ⟨hin8,hok8⟩:=Ms e8 R6.inn
   have hat8:c6.at_<c8.at_:=by have:=hok8.place;omega
   have hsz:(ps.map V.ref).length<sizeLine:=by
    rw[List.length_map,hT6.1]
    exact Nat.lt_of_le_of_lt (show pre.length<=30000 by omega) (by decide)
   refine (AN l _ _ ⟨ rfl,rfl,hl8,hsz,?_⟩)
   have nas2:∀c∈as2,c≠l/\c≠x:=fun c hc=>⟨Bd (has2 c hc) hl6,Bd (has2 c hc) hx6⟩
   refine ⟨b.length-c8.at_,by have:=R8.inn.2;omega,c8,pre++[y],ps++[q],as++as2,f,rfl,R8.upd nl.1 nl.2,(M6.trans M8).ext hl,by rw[Ae,List.map_append];rfl,?_,fun c hc=>?_,fun z hz=>?_,rfl,by simp;omega,by simp;omega,?_⟩
   ·refine FN.snoc (hT6.mono (fun c hc=>List.mem_append_left _ hc) fun c hc o zz=>?_) (hT8.mono (fun c hc=>List.mem_append_right _ hc) fun c hc o zz=>?_)
    ·rw[Ai (has c hc).2.1]
     exact M8 _ _ zz (by simpa using (has c hc).2.2)
    ·rw[Ai (nas2 c hc).1]
     exact zz
   ·rcases List.mem_append.mp hc with hc|hc
    ·exact has c hc
    ·exact ⟨M6H.none (by simp) (has2 c hc),nas2 c hc⟩
   ·rcases List.mem_append.mp hz with hz|hz
    ·exact hpr z hz
    ·rw[List.mem_singleton] at hz;rw[hz];exact PR e8 R6.inn
   ·rw[e7,e8]
    rfl
end
end Td
namespace Td
open PySem PySem.Spec PyProof.Rows L2
open Tide (Bytes Cur Train Machine plainNumber some_ isDigit nextIs decimal pointed trainIn trainsIn pairsIn cogGrammar judgeCog product)
structure TSm (x:Train):Prop where
 ne:x.pairs≠[]
 len:x.pairs.length<=6
 pr:∀p∈x.pairs,1<=p.1/\p.1<=999/\1<=p.2/\p.2<=999
 sz:x.size<1000000
 st:x.start<1000000
structure MSm (m:Machine):Prop where
 te:1<=m.teeth/\m.teeth<=999
 mi:1<=m.minutes/\m.minutes<=99999
 tr:∀x∈m.trains,TSm x
theorem dec_lt {x:Bytes} (h:∀c∈x,isDigit c=true):decimal x<10^x.length:=by
 have e:=IL x h
 have hb:=(Ff (x.map CN) (Gq h)).2
 rw[e,List.length_map] at hb
 exact_mod_cast hb
theorem eB {y:UInt8}{x:Bytes} (hy:isDigit y=true) (h0:y≠48) (h:∀c∈x,isDigit c=true):1<=decimal (y::x):=by
 have e:=IL (y::x) (fun c hc=>by rcases List.mem_cons.mp hc with rfl|hc;exact hy;exact h c hc)
 have e2:Fi ((y::x).map CN)=CN y*10^(x.map CN).length+Fi (x.map CN):=by
  show (x.map CN).foldl (fun (v d:Int)=>v*10+d) (0*10+CN y)=_
  rw[Gi]
  simp
 have hd:=Dl.mp hy
 have hne:y.toNat≠48:=fun z=>h0 (UInt8.toNat_inj.mp z)
 have h1:1<=CN y:=by unfold CN;omega
 have hp:(1:Int)<=10^(x.map CN).length:=by
  have:(0:Int)<10^(x.map CN).length:=Int.pow_pos (by decide)
  omega
 have hb:=(Ff (x.map CN) (Gq h)).1
 have hm:1*1<=CN y*10^(x.map CN).length:=Int.mul_le_mul h1 hp (by decide) (by omega)
 rw[e2] at e
 omega
theorem Ed {b:Bytes}{z:Bool}{n:Nat}{c d:Cur}{v:Nat} (h:plainNumber z (n+1) c = .ok (v,d)) (i:In b c):v<10^(n+1)/\(z=false->1<=v):=by
 unfold plainNumber at h
 by_cases q:z=true/\c.next=some 48
 ·rw[if_pos q] at h
  cases h
  exact ⟨Nat.pow_pos (by decide),fun e=>by rw[q.1] at e;cases e⟩
 ·rw[if_neg q] at h
  by_cases r:nextIs (fun (x:UInt8)=>isDigit x&&x != 48) c=true
  ·rw[if_pos r] at h
   obtain ⟨y,hy,hyd⟩:=Bz r
   rw[Bool.and_eq_true] at hyd
   obtain ⟨_,_,hl,hd⟩:=IW (p:=isDigit) (n:=n+1) i
   have hv:decimal (some_ isDigit (n+1) c).1=v:=by cases h;rfl
   have hlt:=dec_lt hd
   refine ⟨?_,fun _=>?_⟩
   ·rw[<-hv]
    exact Nat.lt_of_lt_of_le hlt (Nat.pow_le_pow_right (by decide) hl)
   ·rw[<-hv,Gf hy hyd.1]
    rw[Gf hy hyd.1] at hd
    exact eB hyd.1 (bne_iff_ne.mp hyd.2) fun c hc=>hd c (List.mem_cons_of_mem _ hc)
  ·rw[if_neg r] at h
   cases h
theorem QI {b:Bytes}{c d:Cur}{p:Nat×Nat} (h:CV c = .ok (p,d)) (i:In b c):In b d/\1<=p.1/\p.1<=999/\1<=p.2/\p.2<=999:=by
 unfold CV at h
 obtain ⟨⟨x,c1⟩,h1,h⟩:=Ag.mp h
 obtain ⟨c2,h2,h⟩:=Ag.mp h
 obtain ⟨⟨y,c3⟩,h3,h⟩:=Ag.mp h
 have h4:=AZ.mp h
 cases h4
 have i1:=(AV (n:=2) h1 i).1
 have i2:=(Bj h2 i1).1
 have s1:=Ed (n:=2) h1 i
 have s3:=Ed (n:=2) h3 i2
 have a1:=s1.2 rfl
 have a3:=s3.2 rfl
 refine ⟨(AV (n:=2) h3 i2).1,a1,?_,a3,?_⟩
 ·have:=s1.1;show x<=999;omega
 ·have:=s3.1;show y<=999;omega
theorem NB {b:Bytes}:∀{f:Nat}{c d:Cur}{l:List (Nat×Nat)},pairsIn f c = .ok (l,d)->In b c->∀p∈l,1<=p.1/\p.1<=999/\1<=p.2/\p.2<=999
 |0,c,d,l,h,i=>by
  rw[pairsIn] at h
  obtain ⟨e,_,h2⟩:=Ek.mp h
  cases h2
  exact fun p hp=>by cases hp
 |f+1,c,d,l,h,i=>by
  by_cases q:c.next=some 32
  ·rw[WJ q] at h
   obtain ⟨c1,h1,h⟩:=Ag.mp h
   obtain ⟨⟨p,c2⟩,h2,h⟩:=Ag.mp h
   obtain ⟨⟨r,c3⟩,h3,h⟩:=Ag.mp h
   have h4:=AZ.mp h
   cases h4
   have i1:=(AY h1 i).1
   obtain ⟨i2,s⟩:=QI h2 i1
   intro z hz
   rcases List.mem_cons.mp hz with rfl|hz
   ·exact s
   ·exact NB h3 i2 z hz
  ·rw[Te q] at h
   obtain ⟨e,_,h2⟩:=Ek.mp h
   cases h2
   exact fun p hp=>by cases hp
theorem Xe {b:Bytes}{c d:Cur}{x:Train} (h:trainIn c = .ok (x,d)) (i:In b c):TSm x:=by
 obtain ⟨_,_,_,_,hne,hl⟩:=DQ h i
 rw[Km] at h
 obtain ⟨c1,h1,h⟩:=Ag.mp h
 obtain ⟨⟨n,c2⟩,h2,h⟩:=Ag.mp h
 obtain ⟨c3,h3,h⟩:=Ag.mp h
 obtain ⟨⟨z,c4⟩,h4,h⟩:=Ag.mp h
 obtain ⟨c5,h5,h⟩:=Ag.mp h
 obtain ⟨⟨s,c6⟩,h6,h⟩:=Ag.mp h
 obtain ⟨⟨r,c7⟩,h7,h⟩:=Ag.mp h
 have h8:=AZ.mp h
 have i3:=(AY h3 (Cf h2 (Bj h1 i).1).1).1
 have i4:=(QR (n:=1) (m:=3) h4 i3).1
 have i5:=(AY h5 i4).1
 have i6:=(AV (n:=5) h6 i5).1
 have sz:=FL (m:=1) (k:=3) h4 i3
 have ss:=(Ed (n:=5) h6 i5).1
 cases h8
 refine ⟨hne,hl,?_,sz,ss⟩
 unfold Cg at h7
 obtain ⟨e1,g1,h7⟩:=Ag.mp h7
 obtain ⟨⟨p,e2⟩,g2,h7⟩:=Ag.mp h7
 obtain ⟨⟨r2,e3⟩,g3,h7⟩:=Ag.mp h7
 have g4:=AZ.mp h7
 cases g4
 obtain ⟨j2,sp⟩:=QI g2 (AY g1 i6).1
 intro q hq
 rcases List.mem_cons.mp hq with rfl|hq
 ·exact sp
 ·exact NB g3 j2 q hq
theorem LY {b:Bytes}:∀{f:Nat}{c:Cur}{l:List Train},trainsIn f c = .ok l->In b c->∀x∈l,TSm x
 |0,c,l,h,i=>by
  rw[trainsIn] at h
  cases h
  exact fun p hp=>by cases hp
 |f+1,c,l,h,i=>by
  rw[trainsIn] at h
  by_cases q:c.rest=[]
  ·rw[if_pos q] at h
   cases h
   exact fun p hp=>by cases hp
  ·rw[if_neg q] at h
   obtain ⟨⟨x,c1⟩,h1,h⟩:=Ag.mp h
   obtain ⟨r,h2,h⟩:=Ag.mp h
   have h3:=AZ.mp h
   cases h3
   intro z hz
   rcases List.mem_cons.mp hz with rfl|hz
   ·exact Xe h1 i
   ·exact LY h2 (DQ h1 i).1 z hz
theorem RP {b:Bytes}{m:Machine} (h:judgeCog b = .ok m):MSm m:=by
 rw[Ft] at h
 cases e:cogGrammar b with
 |error p=>rw[e] at h;cases h
 |ok m'=>
  rw[e] at h
  replace h:(match AI [] m'.trains with|some f=>Except.error f|none=>Except.ok m')=Except.ok m:=h
  have hm:m'=m:=by
   cases q:AI [] m'.trains with
   |none=>rw[q] at h;cases h;rfl
   |some f=>rw[q] at h;cases h
  subst hm
  unfold cogGrammar at e
  obtain ⟨c1,h1,e⟩:=Ag.mp e
  obtain ⟨⟨t,c2⟩,h2,e⟩:=Ag.mp e
  obtain ⟨c3,h3,e⟩:=Ag.mp e
  obtain ⟨⟨mi,c4⟩,h4,e⟩:=Ag.mp e
  obtain ⟨c5,h5,e⟩:=Ag.mp e
  obtain ⟨r,h6,e⟩:=Ag.mp e
  have h7:=AZ.mp e
  have i1:=(Bj h1 (In.start b)).1
  have i2:=(AV (n:=2) h2 i1).1
  have i3:=(AY h3 i2).1
  have i4:=(AV (n:=4) h4 i3).1
  have i5:=(Bj h5 i4).1
  have s2:=Ed (n:=2) h2 i1
  have s4:=Ed (n:=4) h4 i3
  have a2:=s2.2 rfl
  have a4:=s4.2 rfl
  cases h7
  exact ⟨⟨a2,by have:=s2.1;show t<=999;omega⟩,⟨a4,by have:=s4.1;show mi<=99999;omega⟩,LY h6 i5⟩
theorem OO:∀(l:List Nat) ,(∀x∈l,1<=x/\x<=999)->1<=product l/\product l<=1000^l.length
 |[],_=>by unfold product;decide
 |x::r,h=>by
  have ih:=OO r fun y hy=>h y (List.mem_cons_of_mem _ hy)
  have hx:=h x (List.mem_cons_self ..)
  have e:product (x::r)=x*product r:=rfl
  rw[e,List.length_cons,Nat.pow_succ,Nat.mul_comm (1000^r.length)]
  refine ⟨Nat.mul_le_mul hx.1 ih.1,Nat.mul_le_mul (by omega) ih.2⟩
theorem TSm.up {x:Train} (h:TSm x):1<=x.up/\x.up<=10^18:=by
 have:=OO (x.pairs.map fun p=>p.1) (fun y hy=>by obtain ⟨p,hp,rfl⟩:=List.mem_map.mp hy;have:=h.pr p hp;exact ⟨this.1,this.2.1⟩)
 refine ⟨this.1,Nat.le_trans this.2 ?_⟩
 rw[List.length_map]
 exact Nat.le_trans (Nat.pow_le_pow_right (by decide) h.len) (by decide)
theorem TSm.down {x:Train} (h:TSm x):1<=x.down/\x.down<=10^18:=by
 have:=OO (x.pairs.map fun p=>p.2) (fun y hy=>by obtain ⟨p,hp,rfl⟩:=List.mem_map.mp hy;have:=h.pr p hp;exact ⟨this.2.2.1,this.2.2.2⟩)
 refine ⟨this.1,Nat.le_trans this.2 ?_⟩
 rw[List.length_map]
 exact Nat.le_trans (Nat.pow_le_pow_right (by decide) h.len) (by decide)
section
variable {P:Program}{w:World}{K:PySem.W.Frag}{mg:Str->Option Value}{base:Heap}{a:Ad}
noncomputable def iC:Sp:=fun vs H Q _=>∃x y:Nat,vs=[.int x,.int y]/\Q (.int (Nat.gcd x y:Nat)) H
theorem Le (T:Txt K mg a):Cal P w K mg base a 1 "common_divisor" FX iC:=by
 refine AF (k:=0) T.Mm Cz (fun _ _ _ _ _ _=>Fh fun _ _=>rfl) (fun _ _ _ _=>RN fun _ _=>rfl) (fun f cdv A outer s H vs Q E hr h=>?_)
 ·obtain ⟨x,y,rfl,k⟩:=h
  refine ⟨_,(Ab (Cs El (Av Ta (pv 1) Ao (AB _)) (Ab (Al (i:=2) Cz.nd rfl (Or.inl rfl) (Az Qy (pv 0) (pv 1))) (Ab (Al (i:=0) Cz.nd rfl (Or.inl rfl) (pv 1)) (Af (Al (i:=1) Cz.nd rfl (Or.inl rfl) (pv 2)))))) (Af (Ap (pv 0)))),?_⟩
  refine ⟨fun m σ H'=>∃u v:Nat,∃z,σ=[some (.int u),some (.int v),z]/\H'=H/\m=v/\Nat.gcd u v=Nat.gcd x y,(Aw _ x y none ⟨ rfl,rfl,rfl,rfl⟩),?_⟩
  rintro m σ H1 ⟨u,v,z,rfl,rfl,rfl,e⟩
  refine ⟨_,rfl,Aq _ _ ⟨ rfl,rfl,_,rfl,?_⟩⟩
  by_cases hv:0<m
  ·refine Bn (fun _=>?_) (fun z=>absurd (decide_eq_true (show (0:Int)<(m:Int) by omega)) z)
   refine ⟨fun σ' H'=>_,fun σ' H' z=>z,?_⟩
   refine ⟨_,rfl,_,rfl,Aq _ _ ⟨ rfl,rfl,(by show (0:Int)<(m:Int);omega),_,rfl,_,rfl,?_⟩⟩
   refine ⟨u%m,Nat.mod_lt _ hv,m,u%m,some (.int ((u%m:Nat):Int)),?_,rfl,rfl,by rw[bR];exact e⟩
   rfl
  ·refine Bn (fun z=>absurd (of_decide_eq_true z) (by omega)) (fun _=>⟨_,rfl,?_⟩)
   have:m=0:=by omega
   subst this
   rw[<-e,Nat.gcd_zero_right] at k
   exact k
noncomputable def aJ:Sp:=fun vs H Q _=>∃x y:Nat,vs=[.int x,.int y]/\0<y/\y<2^200/\∀p H',Mv [] H H'->H p=none->H' p=some (.tup [.int ((x/Nat.gcd x y:Nat):Int),.int ((y/Nat.gcd x y:Nat):Int)])->Q (.ref p) H'
theorem GV (T:Txt K mg a):Cal P w K mg base a 2 "lowest_terms" HZ aJ:=by
 refine AF (k:=1) T.Pu Ho (fun _ _ _ _ _ _=>Fh fun _ _=>rfl) (fun _ _ _ _=>RN fun _ _=>rfl) (fun f cdv A outer s H vs Q E hr h=>?_)
 ·obtain ⟨x,y,rfl,hy,hy2,k⟩:=h
  refine ⟨_,(Ab (Al (i:=2) Ho.nd rfl (Or.inl rfl) (Ar (Le T) hr Ak (Aa (pv 0) (Aa (pv 1) Ac)))) (Af (Ap (CW (Aa (Az BY (pv 0) (pv 2)) (Aa (Az BY (pv 1) (pv 2)) Ac)))))),?_⟩
  have hg:0<Nat.gcd x y:=Nat.gcd_pos_of_pos_right x hy
  have hg2:Nat.gcd x y<=y:=Nat.gcd_le_right x hy
  have hc:CDB (x:Int) ((Nat.gcd x y:Nat):Int):=⟨by omega,by
   have:Nat.gcd x y<2^200:=Nat.lt_of_le_of_lt hg2 hy2
   have h2:(2:Nat)^200<=2^250:=Nat.pow_le_pow_right (by decide) (by decide)
   have h3:Nat.gcd x y<2^250:=Nat.lt_of_lt_of_le this h2
   exact_mod_cast h3⟩
  refine ⟨_,rfl,_,rfl,Aq x y ⟨ rfl,?_⟩⟩
  refine ⟨_,rfl,_,rfl,Aq _ _ ⟨ rfl,rfl,hc,_,rfl,_,rfl,Aq _ _ ⟨ rfl,rfl,hc,(by show 2<=sizeLine;decide),fun p hp=>?_⟩⟩⟩
  refine k p _ (Mv.new hp) hp ?_
  rw[Ae]
  rfl
noncomputable def du (a:Ad):Sp:=fun vs H Q _=>∃p x as,vs=[.ref p]/\JP a as H p x/\TSm x/\∀q H',Mv [] H H'->H q=none->H' q=some (.tup [.int (x.up:Int),.int (x.down:Int)])->Q (.ref q) H'
theorem Th {l:List Nat}{i y:Nat} (h:l[i]?=some y):product (l.take (i+1))=product (l.take i)*y:=by
 obtain ⟨h1,h2⟩:=List.getElem?_eq_some_iff.mp h
 have app:∀m:List Nat,product (m++[y])=product m*y:=fun m=>by
  induction m with
  |nil=>show y*1=1*y;omega
  |cons z r ih=>
   show z*product (r++[y])=z*product r*y
   rw[ih,Nat.mul_assoc]
 rw[List.take_succ_eq_append_getElem h1,h2,app]
theorem Nf (T:Txt K mg a):Cal P w K mg base a 1 "turns_of" QG (du a):=by
 refine AF (k:=0) T.XO Dq (fun _ _ _ _ _ _=>CC fun _=>rfl) (fun _ _ _ _=>PQ fun _ _ _=>rfl) (fun f cdv A outer s H vs Q E hr h=>?_)
 ·obtain ⟨p,x,as,rfl,hT,hS,k⟩:=h
  obtain ⟨dx,pn,pp,qs,h1,h2,h3,h4,_⟩:=hT
  refine ⟨_,(Ab (Al (i:=1) Dq.nd rfl (Or.inl rfl) Ao) (Ab (Al (i:=2) Dq.nd rfl (Or.inl rfl) Ao) (Ab (DN El rfl (Dg (Au (pv 0) rfl)) (Bm (i:=3) Dq.nd rfl (Or.inl rfl)) (Ab (Al (i:=1) Dq.nd rfl (Or.inl rfl) (Az Bl (pv 1) (Be BE (pv 3) Ao (fun _ _=>rfl)))) (Af (Al (i:=2) Dq.nd rfl (Or.inl rfl) (Az Bl (pv 2) (Be BE (pv 3) Ao (fun _ _=>rfl))))))) (Af (Ap (CW (Aa (pv 1) (Aa (pv 2) Ac)))))))),?_⟩
  refine ⟨_,rfl,AA p a.CT dx _ _ ⟨ rfl,h1,T.Bc,T.Dd,rfl,pp,rfl,⟨_,SqL.of h3⟩,EO (xs:=qs.map V.ref) (fun i σ H'=>∃v,σ=[some (.ref p),some (.int ((product ((x.pairs.map fun q=>q.1).take i):Nat):Int)),some (.int ((product ((x.pairs.map fun q=>q.2).take i):Nat):Int)),v]/\H'=H) ⟨none,rfl,rfl⟩ (fun i σ H' _ ⟨_,_,e⟩=>by rw[e];exact SqL.of h3) ?_ ?_⟩⟩
  ·rintro i y σ H1 hy ⟨v,rfl,rfl⟩
   obtain ⟨r,hr',rfl⟩:=CO hy
   have hi:i<x.pairs.length:=by have:=(List.getElem?_eq_some_iff.mp hr').1;rw[<-h4.1];exact this
   have hx:x.pairs[i]?=some x.pairs[i]:=List.getElem?_eq_getElem hi
   generalize hgi:x.pairs[i]=pr at hx
   have g:=h4.2 i r pr hr' hx
   have b0:=hS.pr pr (List.mem_of_getElem? hx)
   have f1:(x.pairs.map fun q=>q.1)[i]?=some pr.1:=by rw[List.getElem?_map,hx];rfl
   have f2:(x.pairs.map fun q=>q.2)[i]?=some pr.2:=by rw[List.getElem?_map,hx];rfl
   have big:∀(l:List Nat),l.length<=6->(∀z∈l,1<=z/\z<=999)->product l<2^250:=fun l hl hz=>by
    have:=(OO l hz).2
    exact Nat.lt_of_le_of_lt (Nat.le_trans this (Nat.pow_le_pow_right (by decide) hl)) (by decide)
   have c1:CB ((product ((x.pairs.map fun q=>q.1).take i):Nat):Int) (pr.1:Int):=⟨by rw[Int.natAbs_natCast];exact big _ (by rw[List.length_take,List.length_map];have:=hS.len;omega) (fun z hz=>by obtain ⟨q,hq,rfl⟩:=List.mem_map.mp (List.mem_of_mem_take hz);have:=hS.pr q hq;exact ⟨this.1,this.2.1⟩),by rw[Int.natAbs_natCast];exact Nat.lt_of_le_of_lt b0.2.1 (by decide)⟩
   have c2:CB ((product ((x.pairs.map fun q=>q.2).take i):Nat):Int) (pr.2:Int):=⟨by rw[Int.natAbs_natCast];exact big _ (by rw[List.length_take,List.length_map];have:=hS.len;omega) (fun z hz=>by obtain ⟨q,hq,rfl⟩:=List.mem_map.mp (List.mem_of_mem_take hz);have:=hS.pr q hq;exact ⟨this.2.2.1,this.2.2.2⟩),by rw[Int.natAbs_natCast];exact Nat.lt_of_le_of_lt b0.2.2.2 (by decide)⟩
   refine ⟨_,rfl,_,rfl,Aw r _ _ _ ⟨ rfl,rfl,SqT.of g,AK (j:=0) rfl,Aq _ _ ⟨ rfl,rfl,c1,?_⟩⟩⟩
   refine ⟨_,rfl,_,rfl,Aw r _ _ _ ⟨ rfl,rfl,SqT.of g,AK (j:=1) rfl,Aq _ _ ⟨ rfl,rfl,c2,?_⟩⟩⟩
   refine ⟨some (.ref r),?_,rfl⟩
   rw[Th f1,Th f2,Int.natCast_mul,Int.natCast_mul]
   rfl
  ·rintro σ H1 ⟨v,rfl,rfl⟩
   have e1:(x.pairs.map fun q=>q.1).take (qs.map V.ref).length=x.pairs.map fun q=>q.1:=by rw[List.length_map,h4.1];exact List.take_of_length_le (by rw[List.length_map];exact Nat.le_refl _)
   have e2:(x.pairs.map fun q=>q.2).take (qs.map V.ref).length=x.pairs.map fun q=>q.2:=by rw[List.length_map,h4.1];exact List.take_of_length_le (by rw[List.length_map];exact Nat.le_refl _)
   rw[e1,e2]
   refine ⟨_,rfl,_,rfl,(by show 2<=sizeLine;decide),fun q hq=>?_⟩
   exact k q _ (Mv.new hq) hq Ae
noncomputable def low (x y:Nat):List V:=[.int ((x/Nat.gcd x y:Nat):Int),.int ((y/Nat.gcd x y:Nat):Int)]
noncomputable def di (a:Ad):Sp:=fun vs H Q _=>∃pm m pt x as as2,vs=[.ref pm,.ref pt]/\BB a as H pm m/\JP a as2 H pt x/\MSm m/\TSm x/\∀q H',Mv [] H H'->H q=none->H' q=some (.tup (low x.up (x.down*m.minutes)))->Q (.ref q) H'
theorem Nc (T:Txt K mg a):Cal P w K mg base a 3 "speed_of" QE (di a):=by
 refine AF (k:=2) T.XM NV (fun _ _ _ _ _ _=>Fh fun _ _=>rfl) (fun _ _ _ _=>XY fun _ _ _ _ _ _=>rfl) (fun f cdv A outer s H vs Q E hr h=>?_)
 ·obtain ⟨pm,m,pt,x,as,as2,rfl,hM,hT,hSm,hSt,k⟩:=h
  obtain ⟨dm,l,ps,g1,g2,g3,_⟩:=hM
  refine ⟨_,(Ab (Al (i:=2) NV.nd rfl (Or.inl rfl) (Ar (Nf T) hr Ak (Aa (pv 1) Ac))) (Af (Ap (Ar (GV T) hr Ak (Aa (Be BE (pv 2) Ao (fun _ _=>rfl)) (Aa (Az Bl (Be BE (pv 2) Ao (fun _ _=>rfl)) (Au (pv 0) rfl)) Ac)))))),?_⟩
  refine ⟨_,rfl,AN pt x as2 ⟨ rfl,hT,hSt,fun q H1 M1 hq hq1=>?_⟩⟩
  have hd:=hSt.down
  have hm:=hSm.mi
  have c1:CB (x.down:Int) (m.minutes:Int):=⟨by rw[Int.natAbs_natCast];exact Nat.lt_of_le_of_lt hd.2 (by decide),by rw[Int.natAbs_natCast];exact Nat.lt_of_le_of_lt hm.2 (by decide)⟩
  have hpos:0<x.down*m.minutes:=Nat.mul_pos (by omega) (by omega)
  have hlt:x.down*m.minutes<2^200:=Nat.lt_of_le_of_lt (Nat.mul_le_mul hd.2 hm.2) (by decide)
  refine ⟨_,rfl,Aw q _ _ _ ⟨ rfl,rfl,SqT.of hq1,AK (j:=0) rfl,_,rfl,Aw q _ _ _ ⟨ rfl,rfl,SqT.of hq1,AK (j:=1) rfl,_,rfl,AA pm a.CM dm _ _ ⟨ rfl,M1 _ _ g1 (by simp),T.AR,T.BW,rfl,Aq _ _ ⟨ rfl,rfl,c1,?_⟩⟩⟩⟩⟩
  exact ⟨x.up,x.down*m.minutes,rfl,hpos,hlt,fun p H' M' hp hp'=>k p H' (M1.trans M') (M1.none (by simp) hp) hp'⟩
theorem We:∀{l:List (Nat×Nat)}{p:Nat×Nat},p∈l->p.2∣product (l.map fun q=>q.2)
 |q::r,p,h=>by
  show p.2∣q.2*product (r.map fun q=>q.2)
  rcases List.mem_cons.mp h with rfl|h
  ·exact Nat.dvd_mul_right _ _
  ·exact Nat.dvd_trans (We h) (Nat.dvd_mul_left _ _)
theorem TSm.last {x:Train} (h:TSm x):1<=x.last/\x.last<=999/\x.last∣x.down:=by
 unfold Tide.Train.last
 cases e:x.pairs.getLast? with
 |none=>exact absurd (List.getLast?_eq_none_iff.mp e) h.ne
 |some p=>
  have hm:=List.mem_of_getLast? e
  have:=h.pr p hm
  exact ⟨this.2.2.1,this.2.2.2,We hm⟩
noncomputable def Hd (m:Machine) (x:Train) (n:Int):Nat:=(((x.start*(x.down*m.teeth/x.last):Nat)+n*(x.up:Int))%((x.down*m.teeth:Nat):Int)).toNat
noncomputable def cT (a:Ad):Sp:=fun vs H Q _=>∃pm m pt x as as2,∃n:Int,vs=[.ref pm,.ref pt,.int n]/\BB a as H pm m/\JP a as2 H pt x/\MSm m/\TSm x/\n.natAbs<2^40/\∀q H',Mv [] H H'->H q=none->H' q=some (.tup [.int (Hd m x n:Int),.int ((x.down*m.teeth:Nat):Int)])->Q (.ref q) H'
theorem Jm (T:Txt K mg a):Cal P w K mg base a 2 "part_after" Ln (cT a):=by
 refine AF (k:=1) T.Ud DU (fun _ _ _ _ _ _=>JS fun _ _ _=>rfl) (fun _ _ _ _=>Wh fun _ _ _ _ _ _ _=>rfl) (fun f cdv A outer s H vs Q E hr h=>?_)
 ·obtain ⟨pm,m,pt,x,as,as2,n,rfl,hM,hT,hSm,hSt,hn,k⟩:=h
  obtain ⟨dm,l,ps,g1,g2,g3,_⟩:=hM
  obtain ⟨dt,pn,pp,qs,t1,t2,t3,t4,_⟩:=id hT
  refine ⟨_,(Ab (Al (i:=3) DU.nd rfl (Or.inl rfl) (Ar (Nf T) hr Ak (Aa (pv 1) Ac))) (Ab (Al (i:=4) DU.nd rfl (Or.inl rfl) (Az Bl (Be BE (pv 3) Ao (fun _ _=>rfl)) (Au (pv 0) rfl))) (Ab (Al (i:=5) DU.nd rfl (Or.inl rfl) (Az Bl (Au (pv 1) rfl) (Az BY (pv 4) (Ar (Jl T) hr Ak (Aa (pv 1) Ac))))) (Af (Ap (CW (Aa (Az Qy (Az CU (pv 5) (Az Bl (pv 2) (Be BE (pv 3) Ao (fun _ _=>rfl)))) (pv 4)) (Aa (pv 4) Ac)))))))),?_⟩
  refine ⟨_,rfl,AN pt x as2 ⟨ rfl,hT,hSt,fun q H1 M1 hq hq1=>?_⟩⟩
  have hd:=hSt.down
  have hu:=hSt.up
  have ht:=hSm.te
  have hl:=hSt.last
  have b1:x.down*m.teeth<=10^18*999:=Nat.mul_le_mul hd.2 ht.2
  have hpos:0<x.down*m.teeth:=Nat.mul_pos (by omega) (by omega)
  have c1:CB (x.down:Int) (m.teeth:Int):=⟨by rw[Int.natAbs_natCast];exact Nat.lt_of_le_of_lt hd.2 (by decide),by rw[Int.natAbs_natCast];exact Nat.lt_of_le_of_lt ht.2 (by decide)⟩
  have hM1:=M1 _ _ g1 (by simp)
  have hT1:=M1 _ _ t1 (by simp)
  refine ⟨_,rfl,Aw q _ _ _ ⟨ rfl,rfl,SqT.of hq1,AK (j:=1) rfl,_,rfl,AA pm a.CM dm _ _ ⟨ rfl,hM1,T.AR,T.Cr,rfl,Aq _ _ ⟨ rfl,rfl,c1,?_⟩⟩⟩⟩
  have c2:CDB ((x.down:Int)*(m.teeth:Int)) (x.last:Int):=⟨by omega,by
   have:x.last<2^250:=Nat.lt_of_le_of_lt hl.2.1 (by decide)
   exact_mod_cast this⟩
  have hdiv:(x.down:Int)*(m.teeth:Int)/(x.last:Int)=((x.down*m.teeth/x.last:Nat):Int):=by
   rw[<-Int.natCast_mul]
   rfl
  have b2:x.down*m.teeth/x.last<=10^18*999:=Nat.le_trans (Nat.div_le_self _ _) b1
  have c3:CB (x.start:Int) ((x.down:Int)*(m.teeth:Int)/(x.last:Int)):=⟨by rw[Int.natAbs_natCast];exact Nat.lt_of_lt_of_le hSt.st (by decide),by rw[hdiv,Int.natAbs_natCast];exact Nat.lt_of_le_of_lt b2 (by decide)⟩
  refine ⟨_,rfl,pt,a.CT,dt,_,_,rfl,hT1,T.Bc,T.DT,rfl,_,rfl,_,rfl,pt,x,as2,rfl,hT.mono (fun _ z=>z) (fun c _ o z=>M1 _ _ z (by simp)),hSt.ne,_,_,rfl,rfl,c2,_,_,rfl,rfl,c3,?_⟩
  have c4:CB n (x.up:Int):=⟨Nat.lt_trans hn (by decide),by rw[Int.natAbs_natCast];exact Nat.lt_of_le_of_lt hu.2 (by decide)⟩
  refine ⟨_,rfl,_,rfl,_,rfl,q,_,_,_,rfl,rfl,SqT.of hq1,AK (j:=0) rfl,_,_,rfl,rfl,c4,_,_,rfl,rfl,_,rfl,_,_,rfl,rfl,?_,_,rfl,(by show 2<=sizeLine;decide),fun p hp=>?_⟩
  ·show (0:Int)<(x.down:Int)*(m.teeth:Int)
   rw[<-Int.natCast_mul]
   omega
  ·refine k p _ (M1.trans (Mv.new hp)) (M1.none (by simp) hp) ?_
   rw[Ae]
   have hmod:0<=((x.start*(x.down*m.teeth/x.last):Nat)+n*(x.up:Int))%((x.down*m.teeth:Nat):Int):=Int.emod_nonneg _ (by omega)
   have e:(Hd m x n:Int)=((x.start:Int)*((x.down:Int)*(m.teeth:Int)/(x.last:Int))+n*(x.up:Int))%((x.down:Int)*(m.teeth:Int)):=by
    unfold Hd
    rw[Int.toNat_of_nonneg hmod,hdiv,Int.natCast_mul,Int.natCast_mul]
   rw[e,Int.natCast_mul]
end
end Td
namespace Td
open PySem PySem.Spec PyProof.Rows L2
open Tide (arcTerms turnAbout cosOf sinOf series quarterCos cosAt rounded QUARTER)
theorem Zc {α β:Type} (f:α->β):∀l:List α,ev4 (l.map f)=(ev4 l).map f
 |[]=>rfl
 |[_]=>rfl
 |[_,_]=>rfl
 |[_,_,_]=>rfl
 |x::y::z::u::r=>by
  show f x::ev4 (r.map f)=f x::(ev4 r).map f
  rw[Zc f r]
noncomputable def su (l:List Nat):Int:=((ev4 l).map fun (n:Nat)=>(n:Int)).sum
theorem LX:∀j:Nat,su (List.replicate j 0)=0
 |0=>rfl
 |1=>rfl
 |2=>rfl
 |3=>rfl
 |j+4=>by
  show (((0:Nat):Int)::(ev4 (List.replicate j 0)).map fun (n:Nat)=>(n:Int)).sum=0
  rw[List.sum_cons]
  have:=LX j
  unfold su at this
  omega
theorem YD:∀(l:List Nat) (j:Nat),su (l++List.replicate j 0)=su l
 |[],j=>by rw[List.nil_append,LX];rfl
 |[x],0=>rfl
 |[x],1=>rfl
 |[x],2=>rfl
 |[x],j+3=>by
  show ((x:Int)::(ev4 (List.replicate j 0)).map fun (n:Nat)=>(n:Int)).sum=([(x:Int)]).sum
  have:=LX j
  unfold su at this
  rw[List.sum_cons,this]
  simp
 |[x,y],0=>rfl
 |[x,y],1=>rfl
 |[x,y],j+2=>by
  show ((x:Int)::(ev4 (List.replicate j 0)).map fun (n:Nat)=>(n:Int)).sum=([(x:Int)]).sum
  have:=LX j
  unfold su at this
  rw[List.sum_cons,this]
  simp
 |[x,y,z],0=>rfl
 |[x,y,z],j+1=>by
  show ((x:Int)::(ev4 (List.replicate j 0)).map fun (n:Nat)=>(n:Int)).sum=([(x:Int)]).sum
  have:=LX j
  unfold su at this
  rw[List.sum_cons,this]
  simp
 |x::y::z::u::r,j=>by
  have:=YD r j
  unfold su at this ⊢
  show ((x:Int)::(ev4 (r++List.replicate j 0)).map fun (n:Nat)=>(n:Int)).sum=((x:Int)::(ev4 r).map fun (n:Nat)=>(n:Int)).sum
  rw[List.sum_cons,List.sum_cons,this]
theorem Vq (l:List Nat) (j k:Nat):su ((l++List.replicate j 0).drop k)=su (l.drop k):=by
 rw[List.drop_append]
 have:(List.replicate j 0).drop (k-l.length)=List.replicate (j-(k-l.length)) 0:=by rw[List.drop_replicate]
 rw[this,YD]
theorem Pk:∀(l:List Nat) (z:Nat),l.length%4≠0->ev4 (l++[z])=ev4 l
 |[],z,h=>absurd rfl h
 |[x],z,_=>rfl
 |[x,y],z,_=>rfl
 |[x,y,u],z,_=>rfl
 |x::y::u::v::r,z,h=>by
  have:=Pk r z (by simp only [List.length_cons] at h;omega)
  show x::ev4 (r++[z])=x::ev4 r
  rw[this]
theorem about:∀(k:Nat) (l:List Nat),l.length=4*k->turnAbout l=su l-su (l.drop 2)
 |0,[],_=>rfl
 |0,_::_,h=>by simp at h
 |k+1,[],h=>by simp at h
 |k+1,[_],h=>by simp at h;omega
 |k+1,[_,_],h=>by simp at h;omega
 |k+1,[_,_,_],h=>by simp at h;omega
 |k+1,x::y::z::u::r,h=>by
  have hr:r.length=4*k:=by simp only [List.length_cons] at h;omega
  have ih:=about k r hr
  have e2:su (z::u::r)=(z:Int)+su (r.drop 2):=by
   match k,r,hr with
   |0,[],_=>simp[su,ev4]
   |k+1,a::b::r',_=>simp[su,ev4]
  have e1:su (x::y::z::u::r)=(x:Int)+su r:=by simp[su,ev4]
  show (x:Int)-(z:Int)+turnAbout r=su (x::y::z::u::r)-su (z::u::r)
  rw[ih,e1,e2]
  omega
theorem Kq (x:Nat):∀(f k t:Nat),(arcTerms x f k t).length=f
 |0,_,_=>rfl
 |f+1,k,t=>by rw[arcTerms,List.length_cons,Kq x f]
theorem Vw (x:Nat):∀(f k:Nat),arcTerms x f k 0=List.replicate f 0
 |0,_=>rfl
 |f+1,k=>by
  rw[arcTerms,Nat.zero_mul,Nat.zero_div,Nat.zero_div,Vw x f]
  rfl
theorem OW (x:Nat):∀(f k t:Nat),∃z,arcTerms x (f+1) k t=arcTerms x f k t++[z]
 |0,k,t=>⟨t,rfl⟩
 |f+1,k,t=>by
  obtain ⟨z,hz⟩:=OW x f (k+1) (t*x/2^Tide.BITS/(k+1))
  refine ⟨z,?_⟩
  rw[arcTerms,hz]
  rfl
theorem bE (x:Nat):cosOf x=su (arcTerms x 64 0 (2^Tide.BITS))-su ((arcTerms x 64 0 (2^Tide.BITS)).drop 2):=by
 unfold cosOf series
 obtain ⟨z,hz⟩:=OW x 64 0 (2^Tide.BITS)
 rw[hz,List.drop_zero,List.take_left' (Kq x 64 0 _)]
 exact about 16 _ (Kq x 64 0 _)
theorem cN (x:Nat):sinOf x=su ((arcTerms x 64 0 (2^Tide.BITS)).drop 1)-su ((arcTerms x 64 0 (2^Tide.BITS)).drop 3):=by
 unfold sinOf series
 obtain ⟨z,hz⟩:=OW x 64 0 (2^Tide.BITS)
 have hl:=Kq x 64 0 (2^Tide.BITS)
 generalize arcTerms x 64 0 (2^Tide.BITS)=L at hz hl
 have e1:(L++[z]).drop 1=L.drop 1++[z]:=by rw[List.drop_append_of_le_length (by omega)]
 rw[hz,e1,List.take_of_length_le (by simp;omega),about 16 _ (by simp;omega)]
 have e2:(L.drop 1++[z]).drop 2=L.drop 3++[z]:=by
  rw[List.drop_append_of_le_length (by simp;omega),List.drop_drop]
 rw[e2]
 unfold su
 rw[Pk _ _ (by simp;omega),Pk _ _ (by simp;omega)]
section
variable {P:Program}{w:World}{K:PySem.W.Frag}{mg:Str->Option Value}{base:Heap}{a:Ad}
noncomputable def ivs (l:List Nat):List V:=l.map fun (n:Nat)=>V.int (n:Int)
noncomputable def iA:Sp:=fun vs H Q _=>∃x:Nat,vs=[.int x]/\x<2^192/\∀q ts j H',Mv [] H H'->H q=none->H' q=some (.lst (ivs ts))->arcTerms x 64 0 (2^Tide.BITS)=ts++List.replicate j 0->Q (.ref q) H'
theorem GW (T:Txt K mg a):Cal P w K mg base a 1 "terms_of_arc" Ie iA:=by
 refine AF (k:=0) T.Pz Di (fun _ _ _ _ _ _=>CC fun _=>rfl) (fun _ _ _ _=>Wg fun _=>rfl) (fun f cdv A outer s H vs Q E hr h=>?_)
 ·obtain ⟨x,rfl,hx,k⟩:=h
  refine ⟨_,(Ab (Al (i:=1) Di.nd rfl (Or.inl rfl) (Az cq Ao (Ay T.bx))) (Ab (Al (i:=2) Di.nd rfl (Or.inl rfl) (Bb (Aa (pv 1) Ac))) (Ab (Cs El (PW.pt (MB (Av Ta (pv 1) Ao (AB _)) (IV (Av GY (AD AQ rfl T.DD boot_len (Aa (pv 2) Ac)) (Ay T.ed) (AB _))))) (Ab (Al (i:=1) Di.nd rfl (Or.inl rfl) (Az BY (Az Ys (Az Bl (pv 1) (pv 0)) (Ay T.bx)) (AD AQ rfl T.DD boot_len (Aa (pv 2) Ac)))) (Af (AJ (He PySem.F.plainAttrs_list PySem.F.slot_list_append PySem.F.type_list_append CP (pv 2) (Aa (pv 1) Ac)))))) (Af (Ap (pv 2)))))),?_⟩
  refine (Aq _ _ ⟨ rfl,rfl,⟨by decide,by decide,by decide⟩,_,rfl,(by show 1<=sizeLine;decide),fun q hq=>?_⟩)
  have e0:((1:Int)*2^(192:Int).toNat)=((2^192:Nat):Int):=by decide
  refine ⟨fun m σ H'=>∃t:Nat,∃pre:List Nat,σ=[some (.int x),some (.int t),some (.ref q)]/\Mv [] H H'/\H' q=some (.lst (ivs pre))/\1<=pre.length/\pre.length<=64/\m=64-pre.length/\t<=2^192 /\
   arcTerms x 64 0 (2^Tide.BITS)=pre++arcTerms x (64-pre.length) pre.length (t*x/2^Tide.BITS/pre.length),
   ⟨63,2^192,[2^192],(by show [some (V.int x),some (V.int ((1:Int)*2^(192:Int).toNat)),some (V.ref q)]=_;rw[e0]),Mv.new hq,(by show upd H q (HO.lst [V.int ((1:Int)*2^(192:Int).toNat)]) q=_;rw[e0];exact Ae),by decide,by decide,rfl,Nat.le_refl _,by rw[arcTerms];rfl⟩,?_⟩
  rintro m σ H1 hI_
  refine hid fun X_ k_=>?_
  obtain ⟨t,pre,rfl,M1,hq1,hp1,hp64,rfl,ht,e1⟩:=hI_
  refine k_ ?_;clear k_
  have fin:∀j,arcTerms x 64 0 (2^Tide.BITS)=pre++List.replicate j 0->MI (AW 2) { nx:=fun _ H'=>Q .non H',rt:=Q } [some (.int x),some (.int t),some (.ref q)] H1:=fun j e=>⟨_,rfl,k q pre j H1 M1 hq hq1 e⟩
  refine ⟨_,rfl,Aq _ _ ⟨ rfl,rfl,_,rfl,?_⟩⟩
  by_cases h0:0<t
  ·refine Bn (fun _=>?_) (fun z=>absurd (decide_eq_true (show (0:Int)<(t:Int) by omega)) z)
   have hlen:(ivs pre).length=pre.length:=by unfold ivs;simp
   refine ⟨_,rfl,Aq q _ ⟨ rfl,.inl (SqL.of hq1),Aq _ _ ⟨ rfl,rfl,_,rfl,?_⟩⟩⟩
   rw[hlen]
   by_cases hl:pre.length<64
   ·refine Bn (fun _=>?_) (fun z=>absurd (decide_eq_true (show ((pre.length:Nat):Int)<64 by omega)) z)
    refine ⟨fun σ' H'=>_,fun σ' H' z=>z,?_⟩
    have c1:CB (t:Int) (x:Int):=⟨by rw[Int.natAbs_natCast];exact Nat.lt_of_le_of_lt ht (by decide),by rw[Int.natAbs_natCast];exact Nat.lt_trans hx (by decide)⟩
    refine ⟨_,rfl,_,rfl,_,_,rfl,rfl,c1,_,_,rfl,rfl,(by show (0:Int)<=192;decide),_,rfl,q,_,rfl,.inl (SqL.of hq1),_,_,rfl,rfl,?_,?_⟩
    ·rw[hlen]
     exact ⟨by omega,by have:pre.length<2^250:=Nat.lt_trans hl (by decide);exact_mod_cast this⟩
    ·have ev:(t:Int)*(x:Int)/2^(192:Int).toNat/((ivs pre).length:Int)=((t*x/2^192/pre.length:Nat):Int):=by
      rw[hlen,<-Int.natCast_mul]
      rfl
     refine ⟨_,rfl,.inl ⟨rfl,_,SqL.of hq1⟩,_,rfl,AN q _ _ ⟨ rfl,rfl,hq1,by rw[hlen];exact Nat.lt_trans hl (by decide),?_⟩⟩
     refine ⟨64-(pre.length+1),by omega,t*x/2^192/pre.length,pre++[t*x/2^192/pre.length],(by show [some (V.int x),some (V.int ((t:Int)*(x:Int)/2^(192:Int).toNat/((ivs pre).length:Int))),some (V.ref q)]=_;rw[ev]),M1.ext hq,(by rw[Ae];show some (HO.lst (ivs pre++[V.int ((t:Int)*(x:Int)/2^(192:Int).toNat/((ivs pre).length:Int))]))=_;rw[ev];unfold ivs;rw[List.map_append];rfl),by simp,by simp;omega,by simp,?_,?_⟩
     ·have h1:t*x/2^192<=2^192:=by
       have:t*x<=2^192*2^192:=Nat.mul_le_mul ht (Nat.le_of_lt hx)
       exact Nat.div_le_of_le_mul this
      exact Nat.le_trans (Nat.div_le_self _ _) h1
     ·have hl':(pre++[t*x/2^192/pre.length]).length=pre.length+1:=by rw[List.length_append];rfl
      rw[hl',e1,show 64-pre.length=(64-(pre.length+1))+1 by omega,arcTerms,List.append_assoc]
      rfl
   ·refine Bn (fun z=>absurd (of_decide_eq_true z) (by omega)) (fun _=>fin 0 ?_)
    rw[e1,show 64-pre.length=0 by omega,arcTerms]
    rfl
  ·refine Bn (fun z=>absurd (of_decide_eq_true z) (by omega)) (fun _=>fin (64-pre.length) ?_)
   have:t=0:=by omega
   rw[e1,this,Nat.zero_mul,Nat.zero_div,Nat.zero_div,Vw]
end
end Td
namespace Td
open PySem PySem.Spec PyProof.Rows L2
open Tide (arcTerms turnAbout cosOf sinOf series quarterCos cosAt rounded QUARTER)
theorem bq {x:Nat} (hx:x<=2^192):∀(f k t:Nat),t<=2^192->∀z∈arcTerms x f k t,z<=2^192
 |0,_,_,_,z,h=>by cases h
 |f+1,k,t,ht,z,h=>by
  rw[arcTerms] at h
  rcases List.mem_cons.mp h with rfl|h
  ·exact ht
  ·refine bq hx f (k+1) _ ?_ z h
   have h1:t*x/2^Tide.BITS<=2^192:=Nat.div_le_of_le_mul (Nat.mul_le_mul ht hx)
   exact Nat.le_trans (Nat.div_le_self _ _) h1
theorem gi {B:Nat}:∀(l:List Nat),(∀z∈l,z<=B)->0<=su l/\su l<=((l.length*B:Nat):Int)
 |[],_=>⟨by decide,by simp[su,ev4]⟩
 |[x],h=>by
  have:=h x (by simp)
  have e:su [x]=x:=by simp[su,ev4]
  rw[e]
  simp
  omega
 |[x,y],h=>by
  have:=h x (by simp)
  have e:su [x,y]=x:=by simp[su,ev4]
  rw[e]
  simp only [List.length_cons,List.length_nil]
  omega
 |[x,y,u],h=>by
  have:=h x (by simp)
  have e:su [x,y,u]=x:=by simp[su,ev4]
  rw[e]
  simp only [List.length_cons,List.length_nil]
  omega
 |x::y::u::v::r,h=>by
  have h1:=h x (by simp)
  have ih:=gi r fun z hz=>h z (by simp[hz])
  have e:su (x::y::u::v::r)=x+su r:=by simp[su,ev4]
  rw[e]
  simp only [List.length_cons,Nat.add_mul]
  omega
theorem bD {x:Nat} (hx:x<=2^192):(cosOf x).natAbs<=2^199/\(sinOf x).natAbs<=2^199:=by
 have hb:=bq hx 64 0 (2^Tide.BITS) (Nat.le_refl _)
 have hl:=Kq x 64 0 (2^Tide.BITS)
 rw[bE,cN]
 generalize arcTerms x 64 0 (2^Tide.BITS)=L at hb hl
 have b:∀k,0<=su (L.drop k)/\su (L.drop k)<=((64*2^192:Nat):Int):=fun k=>by
  have:=gi (B:=2^192) (L.drop k) fun z hz=>hb z (List.mem_of_mem_drop hz)
  refine ⟨this.1,Int.le_trans this.2 ?_⟩
  have:(L.drop k).length*2^192<=64*2^192:=Nat.mul_le_mul_right _ (by rw[List.length_drop];omega)
  exact_mod_cast this
 have b0:=b 0
 have b1:=b 1
 have b2:=b 2
 have b3:=b 3
 rw[List.drop_zero] at b0
 omega
theorem fe {r den:Nat} (h:2*r<=den) (hd:0<den):QUARTER*r/den<2^192:=by
 rw[Nat.div_lt_iff_lt_mul hd]
 have h1:QUARTER*(2*r)<=QUARTER*den:=Nat.mul_le_mul_left _ h
 have h2:QUARTER*den<2*2^192*den:=Nat.mul_lt_mul_of_pos_right (by decide) hd
 have h3:QUARTER*(2*r)=2*(QUARTER*r):=Nat.mul_left_comm _ _ _
 have h4:2*2^192*den=2*(2^192*den):=Nat.mul_assoc _ _ _
 rw[h3] at h1
 rw[h4] at h2
 generalize QUARTER*r=A at *
 generalize 2^192*den=B at *
 omega
theorem QS {r den:Nat} (h:r<=den) (hd:0<den):(quarterCos r den).natAbs<=2^199:=by
 unfold quarterCos
 by_cases q:2*r<=den
 ·rw[if_pos q]
  exact (bD (Nat.le_of_lt (fe q hd))).1
 ·rw[if_neg q]
  exact (bD (Nat.le_of_lt (fe (by omega) hd))).2
theorem VG {n d:Nat} (h:n<d):cosAt n d=if 4*n/d=0 then quarterCos (4*n%d) d else if 4*n/d=1 then -quarterCos (d-4*n%d) d else if 4*n/d=2 then -quarterCos (4*n%d) d else quarterCos (d-4*n%d) d:=by
 have e:4*n-4*n/d*d=4*n%d:=by
  have:=Nat.div_add_mod (4*n) d
  rw[Nat.mul_comm d] at this
  omega
 unfold cosAt
 simp only [Nat.mod_eq_of_lt h,e]
theorem bC {n d:Nat} (h:n<d):(cosAt n d).natAbs<=2^199:=by
 rw[VG h]
 have hd:0<d:=by omega
 have h1:=QS (r:=4*n%d) (Nat.le_of_lt (Nat.mod_lt _ hd)) hd
 have h2:=QS (r:=d-4*n%d) (Nat.sub_le _ _) hd
 by_cases q0:4*n/d=0
 ·rw[if_pos q0];exact h1
 ·rw[if_neg q0]
  by_cases q1:4*n/d=1
  ·rw[if_pos q1,Int.natAbs_neg];exact h2
  ·rw[if_neg q1]
   by_cases q2:4*n/d=2
   ·rw[if_pos q2,Int.natAbs_neg];exact h1
   ·rw[if_neg q2];exact h2
theorem iq {n:Nat} (h:n<2^32):(Tide.C n).natAbs<2^60:=by
 unfold Tide.C
 have:=bC (n:=n) (d:=Tide.TURN) h
 generalize cosAt n Tide.TURN=c at this
 unfold rounded
 have e:(c.natAbs+2^(Tide.BITS-31))/2^(Tide.BITS-30)<2^60:=by
  rw[Nat.div_lt_iff_lt_mul (by decide)]
  exact Nat.lt_of_le_of_lt (Nat.add_le_add_right this _) (by decide)
 by_cases q:c<0
 ·rw[if_pos q,Int.natAbs_neg,Int.natAbs_natCast];exact e
 ·rw[if_neg q,Int.natAbs_natCast];exact e
section
variable {P:Program}{w:World}{K:PySem.W.Frag}{mg:Str->Option Value}{base:Heap}{a:Ad}
theorem Og {p A B:Prop} [Decidable p] (h1:p->A) (h2:¬p->B):if decide p=true then A else B:=Bn (fun h=>h1 (of_decide_eq_true h)) (fun h=>h2 fun z=>h (decide_eq_true z))
theorem Bi {i j:Int}{A B:Prop} (h1:i=j->A) (h2:i≠j->B):if decide (V.int i=V.int j)=true then A else B:=Og (fun h=>h1 (by injection h)) (fun h=>h2 fun z=>h (by rw[z]))
theorem OK (l:List Nat) (k:Nat):ev4 ((ivs l).drop k)=((ev4 (l.drop k)).map fun (n:Nat)=>(n:Int)).map V.int:=by
 unfold ivs
 rw[<-List.map_drop,Zc,List.map_map]
 rfl
noncomputable def fv:Sp:=fun vs H Q _=>∃x:Nat,vs=[.int x]/\x<2^192/\∀H',Mv [] H H'->Q (.int (cosOf x)) H'
noncomputable def fD:Sp:=fun vs H Q _=>∃x:Nat,vs=[.int x]/\x<2^192/\∀H',Mv [] H H'->Q (.int (sinOf x)) H'
theorem Mx (T:Txt K mg a):Cal P w K mg base a 2 "cosine_of_arc" Hb fv:=by
 refine AF (k:=1) T.Od Gd (fun _ _ _ _ _ _=>CC fun _=>rfl) (fun _ _ _ _=>Wg fun _=>rfl) (fun f cdv A outer s H vs Q E hr h=>?_)
 ·obtain ⟨x,rfl,hx,k⟩:=h
  refine ⟨_,(Ab (Al (i:=1) Gd.nd rfl (Or.inl rfl) (Ar (GW T) hr Ak (Aa (pv 0) Ac))) (Af (Ap (Az Dt (AD (JV rfl) rfl T.OZ boot_sum (Aa (UW (k:=0) (pv 1)) Ac)) (AD (JV rfl) rfl T.OZ boot_sum (Aa (UW (k:=2) (pv 1)) Ac)))))),?_⟩
  refine ⟨_,rfl,x,rfl,hx,fun q ts j H1 M1 hq hq1 e=>?_⟩
  refine ⟨_,rfl,Aq q _ ⟨ rfl,SqL.of hq1,fun p hp=>(Aq p _ ⟨ rfl,SqL.of (by rw[Ae,OK]),?_⟩)⟩⟩
  have hq2:=(Mv.new (S:=[]) (o:=HO.lst (ev4 ((ivs ts).drop 0))) hp) _ _ hq1 (by simp)
  refine ⟨_,rfl,Aq q _ ⟨ rfl,SqL.of hq2,fun p2 hp2=>(Aq p2 _ ⟨ rfl,SqL.of (by rw[Ae,OK]),Aq _ _ ⟨ rfl,rfl,?_⟩⟩)⟩⟩
  have ec:=bE x
  rw[e,YD,Vq] at ec
  rw[ec] at k
  exact k _ ((M1.trans (Mv.new hp)).trans (Mv.new hp2))
theorem Qv (T:Txt K mg a):Cal P w K mg base a 2 "sine_of_arc" Jw fD:=by
 refine AF (k:=1) T.RL IF (fun _ _ _ _ _ _=>CC fun _=>rfl) (fun _ _ _ _=>Wg fun _=>rfl) (fun f cdv A outer s H vs Q E hr h=>?_)
 ·obtain ⟨x,rfl,hx,k⟩:=h
  refine ⟨_,(Ab (Al (i:=1) IF.nd rfl (Or.inl rfl) (Ar (GW T) hr Ak (Aa (pv 0) Ac))) (Af (Ap (Az Dt (AD (JV rfl) rfl T.OZ boot_sum (Aa (UW (k:=1) (pv 1)) Ac)) (AD (JV rfl) rfl T.OZ boot_sum (Aa (UW (k:=3) (pv 1)) Ac)))))),?_⟩
  refine ⟨_,rfl,x,rfl,hx,fun q ts j H1 M1 hq hq1 e=>?_⟩
  refine ⟨_,rfl,Aq q _ ⟨ rfl,SqL.of hq1,fun p hp=>(Aq p _ ⟨ rfl,SqL.of (by rw[Ae,OK]),?_⟩)⟩⟩
  have hq2:=(Mv.new (S:=[]) (o:=HO.lst (ev4 ((ivs ts).drop 1))) hp) _ _ hq1 (by simp)
  refine ⟨_,rfl,Aq q _ ⟨ rfl,SqL.of hq2,fun p2 hp2=>(Aq p2 _ ⟨ rfl,SqL.of (by rw[Ae,OK]),Aq _ _ ⟨ rfl,rfl,?_⟩⟩)⟩⟩
  have ec:=cN x
  rw[e,Vq,Vq] at ec
  rw[ec] at k
  exact k _ ((M1.trans (Mv.new hp)).trans (Mv.new hp2))
theorem DL {x y:Nat} (hx:x<2^250) (hy:y<2^250):CB (x:Int) (y:Int):=⟨by rw[Int.natAbs_natCast];exact hx,by rw[Int.natAbs_natCast];exact hy⟩
theorem IQ {x:Int}{y:Nat} (hy:0<y) (h2:y<2^250):CDB x (y:Int):=⟨by omega,by exact_mod_cast h2⟩
noncomputable def fw:Sp:=fun vs H Q _=>∃r d:Nat,vs=[.int r,.int d]/\r<=d/\0<d/\d<2^100/\∀H',Mv [] H H'->Q (.int (quarterCos r d)) H'
theorem BX (T:Txt K mg a):Cal P w K mg base a 3 "cosine_of_quarter" Ew fw:=by
 refine AF (k:=2) T.IY IC (fun _ _ _ _ _ _=>Fh fun _ _=>rfl) (fun _ _ _ _=>RN fun _ _=>rfl) (fun f cdv A outer s H vs Q E hr h=>?_)
 ·obtain ⟨r,d,rfl,hrd,hd,hd2,k⟩:=h
  refine ⟨_,(Ab (AS (Av GX (Az Bl Ao (pv 0)) (pv 1) (AB _)) (Af (Ap (Ar (Mx T) hr Ak (Aa (Az BY (Az Bl (Ay T.Ji) (pv 0)) (pv 1)) Ac)))) Ax) (Af (Ap (Ar (Qv T) hr Ak (Aa (Az BY (Az Bl (Ay T.Ji) (Az Dt (pv 1) (pv 0))) (pv 1)) Ac))))),?_⟩
  have hd3:d<2^250:=Nat.lt_trans hd2 (by decide)
  have hr3:r<2^250:=Nat.lt_of_le_of_lt hrd hd3
  have hs3:d-r<2^250:=Nat.lt_of_le_of_lt (Nat.sub_le _ _) hd3
  refine ⟨_,rfl,Aq _ _ ⟨ rfl,rfl,DL (x:=2) (by decide) hr3,_,rfl,Aq _ _ ⟨ rfl,rfl,_,rfl,?_⟩⟩⟩
  by_cases q:2*r<=d
  ·refine Bn (fun _=>?_) (fun z=>absurd (decide_eq_true (show (2:Int)*(r:Int)<=(d:Int) by omega)) z)
   refine ⟨_,rfl,Aq _ _ ⟨ rfl,rfl,DL (x:=QUARTER) (by decide) hr3,_,rfl,Aq _ _ ⟨ rfl,rfl,IQ hd hd3,?_⟩⟩⟩
   refine ⟨QUARTER*r/d,rfl,fe q hd,fun H' M'=>?_⟩
   have:=k H' M'
   unfold quarterCos at this
   rw[if_pos q] at this
   exact this
  ·refine Bn (fun z=>absurd (of_decide_eq_true z) (by omega)) (fun _=>?_)
   have e:(d:Int)-(r:Int)=((d-r:Nat):Int):=by omega
   refine ⟨_,rfl,_,rfl,Aq _ _ ⟨ rfl,rfl,Aq _ _ ⟨ rfl,rfl,(by rw[e];exact DL (x:=QUARTER) (by decide) hs3),_,rfl,Aq _ _ ⟨ rfl,rfl,IQ hd hd3,?_⟩⟩⟩⟩
   refine ⟨QUARTER*(d-r)/d,(by rw[e];rfl),fe (by omega) hd,fun H' M'=>?_⟩
   have:=k H' M'
   unfold quarterCos at this
   rw[if_neg q] at this
   exact this
noncomputable def fx:Sp:=fun vs H Q _=>∃n d:Nat,vs=[.int n,.int d]/\n<d/\d<2^90/\∀H',Mv [] H H'->Q (.int (cosAt n d)) H'
theorem Lf (T:Txt K mg a):Cal P w K mg base a 4 "cosine_of_turn" FY fx:=by
 refine AF (k:=3) T.Mo Dy (fun _ _ _ _ _ _=>Fh fun _ _=>rfl) (fun _ _ _ _=>RN fun _ _=>rfl) (fun f cdv A outer s H vs Q E hr h=>?_)
 ·obtain ⟨n,d,rfl,hnd,hd2,k⟩:=h
  refine ⟨_,(Ab (Al (i:=2) Dy.nd rfl (Or.inl rfl) (Az BY (Az Bl Ao (pv 0)) (pv 1))) (Ab (Al (i:=3) Dy.nd rfl (Or.inl rfl) (Az Qy (Az Bl Ao (pv 0)) (pv 1))) (Ab (AS (Av BA (pv 2) Ao (AB _)) (Af (Ap (Ar (BX T) hr Ak (Aa (pv 3) (Aa (pv 1) Ac))))) Ax) (Ab (AS (Av BA (pv 2) Ao (AB _)) (Af (Ap (WL Rr (Ar (BX T) hr Ak (Aa (Az Dt (pv 1) (pv 3)) (Aa (pv 1) Ac)))))) Ax) (Ab (AS (Av BA (pv 2) Ao (AB _)) (Af (Ap (WL Rr (Ar (BX T) hr Ak (Aa (pv 3) (Aa (pv 1) Ac)))))) Ax) (Af (Ap (Ar (BX T) hr Ak (Aa (Az Dt (pv 1) (pv 3)) (Aa (pv 1) Ac)))))))))),?_⟩
  have hd:0<d:=by omega
  have hd1:d<2^100:=Nat.lt_trans hd2 (by decide)
  have hd3:d<2^250:=Nat.lt_trans hd2 (by decide)
  have hn3:n<2^250:=Nat.lt_trans hnd hd3
  rw[VG hnd] at k
  have hm:=Nat.mod_lt (4*n) hd
  have e:(d:Int)-((4*n%d:Nat):Int)=((d-4*n%d:Nat):Int):=by omega
  refine ⟨_,rfl,Aq _ _ ⟨ rfl,rfl,DL (x:=4) (by decide) hn3,_,rfl,Aq _ _ ⟨ rfl,rfl,IQ hd hd3,?_⟩⟩⟩
  refine ⟨_,rfl,Aq _ _ ⟨ rfl,rfl,DL (x:=4) (by decide) hn3,_,rfl,Aq _ _ ⟨ rfl,rfl,(by show (0:Int)<(d:Int);omega),?_⟩⟩⟩
  have cv:∀j:Nat,(4:Int)*(n:Int)/(d:Int)=j<->4*n/d=j:=fun j=>by
   have:(4:Int)*(n:Int)/(d:Int)=((4*n/d:Nat):Int):=by rw[Int.natCast_ediv,Int.natCast_mul];rfl
   rw[this]
   omega
  refine ⟨_,rfl,rfl,_,rfl,Bi (fun q0=>?_) (fun q0=>?_)⟩
  ·rw[if_pos ((cv 0).mp q0)] at k
   exact ⟨_,rfl,_,rfl,4*n%d,d,rfl,Nat.le_of_lt hm,hd,hd1,k⟩
  ·rw[if_neg (fun z=>q0 ((cv 0).mpr z))] at k
   refine ⟨_,rfl,rfl,_,rfl,Bi (fun q1=>?_) (fun q1=>?_)⟩
   ·rw[if_pos ((cv 1).mp q1)] at k
    exact ⟨_,rfl,_,rfl,Aq _ _ ⟨ rfl,rfl,_,rfl,d-4*n%d,d,(by rw[<-e];rfl),Nat.sub_le _ _,hd,hd1,fun H' M'=>⟨_,rfl,k H' M'⟩⟩⟩
   ·rw[if_neg (fun z=>q1 ((cv 1).mpr z))] at k
    refine ⟨_,rfl,rfl,_,rfl,Bi (fun q2=>?_) (fun q2=>?_)⟩
    ·rw[if_pos ((cv 2).mp q2)] at k
     exact ⟨_,rfl,_,rfl,4*n%d,d,rfl,Nat.le_of_lt hm,hd,hd1,fun H' M'=>⟨_,rfl,k H' M'⟩⟩
    ·rw[if_neg (fun z=>q2 ((cv 2).mpr z))] at k
     exact ⟨_,rfl,_,rfl,Aq _ _ ⟨ rfl,rfl,_,rfl,d-4*n%d,d,(by rw[<-e];rfl),Nat.sub_le _ _,hd,hd1,k⟩⟩
noncomputable def iE:Sp:=fun vs H Q _=>∃n:Nat,vs=[.int n]/\n<2^32/\∀H',Mv [] H H'->Q (.int (Tide.C n)) H'
theorem Se (T:Txt K mg a):Cal P w K mg base a 5 "ray_cosine" Lo iE:=by
 refine AF (k:=4) T.Ue DV (fun _ _ _ _ _ _=>CC fun _=>rfl) (fun _ _ _ _=>Wg fun _=>rfl) (fun f cdv A outer s H vs Q E hr h=>?_)
 ·obtain ⟨n,rfl,hn,k⟩:=h
  refine ⟨_,(Ab (Al (i:=1) DV.nd rfl (Or.inl rfl) (Ar (Lf T) hr Ak (Aa (pv 0) (Aa (Ay T.MS) Ac)))) (Ab (Al (i:=2) DV.nd rfl (Or.inl rfl) (Az cq Ao (Az Dt (Ay T.GO) Ao))) (Ab (Al (i:=3) DV.nd rfl (Or.inl rfl) (Az Ys (Az CU (AD Ky rfl T.YR boot_abs (Aa (pv 1) Ac)) (pv 2)) (Ay T.GO))) (Af (Ap (Ig (Av GY (pv 1) Ao (AB _)) (WL Rr (pv 3)) (pv 3))))))),?_⟩
  refine ⟨_,rfl,n,Tide.TURN,rfl,hn,(by decide),fun H1 M1=>?_⟩
  have k1:=k H1 M1
  unfold Tide.C at k1
  generalize cosAt n Tide.TURN=c at k1
  refine (Aq _ _ ⟨ rfl,rfl,Aq _ _ ⟨ rfl,rfl,⟨by decide,by decide,by decide⟩,?_⟩⟩)
  refine ⟨_,rfl,_,rfl,_,rfl,Aq _ _ ⟨ rfl,rfl,Aq _ _ ⟨ rfl,rfl,(by show (0:Int)<=162;decide),?_⟩⟩⟩
  have e:((if c<0 then -c else c)+(1:Int)*2^((162:Int)-1).toNat)/2^(162:Int).toNat=(((c.natAbs+2^(Tide.BITS-31))/2^(Tide.BITS-30):Nat):Int):=by
   have e1:(if c<0 then -c else c)=(c.natAbs:Int):=by split<;>omega
   rw[e1]
   rfl
  refine ⟨_,rfl,Aq _ _ ⟨ rfl,rfl,_,rfl,?_⟩⟩
  unfold rounded at k1
  by_cases q:c<0
  ·rw[if_pos q,<-e] at k1
   refine Bn (fun _=>?_) (fun z=>absurd (decide_eq_true q) z)
   exact ⟨_,rfl,_,rfl,k1⟩
  ·rw[if_neg q,<-e] at k1
   refine Bn (fun z=>absurd (of_decide_eq_true z) q) (fun _=>?_)
   exact ⟨_,rfl,k1⟩
noncomputable def aG:Sp:=fun vs H Q _=>∃p,∃u v:Nat,vs=[.ref p]/\H p=some (.tup [.int u,.int v])/\u<2^100/\0<v/\v<2^100/\Q (.int ((u*2^32/v:Nat):Int)) H
theorem Nb (T:Txt K mg a):Cal P w K mg base a 1 "angle_of" Qz aG:=by
 refine AF (k:=0) T.XD WT (fun _ _ _ _ _ _=>CC fun _=>rfl) (fun _ _ _ _=>PQ fun _ _ _=>rfl) (fun f cdv A outer s H vs Q E hr h=>?_)
 ·obtain ⟨p,u,v,rfl,hp,hu,hv,hv2,k⟩:=h
  refine ⟨_,(Af (Ap (Az BY (Az Bl (Be BE (pv 0) Ao (fun _ _=>rfl)) (Ay T.MS)) (Be BE (pv 0) Ao (fun _ _=>rfl))))),?_⟩
  exact ⟨_,rfl,Aw p _ _ _ ⟨ rfl,rfl,SqT.of hp,AK (j:=0) rfl,Aq _ _ ⟨ rfl,rfl,DL (Nat.lt_trans hu (by decide)) (y:=2^32) (by decide),_,rfl,Aw p _ _ _ ⟨ rfl,rfl,SqT.of hp,AK (j:=1) rfl,Aq _ _ ⟨ rfl,rfl,IQ hv (Nat.lt_trans hv2 (by decide)),k⟩⟩⟩⟩⟩
end
end Td
namespace Td
open PySem PySem.Spec PyProof.Rows L2
open Tide (Train Machine sumInt nearest cut)
theorem gw {A:Int}{D:Nat} (hD:0<D):cut A D=(A%(D:Int)).toNat*2^32/D:=by
 unfold cut
 have hd:(0:Int)<(D:Int):=by omega
 have h0:=Int.emod_nonneg A (show (D:Int)≠0 by omega)
 have h1:=Int.emod_lt_of_pos A hd
 generalize hr:A%(D:Int)=r at h0 h1
 have e:A=(D:Int)*(A/D)+r:=by rw[<-hr];exact (Int.mul_ediv_add_emod A D).symm
 have e2:A*2^32/(D:Int)=r*2^32/(D:Int)+(A/D)*2^32:=by
  conv=>lhs;rw[e]
  rw[Int.add_mul,Int.mul_assoc,Int.add_comm,Int.add_mul_ediv_left _ _ (show (D:Int)≠0 by omega)]
 have h2:0<=r*2^32/(D:Int):=Int.ediv_nonneg (Int.mul_nonneg h0 (by decide)) (by omega)
 have h3:r*2^32/(D:Int)<2^32:=by
  rw[Int.ediv_lt_iff_lt_mul hd,Int.mul_comm]
  exact Int.mul_lt_mul_of_pos_left h1 (by decide)
 rw[e2,Int.add_mul_emod_self_right,Int.emod_eq_of_lt h2 h3]
 have e3:r*2^32/(D:Int)=((r.toNat*2^32/D:Nat):Int):=by
  rw[Int.natCast_ediv,Int.natCast_mul,Int.toNat_of_nonneg h0]
  rfl
 rw[e3,Int.toNat_natCast]
theorem ZI {A:Int}{D l:Nat} (hl:0<l):cut (A*(l:Int)) (D*l)=cut A D:=by
 unfold cut
 have:A*(l:Int)*2^32/((D*l:Nat):Int)=A*2^32/(D:Int):=by
  rw[Int.natCast_mul,show A*(l:Int)*2^32=A*2^32*(l:Int) by rw[Int.mul_right_comm]]
  exact Int.mul_ediv_mul_of_pos_left _ _ (by omega)
 rw[this]
theorem cp {m:Machine}{x:Train} (hm:MSm m) (hx:TSm x) (n:Int):x.num m n=((x.start*(x.down*m.teeth/x.last):Nat)+n*(x.up:Int))*(x.last:Int)/\x.den m=x.down*m.teeth*x.last:=by
 refine hid fun X_ k_=>?_
 obtain ⟨h1,h2,h3⟩:=hx.last
 refine k_ ?_;clear k_
 have hdv:x.last∣x.down*m.teeth:=Nat.dvd_trans h3 (Nat.dvd_mul_right _ _)
 have e:=Nat.div_mul_cancel hdv
 constructor
 ·unfold Tide.Train.num
  rw[Int.add_mul,Int.natCast_mul x.up,<-Int.mul_assoc,<-Int.natCast_mul _ x.last,Nat.mul_assoc,e,Nat.mul_comm m.teeth,Int.add_comm]
 ·unfold Tide.Train.den
  rw[Nat.mul_comm m.teeth]
theorem Vu {m:Machine}{x:Train} (hm:MSm m) (hx:TSm x) (n:Int):Hd m x n*2^32/(x.down*m.teeth)=x.angle m n:=by
 have hpos:0<x.down*m.teeth:=Nat.mul_pos (by have:=hx.down;omega) (by have:=hm.te;omega)
 unfold Tide.Train.angle
 obtain ⟨e1,e2⟩:=cp hm hx n
 rw[e1,e2,ZI (by have:=hx.last;omega),gw hpos]
 rfl
theorem WK {m:Machine}{x:Train} (hm:MSm m) (hx:TSm x) (n:Int):Hd m x n<x.down*m.teeth:=by
 have hpos:0<x.down*m.teeth:=Nat.mul_pos (by have:=hx.down;omega) (by have:=hm.te;omega)
 unfold Hd
 have h0:=Int.emod_nonneg ((x.start*(x.down*m.teeth/x.last):Nat)+n*(x.up:Int)) (show ((x.down*m.teeth:Nat):Int)≠0 by omega)
 have h1:=Int.emod_lt_of_pos ((x.start*(x.down*m.teeth/x.last):Nat)+n*(x.up:Int)) (show (0:Int)<((x.down*m.teeth:Nat):Int) by omega)
 omega
theorem Xy {m:Machine}{x:Train} (hm:MSm m) (hx:TSm x):0<x.down*m.teeth/\x.down*m.teeth<2^90:=by
 have hd:=hx.down
 have ht:=hm.te
 exact ⟨Nat.mul_pos (by omega) (by omega),Nat.lt_of_le_of_lt (Nat.mul_le_mul hd.2 ht.2) (by decide)⟩
theorem Vv (m:Machine) (x:Train) (n:Int):x.angle m n<2^32:=by
 unfold Tide.Train.angle cut
 have h1:=Int.emod_lt_of_pos (x.num m n*2^32/(x.den m:Int)) (show (0:Int)<2^32 by decide)
 omega
theorem Ym (z:Int):nearest z (2^30)=(z+536870912)/1073741824:=by
 unfold nearest
 have:2*z+((2^30:Nat):Int)=2*(z+536870912):=by omega
 rw[this,show (2:Int)*((2^30:Nat):Int)=2*1073741824 by decide]
 exact Int.mul_ediv_mul_of_pos _ _ (by decide)
theorem Xa (l:List Int) (z:Int):sumInt (l++[z])=sumInt l+z:=by
 unfold sumInt
 rw[List.foldr_append]
 induction l with
 |nil=>show z+0=0+z;omega
 |cons a r ih=>
  show a+List.foldr (fun (a b:Int)=>a+b) (List.foldr (fun (a b:Int)=>a+b) 0 [z]) r=a+List.foldr (fun (a b:Int)=>a+b) 0 r+z
  rw[ih]
  omega
section
variable {P:Program}{w:World}{K:PySem.W.Frag}{mg:Str->Option Value}{base:Heap}{a:Ad}
noncomputable def iD (a:Ad):Sp:=fun vs H Q _=>∃pm m as,∃n:Int,vs=[.ref pm,.int n]/\BB a as H pm m/\MSm m/\n.natAbs<2^40/\∀H',Mv [] H H'->Q (.int (Tide.pen m n)) H'
theorem BB.mv {as:List Addr}{H H':Hp}{p:Addr}{m:Machine} (h:BB a as H p m) (M:Mv [] H H'):BB a as H' p m:=h.mono (fun _ z=>z) fun c _ o z=>M _ _ z (by simp)
theorem JP.mv {as:List Addr}{H H':Hp}{p:Addr}{x:Train} (h:JP a as H p x) (M:Mv [] H H'):JP a as H' p x:=h.mono (fun _ z=>z) fun c _ o z=>M _ _ z (by simp)
theorem UP (T:Txt K mg a):Cal P w K mg base a 6 "pen_after" Nt (iD a):=by
 refine AF (k:=5) T.VS ED (fun _ _ _ _ _ _=>Fh fun _ _=>rfl) (fun _ _ _ _=>IZ fun _ _ _ _=>rfl) (fun f cdv A outer s H vs Q E hr h=>?_)
 ·refine hid fun X_ k_=>?_
  obtain ⟨pm,m,as,n,rfl,hM,hS,hn,k⟩:=h
  refine k_ ?_;clear k_
  refine hid fun X_ k_=>?_
  obtain ⟨dm,l,ps,g1,g2,g3,_⟩:=id hM
  refine k_ ?_;clear k_
  refine ⟨_,(Ab (Al (i:=2) ED.nd rfl (Or.inl rfl) Ao) (Ab (DN El rfl (Dg (Au (pv 0) rfl)) (Bm (i:=3) ED.nd rfl (Or.inl rfl)) (Af (cG (i:=2) ED.nd rfl (Or.inl rfl) (Az Bl (Au (pv 3) rfl) (Ar (Se T) hr Ak (Aa (Ar (Nb T) hr Ak (Aa (Ar (Jm T) hr Ak (Aa (pv 0) (Aa (pv 3) (Aa (pv 1) Ac)))) Ac)) Ac))) XT))) (Af (Ap (Az BY (Az CU (pv 2) (Ay T.gq)) (Ay T.ZH)))))),?_⟩
  refine ⟨_,rfl,AA pm a.CM dm _ _ ⟨ rfl,g1,T.AR,T.AU,rfl,l,rfl,⟨_,SqL.of g2⟩,EO (xs:=ps.map V.ref) (fun i σ H'=>∃v,σ=[some (.ref pm),some (.int n),some (.int (sumInt ((m.trains.take i).map fun x=>(x.size:Int)*Tide.C (x.angle m n)))),v]/\Mv [] H H') ⟨none,rfl,Mv.refl⟩ (fun i σ H' _ ⟨_,_,z⟩=>SqL.of (z _ _ g2 (by simp))) ?_ ?_⟩⟩
  ·rintro i y σ H1 hy ⟨v,rfl,M1⟩
   obtain ⟨r,hr',rfl⟩:=CO hy
   have hi:i<m.trains.length:=by have:=(List.getElem?_eq_some_iff.mp hr').1;rw[<-g3.1];exact this
   have hx:m.trains[i]?=some m.trains[i]:=List.getElem?_eq_getElem hi
   generalize hgi:m.trains[i]=x at hx
   have hT:=g3.2 i r x hr' hx
   have hTS:=hS.tr x (List.mem_of_getElem? hx)
   refine hid fun X_ k_=>?_
   obtain ⟨dt,pn,pp,qs,t1,t2,t3,t4,_⟩:=id hT
   refine k_ ?_;clear k_
   have hd:=Xy hS hTS
   refine ⟨_,rfl,_,rfl,AA r a.CT dt _ _ ⟨ rfl,M1 _ _ t1 (by simp),T.Bc,T.Gv,rfl,_,rfl,_,rfl,_,rfl,bQ pm m r x as as n ⟨ rfl,hM.mv M1,hT.mv M1,hS,hTS,hn,fun q H2 M2 hq hq2=>?_⟩⟩⟩
   refine ⟨q,Hd m x n,x.down*m.teeth,rfl,hq2,Nat.lt_trans (WK hS hTS n) (Nat.lt_trans hd.2 (by decide)),hd.1,Nat.lt_trans hd.2 (by decide),?_⟩
   rw[Vu hS hTS]
   refine ⟨x.angle m n,rfl,Vv m x n,fun H3 M3=>?_⟩
   have c1:CB (x.size:Int) (Tide.C (x.angle m n)):=⟨by rw[Int.natAbs_natCast];exact Nat.lt_trans hTS.sz (by decide),Nat.lt_trans (iq (Vv m x n)) (by decide)⟩
   refine ⟨_,_,rfl,rfl,c1,_,_,rfl,rfl,some (.ref r),?_,(M1.trans M2).trans M3⟩
   rw[List.take_succ_eq_append_getElem hi,List.map_append,List.map_cons,List.map_nil,Xa,hgi]
   rfl
  ·rintro σ H1 ⟨v,rfl,M1⟩
   refine ⟨_,rfl,Aq _ _ ⟨ rfl,rfl,Aq _ _ ⟨ rfl,rfl,⟨by decide,by decide⟩,?_⟩⟩⟩
   have:=k H1 M1
   unfold Tide.pen at this
   rw[Ym] at this
   rw[List.length_map,g3.1,List.take_length]
   exact this
noncomputable def fC (a:Ad):Sp:=fun vs H Q _=>∃pm m as,∃n:Int,∃c:Nat,vs=[.ref pm,.int n,.int c]/\BB a as H pm m/\MSm m/\n.natAbs<2^39/\c<=256/\∀q H',Mv [] H H'->H q=none->H' q=some (.lst (((List.range c).map fun (i:Nat)=>Tide.pen m (n+i)).map V.int))->Q (.ref q) H'
theorem Lh (T:Txt K mg a):Cal P w K mg base a 7 "pens_from" Nu (fC a):=by
 refine AF (k:=6) T.VT GD (fun _ _ _ _ _ _=>JS fun _ _ _=>rfl) (fun _ _ _ _=>Oh fun _ _ _ _ _=>rfl) (fun f cdv A outer s H vs Q E hr h=>?_)
 ·refine hid fun X_ k_=>?_
  obtain ⟨pm,m,as,n,c,rfl,hM,hS,hn,hc,k⟩:=h
  refine k_ ?_;clear k_
  refine ⟨_,(Af (Ap (QM (own:=[("more",3)]) rfl GD.nd (az rfl T.dQ (Aa (pv 2) Ac)) (EJ (by show TN Na (Ah Ir) _ _=true;decide +kernel)) (fun _ _ _ _ _=>(Bm (i:=3) GD.nd rfl (Or.inl rfl))) (fun _ _ _ _ _=>Gz) (fun _ _ _ _ _=>by exact (Ar (UP T) hr (cu (C:=a.CF)) (Aa (pv 0) (Aa (Az CU (pv 1) (pv 3)) Ac))))))),?_⟩
  refine ⟨_,rfl,(c:Int),rfl,(by omega),(by omega),fun D hD=>?_⟩
  refine bZ (fun i H'=>Mv [] H H'/\H' D=some (.lst (((List.range i).map fun (j:Nat)=>Tide.pen m (n+j)).map V.int))) ⟨Mv.new hD,Ae⟩ ?_ ?_
  ·rintro i H1 hi ⟨M1,hd1⟩
   have hi2:i<256:=Nat.lt_of_lt_of_le hi (by rw[Int.toNat_natCast];exact hc)
   refine ⟨rfl,yes ⟨_,rfl,_,rfl,_,rfl,Aq _ _ ⟨ rfl,rfl,AN pm m as ⟨ n+((0:Int)+(i:Int)),rfl,hM.mv M1,hS,?_,fun H2 M2=>?_⟩⟩⟩⟩
   ·have:(2:Nat)^39+256<2^40:=by decide
    omega
   ·refine ⟨_,M2 _ _ hd1 (by simp),?_,(M1.trans M2).ext hD,?_⟩
    ·rw[List.length_map,List.length_map,List.length_range]
     exact Nat.lt_trans hi2 (by decide)
    ·rw[Ae,List.range_succ,List.map_append,List.map_append,Int.zero_add]
     rfl
  ·rintro H1 ⟨M1,hd1⟩
   rw[Int.toNat_natCast] at hd1
   exact k D H1 M1 hD hd1
end
end Td
namespace Td
open Tide (byteOf8 drawn marked pen Machine)
noncomputable def b1 (p:Nat->Bool) (i:Nat):Nat:=if p i=true then 1 else 0
noncomputable def Es (p:Nat->Bool):Nat:=128*b1 p 0+64*b1 p 1+32*b1 p 2+16*b1 p 3+8*b1 p 4+4*b1 p 5+2*b1 p 6+b1 p 7
theorem MQ (p:Nat->Bool) (i:Nat):b1 p i<=1:=by unfold b1;split<;>omega
theorem dU (p:Nat->Bool):(List.range 8).foldl (fun (x i:Nat)=>2*x+(if p i=true then 1 else 0)) 0=Es p:=by
 show 2*(2*(2*(2*(2*(2*(2*(2*0+b1 p 0)+b1 p 1)+b1 p 2)+b1 p 3)+b1 p 4)+b1 p 5)+b1 p 6)+b1 p 7=Es p
 unfold Es
 omega
theorem dW (p:Nat->Bool):Es p<256:=by
 unfold Es
 have h0:=MQ p 0;have h1:=MQ p 1;have h2:=MQ p 2;have h3:=MQ p 3
 have h4:=MQ p 4;have h5:=MQ p 5;have h6:=MQ p 6;have h7:=MQ p 7
 omega
theorem bw (p:Nat->Bool):(byteOf8 p).toNat=Es p:=by
 unfold byteOf8
 rw[dU,UInt8.toNat_ofNat']
 exact Nat.mod_eq_of_lt (dW p)
theorem JT {p q:Nat->Bool} (h:∀i,i<8->p i=q i):Es p=Es q:=by
 unfold Es b1
 rw[h 0 (by omega),h 1 (by omega),h 2 (by omega),h 3 (by omega),h 4 (by omega),h 5 (by omega),h 6 (by omega),h 7 (by omega)]
theorem ZG {p q:Nat->Bool}{j:Nat} (hj:j<8) (h0:p j=false) (h1:q j=true) (h:∀i,i<8->i≠j->q i=p i):Es q=Es p+128/2^j:=by
 unfold Es b1
 rcases (by omega:j=0\/j=1\/j=2\/j=3\/j=4\/j=5\/j=6\/j=7) with rfl|rfl|rfl|rfl|rfl|rfl|rfl|rfl
 ·rw[h0,h1,h 1 (by omega) (by omega),h 2 (by omega) (by omega),h 3 (by omega) (by omega),h 4 (by omega) (by omega),h 5 (by omega) (by omega),h 6 (by omega) (by omega),h 7 (by omega) (by omega)]
  simp;omega
 ·rw[h0,h1,h 0 (by omega) (by omega),h 2 (by omega) (by omega),h 3 (by omega) (by omega),h 4 (by omega) (by omega),h 5 (by omega) (by omega),h 6 (by omega) (by omega),h 7 (by omega) (by omega)]
  simp;omega
 ·rw[h0,h1,h 0 (by omega) (by omega),h 1 (by omega) (by omega),h 3 (by omega) (by omega),h 4 (by omega) (by omega),h 5 (by omega) (by omega),h 6 (by omega) (by omega),h 7 (by omega) (by omega)]
  simp;omega
 ·rw[h0,h1,h 0 (by omega) (by omega),h 1 (by omega) (by omega),h 2 (by omega) (by omega),h 4 (by omega) (by omega),h 5 (by omega) (by omega),h 6 (by omega) (by omega),h 7 (by omega) (by omega)]
  simp;omega
 ·rw[h0,h1,h 0 (by omega) (by omega),h 1 (by omega) (by omega),h 2 (by omega) (by omega),h 3 (by omega) (by omega),h 5 (by omega) (by omega),h 6 (by omega) (by omega),h 7 (by omega) (by omega)]
  simp;omega
 ·rw[h0,h1,h 0 (by omega) (by omega),h 1 (by omega) (by omega),h 2 (by omega) (by omega),h 3 (by omega) (by omega),h 4 (by omega) (by omega),h 6 (by omega) (by omega),h 7 (by omega) (by omega)]
  simp;omega
 ·rw[h0,h1,h 0 (by omega) (by omega),h 1 (by omega) (by omega),h 2 (by omega) (by omega),h 3 (by omega) (by omega),h 4 (by omega) (by omega),h 5 (by omega) (by omega),h 7 (by omega) (by omega)]
  simp;omega
 ·rw[h0,h1,h 0 (by omega) (by omega),h 1 (by omega) (by omega),h 2 (by omega) (by omega),h 3 (by omega) (by omega),h 4 (by omega) (by omega),h 5 (by omega) (by omega),h 6 (by omega) (by omega)]
  simp
theorem PD {α:Type} (W:Nat) (hW:0<W) (f:Nat->Nat->α):∀h:Nat,(List.range h).flatMap (fun r=>(List.range W).map (f r))=(List.range (W*h)).map fun t=>f (t/W) (t%W)
 |0=>rfl
 |h+1=>by
  rw[List.range_succ,List.flatMap_append,PD W hW f h,Nat.mul_succ,List.range_add,List.map_append,List.map_map]
  congr 1
  rw[List.flatMap_cons,List.flatMap_nil,List.append_nil]
  refine List.map_congr_left fun k hk=>?_
  have hk:=List.mem_range.mp hk
  show f h k=f ((W*h+k)/W) ((W*h+k)%W)
  rw[Nat.mul_add_div hW,Nat.div_eq_of_lt hk,Nat.mul_add_mod,Nat.mod_eq_of_lt hk,Nat.add_zero]
noncomputable def mk (f:Nat->Int) (low scale:Int) (high W i t b:Nat):Bool:=decide (8*(t%W)+b<i)&&decide ((f (8*(t%W)+b)-low)/scale=((high-1-t/W:Nat):Int))
noncomputable def Cw (f:Nat->Int) (low scale:Int) (high W i:Nat):List Nat:=(List.range (W*high)).map fun t=>Es (mk f low scale high W i t)
theorem VL (m:Machine) (n:Int) (wide high:Nat) (low:Int) (scale:Nat) (hw:0<wide):(drawn m n wide high low scale).map (fun c=>c.toNat)=Cw (fun i=>pen m (n+i)) low scale high ((wide+7)/8) wide:=by
 unfold drawn Cw
 rw[PD _ (by omega),List.map_map]
 refine List.map_congr_left fun t _=>?_
 show (byteOf8 _).toNat=Es _
 rw[bw]
 refine JT fun b _=>?_
 unfold mk marked
 congr 1
theorem Xz (f:Nat->Int) (low scale:Int) (high W:Nat):Cw f low scale high W 0=List.replicate (W*high) 0:=by
 unfold Cw
 refine List.eq_replicate_iff.mpr ⟨by simp,fun x hx=>?_⟩
 obtain ⟨t,_,rfl⟩:=List.mem_map.mp hx
 have:∀b,mk f low scale high W 0 t b=false:=fun b=>by unfold mk;simp
 unfold Es b1
 simp[this]
theorem Us {f:Nat->Int}{low scale:Int}{high W i t b:Nat} (h:¬(8*(t%W)+b=i/\(f i-low)/scale=((high-1-t/W:Nat):Int))):mk f low scale high W (i+1) t b=mk f low scale high W i t b:=by
 unfold mk
 by_cases q:8*(t%W)+b=i
 ·rw[q,decide_eq_false (p:=(f i-low)/scale=((high-1-t/W:Nat):Int)) (fun z=>h ⟨q,z⟩),Bool.and_false,Bool.and_false]
 ·congr 1
  exact decide_eq_decide.mpr (by omega)
theorem ZL {f:Nat->Int}{low scale:Int}{high W i:Nat} (h:¬(0<=(f i-low)/scale/\(f i-low)/scale<high)) (hh:0<high):Cw f low scale high W (i+1)=Cw f low scale high W i:=by
 unfold Cw
 refine List.map_congr_left fun t _=>JT fun b _=>Us fun z=>h ?_
 have z2:=z.2
 generalize t/W=r at z2
 rw[z2]
 omega
theorem bH {f:Nat->Int}{low scale:Int}{high W i row:Nat} (h:(f i-low)/scale=row) (hr:row<high) (hi:i/8<W) :
  ∃v,(Cw f low scale high W i)[(high-1-row)*W+i/8]?=some v/\Cw f low scale high W (i+1)=(Cw f low scale high W i).set ((high-1-row)*W+i/8) (v+128/2^(i%8)):=by
 have hW:0<W:=by omega
 generalize ht:(high-1-row)*W+i/8=t0
 have h1:t0/W=high-1-row:=by rw[<-ht,Nat.mul_comm,Nat.mul_add_div hW,Nat.div_eq_of_lt hi,Nat.add_zero]
 have h2:t0%W=i/8:=by rw[<-ht,Nat.mul_comm,Nat.mul_add_mod,Nat.mod_eq_of_lt hi]
 have hlt:t0<W*high:=by
  have:(high-1-row)*W+W<=high*W:=by
   rw[<-Nat.succ_mul]
   exact Nat.mul_le_mul_right _ (by omega)
  rw[Nat.mul_comm W]
  omega
 refine ⟨Es (mk f low scale high W i t0),?_,?_⟩
 ·unfold Cw
  rw[List.getElem?_map,List.getElem?_range hlt]
  rfl
 ·unfold Cw
  refine List.ext_getElem? fun t=>?_
  rw[List.getElem?_set,List.length_map,List.length_range,List.getElem?_map,List.getElem?_map]
  by_cases q:t0=t
  ·subst q
   rw[if_pos rfl,if_pos hlt,List.getElem?_range hlt]
   show some _=some _
   congr 1
   refine ZG (j:=i%8) (Nat.mod_lt _ (by decide)) ?_ ?_ fun b hb hne=>Us ?_
   ·unfold mk
    rw[h2,decide_eq_false (by omega),Bool.false_and]
   ·unfold mk
    rw[h2,h1,decide_eq_true (by omega),Bool.true_and,show 8*(i/8)+i%8=i by omega,h]
    exact decide_eq_true (by omega)
   ·rw[h2]
    omega
  ·rw[if_neg q]
   by_cases hl:t<W*high
   ·rw[List.getElem?_range hl]
    show some _=some _
    congr 1
    refine JT fun b hb=>Us fun z=>q ?_
    rw[h] at z
    have a1:t/W<high:=Nat.div_lt_of_lt_mul hl
    have a2:t/W=high-1-row:=by omega
    have a3:t%W=i/8:=by omega
    rw[<-Nat.div_add_mod t W,a2,a3,<-ht,Nat.mul_comm]
   ·rw[List.getElem?_eq_none (by rw[List.length_range];omega)]
    rfl
end Td
namespace Td
open PySem PySem.Spec PyProof.Rows L2
open Tide (Train Machine Bytes)
section
variable {P:Program}{w:World}{K:PySem.W.Frag}{mg:Str->Option Value}{base:Heap}{a:Ad}
noncomputable def cY:Sp:=fun vs H Q _=>∃pp m,∃n low:Int,∃wide high scale:Nat,vs=[.ref pp,.int high,.int low,.int scale]/\H pp=some (.lst (((List.range wide).map fun (i:Nat)=>Tide.pen m (n+i)).map V.int))/\1<=wide/\wide<=64/\1<=high/\high<=64/\1<=scale/\scale<2^40 /\
 ∀q H',Mv [] H H'->H q=none->H' q=some (.lst (bV (Tide.drawn m n wide high low scale)))->Q (.ref q) H'
theorem WH (T:Txt K mg a):Cal P w K mg base a 1 "curve_of" QB cY:=by
 refine AF (k:=0) T.XG CJ (fun _ _ _ _ _ _=>Xt fun _ _ _ _=>rfl) (fun _ _ _ _=>Wh fun _ _ _ _ _ _ _=>rfl) (fun f cdv A outer s H vs Q E hr h=>?_)
 ·obtain ⟨pp,m,n,low,wide,high,scale,rfl,hp,hw1,hw2,hh1,hh2,hs1,hs2,k⟩:=h
  refine ⟨_,(Ab (Al (i:=4) CJ.nd rfl (Or.inl rfl) (Az BY (Az CU (AD AQ rfl T.DD boot_len (Aa (pv 0) Ac)) Ao) Ao)) (Ab (Al (i:=5) CJ.nd rfl (Or.inl rfl) (Az ib (Bb (Aa Ao Ac)) (Az Bl (pv 4) (pv 1)))) (Ab (DN El rfl (UZ rfl T.Fl (Aa (pv 0) Ac)) (UY rfl (Ec (Bm (i:=6) CJ.nd rfl (Or.inl rfl)) (Ec (Bm (i:=7) CJ.nd rfl (Or.inl rfl)) ON))) (Ab (Al (i:=8) CJ.nd rfl (Or.inl rfl) (Az BY (Az Dt (pv 7) (pv 2)) (pv 3))) (Af (AS (WQ GX GY Ao (pv 8) (pv 1)) (Ab (Al (i:=9) CJ.nd rfl (Or.inl rfl) (Az CU (Az Bl (Az Dt (Az Dt (pv 1) Ao) (pv 8)) (pv 4)) (Az BY (pv 6) Ao))) (Af (fc (pv 5) (pv 9) bS (Az Ys Ao (Az Qy (pv 6) Ao)) XT set_list))) Ax)))) (Af (Ap (pv 5)))))),?_⟩
  generalize hf:(fun (i:Nat)=>Tide.pen m (n+i))=f at hp
  have hlen:(((List.range wide).map f).map V.int).length=wide:=by simp
  have eW:(((wide:Nat):Int)+7)/8=(((wide+7)/8:Nat):Int):=by omega
  generalize hWd:(wide+7)/8=W at eW
  have hW1:1<=W:=by omega
  have hW2:W<=8:=by omega
  refine ⟨_,rfl,Aq pp _ ⟨ rfl,.inl (SqL.of hp),Aq _ _ ⟨ rfl,rfl,Aq _ _ ⟨ rfl,rfl,⟨by decide,by decide⟩,?_⟩⟩⟩⟩
  dsimp only
  rw[hlen,eW]
  refine ⟨(by show 1<=sizeLine;decide),fun p0 hp0=>?_⟩
  have hWh:W*high<=512:=Nat.le_trans (Nat.mul_le_mul hW2 hh2) (by decide)
  have eN:((W:Int)*(high:Int)).toNat=W*high:=by rw[<-Int.natCast_mul,Int.toNat_natCast]
  refine ⟨_,rfl,_,rfl,Aq _ _ ⟨ rfl,rfl,DL (Nat.lt_of_le_of_lt hW2 (by decide)) (Nat.lt_of_le_of_lt hh2 (by decide)),AN p0 _ _ ⟨ rfl,rfl,Ae,?_,?_,?_,fun q hq=>?_⟩⟩⟩
  ·rw[<-Int.natCast_mul];omega
  ·rw[<-Int.natCast_mul];omega
  ·rw[eN]
   exact Nat.le_trans (show 1*(W*high)<=512 by omega) (by decide)
  dsimp only
  rw[eN]
  have erep:(List.replicate (W*high) [V.int 0]).flatten=ivs (Cw f low scale high W 0):=by
   rw[Xz]
   unfold ivs
   rw[List.map_replicate]
   generalize W*high=z
   induction z with
   |zero=>rfl
   |succ z ih=>rw[List.replicate_succ,List.flatten_cons,ih,List.replicate_succ];rfl
  rw[erep]
  have hq0:H q=none:=(Mv.new (S:=[]) hp0).none (by simp) hq
  have M0:Mv [] H (upd (upd H p0 (.lst [V.int 0])) q (.lst (ivs (Cw f low scale high W 0)))):=(Mv.new hp0).trans (Mv.new hq)
  refine ⟨_,rfl,Aq pp _ ⟨ rfl,SqL.of (M0 _ _ hp (by simp)),PF (K:=K) (a:=pp) (xs:=((List.range wide).map f).map V.int) (fun i σ H'=>∃v1 v2 v3 v4,σ=[some (.ref pp),some (.int high),some (.int low),some (.int scale),some (.int W),some (.ref q),v1,v2,v3,v4]/\Mv [] H H'/\H' q=some (.lst (ivs (Cw f low scale high W i)))) (Aw none none none none ⟨ rfl,M0,Ae⟩) (fun i σ H' _ ⟨_,_,_,_,_,M,_⟩=>SqL.of (M _ _ hp (by simp))) ?_ ?_⟩⟩
  ·rintro i y p σ H1 hy ⟨v1,v2,v3,v4,rfl,M1,hq1⟩ hp1
   have hi:i<wide:=by have:=(List.getElem?_eq_some_iff.mp hy).1;rw[hlen] at this;exact this
   have ey:y = .int (f i):=by
    rw[List.getElem?_map,List.getElem?_map,List.getElem?_range hi] at hy
    exact (Option.some.inj hy).symm
   subst ey
   have Mp:Mv [] H1 (upd H1 p (.tup [.int i,.int (f i)])):=Mv.new hp1
   have hq2:=Mp _ _ hq1 (by simp)
   have M2:=M1.trans Mp
   have hp2:(upd H1 p (.tup [.int i,.int (f i)])) p=some (.tup [.int i,.int (f i)]):=Ae
   generalize (upd H1 p (.tup [.int i,.int (f i)]))=H2 at hq2 M2 hp2 ⊢
   have hs3:scale<2^250:=Nat.lt_trans hs2 (by decide)
   refine (Aq p _ ⟨ rfl,SqT.of hp2,rfl,Aq _ _ ⟨ rfl,Aq _ _ ⟨ rfl,rfl,?_⟩⟩⟩)
   refine ⟨_,rfl,_,rfl,Aq _ _ ⟨ rfl,rfl,_,rfl,Aq _ _ ⟨ rfl,rfl,IQ hs1 hs3,?_⟩⟩⟩
   have out:¬(0<=(f i-low)/(scale:Int)/\(f i-low)/(scale:Int)<(high:Int))->H2 q=some (.lst (ivs (Cw f low scale high W (i+1)))):=fun z=>by
    rw[ZL z (by omega)]
    exact hq2
   refine ⟨_,rfl,Aq _ _ ⟨ rfl,rfl,_,rfl,Og (fun q0=>⟨_,rfl,Aq _ _ ⟨ rfl,rfl,_,rfl,Og (fun q1=>?_) (fun q1=>(Aw _ _ _ _ ⟨ rfl,M2,out fun z=>q1 z.2⟩))⟩⟩) (fun q0=>⟨_,rfl,Bw (Aw _ _ _ _ ⟨ rfl,M2,out fun z=>q0 z.1⟩)⟩)⟩⟩
   obtain ⟨r,hr2⟩:∃r:Nat,(f i-low)/(scale:Int)=r:=⟨((f i-low)/(scale:Int)).toNat,(Int.toNat_of_nonneg q0).symm⟩
   have hrh:r<high:=by
    have q1':(f i-low)/(scale:Int)<(high:Int):=q1
    omega
   obtain ⟨v,hv,he⟩:=bH (f:=f) (low:=low) (scale:=(scale:Int)) (high:=high) (W:=W) hr2 hrh (show i/8<W by omega)
   have eA:(high:Int)-1-(f i-low)/(scale:Int)=((high-1-r:Nat):Int):=by omega
   have eI:((high:Int)-1-(f i-low)/(scale:Int))*(W:Int)+(i:Int)/8=(((high-1-r)*W+i/8:Nat):Int):=by
    rw[eA,Int.natCast_add,Int.natCast_mul]
    rfl
   have c1:CB ((high:Int)-1-(f i-low)/(scale:Int)) (W:Int):=by
    rw[eA]
    exact DL (Nat.lt_of_le_of_lt (show high-1-r<=64 by omega) (by decide)) (Nat.lt_of_le_of_lt hW2 (by decide))
   refine ⟨_,rfl,_,_,rfl,rfl,_,rfl,_,_,rfl,rfl,_,rfl,_,_,rfl,rfl,c1,_,rfl,_,_,rfl,rfl,⟨by decide,by decide⟩,_,_,rfl,rfl,?_⟩
   have hv2:(ivs (Cw f low scale high W i))[(high-1-r)*W+i/8]?=some (V.int v):=by
    unfold ivs
    rw[List.getElem?_map,hv]
    rfl
   have hlt:=(List.getElem?_eq_some_iff.mp hv2).1
   refine ⟨_,rfl,_,rfl,AN q _ _ ⟨ V.int v,rfl,rfl,SqL.of hq2,?_,?_,?_⟩⟩
   ·rw[eI];omega
   ·rw[eI,Int.toNat_natCast];exact hv2
   ·refine ⟨_,rfl,Aq _ _ ⟨ rfl,rfl,(by show (0:Int)<8;decide),Aq _ _ ⟨ rfl,rfl,(by show (0:Int)<=(i:Int)%8;omega),Aq _ _ ⟨ rfl,rfl,AN q _ _ ⟨ (high-1-r)*W+i/8,rfl,rfl,hq2,?_,Aw _ _ _ _ ⟨ rfl,M2.ext hq0,?_⟩⟩⟩⟩⟩⟩
    ·rw[eI]
     unfold ixN
     rw[if_pos (by omega),if_pos (by omega),Int.toNat_natCast]
    ·have e8:(128:Int)/2^((i:Int)%8).toNat=((128/2^(i%8):Nat):Int):=by
      rw[show ((i:Int)%8).toNat=i%8 by omega,Int.natCast_ediv,Int.natCast_pow]
      rfl
     rw[Ae,e8,he]
     unfold ivs
     rw[List.map_set,Int.natCast_add]
  ·rintro σ H1 ⟨v1,v2,v3,v4,rfl,M1,hq1⟩
   refine ⟨_,rfl,k q H1 M1 hq0 ?_⟩
   rw[hlen] at hq1
   rw[hq1]
   congr 2
   have:=VL m n wide high low scale hw1
   rw[hf,hWd] at this
   rw[<-this]
   unfold ivs bV
   rw[List.map_map]
   rfl
end
end Td
namespace Td
open PySem L2
open Tide (Bytes Line Term Part angleOf anglesAt plainAt waveOf argument speed waves sumInt grammar linesIn)
structure Kp (l:List Line):Prop where
 u:JQ l
 fit:∀(i:Nat) y,l[i]?=some y->∀x∈y.uses,fits (l.take i) y x=true
 sm:∀y∈l,LSm y
 len:l.length<=144
theorem Wi:∀(l before:List Line),AO before l=none->JQ before->(before.filter Line.isAngle).length<=16->(before.filter fun z=>!z.isAngle).length<=128 ->
  JQ (before++l)/\(∀(i:Nat) y,l[i]?=some y->∀x∈y.uses,fits (before++l.take i) y x=true)/\((before++l).filter Line.isAngle).length<=16/\((before++l).filter fun z=>!z.isAngle).length<=128
 |[],before,_,u,h1,h2=>by
  rw[List.append_nil]
  exact ⟨u,fun i y e=>(by cases e),h1,h2⟩
 |y::r,before,h,u,h1,h2=>by
  rw[AO] at h
  cases e:BS before y with
  |some f=>rw[e] at h;cases h
  |none=>
   rw[e] at h
   replace h:AO (before++[y]) r=none:=h
   unfold BS at e
   by_cases q1:before.any (fun (x:Line)=>x.name==y.name)=true
   ·rw[if_pos q1] at e;cases e
   ·rw[if_neg q1] at e
    by_cases q2:tooMany before y=true
    ·rw[if_pos q2] at e;cases e
    ·rw[if_neg q2] at e
     by_cases q3:tooMuch y=true
     ·rw[if_pos q3] at e;cases e
     ·rw[if_neg q3] at e
      have e4:=Option.map_eq_none_iff.mp e
      have u2:JQ (before++[y]):=by
       refine List.pairwise_append.mpr ⟨u,List.pairwise_singleton _ _,fun z hz z2 hz2=>?_⟩
       rw[List.mem_singleton] at hz2
       rw[hz2]
       intro en
       exact q1 (List.any_eq_true.mpr ⟨z,hz,by rw[en];simp⟩)
      have b:((before++[y]).filter Line.isAngle).length<=16/\((before++[y]).filter fun z=>!z.isAngle).length<=128:=by
       rw[List.filter_append,List.filter_append,List.length_append,List.length_append]
       unfold tooMany at q2
       cases hy:y.isAngle with
       |true=>
        rw[hy] at q2
        have q2':¬Tide.ANGLES<=(before.filter Line.isAngle).length:=fun z=>q2 (decide_eq_true z)
        have:Tide.ANGLES=16:=rfl
        simp[List.filter_cons,hy]
        omega
       |false=>
        rw[hy] at q2
        have q2':¬Tide.WAVES<=(before.filter fun z=>!z.isAngle).length:=fun z=>q2 (decide_eq_true z)
        have:Tide.WAVES=128:=rfl
        simp[List.filter_cons,hy]
        omega
      obtain ⟨a1,a2,a3,a4⟩:=Wi r (before++[y]) h u2 b.1 b.2
      rw[List.append_assoc] at a1 a3 a4
      refine ⟨a1,fun i z hz x hx=>?_,a3,a4⟩
      cases i with
      |zero=>
       rw[List.take_zero,List.append_nil]
       have:y=z:=Option.some.inj hz
       subst this
       have:=List.find?_eq_none.mp e4 x hx
       cases q:fits before y x with
       |true=>rfl
       |false=>rw[q] at this;exact absurd rfl this
      |succ i=>
       have:=a2 i z hz x hx
       rw[List.append_assoc] at this
       exact this
theorem Wj {b:Bytes}:∀{f:Nat}{c:Tide.Cur}{l:List Line},linesIn f c = .ok l->In b c->∀y∈l,LSm y
 |0,c,l,h,i=>by
  rw[linesIn] at h
  cases h
  exact fun p hp=>by cases hp
 |f+1,c,l,h,i=>by
  rw[linesIn] at h
  by_cases q:c.rest=[]
  ·rw[if_pos q] at h
   cases h
   exact fun p hp=>by cases hp
  ·rw[if_neg q] at h
   obtain ⟨⟨x,c1⟩,h1,h⟩:=Ag.mp h
   obtain ⟨r,h2,h⟩:=Ag.mp h
   have h3:=AZ.mp h
   cases h3
   intro z hz
   rcases List.mem_cons.mp hz with rfl|hz
   ·exact PR h1 i
   ·exact Wj h2 (Ms h1 i).1 z hz
theorem iy {b:Bytes}{l:List Line} (h:Tide.judge b = .ok l):Kp l:=by
 rw[Wd] at h
 cases e:grammar b with
 |error p=>rw[e] at h;cases h
 |ok l'=>
  rw[e] at h
  replace h:(match AO [] l' with|some f=>Except.error f|none=>Except.ok l')=Except.ok l:=h
  cases q:AO [] l' with
  |some f=>rw[q] at h;cases h
  |none=>
   rw[q] at h
   cases h
   obtain ⟨a1,a2,a3,a4⟩:=Wi l [] q .nil (by decide) (by decide)
   refine ⟨a1,a2,Wj e (In.start b),?_⟩
   have:∀l:List Line,(l.filter fun z=>!z.isAngle).length+(l.filter Line.isAngle).length=l.length:=by
    intro l
    induction l with
    |nil=>rfl
    |cons z r ih=>cases hz:z.isAngle<;>simp[List.filter_cons,hz]<;>omega
   have:=this l
   rw[List.nil_append] at a3 a4
   omega
theorem KN {p:Line->Bool}:∀{l:List Line}{z:Line},JQ l->z∈l->p z=true->l.find? (fun y=>p y&&y.name==z.name)=some z
 |y::r,z,u,hz,hp=>by
  have u':=List.pairwise_cons.mp u
  rw[List.find?_cons]
  rcases List.mem_cons.mp hz with rfl|hz
  ·rw[hp];simp
  ·have hne:(y.name==z.name)=false:=by
    have:=u'.1 z hz
    simpa using this
   rw[hne,Bool.and_false]
   exact KN u'.2 hz hp
noncomputable def DO (before:List Line) (n:Bytes):Option Int:=(before.find? fun y=>y.isAngle&&y.name==n).map MD
noncomputable def CA (l before:List Line) (n:Bytes):Option Int:=(before.find? fun y=>!y.isAngle&&y.name==n).map (speed l)
theorem Kk {α:Type} (f g:α->Int):∀l:List α,sumInt (l.map f)-sumInt (l.map g)=(l.map fun x=>f x-g x).sum
 |[]=>rfl
 |x::r=>by
  have:=Kk f g r
  show f x+sumInt (r.map f)-(g x+sumInt (r.map g))=(f x-g x)+(r.map fun x=>f x-g x).sum
  omega
theorem IX {α:Type}{f g:α->Int}{l:List α} (h:∀x∈l,f x=g x):(l.map f).sum=(l.map g).sum:=by rw[List.map_congr_left h]
theorem YB (l:List Line) (n:Bytes) (p:Nat) (s:List Term) (q:Nat) (fs ss:List Part):speed l (.wave n p s q fs ss)=(s.map fun x=>x.times*(angleOf l x.name).2).sum:=by
 show plainAt l s q 1-plainAt l s q 0=_
 unfold plainAt
 rw[Int.add_sub_add_right]
 unfold anglesAt
 rw[Kk]
 refine IX fun x _=>?_
 rw[<-Int.mul_sub]
 congr 1
 omega
theorem aP (l:List Line) (n:Bytes) (p:Nat) (s:List Term) (h:∀x∈s,∃w,waveOf l x.name=some w/\w.isWave=true):speed l (.sum n p s)=(s.map fun x=>x.times*((waveOf l x.name).map (speed l)).getD 0).sum:=by
 show sumInt (s.map _)-sumInt (s.map _)=_
 rw[Kk]
 refine IX fun x hx=>?_
 obtain ⟨w,hw,h2⟩:=h x hx
 rw[hw]
 cases w with
 |angle=>cases h2
 |sum=>cases h2
 |wave n p s q fs ss=>
  show x.times*plainAt l s q 1-x.times*plainAt l s q 0=x.times*(plainAt l s q 1-plainAt l s q 0)
  rw[Int.mul_sub]
theorem Ts {l:List Line} (u:JQ l) (i:Nat):JQ (l.take i):=List.Pairwise.sublist (List.take_sublist i l) u
theorem Xi (y:Line):∀x∈sumOf y,x∈y.uses:=fun x hx=>by
 cases y with
 |angle=>cases hx
 |sum n p s=>exact hx
 |wave n p s q fs ss=>exact List.mem_append_left _ hx
theorem Xl {l:List Line} (k:Kp l) {i:Nat}{y:Line} (hy:l[i]?=some y) (hw:y.isWave=true):speed l y=((sumOf y).map fun x=>x.times*((DO (l.take i) x.name).getD 0)).sum/\∀x∈sumOf y,∃r,DO (l.take i) x.name=some r/\r.natAbs<10^15:=by
 have key:∀x∈sumOf y,∃r,DO (l.take i) x.name=some r/\r.natAbs<10^15/\(angleOf l x.name).2=r:=fun x hx=>by
  have hf:=k.fit i y hy x (Xi y x hx)
  unfold fits at hf
  obtain ⟨z,hz,hz2⟩:=List.any_eq_true.mp hf
  rw[if_pos hw,Bool.and_eq_true] at hz2
  have hn:z.name=x.name:=by simpa using hz2.2
  have hzl:=List.mem_of_mem_take hz
  have f1:=KN (p:=Line.isAngle) (Ts k.u i) hz hz2.1
  have f2:=KN (p:=Line.isAngle) k.u hzl hz2.1
  rw[hn] at f1 f2
  refine ⟨MD z,by unfold DO;rw[f1];rfl,(k.sm z hzl).r,?_⟩
  unfold angleOf
  rw[f2]
  cases z with
  |angle=>rfl
  |wave=>cases hz2.1
  |sum=>cases hz2.1
 refine ⟨?_,fun x hx=>by obtain ⟨r,h1,h2,_⟩:=key x hx;exact ⟨r,h1,h2⟩⟩
 cases y with
 |angle=>cases hw
 |sum=>cases hw
 |wave n p s q fs ss=>
  rw[YB]
  refine IX fun x hx=>?_
  obtain ⟨r,h1,_,h3⟩:=key x hx
  rw[h1,h3]
  rfl
theorem sum_bound {B:Nat} (f:Term->Int):∀(s:List Term),(∀x∈s,x.count<=15/\(f x).natAbs<=B)->((s.map fun x=>x.times*f x).sum).natAbs<=s.length*(15*B)
 |[],_=>by simp
 |x::r,h=>by
  have ih:=sum_bound f r fun y hy=>h y (List.mem_cons_of_mem _ hy)
  obtain ⟨h1,h2⟩:=h x (List.mem_cons_self ..)
  have ht:x.times.natAbs=x.count:=by
   unfold Tide.Term.times
   split
   ·rw[Int.natAbs_neg,Int.natAbs_natCast]
   ·rw[Int.natAbs_natCast]
  have h3:(x.times*f x).natAbs<=15*B:=by
   rw[Int.natAbs_mul,ht]
   exact Nat.mul_le_mul h1 h2
  rw[List.map_cons,List.sum_cons,List.length_cons,Nat.succ_mul]
  have:=Int.natAbs_add_le (x.times*f x) ((r.map fun x=>x.times*f x).sum)
  omega
theorem Rv {l:List Line} (k:Kp l) {y:Line} (hy:y∈l) (hw:y.isWave=true):(speed l y).natAbs<=8*(15*10^15):=by
 obtain ⟨i,hi,e⟩:=List.mem_iff_getElem.mp hy
 have hy2:l[i]?=some y:=by rw[List.getElem?_eq_getElem hi,e]
 obtain ⟨e1,h1⟩:=Xl k hy2 hw
 rw[e1]
 have hS:=k.sm y hy
 refine Nat.le_trans (sum_bound (B:=10^15) (fun x=>(DO (l.take i) x.name).getD 0) _ fun x hx=>⟨(hS.c x hx).2,?_⟩) (Nat.mul_le_mul_right _ hS.s)
 obtain ⟨r,h2,h3⟩:=h1 x hx
 rw[h2]
 exact Nat.le_of_lt h3
theorem Zt {l:List Line} (k:Kp l) {i:Nat}{y:Line} (hy:l[i]?=some y) (ha:y.isAngle=false) (hw:y.isWave=false):speed l y=((sumOf y).map fun x=>x.times*((CA l (l.take i) x.name).getD 0)).sum/\∀x∈sumOf y,∃r,CA l (l.take i) x.name=some r/\r.natAbs<=8*(15*10^15):=by
 have key:∀x∈sumOf y,∃z∈l,CA l (l.take i) x.name=some (speed l z)/\waveOf l x.name=some z/\z.isWave=true:=fun x hx=>by
  have hf:=k.fit i y hy x (Xi y x hx)
  unfold fits at hf
  obtain ⟨z,hz,hz2⟩:=List.any_eq_true.mp hf
  rw[if_neg (by rw[hw];decide),Bool.and_eq_true] at hz2
  have hn:z.name=x.name:=by simpa using hz2.2
  have hzl:=List.mem_of_mem_take hz
  have hza:(!z.isAngle)=true:=by
   cases z with
   |angle=>cases hz2.1
   |wave=>rfl
   |sum=>rfl
  have f1:=KN (p:=fun y=>!y.isAngle) (Ts k.u i) hz hza
  have f2:=KN (p:=Line.isWave) k.u hzl hz2.1
  rw[hn] at f1 f2
  exact ⟨z,hzl,by unfold CA;rw[f1];rfl,f2,hz2.1⟩
 refine ⟨?_,fun x hx=>by obtain ⟨z,hz,h1,_,h2⟩:=key x hx;exact ⟨_,h1,Rv k hz h2⟩⟩
 cases y with
 |angle=>cases ha
 |wave=>cases hw
 |sum n p s=>
  rw[aP l n p s fun x hx=>by obtain ⟨z,_,_,h2,h3⟩:=key x hx;exact ⟨z,h2,h3⟩]
  refine IX fun x hx=>?_
  obtain ⟨z,_,h1,h2,_⟩:=key x hx
  rw[h1,h2]
  rfl
theorem NW {l:List Line} (k:Kp l) {y:Line} (hy:y∈l) (ha:y.isAngle=false):(speed l y).natAbs<2^80:=by
 cases hw:y.isWave with
 |true=>exact Nat.lt_of_le_of_lt (Rv k hy hw) (by decide)
 |false=>
  obtain ⟨i,hi,e⟩:=List.mem_iff_getElem.mp hy
  have hy2:l[i]?=some y:=by rw[List.getElem?_eq_getElem hi,e]
  obtain ⟨e1,h1⟩:=Zt k hy2 ha hw
  rw[e1]
  have hS:=k.sm y hy
  refine Nat.lt_of_le_of_lt (Nat.le_trans (sum_bound (B:=8*(15*10^15)) (fun x=>(CA l (l.take i) x.name).getD 0) _ fun x hx=>⟨(hS.c x hx).2,?_⟩) (Nat.mul_le_mul_right _ hS.s)) (by decide)
  obtain ⟨r,h2,h3⟩:=h1 x hx
  rw[h2]
  exact h3
theorem SJ {p:Line->Bool} (l:List Line) (y:Line):(l++[y]).find? p=(l.find? p).or (if p y=true then some y else none):=by
 rw[List.find?_append,List.find?_cons]
 cases p y<;>simp
end Td
namespace Td
open PySem PySem.Spec PyProof.Rows L2
open Tide (Bytes Line Term Part speed)
section
variable {P:Program}{w:World}{K:PySem.W.Frag}{mg:Str->Option Value}{base:Heap}{a:Ad}
noncomputable def dk (a:Ad):Sp:=fun vs H Q _=>∃pt ts terms as d kvs,∃f:Bytes->Int,vs=[.ref pt,.ref d]/\H pt=some (.lst (ts.map V.ref))/\BJ a as H ts terms/\H d=some (.dT kvs)/\terms.length<=8 /\
 (∀x∈terms,x.count<=15/\Cj kvs (nk x.name)=some (.int (f x.name))/\(f x.name).natAbs<2^200)/\∀H',Mv [] H H'->Q (.int ((terms.map fun x=>x.times*f x.name).sum)) H'
theorem Nd (T:Txt K mg a):Cal P w K mg base a 1 "total_of" QF (dk a):=by
 refine AF (k:=0) T.XN IG (fun _ _ _ _ _ _=>Fh fun _ _=>rfl) (fun _ _ _ _=>Wh fun _ _ _ _ _ _ _=>rfl) (fun f cdv A outer s H vs Q E hr h=>?_)
 ·refine hid fun X_ k_=>?_
  obtain ⟨pt,ts,terms,as,d,kvs,g,rfl,h1,h2,h3,h4,h5,k⟩:=h
  refine k_ ?_;clear k_
  refine ⟨_,(Af (Ap (AD (JV rfl) rfl T.OZ boot_sum (Aa (QM (own:=[("term",2)]) rfl IG.nd (Dg (pv 0)) (EJ (by show TN Ql (Ah Kj) _ _=true;decide +kernel)) (fun _ _ _ _ _=>(Bm (i:=2) IG.nd rfl (Or.inl rfl))) (fun _ _ _ _ _=>Gz) (fun _ _ _ _ _=>by exact (Az Bl (Ly (K0:=K) rfl (pv 2) rfl) (Zk (GR hr) (pv 1) (Ly (K0:=K) rfl (pv 2) rfl) (fun _ _=>rfl))))) Ac)))),?_⟩
  refine ⟨_,rfl,pt,rfl,⟨_,SqL.of h1⟩,fun D hD=>?_⟩
  refine KW (K:=K) (a:=pt) (xs:=ts.map V.ref) (fun i H'=>Mv [] H H'/\H' D=some (.lst (((terms.take i).map fun x=>x.times*g x.name).map V.int))) ⟨Mv.new hD,Ae⟩ (fun i H' _ z=>SqL.of (z.1 _ _ h1 (by simp))) ?_ ?_
  ·rintro i y H1 hy ⟨M1,hd1⟩
   obtain ⟨r,hr',rfl⟩:=CO hy
   have hi:i<terms.length:=by have:=(List.getElem?_eq_some_iff.mp hr').1;rw[<-h2.1];exact this
   have hx:terms[i]?=some terms[i]:=List.getElem?_eq_getElem hi
   generalize hgi:terms[i]=x at hx
   refine hid fun X_ k_=>?_
   obtain ⟨dr,pr,g1,g2,_⟩:=h2.2 i r x hr' hx
   refine k_ ?_;clear k_
   rw[MR] at g2
   refine hid fun X_ k_=>?_
   obtain ⟨b1,b2,b3⟩:=h5 x (List.mem_of_getElem? hx)
   refine k_ ?_;clear k_
   have gd:=Hs.t (M1 _ _ h3 (by simp)) (M1 _ _ g2 (by simp))
   rw[b2] at gd
   have ht:x.times.natAbs<=15:=by
    unfold Tide.Term.times
    split
    ·rw[Int.natAbs_neg,Int.natAbs_natCast];exact b1
    ·rw[Int.natAbs_natCast];exact b1
   refine ⟨rfl,yes ⟨_,rfl,AA r a.Cte dr _ _ ⟨ rfl,M1 _ _ g1 (by simp),T.Fo,T.Gu,rfl,_,rfl,_,rfl,AA r a.Cte dr _ _ ⟨ rfl,M1 _ _ g1 (by simp),T.Fo,T.HM,rfl,Aq d _ ⟨ rfl,gd,Aq _ _ ⟨ rfl,rfl,⟨Nat.lt_of_le_of_lt ht (by decide),Nat.lt_trans b3 (by decide)⟩,?_⟩⟩⟩⟩⟩⟩
   refine ⟨_,hd1,?_,M1.ext hD,?_⟩
   ·rw[List.length_map,List.length_map,List.length_take]
    exact Nat.lt_of_le_of_lt (show min i terms.length<=8 by omega) (by decide)
   ·rw[Ae,List.take_succ_eq_append_getElem hi,List.map_append,List.map_append,hgi]
    rfl
  ·rintro H1 ⟨M1,hd1⟩
   rw[List.length_map,h2.1,List.take_length] at hd1
   exact ⟨D,_,rfl,SqL.of hd1,k H1 M1⟩
noncomputable def aM (a:Ad):Sp:=fun vs H Q _=>∃l ys as,vs=[.ref l]/\Sv a as H l ys/\Kp ys/\∀q kvs H',Mv [] H H'->H q=none->H' q=some (.dT kvs)->(∀n,Cj kvs (nk n)=(CA ys ys n).map V.int)->Q (.ref q) H'
theorem BJ.mv {as:List Addr}{H H':Hp}{ps:List Addr}{ys:List Term} (h:BJ a as H ps ys) (M:Mv [] H H'):BJ a as H' ps ys:=h.mono (fun _ z=>z) fun c _ o z=>M _ _ z (by simp)
theorem ND {l:List Line}{y:Line} (h:(l.any fun x=>x.name==y.name)=false) (n:Bytes):DO (l++[y]) n=if n=y.name/\y.isAngle=true then some (MD y) else DO l n:=by
 unfold DO
 rw[SJ]
 by_cases q:n=y.name/\y.isAngle=true
 ·obtain ⟨rfl,q2⟩:=q
  have:l.find? (fun z=>z.isAngle&&z.name==y.name)=none:=List.find?_eq_none.mpr fun z hz=>by
   have:=List.any_eq_false.mp h z hz
   simp[Bool.eq_false_iff.mpr this]
  rw[this,q2]
  simp
 ·rw[if_neg q]
  have:(y.isAngle&&y.name==n)=false:=by
   cases hb:(y.isAngle&&y.name==n) with
   |false=>rfl
   |true=>
    rw[Bool.and_eq_true] at hb
    exact absurd ⟨(eq_of_beq hb.2).symm,hb.1⟩ q
  rw[this]
  simp
theorem Rj {k l:List Line}{y:Line} (h:(l.any fun x=>x.name==y.name)=false) (n:Bytes):CA k (l++[y]) n=if n=y.name/\y.isAngle=false then some (speed k y) else CA k l n:=by
 unfold CA
 rw[SJ]
 by_cases q:n=y.name/\y.isAngle=false
 ·obtain ⟨rfl,q2⟩:=q
  have:l.find? (fun z=>!z.isAngle&&z.name==y.name)=none:=List.find?_eq_none.mpr fun z hz=>by
   have:=List.any_eq_false.mp h z hz
   simp[Bool.eq_false_iff.mpr this]
  rw[this,q2]
  simp
 ·rw[if_neg q]
  have:(!y.isAngle&&y.name==n)=false:=by
   cases hb:(!y.isAngle&&y.name==n) with
   |false=>rfl
   |true=>
    rw[Bool.and_eq_true] at hb
    exact absurd ⟨(eq_of_beq hb.2).symm,by simpa using hb.1⟩ q
  rw[this]
  simp
theorem Qw (T:Txt K mg a):Cal P w K mg base a 2 "wave_speeds" Jx (aM a):=by
 refine AF (k:=1) T.RM DB (fun _ _ _ _ _ _=>CC fun _=>rfl) (fun _ _ _ _=>PQ fun _ _ _=>rfl) (fun f cdv A outer s H vs Q E hr h=>?_)
 ·refine hid fun X_ k_=>?_
  obtain ⟨l,ys,as,rfl,hSk,hOk,k⟩:=h
  refine k_ ?_;clear k_
  refine hid fun X_ k_=>?_
  obtain ⟨ps,hl,hT,_⟩:=hSk
  refine k_ ?_;clear k_
  refine ⟨_,(Ab (Al (i:=1) DB.nd rfl (Or.inl rfl) Lx) (Ab (Al (i:=2) DB.nd rfl (Or.inl rfl) Lx) (Ab (DN El rfl (Dg (pv 0)) (Bm (i:=3) DB.nd rfl (Or.inl rfl)) (Af (AS (Av BA (Au (pv 3) rfl) (BP T.Ks) (AB _)) (Af (LA (GR hr) (pv 1) (Au (pv 3) rfl) (Au (pv 3) rfl) rfl)) (Af (AS (Av BA (Au (pv 3) rfl) (BP T.TX) (AB _)) (Af (LA (GR hr) (pv 2) (Au (pv 3) rfl) (Ar (Nd T) hr Ak (Aa (Au (pv 3) rfl) (Aa (pv 1) Ac))) rfl)) (Af (LA (GR hr) (pv 2) (Au (pv 3) rfl) (Ar (Nd T) hr Ak (Aa (Au (pv 3) rfl) (Aa (pv 2) Ac))) rfl))))))) (Af (Ap (pv 2)))))),?_⟩
  refine fun dr hdr=>fun ds hds=>?_
  have M0:Mv [] H (upd (upd H dr (.dT [])) ds (.dT [])):=(Mv.new hdr).trans (Mv.new hds)
  have hds0:H ds=none:=(Mv.new (S:=[]) hdr).none (by simp) hds
  have hne:dr≠ds:=fun z=>by rw[<-z,Ae] at hds;cases hds
  refine ⟨_,rfl,l,rfl,⟨_,SqL.of (M0 _ _ hl (by simp))⟩,EO (xs:=ps.map V.ref) (fun i σ H'=>∃v kr ks,σ=[some (.ref l),some (.ref dr),some (.ref ds),v]/\Mv [] H H'/\H' dr=some (.dT kr)/\H' ds=some (.dT ks)/\kr.length<=i/\ks.length<=i /\
   (∀n,Cj kr (nk n)=(DO (ys.take i) n).map V.int)/\(∀n,Cj ks (nk n)=(CA ys (ys.take i) n).map V.int))
   ⟨none,[],[],rfl,M0,(by rw[Ai hne];exact Ae),Ae,Nat.le_refl _,Nat.le_refl _,fun n=>rfl,fun n=>rfl⟩ (fun i σ H' _ ⟨_,_,_,_,M,_⟩=>SqL.of (M _ _ hl (by simp))) ?_ ?_⟩
  ·rintro i y σ H1 hy hI_
   refine hid fun X_ k_=>?_
   obtain ⟨v,kr,ks,rfl,M1,hr1,hs1,lr,ls,vr,vs'⟩:=hI_
   refine k_ ?_;clear k_
   obtain ⟨q,hq,rfl⟩:=CO hy
   have hi:i<ys.length:=by have:=(List.getElem?_eq_some_iff.mp hq).1;rw[<-hT.1];exact this
   have hx:ys[i]?=some ys[i]:=List.getElem?_eq_getElem hi
   generalize hxi:ys[i]=x at hx
   have hS:=hOk.sm x (List.mem_of_getElem? hx)
   refine hid fun X_ k_=>?_
   obtain ⟨dx,pn,pt,pf,pS,ts,qf,qs,h1,h2,h3,h4,_⟩:=hT.2 i q x hq hx
   refine k_ ?_;clear k_
   rw[MR] at h2
   have htk:ys.take (i+1)=ys.take i++[x]:=by rw[List.take_succ_eq_append_getElem hi,hxi]
   have hany:((ys.take i).any fun z=>z.name==x.name)=false:=List.any_eq_false.mpr fun z hz=>by
    have u:=hOk.u
    have e:ys=ys.take i++x::ys.drop (i+1):=by rw[<-hxi,List.getElem_cons_drop,List.take_append_drop]
    unfold JQ at u
    rw[e] at u
    have:=(List.pairwise_append.mp u).2.2 z hz x (List.mem_cons_self ..)
    simpa using this
   have hlen:i<sizeLine:=Nat.lt_of_lt_of_le (show i<145 by have:=hOk.len;omega) (by decide)
   have g1:=M1 _ _ h1 (by simp)
   refine ⟨_,rfl,AA q a.Cli dx _ _ ⟨ rfl,g1,T.AX,T.CH,rfl,rfl,_,rfl,?_⟩⟩
   rw[JR]
   cases hxa:x.isAngle with
   |true=>
    refine Bx ⟨_,rfl,AA q a.Cli dx _ _ ⟨ rfl,g1,T.AX,T.HI,rfl,_,rfl,_,rfl,AA q a.Cli dx _ _ ⟨ rfl,g1,T.AX,T.Dn,rfl,Aq dr _ ⟨ rfl,TF.t hr1 (M1 _ _ h2 (by simp)) (Nat.lt_of_le_of_lt lr hlen),?_⟩⟩⟩⟩
    refine ⟨_,putK kr (nk x.name) (.int (MD x)),ks,rfl,M1.ext hdr,Ae,(by rw[Ai (Ne.symm hne)];exact hs1),Nat.le_trans (Dm _ _ _) (by omega),by omega,fun n=>?_,fun n=>?_⟩
    ·rw[Mb,htk,ND hany]
     by_cases hn:n=x.name
     ·subst hn
      rw[if_pos rfl,if_pos ⟨rfl,hxa⟩]
      rfl
     ·rw[if_neg fun z=>hn (Qm z),if_neg fun z=>hn z.1,vr n]
    ·rw[htk,Rj hany,if_neg (by rw[hxa];simp),vs' n]
   |false=>
    refine Bw ⟨_,rfl,AA q a.Cli dx _ _ ⟨ rfl,g1,T.AX,T.CH,rfl,rfl,_,rfl,?_⟩⟩
    rw[Tv]
    have fin:∀H2,Mv [] H1 H2->NX { nx:=fun σ H'=>∃v kr ks,σ=[some (.ref l),some (.ref dr),some (.ref ds),v]/\Mv [] H H'/\H' dr=some (.dT kr)/\H' ds=some (.dT ks)/\kr.length<=i+1/\ks.length<=i+1 /\
      (∀n,Cj kr (nk n)=(DO (ys.take (i+1)) n).map V.int)/\(∀n,Cj ks (nk n)=(CA ys (ys.take (i+1)) n).map V.int),rt:=Q } [some (.ref l),some (.ref dr),some (.ref ds),some (.ref q)] (upd H2 ds (.dT (putK ks (nk x.name) (.int (speed ys x))))):=fun H2 M2=>by
     refine ⟨_,kr,putK ks (nk x.name) (.int (speed ys x)),rfl,(M1.trans M2).ext hds0,(by rw[Ai hne];exact M2 _ _ hr1 (by simp)),Ae,by omega,Nat.le_trans (Dm _ _ _) (by omega),fun n=>?_,fun n=>?_⟩
     ·rw[htk,ND hany,if_neg (by rw[hxa];simp),vr n]
     ·rw[Mb,htk,Rj hany]
      by_cases hn:n=x.name
      ·subst hn
       rw[if_pos rfl,if_pos ⟨rfl,hxa⟩]
       rfl
      ·rw[if_neg fun z=>hn (Qm z),if_neg fun z=>hn z.1,vs' n]
    cases hxw:x.isWave with
    |true=>
     obtain ⟨e1,f1⟩:=Xl hOk hx hxw
     refine Bx ⟨_,rfl,AA q a.Cli dx _ _ ⟨ rfl,g1,T.AX,T.Co,rfl,_,rfl,Aq pt ts ⟨ sumOf x,Aq as dr ⟨ kr,fun n=>(DO (ys.take i) n).getD 0,rfl,M1 _ _ h3 (by simp),h4.mv M1,hr1,hS.s,fun z hz=>?_,fun H2 M2=>?_⟩⟩⟩⟩
     ·refine hid fun X_ k_=>?_
      obtain ⟨r,b1,b2⟩:=f1 z hz
      refine k_ ?_;clear k_
      refine ⟨(hS.c z hz).2,?_,?_⟩
      ·show _=some (V.int ((DO (ys.take i) z.name).getD 0));rw[vr,b1];rfl
      ·show ((DO (ys.take i) z.name).getD 0).natAbs<_;rw[b1];exact Nat.lt_trans b2 (by decide)
     ·rw[<-e1]
      exact ⟨_,rfl,_,rfl,AA q a.Cli dx _ _ ⟨ rfl,M2 _ _ g1 (by simp),T.AX,T.Dn,rfl,Aq ds _ ⟨ rfl,TF.t (M2 _ _ hs1 (by simp)) (M2 _ _ (M1 _ _ h2 (by simp)) (by simp)) (Nat.lt_of_le_of_lt ls hlen),fin H2 M2⟩⟩⟩
    |false=>
     obtain ⟨e1,f1⟩:=Zt hOk hx hxa hxw
     refine Bw ⟨_,rfl,AA q a.Cli dx _ _ ⟨ rfl,g1,T.AX,T.Co,rfl,_,rfl,Aq pt ts ⟨ sumOf x,Aq as ds ⟨ ks,fun n=>(CA ys (ys.take i) n).getD 0,rfl,M1 _ _ h3 (by simp),h4.mv M1,hs1,hS.s,fun z hz=>?_,fun H2 M2=>?_⟩⟩⟩⟩
     ·refine hid fun X_ k_=>?_
      obtain ⟨r,b1,b2⟩:=f1 z hz
      refine k_ ?_;clear k_
      refine ⟨(hS.c z hz).2,?_,?_⟩
      ·show _=some (V.int ((CA ys (ys.take i) z.name).getD 0));rw[vs',b1];rfl
      ·show ((CA ys (ys.take i) z.name).getD 0).natAbs<_;rw[b1];exact Nat.lt_of_le_of_lt b2 (by decide)
     ·rw[<-e1]
      exact ⟨_,rfl,_,rfl,AA q a.Cli dx _ _ ⟨ rfl,M2 _ _ g1 (by simp),T.AX,T.Dn,rfl,Aq ds _ ⟨ rfl,TF.t (M2 _ _ hs1 (by simp)) (M2 _ _ (M1 _ _ h2 (by simp)) (by simp)) (Nat.lt_of_le_of_lt ls hlen),fin H2 M2⟩⟩⟩
  ·rintro σ H1 hI_
   refine hid fun X_ k_=>?_
   obtain ⟨v,kr,ks,rfl,M1,hr1,hs1,lr,ls,vr,vs'⟩:=hI_
   refine k_ ?_;clear k_
   rw[List.length_map,hT.1,List.take_length] at vs'
   exact ⟨_,rfl,k ds ks H1 M1 hds0 hs1 vs'⟩
end
end Td
namespace Td
open PySem PySem.Spec PyProof.Rows L2
open Tide (Bytes Train Machine firstOff apartNum apartDen UNIT)
open TideMachines (soonest)
theorem Pc {N E c:Nat} (hE:0<E) (hc:0<c):(c*N+c*E-1)/(c*E)=(N+E-1)/E:=by
 have h1:=Nat.div_mul_le_self (N+E-1) E
 have h2:=Nat.lt_div_mul_add (a:=N+E-1) hE
 generalize (N+E-1)/E=q at h1 h2
 have hcE:0<c*E:=Nat.mul_pos hc hE
 have a1:c*(q*E+1)<=c*(N+E):=Nat.mul_le_mul_left c (by omega)
 have a2:c*(N+E)<=c*(q*E+E):=Nat.mul_le_mul_left c (by omega)
 have e1:q*(c*E)=c*(q*E):=Nat.mul_left_comm _ _ _
 rw[Nat.mul_add,Nat.mul_one] at a1
 rw[Nat.mul_add,Nat.mul_add] at a2
 rw[Nat.mul_add] at a1
 refine Nat.div_eq_of_lt_le ?_ ?_
 ·rw[e1];omega
 ·rw[Nat.succ_mul,e1]
  omega
theorem hZ {u D b g G M p T U:Nat}{N1 E1 N2 E2:Nat} (hg:0<g) (hM:0<M) (hb:g*b=D*M) (e1:E1=G*M*p) (n1:N1=b*U*T) (e2:E2=p*(g*G)) (n2:N2=D*T*U) (h:0<E1):(N1+E1-1)/E1=(N2+E2-1)/E2:=by
 have s1:=Pc (N:=N1) h hg
 have gN:g*N1=M*N2:=by
  rw[n1,n2,<-Nat.mul_assoc,<-Nat.mul_assoc,hb]
  rw[Nat.mul_comm D M,Nat.mul_assoc M D U,Nat.mul_assoc M _ T,Nat.mul_right_comm D U T]
 have gE:g*E1=M*E2:=by
  rw[e1,e2]
  rw[Nat.mul_comm p,Nat.mul_comm G M,Nat.mul_assoc M G p,Nat.mul_left_comm g M,Nat.mul_assoc g G p]
 have hE2:0<E2:=by
  have:0<M*E2:=by rw[<-gE];exact Nat.mul_pos hg h
  exact Nat.pos_of_mul_pos_left this
 rw[<-s1,gN,gE,Pc hE2 hM]
noncomputable def sn:Option Nat->Option (Nat×Nat)->Option (Nat×Nat)
 |none,none=>none
 |some a,none=>some (0,a)
 |none,some (i,b)=>some (i+1,b)
 |some a,some (i,b)=>if b<a then some (i+1,b) else some (0,a)
theorem LS (y:Option Nat) (l:List (Option Nat)):soonest (y::l)=sn y (soonest l):=by
 show (match y,soonest l with
  |none,none=>none
  |some a,none=>some (0,a)
  |none,some (i,b)=>some (i+1,b)
  |some a,some (i,b)=>if b<a then some (i+1,b) else some (0,a))=_
 cases y<;>cases soonest l<;>rfl
theorem LU (x:Option Nat):∀l:List (Option Nat),soonest (l++[x])=match soonest l,x with
  |none,none=>none
  |none,some a=>some (l.length,a)
  |some (i,b),none=>some (i,b)
  |some (i,b),some a=>if a<b then some (l.length,a) else some (i,b)
 |[]=>by cases x<;>rfl
 |y::l=>by
  rw[List.cons_append,LS,LS,LU x l]
  cases y with
  |none=>
   cases soonest l with
   |none=>cases x<;>rfl
   |some q=>
    obtain ⟨i,b⟩:=q
    cases x with
    |none=>rfl
    |some a=>
     by_cases h:a<b
     ·simp[sn,h]
     ·simp[sn,h]
  |some c=>
   cases soonest l with
   |none=>
    cases x with
    |none=>rfl
    |some a=>
     by_cases h:a<c
     ·simp[sn,h]
     ·simp[sn,h]
   |some q=>
    obtain ⟨i,b⟩:=q
    cases x with
    |none=>
     by_cases h:b<c
     ·simp[sn,h]
     ·simp[sn,h]
    |some a=>
     by_cases h:a<b
     ·by_cases h2:b<c
      ·have h3:a<c:=by omega
       simp[sn,h,h2,h3]
      ·by_cases h3:a<c
       ·simp[sn,h,h2,h3]
       ·simp[sn,h,h2,h3]
     ·by_cases h2:b<c
      ·simp[sn,h,h2]
      ·have h3:¬a<c:=by omega
       simp[sn,h,h2,h3]
noncomputable def jX:Option Nat->V
 |none=>.non
 |some n=>.int n
section
variable {P:Program}{w:World}{K:PySem.W.Frag}{mg:Str->Option Value}{base:Heap}{a:Ad}
noncomputable def fu (a:Ad):Sp:=fun vs H Q _=>∃pm m as d kvs,vs=[.ref pm,.ref d]/\BB a as H pm m/\m.trains.length<=64/\H d=some (.dT kvs)/\∀H',Mv [] H H'->Q (.bl (m.trains.all fun x=>(Cj kvs (nk x.name)).isSome)) H'
theorem Ld (T:Txt K mg a):Cal P w K mg base a 1 "all_have_waves" FW (fu a):=by
 refine AF (k:=0) T.Ml Dx (fun _ _ _ _ _ _=>Fh fun _ _=>rfl) (fun _ _ _ _=>Oh fun _ _ _ _ _=>rfl) (fun f cdv A outer s H vs Q E hr h=>?_)
 ·refine hid fun X_ k_=>?_
  obtain ⟨pm,m,as,d,kvs,rfl,hM,hlen,hd,k⟩:=h
  refine k_ ?_;clear k_
  refine hid fun X_ k_=>?_
  obtain ⟨dm,l,ps,g1,g2,g3,_⟩:=id hM
  refine k_ ?_;clear k_
  refine ⟨_,(Af (Ap (AD (gu rfl) rfl T.iS boot_all (Aa (QM (own:=[("train",2)]) rfl Dx.nd (Dg (Au (pv 0) rfl)) (EJ (by show TN FU (Ah DP) _ _=true;decide +kernel)) (fun _ _ _ _ _=>(Bm (i:=2) Dx.nd rfl (Or.inl rfl))) (fun _ _ _ _ _=>Gz) (fun _ _ _ _ _=>by exact (ie (Yt (GR hr) (Ly (K0:=K) rfl (pv 2) rfl) (pv 1))))) Ac)))),?_⟩
  refine ⟨_,rfl,AA pm a.CM dm _ _ ⟨ rfl,g1,T.AR,T.AU,rfl,l,rfl,⟨_,SqL.of g2⟩,fun D hD=>?_⟩⟩
  refine KW (K:=K) (a:=l) (xs:=ps.map V.ref) (fun i H'=>Mv [] H H'/\H' D=some (.lst (((m.trains.take i).map fun x=>(Cj kvs (nk x.name)).isSome).map V.bl))) ⟨Mv.new hD,Ae⟩ (fun i H' _ z=>SqL.of (z.1 _ _ g2 (by simp))) ?_ ?_
  ·rintro i y H1 hy ⟨M1,hd1⟩
   obtain ⟨r,hr',rfl⟩:=CO hy
   have hi:i<m.trains.length:=by have:=(List.getElem?_eq_some_iff.mp hr').1;rw[<-g3.1];exact this
   have hx:m.trains[i]?=some m.trains[i]:=List.getElem?_eq_getElem hi
   generalize hgi:m.trains[i]=x at hx
   refine hid fun X_ k_=>?_
   obtain ⟨dt,pn,pp,qs,t1,t2,t3,t4,_⟩:=g3.2 i r x hr' hx
   refine k_ ?_;clear k_
   rw[MR] at t2
   refine ⟨rfl,yes ⟨_,rfl,AA r a.CT dt _ _ ⟨ rfl,M1 _ _ t1 (by simp),T.Bc,T.Cp,rfl,_,rfl,Aq d _ ⟨ rfl,Hs.t (M1 _ _ hd (by simp)) (M1 _ _ t2 (by simp)),?_⟩⟩⟩⟩
   refine ⟨_,hd1,?_,M1.ext hD,?_⟩
   ·rw[List.length_map,List.length_map,List.length_take]
    exact Nat.lt_of_le_of_lt (show min i m.trains.length<=64 by omega) (by decide)
   ·rw[Ae,List.take_succ_eq_append_getElem hi,List.map_append,List.map_append,hgi]
    rfl
  ·rintro H1 ⟨M1,hd1⟩
   rw[List.length_map,g3.1,List.take_length] at hd1
   refine ⟨D,_,rfl,SqL.of hd1,?_⟩
   have:=k H1 M1
   rw[List.all_map]
   exact this
noncomputable def dv (a:Ad):Sp:=fun vs H Q _=>∃pm m pt x as as2 d kvs,∃part:Nat,∃v:Int,vs=[.ref pm,.ref pt,.ref d,.int part]/\BB a as H pm m/\JP a as2 H pt x/\MSm m/\TSm x/\H d=some (.dT kvs)/\Cj kvs (nk x.name)=some (.int v)/\v.natAbs<2^80/\1<=part/\part<=1000000 /\
 ∀H',Mv [] H H'->Q (jX (firstOff x m v part)) H'
theorem EU (T:Txt K mg a):Cal P w K mg base a 4 "steps_until_off" Fv (dv a):=by
 refine AF (k:=3) T.KL Bu (fun _ _ _ _ _ _=>Xt fun _ _ _ _=>rfl) (fun _ _ _ _=>jc fun _ _ _ _ _ _ _ _ _ _=>rfl) (fun f cdv A outer s H vs Q E hr h=>?_)
 ·refine hid fun X_ k_=>?_
  obtain ⟨pm,m,pt,x,as,as2,d,kvs,part,v,rfl,hM,hT,hSm,hSt,hd,hv,hvb,hp1,hp2,k⟩:=h
  refine k_ ?_;clear k_
  refine hid fun X_ k_=>?_
  obtain ⟨dm,l,ps,g1,g2,g3,_⟩:=id hM
  refine k_ ?_;clear k_
  refine hid fun X_ k_=>?_
  obtain ⟨dt,pn,pp,qs,t1,t2,t3,t4,_⟩:=id hT
  refine k_ ?_;clear k_
  rw[MR] at t2
  refine ⟨_,(Ab (Al (i:=4) Bu.nd rfl (Or.inl rfl) (Ar (Nc T) hr Ak (Aa (pv 0) (Aa (pv 1) Ac)))) (Ab (Al (i:=5) Bu.nd rfl (Or.inl rfl) (AD Ky rfl T.YR boot_abs (Aa (Az Dt (Az Bl (Be BE (pv 4) Ao (fun _ _=>rfl)) (Ay T.EM)) (Az Bl (Zk (GR hr) (pv 2) (Au (pv 1) rfl) (fun _ _=>rfl)) (Be BE (pv 4) Ao (fun _ _=>rfl)))) Ac))) (Ab (Al (i:=6) Bu.nd rfl (Or.inl rfl) (Az Bl (Be BE (pv 4) Ao (fun _ _=>rfl)) (Ay T.EM))) (Ab (AS (Av BA (pv 5) Ao (AB _)) (Af (Ap FK)) Ax) (Ab (Al (i:=7) Bu.nd rfl (Or.inl rfl) (Az Bl (Az Bl (pv 5) (Au (pv 0) rfl)) (pv 3))) (Ab (Al (i:=8) Bu.nd rfl (Or.inl rfl) (Az Bl (pv 6) (Au (pv 0) rfl))) (Af (Ap (Az BY (Az Dt (Az CU (pv 8) (pv 7)) Ao) (pv 7)))))))))),?_⟩
  refine ⟨_,rfl,_,rfl,Pl pm m pt x as as2 ⟨ rfl,hM,hT,hSm,hSt,fun q H1 M1 hq hq1=>?_⟩⟩
  have hu:=hSt.up
  have hdn:=hSt.down
  have hmi:=hSm.mi
  have hte:=hSm.te
  have hDM:0<x.down*m.minutes:=Nat.mul_pos (by omega) (by omega)
  have hDM2:x.down*m.minutes<=10^18*99999:=Nat.mul_le_mul hdn.2 hmi.2
  have hg:0<Nat.gcd x.up (x.down*m.minutes):=Nat.gcd_pos_of_pos_right _ hDM
  have ea:Nat.gcd x.up (x.down*m.minutes)*(x.up/Nat.gcd x.up (x.down*m.minutes))=x.up:=Nat.mul_div_cancel' (Nat.gcd_dvd_left _ _)
  have eb:Nat.gcd x.up (x.down*m.minutes)*(x.down*m.minutes/Nat.gcd x.up (x.down*m.minutes))=x.down*m.minutes:=Nat.mul_div_cancel' (Nat.gcd_dvd_right _ _)
  have la:x.up/Nat.gcd x.up (x.down*m.minutes)<=10^18:=Nat.le_trans (Nat.div_le_self _ _) hu.2
  have lb:x.down*m.minutes/Nat.gcd x.up (x.down*m.minutes)<=10^18*99999:=Nat.le_trans (Nat.div_le_self _ _) hDM2
  have pb:0<x.down*m.minutes/Nat.gcd x.up (x.down*m.minutes):=Nat.div_pos (Nat.gcd_le_right _ hDM) hg
  unfold low at hq1
  generalize hgg:Nat.gcd x.up (x.down*m.minutes)=g at *
  generalize x.up/g=A at *
  generalize x.down*m.minutes/g=B at *
  have gd:=Hs.t (M1 _ _ hd (by simp)) (M1 _ _ t2 (by simp))
  rw[hv] at gd
  have c1:CB (A:Int) (21600000000000000:Int):=DL (Nat.lt_of_le_of_lt la (by decide)) (y:=21600000000000000) (by decide)
  have c2:CB v (B:Int):=⟨Nat.lt_trans hvb (by decide),by rw[Int.natAbs_natCast];exact Nat.lt_of_le_of_lt lb (by decide)⟩
  have c3:CB (B:Int) (21600000000000000:Int):=DL (Nat.lt_of_le_of_lt lb (by decide)) (y:=21600000000000000) (by decide)
  refine ⟨_,rfl,q,_,_,_,rfl,rfl,SqT.of hq1,AK (j:=0) rfl,_,_,rfl,rfl,c1,_,rfl,_,rfl,pt,a.CT,dt,_,_,rfl,M1 _ _ t1 (by simp),T.Bc,T.Cp,rfl,d,_,rfl,gd,_,rfl,q,_,_,_,rfl,rfl,SqT.of hq1,AK (j:=1) rfl,_,_,rfl,rfl,c2,_,_,rfl,rfl,_,rfl,?_⟩
  refine ⟨_,rfl,Aw q _ _ _ ⟨ rfl,rfl,SqT.of hq1,AK (j:=1) rfl,Aq _ _ ⟨ rfl,rfl,c3,?_⟩⟩⟩
  obtain ⟨G,hG⟩:∃G:Nat,G=((A:Int)*21600000000000000-v*(B:Int)).natAbs:=⟨_,rfl⟩
  have eG:(if (A:Int)*21600000000000000-v*(B:Int)<0 then -((A:Int)*21600000000000000-v*(B:Int)) else (A:Int)*21600000000000000-v*(B:Int))=(G:Int):=by
   rw[hG];split<;>omega
  dsimp only
  rw[eG]
  have hGb:G<2^160:=by
   have h1:=Int.natAbs_sub_le ((A:Int)*21600000000000000) (v*(B:Int))
   have h2:((A:Int)*21600000000000000).natAbs<=10^18*21600000000000000:=by
    rw[Int.natAbs_mul,Int.natAbs_natCast]
    exact Nat.mul_le_mul la (by decide)
   have h3:(v*(B:Int)).natAbs<=2^80*(10^18*99999):=by
    rw[Int.natAbs_mul,Int.natAbs_natCast]
    exact Nat.mul_le_mul (Nat.le_of_lt hvb) lb
   have h4:10^18*21600000000000000+2^80*(10^18*99999)<2^160:=by decide
   omega
  have hAN:apartNum x m v=g*G:=by
   unfold apartNum
   rw[hG,<-Int.natAbs_natCast g,<-Int.natAbs_mul]
   congr 1
   rw[Int.mul_sub,<-Int.mul_assoc,<-Int.natCast_mul g A,ea,<-eb,Int.mul_left_comm,Int.natCast_mul,Int.natCast_mul]
   rfl
  have kk:=k H1 M1
  unfold firstOff at kk
  rw[hAN] at kk
  refine ⟨_,rfl,rfl,_,rfl,Bi (fun q0=>?_) (fun q0=>?_)⟩
  ·have hG0:G=0:=by omega
   rw[hG0,Nat.mul_zero,if_pos rfl] at kk
   exact kk
  ·have hG1:0<G:=by omega
   have hgG:¬g*G=0:=by
    have:=Nat.mul_pos hg hG1
    omega
   rw[if_neg hgG] at kk
   have gm1:=M1 _ _ g1 (by simp)
   have d1:CB (G:Int) (m.minutes:Int):=DL (Nat.lt_trans hGb (by decide)) (Nat.lt_of_le_of_lt hmi.2 (by decide))
   have hGm:G*m.minutes<=2^160*99999:=Nat.mul_le_mul (Nat.le_of_lt hGb) hmi.2
   have d2:CB ((G:Int)*(m.minutes:Int)) (part:Int):=by
    rw[<-Int.natCast_mul]
    exact DL (Nat.lt_of_le_of_lt hGm (by decide)) (Nat.lt_of_le_of_lt hp2 (by decide))
   have hBU:B*21600000000000000<=10^18*99999*21600000000000000:=Nat.mul_le_mul_right _ lb
   have d3:CB ((B:Int)*21600000000000000) (m.teeth:Int):=by
    rw[show (B:Int)*21600000000000000=((B*21600000000000000:Nat):Int) by rw[Int.natCast_mul];rfl]
    exact DL (Nat.lt_of_le_of_lt hBU (by decide)) (Nat.lt_of_le_of_lt hte.2 (by decide))
   refine ⟨_,rfl,_,rfl,pm,a.CM,dm,_,_,rfl,gm1,T.AR,T.BW,rfl,_,_,rfl,rfl,d1,_,rfl,_,_,rfl,rfl,d2,?_⟩
   refine ⟨_,rfl,_,rfl,AA pm a.CM dm _ _ ⟨ rfl,gm1,T.AR,T.Cr,rfl,Aq _ _ ⟨ rfl,rfl,d3,?_⟩⟩⟩
   have eE:(G:Int)*(m.minutes:Int)*(part:Int)=((G*m.minutes*part:Nat):Int):=by rw[Int.natCast_mul,Int.natCast_mul]
   have eN:(B:Int)*21600000000000000*(m.teeth:Int)=((B*21600000000000000*m.teeth:Nat):Int):=by rw[Int.natCast_mul,Int.natCast_mul];rfl
   have hE0:0<G*m.minutes*part:=Nat.mul_pos (Nat.mul_pos hG1 (by omega)) (by omega)
   have hE1:G*m.minutes*part<2^250:=Nat.lt_of_le_of_lt (Nat.mul_le_mul hGm hp2) (by decide)
   dsimp only
   rw[eE,eN]
   refine ⟨_,rfl,_,rfl,Aq _ _ ⟨ rfl,rfl,Aq _ _ ⟨ rfl,rfl,_,rfl,Aq _ _ ⟨ rfl,rfl,IQ hE0 hE1,?_⟩⟩⟩⟩
   have fin:=hZ (u:=0) (U:=21600000000000000) (T:=m.teeth) hg (show 0<m.minutes by omega) eb (rfl:G*m.minutes*part=_) rfl (rfl:part*(g*G)=_) rfl hE0
   have kk2:Q (.int (((apartDen x m+part*(g*G)-1)/(part*(g*G)):Nat):Int)) H1:=kk
   have hden:apartDen x m=x.down*m.teeth*21600000000000000:=rfl
   rw[hden,<-fin] at kk2
   have ee:(((B*21600000000000000*m.teeth:Nat):Int)+((G*m.minutes*part:Nat):Int)-1)/((G*m.minutes*part:Nat):Int)=(((B*21600000000000000*m.teeth+G*m.minutes*part-1)/(G*m.minutes*part):Nat):Int):=by
    rw[Int.natCast_ediv]
    congr 1
    omega
   dsimp only
   rw[ee]
   exact kk2
end
end Td
namespace Td
open PySem PySem.Spec PyProof.Rows L2
open Tide (Bytes Train Machine firstOff judgeCog cogGrammar)
open TideMachines (soonest)
theorem Ro:∀(l before:List Train),AI before l=none->before.length<=64->before.length+l.length<=64
 |[],before,_,h=>by simpa using h
 |x::r,before,h,hb=>by
  rw[AI] at h
  cases e:BL before x with
  |some f=>rw[e] at h;cases h
  |none=>
   rw[e] at h
   replace h:AI (before++[x]) r=none:=h
   unfold BL at e
   by_cases q1:before.any (fun (y:Train)=>y.name==x.name)=true
   ·rw[if_pos q1] at e;cases e
   ·rw[if_neg q1] at e
    by_cases q2:Tide.TRAINS<=before.length
    ·rw[if_pos q2] at e;cases e
    ·have:Tide.TRAINS=64:=rfl
     have:=Ro r (before++[x]) h (by rw[List.length_append];show before.length+1<=64;omega)
     rw[List.length_append] at this
     rw[List.length_cons]
     have e3:[x].length=1:=rfl
     omega
theorem Wk {b:Bytes}{m:Machine} (h:judgeCog b = .ok m):m.trains.length<=64:=by
 rw[Ft] at h
 cases e:cogGrammar b with
 |error p=>rw[e] at h;cases h
 |ok m'=>
  rw[e] at h
  replace h:(match AI [] m'.trains with|some f=>Except.error f|none=>Except.ok m')=Except.ok m:=h
  cases q:AI [] m'.trains with
  |some f=>rw[q] at h;cases h
  |none=>
   rw[q] at h
   cases h
   have:=Ro m.trains [] q (by decide)
   simpa using this
section
variable {P:Program}{w:World}{K:PySem.W.Frag}{mg:Str->Option Value}{base:Heap}{a:Ad}
noncomputable def Fj (H:Hp) (v:V):Option (Nat×Nat)->Prop
 |none=>v = .non
 |some (i,n)=>∃q,v = .ref q/\H q=some (.tup [.int i,.int n])
noncomputable def fy (a:Ad):Sp:=fun vs H Q _=>∃pm m as d kvs,∃part:Nat,∃g:Bytes->Int,vs=[.ref pm,.ref d,.int part]/\BB a as H pm m/\MSm m/\H d=some (.dT kvs)/\(∀x∈m.trains,Cj kvs (nk x.name)=some (.int (g x.name))/\(g x.name).natAbs<2^80)/\1<=part/\part<=1000000 /\
 ∀v H',Mv [] H H'->Fj H' v (soonest (m.trains.map fun x=>firstOff x m (g x.name) part))->Q v H'
theorem UO (T:Txt K mg a):Cal P w K mg base a 5 "first_off" Np (fy a):=by
 refine AF (k:=4) T.VP CQ (fun _ _ _ _ _ _=>JS fun _ _ _=>rfl) (fun _ _ _ _=>Wh fun _ _ _ _ _ _ _=>rfl) (fun f cdv A outer s H vs Q E hr h=>?_)
 ·obtain ⟨pm,m,as,d,kvs,part,g,rfl,hM,hSm,hd,hv,hp1,hp2,k⟩:=h
  obtain ⟨dm,l,ps,g1,g2,g3,_⟩:=id hM
  refine ⟨_,(Ab (Al (i:=3) CQ.nd rfl (Or.inl rfl) FK) (Ab (DN El rfl (UZ rfl T.Fl (Aa (Au (pv 0) rfl) Ac)) (UY rfl (Ec (Bm (i:=4) CQ.nd rfl (Or.inl rfl)) (Ec (Bm (i:=5) CQ.nd rfl (Or.inl rfl)) ON))) (Ab (Al (i:=6) CQ.nd rfl (Or.inl rfl) (Ar (EU T) hr Ak (Aa (pv 0) (Aa (pv 5) (Aa (pv 1) (Aa (pv 2) Ac)))))) (Af (AS (PW.pt (MB (Av eS (pv 6) FK (AB _)) (IV (PW.pt (Hh (Av Qx (pv 3) FK (AB _)) (EX (Av GY (pv 6) (Be BE (pv 3) Ao (fun _ _=>rfl)) (AB _)))))))) (Af (Al (i:=3) CQ.nd rfl (Or.inl rfl) (CW (Aa (pv 4) (Aa (pv 6) Ac))))) Ax)))) (Af (Ap (pv 3))))),?_⟩
  refine ⟨_,rfl,AA pm a.CM dm _ _ ⟨ rfl,g1,T.AR,T.AU,rfl,Aq l _ ⟨ rfl,SqL.of g2,PF (K:=K) (a:=l) (xs:=ps.map V.ref) (fun i σ H'=>∃vf v1 v2 v3,σ=[some (.ref pm),some (.ref d),some (.int part),some vf,v1,v2,v3]/\Mv [] H H'/\Fj H' vf (soonest ((m.trains.take i).map fun x=>firstOff x m (g x.name) part))) ⟨.non,AN none none none ⟨ rfl,Mv.refl,rfl⟩⟩ (fun i σ H' _ ⟨_,_,_,_,_,M,_⟩=>SqL.of (M _ _ g2 (by simp))) ?_ ?_⟩⟩⟩
  ·rintro i y p σ H1 hy ⟨vf,v1,v2,v3,rfl,M1,hf⟩ hp
   obtain ⟨r,hr',rfl⟩:=CO hy
   have hi:i<m.trains.length:=by have:=(List.getElem?_eq_some_iff.mp hr').1;rw[<-g3.1];exact this
   have hx:m.trains[i]?=some m.trains[i]:=List.getElem?_eq_getElem hi
   generalize hgi:m.trains[i]=x at hx
   have hT:=g3.2 i r x hr' hx
   have hmem:=List.mem_of_getElem? hx
   have hSt:=hSm.tr x hmem
   obtain ⟨b1,b2⟩:=hv x hmem
   have Mp:Mv [] H1 (upd H1 p (.tup [.int i,.ref r])):=Mv.new hp
   have M2:=M1.trans Mp
   have hp2':(upd H1 p (.tup [.int i,.ref r])) p=some (.tup [.int i,.ref r]):=Ae
   have fmono:∀{H H':Hp}{v:V}{o:Option (Nat×Nat)},Mv [] H H'->Fj H v o->Fj H' v o:=fun {H H' v o} M z=>by
    cases o with
    |none=>exact z
    |some q=>obtain ⟨q1,z1,z2⟩:=z;exact ⟨q1,z1,M _ _ z2 (by simp)⟩
   have hf2:=fmono Mp hf
   generalize (upd H1 p (.tup [.int i,.ref r]))=H2 at Mp M2 hp2' hf2 ⊢
   have hln:((m.trains.take i).map fun x=>firstOff x m (g x.name) part).length=i:=by rw[List.length_map,List.length_take];omega
   have etk:(m.trains.take (i+1)).map (fun x=>firstOff x m (g x.name) part)=(m.trains.take i).map (fun x=>firstOff x m (g x.name) part)++[firstOff x m (g x.name) part]:=by
    rw[List.take_succ_eq_append_getElem hi,List.map_append,hgi]
    rfl
   have esn:=LU (firstOff x m (g x.name) part) ((m.trains.take i).map fun x=>firstOff x m (g x.name) part)
   rw[<-etk,hln] at esn
   refine (Aq p _ ⟨ rfl,SqT.of hp2',rfl,Aq _ _ ⟨ rfl,Aq _ _ ⟨ rfl,rfl,?_⟩⟩⟩)
   refine ⟨_,rfl,_,rfl,_,rfl,_,rfl,pm,m,r,x,as,as,d,kvs,part,g x.name,rfl,hM.mv M2,hT.mv M2,hSm,hSt,M2 _ _ hd (by simp),b1,b2,hp1,hp2,fun H3 M3=>?_⟩
   have hf3:=fmono M3 hf2
   have M4:=M2.trans M3
   rw[esn]
   cases eo:firstOff x m (g x.name) part with
   |none=>
    rw[eo] at esn
    refine ⟨_,rfl,rfl,_,rfl,Bn (fun z=>absurd z (by decide)) (fun _=>Bw (Aw vf _ _ _ ⟨ rfl,M4,?_⟩))⟩
    cases es:soonest ((m.trains.take i).map fun x=>firstOff x m (g x.name) part) with
    |none=>rw[es] at hf3;exact hf3
    |some z=>rw[es] at hf3;exact hf3
   |some n=>
    rw[eo] at esn
    have hset:∀(v1 v2 v3:Option V),Rl (YF (AL (AW 4) (AL (AW 6) BQ))) (FQ 3) { nx:=fun σ H'=>∃vf v1 v2 v3,σ=[some (.ref pm),some (.ref d),some (.int part),some vf,v1,v2,v3]/\Mv [] H H'/\Fj H' vf (some (i,n)),rt:=Q } [some (.ref pm),some (.ref d),some (.int part),some vf,some (.int i),some (.ref r),some (.int n)] H3:=fun v1 v2 v3=>by
     refine ⟨_,rfl,_,rfl,(by show 2<=sizeLine;decide),fun q hq=>⟨.ref q,AN _ _ _ ⟨ rfl,M4.trans (Mv.new hq),q,rfl,Ae⟩⟩⟩
    refine ⟨_,rfl,rfl,_,rfl,Bn (fun _=>?_) (fun z=>absurd rfl z)⟩
    cases es:soonest ((m.trains.take i).map fun x=>firstOff x m (g x.name) part) with
    |none=>
     rw[es] at hf3
     cases hf3
     exact ⟨_,rfl,rfl,_,rfl,Bn (fun _=>Bx (hset none none none)) (fun z=>absurd rfl z)⟩
    |some z=>
     obtain ⟨j,b⟩:=z
     rw[es] at hf3
     obtain ⟨q,rfl,hq⟩:=hf3
     refine ⟨_,rfl,rfl,_,rfl,Bn (fun z=>absurd (of_decide_eq_true z) (by intro z2;cases z2)) (fun _=>?_)⟩
     refine ⟨_,rfl,_,rfl,Aw q _ _ _ ⟨ rfl,rfl,SqT.of hq,AK (j:=1) rfl,Aq _ _ ⟨ rfl,rfl,_,rfl,?_⟩⟩⟩
     by_cases hlt:n<b
     ·refine Bn (fun _=>?_) (fun z=>absurd (decide_eq_true (show (n:Int)<(b:Int) by omega)) z)
      exact ⟨_,rfl,_,rfl,(by show 2<=sizeLine;decide),fun q2 hq2=>⟨.ref q2,AN _ _ _ ⟨ rfl,M4.trans (Mv.new hq2),(by show Fj _ _ (if n<b then _ else _);rw[if_pos hlt];exact ⟨q2,rfl,Ae⟩)⟩⟩⟩
     ·refine Bn (fun z=>absurd (of_decide_eq_true z) (by omega)) (fun _=>?_)
      exact (Aw _ _ _ _ ⟨ rfl,M4,(by show Fj _ _ (if n<b then _ else _);rw[if_neg hlt];exact ⟨q,rfl,hq⟩)⟩)
  ·rintro σ H1 ⟨vf,v1,v2,v3,rfl,M1,hf⟩
   rw[List.length_map,g3.1,List.take_length] at hf
   exact ⟨_,rfl,k vf H1 M1 hf⟩
end
end Td
namespace Td
open PySem PySem.Spec PyProof.Rows L2
open Tide (Bytes digitsOf shorn printPointed)
theorem Ba.app {s t:Str}{u v:Bytes} (h:Ba s u) (k:Ba t v):Ba (s++t) (u++v):=by
 unfold Ba at *
 show (s.cps++t.cps).toList=_
 rw[Array.toList_append,List.map_append]
 unfold codes at h k
 rw[h,k]
theorem Ba.len {s:Str}{u:Bytes} (h:Ba s u):s.length=u.length:=by
 have:=congrArg List.length (show codes s=_ from h)
 rw[List.length_map] at this
 unfold codes at this
 rw[<-this]
 simp[Str.length]
theorem GJ:Ba Str.empty []:=rfl
theorem Ck (n:Nat):Ba (Str.ofString (toString (n:Int))) (digitsOf n):=by
 unfold Ba codes
 rw[Str.ofString_eq_toList,Fq]
 show (String.ofList (Nat.toDigits 10 n)).toList.map Char.toNat=_
 rw[String.toList_ofList]
theorem VF:∀(f n k:Nat) (ds:List Char),n<10^(k+1)->(Nat.toDigitsCore 10 f n ds).length<=ds.length+(k+1)
 |0,n,k,ds,h=>by rw[Nat.toDigitsCore];omega
 |f+1,n,k,ds,h=>by
  rw[Nat.toDigitsCore]
  by_cases q:n/10=0
  ·simp[q]
  ·have hk:∃j,k=j+1:=by
    cases k with
    |zero=>exfalso;simp at h;omega
    |succ j=>exact ⟨j,rfl⟩
   obtain ⟨j,rfl⟩:=hk
   have:=VF f (n/10) j (Nat.digitChar (n%10)::ds) (by
    rw[Nat.pow_succ] at h
    exact Nat.div_lt_of_lt_mul (by rw[Nat.mul_comm];exact h))
   rw[List.length_cons] at this
   simp[q]
   omega
theorem BC {n k:Nat} (h:n<10^(k+1)):(digitsOf n).length<=k+1:=by
 have:=congrArg List.length (Fq n)
 rw[List.length_map,List.length_map] at this
 rw[this]
 have:=VF (n+1) n k [] h
 unfold Nat.toDigits
 simpa using this
theorem SG:∀(f n:Nat) (ds:List Char),0<n->n<f->∃c∈Nat.toDigitsCore 10 f n ds,c.toNat≠48
 |0,n,ds,h,k=>by omega
 |f+1,n,ds,h,k=>by
  rw[Nat.toDigitsCore]
  by_cases q:n/10=0
  ·refine ⟨Nat.digitChar (n%10),by simp[q],?_⟩
   rw[KG (Nat.mod_lt _ (by decide))]
   omega
  ·obtain ⟨c,hc,h2⟩:=SG f (n/10) (Nat.digitChar (n%10)::ds) (by omega) (by omega)
   exact ⟨c,by simpa[q] using hc,h2⟩
theorem VJ {n:Nat} (h:0<n):∃c∈digitsOf n,c≠48:=by
 obtain ⟨c,hc,h2⟩:=SG (n+1) n [] h (by omega)
 have:c.toNat∈(digitsOf n).map fun (x:UInt8)=>x.toNat:=by
  rw[Fq]
  exact List.mem_map.mpr ⟨c,hc,rfl⟩
 obtain ⟨x,hx,e⟩:=List.mem_map.mp this
 refine ⟨x,hx,fun z=>h2 ?_⟩
 rw[<-e,z]
 rfl
theorem SH (n:Nat):∀c∈(digitsOf n).map (fun (x:UInt8)=>x.toNat),48<=c/\c<=57:=fun c hc=>by
 rw[Fq] at hc
 obtain ⟨x,hx,rfl⟩:=List.mem_map.mp hc
 exact Pf n x hx
theorem NZ {x:Str} (h:∀c∈codes x,48<=c):codes (Txt.zfill x 4)=List.replicate (4-x.length) 48++codes x:=by
 unfold Txt.zfill
 by_cases q:(4:Int)<=(x.length:Int)
 ·rw[if_pos q,show 4-x.length=0 by omega]
  rfl
 ·rw[if_neg q]
  have e:zfilled x ((4:Int).toNat-x.length)=Builtin.Str.padded x ((4:Int).toNat-x.length) 0 48:=by
   unfold zfilled
   split
   ·rename_i hh
    have:=h 43 (by unfold codes;exact Array.mem_toList_iff.mpr (Array.mem_of_getElem? hh))
    omega
   ·rename_i hh
    have:=h 45 (by unfold codes;exact Array.mem_toList_iff.mpr (Array.mem_of_getElem? hh))
    omega
   ·rfl
  rw[e]
  unfold Builtin.Str.padded codes
  simp
theorem Ve (x y:Str):codes (Txt.rstripChars x y)=((codes x).reverse.dropWhile fun c=>y.cps.contains c).reverse:=by
 have key:∀(p:Nat->Bool) (l:List Nat),(l.reverse.dropWhile p).reverse=l.take (l.length-(l.reverse.takeWhile p).length):=fun p l=>by
  have e:=List.takeWhile_append_dropWhile (p:=p) (l:=l.reverse)
  have e2:l=(l.reverse.dropWhile p).reverse++(l.reverse.takeWhile p).reverse:=by
   rw[<-List.reverse_append,e,List.reverse_reverse]
  have hl:=congrArg List.length e2
  rw[List.length_append,List.length_reverse,List.length_reverse] at hl
  have:l.length-(l.reverse.takeWhile p).length=(l.reverse.dropWhile p).reverse.length:=by rw[List.length_reverse];omega
  rw[this]
  conv=>rhs;arg 2;rw[e2]
  rw[List.take_left]
 rw[key]
 unfold Txt.rstripChars Txt.stripBy
 have hlo:stripLo y.cps.contains false x=0:=rfl
 have hhi:stripHi y.cps.contains true x 0=x.length-((codes x).reverse.takeWhile fun c=>y.cps.contains c).length:=by
  unfold stripHi codes
  rw[List.drop_zero]
  rfl
 have hcl:(codes x).length=x.length:=by simp[codes,Str.length]
 unfold stripSame stripped
 rw[hlo,hhi]
 split
 ·rename_i hs
  have:x.length-((codes x).reverse.takeWhile fun c=>y.cps.contains c).length=x.length:=by simpa using hs
  rw[hcl,this,<-hcl,List.take_length]
 ·rw[hcl]
  unfold Builtin.Str.strSub codes
  simp
theorem au (r:Nat):Ba (Txt.rstripChars (Txt.zfill (Str.ofString (toString (r:Int))) 4) (Str.ofString "0")) (shorn (List.replicate (4-(digitsOf r).length) 48++digitsOf r)):=by
 have hd:=Ck r
 have hl:=hd.len
 unfold Ba at hd ⊢
 rw[Ve,NZ (by rw[hd];exact fun c hc=>(SH r c hc).1),hl,hd]
 have e:List.replicate (4-(digitsOf r).length) 48++(digitsOf r).map (fun y=>y.toNat)=(List.replicate (4-(digitsOf r).length) (48:UInt8)++digitsOf r).map (fun y=>y.toNat):=by
  rw[List.map_append,List.map_replicate]
  rfl
 rw[e]
 unfold shorn
 rw[<-List.map_reverse,List.dropWhile_map,<-List.map_reverse]
 congr 3
 funext c
 show (Str.ofString "0").cps.contains c.toNat=(c==48)
 have:(Str.ofString "0").cps = #[48]:=by decide +kernel
 rw[this]
 by_cases q:c=48
 ·subst q;decide +kernel
 ·have hne:c.toNat≠48:=fun z=>q (UInt8.toNat_inj.mp z)
  have e2:(c==48)=false:=by simpa using q
  rw[e2]
  simpa using fun z=>hne z
theorem bJ {α:Type}{p:α->Bool}:∀{l:List α},l.dropWhile p=[]->∀x∈l,p x=true
 |[],_,x,hx=>by cases hx
 |y::r,h,x,hx=>by
  rw[List.dropWhile_cons] at h
  by_cases q:p y=true
  ·rw[if_pos q] at h
   rcases List.mem_cons.mp hx with rfl|hx
   ·exact q
   ·exact bJ h x hx
  ·rw[if_neg q] at h
   cases h
theorem Tn {r:Nat}:shorn (List.replicate (4-(digitsOf r).length) 48++digitsOf r)=[]<->r=0:=by
 constructor
 ·intro h
  by_cases q:0<r
  ·exfalso
   obtain ⟨c,hc,hne⟩:=VJ q
   unfold shorn at h
   have h1:=List.reverse_eq_nil_iff.mp h
   have:=bJ h1 c (by rw[List.mem_reverse];exact List.mem_append_right _ hc)
   exact hne (by simpa using this)
  ·omega
 ·rintro rfl
  decide +kernel
theorem Tj (b:Bytes):(shorn b).length<=b.length:=by
 unfold shorn
 rw[List.length_reverse]
 have:=(List.dropWhile_sublist (fun (x:UInt8)=>x==48) (l:=b.reverse)).length_le
 rwa [List.length_reverse] at this
end Td
namespace Td
open PySem PySem.Spec PyProof.Rows L2
open Tide (Bytes Cur Train Machine digitsOf shorn printPointed printTrain printedCog judgeCog cogGrammar trainIn trainsIn nameIn)
theorem cj {b:Bytes}{c d:Cur}{x:Train} (h:trainIn c = .ok (x,d)) (i:In b c):x.name.length<=7:=by
 rw[Km] at h
 obtain ⟨c1,h1,h⟩:=Ag.mp h
 obtain ⟨⟨n,c2⟩,h2,h⟩:=Ag.mp h
 obtain ⟨c3,h3,h⟩:=Ag.mp h
 obtain ⟨⟨z,c4⟩,h4,h⟩:=Ag.mp h
 obtain ⟨c5,h5,h⟩:=Ag.mp h
 obtain ⟨⟨s,c6⟩,h6,h⟩:=Ag.mp h
 obtain ⟨⟨r,c7⟩,h7,h⟩:=Ag.mp h
 have h8:=AZ.mp h
 cases h8
 have i1:=(Bj h1 i).1
 unfold nameIn at h2
 by_cases q:Tide.nextIs Tide.isLetter c1=true
 ·rw[if_pos q] at h2
  obtain ⟨_,_,hl,_⟩:=IW (p:=fun (x:UInt8)=>Tide.isLetter x||Tide.isDigit x) (n:=7) i1
  have e2:=congrArg Prod.fst (Except.ok.inj h2)
  rw[e2] at hl
  exact hl
 ·rw[if_neg q] at h2
  cases h2
theorem SU {b:Bytes}:∀{f:Nat}{c:Cur}{l:List Train},trainsIn f c = .ok l->In b c->∀x∈l,x.name.length<=7
 |0,c,l,h,i=>by
  rw[trainsIn] at h
  cases h
  exact fun p hp=>by cases hp
 |f+1,c,l,h,i=>by
  rw[trainsIn] at h
  by_cases q:c.rest=[]
  ·rw[if_pos q] at h
   cases h
   exact fun p hp=>by cases hp
  ·rw[if_neg q] at h
   obtain ⟨⟨x,c1⟩,h1,h⟩:=Ag.mp h
   obtain ⟨r,h2,h⟩:=Ag.mp h
   have h3:=AZ.mp h
   cases h3
   intro z hz
   rcases List.mem_cons.mp hz with rfl|hz
   ·exact cj h1 i
   ·exact SU h2 (DQ h1 i).1 z hz
structure MOk (m:Machine):Prop where
 sm:MSm m
 len:m.trains.length<=64
 nm:∀x∈m.trains,x.name.length<=7
theorem Ya {b:Bytes}{m:Machine} (h:judgeCog b = .ok m):MOk m:=by
 refine ⟨RP h,Wk h,?_⟩
 rw[Ft] at h
 cases e:cogGrammar b with
 |error p=>rw[e] at h;cases h
 |ok m'=>
  rw[e] at h
  replace h:(match AI [] m'.trains with|some f=>Except.error f|none=>Except.ok m')=Except.ok m:=h
  have hm:m'=m:=by
   cases q:AI [] m'.trains with
   |none=>rw[q] at h;cases h;rfl
   |some f=>rw[q] at h;cases h
  subst hm
  unfold cogGrammar at e
  obtain ⟨c1,h1,e⟩:=Ag.mp e
  obtain ⟨⟨t,c2⟩,h2,e⟩:=Ag.mp e
  obtain ⟨c3,h3,e⟩:=Ag.mp e
  obtain ⟨⟨mi,c4⟩,h4,e⟩:=Ag.mp e
  obtain ⟨c5,h5,e⟩:=Ag.mp e
  obtain ⟨r,h6,e⟩:=Ag.mp e
  have h7:=AZ.mp e
  have i1:=(Bj h1 (In.start b)).1
  have i2:=(AV (n:=2) h2 i1).1
  have i3:=(AY h3 i2).1
  have i4:=(AV (n:=4) h4 i3).1
  have i5:=(Bj h5 i4).1
  cases h7
  exact SU h6 i5
theorem lg {n:Nat} (h:n<2^64):((n:Int)).natAbs.log2<1920:=by
 rw[Int.natAbs_natCast]
 by_cases q:n=0
 ·subst q;decide
 ·rw[Nat.log2_lt q]
  exact Nat.lt_trans h (Nat.pow_lt_pow_right (by decide) (by decide))
theorem Ba.sz {s:Str}{u:Bytes} (h:Ba s u) (k:u.length<=10000):s.length<=sizeLine:=by
 rw[h.len]
 exact Nat.le_trans k (by decide)
theorem Ba.bv {s:Str}{u:Bytes} (h:Ba s u):(codes s).map (fun n=>V.int (n:Nat))=bV u:=by
 rw[show codes s=_ from h,List.map_map]
 rfl
noncomputable def pb (p:Nat×Nat):Bytes:=32::(digitsOf p.1++(47::digitsOf p.2))
theorem ic {p:Nat×Nat} (h1:p.1<=999) (h2:p.2<=999):(pb p).length<=8:=by
 unfold pb
 have a1:=BC (n:=p.1) (k:=2) (by omega)
 have a2:=BC (n:=p.2) (k:=2) (by omega)
 simp
 omega
theorem UU:∀{l:List (Nat×Nat)},(∀p∈l,p.1<=999/\p.2<=999)->(l.flatMap pb).length<=8*l.length
 |[],_=>by simp
 |p::r,h=>by
  have ih:=UU (l:=r) fun q hq=>h q (List.mem_cons_of_mem _ hq)
  have h1:=h p (List.mem_cons_self ..)
  have:=ic h1.1 h1.2
  rw[List.flatMap_cons,List.length_append,List.length_cons]
  omega
theorem Mz {n:Nat} (h:n<1000000):(printPointed 4 n).length<=7:=by
 unfold printPointed
 have a1:=BC (n:=n/10^4) (k:=1) (by omega)
 have a2:=BC (n:=n%10^4) (k:=3) (Nat.mod_lt _ (by decide))
 have a3:=Tj (List.replicate (4-(digitsOf (n%10^4)).length) 48++digitsOf (n%10^4))
 rw[List.length_append,List.length_replicate] at a3
 dsimp only
 rw[List.length_append]
 by_cases q:n%10^4=0
 ·rw[if_pos q,List.length_nil];omega
 ·rw[if_neg q,List.length_cons];omega
theorem MK {x:Train} (h:TSm x) (hn:x.name.length<=7):(printTrain x).length<=100:=by
 have a1:=Mz h.sz
 have a2:=BC (n:=x.start) (k:=5) h.st
 have a3:=UU (l:=x.pairs) fun p hp=>⟨(h.pr p hp).2.1,(h.pr p hp).2.2.2⟩
 have a4:=h.len
 have e:x.pairs.flatMap (fun (p:Nat×Nat)=>32::(digitsOf p.1++(47::digitsOf p.2)))=x.pairs.flatMap pb:=rfl
 have a5:(Tide.ascii "train ").length=6:=by decide +kernel
 unfold printTrain
 rw[e]
 simp only [List.length_append,List.length_cons,List.length_nil,a5]
 omega
section
variable {P:Program}{w:World}{K:PySem.W.Frag}{mg:Str->Option Value}{base:Heap}{a:Ad}
noncomputable def da:Sp:=fun vs H Q _=>∃p,∃y:Nat×Nat,vs=[.ref p]/\H p=some (.tup [.int y.1,.int y.2])/\y.1<=999/\y.2<=999/\∀s,Ba s (pb y)->Q (.str s) H
theorem Oz (T:Txt K mg a):Cal P w K mg base a 1 "printed_pair" Ia da:=by
 refine AF (k:=0) T.Pw Ep (fun _ _ _ _ _ _=>CC fun _=>rfl) (fun _ _ _ _=>RN fun _ _=>rfl) (fun f cdv A outer s H vs Q E hr h=>?_)
 ·obtain ⟨p,y,rfl,hp,h1,h2,k⟩:=h
  refine ⟨_,(Ab (Al (i:=1) Ep.nd rfl (Or.inl rfl) (Be BE (pv 0) Ao (fun _ _=>rfl))) (Ab (Al (i:=2) Ep.nd rfl (Or.inl rfl) (Be BE (pv 0) Ao (fun _ _=>rfl))) (Af (Ap (IU (BO AH (BO (Gy (pv 1)) (BO AH (BO (Gy (pv 2)) Vb))))))))),?_⟩
  refine ⟨_,rfl,Aw p _ _ _ ⟨ rfl,rfl,SqT.of hp,AK (j:=0) rfl,?_⟩⟩
  refine ⟨_,rfl,Aw p _ _ _ ⟨ rfl,rfl,SqT.of hp,AK (j:=1) rfl,?_⟩⟩
  have a1:=BC (n:=y.1) (k:=2) (by omega)
  have a2:=BC (n:=y.2) (k:=2) (by omega)
  have t1:Ba (Str.empty++Str.ofString " ") ([]++[32]):=GJ.app (by show codes _=_;decide +kernel)
  have t2:=t1.app (Ck y.1)
  have t3:=t2.app (show Ba (Str.ofString "/") [47] by show codes _=_;decide +kernel)
  have t4:=t3.app (Ck y.2)
  refine ⟨_,rfl,t1.sz (by simp),_,rfl,.inr ⟨_,rfl,lg (by omega),_,rfl,t2.sz (by simp;omega),_,rfl,t3.sz (by simp;omega),_,rfl,.inr ⟨_,rfl,lg (by omega),_,rfl,t4.sz (by simp;omega),t4.sz (by simp;omega),k _ ?_⟩⟩⟩
  have:((([]++[32])++digitsOf y.1)++[47])++digitsOf y.2=pb y:=by unfold pb;simp
  rw[this] at t4
  exact t4
noncomputable def de:Sp:=fun vs H Q _=>∃n:Nat,vs=[.int n]/\n<1000000/\∀s,Ba s (printPointed 4 n)->Q (.str s) H
theorem OA (T:Txt K mg a):Cal P w K mg base a 1 "printed_size" Ib de:=by
 refine AF (k:=0) T.Px Er (fun _ _ _ _ _ _=>CC fun _=>rfl) (fun _ _ _ _=>Wg fun _=>rfl) (fun f cdv A outer s H vs Q E hr h=>?_)
 ·obtain ⟨n,rfl,hn,k⟩:=h
  refine ⟨_,(Ab (Al (i:=1) Er.nd rfl (Or.inl rfl) (Az BY (pv 0) (Ay T.YT))) (Ab (Al (i:=2) Er.nd rfl (Or.inl rfl) (cA PySem.F.slot_str_rstrip PySem.F.type_str_rstrip Ye (cA PySem.F.slot_str_zfill PySem.F.type_str_zfill cg (FZ KA rfl T.fS boot_str (Aa (Az Qy (pv 0) (Ay T.YT)) Ac)) (Ay T.DY)) AH)) (Ab (AS (Av BA (pv 2) AH (AB _)) (Af (Ap (FZ KA rfl T.fS boot_str (Aa (pv 1) Ac)))) Ax) (Af (Ap (IU (BO (Gy (pv 1)) (BO AH (BO (Gy (pv 2)) Vb))))))))),?_⟩
  have tp:=au (n%10000)
  have td:=Ck (n/10000)
  have hpl:=Mz hn
  have a1:=BC (n:=n/10000) (k:=1) (by omega)
  have a2:=BC (n:=n%10000) (k:=3) (Nat.mod_lt _ (by decide))
  have a3:=Tj (List.replicate (4-(digitsOf (n%10000)).length) 48++digitsOf (n%10000))
  rw[List.length_append,List.length_replicate] at a3
  refine ⟨_,rfl,Aq _ _ ⟨ rfl,rfl,⟨by decide,by decide⟩,?_⟩⟩
  have tz:Ba (Str.ofString (toString ((n%10000:Nat):Int))) (digitsOf (n%10000)):=Ck _
  refine ⟨_,rfl,Aq _ _ ⟨ rfl,rfl,(by show (0:Int)<10000;decide),_,rfl,lg (n:=n%10000) (Nat.lt_of_lt_of_le (Nat.mod_lt _ (by decide)) (by decide)),⟨_,rfl⟩,Aq _ _ ⟨ rfl,rfl,(by decide +kernel),⟨_,rfl⟩,Aq _ _ ⟨ rfl,rfl,?_,?_⟩⟩⟩⟩
  ·have hz:=NZ (x:=Str.ofString (toString ((n%10000:Nat):Int))) (by rw[show codes _=_ from tz];exact fun c hc=>(SH _ c hc).1)
   have hl:=congrArg List.length hz
   rw[List.length_append,List.length_replicate,tz.len,show codes (Str.ofString (toString ((n%10000:Nat):Int)))=_ from tz,List.length_map] at hl
   have:(Txt.zfill (Str.ofString (toString ((n%10000:Nat):Int))) 4).length=(codes (Txt.zfill (Str.ofString (toString ((n%10000:Nat):Int))) 4)).length:=by simp[codes,Str.length]
   show (Txt.zfill (Str.ofString (toString ((n%10000:Nat):Int))) 4).length<=sizeLine
   rw[this,hl]
   exact Nat.le_trans (show _<=8 by omega) (by decide)
  ·unfold printPointed at k
   refine ⟨_,rfl,rfl,_,rfl,Og (fun q=>?_) (fun q=>?_)⟩
   ·have q1:Txt.rstripChars (Txt.zfill (Str.ofString (toString ((n%10000:Nat):Int))) 4) (Str.ofString "0")=Str.ofString "":=by injection q
    rw[q1] at tp
    have h0:shorn (List.replicate (4-(digitsOf (n%10000)).length) 48++digitsOf (n%10000))=[]:=by
     have:=tp.len
     rw[show (Str.ofString "").length=0 by decide +kernel] at this
     exact List.length_eq_zero_iff.mp this.symm
    have hr0:=Tn.mp h0
    refine ⟨_,rfl,_,rfl,lg (n:=n/10000) (by omega),k _ ?_⟩
    rw[show n%10^4=0 from hr0,if_pos rfl,List.append_nil]
    exact td
   ·have hr0:¬n%10^4=0:=fun z=>q (by
     have h0:=Tn.mpr z
     rw[show n%10^4=n%10000 from rfl] at h0
     rw[h0] at tp
     have:(Txt.rstripChars (Txt.zfill (Str.ofString (toString ((n%10000:Nat):Int))) 4) (Str.ofString "0"))=Str.ofString "":=by
      have e1:codes (Txt.rstripChars (Txt.zfill (Str.ofString (toString ((n%10000:Nat):Int))) 4) (Str.ofString "0"))=[]:=tp
      unfold codes at e1
      have e2:(Str.ofString "").cps.toList=[]:=by decide +kernel
      have e3:=Array.toList_inj.mp (e1.trans e2.symm)
      cases hA:Txt.rstripChars (Txt.zfill (Str.ofString (toString ((n%10000:Nat):Int))) 4) (Str.ofString "0") with
      |mk A=>cases hB:Str.ofString "" with
       |mk B=>rw[hA,hB] at e3;exact congrArg Str.mk e3
     exact congrArg V.str this)
    have t1:=GJ.app td
    have t2:=t1.app (show Ba (Str.ofString ".") [46] by show codes _=_;decide +kernel)
    have t3:=t2.app tp
    refine ⟨_,rfl,.inr ⟨_,rfl,lg (n:=n/10000) (by omega),_,rfl,t1.sz (by simp;omega),_,rfl,t2.sz (by simp;omega),_,rfl,.inl ⟨_,rfl,tp.sz (by omega),_,rfl,t3.sz (by simp;omega),t3.sz (by simp;omega),k _ ?_⟩⟩⟩
    rw[if_neg hr0]
    have:(([]++digitsOf (n/10000))++[46])++shorn (List.replicate (4-(digitsOf (n%10000)).length) 48++digitsOf (n%10000))=digitsOf (n/10^4)++46::shorn (List.replicate (4-(digitsOf (n%10^4)).length) 48++digitsOf (n%10^4)):=by simp
    rw[this] at t3
    exact t3
end
end Td
namespace Td
open PySem PySem.Spec PyProof.Rows L2
open Tide (Bytes Cur Train Machine digitsOf shorn printPointed printTrain printedCog)
theorem PM:∀l:List Str,codes (Str.join (Str.ofString "") l)=(l.map codes).flatten
 |[]=>rfl
 |[x]=>by
  show codes x=(codes x::[]).flatten
  simp
 |x::y::r=>by
  have ih:=PM (y::r)
  have e0:(Str.ofString "").cps.toList=[]:=by decide +kernel
  show (x.cps++(Str.ofString "").cps++(Str.join (Str.ofString "") (y::r)).cps).toList=_
  rw[Array.toList_append,Array.toList_append,e0,List.append_nil,List.map_cons,List.flatten_cons,<-ih]
  rfl
section
variable {P:Program}{w:World}{K:PySem.W.Frag}{mg:Str->Option Value}{base:Heap}{a:Ad}
noncomputable def aL (a:Ad):Sp:=fun vs H Q _=>∃pt x as,vs=[.ref pt]/\JP a as H pt x/\TSm x/\x.name.length<=7/\∀q H',Mv [] H H'->H q=none->H' q=some (.lst (bV (printTrain x)))->Q (.ref q) H'
theorem FF (b:Bytes):(bV b).length=b.length:=by unfold bV;simp
theorem Xs (b c:Bytes):bV (b++c)=bV b++bV c:=by unfold bV;rw[List.map_append]
theorem My (T:Txt K mg a):Cal P w K mg base a 2 "printed_train" Hc (aL a):=by
 refine AF (k:=1) T.Oe BI (fun _ _ _ _ _ _=>CC fun _=>rfl) (fun _ _ _ _=>PQ fun _ _ _=>rfl) (fun f cdv A outer s H vs Q E hr h=>?_)
 ·obtain ⟨pt,x,as,rfl,hT,hS,hnm,k⟩:=h
  obtain ⟨dt,pn,pp,qs,t1,t2,t3,t4,_⟩:=id hT
  refine ⟨_,(Ab (Al (i:=1) BI.nd rfl (Or.inl rfl) (Ar (OA T) hr Ak (Aa (Au (pv 0) rfl) Ac))) (Ab (Al (i:=2) BI.nd rfl (Or.inl rfl) (Au (pv 0) rfl)) (Ab (Al (i:=3) BI.nd rfl (Or.inl rfl) (eV AH (QM (own:=[("pair",4)]) rfl BI.nd (Dg (Au (pv 0) rfl)) (EJ (by show TN GU (Ah En) _ _=true;decide +kernel)) (fun _ _ _ _ _=>(Bm (i:=4) BI.nd rfl (Or.inl rfl))) (fun _ _ _ _ _=>Gz) (fun _ _ _ _ _=>by exact (Ar (Oz T) hr (cu (C:=a.CF)) (Aa (pv 4) Ac)))))) (Af (Ap (Az Kf (Az Kf (Ar (HP T) hr Ak (Aa AH Ac)) (FZ Kz rfl T.bt boot_list (Aa (Au (pv 0) rfl) Ac))) (Ar (HP T) hr Ak (Aa (IU (BO AH (BO (Gy (pv 1)) (BO AH (BO (Gy (pv 2)) (BO (Gy (pv 3)) (BO AH Vb))))))) Ac)))))))),?_⟩
  refine ⟨_,rfl,AA pt a.CT dt _ _ ⟨ rfl,t1,T.Bc,T.Gv,rfl,x.size,rfl,hS.sz,fun sz hsz=>?_⟩⟩
  refine ⟨_,rfl,AA pt a.CT dt _ _ ⟨ rfl,t1,T.Bc,T.DT,rfl,?_⟩⟩
  refine ⟨⟨_,rfl⟩,_,rfl,AA pt a.CT dt _ _ ⟨ rfl,t1,T.Bc,T.Dd,rfl,pp,rfl,⟨_,SqL.of t3⟩,fun D hD=>?_⟩⟩
  refine KW (K:=K) (a:=pp) (xs:=qs.map V.ref) (fun i H'=>Mv [] H H'/\∃ss:List Str,H' D=some (.lst (ss.map V.str))/\ss.length=i/\ss.map codes=((x.pairs.take i).map pb).map fun b=>b.map fun (c:UInt8)=>c.toNat) ⟨Mv.new hD,[],Ae,rfl,rfl⟩ (fun i H' _ z=>SqL.of (z.1 _ _ t3 (by simp))) ?_ ?_
  ·rintro i y H1 hy ⟨M1,ss,hd1,hsl,hss⟩
   obtain ⟨r,hr',rfl⟩:=CO hy
   have hi:i<x.pairs.length:=by have:=(List.getElem?_eq_some_iff.mp hr').1;rw[<-t4.1];exact this
   have hx:x.pairs[i]?=some x.pairs[i]:=List.getElem?_eq_getElem hi
   generalize hgi:x.pairs[i]=pr at hx
   have hp:=hS.pr pr (List.mem_of_getElem? hx)
   refine ⟨rfl,yes ⟨_,rfl,Aq r pr ⟨ rfl,M1 _ _ (t4.2 i r pr hr' hx) (by simp),hp.2.1,hp.2.2.2,fun s hs=>?_⟩⟩⟩
   refine ⟨_,hd1,?_,M1.ext hD,ss++[s],?_,?_,?_⟩
   ·rw[List.length_map,hsl]
    exact Nat.lt_of_lt_of_le (show i<7 by have:=hS.len;omega) (by decide)
   ·rw[Ae,List.map_append]
    rfl
   ·rw[List.length_append,hsl]
    rfl
   ·rw[List.map_append,hss,List.take_succ_eq_append_getElem hi,List.map_append,List.map_append,hgi]
    show _++[codes s]=_
    rw[show codes s=_ from hs]
    rfl
  ·rintro H1 ⟨M1,ss,hd1,hsl,hss⟩
   rw[List.length_map,t4.1,List.take_length] at hss
   have tj:Ba (Txt.join (Str.ofString "") ss) (x.pairs.flatMap pb):=by
    unfold Ba
    rw[show Txt.join (Str.ofString "") ss=Str.join (Str.ofString "") ss from StrLaws.glued_eq_join _ _,PM,hss,<-List.map_flatten,List.flatMap_def]
   have hpl:=UU (l:=x.pairs) fun p hp=>⟨(hS.pr p hp).2.1,(hS.pr p hp).2.2.2⟩
   have hl6:=hS.len
   refine ⟨_,D,ss,rfl,rfl,.inl (SqL.of hd1),?_,?_⟩
   ·have e1:ss.map (·.length)=(ss.map codes).map List.length:=by
     rw[List.map_map]
     refine List.map_congr_left fun s _=>?_
     simp[codes,Str.length]
    have e2:((ss.map codes).map List.length).sum=(x.pairs.flatMap pb).length:=by
     rw[hss,List.map_map,List.flatMap_def,List.length_flatten]
     congr 1
     refine List.map_congr_left fun s _=>?_
     simp
    rw[e1,e2,show (Str.ofString "").length=0 by decide +kernel,Nat.mul_zero]
    omega
   ·have tt:Ba (Str.ofString "train ") (Tide.ascii "train "):=by show codes _=_;decide +kernel
    have m1:=M1 _ _ t1 (by simp)
    have ha6:(Tide.ascii "train ").length=6:=by decide +kernel
    refine ⟨_,rfl,(by rw[show codes _=_ from tt,List.length_map,ha6];decide),fun q1 H2 M2 hq1 hq2=>?_⟩
    rw[tt.bv] at hq2
    refine ⟨_,rfl,AA pt a.CT dt _ _ ⟨ rfl,M2 _ _ m1 (by simp),T.Bc,T.Cp,rfl,Aq pn _ ⟨ rfl,.inr (SqT.of (M2 _ _ (M1 _ _ t2 (by simp)) (by simp))),fun l2 hl2=>?_⟩⟩⟩
    have hq3:(upd H2 l2 (.lst (bV x.name))) q1=some (.lst (bV (Tide.ascii "train "))):=by rw[Ai (An hq2 hl2)];exact hq2
    refine (Aw q1 l2 _ _ ⟨ rfl,rfl,hq3,Ae,?_,fun p3 hp3=>?_⟩)
    ·rw[FF,FF,ha6]
     exact Nat.le_trans (show _<=13 by omega) (by decide)
    have hp4:(upd (upd H2 l2 (.lst (bV x.name))) p3 (.lst (bV (Tide.ascii "train ")++bV x.name))) p3=some (.lst (bV (Tide.ascii "train "++x.name))):=by rw[Ae,Xs]
    have M3:Mv [] H (upd (upd H2 l2 (.lst (bV x.name))) p3 (.lst (bV (Tide.ascii "train ")++bV x.name))):=(((M1.trans M2).trans (Mv.new hl2))).trans (Mv.new hp3)
    generalize (upd (upd H2 l2 (.lst (bV x.name))) p3 (.lst (bV (Tide.ascii "train ")++bV x.name)))=H3 at hp4 M3 ⊢
    have hpt:=Mz hS.sz
    have hds:=BC (n:=x.start) (k:=5) hS.st
    have u1:Ba (Str.empty++Str.ofString " ") ([]++[32]):=GJ.app (by show codes _=_;decide +kernel)
    have u2:=u1.app hsz
    have u3:=u2.app (show Ba (Str.ofString " ") [32] by show codes _=_;decide +kernel)
    have u4:=u3.app (Ck x.start)
    have u5:=u4.app tj
    have u6:=u5.app (show Ba (Str.ofString "\n") [10] by show codes _=_;decide +kernel)
    refine ⟨_,rfl,u1.sz (by simp),_,rfl,.inl ⟨_,rfl,hsz.sz (by omega),_,rfl,u2.sz (by simp[-List.length_flatMap];omega),_,rfl,u3.sz (by simp[-List.length_flatMap];omega),_,rfl,.inr ⟨_,rfl,lg (Nat.lt_trans hS.st (by decide)),_,rfl,u4.sz (by simp[-List.length_flatMap];omega),_,rfl,.inl ⟨_,rfl,tj.sz (by omega),_,rfl,u5.sz (by simp[-List.length_flatMap];omega),_,rfl,u6.sz (by simp[-List.length_flatMap];omega),u6.sz (by simp[-List.length_flatMap];omega),?_⟩⟩⟩⟩
    refine ⟨_,rfl,?_,fun q5 H5 M5 hq5 hq6=>?_⟩
    ·rw[show codes _=_ from u6,List.length_map]
     simp[-List.length_flatMap]
     omega
    rw[u6.bv] at hq6
    have e7:(Tide.ascii "train "++x.name)++(((((([]++[32])++printPointed 4 x.size)++[32])++digitsOf x.start)++x.pairs.flatMap pb)++[10])=printTrain x:=by
     unfold printTrain
     rw[show x.pairs.flatMap (fun (p:Nat×Nat)=>32::(digitsOf p.1++(47::digitsOf p.2)))=x.pairs.flatMap pb from rfl]
     simp
     rfl
    have hal:=MK hS hnm
    have hl7:=congrArg List.length e7
    rw[List.length_append] at hl7
    refine (Aw p3 q5 _ _ ⟨ rfl,rfl,M5 _ _ hp4 (by simp),hq6,?_,fun p8 hp8=>?_⟩)
    ·rw[FF,FF,hl7]
     exact Nat.le_trans hal (by decide)
    ·refine k p8 _ ((M3.trans M5).trans (Mv.new hp8)) ((M3.trans M5).none (by simp) hp8) ?_
     rw[Ae,<-Xs,e7]
noncomputable def YA (a:Ad):Sp:=fun vs H Q _=>∃pm m as,vs=[.ref pm]/\BB a as H pm m/\MOk m/\∀q H',Mv [] H H'->H q=none->H' q=some (.lst (bV (printedCog m)))->(printedCog m).length<=10000->Q (.ref q) H'
theorem Yr (T:Txt K mg a):Cal P w K mg base a 3 "printed" Tc (YA a):=by
 refine AF (k:=2) T.ZS Fd (fun _ _ _ _ _ _=>CC fun _=>rfl) (fun _ _ _ _=>PQ fun _ _ _=>rfl) (fun f cdv A outer s H vs Q E hr h=>?_)
 ·obtain ⟨pm,m,as,rfl,hM,hO,k⟩:=h
  obtain ⟨dm,l,ps,g1,g2,g3,_⟩:=id hM
  refine ⟨_,(Ab (Al (i:=1) Fd.nd rfl (Or.inl rfl) (Au (pv 0) rfl)) (Ab (Al (i:=2) Fd.nd rfl (Or.inl rfl) (Au (pv 0) rfl)) (Ab (Al (i:=3) Fd.nd rfl (Or.inl rfl) (Ar (HP T) hr Ak (Aa (IU (BO AH (BO (Gy (pv 1)) (BO AH (BO (Gy (pv 2)) (BO AH Vb)))))) Ac))) (Ab (DN El rfl (Dg (Au (pv 0) rfl)) (Bm (i:=4) Fd.nd rfl (Or.inl rfl)) (Af (AJ (He PySem.F.plainAttrs_list PySem.F.slot_list_extend PySem.F.type_list_extend Mt (pv 3) (Aa (Ar (My T) hr Ak (Aa (pv 4) Ac)) Ac))))) (Af (Ap (pv 3))))))),?_⟩
  refine ⟨_,rfl,AA pm a.CM dm _ _ ⟨ rfl,g1,T.AR,T.Cr,rfl,?_⟩⟩
  refine ⟨_,rfl,AA pm a.CM dm _ _ ⟨ rfl,g1,T.AR,T.BW,rfl,?_⟩⟩
  have hte:=hO.sm.te
  have hmi:=hO.sm.mi
  have d1:=BC (n:=m.teeth) (k:=2) (by omega)
  have d2:=BC (n:=m.minutes) (k:=4) (by omega)
  have ha6:(Tide.ascii "crank ").length=6:=by decide +kernel
  have u1:Ba (Str.empty++Str.ofString "crank ") ([]++Tide.ascii "crank "):=GJ.app (by show codes _=_;decide +kernel)
  have u2:=u1.app (Ck m.teeth)
  have u3:=u2.app (show Ba (Str.ofString " ") [32] by show codes _=_;decide +kernel)
  have u4:=u3.app (Ck m.minutes)
  have u5:=u4.app (show Ba (Str.ofString "\n") [10] by show codes _=_;decide +kernel)
  refine ⟨_,rfl,u1.sz (by simp[ha6]),_,rfl,.inr ⟨_,rfl,lg (by omega),_,rfl,u2.sz (by simp[ha6];omega),_,rfl,u3.sz (by simp[ha6];omega),_,rfl,.inr ⟨_,rfl,lg (by omega),_,rfl,u4.sz (by simp[ha6];omega),_,rfl,u5.sz (by simp[ha6];omega),u5.sz (by simp[ha6];omega),?_⟩⟩⟩
  refine ⟨_,rfl,?_,fun q H1 M1 hq hq1=>?_⟩
  ·rw[show codes _=_ from u5,List.length_map]
   simp[ha6]
   omega
  rw[u5.bv] at hq1
  obtain ⟨hd,ehd⟩:∃hd:Bytes,(((([]++Tide.ascii "crank ")++digitsOf m.teeth)++[32])++digitsOf m.minutes)++[10]=hd:=⟨_,rfl⟩
  have hdl:hd.length<=20:=by rw[<-ehd];simp[ha6];omega
  rw[ehd] at hq1
  have tl:∀i,((m.trains.take i).flatMap printTrain).length<=100*i:=fun i=>by
   induction i with
   |zero=>simp
   |succ i ih=>
    by_cases hi:i<m.trains.length
    ·have hx:=List.getElem_mem hi
     have:=MK (hO.sm.tr _ hx) (hO.nm _ hx)
     rw[List.take_succ_eq_append_getElem hi,List.flatMap_append,List.length_append,List.flatMap_cons,List.flatMap_nil,List.append_nil]
     omega
    ·rw[List.take_of_length_le (by omega)] at ih ⊢
     omega
  refine ⟨_,rfl,AA pm a.CM dm _ _ ⟨ rfl,M1 _ _ g1 (by simp),T.AR,T.AU,rfl,l,rfl,⟨_,SqL.of (M1 _ _ g2 (by simp))⟩,EO (xs:=ps.map V.ref) (fun i σ H'=>∃v,σ=[some (.ref pm),some (.int m.teeth),some (.int m.minutes),some (.ref q),v]/\Mv [] H H'/\H' q=some (.lst (bV (hd++(m.trains.take i).flatMap printTrain)))/\i<=64) ⟨none,rfl,M1,(by rw[hq1];simp),by decide⟩ (fun i σ H' _ ⟨_,_,z,_⟩=>SqL.of (z _ _ g2 (by simp))) ?_ ?_⟩⟩
  ·rintro i y σ H2 hy ⟨v,rfl,M2,hq2,hi64⟩
   obtain ⟨r,hr',rfl⟩:=CO hy
   have hi:i<m.trains.length:=by have:=(List.getElem?_eq_some_iff.mp hr').1;rw[<-g3.1];exact this
   have hx:m.trains[i]?=some m.trains[i]:=List.getElem?_eq_getElem hi
   generalize hgi:m.trains[i]=x at hx
   have hT:=g3.2 i r x hr' hx
   have hmem:=List.mem_of_getElem? hx
   have hSt:=hO.sm.tr x hmem
   have hxl:=MK hSt (hO.nm x hmem)
   have htl:=tl i
   have hlen:=hO.len
   refine ⟨_,rfl,.inl ⟨rfl,_,SqL.of hq2⟩,_,rfl,AN r x as ⟨ rfl,hT.mv M2,hSt,hO.nm x hmem,fun q3 H3 M3 hq3 hq4=>?_⟩⟩
   refine (Aw q q3 _ _ ⟨ rfl,rfl,M3 _ _ hq2 (by simp),hq4,?_,some (.ref r),rfl,(M2.trans M3).ext hq,?_,by omega⟩)
   ·rw[FF,FF,List.length_append]
    exact Nat.le_trans (show _<=10000 by omega) (by decide)
   ·rw[Ae,List.take_succ_eq_append_getElem hi,List.flatMap_append,hgi,<-Xs,List.append_assoc]
    congr 4
    rw[List.flatMap_cons,List.flatMap_nil,List.append_nil]
  ·rintro σ H2 ⟨v,rfl,M2,hq2,hi64⟩
   rw[List.length_map,g3.1,List.take_length] at hq2
   have e:hd++m.trains.flatMap printTrain=printedCog m:=by
    rw[<-ehd]
    unfold printedCog
    simp
    rfl
   rw[e] at hq2
   refine ⟨_,rfl,k q H2 M2 hq hq2 ?_⟩
   rw[<-e,List.length_append]
   have:=tl m.trains.length
   rw[List.take_length] at this
   have:=hO.len
   omega
end
end Td
namespace Td
open PySem PySem.Spec PyProof.Rows L2
open Tide (Bytes Train Machine Answer says tells printedCog)
open TideMachines (isStep partOk lowest)
noncomputable def Ans (H:Hp) (Q:VK) (l:List Int):Prop:=∀q H',Mv [] H H'->H q=none->H' q=some (.lst (l.map V.int))->l.length<=10010->Q (.ref q) H'
theorem Ans.one {H H1:Hp}{Q:VK}{z:Int} (k:Ans H Q (says z).nums) (M:Mv [] H H1):fL (AL (tC (.int z)) BQ) [] H1 Q:=by
 refine ⟨(by show 1<=sizeLine;decide),fun q hq=>k q _ (M.trans (Mv.new hq)) (M.none (by simp) hq) Ae (by show 1<=10010;decide)⟩
section
variable {P:Program}{w:World}{K:PySem.W.Frag}{mg:Str->Option Value}{base:Heap}{a:Ad}
noncomputable def aN:Sp:=fun vs H Q _=>∃x lo hi:Int,vs=[.int x,.int lo,.int hi]/\Q (.bl (decide (lo<=x)&&decide (x<=hi))) H
theorem BF (T:Txt K mg a):Cal P w K mg base a 1 "is_within" Nr aN:=by
 refine AF (k:=0) T.VR Vl (fun _ _ _ _ _ _=>JS fun _ _ _=>rfl) (fun _ _ _ _=>PQ fun _ _ _=>rfl) (fun f cdv A outer s H vs Q E hr h=>?_)
 ·obtain ⟨x,lo,hi,rfl,k⟩:=h
  refine ⟨_,(Af (Ap (Lw GX GX (pv 1) (pv 0) (pv 2)))),?_⟩
  refine ⟨_,rfl,_,rfl,Aq _ _ ⟨ rfl,rfl,_,rfl,Og (fun q=>?_) (fun q=>?_)⟩⟩
  ·rw[decide_eq_true q,Bool.true_and] at k
   exact ⟨_,rfl,Aq _ _ ⟨ rfl,rfl,k⟩⟩
  ·rw[decide_eq_false q,Bool.false_and] at k
   exact k
noncomputable def aD (a:Ad):Sp:=fun vs H Q _=>∃pm m as,vs=[.ref pm]/\BB a as H pm m/\MOk m/\Ans H Q (tells 0 [.text (printedCog m)]).nums
theorem Ou (T:Txt K mg a):Cal P w K mg base a 4 "answer_print" HU (aD a):=by
 refine AF (k:=3) T.Po Hm (fun _ _ _ _ _ _=>CC fun _=>rfl) (fun _ _ _ _=>PQ fun _ _ _=>rfl) (fun f cdv A outer s H vs Q E hr h=>?_)
 ·obtain ⟨pm,m,as,rfl,hM,hO,k⟩:=h
  refine ⟨_,(Ab (Al (i:=1) Hm.nd rfl (Or.inl rfl) (Ar (Yr T) hr Ak (Aa (pv 0) Ac))) (Af (Ap (Az Kf (Bb (Aa Ao (Aa (AD AQ rfl T.DD boot_len (Aa (pv 1) Ac)) Ac))) (pv 1))))),?_⟩
  refine ⟨_,rfl,AN pm m as ⟨ rfl,hM,hO,fun q H1 M1 hq hq1 hl=>?_⟩⟩
  refine ⟨_,rfl,Aq q _ ⟨ rfl,.inl (SqL.of hq1),(by show 2<=sizeLine;decide),fun p2 hp2=>?_⟩⟩
  refine ⟨_,rfl,Aw p2 q _ _ ⟨ rfl,rfl,Ae,(by rw[Ai (An hq1 hp2)];exact hq1),?_,fun p3 hp3=>?_⟩⟩
  ·rw[FF]
   exact Nat.le_trans (show 2+_<=10002 by omega) (by decide)
  ·refine k p3 _ (M1.trans ((Mv.new (S:=[]) hp2).trans (Mv.new hp3))) (M1.none (by simp) ((Mv.new (S:=[]) hp2).none (by simp) hp3)) ?_ ?_
   ·rw[Ae,FF]
    unfold Tide.Answer.nums tells
    rw[List.flatMap_cons,List.flatMap_nil,List.append_nil]
    show _=some (HO.lst (V.int 0::V.int _::((printedCog m).map _).map V.int))
    rw[List.map_map]
    rfl
   ·unfold Tide.Answer.nums tells
    rw[List.flatMap_cons,List.flatMap_nil,List.append_nil]
    show (((printedCog m).length:Int)::(printedCog m).map _).length+1<=10010
    rw[List.length_cons,List.length_map]
    omega
noncomputable def cS (a:Ad):Sp:=fun vs H Q _=>∃pm m as,vs=[.ref pm]/\BB a as H pm m/\Ans H Q (tells 0 [.num m.trains.length,.num m.teeth,.num m.minutes]).nums
theorem Qq (T:Txt K mg a):Cal P w K mg base a 1 "answer_size" Jq (cS a):=by
 refine AF (k:=0) T.RF Rc (fun _ _ _ _ _ _=>CC fun _=>rfl) (fun _ _ _ _=>PQ fun _ _ _=>rfl) (fun f cdv A outer s H vs Q E hr h=>?_)
 ·obtain ⟨pm,m,as,rfl,hM,k⟩:=h
  obtain ⟨dm,l,ps,g1,g2,g3,_⟩:=id hM
  refine ⟨_,(Af (Ap (Bb (Aa Ao (Aa (AD AQ rfl T.DD boot_len (Aa (Au (pv 0) rfl) Ac)) (Aa (Au (pv 0) rfl) (Aa (Au (pv 0) rfl) Ac))))))),?_⟩
  refine ⟨_,rfl,AA pm a.CM dm _ _ ⟨ rfl,g1,T.AR,T.AU,rfl,Aq l _ ⟨ rfl,.inl (SqL.of g2),_,rfl,AA pm a.CM dm _ _ ⟨ rfl,g1,T.AR,T.Cr,rfl,_,rfl,AA pm a.CM dm _ _ ⟨ rfl,g1,T.AR,T.BW,rfl,(by show 4<=sizeLine;decide),fun q hq=>?_⟩⟩⟩⟩⟩
  refine k q _ (Mv.new hq) hq ?_ (by show 4<=10010;decide)
  rw[Ae,List.length_map,g3.1]
  rfl
theorem OY {m:Machine}{H:Hp}{as ps:List Addr} (g3:OV a as H ps m.trains) {i:Nat}{x:Train} (hx:m.trains[i]?=some x):∃r,ps[i]?=some r/\JP a as H r x/\atI (ps.map V.ref) (i:Int)=some (V.ref r):=by
 have hi:=(List.getElem?_eq_some_iff.mp hx).1
 have hi2:i<ps.length:=by rw[g3.1];exact hi
 have hp:ps[i]?=some ps[i]:=List.getElem?_eq_getElem hi2
 refine ⟨_,hp,g3.2 i _ x hp hx,AK ?_⟩
 rw[List.getElem?_map,hp]
 rfl
noncomputable def aF (a:Ad):Sp:=fun vs H Q _=>∃pm m as,∃i:Nat,vs=[.ref pm,.int i]/\BB a as H pm m/\MOk m/\Ans H Q (match m.trains[i]? with|none=>says (-4)|some t=>tells 0 (lowest t.speedNum (t.speedDen m))).nums
theorem Ow (T:Txt K mg a):Cal P w K mg base a 4 "answer_speed" HW (aF a):=by
 refine AF (k:=3) T.Pq Hn (fun _ _ _ _ _ _=>Fh fun _ _=>rfl) (fun _ _ _ _=>IZ fun _ _ _ _=>rfl) (fun f cdv A outer s H vs Q E hr h=>?_)
 ·obtain ⟨pm,m,as,i,rfl,hM,hO,k⟩:=h
  obtain ⟨dm,l,ps,g1,g2,g3,_⟩:=id hM
  refine ⟨_,(Ab (AS (Av SY (pv 1) (AD AQ rfl T.DD boot_len (Aa (Au (pv 0) rfl) Ac)) (AB _)) (Af (Ap (Bb (Aa (Ay T.JU) Ac)))) Ax) (Ab (Al (i:=2) Hn.nd rfl (Or.inl rfl) (Ar (Nc T) hr Ak (Aa (pv 0) (Aa (Be Bs (Au (pv 0) rfl) (pv 1) (fun _ _=>rfl)) Ac)))) (Af (Ap (Bb (Aa Ao (Aa (Be BE (pv 2) Ao (fun _ _=>rfl)) (Aa (Be BE (pv 2) Ao (fun _ _=>rfl)) Ac)))))))),?_⟩
  have hpl:((ps.map V.ref).length:Int)=(m.trains.length:Int):=by rw[List.length_map,g3.1]
  refine ⟨_,rfl,_,rfl,AA pm a.CM dm _ _ ⟨ rfl,g1,T.AR,T.AU,rfl,Aq l _ ⟨ rfl,.inl (SqL.of g2),Aq _ _ ⟨ rfl,rfl,_,rfl,?_⟩⟩⟩⟩
  rw[hpl]
  cases hx:m.trains[i]? with
  |none=>
   rw[hx] at k
   have:=List.getElem?_eq_none_iff.mp hx
   refine Og (fun _=>Ans.one k Mv.refl) (fun z=>absurd (by omega) z)
  |some x=>
   rw[hx] at k
   have hi:=(List.getElem?_eq_some_iff.mp hx).1
   obtain ⟨r,hr1,hT,hat⟩:=OY g3 hx
   refine Og (fun z=>absurd z (by omega)) (fun _=>?_)
   have hSt:=hO.sm.tr x (List.mem_of_getElem? hx)
   refine ⟨_,rfl,_,rfl,AA pm a.CM dm _ _ ⟨ rfl,g1,T.AR,T.AU,rfl,_,rfl,Aw l _ _ _ ⟨ rfl,rfl,SqL.of g2,hat,Pl pm m r x as as ⟨ rfl,hM,hT,hO.sm,hSt,fun q H1 M1 hq hq1=>?_⟩⟩⟩⟩
   refine ⟨_,rfl,Aw q _ _ _ ⟨ rfl,rfl,SqT.of hq1,AK (j:=0) rfl,_,rfl,Aw q _ _ _ ⟨ rfl,rfl,SqT.of hq1,AK (j:=1) rfl,(by show 3<=sizeLine;decide),fun p hp=>?_⟩⟩⟩
   exact k p _ (M1.trans (Mv.new hp)) (M1.none (by simp) hp) Ae (by show 3<=10010;decide)
theorem ah {m:Machine}{x:Train} (hm:MSm m) (hx:TSm x) (n:Int):lowest (x.num m n%(x.den m:Int)).toNat (x.den m)=lowest (Hd m x n) (x.down*m.teeth):=by
 obtain ⟨e1,e2⟩:=cp hm hx n
 have hl:0<x.last:=by have:=hx.last;omega
 have hpos:=(Xy hm hx).1
 have e3:(x.num m n%(x.den m:Int)).toNat=Hd m x n*x.last:=by
  have em:∀(A:Int) (D l:Nat),0<l->(A*(l:Int))%((D*l:Nat):Int)=(A%(D:Int))*(l:Int):=fun A D l h=>by
   rw[Int.natCast_mul,Int.mul_comm A,Int.mul_comm (D:Int),Int.mul_emod_mul_of_pos _ _ (by omega),Int.mul_comm]
  rw[e1,e2,em _ _ _ hl]
  unfold Hd
  have h0:=Int.emod_nonneg ((x.start*(x.down*m.teeth/x.last):Nat)+n*(x.up:Int)) (show ((x.down*m.teeth:Nat):Int)≠0 by omega)
  generalize ((x.start*(x.down*m.teeth/x.last):Nat)+n*(x.up:Int))%((x.down*m.teeth:Nat):Int)=z at h0
  obtain ⟨k,rfl⟩:=Int.eq_ofNat_of_zero_le h0
  rw[<-Int.natCast_mul,Int.toNat_natCast,Int.toNat_natCast]
 unfold lowest
 rw[e3,e2,Nat.gcd_mul_right,Nat.mul_div_mul_right _ _ hl,Nat.mul_div_mul_right _ _ hl]
theorem FA (n:Int):(decide ((-2147483648:Int)<=n)&&decide (n<=2147483647))=isStep n:=by
 unfold isStep
 congr 1
 exact decide_eq_decide.mpr (by constructor<;>intro h<;>omega)
noncomputable def iz (a:Ad):Sp:=fun vs H Q _=>∃pm m as,∃i:Nat,∃n:Int,vs=[.ref pm,.int i,.int n]/\BB a as H pm m/\MOk m/\Ans H Q (match m.trains[i]? with|none=>says (-4)|some t=>if isStep n=false then says (-1) else tells 0 (lowest (t.num m n%(t.den m:Int)).toNat (t.den m)++[Tide.Item.num (t.angle m n:Nat)])).nums
theorem UM (T:Txt K mg a):Cal P w K mg base a 3 "answer_at" Nm (iz a):=by
 refine AF (k:=2) T.VN GB (fun _ _ _ _ _ _=>JS fun _ _ _=>rfl) (fun _ _ _ _=>Oh fun _ _ _ _ _=>rfl) (fun f cdv A outer s H vs Q E hr h=>?_)
 ·obtain ⟨pm,m,as,i,n,rfl,hM,hO,k⟩:=h
  obtain ⟨dm,l,ps,g1,g2,g3,_⟩:=id hM
  refine ⟨_,(Ab (AS (Av SY (pv 1) (AD AQ rfl T.DD boot_len (Aa (Au (pv 0) rfl) Ac)) (AB _)) (Af (Ap (Bb (Aa (Ay T.JU) Ac)))) Ax) (Ab (AS (CY (Bt (Ar (BF T) hr Ak (Aa (pv 2) (Aa (Ay T.OH) (Aa (Ay T.EK) Ac)))))) (Af (Ap (Bb (Aa (Ay T.BR) Ac)))) Ax) (Ab (Al (i:=3) GB.nd rfl (Or.inl rfl) (Ar (Jm T) hr Ak (Aa (pv 0) (Aa (Be Bs (Au (pv 0) rfl) (pv 1) (fun _ _=>rfl)) (Aa (pv 2) Ac))))) (Ab (Al (i:=4) GB.nd rfl (Or.inl rfl) (Ar (GV T) hr Ak (Aa (Be BE (pv 3) Ao (fun _ _=>rfl)) (Aa (Be BE (pv 3) Ao (fun _ _=>rfl)) Ac)))) (Af (Ap (Bb (Aa Ao (Aa (Be BE (pv 4) Ao (fun _ _=>rfl)) (Aa (Be BE (pv 4) Ao (fun _ _=>rfl)) (Aa (Ar (Nb T) hr Ak (Aa (pv 3) Ac)) Ac))))))))))),?_⟩
  have hpl:((ps.map V.ref).length:Int)=(m.trains.length:Int):=by rw[List.length_map,g3.1]
  refine ⟨_,rfl,_,rfl,AA pm a.CM dm _ _ ⟨ rfl,g1,T.AR,T.AU,rfl,Aq l _ ⟨ rfl,.inl (SqL.of g2),Aq _ _ ⟨ rfl,rfl,_,rfl,?_⟩⟩⟩⟩
  rw[hpl]
  cases hx:m.trains[i]? with
  |none=>
   rw[hx] at k
   have:=List.getElem?_eq_none_iff.mp hx
   refine Og (fun _=>Ans.one k Mv.refl) (fun z=>absurd (by omega) z)
  |some x=>
   rw[hx] at k
   have hi:=(List.getElem?_eq_some_iff.mp hx).1
   obtain ⟨r,hr1,hT,hat⟩:=OY g3 hx
   refine Og (fun z=>absurd z (by omega)) (fun _=>?_)
   have hSt:=hO.sm.tr x (List.mem_of_getElem? hx)
   refine ⟨_,rfl,n,-2147483648,2147483647,rfl,_,rfl,?_⟩
   rw[FA]
   dsimp only at k
   cases hs:isStep n with
   |false=>
    rw[hs,if_pos rfl] at k
    exact Bx (Ans.one k Mv.refl)
   |true=>
    rw[hs,if_neg (by decide),ah hO.sm hSt] at k
    have hn:n.natAbs<2^40:=by
     unfold isStep at hs
     rw[Bool.and_eq_true] at hs
     have h1:=of_decide_eq_true hs.1
     have h2:=of_decide_eq_true hs.2
     omega
    have hd:=Xy hO.sm hSt
    refine Bw ⟨_,rfl,_,rfl,AA pm a.CM dm _ _ ⟨ rfl,g1,T.AR,T.AU,rfl,_,rfl,Aw l _ _ _ ⟨ rfl,rfl,SqL.of g2,hat,_,rfl,bQ pm m r x as as n ⟨ rfl,hM,hT,hO.sm,hSt,hn,fun q H1 M1 hq hq1=>?_⟩⟩⟩⟩
    refine ⟨_,rfl,Aw q _ _ _ ⟨ rfl,rfl,SqT.of hq1,AK (j:=0) rfl,_,rfl,Aw q _ _ _ ⟨ rfl,rfl,SqT.of hq1,AK (j:=1) rfl,Hd m x n,x.down*m.teeth,rfl,hd.1,Nat.lt_trans hd.2 (by decide),fun q2 H2 M2 hq2 hq3=>?_⟩⟩⟩
    refine ⟨_,rfl,Aw q2 _ _ _ ⟨ rfl,rfl,SqT.of hq3,AK (j:=0) rfl,_,rfl,Aw q2 _ _ _ ⟨ rfl,rfl,SqT.of hq3,AK (j:=1) rfl,_,rfl,q,Hd m x n,x.down*m.teeth,rfl,M2 _ _ hq1 (by simp),Nat.lt_trans (WK hO.sm hSt n) (Nat.lt_trans hd.2 (by decide)),hd.1,Nat.lt_trans hd.2 (by decide),(by show 4<=sizeLine;decide),fun p hp=>?_⟩⟩⟩
    rw[Vu hO.sm hSt]
    exact k p _ ((M1.trans M2).trans (Mv.new hp)) ((M1.trans M2).none (by simp) hp) Ae (by show 4<=10010;decide)
noncomputable def fq (a:Ad):Sp:=fun vs H Q _=>∃pm m as,∃n:Int,∃j:Nat,vs=[.ref pm,.int n,.int j]/\BB a as H pm m/\MOk m/\Ans H Q (if isStep n=false\/TideMachines.ROW<j then says (-1) else tells 0 [.ints ((List.range j).map fun (k:Nat)=>Tide.pen m (n+k))]).nums
theorem Sd (T:Txt K mg a):Cal P w K mg base a 8 "answer_pen" Ll (fq a):=by
 refine AF (k:=7) T.Ub Sm (fun _ _ _ _ _ _=>JS fun _ _ _=>rfl) (fun _ _ _ _=>Oh fun _ _ _ _ _=>rfl) (fun f cdv A outer s H vs Q E hr h=>?_)
 ·obtain ⟨pm,m,as,n,j,rfl,hM,hO,k⟩:=h
  refine ⟨_,(Ab (AS (PW.pt (Hh (CY (Bt (Ar (BF T) hr Ak (Aa (pv 1) (Aa (Ay T.OH) (Aa (Ay T.EK) Ac)))))) (EX (Av Ta (pv 2) (Ay T.VA) (AB _))))) (Af (Ap (Bb (Aa (Ay T.BR) Ac)))) Ax) (Af (Ap (Az Kf (Bb (Aa Ao (Aa (pv 2) Ac))) (Ar (Lh T) hr Ak (Aa (pv 0) (Aa (pv 1) (Aa (pv 2) Ac)))))))),?_⟩
  refine ⟨_,rfl,n,-2147483648,2147483647,rfl,_,rfl,?_⟩
  rw[FA]
  cases hs:isStep n with
  |false=>
   rw[if_pos (.inl hs)] at k
   exact Bx (Bx (Ans.one k Mv.refl))
  |true=>
   refine Bw ⟨_,rfl,Aq _ _ ⟨ rfl,rfl,_,rfl,Og (fun q=>?_) (fun q=>?_)⟩⟩
   ·have q':(256:Int)<(j:Int):=q
    rw[if_pos (.inr (show 256<j by omega))] at k
    exact Ans.one k Mv.refl
   ·have q':¬(256:Int)<(j:Int):=q
    have hj:j<=256:=by omega
    rw[if_neg (fun z=>z.elim (fun z=>by rw[hs] at z;cases z) (fun z=>Nat.not_lt.mpr hj z))] at k
    have hn:n.natAbs<2^39:=by
     unfold isStep at hs
     rw[Bool.and_eq_true] at hs
     have h1:=of_decide_eq_true hs.1
     have h2:=of_decide_eq_true hs.2
     omega
    refine ⟨_,rfl,(by show 2<=sizeLine;decide),fun p2 hp2=>?_⟩
    have M2:Mv [] H _:=Mv.new (o:=HO.lst [V.int 0,V.int (j:Int)]) hp2
    refine ⟨_,rfl,_,rfl,_,rfl,AA pm m as n j ⟨ rfl,hM.mv M2,hO.sm,hn,hj,fun q3 H3 M3 hq3 hq4=>?_⟩⟩
    refine (Aw p2 q3 _ _ ⟨ rfl,rfl,M3 _ _ Ae (by simp),hq4,?_,fun p5 hp5=>?_⟩)
    ·rw[List.length_map,List.length_map,List.length_range]
     exact Nat.le_trans (show 2+j<=258 by omega) (by decide)
    ·refine k p5 _ ((M2.trans M3).trans (Mv.new hp5)) ((M2.trans M3).none (by simp) hp5) ?_ ?_
     ·rw[Ae]
      unfold Tide.Answer.nums tells
      rw[List.flatMap_cons,List.flatMap_nil,List.append_nil]
      show _=some (HO.lst (V.int 0::V.int ((List.length _:Nat):Int)::List.map V.int _))
      rw[List.length_map,List.length_range]
      rfl
     ·unfold Tide.Answer.nums tells
      rw[List.flatMap_cons,List.flatMap_nil,List.append_nil]
      show (List.length (_::_))+1<=10010
      rw[List.length_cons,List.length_map,List.length_range]
      omega
end
end Td
namespace Td
open PySem PySem.Spec PyProof.Rows L2
open Tide (Bytes Train Machine Line Answer says tells speed waveFor firstOff)
open TideMachines (isStep partOk lowest allWaves soonest)
theorem II (ys:List Line) (t:Train):CA ys ys t.name=(waveFor ys t).map (speed ys):=by
 unfold CA waveFor Tide.waves
 rw[List.find?_filter]
 congr 2
 funext y
 cases (!y.isAngle)<;>cases (y.name==t.name)<;>rfl
theorem NC (p:Nat):(decide ((1:Int)<=(p:Int))&&decide ((p:Int)<=1000000))=partOk p:=by
 unfold partOk
 congr 1
 ·exact decide_eq_decide.mpr (by omega)
 ·exact decide_eq_decide.mpr (by show _<->p<=1000000;omega)
theorem Zj {p:Nat} (h:partOk p=true):1<=p/\p<=1000000:=by
 unfold partOk at h
 rw[Bool.and_eq_true] at h
 exact ⟨of_decide_eq_true h.1,of_decide_eq_true h.2⟩
theorem Xk {ys:List Line}{t:Train}{w:Line} (h:waveFor ys t=some w):w∈ys/\w.isAngle=false:=by
 unfold waveFor Tide.waves at h
 have:=List.mem_filter.mp (List.mem_of_find?_eq_some h)
 exact ⟨this.1,by simpa using this.2⟩
theorem all_some {ys:List Line}:∀{l:List Train},(∀t∈l,(waveFor ys t).isSome=true)->∃ws,l.mapM (fun t=>(waveFor ys t).map fun w=>(t,w))=some ws/\∀(m:Machine) (part:Nat),ws.map (fun (y:Train×Line)=>firstOff y.1 m (speed ys y.2) part)=l.map fun x=>firstOff x m ((CA ys ys x.name).getD 0) part
 |[],_=>⟨[],rfl,fun _ _=>rfl⟩
 |t::r,h=>by
  refine hid fun X_ k_=>?_
  obtain ⟨ws,e,f⟩:=all_some (l:=r) fun z hz=>h z (List.mem_cons_of_mem _ hz)
  refine k_ ?_;clear k_
  cases hw:waveFor ys t with
  |none=>have:=h t (List.mem_cons_self ..);rw[hw] at this;cases this
  |some w=>
   refine ⟨(t,w)::ws,?_,fun m part=>?_⟩
   ·rw[List.mapM_cons,e,hw]
    rfl
   ·rw[List.map_cons,List.map_cons,f,II,hw]
    rfl
theorem all_none {ys:List Line}:∀{l:List Train},(∃t∈l,(waveFor ys t).isSome=false)->l.mapM (fun t=>(waveFor ys t).map fun w=>(t,w))=none
 |[],h=>by obtain ⟨t,ht,_⟩:=h;cases ht
 |t::r,h=>by
  rw[List.mapM_cons]
  cases hw:waveFor ys t with
  |none=>rfl
  |some w=>
   have:=all_none (ys:=ys) (l:=r) (by
    refine hid fun X_ k_=>?_
    obtain ⟨z,hz,h2⟩:=h
    refine k_ ?_;clear k_
    rcases List.mem_cons.mp hz with rfl|hz
    ·rw[hw] at h2;cases h2
    ·exact ⟨z,hz,h2⟩)
   rw[this]
   rfl
section
variable {P:Program}{w:World}{K:PySem.W.Frag}{mg:Str->Option Value}{base:Heap}{a:Ad}
noncomputable def aE (a:Ad):Sp:=fun vs H Q _=>∃pm m as d kvs ys,∃i part:Nat,vs=[.ref pm,.ref d,.int i,.int part]/\BB a as H pm m/\MOk m/\Kp ys/\H d=some (.dT kvs)/\(∀n,Cj kvs (nk n)=(CA ys ys n).map V.int) /\
 Ans H Q (match m.trains[i]? with
  |none=>says (-4)
  |some t=>match waveFor ys t with
   |none=>says (-9)
   |some w=>if partOk part=false then says (-1) else match firstOff t m (speed ys w) part with
    |none=>says 0
    |some n=>tells 1 [.num (n:Nat)]).nums
theorem Ov (T:Txt K mg a):Cal P w K mg base a 5 "answer_right" HV (aE a):=by
 refine AF (k:=4) T.Pp Eo (fun _ _ _ _ _ _=>Xt fun _ _ _ _=>rfl) (fun _ _ _ _=>gX fun _ _ _ _ _ _ _ _=>rfl) (fun f cdv A outer s H vs Q E hr h=>?_)
 ·refine hid fun X_ k_=>?_
  obtain ⟨pm,m,as,d,kvs,ys,i,part,rfl,hM,hO,hY,hd,hv,k⟩:=h
  refine k_ ?_;clear k_
  refine hid fun X_ k_=>?_
  obtain ⟨dm,l,ps,g1,g2,g3,_⟩:=id hM
  refine k_ ?_;clear k_
  refine ⟨_,(Ab (AS (Av SY (pv 2) (AD AQ rfl T.DD boot_len (Aa (Au (pv 0) rfl) Ac)) (AB _)) (Af (Ap (Bb (Aa (Ay T.JU) Ac)))) Ax) (Ab (Al (i:=4) Eo.nd rfl (Or.inl rfl) (Be Bs (Au (pv 0) rfl) (pv 2) (fun _ _=>rfl))) (Ab (AS (Yu (ay (GR hr) (Au (pv 4) rfl) (pv 1))) (Af (Ap (Bb (Aa (Ay T.SD) Ac)))) Ax) (Ab (AS (CY (Bt (Ar (BF T) hr Ak (Aa (pv 3) (Aa Ao (Aa (Ay T.MU) Ac)))))) (Af (Ap (Bb (Aa (Ay T.BR) Ac)))) Ax) (Ab (Al (i:=5) Eo.nd rfl (Or.inl rfl) (Ar (EU T) hr Ak (Aa (pv 0) (Aa (pv 4) (Aa (pv 1) (Aa (pv 3) Ac)))))) (Af (Ap (Ig (Av Qx (pv 5) FK (AB _)) (Bb (Aa Ao Ac)) (Bb (Aa Ao (Aa (pv 5) Ac))))))))))),?_⟩
  have hpl:((ps.map V.ref).length:Int)=(m.trains.length:Int):=by rw[List.length_map,g3.1]
  refine ⟨_,rfl,_,rfl,AA pm a.CM dm _ _ ⟨ rfl,g1,T.AR,T.AU,rfl,Aq l _ ⟨ rfl,.inl (SqL.of g2),Aq _ _ ⟨ rfl,rfl,_,rfl,?_⟩⟩⟩⟩
  rw[hpl]
  cases hx:m.trains[i]? with
  |none=>
   rw[hx] at k
   have:=List.getElem?_eq_none_iff.mp hx
   refine Og (fun _=>Ans.one k Mv.refl) (fun z=>absurd (by omega) z)
  |some x=>
   rw[hx] at k
   dsimp only at k
   have hi:=(List.getElem?_eq_some_iff.mp hx).1
   refine hid fun X_ k_=>?_
   obtain ⟨r,hr1,hT,hat⟩:=OY g3 hx
   refine k_ ?_;clear k_
   refine hid fun X_ k_=>?_
   obtain ⟨dt,pn,pp,qs,t1,t2,t3,t4,_⟩:=id hT
   refine k_ ?_;clear k_
   rw[MR] at t2
   have hSt:=hO.sm.tr x (List.mem_of_getElem? hx)
   refine Og (fun z=>absurd z (by omega)) (fun _=>?_)
   refine ⟨_,rfl,AA pm a.CM dm _ _ ⟨ rfl,g1,T.AR,T.AU,rfl,_,rfl,Aw l _ _ _ ⟨ rfl,rfl,SqL.of g2,hat,?_⟩⟩⟩
   refine ⟨_,rfl,AA r a.CT dt _ _ ⟨ rfl,t1,T.Bc,T.Cp,rfl,_,rfl,Aq d _ ⟨ rfl,Hs.t hd t2,_,rfl,?_⟩⟩⟩
   rw[hv,II]
   cases hw:waveFor ys x with
   |none=>
    rw[hw] at k
    exact Bx (Ans.one k Mv.refl)
   |some wv=>
    rw[hw] at k
    dsimp only at k
    refine Bw ⟨_,rfl,(part:Int),1,1000000,rfl,_,rfl,?_⟩
    rw[NC]
    cases hp:partOk part with
    |false=>
     rw[hp,if_pos rfl] at k
     exact Bx (Ans.one k Mv.refl)
    |true=>
     rw[hp,if_neg (by decide)] at k
     have hp':=Zj hp
     have hwm:=Xk hw
     have hvx:Cj kvs (nk x.name)=some (.int (speed ys wv)):=by rw[hv,II,hw];rfl
     refine Bw ⟨_,rfl,_,rfl,_,rfl,_,rfl,bQ pm m r x as as d ⟨ kvs,part,speed ys wv,rfl,hM,hT,hO.sm,hSt,hd,hvx,NW hY hwm.1 hwm.2,hp'.1,hp'.2,fun H1 M1=>?_⟩⟩
     cases ho:firstOff x m (speed ys wv) part with
     |none=>
      rw[ho] at k
      exact ⟨_,rfl,rfl,_,rfl,Bn (fun _=>Ans.one k M1) (fun z=>absurd rfl z)⟩
     |some n=>
      rw[ho] at k
      refine ⟨_,rfl,rfl,_,rfl,Bn (fun z=>absurd (of_decide_eq_true z) (by intro z2;cases z2)) (fun _=>⟨_,rfl,(by show 2<=sizeLine;decide),fun q hq=>k q _ (M1.trans (Mv.new hq)) (M1.none (by simp) hq) Ae (by show 2<=10010;decide)⟩)⟩
noncomputable def aC (a:Ad):Sp:=fun vs H Q _=>∃pm m as d kvs ys,∃part:Nat,vs=[.ref pm,.ref d,.int part]/\BB a as H pm m/\MOk m/\Kp ys/\H d=some (.dT kvs)/\(∀n,Cj kvs (nk n)=(CA ys ys n).map V.int) /\
 Ans H Q (match allWaves m ys with
  |none=>says (-9)
  |some ws=>if partOk part=false then says (-1) else match soonest (ws.map fun (y:Train×Line)=>firstOff y.1 m (speed ys y.2) part) with
   |none=>says 0
   |some (i,n)=>tells 1 [.num (i:Nat),.num (n:Nat)]).nums
theorem Ot (T:Txt K mg a):Cal P w K mg base a 6 "answer_first" HS (aC a):=by
 refine AF (k:=5) T.Pn Hl (fun _ _ _ _ _ _=>JS fun _ _ _=>rfl) (fun _ _ _ _=>Wh fun _ _ _ _ _ _ _=>rfl) (fun f cdv A outer s H vs Q E hr h=>?_)
 ·refine hid fun X_ k_=>?_
  obtain ⟨pm,m,as,d,kvs,ys,part,rfl,hM,hO,hY,hd,hv,k⟩:=h
  refine k_ ?_;clear k_
  refine ⟨_,(Ab (AS (CY (Bt (Ar (Ld T) hr Ak (Aa (pv 0) (Aa (pv 1) Ac))))) (Af (Ap (Bb (Aa (Ay T.SD) Ac)))) Ax) (Ab (AS (CY (Bt (Ar (BF T) hr Ak (Aa (pv 2) (Aa Ao (Aa (Ay T.MU) Ac)))))) (Af (Ap (Bb (Aa (Ay T.BR) Ac)))) Ax) (Ab (Al (i:=3) Hl.nd rfl (Or.inl rfl) (Ar (UO T) hr Ak (Aa (pv 0) (Aa (pv 1) (Aa (pv 2) Ac))))) (Af (Ap (Ig (Av Qx (pv 3) FK (AB _)) (Bb (Aa Ao Ac)) (Bb (Aa Ao (Aa (Be BE (pv 3) Ao (fun _ _=>rfl)) (Aa (Be BE (pv 3) Ao (fun _ _=>rfl)) Ac)))))))))),?_⟩
  refine ⟨_,rfl,_,rfl,Aw pm m as d ⟨ kvs,rfl,hM,hO.len,hd,fun H1 M1=>⟨_,rfl,?_⟩⟩⟩
  have eall:(m.trains.all fun x=>(Cj kvs (nk x.name)).isSome)=m.trains.all fun x=>(waveFor ys x).isSome:=by
   congr 1
   funext x
   rw[hv,II]
   cases waveFor ys x<;>rfl
  rw[eall]
  cases ha:m.trains.all fun x=>(waveFor ys x).isSome with
  |false=>
   have hn:allWaves m ys=none:=all_none (by
    refine hid fun X_ k_=>?_
    obtain ⟨t,ht,h2⟩:=List.all_eq_false.mp ha
    refine k_ ?_;clear k_
    exact ⟨t,ht,by simpa using h2⟩)
   rw[hn] at k
   exact Bx (Ans.one k M1)
  |true=>
   refine hid fun X_ k_=>?_
   obtain ⟨ws,e1,e2⟩:=all_some (ys:=ys) (l:=m.trains) fun t ht=>List.all_eq_true.mp ha t ht
   refine k_ ?_;clear k_
   have hn:allWaves m ys=some ws:=e1
   rw[hn] at k
   dsimp only at k
   refine Bw ⟨_,rfl,(part:Int),1,1000000,rfl,_,rfl,?_⟩
   rw[NC]
   cases hp:partOk part with
   |false=>
    rw[hp,if_pos rfl] at k
    exact Bx (Ans.one k M1)
   |true=>
    rw[hp,if_neg (by decide),e2] at k
    have hp':=Zj hp
    refine Bw ⟨_,rfl,_,rfl,_,rfl,Aw pm m as d ⟨ kvs,part,fun n=>(CA ys ys n).getD 0,rfl,hM.mv M1,hO.sm,M1 _ _ hd (by simp),fun x hx=>?_,hp'.1,hp'.2,fun v H2 M2 hf=>?_⟩⟩
    ·have hs:=List.all_eq_true.mp ha x hx
     cases hw:waveFor ys x with
     |none=>rw[hw] at hs;cases hs
     |some wv=>
      have hwm:=Xk hw
      show Cj kvs (nk x.name)=some (.int ((CA ys ys x.name).getD 0))/\((CA ys ys x.name).getD 0).natAbs<2^80
      rw[hv,II,hw]
      exact ⟨rfl,NW hY hwm.1 hwm.2⟩
    ·have M3:=M1.trans M2
     replace hf:Fj H2 v (soonest (m.trains.map fun x=>firstOff x m ((CA ys ys x.name).getD 0) part)):=hf
     cases hs:soonest (m.trains.map fun x=>firstOff x m ((CA ys ys x.name).getD 0) part) with
     |none=>
      rw[hs] at k hf
      cases hf
      exact ⟨_,rfl,rfl,_,rfl,Bn (fun _=>Ans.one k M3) (fun z=>absurd rfl z)⟩
     |some jn=>
      obtain ⟨j,n⟩:=jn
      rw[hs] at k hf
      obtain ⟨q,rfl,hq⟩:=hf
      refine ⟨_,rfl,rfl,_,rfl,Bn (fun z=>absurd (of_decide_eq_true z) (by intro z2;cases z2)) (fun _=>⟨_,rfl,Aw q _ _ _ ⟨ rfl,rfl,SqT.of hq,AK (j:=0) rfl,_,rfl,Aw q _ _ _ ⟨ rfl,rfl,SqT.of hq,AK (j:=1) rfl,(by show 3<=sizeLine;decide),fun q2 hq2=>k q2 _ (M3.trans (Mv.new hq2)) (M3.none (by simp) hq2) Ae (by show 3<=10010;decide)⟩⟩⟩)⟩
noncomputable def cR (a:Ad):Sp:=fun vs H Q _=>∃pm m as pg,∃n low:Int,∃wide high scale:Nat,vs=[.ref pm,.ref pg]/\BB a as H pm m/\MOk m/\H pg=some (.lst [.int n,.int wide,.int high,.int low,.int scale]) /\
 Ans H Q (if isStep n=false\/isStep low=false\/wide=0\/TideMachines.SIDE<wide\/high=0\/TideMachines.SIDE<high\/scale=0\/2^31<=scale then says (-1) else tells 0 [.text (Tide.drawn m n wide high low scale)]).nums
theorem Kd (p b:Nat):(decide ((1:Int)<=(p:Int))&&decide ((p:Int)<=(b:Int)))=(decide (1<=p)&&decide (p<=b)):=by
 congr 1
 ·exact decide_eq_decide.mpr (by omega)
 ·exact decide_eq_decide.mpr (by omega)
theorem Qp (T:Txt K mg a):Cal P w K mg base a 8 "answer_draw" Jp (cR a):=by
 refine AF (k:=7) T.RE BK (fun _ _ _ _ _ _=>Fh fun _ _=>rfl) (fun _ _ _ _=>jd fun _ _ _ _ _ _ _ _ _=>rfl) (fun f cdv A outer s H vs Q E hr h=>?_)
 ·refine hid fun X_ k_=>?_
  obtain ⟨pm,m,as,pg,n,low,wide,high,scale,rfl,hM,hO,hg,k⟩:=h
  refine k_ ?_;clear k_
  refine ⟨_,(Ab (Al (i:=2) BK.nd rfl (Or.inl rfl) (Be Bs (pv 1) Ao (fun _ _=>rfl))) (Ab (Al (i:=3) BK.nd rfl (Or.inl rfl) (Be Bs (pv 1) Ao (fun _ _=>rfl))) (Ab (Al (i:=4) BK.nd rfl (Or.inl rfl) (Be Bs (pv 1) Ao (fun _ _=>rfl))) (Ab (Al (i:=5) BK.nd rfl (Or.inl rfl) (Be Bs (pv 1) Ao (fun _ _=>rfl))) (Ab (Al (i:=6) BK.nd rfl (Or.inl rfl) (Be Bs (pv 1) Ao (fun _ _=>rfl))) (Ab (AS (PW.pt (Hh (CY (Bt (Ar (BF T) hr Ak (Aa (pv 2) (Aa (Ay T.OH) (Aa (Ay T.EK) Ac)))))) (EX (CY (Bt (Ar (BF T) hr Ak (Aa (pv 5) (Aa (Ay T.OH) (Aa (Ay T.EK) Ac))))))))) (Af (Ap (Bb (Aa (Ay T.BR) Ac)))) Ax) (Ab (AS (PW.pt (Hh (CY (Bt (Ar (BF T) hr Ak (Aa (pv 3) (Aa Ao (Aa (Ay T.MT) Ac)))))) (Hh (CY (Bt (Ar (BF T) hr Ak (Aa (pv 4) (Aa Ao (Aa (Ay T.MT) Ac)))))) (EX (CY (Bt (Ar (BF T) hr Ak (Aa (pv 6) (Aa Ao (Aa (Ay T.EK) Ac)))))))))) (Af (Ap (Bb (Aa (Ay T.BR) Ac)))) Ax) (Ab (Al (i:=7) BK.nd rfl (Or.inl rfl) (Ar (WH T) hr Ak (Aa (Ar (Lh T) hr Ak (Aa (pv 0) (Aa (pv 2) (Aa (pv 3) Ac)))) (Aa (pv 4) (Aa (pv 5) (Aa (pv 6) Ac)))))) (Af (Ap (Az Kf (Bb (Aa Ao (Aa (AD AQ rfl T.DD boot_len (Aa (pv 7) Ac)) Ac))) (pv 7)))))))))))),?_⟩
  refine ⟨_,rfl,Aw pg _ _ _ ⟨ rfl,rfl,SqL.of hg,AK (j:=0) rfl,?_⟩⟩
  refine ⟨_,rfl,Aw pg _ _ _ ⟨ rfl,rfl,SqL.of hg,AK (j:=1) rfl,?_⟩⟩
  refine ⟨_,rfl,Aw pg _ _ _ ⟨ rfl,rfl,SqL.of hg,AK (j:=2) rfl,?_⟩⟩
  refine ⟨_,rfl,Aw pg _ _ _ ⟨ rfl,rfl,SqL.of hg,AK (j:=3) rfl,?_⟩⟩
  refine ⟨_,rfl,Aw pg _ _ _ ⟨ rfl,rfl,SqL.of hg,AK (j:=4) rfl,?_⟩⟩
  refine ⟨_,rfl,n,-2147483648,2147483647,rfl,_,rfl,?_⟩
  rw[FA]
  have e31:(2:Nat)^31=2147483648:=by decide
  have e64:TideMachines.SIDE=64:=rfl
  rw[e31,e64] at k
  cases h1:isStep n with
  |false=>
   rw[if_pos (.inl h1)] at k
   exact Bx (Bx (Ans.one k Mv.refl))
  |true=>
   refine Bw ⟨_,rfl,low,-2147483648,2147483647,rfl,_,rfl,?_⟩
   rw[FA]
   cases h2:isStep low with
   |false=>
    rw[if_pos (.inr (.inl h2))] at k
    exact Bx (Ans.one k Mv.refl)
   |true=>
    refine Bw ⟨_,rfl,(wide:Int),1,((64:Nat):Int),rfl,_,rfl,?_⟩
    rw[Kd]
    cases h3:(decide (1<=wide)&&decide (wide<=64)) with
    |false=>
     have h3':¬(1<=wide/\wide<=64):=fun z=>by rw[decide_eq_true z.1,decide_eq_true z.2] at h3;cases h3
     rw[if_pos (by omega)] at k
     exact Bx (Bx (Ans.one k Mv.refl))
    |true=>
     rw[Bool.and_eq_true] at h3
     have a1:=of_decide_eq_true h3.1
     have a2:=of_decide_eq_true h3.2
     refine Bw ⟨_,rfl,(high:Int),1,((64:Nat):Int),rfl,_,rfl,?_⟩
     rw[Kd]
     cases h4:(decide (1<=high)&&decide (high<=64)) with
     |false=>
      have h4':¬(1<=high/\high<=64):=fun z=>by rw[decide_eq_true z.1,decide_eq_true z.2] at h4;cases h4
      rw[if_pos (by omega)] at k
      exact Bx (Bx (Ans.one k Mv.refl))
     |true=>
      rw[Bool.and_eq_true] at h4
      have a3:=of_decide_eq_true h4.1
      have a4:=of_decide_eq_true h4.2
      refine Bw ⟨_,rfl,(scale:Int),1,((2147483647:Nat):Int),rfl,_,rfl,?_⟩
      rw[Kd]
      cases h5:(decide (1<=scale)&&decide (scale<=2147483647)) with
      |false=>
       have h5':¬(1<=scale/\scale<=2147483647):=fun z=>by rw[decide_eq_true z.1,decide_eq_true z.2] at h5;cases h5
       rw[if_pos (by omega)] at k
       exact Bx (Ans.one k Mv.refl)
      |true=>
       rw[Bool.and_eq_true] at h5
       have a5:=of_decide_eq_true h5.1
       have a6:=of_decide_eq_true h5.2
       rw[if_neg (by rw[h1,h2];simp;omega)] at k
       have hn:n.natAbs<2^39:=by
        unfold isStep at h1
        rw[Bool.and_eq_true] at h1
        have z1:=of_decide_eq_true h1.1
        have z2:=of_decide_eq_true h1.2
        omega
       refine Bw ⟨_,rfl,_,rfl,_,rfl,AA pm m as n wide ⟨ rfl,hM,hO.sm,hn,by omega,fun q H1 M1 hq hq1=>?_⟩⟩
       refine ⟨_,rfl,_,rfl,_,rfl,q,m,n,low,wide,high,scale,rfl,hq1,a1,a2,a3,a4,a5,Nat.lt_of_le_of_lt a6 (by decide),fun q2 H2 M2 hq2 hq3=>?_⟩
       have hdl:(Tide.drawn m n wide high low scale).length<=512:=by
        have e:=congrArg List.length (VL m n wide high low scale a1)
        rw[List.length_map] at e
        rw[e]
        unfold Cw
        rw[List.length_map,List.length_range]
        exact Nat.le_trans (Nat.mul_le_mul (show (wide+7)/8<=8 by omega) a4) (by decide)
       generalize Tide.drawn m n wide high low scale=B at k hq3 hdl
       refine ⟨_,rfl,Aq q2 _ ⟨ rfl,.inl (SqL.of hq3),(by show 2<=sizeLine;decide),fun p2 hp2=>?_⟩⟩
       refine ⟨_,rfl,Aw p2 q2 _ _ ⟨ rfl,rfl,Ae,(by rw[Ai (An hq3 hp2)];exact hq3),?_,fun p3 hp3=>?_⟩⟩
       ·rw[FF]
        exact Nat.le_trans (show 2+_<=10002 by omega) (by decide)
       ·refine k p3 _ ((M1.trans M2).trans ((Mv.new (S:=[]) hp2).trans (Mv.new hp3))) ((M1.trans M2).none (by simp) ((Mv.new (S:=[]) hp2).none (by simp) hp3)) ?_ ?_
        ·rw[Ae,FF]
         unfold Tide.Answer.nums tells
         rw[List.flatMap_cons,List.flatMap_nil,List.append_nil]
         show _=some (HO.lst (V.int 0::V.int _::(B.map _).map V.int))
         rw[List.map_map]
         rfl
        ·unfold Tide.Answer.nums tells
         rw[List.flatMap_cons,List.flatMap_nil,List.append_nil]
         show ((B.length:Int)::B.map _).length+1<=10010
         rw[List.length_cons,List.length_map]
         omega
end
end Td
namespace Td
open PySem PySem.Spec PyProof.Rows L2
open Tide (Bytes Train Machine Line Answer says tells speed waveFor firstOff printedCog)
open TideMachines (isStep partOk lowest allWaves soonest State)
inductive MC (m:Machine):Int->List Int->Answer->Prop
 |print:MC m 2 [] (tells 0 [.text (printedCog m)])
 |size:MC m 3 [] (tells 0 [.num m.trains.length,.num m.teeth,.num m.minutes])
 |speed (i:Nat):MC m 4 [(i:Int)] (match m.trains[i]? with|none=>says (-4)|some t=>tells 0 (lowest t.speedNum (t.speedDen m)))
 |at_ (i:Nat) (n:Int):MC m 5 [(i:Int),n] (match m.trains[i]? with|none=>says (-4)|some t=>if isStep n=false then says (-1) else tells 0 (lowest (t.num m n%(t.den m:Int)).toNat (t.den m)++[Tide.Item.num (t.angle m n:Nat)]))
 |pen (n:Int) (j:Nat):MC m 6 [n,(j:Int)] (if isStep n=false\/TideMachines.ROW<j then says (-1) else tells 0 [.ints ((List.range j).map fun (k:Nat)=>Tide.pen m (n+k))])
 |draw (n:Int) (wide high:Nat) (low:Int) (scale:Nat):MC m 9 [n,(wide:Int),(high:Int),low,(scale:Int)] (if isStep n=false\/isStep low=false\/wide=0\/TideMachines.SIDE<wide\/high=0\/TideMachines.SIDE<high\/scale=0\/2^31<=scale then says (-1) else tells 0 [.text (Tide.drawn m n wide high low scale)])
inductive SC (m:Machine) (ys:List Line):Int->List Int->Answer->Prop
 |right (i part:Nat):SC m ys 7 [(i:Int),(part:Int)] (match m.trains[i]? with
  |none=>says (-4)
  |some t=>match waveFor ys t with
   |none=>says (-9)
   |some w=>if partOk part=false then says (-1) else match firstOff t m (speed ys w) part with
    |none=>says 0
    |some n=>tells 1 [.num (n:Nat)])
 |first (part:Nat):SC m ys 8 [(part:Int)] (match allWaves m ys with
  |none=>says (-9)
  |some ws=>if partOk part=false then says (-1) else match soonest (ws.map fun (y:Train×Line)=>firstOff y.1 m (speed ys y.2) part) with
   |none=>says 0
   |some (i,n)=>tells 1 [.num (i:Nat),.num (n:Nat)])
section
variable {P:Program}{w:World}{K:PySem.W.Frag}{mg:Str->Option Value}{base:Heap}{a:Ad}
noncomputable def jv (a:Ad):Sp:=fun vs H Q _=>∃pm m as p pg gs X,vs=[.ref pm,.int p,.ref pg]/\BB a as H pm m/\MOk m/\H pg=some (.lst (gs.map V.int))/\MC m p gs X/\Ans H Q X.nums
theorem Gw (T:Txt K mg a):Cal P w K mg base a 9 "answer_with_machine" DG (jv a):=by
 refine AF (k:=8) T.Ht GC (fun _ _ _ _ _ _=>JS fun _ _ _=>rfl) (fun _ _ _ _=>Wh fun _ _ _ _ _ _ _=>rfl) (fun f cdv A outer s H vs Q E hr h=>?_)
 ·obtain ⟨pm,m,as,p,pg,gs,X,rfl,hM,hO,hg,hc,k⟩:=h
  refine ⟨_,(Ab (AS (Av BA (pv 1) (Ay T.dY) (AB _)) (Af (Ap (Ar (Ou T) hr Ak (Aa (pv 0) Ac)))) Ax) (Ab (AS (Av BA (pv 1) (Ay T.gr) (AB _)) (Af (Ap (Ar (Qq T) hr Ak (Aa (pv 0) Ac)))) Ax) (Ab (AS (Av BA (pv 1) (Ay T.dZ) (AB _)) (Af (Ap (Ar (Ow T) hr Ak (Aa (pv 0) (Aa (Be Bs (pv 2) Ao (fun _ _=>rfl)) Ac))))) Ax) (Ab (AS (Av BA (pv 1) (Ay T.jN) (AB _)) (Af (Ap (Ar (UM T) hr Ak (Aa (pv 0) (Aa (Be Bs (pv 2) Ao (fun _ _=>rfl)) (Aa (Be Bs (pv 2) Ao (fun _ _=>rfl)) Ac)))))) Ax) (Ab (AS (Av BA (pv 1) (Ay T.iT) (AB _)) (Af (Ap (Ar (Sd T) hr Ak (Aa (pv 0) (Aa (Be Bs (pv 2) Ao (fun _ _=>rfl)) (Aa (Be Bs (pv 2) Ao (fun _ _=>rfl)) Ac)))))) Ax) (Af (Ap (Ar (Qp T) hr Ak (Aa (pv 0) (Aa (pv 2) Ac)))))))))),?_⟩
  cases hc with
  |print=>exact ⟨_,rfl,rfl,_,rfl,Bi (fun _=>⟨_,rfl,AN pm m as ⟨ rfl,hM,hO,k⟩⟩) (fun z=>absurd rfl z)⟩
  |size=>
   refine ⟨_,rfl,rfl,_,rfl,Bi (fun z=>absurd z (by decide)) (fun _=>?_)⟩
   exact ⟨_,rfl,rfl,_,rfl,Bi (fun _=>⟨_,rfl,AN pm m as ⟨ rfl,hM,k⟩⟩) (fun z=>absurd rfl z)⟩
  |speed i=>
   refine ⟨_,rfl,rfl,_,rfl,Bi (fun z=>absurd z (by decide)) (fun _=>?_)⟩
   refine ⟨_,rfl,rfl,_,rfl,Bi (fun z=>absurd z (by decide)) (fun _=>?_)⟩
   exact ⟨_,rfl,rfl,_,rfl,Bi (fun _=>⟨_,rfl,_,rfl,Aw pg _ _ _ ⟨ rfl,rfl,SqL.of hg,AK (j:=0) rfl,Aw pm m as i ⟨ rfl,hM,hO,k⟩⟩⟩) (fun z=>absurd rfl z)⟩
  |at_ i n=>
   refine ⟨_,rfl,rfl,_,rfl,Bi (fun z=>absurd z (by decide)) (fun _=>?_)⟩
   refine ⟨_,rfl,rfl,_,rfl,Bi (fun z=>absurd z (by decide)) (fun _=>?_)⟩
   refine ⟨_,rfl,rfl,_,rfl,Bi (fun z=>absurd z (by decide)) (fun _=>?_)⟩
   exact ⟨_,rfl,rfl,_,rfl,Bi (fun _=>⟨_,rfl,_,rfl,Aw pg _ _ _ ⟨ rfl,rfl,SqL.of hg,AK (j:=0) rfl,_,rfl,Aw pg _ _ _ ⟨ rfl,rfl,SqL.of hg,AK (j:=1) rfl,AA pm m as i n ⟨ rfl,hM,hO,k⟩⟩⟩⟩) (fun z=>absurd rfl z)⟩
  |pen n j=>
   refine ⟨_,rfl,rfl,_,rfl,Bi (fun z=>absurd z (by decide)) (fun _=>?_)⟩
   refine ⟨_,rfl,rfl,_,rfl,Bi (fun z=>absurd z (by decide)) (fun _=>?_)⟩
   refine ⟨_,rfl,rfl,_,rfl,Bi (fun z=>absurd z (by decide)) (fun _=>?_)⟩
   refine ⟨_,rfl,rfl,_,rfl,Bi (fun z=>absurd z (by decide)) (fun _=>?_)⟩
   exact ⟨_,rfl,rfl,_,rfl,Bi (fun _=>⟨_,rfl,_,rfl,Aw pg _ _ _ ⟨ rfl,rfl,SqL.of hg,AK (j:=0) rfl,_,rfl,Aw pg _ _ _ ⟨ rfl,rfl,SqL.of hg,AK (j:=1) rfl,AA pm m as n j ⟨ rfl,hM,hO,k⟩⟩⟩⟩) (fun z=>absurd rfl z)⟩
  |draw n wide high low scale=>
   refine ⟨_,rfl,rfl,_,rfl,Bi (fun z=>absurd z (by decide)) (fun _=>?_)⟩
   refine ⟨_,rfl,rfl,_,rfl,Bi (fun z=>absurd z (by decide)) (fun _=>?_)⟩
   refine ⟨_,rfl,rfl,_,rfl,Bi (fun z=>absurd z (by decide)) (fun _=>?_)⟩
   refine ⟨_,rfl,rfl,_,rfl,Bi (fun z=>absurd z (by decide)) (fun _=>?_)⟩
   refine ⟨_,rfl,rfl,_,rfl,Bi (fun z=>absurd z (by decide)) (fun _=>?_)⟩
   exact ⟨_,rfl,_,rfl,bQ pm m as pg n low wide ⟨ high,scale,rfl,hM,hO,hg,k⟩⟩
noncomputable def MV (a:Ad) (as:List Addr) (H:Hp) (v:V):Option Machine->Prop
 |none=>v = .non
 |some m=>∃pm,v = .ref pm/\BB a as H pm m/\MOk m
noncomputable def SV (a:Ad) (as:List Addr) (H:Hp) (v:V):Option (List Line)->Prop
 |none=>v = .non
 |some l=>∃pl,v = .ref pl/\Sv a as H pl l/\Kp l
noncomputable def Ei (a:Ad) (as:List Addr) (H:Hp) (pd:Addr) (s:State):Prop:=∃dx vm vk,H pd=some (.ins a.CD dx [("machine",vm),("sky",vk)])/\MV a as H vm s.machine/\SV a as H vk s.sky/\pd∉as
theorem MV.mono {as as':List Addr}{H H':Hp}{v:V}{o:Option Machine} (h:MV a as H v o) (s:∀c∈as,c∈as') (k:∀c∈as,∀o,H c=some o->H' c=some o):MV a as' H' v o:=by
 cases o with
 |none=>exact h
 |some m=>obtain ⟨pm,h1,h2,h3⟩:=h;exact ⟨pm,h1,h2.mono s k,h3⟩
theorem SV.mono {as as':List Addr}{H H':Hp}{v:V}{o:Option (List Line)} (h:SV a as H v o) (s:∀c∈as,c∈as') (k:∀c∈as,∀o,H c=some o->H' c=some o):SV a as' H' v o:=by
 cases o with
 |none=>exact h
 |some m=>obtain ⟨pm,h1,h2,h3⟩:=h;exact ⟨pm,h1,h2.mono s k,h3⟩
theorem Ei.mono {as as':List Addr}{H H':Hp}{pd:Addr}{s:State} (h:Ei a as H pd s) (q:∀c∈as,c∈as') (n:pd∉as') (kd:∀o,H pd=some o->H' pd=some o) (k:∀c∈as,∀o,H c=some o->H' c=some o):Ei a as' H' pd s:=by
 obtain ⟨dx,vm,vk,h1,h2,h3,h4⟩:=h
 exact ⟨dx,vm,vk,kd _ h1,h2.mono q k,h3.mono q k,n⟩
theorem Ei.mv {as:List Addr}{H H':Hp}{pd:Addr}{s:State} (h:Ei a as H pd s) (M:Mv [] H H'):Ei a as H' pd s:=by
 have hn:pd∉as:=by obtain ⟨_,_,_,_,_,_,z⟩:=h;exact z
 exact h.mono (fun _ z=>z) hn (fun o z=>M _ _ z (by simp)) fun c _ o z=>M _ _ z (by simp)
noncomputable def gh (a:Ad):Sp:=fun vs H Q _=>∃pd s as m p pg gs X,vs=[.ref pd,.int p,.ref pg]/\Ei a as H pd s/\s.machine=some m/\H pg=some (.lst (gs.map V.int))/\(s.sky=none->X=says (-3))/\(∀ys,s.sky=some ys->SC m ys p gs X)/\Ans H Q X.nums
theorem Ke (T:Txt K mg a):Cal P w K mg base a 7 "answer_with_sky" Fu (gh a):=by
 refine AF (k:=6) T.KJ Fb (fun _ _ _ _ _ _=>JS fun _ _ _=>rfl) (fun _ _ _ _=>gX fun _ _ _ _ _ _ _ _=>rfl) (fun f cdv A outer s H vs Q E hr h=>?_)
 ·obtain ⟨pd,s,as,m,p,pg,gs,X,rfl,hD,hm,hg,hn,hy,k⟩:=h
  obtain ⟨dx,vm,vk,h1,h2,h3,h4⟩:=hD
  refine ⟨_,(Ab (AS (Av Qx (Au (pv 0) rfl) FK (AB _)) (Af (Ap (Bb (Aa (Ay T.GP) Ac)))) Ax) (Ab (Al (i:=3) Fb.nd rfl (Or.inl rfl) (Ar (Qw T) hr Ak (Aa (Au (pv 0) rfl) Ac))) (Ab (AS (Av BA (pv 1) (Ay T.YU) (AB _)) (Af (Ap (Ar (Ov T) hr Ak (Aa (Au (pv 0) rfl) (Aa (pv 3) (Aa (Be Bs (pv 2) Ao (fun _ _=>rfl)) (Aa (Be Bs (pv 2) Ao (fun _ _=>rfl)) Ac))))))) Ax) (Af (Ap (Ar (Ot T) hr Ak (Aa (Au (pv 0) rfl) (Aa (pv 3) (Aa (Be Bs (pv 2) Ao (fun _ _=>rfl)) Ac))))))))),?_⟩
  rw[hm] at h2
  obtain ⟨pm,rfl,hM,hO⟩:=h2
  refine ⟨_,rfl,AA pd a.CD dx _ _ ⟨ rfl,h1,T.Df,T.Gr,rfl,rfl,_,rfl,?_⟩⟩
  cases hs:s.sky with
  |none=>
   rw[hs] at h3
   cases h3
   have:=hn hs
   subst this
   exact Bn (fun _=>Ans.one k Mv.refl) (fun z=>absurd rfl z)
  |some ys=>
   rw[hs] at h3
   obtain ⟨pl,rfl,hSk,hOk⟩:=h3
   refine Bn (fun z=>absurd (of_decide_eq_true z) (by intro z2;cases z2)) (fun _=>?_)
   refine ⟨_,rfl,AA pd a.CD dx _ _ ⟨ rfl,h1,T.Df,T.Gr,rfl,AN pl ys as ⟨ rfl,hSk,hOk,fun q kvs H1 M1 hq hq1 hv=>?_⟩⟩⟩
   have d1:=M1 _ _ h1 (by simp)
   have g1:=M1 _ _ hg (by simp)
   have k1:Ans H1 Q X.nums:=fun q2 H2 M2 hq2 hq3 hl=>k q2 H2 (M1.trans M2) (M1.none (by simp) hq2) hq3 hl
   cases hy ys hs with
   |right i part=>
    exact ⟨_,rfl,rfl,_,rfl,Bi (fun _=>⟨_,rfl,AA pd a.CD dx _ _ ⟨ rfl,d1,T.Df,T.By,rfl,_,rfl,_,rfl,Aw pg _ _ _ ⟨ rfl,rfl,SqL.of g1,AK (j:=0) rfl,_,rfl,Aw pg _ _ _ ⟨ rfl,rfl,SqL.of g1,AK (j:=1) rfl,Aw pm m as q ⟨ kvs,AN ys i part ⟨ rfl,hM.mv M1,hO,hOk,hq1,hv,k1⟩⟩⟩⟩⟩⟩) (fun z=>absurd rfl z)⟩
   |first part=>
    refine ⟨_,rfl,rfl,_,rfl,Bi (fun z=>absurd z (by decide)) (fun _=>?_)⟩
    exact ⟨_,rfl,AA pd a.CD dx _ _ ⟨ rfl,d1,T.Df,T.By,rfl,_,rfl,_,rfl,Aw pg _ _ _ ⟨ rfl,rfl,SqL.of g1,AK (j:=0) rfl,Aw pm m as q ⟨ kvs,Aq ys part ⟨ rfl,hM.mv M1,hO,hOk,hq1,hv,k1⟩⟩⟩⟩⟩
end
end Td
namespace Td
open PySem PySem.Spec PyProof.Rows L2
open Tide (Bytes Train Machine Line Answer says tells fault judgeCog)
open TideMachines (State)
section
variable {P:Program}{w:World}{K:PySem.W.Frag}{mg:Str->Option Value}{base:Heap}{a:Ad}
theorem gH {CX:CXT}{k:Nat}{f:Addr}{name qual:Str}{params:Arguments}{body:List Stmt}{scope:Scope}{dV kV doc pm cdv ct oc:Value}{an od:Option Addr}
  {osl:Array (Option Value)}{N ps:List Str}{sp:Sp} (lk:K.lookup f=some ⟨oc,od,.func (PySem.W.fnOf name qual params body scope dV kV doc pm an cdv ct),osl⟩) (hcd:PySem.W.codeIn K cdv qual=true) (S:Am N ps scope)
  (len:∀vs H Q E,sp vs H Q E->vs.length=ps.length)
  (hbody:∀(A:Around) (outer:List Env) (s:Shared) (H:Hp) (vs:List V) (Q:VK) (E:XK) (s1:Shared),Cm k (A.deeper (envOfC qual scope s.heap.objs.size f cdv))->sp vs H Q E->Inv (EN CX P w K mg base N qual scope f cdv A outer s H E) [] (L2.start N vs) H s1 ->
   wpAny (model P w) (EN CX P w K mg base N qual scope f cdv A outer s H E).A (execs body (EN CX P w K mg base N qual scope f cdv A outer s H E).env) (SP (EN CX P w K mg base N qual scope f cdv A outer s H E) [] { nx:=fun _ H'=>Q .non H',rt:=Q }) (EN CX P w K mg base N qual scope f cdv A outer s H E).xe s1) :
  FD P w K mg base CX (k+1) f (PySem.W.fnOf name qual params body scope dV kV doc pm an cdv ct) ps sp:=by
 refine ⟨len,fun A outer s H args us vs Q E hr e0 hb r hsp=>?_⟩
 have hl:=len _ _ _ _ hsp
 have KX:K.In s.heap:=e0.mod.kin.keeps fun b o e=>(e0.bs b o e).1
 have lim:s.heap.NoLimit:=e0.mod.nolimit.keeps fun b o e=>(e0.bs b o e).1
 have hkind:∀y∈ps.zip us,scope.names.lookup y.1=some .local\/(scope.names.lookup y.1=some .cell/\((cellsFrom (s.heap.objs.size+1) scope.names []).lookup y.1).isSome=true):=fun ⟨n,v⟩ hy=>by
  rcases S.par n (List.of_mem_zip hy).1 with q|q
  ·exact .inl q
  ·exact .inr ⟨q,PySem.W.cellsFrom_some _ _ _ (.inl q)⟩
 refine codeAny_call_function hr.depth (KX _ _ lk) rfl S.co S.gen rfl (PySem.W.codeRec_of KX hcd) (hb _ _ _ _ ?_)
 refine wpAny_newFunctionEnv_cells S.kind hkind fun env he s1 x=>?_
 subst he
 refine ⟨lim.keeps x.toInCall.keep,codeAny_func ?_⟩
 have I:Inv (EN CX P w K mg base N qual scope f cdv A outer s H E) [] (L2.start N vs) H s1:=SN S hr.hd e0 hl r x
 refine wpAny_mono (hbody A outer s H vs Q E s1 (hr.deeper _) hsp I) (fun fl s' hs=>?_) fun e s' hs=>hs
 have fin:∀{σ':L2.St}{H':Hp}{v:V}{u:Value},Inv (EN CX P w K mg base N qual scope f cdv A outer s H E) [] σ' H' s'->RelV v u->Q v H'->CE outer P w H s Q u s':=
  fun {σ' H' v u} J rv q=>⟨v,H',J.os,J.bare,J.base,J.hok,rv,q⟩
 cases fl with
 |ret u=>obtain ⟨v,σ',H',J,rv,q⟩:=hs;exact fin J rv q
 |next=>obtain ⟨σ',H',J,q⟩:=hs;exact fin (v:=V.non) (u:=Value.none) J rfl q
 |brk=>obtain ⟨_,_,_,q⟩:=hs;exact False.elim q
 |cont=>obtain ⟨_,_,_,q⟩:=hs;exact False.elim q
theorem eh {x:Str}{st:Stmt}{N ps:List Str}{k:Nat}{sp:Sp} (D:AM K mg x st) (S:Am N ps (Ah st)) (hb:OE x x st ps) (len:∀vs H Q E,sp vs H Q E->vs.length=ps.length)
  (hbody:∀(f:Addr) (cdv:Value) (A:Around) (outer:List Env) (s:Shared) (H:Hp) (vs:List V) (Q:VK) (E:XK) (s1:Shared),Cm k (cx P w K mg base a N x st f cdv A outer s H E).A->sp vs H Q E->Inv (cx P w K mg base a N x st f cdv A outer s H E) [] (L2.start N vs) H s1 ->
   wpAny (model P w) (cx P w K mg base a N x st f cdv A outer s H E).A (execs (Cn st) (cx P w K mg base a N x st f cdv A outer s H E).env) (SP (cx P w K mg base a N x st f cdv A outer s H E) [] { nx:=fun _ H'=>Q .non H',rt:=Q }) (cx P w K mg base a N x st f cdv A outer s H E).xe s1):Cal P w K mg base a (k+1) x ps sp:=by
 refine hid fun X_ k_=>?_
 obtain ⟨f,fd,F,m⟩:=D
 refine k_ ?_;clear k_
 refine ⟨f,fd,?_,m,F.kp,F.binds hb⟩
 refine hid fun X_ k_=>?_
 obtain ⟨oc,od,kV,doc,pm,an,cdv,ct,osl,rfl,lk,hcd⟩:=F.ex
 refine k_ ?_;clear k_
 exact gH lk hcd S len fun A outer s H vs Q E s1 hr hsp I=>hbody f cdv A outer s H vs Q E s1 hr hsp I
noncomputable def ZC (a:Ad) (as:List Addr) (H:Hp) (pd:Addr) (Q:VK) (r:State×Answer):Prop:=∀q H' as',Mv [pd] H H'->Ei a as' H' pd r.1->(∀c∈as',c∈as\/H c=none)->H q=none->H' q=some (.lst (r.2.nums.map V.int))->r.2.nums.length<=10010->Q (.ref q) H'
noncomputable def VC (p:Int) (b:Bytes):TideMachines.Call:=if p=0 then .machine b else .sky b
noncomputable def Zq (a:Ad):Sp:=fun vs H Q _=>∃pd s as p pt b,vs=[.ref pd,.int p,.ref pt]/\(p=0\/p=1)/\H pt=some (.lst (bV b))/\b.length<=30000/\Ei a as H pd s/\ZC a as H pd Q (TideMachines.step s (VC p b))
theorem Qr (T:Txt K mg a):Cal P w K mg base a 12 "answer_text" Jr (Zq a):=by
 refine eh (k:=11) T.RG IA (fun _ _ _ _ _ _=>JS fun _ _ _=>rfl) (fun _ _ _ _=>XY fun _ _ _ _ _ _=>rfl) (fun f cdv A outer s0 H vs Q E s1 hr h I=>?_)
 ·refine hid fun X_ k_=>?_
  obtain ⟨pd,s,as,p,pt,b,rfl,hp,ht,hb,hD,k⟩:=h
  refine k_ ?_;clear k_
  refine hid fun X_ k_=>?_
  obtain ⟨dx,vm,vk,h1,h2,h3,h4⟩:=id hD
  refine k_ ?_;clear k_
  refine wpAny_execs_cons (thn (iL (D:={ nx:=fun _ H'=>fL (AL (tC (.int 0)) BQ) [] H' Q,rt:=Q }) (C:=a.CF) (W:=fun ex H'=>∃k p',Mv [] H H'/\Flt H' ex k p'/\ZC a as H pd Q (s,fault (-6) k p')) rfl rfl rfl rfl I T.xc rfl T.mgF IA.nd (i:=3) rfl rfl rfl
   (Af (AS (Av BA (pv 1) (Ay T.Md) (AB _)) (Af (Br (pv 0) (Ar (OB T) hr gb (Aa (pv 2) Ac)) rfl)) (Af (Br (pv 0) (Ar (WI T) hr gb (Aa (pv 2) Ac)) rfl)))) ?_ ?_) fun fl s2 q=>?_)
  ·
   have done:∀(fld:Str) (p':Addr) (vm' vk':V) (s':State) (as':List Addr) (H1:Hp),Mv [] H H1->(∀c∈as',H c=none)->BD fld (.ref p') [(Str.ofString "machine",vm),(Str.ofString "sky",vk)]=[(Str.ofString "machine",vm'),(Str.ofString "sky",vk')] ->
     (∀H2,(∀c o,c≠pd->H1 c=some o->H2 c=some o)->MV a (as++as') H2 vm' s'.machine/\SV a (as++as') H2 vk' s'.sky)->ZC a as H pd Q (s',says 0) ->
     fL (AL (tC (.int 0)) BQ) [] (upd H1 pd (.ins a.CD dx (BD fld (.ref p') [("machine",vm),("sky",vk)]))) Q:=fun fld p' vm' vk' s' as' H1 M1 hfr ef hmv kk=>by
    refine ⟨(by show 1<=sizeLine;decide),fun q hq=>?_⟩
    rw[ef] at hq ⊢
    have hqd:q≠pd:=fun z=>by rw[z,Ae] at hq;cases hq
    have hq1:H1 q=none:=by rw[Ai hqd] at hq;exact hq
    have keep:∀c o,c≠pd->H1 c=some o->(upd (upd H1 pd (.ins a.CD dx [("machine",vm'),("sky",vk')])) q (.lst [V.int 0])) c=some o:=fun c o hc e=>by
     rw[Ai (An e hq1),Ai hc]
     exact e
    obtain ⟨r1,r2⟩:=hmv _ keep
    refine kk q _ (as++as') (fun c o e hc=>keep c o (by simpa using hc) (M1 c o e (by simp))) ⟨dx,vm',vk',?_,r1,r2,?_⟩ ?_ (M1.none (by simp) hq1) Ae (by show 1<=10010;decide)
    ·rw[Ai (Ne.symm hqd),Ae]
    ·intro z
     rcases List.mem_append.mp z with z|z
     ·exact h4 z
     ·have:=hfr pd z
      rw[h1] at this
      cases this
    ·intro c z
     rcases List.mem_append.mp z with z|z
     ·exact .inl z
     ·exact .inr (hfr c z)
   have ne1:∀c∈as,c≠pd:=fun c hc z=>h4 (z ▸ hc)
   refine ⟨_,rfl,rfl,_,rfl,Bi (fun q0=>?_) (fun q0=>?_)⟩
   ·subst q0
    have e0:TideMachines.step s (VC 0 b)=match judgeCog b with|.error (k,p)=>(s,fault (-6) k p)|.ok m=>({ s with machine:=some m },says 0):=rfl
    refine ⟨_,rfl,Aq pt b ⟨ rfl,ht,hb,fun m hj p' as' H1 M1 hfr hMA=>?_,fun k' p' hj ex H1 M1 hF=>⟨ex,rfl,Aq k' p' ⟨ M1,hF,?_⟩⟩⟩⟩
    ·rw[e0,hj] at k
     refine ⟨_,rfl,Aw pd a.CD dx _ ⟨ rfl,M1 _ _ h1 (by simp),T.Df,T.By,(by show 2<1000;decide),?_⟩⟩
     refine done "machine" p' (.ref p') vk { s with machine:=some m } as' H1 M1 hfr rfl (fun H2 keep=>⟨⟨p',rfl,?_,Ya hj⟩,?_⟩) k
     ·refine hMA.mono (fun c hc=>List.mem_append_right _ hc) fun c hc o e=>keep c o (fun z=>?_) e
      have:=hfr c hc
      rw[z,h1] at this
      cases this
     ·exact h3.mono (fun c hc=>List.mem_append_left _ hc) fun c hc o e=>keep c o (ne1 c hc) (M1 _ _ e (by simp))
    ·rw[e0,hj] at k
     exact k
   ·have hp1:p=1:=by
     rcases hp with z|z
     ·exact absurd z q0
     ·exact z
    subst hp1
    have e0:TideMachines.step s (VC 1 b)=match Tide.judge b with|.error (k,p)=>(s,fault (-6) k p)|.ok l=>({ s with sky:=some l },says 0):=rfl
    refine ⟨_,rfl,Aq pt b ⟨ rfl,ht,hb,fun ys hj p' as' H1 M1 hfr hSA=>?_,fun k' p' hj ex H1 M1 hF=>⟨ex,rfl,Aq k' p' ⟨ M1,hF,?_⟩⟩⟩⟩
    ·rw[e0,hj] at k
     refine ⟨_,rfl,Aw pd a.CD dx _ ⟨ rfl,M1 _ _ h1 (by simp),T.Df,T.Gr,(by show 2<1000;decide),?_⟩⟩
     refine done "sky" p' vm (.ref p') { s with sky:=some ys } as' H1 M1 hfr rfl (fun H2 keep=>⟨?_,⟨p',rfl,?_,iy hj⟩⟩) k
     ·exact h2.mono (fun c hc=>List.mem_append_left _ hc) fun c hc o e=>keep c o (ne1 c hc) (M1 _ _ e (by simp))
     ·refine hSA.mono (fun c hc=>List.mem_append_right _ hc) fun c hc o e=>keep c o (fun z=>?_) e
      have:=hfr c hc
      rw[z,h1] at this
      cases this
    ·rw[e0,hj] at k
     exact k
  ·
   intro ea oe vs ex hc hdx hdat
   refine ⟨_,Af (Ap (Bb (Aa (Ay T.Oa) (Aa (WM (ea:=ea) (dx:=ex) T.xc (by simp) (List.mem_singleton.mpr rfl) hc hdx hdat (pv 3) rfl) (Aa (WM (ea:=ea) (dx:=ex) T.xc (by simp) (List.mem_singleton.mpr rfl) hc hdx hdat (pv 3) rfl) Ac))))),fun σ' H' hl hW=>?_⟩
   refine hid fun X_ k_=>?_
   obtain ⟨k',p',M',hF,kk⟩:=hW
   refine k_ ?_;clear k_
   have hg:(σ'.set 3 (some (V.ref ea)))[3]?=some (some (V.ref ea)):=List.getElem?_set_self (by rw[hl];show 3<4;decide)
   refine ⟨_,hg,rfl,Aq _ _ ⟨ hF,rfl,_,hg,rfl,Aq _ _ ⟨ hF,rfl,(by show 3<=sizeLine;decide),fun q hq=>?_⟩⟩⟩
   refine kk q _ as (fun c o e hc=>(M'.trans (Mv.new hq)) c o e (by simp)) (hD.mv (M'.trans (Mv.new hq))) (fun c hc=>.inl hc) (M'.none (by simp) hq) Ae (by show 3<=10010;decide)
  ·cases fl with
   |next=>
    refine hid fun X_ k_=>?_
    obtain ⟨σ',H',I',q⟩:=q
    refine k_ ?_;clear k_
    exact Af (Ap (Bb (Aa Ao Ac))) [] s2 σ' H' _ I' q
   |ret v=>exact q
   |brk=>exact q
   |cont=>exact q
end
end Td
namespace Td
open PySem PySem.Spec PyProof.Rows L2
open Tide (Bytes Train Machine Line Answer says tells fault judgeCog)
open TideMachines (State)
section
variable {P:Program}{w:World}{K:PySem.W.Frag}{mg:Str->Option Value}{base:Heap}{a:Ad}
theorem bF (xs:List V) (k:Nat):Oc xs (some (k:Int)) none=xs.drop k:=by
 unfold Oc
 rw[HT.LB,HT.cM]
 by_cases h:k<=xs.length
 ·rw[Nat.min_eq_left h,List.take_of_length_le (by rw[List.length_drop];exact Nat.le_refl _)]
 ·rw[Nat.min_eq_right (by omega),List.drop_length,List.take_nil,List.drop_eq_nil_of_le (by omega)]
theorem er (xs:List V) (j k:Nat) (h:j<=k) (h2:k<=xs.length):Oc xs (some (j:Int)) (some (k:Int))=(xs.drop j).take (k-j):=by
 unfold Oc
 rw[HT.LB,HT.LB,Nat.min_eq_left h2,Nat.min_eq_left (Nat.le_trans h h2)]
noncomputable def wn:List Int:=[0,0,0,0,1,2,2,2,1,5]
noncomputable def bc (l:List Int) (i:Nat) (p:Int) (e:Nat):Prop:=((p=0\/p=1)/\∃n:Nat,l[i+1]?=some (n:Int)/\e=i+2+n)\/((p≠0/\p≠1)/\∃j k:Nat,p=j/\wn[j]?=some (k:Int)/\e=i+1+k)
noncomputable def iB (K:PySem.W.Frag):Sp:=fun vs H Q _=>∃pc l,∃i e:Nat,∃p:Int,vs=[.ref pc,.int i]/\SqL K H pc (l.map V.int)/\l[i]?=some p/\bc l i p e/\Q (.int e) H
theorem TM {l:List Int}{i:Nat}{p:Int} (h:l[i]?=some p):atI (l.map V.int) (i:Int)=some (.int p):=AK (by rw[List.getElem?_map,h];rfl)
theorem Qs (T:Txt K mg a):Cal P w K mg base a 1 "end_of_call" Js (iB K):=by
 refine AF (k:=0) T.RH ID (fun _ _ _ _ _ _=>Fh fun _ _=>rfl) (fun _ _ _ _=>Oh fun _ _ _ _ _=>rfl) (fun f cdv A outer s H vs Q E hr h=>?_)
 ·obtain ⟨pc,l,i,e,p,rfl,hc,hi,he,k⟩:=h
  obtain ⟨pw,hpw,hsq⟩:=T.Ob
  refine ⟨_,(Ab (Al (i:=2) ID.nd rfl (Or.inl rfl) (Be Bs (pv 0) (pv 1) (fun _ _=>rfl))) (Ab (AS (PW.pt (Hh (Av BA (pv 2) (Ay T.Md) (AB _)) (EX (Av BA (pv 2) (Ay T.fU) (AB _))))) (Af (Ap (Az CU (Az CU (pv 1) Ao) (Be Bs (pv 0) (Az CU (pv 1) Ao) (fun _ _=>rfl))))) Ax) (Af (Ap (Az CU (Az CU (pv 1) Ao) (Be BE (UX (v:=.ref pw) rfl hpw rfl) (pv 2) (fun _ _=>rfl))))))),?_⟩
  refine ⟨_,rfl,_,rfl,Aw pc _ _ _ ⟨ rfl,rfl,hc,TM hi,?_⟩⟩
  rcases he with ⟨hp,n,hn,rfl⟩|⟨⟨hp0,hp1⟩,j,kk,rfl,hk,rfl⟩
  ·have go:MI (tOp (rI0 fun i j=>.int (i+j)) (tOp (rI0 fun i j=>.int (i+j)) (AW 1) (tC (.int 2))) (tOp (jr K) (AW 0) (tOp (rI0 fun i j=>.int (i+j)) (AW 1) (tC (.int 1))))) { nx:=fun _ H'=>Q .non H',rt:=Q } [some (.ref pc),some (.int i),some (.int p)] H:=by
    have e1:(i:Int)+1=((i+1:Nat):Int):=by omega
    refine ⟨_,rfl,Aq _ _ ⟨ rfl,rfl,_,rfl,_,rfl,Aq _ _ ⟨ rfl,rfl,Aw pc _ _ _ ⟨ rfl,rfl,hc,(by rw[e1];exact TM hn),Aq _ _ ⟨ rfl,rfl,?_⟩⟩⟩⟩⟩
    rw[show ((i+2+n:Nat):Int)=(i:Int)+2+(n:Int) by omega] at k
    exact k
   refine ⟨_,rfl,rfl,_,rfl,Bi (fun _=>Bx go) (fun z=>⟨_,rfl,rfl,_,rfl,Bi (fun _=>go) (fun z2=>?_)⟩)⟩
   rcases hp with h|h
   ·exact absurd h z
   ·exact absurd h z2
  ·refine ⟨_,rfl,rfl,_,rfl,Bi (fun z=>absurd z hp0) (fun _=>⟨_,rfl,rfl,_,rfl,Bi (fun z=>absurd z hp1) (fun _=>?_)⟩)⟩
   have hat:=TM hk
   refine ⟨_,rfl,Aq _ _ ⟨ rfl,rfl,_,rfl,Aw pw _ _ _ ⟨ rfl,rfl,hsq _,hat,Aq _ _ ⟨ rfl,rfl,?_⟩⟩⟩⟩
   rw[show ((i+1+kk:Nat):Int)=(i:Int)+1+(kk:Int) by omega] at k
   exact k
inductive TC (s:State):Int->List Int->State×Answer->Prop
 |text {p n:Int}{b:Bytes}:(p=0\/p=1)->b.length<=30000->TC s p (n::b.map fun c=>(c.toNat:Int)) (TideMachines.step s (VC p b))
 |bare {p:Int}{gs:List Int}:p≠0->p≠1->s.machine=none->TC s p gs (s,says (-3))
 |mach {p:Int}{gs:List Int}{m:Machine}{X:Answer}:s.machine=some m->MC m p gs X->TC s p gs (s,X)
 |sky {p:Int}{gs:List Int}{m:Machine}{X:Answer}:(p=7\/p=8)->s.machine=some m->(s.sky=none->X=says (-3))->(∀ys,s.sky=some ys->SC m ys p gs X)->TC s p gs (s,X)
noncomputable def ju (a:Ad):Sp:=fun vs H Q _=>∃pd s as p pg gs r,vs=[.ref pd,.int p,.ref pg]/\H pg=some (.lst (gs.map V.int))/\Ei a as H pd s/\TC s p gs r/\ZC a as H pd Q r
theorem ZC.ans {as:List Addr}{H:Hp}{pd:Addr}{Q:VK}{s:State}{X:Answer} (k:ZC a as H pd Q (s,X)) (h:Ei a as H pd s):Ans H Q X.nums:=fun q H' M hq hq1 hl=>k q H' as (fun c o e _=>M c o e (by simp)) (h.mv M) (fun c hc=>.inl hc) hq hq1 hl
theorem UN (T:Txt K mg a):Cal P w K mg base a 13 "answer_to" Nn (ju a):=by
 refine AF (k:=12) T.VO Vj (fun _ _ _ _ _ _=>JS fun _ _ _=>rfl) (fun _ _ _ _=>Wh fun _ _ _ _ _ _ _=>rfl) (fun f cdv A outer s H vs Q E hr h=>?_)
 ·obtain ⟨pd,s,as,p,pg,gs,r,rfl,hg,hD,hc,k⟩:=h
  obtain ⟨dx,vm,vk,h1,h2,h3,h4⟩:=id hD
  refine ⟨_,(Ab (AS (PW.pt (Hh (Av BA (pv 1) (Ay T.Md) (AB _)) (EX (Av BA (pv 1) (Ay T.fU) (AB _))))) (Af (Ap (Ar (Qr T) hr Ak (Aa (pv 0) (Aa (pv 1) (Aa (QN Vm (pv 2) (Lz Ao) fb) Ac)))))) Ax) (Ab (AS (Av Qx (Au (pv 0) rfl) FK (AB _)) (Af (Ap (Bb (Aa (Ay T.GP) Ac)))) Ax) (Ab (AS (PW.pt (Hh (Av BA (pv 1) (Ay T.YU) (AB _)) (EX (Av BA (pv 1) (Ay T.dX) (AB _))))) (Af (Ap (Ar (Ke T) hr Ak (Aa (pv 0) (Aa (pv 1) (Aa (pv 2) Ac)))))) Ax) (Af (Ap (Ar (Gw T) hr Ak (Aa (Au (pv 0) rfl) (Aa (pv 1) (Aa (pv 2) Ac))))))))),?_⟩
  cases hc with
  |text hp hb=>
   rename_i n b
   have go:MI (Gg (Zq a) [] E (AL (AW 0) (AL (AW 1) (AL (tSl (ip K) (AW 2) (Zv (tC (.int 1))) Zu) BQ)))) { nx:=fun _ H'=>Q .non H',rt:=Q } [some (.ref pd),some (.int p),some (.ref pg)] H:=by
    refine ⟨_,rfl,_,rfl,_,rfl,1,rfl,Aq pg _ ⟨ rfl,SqL.of hg,fun q hq=>?_⟩⟩
    have ec:Oc ((n::b.map fun c=>(c.toNat:Int)).map V.int) (some 1) none=bV b:=by
     rw[show (1:Int)=((1:Nat):Int) from rfl,bF]
     show (b.map fun c=>(c.toNat:Int)).map V.int=_
     rw[List.map_map]
     rfl
    rw[ec]
    have M1:Mv [] H (upd H q (.lst (bV b))):=Mv.new hq
    refine (Pl pd s as p q b ⟨ rfl,hp,Ae,hb,hD.mv M1,fun q2 H2 as' M2 hD2 hfr hq2 hq3 hl=>?_⟩)
    refine k q2 H2 as' (fun c o e hc=>M2 c o (M1 c o e (by simp)) hc) hD2 (fun c hc=>?_) (M1.none (by simp) hq2) hq3 hl
    rcases hfr c hc with z|z
    ·exact .inl z
    ·exact .inr (M1.none (by simp) z)
   refine ⟨_,rfl,rfl,_,rfl,Bi (fun _=>Bx go) (fun z=>⟨_,rfl,rfl,_,rfl,Bi (fun _=>go) (fun z2=>?_)⟩)⟩
   rcases hp with h|h
   ·exact absurd h z
   ·exact absurd h z2
  |bare hp0 hp1 hm=>
   refine ⟨_,rfl,rfl,_,rfl,Bi (fun z=>absurd z hp0) (fun _=>⟨_,rfl,rfl,_,rfl,Bi (fun z=>absurd z hp1) (fun _=>?_)⟩)⟩
   rw[hm] at h2
   cases h2
   exact ⟨_,rfl,AA pd a.CD dx _ _ ⟨ rfl,h1,T.Df,T.By,rfl,rfl,_,rfl,Bn (fun _=>Ans.one (k.ans hD) Mv.refl) (fun z=>absurd rfl z)⟩⟩
  |mach hm hc=>
   rename_i m X
   rw[hm] at h2
   obtain ⟨pm,rfl,hM,hO⟩:=h2
   have hne:p≠0/\p≠1/\p≠7/\p≠8:=by cases hc<;>decide
   refine ⟨_,rfl,rfl,_,rfl,Bi (fun z=>absurd z hne.1) (fun _=>⟨_,rfl,rfl,_,rfl,Bi (fun z=>absurd z hne.2.1) (fun _=>?_)⟩)⟩
   refine ⟨_,rfl,AA pd a.CD dx _ _ ⟨ rfl,h1,T.Df,T.By,rfl,rfl,_,rfl,Bn (fun z=>absurd (of_decide_eq_true z) (by intro z2;cases z2)) (fun _=>?_)⟩⟩
   refine ⟨_,rfl,rfl,_,rfl,Bi (fun z=>absurd z hne.2.2.1) (fun _=>⟨_,rfl,rfl,_,rfl,Bi (fun z=>absurd z hne.2.2.2) (fun _=>?_)⟩)⟩
   exact ⟨_,rfl,AA pd a.CD dx _ _ ⟨ rfl,h1,T.Df,T.By,rfl,_,rfl,_,rfl,AA pm m as p pg ⟨ gs,X,rfl,hM,hO,hg,hc,k.ans hD⟩⟩⟩
  |sky hp hm hn hy=>
   rename_i m X
   rw[hm] at h2
   obtain ⟨pm,rfl,hM,hO⟩:=h2
   have hne:p≠0/\p≠1:=by rcases hp with rfl|rfl<;>decide
   refine ⟨_,rfl,rfl,_,rfl,Bi (fun z=>absurd z hne.1) (fun _=>⟨_,rfl,rfl,_,rfl,Bi (fun z=>absurd z hne.2) (fun _=>?_)⟩)⟩
   refine ⟨_,rfl,AA pd a.CD dx _ _ ⟨ rfl,h1,T.Df,T.By,rfl,rfl,_,rfl,Bn (fun z=>absurd (of_decide_eq_true z) (by intro z2;cases z2)) (fun _=>?_)⟩⟩
   have go:MI (Gg (gh a) [] E (AL (AW 0) (AL (AW 1) (AL (AW 2) BQ)))) { nx:=fun _ H'=>Q .non H',rt:=Q } [some (.ref pd),some (.int p),some (.ref pg)] H:=
    ⟨_,rfl,_,rfl,_,rfl,Pl pd s as m p pg ⟨ gs,X,rfl,hD,hm,hg,hn,hy,k.ans hD⟩⟩
   refine ⟨_,rfl,rfl,_,rfl,Bi (fun _=>Bx go) (fun z=>⟨_,rfl,rfl,_,rfl,Bi (fun _=>go) (fun z2=>?_)⟩)⟩
   rcases hp with h|h
   ·exact absurd h z
   ·exact absurd h z2
end
end Td
namespace Td
open PySem PySem.Spec PyProof.Rows L2
open Tide (Bytes Train Machine Line Answer says tells fault judgeCog)
open TideMachines (State)
theorem Jh:∀(l:List Int),(l.all fun (z:Int)=>decide (0<=z)&&decide (z<=255))=true->(l.map fun (n:Int)=>UInt8.ofNat n.toNat).map (fun (c:UInt8)=>(c.toNat:Int))=l
 |[],_=>rfl
 |z::r,h=>by
  rw[List.all_cons,Bool.and_eq_true,Bool.and_eq_true] at h
  have h1:=of_decide_eq_true h.1.1
  have h2:=of_decide_eq_true h.1.2
  rw[List.map_cons,List.map_cons,Jh r h.2]
  congr 1
  rw[UInt8.toNat_ofNat']
  have:z.toNat%2^8=z.toNat:=Nat.mod_eq_of_lt (by omega)
  rw[this]
  omega
theorem FI {x:Int} (h:0<=x):∃i:Nat,x=i:=⟨x.toNat,(Int.toNat_of_nonneg h).symm⟩
theorem nat?_nat (i:Nat):Tide.nat? (i:Int)=some i:=by
 unfold Tide.nat?
 rw[if_pos (by omega),Int.toNat_natCast]
theorem fM {l:List Int} (h:(l.all fun (z:Int)=>decide (0<=z)&&decide (z<=255))=true):Tide.text? l=some (l.map fun (n:Int)=>UInt8.ofNat n.toNat):=by
 unfold Tide.text?
 rw[if_pos (show NeutralIO.bytes l=true from h)]
structure Is (s:State) (L t:List Int) (c:List (List Int)) (p:Int) (e:Nat) (r:State×Answer):Prop where
 at0:L[0]?=some p
 nd:bc L 0 p e
 pos:1<=e
 le:e<=L.length
 rest:t=L.drop e
 tc:TC s p ((L.drop 1).take (e-1)) r
 st:TideMachinesNeutral.step s c=(r.1,r.2.nums)
theorem Fn {s:State}{p:Int}{gs:List Int}{r:State×Answer} (h0:p≠0) (h1:p≠1) (hm:s.machine=none) (hr:r=(s,says (-3))):TC s p gs r:=by
 subst hr
 exact .bare h0 h1 hm
theorem aQ {s:State}{L t:List Int}{c:List (List Int)} (h:Gm L c t) (ha:TideMachinesNeutral.asked1 c=true) (hl:L.length<=30000):∃p e r,Is s L t c p e r:=by
 obtain ⟨mo,so⟩:=s
 cases h with
 |text hp hn hle=>
  rename_i p n r
  obtain ⟨k,rfl⟩:=FI hn
  rw[Int.toNat_natCast] at *
  have hlen:(r.take k).length<=30000:=by
   rw[List.length_take]
   simp only [List.length_cons] at hl
   omega
  have hb:(r.take k).all (fun (z:Int)=>decide (0<=z)&&decide (z<=255))=true:=by
   rcases hp with rfl|rfl
   ·exact ha
   ·exact ha
  have eb:=Jh _ hb
  have et:=fM hb
  generalize hB:(r.take k).map (fun (n:Int)=>UInt8.ofNat n.toNat)=B at eb et
  have hBl:B.length<=30000:=by rw[<-hB,List.length_map];exact hlen
  refine ⟨p,2+k,TideMachines.step ⟨mo,so⟩ (VC p B),rfl,.inl ⟨hp,k,rfl,by omega⟩,by omega,by simp only [List.length_cons];omega,?_,?_,?_⟩
  ·rw[show 2+k=k+1+1 by omega]
   rfl
  ·have e1:((p::(k:Int)::r).drop 1).take (2+k-1)=(k:Int)::B.map fun c=>(c.toNat:Int):=by
    rw[show 2+k-1=k+1 by omega,eb]
    rfl
   rw[e1]
   exact .text hp hBl
  ·rcases hp with rfl|rfl
   ·show (match (Tide.text? (r.take k)).map TideMachines.Call.machine with|some x=>let r:=TideMachines.step ⟨mo,so⟩ x;(r.1,r.2.nums)|none=>((⟨mo,so⟩:State),[]))=_
    rw[et]
    rfl
   ·show (match (Tide.text? (r.take k)).map TideMachines.Call.sky with|some x=>let r:=TideMachines.step ⟨mo,so⟩ x;(r.1,r.2.nums)|none=>((⟨mo,so⟩:State),[]))=_
    rw[et]
    rfl
 |none hp=>
  rename_i p
  rcases hp with rfl|rfl
  ·refine ⟨2,1,TideMachines.step ⟨mo,so⟩ .print,rfl,.inr ⟨by decide,2,0,rfl,rfl,rfl⟩,by decide,by simp,rfl,?_,rfl⟩
   cases mo with
   |none=>exact Fn (by decide) (by decide) rfl rfl
   |some m=>exact .mach rfl .print
  ·refine ⟨3,1,TideMachines.step ⟨mo,so⟩ .size,rfl,.inr ⟨by decide,3,0,rfl,rfl,rfl⟩,by decide,by simp,rfl,?_,rfl⟩
   cases mo with
   |none=>exact Fn (by decide) (by decide) rfl rfl
   |some m=>exact .mach rfl .size
 |one hp=>
  rename_i p x
  rcases hp with rfl|rfl
  ·obtain ⟨i,rfl⟩:=FI (of_decide_eq_true ha)
   refine ⟨4,2,TideMachines.step ⟨mo,so⟩ (.speed i),rfl,.inr ⟨by decide,4,1,rfl,rfl,rfl⟩,by decide,by simp,rfl,?_,?_⟩
   ·cases mo with
    |none=>exact Fn (by decide) (by decide) rfl rfl
    |some m=>exact .mach rfl (.speed i)
   ·show (match (Tide.nat? (i:Int)).map TideMachines.Call.speed with|some x=>let r:=TideMachines.step ⟨mo,so⟩ x;(r.1,r.2.nums)|none=>((⟨mo,so⟩:State),[]))=_
    rw[nat?_nat]
    rfl
  ·obtain ⟨i,rfl⟩:=FI (of_decide_eq_true ha)
   refine ⟨8,2,TideMachines.step ⟨mo,so⟩ (.first i),rfl,.inr ⟨by decide,8,1,rfl,rfl,rfl⟩,by decide,by simp,rfl,?_,?_⟩
   ·cases mo with
    |none=>exact Fn (by decide) (by decide) rfl (by cases so<;>rfl)
    |some m=>exact .sky (.inr rfl) rfl (fun z=>by cases so with|none=>rfl|some l=>cases z) (fun ys z=>by cases z;exact .first i)
   ·show (match (Tide.nat? (i:Int)).map TideMachines.Call.first with|some x=>let r:=TideMachines.step ⟨mo,so⟩ x;(r.1,r.2.nums)|none=>((⟨mo,so⟩:State),[]))=_
    rw[nat?_nat]
    rfl
 |two hp=>
  rename_i p x y
  rcases hp with rfl|rfl|rfl
  ·obtain ⟨i,rfl⟩:=FI (of_decide_eq_true ha)
   refine ⟨5,3,TideMachines.step ⟨mo,so⟩ (.at_ i y),rfl,.inr ⟨by decide,5,2,rfl,rfl,rfl⟩,by decide,by simp,rfl,?_,?_⟩
   ·cases mo with
    |none=>exact Fn (by decide) (by decide) rfl rfl
    |some m=>exact .mach rfl (.at_ i y)
   ·show (match (Tide.nat? (i:Int)).map (fun (k:Nat)=>TideMachines.Call.at_ k y) with|some x=>let r:=TideMachines.step ⟨mo,so⟩ x;(r.1,r.2.nums)|none=>((⟨mo,so⟩:State),[]))=_
    rw[nat?_nat]
    rfl
  ·obtain ⟨j,rfl⟩:=FI (of_decide_eq_true ha)
   refine ⟨6,3,TideMachines.step ⟨mo,so⟩ (.pen x j),rfl,.inr ⟨by decide,6,2,rfl,rfl,rfl⟩,by decide,by simp,rfl,?_,?_⟩
   ·cases mo with
    |none=>exact Fn (by decide) (by decide) rfl rfl
    |some m=>exact .mach rfl (.pen x j)
   ·show (match (Tide.nat? (j:Int)).map (TideMachines.Call.pen x) with|some x=>let r:=TideMachines.step ⟨mo,so⟩ x;(r.1,r.2.nums)|none=>((⟨mo,so⟩:State),[]))=_
    rw[nat?_nat]
    rfl
  ·have ha':=Bool.and_eq_true_iff.mp (show (decide (0<=x)&&decide (0<=y))=true from ha)
   obtain ⟨i,rfl⟩:=FI (of_decide_eq_true ha'.1)
   obtain ⟨j,rfl⟩:=FI (of_decide_eq_true ha'.2)
   refine ⟨7,3,TideMachines.step ⟨mo,so⟩ (.right i j),rfl,.inr ⟨by decide,7,2,rfl,rfl,rfl⟩,by decide,by simp,rfl,?_,?_⟩
   ·cases mo with
    |none=>exact Fn (by decide) (by decide) rfl (by cases so<;>rfl)
    |some m=>exact .sky (.inl rfl) rfl (fun z=>by cases so with|none=>rfl|some l=>cases z) (fun ys z=>by cases z;exact .right i j)
   ·have e:TideMachinesNeutral.callOf [[7,(i:Int),(j:Int)]]=some (.right i j):=by
     show (do return TideMachines.Call.right (<-Tide.nat? (i:Int)) (<-Tide.nat? (j:Int)))=_
     rw[nat?_nat,nat?_nat]
     rfl
    unfold TideMachinesNeutral.step
    rw[e]
 |five=>
  rename_i x0 x1 x2 x3 x4
  have ha':=Bool.and_eq_true_iff.mp (show (decide (0<=x1)&&(decide (0<=x2)&&decide (0<=x4)))=true from ha)
  have ha2:=Bool.and_eq_true_iff.mp ha'.2
  obtain ⟨i,rfl⟩:=FI (of_decide_eq_true ha'.1)
  obtain ⟨j,rfl⟩:=FI (of_decide_eq_true ha2.1)
  obtain ⟨k,rfl⟩:=FI (of_decide_eq_true ha2.2)
  refine ⟨9,6,TideMachines.step ⟨mo,so⟩ (.draw x0 i j x3 k),rfl,.inr ⟨by decide,9,5,rfl,rfl,rfl⟩,by decide,by simp,rfl,?_,?_⟩
  ·cases mo with
   |none=>exact Fn (by decide) (by decide) rfl rfl
   |some m=>exact .mach rfl (.draw x0 i j x3 k)
  ·have e:TideMachinesNeutral.callOf [[9,x0,(i:Int),(j:Int),x3,(k:Int)]]=some (.draw x0 i j x3 k):=by
    show (do return TideMachines.Call.draw x0 (<-Tide.nat? (i:Int)) (<-Tide.nat? (j:Int)) x3 (<-Tide.nat? (k:Int)))=_
    rw[nat?_nat,nat?_nat,nat?_nat]
    rfl
   unfold TideMachinesNeutral.step
   rw[e]
end Td
namespace Td
open PySem PySem.Spec PyProof.Rows L2
open Tide (Bytes Train Machine Line Answer says tells fault judgeCog)
open TideMachines (State)
section
variable {P:Program}{w:World}{K:PySem.W.Frag}{mg:Str->Option Value}{base:Heap}{a:Ad}
noncomputable def fk (a:Ad):Sp:=fun vs H Q _=>∃p dx,vs=[.ref p]/\H p=some (.ins a.CD dx [])/\∀H',H' p=some (.ins a.CD dx [("machine",.non),("sky",.non)])->Mv [p] H H'->Q .non H'
theorem UH (T:Txt K mg a):Rx P w K mg base a 1 a.CD "Desk" Nh (fk a):=by
 refine Gp (k:=0) T.gJ Vf (fun _=>(fun _ _ _ _ _ _=>CC fun _=>rfl)) (fun _ _ _ _=>RN fun _ _=>rfl) (fun q f cdv A outer s H vs Q E hr h=>?_)
 ·obtain ⟨p,dx,rfl,hp,k⟩:=h
  refine ⟨_,(Ab (Br (pv 0) FK rfl) (Af (Br (pv 0) FK rfl))),?_⟩
  refine ⟨_,rfl,Aw p a.CD dx _ ⟨ rfl,hp,T.Df,T.By,(by show 0<1000;decide),?_⟩⟩
  refine ⟨_,rfl,Aw p a.CD dx _ ⟨ rfl,Ae,T.Df,T.Gr,(by show 1<1000;decide),?_⟩⟩
  exact k _ Ae (fun c o e n=>by rw[Ai (by simpa using n),Ai (by simpa using n)];exact e)
theorem SqL.mv {H H':Hp}{p:Addr}{xs:List V} (h:SqL K H p xs) (M:Mv [] H H'):SqL K H' p xs:=by
 rcases h with (e|⟨o,e⟩)|e
 ·exact .inl (.inl (M _ _ e (by simp)))
 ·exact .inl (.inr ⟨o,M _ _ e (by simp)⟩)
 ·exact .inr e
noncomputable def GG (K:PySem.W.Frag):Sp:=fun vs H Q _=>∃pc l,vs=[.ref pc]/\SqL K H pc (l.map V.int)/\l.length<=30000/\PyWqaccq.answers_asked l=true/\∀q H',H' q=some (.lst ((PyWqaccq.answers l).map V.int))->Q (.ref q) H'
noncomputable def Left (l:List Int) (i:Nat) (s:State) (ans:List Int) (done:Nat):Prop:=∃cs,Reads (l.drop i) cs/\done+cs.length<=300/\(∀c∈cs,TideMachinesNeutral.asked1 c=true)/\ans.length<=10011*done/\PyWqaccq.answers l=ans++PyFlat.told (PyFlat.played TideMachinesNeutral.step s cs)
theorem cb {l:List Int}{i:Nat}{s:State}{ans:List Int}{done:Nat} (h:Left l i s ans done) (hi:l.length<=i):PyWqaccq.answers l=ans:=by
 refine hid fun X_ k_=>?_
 obtain ⟨cs,hr,_,_,_,e⟩:=h
 refine k_ ?_;clear k_
 rw[List.drop_eq_nil_of_le hi] at hr
 cases hr with
 |nil=>rw[e];show ans++[]=ans;rw[List.append_nil]
 |cons h _=>cases h
theorem eL {l:List Int}{i:Nat}{s:State}{ans:List Int}{done:Nat} (h:Left l i s ans done) (hi:i<l.length) (hl:l.length<=30000):∃p e r,l[i]?=some p/\bc l i p e/\i+1<=e/\e<=l.length/\done<300/\ans.length<=10011*done/\TC s p ((l.drop (i+1)).take (e-(i+1))) r /\
  (r.2.nums.length<=10010->Left l e r.1 (ans++[(r.2.nums.length:Int)]++r.2.nums) (done+1)):=by
 refine hid fun X_ k_=>?_
 obtain ⟨cs,hr,hc,ha,hal,e⟩:=h
 refine k_ ?_;clear k_
 generalize hL:l.drop i=L at hr
 have hLl:L.length=l.length-i:=by rw[<-hL,List.length_drop]
 cases hr with
 |nil=>simp at hLl;omega
 |cons hs hrest=>
  rename_i t c cs'
  refine hid fun X_ k_=>?_
  obtain ⟨p,e',r,I⟩:=aQ (s:=s) hs (ha c (List.mem_cons_self ..)) (by omega)
  refine k_ ?_;clear k_
  have hle:=I.le
  have hpos:=I.pos
  have g:∀j,L[j]?=l[i+j]?:=fun j=>by rw[<-hL,List.getElem?_drop]
  refine ⟨p,i+e',r,?_,?_,by omega,by omega,?_,hal,?_,fun hn=>⟨cs',?_,?_,fun z hz=>ha z (List.mem_cons_of_mem _ hz),?_,?_⟩⟩
  ·have:=I.at0
   rw[g] at this
   exact this
  ·rcases I.nd with ⟨h1,n,h2,h3⟩|⟨h1,j,k,h2,h3,h4⟩
   ·refine .inl ⟨h1,n,?_,by omega⟩
    rw[g] at h2
    rw[<-h2]
   ·exact .inr ⟨h1,j,k,h2,h3,by omega⟩
  ·rw[List.length_cons] at hc;omega
  ·have:=I.tc
   have e1:(L.drop 1).take (e' - 1)=(l.drop (i+1)).take (i+e' - (i+1)):=by
    rw[<-hL,List.drop_drop,show i+e' - (i+1)=e' - 1 by omega]
   rw[e1] at this
   exact this
  ·have:=I.rest
   rw[<-hL,List.drop_drop] at this
   rw[this] at hrest
   exact hrest
  ·rw[List.length_cons] at hc;omega
  ·rw[List.length_append,List.length_append,List.length_singleton]
   omega
  ·rw[e]
   have est:=I.st
   show ans++PyFlat.told ((TideMachinesNeutral.step s c).2::PyFlat.played TideMachinesNeutral.step (TideMachinesNeutral.step s c).1 cs')=_
   rw[est]
   show ans++(((r.2.nums.length:Int)::r.2.nums)++PyFlat.told (PyFlat.played TideMachinesNeutral.step r.1 cs'))=_
   rw[List.append_assoc,List.append_assoc]
   rfl
theorem XX {l:List Int} (h:PyWqaccq.answers_asked l=true):Left l 0 TideMachines.start [] 0:=by
 refine hid fun X_ k_=>?_
 obtain ⟨cs,h1,_,h3,h4,h5⟩:=Vx h
 refine k_ ?_;clear k_
 exact ⟨cs,h1,by omega,h4,Nat.le_refl _,h5⟩
theorem Yq (T:Txt K mg a) {f:Addr}{fd:FuncData} (F:Fun K "answers" "answers" ME f fd):FD P w K mg base (CXF a.CF P w) 14 f fd Tb (GG K):=by
 refine OJ (k:=13) F Dk (fun _ _ _ _=>RN fun _ _=>rfl) (fun cdv A outer s H vs Q E hr h=>?_)
 ·refine hid fun X_ k_=>?_
  obtain ⟨pc,l,rfl,hsq,hl,ha,k⟩:=h
  refine k_ ?_;clear k_
  refine ⟨_,(Ab (Al (i:=1) Dk.nd rfl (Or.inl rfl) (cy (UH T) hr Ak)) (Ab (Al (i:=2) Dk.nd rfl (Or.inl rfl) (Bb Ac)) (Ab (Al (i:=3) Dk.nd rfl (Or.inl rfl) Ao) (Ab (Cs El (Av GY (pv 3) (AD AQ rfl T.DD boot_len (Aa (pv 0) Ac)) (AB _)) (Ab (Al (i:=4) Dk.nd rfl (Or.inl rfl) (Ar (Qs T) hr Ak (Aa (pv 0) (Aa (pv 3) Ac)))) (Ab (Al (i:=5) Dk.nd rfl (Or.inl rfl) (Ar (UN T) hr Ak (Aa (pv 1) (Aa (Be Bs (pv 0) (pv 3) (fun _ _=>rfl)) (Aa (QN Vm (pv 0) (Lz (Az CU (pv 3) Ao)) (Lz (pv 4))) Ac))))) (Ab (AJ (He PySem.F.plainAttrs_list PySem.F.slot_list_append PySem.F.type_list_append CP (pv 2) (Aa (AD AQ rfl T.DD boot_len (Aa (pv 5) Ac)) Ac))) (Ab (AJ (He PySem.F.plainAttrs_list PySem.F.slot_list_extend PySem.F.type_list_extend Mt (pv 2) (Aa (pv 5) Ac))) (Af (Al (i:=3) Dk.nd rfl (Or.inl rfl) (pv 4)))))))) (Af (Ap (pv 2))))))),?_⟩
  refine fun pd dx hpd hdx hne=>(Aq pd dx ⟨ rfl,Ae,fun H0 hD0 M0=>⟨rfl,?_⟩⟩)
  have N0:Mv [] H H0:=fun c o e _=>M0 c o (DX hpd hdx e) (by simpa using An e hpd)
  refine ⟨(by show 0<=sizeLine;decide),fun pt hpt=>?_⟩
  have hpt0:H pt=none:=N0.none (by simp) hpt
  have hne2:pt≠pd:=fun z=>by rw[z,hD0] at hpt;cases hpt
  refine ⟨fun m σ H'=>∃s as ans done v4 v5,∃i:Nat,σ=[some (.ref pc),some (.ref pd),some (.ref pt),some (.int i),v4,v5]/\m=l.length-i/\i<=l.length/\Mv [] H H'/\Ei a as H' pd s/\H' pt=some (.lst (ans.map V.int))/\pt∉as/\Left l i s ans done,
   ⟨_,TideMachines.start,[],[],0,Aq none none ⟨ 0,rfl,rfl,Nat.zero_le _,N0.trans (Mv.new hpt),⟨dx,.non,.non,(by rw[Ai (Ne.symm hne2)];exact hD0),rfl,rfl,by simp⟩,Ae,by simp,XX ha⟩⟩,?_⟩
  rintro m σ H1 hI_
  refine hid fun X_ k_=>?_
  obtain ⟨s,as,ans,done,v4,v5,i,rfl,rfl,hi,M1,hD,ht,hnt,hL⟩:=hI_
  refine k_ ?_;clear k_
  have hsq1:=SqL.mv hsq M1
  refine ⟨_,rfl,_,rfl,Aq pc _ ⟨ rfl,.inl hsq1,Aq _ _ ⟨ rfl,rfl,_,rfl,?_⟩⟩⟩
  have hlm:((l.map V.int).length:Int)=(l.length:Int):=by rw[List.length_map]
  rw[hlm]
  by_cases hlt:i<l.length
  ·refine Bn (fun _=>?_) (fun z=>absurd (decide_eq_true (show (i:Int)<(l.length:Int) by omega)) z)
   refine ⟨fun σ' H'=>_,fun σ' H' z=>z,?_⟩
   refine hid fun X_ k_=>?_
   obtain ⟨p,e,r,hp,hE,he1,he2,hdone,hal,htc,hnext⟩:=eL hL hlt hl
   refine k_ ?_;clear k_
   refine ⟨_,rfl,_,rfl,AA pc l i e p ⟨ rfl,hsq1,hp,hE,?_⟩⟩
   refine ⟨_,rfl,_,rfl,_,rfl,Aw pc _ _ _ ⟨ rfl,rfl,hsq1,TM hp,_,rfl,_,rfl,Aq _ _ ⟨ rfl,rfl,_,rfl,_,rfl,_,rfl,Aq pc _ ⟨ rfl,hsq1,fun pg hpg=>?_⟩⟩⟩⟩
   have ecut:Oc (l.map V.int) (some ((i:Int)+1)) (some (e:Int))=((l.drop (i+1)).take (e-(i+1))).map V.int:=by
    rw[show (i:Int)+1=((i+1:Nat):Int) by omega,er _ _ _ he1 (by rw[List.length_map];exact he2),List.map_take,List.map_drop]
   rw[ecut]
   have Mg:Mv [] H1 (upd H1 pg (.lst (((l.drop (i+1)).take (e-(i+1))).map V.int))):=Mv.new hpg
   have htg:=Mg _ _ ht (by simp)
   have hgg:(upd H1 pg (.lst (((l.drop (i+1)).take (e-(i+1))).map V.int))) pg=some (.lst (((l.drop (i+1)).take (e-(i+1))).map V.int)):=Ae
   generalize upd H1 pg (.lst (((l.drop (i+1)).take (e-(i+1))).map V.int))=Hg at Mg htg hgg ⊢
   refine (bQ pd s as p pg _ r ⟨ rfl,hgg,hD.mv Mg,htc,fun q H2 as' M2 hD2 hfr hq hq2 hln=>?_⟩)
   have ht2:=M2 _ _ htg (by simpa using hne2)
   have hqt:q≠pt:=fun z=>by rw[z,htg] at hq;cases hq
   have hnt2:pt∉as':=fun z=>by
    rcases hfr pt z with z|z
    ·exact hnt z
    ·rw[htg] at z;cases z
   have N2:Mv [] H H2:=fun c o e0 _=>M2 c o (Mg c o (M1 c o e0 (by simp)) (by simp)) (by simpa using An e0 hpd)
   have hbig:10011*done+10011<=10011*300:=by omega
   refine ⟨_,rfl,.inl ⟨rfl,_,SqL.of ht2⟩,_,rfl,Aq q _ ⟨ rfl,.inl (SqL.of hq2),AN pt _ _ ⟨ rfl,rfl,ht2,?_,?_⟩⟩⟩
   ·rw[List.length_map]
    exact Nat.lt_of_le_of_lt hal (Nat.lt_of_lt_of_le (show 10011*done<10011*300 by omega) (by decide))
   refine ⟨_,rfl,.inl ⟨rfl,_,SqL.of Ae⟩,_,rfl,Aw pt q _ _ ⟨ rfl,rfl,Ae,(by rw[Ai hqt];exact hq2),?_,?_⟩⟩
   ·rw[List.length_append,List.length_map,List.length_map,List.length_singleton]
    exact Nat.le_trans (show ans.length+1+r.2.nums.length<=10011*300 by omega) (by decide)
   refine ⟨_,rfl,?_⟩
   refine ⟨l.length-e,by omega,r.1,Aq as' _ ⟨ done+1,AN _ _ e ⟨ rfl,rfl,he2,(N2.ext hpt0).ext hpt0,?_,?_,hnt2,hnext hln⟩⟩⟩
   ·refine hD2.mono (fun _ z=>z) (by obtain ⟨_,_,_,_,_,_,z⟩:=hD2;exact z) (fun o z=>?_) fun c hc o z=>?_
    ·rw[Ai (Ne.symm hne2),Ai (Ne.symm hne2)]
     exact z
    ·have:c≠pt:=fun y=>hnt2 (y ▸ hc)
     rw[Ai this,Ai this]
     exact z
   ·rw[Ae,List.map_append,List.map_append,List.length_map]
    rfl
  ·refine Bn (fun z=>absurd (of_decide_eq_true z) (by omega)) (fun _=>⟨_,rfl,k pt H1 ?_⟩)
   rw[cb hL (by omega)]
   exact ht
end
end Td
namespace L2
open PySem PySem.Spec PyProof.Rows
open PySem.W (WData Codec OpenSpec Well WellAll ReadsW ReadsAllW)
mutual
inductive Dw (K:PySem.W.Frag) (H:Hp):V->WData->Prop
 |non:Dw K H .non .none
 |bl (b:Bool):Dw K H (.bl b) (.bool b)
 |int (i:Int):Dw K H (.int i) (.int i)
 |str (x:Str):Dw K H (.str x) (.str x)
 |byt (b:Array UInt8):Dw K H (.byt b) (.bytes b.toList)
 |lst {a:Addr}{xs:List V}{ds:List WData}:SqL K H a xs->GL K H xs ds->Dw K H (.ref a) (.list ds)
 |tup {a:Addr}{xs:List V}{ds:List WData}:SqT K H a xs->GL K H xs ds->Dw K H (.ref a) (.tuple ds)
inductive GL (K:PySem.W.Frag) (H:Hp):List V->List WData->Prop
 |nil:GL K H [] []
 |cons {v:V}{vs:List V}{d:WData}{ds:List WData}:Dw K H v d->GL K H vs ds->GL K H (v::vs) (d::ds)
end
theorem YZ {K:PySem.W.Frag}{H:Hp}:∀ns:List Int,GL K H (ns.map V.int) (ns.map WData.int)
 |[]=>.nil
 |n::r=>.cons (.int n) (YZ r)
theorem Zf {K:PySem.W.Frag}{H:Hp}:∀(ns:List Int) (xs:List V),GL K H xs (ns.map WData.int)->xs=ns.map V.int
 |[],xs,h=>by
  cases h
  rfl
 |n::r,xs,h=>by
  cases h with
  |cons h1 h2=>
   cases h1
   rw[Zf r _ h2]<;>rfl
section
variable {P:Program}{w:World}{K:PySem.W.Frag}{H:Hp}{h:Heap}{R:PySem.W.WRecords}{cl:Str->Option Addr}
theorem iF {a:Addr}{xs:List V} (hok:HOk P w H h) (KX:K.In h) (q:SqL K H a xs):∃(its:List Value) (o:Obj) (n:Nat),Vals xs its/\h.get? a=some o/\o.cls = .type "list"/\o.data = .seq its.toArray n:=by
 rcases q with q|⟨o,its,n,e,hc,_,hd,_,hv⟩
 ·obtain ⟨_,its,n,hv,e⟩:=(show BH P w H h a (.lst xs) from q.ok hok)
  exact ⟨its,_,n,hv,e,rfl,rfl⟩
 ·exact ⟨its.toList,o,n,hv,KX _ _ e,hc,by simp[hd]⟩
theorem iG {a:Addr}{xs:List V} (hok:HOk P w H h) (KX:K.In h) (q:SqT K H a xs):∃(its:List Value) (o:Obj) (n:Nat),Vals xs its/\h.get? a=some o/\o.cls = .type "tuple"/\o.data = .seq its.toArray n:=by
 rcases q with q|⟨o,its,n,e,hc,hd,_,hv⟩
 ·obtain ⟨_,its,hv,o,e,hc,n,hd⟩:=(show BH P w H h a (.tup xs) from q.ok hok)
  exact ⟨its,o,n,hv,e,hc,hd⟩
 ·exact ⟨its.toList,o,n,hv,KX _ _ e,hc,by simp[hd]⟩
mutual
theorem Dw.reads (hok:HOk P w H h) (KX:K.In h):∀(d:WData) (v:V) (u:Value),Dw K H v d->RelV v u->∃as,ReadsW R cl h u d as
 |.none,_,_,x,r=>by
  cases x
  cases r
  exact ⟨_,ReadsW.none⟩
 |.bool b,_,_,x,r=>by
  cases x
  cases r
  exact ⟨_,ReadsW.bool b⟩
 |.int i,_,_,x,r=>by
  cases x
  obtain ⟨t,rfl⟩:=r
  exact ⟨_,ReadsW.int i t⟩
 |.str s,_,_,x,r=>by
  cases x
  obtain ⟨t,rfl⟩:=r
  exact ⟨_,ReadsW.str s t⟩
 |.bytes b,_,_,x,r=>by
  cases x
  obtain ⟨t,rfl⟩:=r
  exact ⟨_,ReadsW.bytes _ t⟩
 |.list ds,_,_,x,r=>by
  cases x with
  |lst hs ha=>
   cases r
   obtain ⟨its,o,n,rv,ho,hc,hd⟩:=iF hok KX hs
   obtain ⟨as,hr⟩:=Dw.readsAll hok KX ds _ its ha rv
   exact ⟨_,ReadsW.list ho hc hd hr⟩
 |.tuple ds,_,_,x,r=>by
  cases x with
  |tup hs ha=>
   cases r
   obtain ⟨its,o,n,rv,ho,hc,hd⟩:=iG hok KX hs
   obtain ⟨as,hr⟩:=Dw.readsAll hok KX ds _ its ha rv
   exact ⟨_,ReadsW.tuple ho hc hd hr⟩
 |.float _,_,_,x,_=>by cases x
 |.dict _,_,_,x,_=>by cases x
 |.bytearray _,_,_,x,_=>by cases x
 |.set _,_,_,x,_=>by cases x
 |.frozenset _,_,_,x,_=>by cases x
 |.obj _ _,_,_,x,_=>by cases x
theorem Dw.readsAll (hok:HOk P w H h) (KX:K.In h):∀(ds:List WData) (vs:List V) (us:List Value),GL K H vs ds->Vals vs us->∃as,ReadsAllW R cl h us ds as
 |[],_,_,x,r=>by
  cases x
  cases r
  exact ⟨_,ReadsAllW.nil⟩
 |d::ds,_,_,x,r=>by
  cases x with
  |cons h1 h2=>
   cases r with
   |cons r1 r2=>
    obtain ⟨as,q1⟩:=Dw.reads hok KX d _ _ h1 r1
    obtain ⟨bs,q2⟩:=Dw.readsAll hok KX ds _ _ h2 r2
    exact ⟨_,ReadsAllW.cons q1 q2⟩
end
end
mutual
noncomputable def plW:WData->Bool
 |.none=>true
 |.bool _=>true
 |.int _=>true
 |.str _=>true
 |.bytes _=>true
 |.list xs=>OC xs
 |.tuple xs=>OC xs
 |_=>false
noncomputable def OC:List WData->Bool
 |[]=>true
 |x::r=>plW x&&OC r
end
theorem WO {α:Type}{f:α->WData} (h:∀a,plW (f a)=true):∀l:List α,OC (l.map f)=true
 |[]=>rfl
 |x::r=>by
  show (plW (f x)&&OC (r.map f))=true
  rw[h x,WO h r]<;>rfl
theorem Ii:∀(c:Codec) (a:c.denote),plW (c.enc a)=true
 |.unit,_=>rfl
 |.bool,_=>rfl
 |.int _ _,_=>rfl
 |.nat _ _,_=>rfl
 |.u8,_=>rfl
 |.bytes _ _,_=>rfl
 |.text _ _ _ _,_=>rfl
 |.list _ _ c,a=>WO (fun x=>Ii c x) a
 |.pair c d,a=>by
  show (plW (c.enc a.1)&&(plW (d.enc a.2)&&true))=true
  rw[Ii c a.1,Ii d a.2]<;>rfl
 |.triple c d e,a=>by
  show (plW (c.enc a.1)&&(plW (d.enc a.2.1)&&(plW (e.enc a.2.2)&&true)))=true
  rw[Ii c a.1,Ii d a.2.1,Ii e a.2.2]<;>rfl
 |.option c,none=>rfl
 |.option c,some x=>Ii c x
theorem Tg:∀(cs:List Codec) (a:Codec.denoteAll cs),OC (Codec.encAll cs a)=true
 |[],_=>rfl
 |c::cs,a=>by
  show (plW (c.enc a.1)&&OC (Codec.encAll cs a.2))=true
  rw[Ii c a.1,Tg cs a.2]<;>rfl
theorem Kn:∀{xs:List WData}{d:WData},d∈xs->d.weight<=WData.weightAll xs
 |[],d,h=>absurd h (by simp)
 |x::r,d,h=>by
  show d.weight<=x.weight+1+WData.weightAll r
  rcases List.mem_cons.mp h with e|m
  ·rw[e]
   omega
  ·have z:=Kn m
   omega
noncomputable def toV:Value->V
 |.none=>.non
 |.bool b=>.bl b
 |.int i _=>.int i
 |.str x _=>.str x
 |.bytes b _=>.byt b
 |.ref a=>.ref a
 |_=>.non
noncomputable def OkU (A:List Addr):Value->Prop
 |.none=>True
 |.bool _=>True
 |.int _ _=>True
 |.str _ _=>True
 |.bytes _ _=>True
 |.ref a=>a∈A
 |_=>False
theorem OkU.mono {A B:List Addr} (h:∀a∈A,a∈B):∀{u:Value},OkU A u->OkU B u:=fun {u} x=>by
 cases u with
 |ref a=>exact h a x
 |none=>trivial
 |bool b=>trivial
 |int i t=>trivial
 |str s t=>trivial
 |bytes b t=>trivial
 |_=>exact False.elim x
theorem cK {A:List Addr}{u:Value} (x:OkU A u):RelV (toV u) u:=by
 cases u with
 |ref a=>rfl
 |none=>rfl
 |bool b=>rfl
 |int i t=>exact ⟨t,rfl⟩
 |str s t=>exact ⟨t,rfl⟩
 |bytes b t=>exact ⟨t,rfl⟩
 |_=>exact False.elim x
theorem Gj {A:List Addr}:∀{vs:List Value},(∀u∈vs,OkU A u)->Vals (vs.map toV) vs
 |[],_=>.nil
 |u::r,h=>.cons (cK (h u (List.mem_cons_self ..))) (Gj fun x hx=>h x (List.mem_cons_of_mem _ hx))
noncomputable def GK (h:Heap) (A:List Addr) (a:Addr):Prop:=∃vs:List Value,vs.length<=sizeLine/\(∀u∈vs,OkU A u) /\
 (h.get? a=some { cls:=.type "list",data:=.seq vs.toArray }\/h.get? a=some { cls:=.type "tuple",data:=.seq vs.toArray })
theorem GK.mono {h:Heap}{A B:List Addr}{a:Addr} (k:∀a∈A,a∈B) (x:GK h A a):GK h B a:=by
 obtain ⟨vs,h1,h2,h3⟩:=x
 exact ⟨vs,h1,fun u hu=>(h2 u hu).mono k,h3⟩
theorem FC {P:Params}{h:Heap}:∀{vs:List Value}{ds:List WData},WellAll P h vs ds->vs.length=ds.length
 |_,_,.nil=>rfl
 |_,_,.cons _ b=>by
  show _+1=_+1
  rw[FC b]
theorem Tx {P:Params}{h:Heap}{v:Value}{ds:List WData} (x:Well P h v (.list ds)):∃(a:Addr) (vs:List Value),v = .ref a/\h.get? a=some { cls:=.type "list",data:=.seq vs.toArray }/\WellAll P h vs ds:=by
 cases x with
 |list ho hall=>exact ⟨_,_,rfl,ho,hall⟩
theorem Rw {P:Params}{h:Heap}{v:Value}{ds:List WData} (x:Well P h v (.tuple ds)):∃(a:Addr) (vs:List Value),v = .ref a/\h.get? a=some { cls:=.type "tuple",data:=.seq vs.toArray }/\WellAll P h vs ds:=by
 cases x with
 |tuple ho hall=>exact ⟨_,_,rfl,ho,hall⟩
theorem Tw {P:Params}{h:Heap}{us:List Value}{d:WData}{ds:List WData} (x:WellAll P h us (d::ds)):∃(v:Value) (vs:List Value),us=v::vs/\Well P h v d/\WellAll P h vs ds:=by
 cases x with
 |cons a b=>exact ⟨_,_,rfl,a,b⟩
theorem Zh {n:Nat} (h:n<=1048576):n<=sizeLine:=Nat.le_trans h (by decide)
section
variable {P:Params}{h:Heap}
mutual
theorem br:∀(d:WData) (v:Value),Well P h v d->plW d=true->d.weight<=1048576->∃A:List Addr,OkU A v/\∀a∈A,GK h A a
 |.none,_,x,_,_=>by
  cases x
  exact ⟨[],trivial,fun a m=>absurd m (by simp)⟩
 |.bool b,_,x,_,_=>by
  cases x
  exact ⟨[],trivial,fun a m=>absurd m (by simp)⟩
 |.int i,_,x,_,_=>by
  cases x
  exact ⟨[],trivial,fun a m=>absurd m (by simp)⟩
 |.str s,_,x,_,_=>by
  cases x
  exact ⟨[],trivial,fun a m=>absurd m (by simp)⟩
 |.bytes b,_,x,_,_=>by
  cases x
  exact ⟨[],trivial,fun a m=>absurd m (by simp)⟩
 |.list ds,_,x,p,z=>by
  obtain ⟨a,vs,rfl,ho,hall⟩:=Tx x
  have z2:WData.weightAll ds<=1048576:=z
  obtain ⟨A,h1,h2⟩:=Kr ds _ hall p fun d hd=>Nat.le_trans (Kn hd) z2
  have k:∀b∈A,b∈a::A:=fun b hb=>List.mem_cons_of_mem _ hb
  refine ⟨a::A,List.mem_cons_self ..,fun b hb=>?_⟩
  rcases List.mem_cons.mp hb with e|m
  ·rw[e]
   exact ⟨vs,Zh (by rw[FC hall];exact Nat.le_trans (PySem.W.length_le_weightAllW ds) z2),fun u hu=>(h1 u hu).mono k,.inl ho⟩
  ·exact (h2 b m).mono k
 |.tuple ds,_,x,p,z=>by
  obtain ⟨a,vs,rfl,ho,hall⟩:=Rw x
  have z2:WData.weightAll ds<=1048576:=z
  obtain ⟨A,h1,h2⟩:=Kr ds _ hall p fun d hd=>Nat.le_trans (Kn hd) z2
  have k:∀b∈A,b∈a::A:=fun b hb=>List.mem_cons_of_mem _ hb
  refine ⟨a::A,List.mem_cons_self ..,fun b hb=>?_⟩
  rcases List.mem_cons.mp hb with e|m
  ·rw[e]
   exact ⟨vs,Zh (by rw[FC hall];exact Nat.le_trans (PySem.W.length_le_weightAllW ds) z2),fun u hu=>(h1 u hu).mono k,.inr ho⟩
  ·exact (h2 b m).mono k
 |.float _,_,_,p,_=>Bool.noConfusion (show false=true from p)
 |.dict _,_,_,p,_=>Bool.noConfusion (show false=true from p)
 |.bytearray _,_,_,p,_=>Bool.noConfusion (show false=true from p)
 |.set _,_,_,p,_=>Bool.noConfusion (show false=true from p)
 |.frozenset _,_,_,p,_=>Bool.noConfusion (show false=true from p)
 |.obj _ _,_,_,p,_=>Bool.noConfusion (show false=true from p)
theorem Kr:∀(ds:List WData) (vs:List Value),WellAll P h vs ds->OC ds=true->(∀d∈ds,d.weight<=1048576)->∃A:List Addr,(∀u∈vs,OkU A u)/\∀a∈A,GK h A a
 |[],_,x,_,_=>by
  cases x
  exact ⟨[],fun u m=>absurd m (by simp),fun a m=>absurd m (by simp)⟩
 |d::ds,_,x,p,z=>by
  obtain ⟨v,vs,rfl,x1,x2⟩:=Tw x
  have q:plW d=true/\OC ds=true:=Bool.and_eq_true_iff.mp p
  obtain ⟨A,a1,a2⟩:=br d v x1 q.1 (z d (List.mem_cons_self ..))
  obtain ⟨B,b1,b2⟩:=Kr ds vs x2 q.2 fun e he=>z e (List.mem_cons_of_mem _ he)
  have kA:∀b∈A,b∈A++B:=fun b hb=>List.mem_append.mpr (.inl hb)
  have kB:∀b∈B,b∈A++B:=fun b hb=>List.mem_append.mpr (.inr hb)
  refine ⟨A++B,fun u hu=>?_,fun b hb=>?_⟩
  ·rcases List.mem_cons.mp hu with e|m
   ·rw[e]
    exact a1.mono kA
   ·exact (b1 u m).mono kB
  ·rcases List.mem_append.mp hb with m|m
   ·exact (a2 b m).mono kA
   ·exact (b2 b m).mono kB
end
end
noncomputable def eF (o:Obj):Option HO:=match o.data with
 |.seq vs _=>if (o.cls==Value.type "list")=true then some (.frz o (.lst (vs.toList.map toV))) else some (.frz o (.tup (vs.toList.map toV)))
 |_=>none
noncomputable def Gn (K:PySem.W.Frag) (h:Heap) (A:List Addr):Hp:=fun b=>if b∈A then (if (K.lookup b).isNone=true then (h.get? b).bind eF else none) else none
noncomputable def Vs (H:Hp):Prop:=∀b,H b=none\/∃o u,H b=some (.frz o u)
theorem Wb (vs:List Value):eF { cls:=.type "list",data:=.seq vs.toArray }=some (.frz { cls:=.type "list",data:=.seq vs.toArray } (.lst (vs.map toV))):=by
 show (if (Value.type "list"==Value.type "list")=true then some (HO.frz { cls:=.type "list",data:=.seq vs.toArray } (.lst (vs.toArray.toList.map toV))) else some (HO.frz { cls:=.type "list",data:=.seq vs.toArray } (.tup (vs.toArray.toList.map toV))))=_
 rw[if_pos (beq_self_eq_true _)]
theorem Wc (vs:List Value):eF { cls:=.type "tuple",data:=.seq vs.toArray }=some (.frz { cls:=.type "tuple",data:=.seq vs.toArray } (.tup (vs.map toV))):=by
 show (if (Value.type "tuple"==Value.type "list")=true then some (HO.frz { cls:=.type "tuple",data:=.seq vs.toArray } (.lst (vs.toArray.toList.map toV))) else some (HO.frz { cls:=.type "tuple",data:=.seq vs.toArray } (.tup (vs.toArray.toList.map toV))))=_
 rw[if_neg (by decide)]
section
variable {P:Program}{w:World}{K:PySem.W.Frag}{h:Heap}{A:List Addr}
theorem OF {b:Addr}{o:Obj} (hb:b∈A) (hk:K.lookup b=none) (e:h.get? b=some o):Gn K h A b=eF o:=by
 unfold Gn
 rw[if_pos hb,hk,if_pos (show (none:Option Obj).isNone=true from rfl),e]<;>rfl
theorem eP {b:Addr}{u:HO} (q:Gn K h A b=some u):b∈A/\K.lookup b=none:=by
 unfold Gn at q
 by_cases hb:b∈A
 ·rw[if_pos hb] at q
  cases hk:K.lookup b with
  |none=>exact ⟨hb,rfl⟩
  |some o=>
   rw[hk,if_neg (by simp)] at q
   cases q
 ·rw[if_neg hb] at q
  cases q
theorem OG (ar:∀a∈A,GK h A a) {b:Addr}{u:HO} (q:Gn K h A b=some u):K.lookup b=none/\∃vs:List Value,vs.length<=sizeLine/\(∀u∈vs,OkU A u) /\
  ((h.get? b=some { cls:=.type "list",data:=.seq vs.toArray }/\u = .frz { cls:=.type "list",data:=.seq vs.toArray } (.lst (vs.map toV))) \/
   (h.get? b=some { cls:=.type "tuple",data:=.seq vs.toArray }/\u = .frz { cls:=.type "tuple",data:=.seq vs.toArray } (.tup (vs.map toV)))):=by
 obtain ⟨hb,hk⟩:=eP q
 obtain ⟨vs,h1,h2,h3⟩:=ar b hb
 refine ⟨hk,vs,h1,h2,?_⟩
 rcases h3 with e|e
 ·rw[OF hb hk e,Wb] at q
  exact .inl ⟨e,(Option.some.inj q).symm⟩
 ·rw[OF hb hk e,Wc] at q
  exact .inr ⟨e,(Option.some.inj q).symm⟩
theorem ZE (ar:∀a∈A,GK h A a):Vs (Gn K h A):=fun b=>by
 cases q:Gn K h A b with
 |none=>exact .inl rfl
 |some u=>
  obtain ⟨_,vs,_,_,⟨_,e⟩|⟨_,e⟩⟩:=OG ar q
  ·exact .inr ⟨_,_,by rw[e]⟩
  ·exact .inr ⟨_,_,by rw[e]⟩
theorem dP (ar:∀a∈A,GK h A a):HOk P w (Gn K h A) h:=fun b u q=>by
 obtain ⟨_,vs,h1,h2,⟨e,rfl⟩|⟨e,rfl⟩⟩:=OG ar q
 ·exact ⟨e,by rw[List.length_map];exact h1,vs,_,Gj h2,e⟩
 ·exact ⟨e,by rw[List.length_map];exact h1,vs,Gj h2,_,e,rfl,_,rfl⟩
theorem OP {c c':Value}{vs us:List Value} (e:(some { cls:=c,data:=.seq vs.toArray }:Option Obj)=some { cls:=c',data:=.seq us.toArray }):c=c'/\vs=us:=by
 have e1:=Option.some.inj e
 have e2:c=c':=congrArg Obj.cls e1
 have e3:Data.seq vs.toArray=Data.seq us.toArray:=congrArg Obj.data e1
 injection e3 with e4
 refine ⟨e2,?_⟩
 have e5:=congrArg Array.toList e4
 simpa using e5
theorem jK (KX:K.In h) (ar:∀a∈A,GK h A a) {a:Addr}{vs:List Value} (ha:a∈A) (e:h.get? a=some { cls:=.type "list",data:=.seq vs.toArray }):(∀u∈vs,OkU A u)/\SqL K (Gn K h A) a (vs.map toV):=by
 obtain ⟨us,h1,h2,h3⟩:=ar a ha
 have hu:us=vs:=by
  rcases h3 with q|q
  ·rw[e] at q
   exact (OP q).2.symm
  ·rw[e] at q
   exact absurd (Value.type.inj (OP q).1) (by decide)
 subst hu
 refine ⟨h2,?_⟩
 cases hk:K.lookup a with
 |none=>exact .inl (.inr ⟨_,by rw[OF ha hk e,Wb]⟩)
 |some o=>
  have e2:=KX a o hk
  rw[e] at e2
  obtain rfl:=Option.some.inj e2
  exact .inr ⟨_,us.toArray,_,hk,rfl,rfl,rfl,by rw[List.size_toArray];exact h1,by simpa using Gj h2⟩
theorem jL (KX:K.In h) (ar:∀a∈A,GK h A a) {a:Addr}{vs:List Value} (ha:a∈A) (e:h.get? a=some { cls:=.type "tuple",data:=.seq vs.toArray }):(∀u∈vs,OkU A u)/\SqT K (Gn K h A) a (vs.map toV):=by
 obtain ⟨us,h1,h2,h3⟩:=ar a ha
 have hu:us=vs:=by
  rcases h3 with q|q
  ·rw[e] at q
   exact absurd (Value.type.inj (OP q).1) (by decide)
  ·rw[e] at q
   exact (OP q).2.symm
 subst hu
 refine ⟨h2,?_⟩
 cases hk:K.lookup a with
 |none=>exact .inl (.inr ⟨_,by rw[OF ha hk e,Wc]⟩)
 |some o=>
  have e2:=KX a o hk
  rw[e] at e2
  obtain rfl:=Option.some.inj e2
  exact .inr ⟨_,us.toArray,_,hk,rfl,rfl,by rw[List.size_toArray];exact h1,by simpa using Gj h2⟩
mutual
theorem gC {Pm:Params} (KX:K.In h) (ar:∀a∈A,GK h A a):∀(d:WData) (v:Value),Well Pm h v d->plW d=true->OkU A v->Dw K (Gn K h A) (toV v) d
 |.none,_,x,_,_=>by
  cases x
  exact .non
 |.bool b,_,x,_,_=>by
  cases x
  exact .bl b
 |.int i,_,x,_,_=>by
  cases x
  exact .int i
 |.str s,_,x,_,_=>by
  cases x
  exact .str s
 |.bytes b,_,x,_,_=>by
  cases x
  have z:=Dw.byt (K:=K) (H:=Gn K h A) b.toArray
  exact z
 |.list ds,_,x,p,hu=>by
  obtain ⟨a,vs,rfl,ho,hall⟩:=Tx x
  obtain ⟨h2,hs⟩:=jK KX ar hu ho
  exact .lst hs (TZ KX ar ds _ hall p h2)
 |.tuple ds,_,x,p,hu=>by
  obtain ⟨a,vs,rfl,ho,hall⟩:=Rw x
  obtain ⟨h2,hs⟩:=jL KX ar hu ho
  exact .tup hs (TZ KX ar ds _ hall p h2)
 |.float _,_,_,p,_=>Bool.noConfusion (show false=true from p)
 |.dict _,_,_,p,_=>Bool.noConfusion (show false=true from p)
 |.bytearray _,_,_,p,_=>Bool.noConfusion (show false=true from p)
 |.set _,_,_,p,_=>Bool.noConfusion (show false=true from p)
 |.frozenset _,_,_,p,_=>Bool.noConfusion (show false=true from p)
 |.obj _ _,_,_,p,_=>Bool.noConfusion (show false=true from p)
theorem TZ {Pm:Params} (KX:K.In h) (ar:∀a∈A,GK h A a):∀(ds:List WData) (vs:List Value),WellAll Pm h vs ds->OC ds=true->(∀u∈vs,OkU A u)->GL K (Gn K h A) (vs.map toV) ds
 |[],_,x,_,_=>by
  cases x
  exact .nil
 |d::ds,_,x,p,hu=>by
  obtain ⟨v,vs,rfl,x1,x2⟩:=Tw x
  have q:plW d=true/\OC ds=true:=Bool.and_eq_true_iff.mp p
  exact .cons (gC KX ar d v x1 q.1 (hu _ (List.mem_cons_self ..))) (TZ KX ar ds vs x2 q.2 fun u m=>hu u (List.mem_cons_of_mem _ m))
end
end
theorem aO {P:Program}{w:World}{K:PySem.W.Frag}{mg mb:Str->Option Value}{CX:CXT}{k:Nat}{fa:Addr}{fd:FuncData}{ps:List Str}{sp:Sp}{s₁:Shared}{vals:List Value}{ds:List WData}{R:PySem.W.WRecords}{cl:Str->Option Addr}{d0:WData}
  (KX:K.In s₁.heap) (hns:s₁.heap.Ns mainGlobals mg) (hb:s₁.heap.Ns builtinsNs mb) (hbb:∀x:Str,x≠"__name__"->mb x=bootBuiltins x) (hlim:s₁.heap.NoLimit) (hg:s₁.gens = #[])
  (hwl:WellAll w.params s₁.heap vals ds) (hpl:OC ds=true) (hwt:∀d∈ds,d.weight<=1048576) (hr:Cm k callerA)
  (F:∀base:Heap,K.In base->base.Ns mainGlobals mg->FD P w K mg base CX k fa fd ps sp) (hbind:∀(s:Shared) (us:List Value),us.length=ps.length->BindsTo s fd ⟨us,[]⟩ (ps.zip us)) (hlen:ds.length=ps.length)
  (hsp:∀(H:Hp) (xs:List V),Vs H->GL K H xs ds->sp xs H (fun v H'=>Dw K H' v d0) fun _ _ _=>False)
  (hCX:∀H e s',CX [] H s₁ (fun _ _ _=>False) e s'->False) :
  codeAny (model P w) callerA (.call (.ref fa) ⟨vals,[]⟩) (fun r s'=>∃u as,r = .ok (.ret u)/\ReadsW R cl s'.heap u d0 as/\OldK s₁.heap s'.heap/\s'.os=s₁.os/\AllBare s'.gens) s₁:=by
 obtain ⟨A,ho,ar⟩:=Kr ds vals hwl hpl hwt
 have hO:Vs (Gn K s₁.heap A):=ZE ar
 have hok:HOk P w (Gn K s₁.heap A) s₁.heap:=dP ar
 have hS:=TZ KX ar ds vals hwl hpl ho
 have hV:=Gj ho
 have hK:∀b u,Gn K s₁.heap A b=some u->K.lookup b=none:=fun b u q=>(OG ar q).1
 have noA:∀{b:Addr}{o:Obj}{es:Array DictEntry}{ep:Nat},s₁.heap.get? b=some o->o.data = .dict es ep->Gn K s₁.heap A b=none:=fun {b o es ep} e d=>by
  cases q:Gn K s₁.heap A b with
  |none=>rfl
  |some u=>
   obtain ⟨_,vs,_,_,⟨e2,_⟩|⟨e2,_⟩⟩:=OG ar q
   ·rw[e2] at e
    cases e
    have d':Data.seq vs.toArray _=Data.dict es ep:=d
    cases d'
   ·rw[e2] at e
    cases e
    have d':Data.seq vs.toArray _=Data.dict es ep:=d
    cases d'
 generalize Gn K s₁.heap A=H at hO hok hS hK noA
 have base_of:∀{b:Addr}{o:Obj},s₁.heap.get? b=some o->H b=none->(Up s₁.heap H).get? b=some o:=fun e n=>bU e n
 have nsK:∀{b:Addr}{m:Str->Option Value},s₁.heap.Ns b m->(Up s₁.heap H).Ns b m:=fun {b m} ⟨o,es,ep,e,d,r⟩=>⟨o,es,ep,base_of e (noA e d),d,r⟩
 have nK:∀b o,K.lookup b=some o->H b=none:=fun b o e=>by
  cases q:H b with
  |none=>rfl
  |some u=>
   rw[hK b u q] at e
   cases e
 have hKb:K.In (Up s₁.heap H):=fun b o e=>base_of (KX b o e) (nK b o e)
 have hM:Mod K mg (Up s₁.heap H):=⟨hKb,nsK hns,⟨mb,nsK hb,hbb⟩,let ⟨mc,h1,h2⟩:=hlim;⟨mc,nsK h1,h2⟩⟩
 have e0:Xp P w K mg (Up s₁.heap H) callerA [] s₁ H:=⟨rfl,hM,fun b o e=>eQ e,Nat.le_of_eq (ZY _ _),trivial,fun b hb=>absurd (show b∈([]:List Addr) from hb) (by simp),hok,.of_eq hg⟩
 have hl:vals.length=ps.length:=by rw[FC hwl];exact hlen
 refine codeAny_mono ((F _ hKb (nsK hns)).run callerA [] s₁ H ⟨vals,[]⟩ vals (vals.map toV) _ _ hr e0 (hbind s₁ vals hl) hV (hsp H _ hO hS)) fun r s' x=>?_
 cases r with
 |error e=>exact (hCX H e s' x).elim
 |ok fl=>
  cases fl with
  |next=>exact False.elim x
  |brk=>exact False.elim x
  |cont=>exact False.elim x
  |ret u=>
   obtain ⟨v,H',os,bare,un,hok',r',q⟩:=x
   have kept:∀b o,s₁.heap.get? b=some o->s'.heap.get? b=some o:=fun b o e=>by
    cases q2:H b with
    |none=>exact un.keep b o e q2 (by intro z;exact absurd (show b∈([]:List Addr) from z) (by simp)) (by simp)
    |some u2=>
     rcases hO b with z|⟨ob,u3,z⟩
     ·rw[q2] at z
      cases z
     ·have z2:=un.Of b ob _ z
      obtain ⟨e1,_⟩:=hok b _ z
      obtain ⟨e2,_⟩:=hok' b _ z2
      rw[e] at e1
      cases e1
      exact e2
   have KX':K.In s'.heap:=fun b o e=>kept b o (KX b o e)
   obtain ⟨as,hrd⟩:=Dw.reads (R:=R) (cl:=cl) hok' KX' d0 v u q r'
   exact ⟨u,as,rfl,hrd,OldK.of_keep kept,os,bare⟩
theorem PN {ds:List WData} (h:WData.layableAll ds=true):∀d∈ds,d.weight<=1048576:=fun d hd=>
 (PySem.W.layableW_iff.mp (List.all_eq_true.mp h d hd)).2.2
theorem Pj:∀(cs:List Codec) (a:Codec.denoteAll cs),(Codec.encAll cs a).length=cs.length
 |[],_=>rfl
 |c::cs,a=>by
  show (Codec.encAll cs a.2).length+1=cs.length+1
  rw[Pj cs a.2]
theorem aZ {r:OpenSpec}{k:Nat}{q:Program}{loose:List Str}{XP:(Str->Option Value)->Heap->Prop}{YP:World->Heap->Prop}{d:DefRec}{K:Params->PySem.W.Frag}{CX:World->CXT}{ps:List Str}{sp:World->Sp}
  (hwell:r.wellSaid=true) (hdf:d.params.defaults=[]) (hlen:r.args.length=ps.length) (hr:Cm k callerA)
  (hY:∀(w:World) (h:Heap),YP w h->(K w.params).In h)
  (F:∀(w:World) (mg:Str->Option Value) (fa:Addr) (h:Heap),YP w h->(K w.params).In h->h.Ns mainGlobals mg->mg d.name=some (.ref fa) ->
   ∃fd:FuncData,(∀(s:Shared) (us:List Value),us.length=ps.length->BindsTo s fd ⟨us,[]⟩ (ps.zip us)) /\
    ∀base:Heap,(K w.params).In base->base.Ns mainGlobals mg->FD r.prog w (K w.params) mg base (CX w) k fa fd ps (sp w))
  (hsp:∀(w:World) (H:Hp) (xs:List V) (a:Codec.denoteAll r.args),Vs H->Codec.withinAll r.args a=true->Codec.app r.args r.asked a=true->GL (K w.params) H xs (Codec.encAll r.args a) ->
   sp w xs H (fun v H'=>Dw (K w.params) H' v (r.ret.enc (Codec.app r.args r.f a))) fun _ _ _=>False)
  (hCX:∀(w:World) (H:Hp) (s:Shared) (e:Value) (s':Shared),CX w [] H s (fun _ _ _=>False) e s'->False) :
  PySem.W.WalkOS q loose XP YP r d [] (fun f vs=>PySem.call f vs):=by
 intro w s_0 s₁ mg mb G Y fa o pm cd doc dV kV ho hd hcd hD hmg hg args vals as hpre hlay hrd hwl hlo
 obtain ⟨a,e1,e2⟩:=PySem.W.os_pre_some hpre
 obtain ⟨e3,hwi⟩:=Codec.encAll_of_decAll r.args args a e1
 subst e3
 have KX:=hY w _ Y
 obtain ⟨fd,hb,hF⟩:=F w mg fa _ Y KX G.T.g hmg
 refine PySem.W.enter_call (codeAny_mono (aO (R:=[]) (cl:=classAt s_0.heap) (d0:=r.ret.enc (Codec.app r.args r.f a)) KX G.T.g G.T.b G.T.builtins G.T.nolimit hg hwl (Tg _ _) (PN hlay) hr hF hb (by rw[Pj];exact hlen)
  (fun H xs hO hS=>hsp w H xs a hO hwi e2 hS) fun H e s'=>hCX w H s₁ e s') fun r' s' hq=>?_)
 obtain ⟨u,as',rfl,h1,h2,h3,h4⟩:=hq
 exact ⟨.inl ⟨u,_,as',rfl,fun _=>rfl,h1,(OpenSpec.post_iff hwell hwi _ _).mpr rfl,fun z=>Bool.noConfusion (show false=true from z)⟩,h2,h3,h4⟩
end L2
namespace Td
open PySem PySem.Spec PyProof.Rows L2
open PySem.W (WData Codec OpenSpec)
section
variable {K:PySem.W.Frag}{h:Heap}{mg:Str->Option Value}{x q:Str}{st:Stmt}{C f:Addr}{oc kV dc pm cd ct:Value}{od an:Option Addr}{sl:Array (Option Value)}
theorem iX {n:Int}{t:Tok} (X:K.In h) (G:h.Ns mainGlobals mg) (e:PySem.W.nsIn K mainGlobals x=some (some (.int n t))):GI mg x n:=⟨t,PySem.W.mg_of X G e⟩
theorem iY {n:Str}{t:Tok} (X:K.In h) (G:h.Ns mainGlobals mg) (e:PySem.W.nsIn K mainGlobals x=some (some (.str n t))):GS mg x n:=⟨t,PySem.W.mg_of X G e⟩
theorem jG (l:K.lookup f=some ⟨oc,od,.func (PySem.W.fnOf x q (EB st) (Cn st) (Ah st) .none kV dc pm an cd ct),sl⟩) (c:PySem.W.codeIn K cd q=true) (k:PySem.W.keepIn K (.ref f)=true):∃fd,Fun K x q st f fd:=⟨_,Uo l c k⟩
theorem jF {fI N:Addr}{nm q:Str}{bs:List Value}{sn:List Str}{sub:List Value}{ab:Bool}{col:Option Bool}{dd:Option Addr}{k0 k1 k2 k3 k5:Option Value}{oc:Value}{od:Option Addr}{es:Array DictEntry}{en:Nat}{sl:Array (Option Value)}
  (l:K.lookup C=some (excClassObj nm q C N bs Fs true sn sub ab col dd k0 k1 k2 k3 k5 "Exception.__new__")) (l2:K.lookup N=some ⟨oc,od,.dict es en,sl⟩) (h1:(es.toList.all fun e=>bX e.key)=true)
  (h2:(["kind","place","__setattr__","__getattribute__","__getattr__"]:List Str).all (fun n=>(nsFind es n).isNone)=true) (e:PySem.W.findIn K (.ref C) "__init__" = some (some (.ref fI))) (i:PySem.W.isFn K (.ref fI)=true) (k:PySem.W.keepIn K (.ref C)=true):XC K C fI:=
 ⟨⟨nm,q,N,bs,sn,sub,ab,col,dd,k0,k1,k2,k3,k5,oc,od,es,en,sl,l,l2,h1,h2⟩,e,i,k⟩
theorem gz (X:K.In h) (G:h.Ns mainGlobals mg) (e:PySem.W.nsIn K mainGlobals x=some (some (.ref f))) (l:K.lookup f=some ⟨oc,od,.func (PySem.W.fnOf x x (EB st) (Cn st) (Ah st) .none kV dc pm an cd ct),sl⟩)
  (c:PySem.W.codeIn K cd x=true) (k:PySem.W.keepIn K (.ref f)=true):AM K mg x st:=⟨f,_,Uo l c k,PySem.W.mg_of X G e⟩
theorem hU (e:PySem.W.findIn K (.ref C) x=some (some (.ref f))) (i:PySem.W.isFn K (.ref f)=true) (l:K.lookup f=some ⟨oc,od,.func (PySem.W.fnOf x q (EB st) (Cn st) (Ah st) .none kV dc pm an cd ct),sl⟩)
  (c:PySem.W.codeIn K cd q=true) (k:PySem.W.keepIn K (.ref f)=true):GN K x q C st:=⟨f,_,Uo l c k,⟨e,i,k⟩⟩
theorem gO (X:K.In h) (G:h.Ns mainGlobals mg) (g:PySem.W.nsIn K mainGlobals x=some (some (.ref C))) (e:PySem.W.findIn K (.ref C) "__init__" = some (some (.ref f))) (i:PySem.W.isFn K (.ref f)=true)
  (l:K.lookup f=some ⟨oc,od,.func (PySem.W.fnOf "__init__" q (EB st) (Cn st) (Ah st) .none kV dc pm an cd ct),sl⟩) (c:PySem.W.codeIn K cd q=true) (k:PySem.W.keepIn K (.ref f)=true)
  (m:PySem.W.makesIn K C=true) (kc:PySem.W.keepIn K (.ref C)=true):Ko K mg x C st:=⟨f,_,q,Uo l c k,⟨m,e,i,kc⟩,PySem.W.mg_of X G g⟩
theorem dH {p:Addr}{dd:Option Addr}{its:Array Value}{n:Nat} (X:K.In h) (G:h.Ns mainGlobals mg) {xs:List V} (g:PySem.W.nsIn K mainGlobals x=some (some (.ref p))) (l:K.lookup p=some ⟨.type "tuple",dd,.seq its n,sl⟩) (hs:its.size<=sizeLine) (hv:Vals xs its.toList) :
  ∃p,mg x=some (.ref p)/\∀H,SqT K H p xs:=⟨p,PySem.W.mg_of X G g,fun _=>.inr ⟨_,its,n,l,rfl,rfl,hs,hv⟩⟩
end
theorem gx {C:Addr}{P:Program}{w:World}{H:Hp}{s:Shared}{e:Value}{s':Shared} (h:CXF C P w [] H s (fun _ _ _=>False) e s'):False:=by
 obtain ⟨_,_,_,_,_,_,_,_,_,_,_,_,_,_,_,_,_,z⟩:=h
 exact z
theorem all_mk {P:Program}{w:World}{K:PySem.W.Frag}{mg:Str->Option Value}{fa:Addr}{a:Ad} (hfa:mg "answers" = some (.ref fa)) (T:Txt K mg a) :
  ∃fd:FuncData,(∀(s:Shared) (us:List Value),us.length=(["calls"]:List Str).length->BindsTo s fd ⟨us,[]⟩ ((["calls"]:List Str).zip us))/\∀base:Heap,K.In base->base.Ns mainGlobals mg->FD P w K mg base (CXF a.CF P w) 14 fa fd ["calls"] (GG K):=by
 obtain ⟨f,fd,F,m⟩:=T.ZR
 have e:=hfa.symm.trans m
 cases e
 refine ⟨fd,?_,fun base _ _=>Yq T F⟩
 obtain ⟨oc,od,kV,doc,pm,an,cdv,ct,osl,rfl,lk,hcd⟩:=F.ex
 exact fun s us hu=>match us,hu with|[_],_=>.of_eq rfl
theorem fP {r:OpenSpec}{q:Program}{loose:List Str}{XP:(Str->Option Value)->Heap->Prop}{YP:World->Heap->Prop}{d:DefRec}{K:Params->PySem.W.Frag} (a:Ad)
  (hwell:r.wellSaid=true) (hdf:d.params.defaults=[]) (hlen:r.args.length=1) (hY:∀(w:World) (h:Heap),YP w h->(K w.params).In h) (hn:d.name="answers")
  (T:∀(w:World) (mg:Str->Option Value) (h:Heap),YP w h->(K w.params).In h->h.Ns mainGlobals mg->Txt (K w.params) mg a)
  (hsp:∀(K:PySem.W.Frag) (H:Hp) (xs:List V) (v:Codec.denoteAll r.args),Vs H->Codec.withinAll r.args v=true->Codec.app r.args r.asked v=true->GL K H xs (Codec.encAll r.args v) ->
   GG K xs H (fun u H'=>Dw K H' u (r.ret.enc (Codec.app r.args r.f v))) fun _ _ _=>False):PySem.W.WalkOS q loose XP YP r d [] (fun f vs=>PySem.call f vs):=
 aZ (K:=K) (CX:=fun w=>CXF a.CF r.prog w) (sp:=fun w=>GG (K w.params)) (k:=14) (ps:=["calls"]) hwell hdf hlen ⟨rfl,by decide,by decide⟩ hY
  (fun w mg fa h Y KX G hmg=>all_mk (by rw[hn] at hmg;exact hmg) (T w mg h Y KX G)) (fun w H xs v h1 h2 h3 h4=>hsp (K w.params) H xs v h1 h2 h3 h4) fun w H s e s' h=>gx h
end Td
namespace PySem.W.Fast
theorem tw95451341532999855:True:=⟨⟩
theorem tw7725649735662624826:True:=⟨⟩
theorem tw10534180812501683347:True:=⟨⟩
theorem tw9427321706939038585:True:=⟨⟩
theorem tw11518030519614477540:True:=⟨⟩
theorem tw17969938724919281091:True:=⟨⟩
theorem tw952937091790175736:True:=⟨⟩
theorem tw8149901955668253617:True:=⟨⟩
theorem tw8110686616435555710:True:=⟨⟩
theorem tw16467438062810204886:True:=⟨⟩
theorem tw3266101020591493417:True:=⟨⟩
theorem tw17265871618854202221:True:=⟨⟩
theorem tw17508542311406262926:True:=⟨⟩
theorem tw16409249713461125052:True:=⟨⟩
theorem tw5510945671866395280:True:=⟨⟩
theorem tw60674341068697113:True:=⟨⟩
theorem tw3282441235328454942:True:=⟨⟩
theorem tw13535752403602737056:True:=⟨⟩
theorem tw13843311318499778490:True:=⟨⟩
theorem tw1133090199268228512:True:=⟨⟩
theorem tw9444605207439424841:True:=⟨⟩
theorem tw2874660897296142129:True:=⟨⟩
theorem tw11119929430642159246:True:=⟨⟩
theorem tw15853179951907651532:True:=⟨⟩
theorem tw7657456599708900349:True:=⟨⟩
theorem tw420191026596392767:True:=⟨⟩
theorem tw7907188549863797673:True:=⟨⟩
theorem tw1823999703935594890:True:=⟨⟩
theorem tw17476369452727208830:True:=⟨⟩
theorem tw17926399147329991075:True:=⟨⟩
theorem tw5828223940725536807:True:=⟨⟩
theorem tw15262153460269383300:True:=⟨⟩
theorem tw17536111339225590418:True:=⟨⟩
theorem tw10696223547605175293:True:=⟨⟩
theorem tw13196634019919595233:True:=⟨⟩
theorem tw5580314101198228623:True:=⟨⟩
theorem tw4645202171266470303:True:=⟨⟩
theorem tw3903567782935962366:True:=⟨⟩
theorem tw10134124938802303393:True:=⟨⟩
theorem tw13898099187988044976:True:=⟨⟩
theorem tw15757363493804934689:True:=⟨⟩
theorem tw16099265038132128342:True:=⟨⟩
theorem tw8214234135256786036:True:=⟨⟩
theorem tw7219270419976566079:True:=⟨⟩
theorem tw7627078407882784492:True:=⟨⟩
theorem tw11762837745101525673:True:=⟨⟩
theorem tw6127348921611435323:True:=⟨⟩
theorem tw1261523815565834475:True:=⟨⟩
theorem tw7155591545650879258:True:=⟨⟩
theorem tw5337009416024856730:True:=⟨⟩
theorem tw9990369502135189723:True:=⟨⟩
theorem tw17346401387175138434:True:=⟨⟩
theorem tw10141623309946166444:True:=⟨⟩
theorem tw5731527129667727217:True:=⟨⟩
theorem tw14942772525971413865:True:=⟨⟩
theorem tw2422512500125790600:True:=⟨⟩
theorem tw7191905763191682095:True:=⟨⟩
theorem tw5040656365026049346:True:=⟨⟩
theorem tw2611884527132153885:True:=⟨⟩
theorem tw15558930406818811338:True:=⟨⟩
theorem tw2480941171428369362:True:=⟨⟩
theorem tw16409493239379484131:True:=⟨⟩
theorem tw4204911575978885122:True:=⟨⟩
theorem tw17473703340145811702:True:=⟨⟩
theorem tw18363799432522913771:True:=⟨⟩
theorem tw13006645769042074039:True:=⟨⟩
theorem tw8768747257898798380:True:=⟨⟩
theorem tw12630243197030940884:True:=⟨⟩
theorem tw2015997198382058634:True:=⟨⟩
theorem tw3971862928986655494:True:=⟨⟩
theorem tw14401034916588374620:True:=⟨⟩
theorem tw10144850790877484967:True:=⟨⟩
theorem tw9720053607639173725:True:=⟨⟩
theorem tw2703742304412950160:True:=⟨⟩
theorem tw3239460243932334472:True:=⟨⟩
theorem tw40279737015381807:True:=⟨⟩
theorem tw13189170716909497681:True:=⟨⟩
theorem tw1230646357917022512:True:=⟨⟩
theorem tw1905742507358102464:True:=⟨⟩
theorem tw7336544717450346543:True:=⟨⟩
theorem tw3252740005314582313:True:=⟨⟩
theorem tw8368281135733527735:True:=⟨⟩
theorem tw3338491689031570671:True:=⟨⟩
theorem tw15726347229142515588:True:=⟨⟩
theorem tw15670373505791540543:True:=⟨⟩
theorem tw8932509699498878010:True:=⟨⟩
theorem tw14841805550608226433:True:=⟨⟩
theorem tw5457049961165657583:True:=⟨⟩
theorem tw2017506457751288990:True:=⟨⟩
theorem tw5682054529417787385:True:=⟨⟩
theorem tw10742830993149539488:True:=⟨⟩
theorem tw11019675583962682146:True:=⟨⟩
theorem tw14675244598399809702:True:=⟨⟩
theorem tw14978588652030330650:True:=⟨⟩
theorem tw12804930342986108190:True:=⟨⟩
theorem tw5863163199759471099:True:=⟨⟩
theorem tw10789816342282265882:True:=⟨⟩
theorem tw4505588346164098797:True:=⟨⟩
theorem tw4891312279945971767:True:=⟨⟩
theorem tw14353472522138583192:True:=⟨⟩
theorem tw17340610275210411336:True:=⟨⟩
theorem tw10183067566383210876:True:=⟨⟩
theorem tw1006793778488609055:True:=⟨⟩
theorem tw10291878717972029690:True:=⟨⟩
theorem tw3326766809400555816:True:=⟨⟩
theorem tw14482854900772257410:True:=⟨⟩
theorem tw11937147122361759946:True:=⟨⟩
theorem tw1556950462051215329:True:=⟨⟩
theorem tw11517890031041098327:True:=⟨⟩
theorem tw2732202684123595087:True:=⟨⟩
theorem tw10100953441506143243:True:=⟨⟩
theorem tw1635177700931401854:True:=⟨⟩
theorem tw960988501673205330:True:=⟨⟩
theorem tw9194013233880760356:True:=⟨⟩
theorem tw11025681019378540347:True:=⟨⟩
theorem tw8657421018951829455:True:=⟨⟩
theorem tw11499462211951010334:True:=⟨⟩
theorem tw9906367429152696892:True:=⟨⟩
theorem tw14135368422567081437:True:=⟨⟩
theorem tw4212618005623755409:True:=⟨⟩
theorem tw12148230087466031612:True:=⟨⟩
theorem tw8556127207887378238:True:=⟨⟩
theorem tw16639414411247304825:True:=⟨⟩
theorem tw6321119748634569065:True:=⟨⟩
theorem tw5924875433067675339:True:=⟨⟩
theorem tw280036408100742981:True:=⟨⟩
theorem tw6917091206458273809:True:=⟨⟩
theorem tw12796111049035452374:True:=⟨⟩
theorem tw13412896726854181594:True:=⟨⟩
theorem tw3268801685169574926:True:=⟨⟩
theorem tw4929580037371254680:True:=⟨⟩
theorem tw3989739054058799259:True:=⟨⟩
theorem tw10370032403387868712:True:=⟨⟩
theorem tw7613383076013547115:True:=⟨⟩
theorem tw17594374483871853449:True:=⟨⟩
theorem tw11852235092807328457:True:=⟨⟩
theorem tw13180684862343917896:True:=⟨⟩
theorem tw13041476472797588924:True:=⟨⟩
theorem tw12853056579537027095:True:=⟨⟩
theorem tw9557556554443859573:True:=⟨⟩
end PySem.W.Fast
open PySem PySem.W PyProof.Rows
set_option maxRecDepth 100000 in
set_option maxHeartbeats 0 in
theorem PySem.Challenge.cw_tidemachine_s01_answers_holds : PySem.Challenge.rw_tidemachine_s01_answers.Holds := by
  w_on; k_headS; (case hw => exact ⟨[.list [.int 3]], by decide +kernel, by decide +kernel⟩)
  k_fillS
  refine' Td.fP (r := PySem.Challenge.rw_tidemachine_s01_answers) ⟨31, 28, 142, 163, 184, 320, 341, 362, 572⟩ (by decide +kernel) rfl rfl (fun w h Y => PySem.W.kIn_of Y) rfl ?T ?S
  case T =>
    intro w mg h Y KX G
    refine' Td.Txt.mk ?_ ?_ ?_ ?_ ?_ ?_ ?_ ?_ ?_ ?_ ?_ ?_ ?_ ?_ ?_ ?_ ?_ ?_ ?_ ?_ ?_ ?_ ?_ ?_ ?_ ?_ ?_ ?_ ?_ ?_ ?_ ?_ ?_ ?_ ?_ ?_ ?_ ?_ ?_ ?_ ?_ ?_ ?_ ?_ ?_ ?_ ?_ ?_ ?_ ?_ ?_ ?_ ?_ ?_ ?_ ?_ ?_ ?_ ?_ ?_ ?_ ?_ ?_ ?_ ?_ ?_ ?_ ?_ ?_ ?_ ?_ ?_ ?_ ?_ ?_ ?_ ?_ ?_ ?_ ?_ ?_ ?_ ?_ ?_ ?_ ?_ ?_ ?_ ?_ ?_ ?_ ?_ ?_ ?_ ?_ ?_ ?_ ?_ ?_ ?_ ?_ ?_ ?_ ?_ ?_ ?_ ?_ ?_ ?_ ?_ ?_ ?_ ?_ ?_ ?_ ?_ ?_ ?_ ?_ ?_ ?_ ?_ ?_ ?_ ?_ ?_ ?_ ?_ ?_ ?_ ?_ ?_ ?_ ?_ ?_ ?_ ?_ ?_ ?_ ?_ ?_ ?_ ?_ ?_ ?_ ?_ ?_ ?_ ?_ ?_ ?_ ?_ ?_ ?_ ?_ ?_ ?_ ?_ ?_ ?_ ?_ ?_ ?_ ?_ ?_ ?_ ?_ ?_ ?_ ?_ ?_ ?_ ?_ ?_ ?_ ?_ ?_ ?_ ?_ ?_ ?_ ?_ ?_ ?_ ?_ ?_ ?_
    all_goals first
      | (refine' Td.iX KX G ?a; (case a => k_is))
      | (refine' Td.iY KX G ?a; (case a => k_is))
      | (refine' PySem.W.mg_none_of KX G ?_; k_is)
      | (refine' PySem.W.mg_of KX G ?_; k_is)
      | (refine' Td.gz KX G ?a ?b ?c ?d; (case a => k_is); (case b => k_is); (case c => k_is); (case d => k_is))
      | (refine' Td.hU ?a ?b ?c ?d ?e; (case a => k_is); (case b => k_is); (case c => k_is); (case d => k_is); (case e => k_is))
      | (refine' Td.gO KX G ?a ?b ?c ?d ?e ?f ?g ?i; (case a => k_is); (case b => k_is); (case c => k_is); (case d => k_is); (case e => k_is); (case f => k_is); (case g => k_is); (case i => k_is))
      | (refine' L2.Cls.mk ?a ?b ?c ?d; (case a => k_is); (case b => k_is); (case c => k_is); (case d => k_is))
      | (unfold L2.Bf; k_is)
      | (refine' Td.jF ?a ?b ?c ?d ?e ?f ?g; (case a => k_is); (case b => k_is); (case c => rfl); (case d => rfl); (case e => k_is); (case f => k_is); (case g => k_is))
      | (refine' Td.jG ?a ?b ?c; (case a => k_is); (case b => k_is); (case c => k_is))
      | (refine' Td.dH KX G ?a ?b ?c ?d; (case a => k_is); (case b => k_is); (case c => decide); (case d => exact .cons ⟨_, rfl⟩ (.cons ⟨_, rfl⟩ (.cons ⟨_, rfl⟩ (.cons ⟨_, rfl⟩ (.cons ⟨_, rfl⟩ (.cons ⟨_, rfl⟩ (.cons ⟨_, rfl⟩ (.cons ⟨_, rfl⟩ (.cons ⟨_, rfl⟩ (.cons ⟨_, rfl⟩ .nil)))))))))))
  case S =>
    intro K H xs a hO hwi hask hx
    cases hx with
    | cons h1 h2 =>
      cases h2
      cases h1 with
      | lst hs ha =>
        have e := L2.Zf a.1 _ ha
        subst e
        have q : ((Codec.inLen 0 30000 a.1 && a.1.all (Codec.inInt (-4294967296) 4294967296)) && true) = true := hwi
        rw [Bool.and_eq_true, Bool.and_eq_true] at q
        exact ⟨_, a.1, rfl, hs, (Codec.inNat_iff.mp q.1.1).2, hask, fun q H' hp => .lst (L2.SqL.of hp) (L2.YZ _)⟩
