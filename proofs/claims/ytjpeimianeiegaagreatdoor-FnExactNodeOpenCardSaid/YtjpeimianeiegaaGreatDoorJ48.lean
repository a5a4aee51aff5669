import Derived.Test.YtjpeimianeiegaaGreatDoorJ42
import Derived.Test.YtjpeimianeiegaaGreatDoorJ18
set_option maxRecDepth 100000
set_option maxHeartbeats 16000000
namespace Go.Proofs.YtjpeimianeiegaaGreatDoor
open Go.RowKit Tryz
theorem aJx {x:ByteArray}:(x.toList==[])=decide (x.size=0):=by
 rw[ByteArray.toList_eq,mJ];cases x.data.toList<;>simp
theorem VV {s:ByteArray} (hs:s.size<=1048576) {p0:Option Nat} (h0:∀b,p0=some b->b<=s.size) (k:Nat):(aT s p0 k).1.length<=1000000/\aDy (aT s p0 k).1/\aNj (aT s p0 k).1/\(aC (aT s p0 k).1).size<=100000000:=by
 have h:=aGf h0 k;generalize (aT s p0 k).1=o at *;obtain⟨m,l⟩:=ns h;refine⟨by omega,fun i g=>?_,fun i g=>?_,by omega⟩;all_goals obtain⟨a,b,c,d,e⟩:=l i g
 ·exact⟨by omega,by omega,by omega,fun j f=>by have:=d j f;omega,fun j f=>by have:=e j f;omega⟩
 ·exact⟨by unfold maxLen;omega,fun j f=>by have:=d j f;omega,fun j f=>by have:=e j f;omega,by omega,by omega⟩
section
variable {s:ByteArray} {p0:Option Nat} {k n b:Nat} (hs:s.size≤1048576) (h0:∀b,p0=some b→b≤s.size)
theorem aOg {p:Option Nat} (d:s.size<=1048576) (a:∀b,p=some b->b<=s.size) (W:World):Calls prog 45 #[.string s,.int .i64 (eI p),.int .i64 4] W fun e c=>e=.returned (.tuple #[.int .i64 ((mH s 4 p).1:Nat),.int .i64 (eI (mH s 4 p).2)])/\c=W:=by
 have:=yG s 4 p W (by omega) (fun q h=>by have:=a q h;omega) (by omega);rw[pF (by have:=DG s 4 p;omega)]at this;exact this
theorem xl (m:s.size<=1048576) (d:∀b,p0=some b->b<=s.size) (a:(wP s p0 k).2=some b):∃(g:ByteArray) (f i j:Int),eI (wP s p0 k).2=(b:Int)/\Hid (∀W,Calls prog 46 #[.string s,.int .i64 (b:Nat),.int .i64 2] W fun e c=>e=.returned (.tuple #[.string g,.int .i64 i])/\c=W)/\Hid (∀W,Calls prog 45 #[.string s,.int .i64 i,.int .i64 8] W fun e c=>e=.returned (.tuple #[.int .i64 f,.int .i64 j])/\c=W)/\Hid (rO (wP s p0 (k+1)).1=rO (wP s p0 k).1++[.string g,.int .i64 f]/\(wP s p0 (k+1)).1.length=(wP s p0 k).1.length+1/\eI (wP s p0 (k+1)).2=j)/\(wP s p0 k).1.length<=1000000:=by
 obtain⟨_,_,_,l⟩:=MP k b a;have:=l d;refine⟨_,_,_,_,by rw[a];rfl,fun W=>jO s 2 (some b) W (by omega) (fun b h=>by cases h;omega) (by omega),fun W=>yG s 8 _ W (by omega) (fun b h=>by have:=DI h;omega) (by omega),?_,?_⟩
 ·rw[aGb a,jx];exact⟨by rw[CT];rfl,by simp,rfl⟩
 ·have:=PZ d k;have:=AF (wP s p0 k).1;omega
theorem ma (h:¬(k<n/\∃q,(wP s p0 k).2=some q)) (d:k<=n):wP s p0 k=wP s p0 n/\(¬k<n\/k<n/\eI (wP s p0 n).2 = -1):=by
 rcases Ac k n with a|a
 ·have c:(wP s p0 k).2=none:=by
   cases hh:(wP s p0 k).2 with
   |none=>rfl
   |some b=>exact absurd ⟨a,b,hh⟩ h
  have e:=aGc c n d;exact⟨e.symm,Ea ⟨a,by rw[e,c];rfl⟩⟩
 ·obtain rfl:k=n:=by omega
  exact⟨rfl,Ba (by omega)⟩
theorem aIz (h:¬(k<n/\∃q,(aT s p0 k).2=some q)) (d:k<=n):aT s p0 k=aT s p0 n/\(¬k<n\/k<n/\eI (aT s p0 n).2 = -1):=by
 rcases Ac k n with a|a
 ·have c:(aT s p0 k).2=none:=by
   cases hh:(aT s p0 k).2 with
   |none=>rfl
   |some b=>exact absurd ⟨a,b,hh⟩ h
  have e:=aGh c n d;exact⟨e.symm,Ea ⟨a,by rw[e,c];rfl⟩⟩
 ·obtain rfl:k=n:=by omega
  exact⟨rfl,Ba (by omega)⟩
theorem aPc (j:s.size<=1048576) (m:∀b,p0=some b->b<=s.size) (l:(aT s p0 k).2=some b):∃(p:ByteArray) (c r t:Int) (d f:Nat) (g i:Option Nat),eI (aT s p0 k).2=(b:Int)/\Hid (∀W,Calls prog 46 #[.string s,.int .i64 (b:Nat),.int .i64 1] W fun e a=>e=.returned (.tuple #[.string p,.int .i64 r])/\a=W)/\Hid (∀W,Calls prog 45 #[.string s,.int .i64 r,.int .i64 8] W fun e a=>e=.returned (.tuple #[.int .i64 c,.int .i64 t])/\a=W)/\Hid (∀W,Calls prog 45 #[.string s,.int .i64 t,.int .i64 4] W fun e a=>e=.returned (.tuple #[.int .i64 (d:Nat),.int .i64 (eI g)])/\a=W)/\Hid (∀W,Calls prog 45 #[.string s,.int .i64 (eI (wP s g d).2),.int .i64 4] W fun e a=>e=.returned (.tuple #[.int .i64 (f:Nat),.int .i64 (eI i)])/\a=W)/\d<4294967296/\f<4294967296/\Hid (∀b,g=some b->b<=s.size)/\Hid (∀b,i=some b->b<=s.size)/\Hid ((aT s p0 (k+1)).1=(aT s p0 k).1++[⟨p,c,(wP s g d).1,(wP s i f).1⟩]/\eI (aT s p0 (k+1)).2=eI (wP s i f).2)/\(aT s p0 k).1.length<=1000000:=by
 obtain⟨_,_,_,u⟩:=aKz k b l;have:=u m;have o:∀q,(lMn s (some b)).2=some q->q<=s.size:=fun q h=>bJ h;refine⟨(ke s (some b)).1,zA (sj s (some b)).1,_,_,(lMn s (some b)).1,(lSn s (some b)).1,(lMn s (some b)).2,(lSn s (some b)).2,by rw[l];rfl,fun W=>jO s 1 (some b) W (by omega) (fun b h=>by cases h;omega) (by omega),fun W=>yG s 8 _ W (by omega) (fun b h=>by have:=DI h;omega) (by omega),aOg j fun q h=>bJ h,aOg j fun q h=>?_,by have:=DG s 4 (sj s (some b)).2;rw[lMn];omega,by have:=DG s 4 (SW s (some b)).2;rw[lSn];omega,o,fun q h=>bJ h,?_,(VV j m k).1⟩
 ·obtain⟨_,_,_,v⟩:=MP _ q h;exact v o
 ·rw[aGg l,vR,SW,QA];exact⟨rfl,rfl⟩
end
structure SD (w W:World) (c:nB) (N:Int) (v:Value):Prop where
 C:lA W w.heap.size #[.int .i64 c.w,.int .i64 c.tl,.int .i64 c.ml,.int .i64 c.sh,.int .i64 c.ha,.int .i64 c.sg] 40
 R:lA W (w.heap.size+1) #[.int .i64 0,.slice none 0 0] 35
 S:lA W (w.heap.size+1+1) #[.int .i64 N,v] 35
 B:Below w.heap.size w W
theorem SD.later {w W d:World} {c:nB} {N:Int} {v:Value} (h:SD w W c N v) (a:Below W.heap.size W d):SD w d c N v:=⟨h.C.later a,h.R.later a,h.S.later a,pA h.B a⟩
theorem SD.new {w:World} {c:nB} {N:Int} {v:Value}:SD w (((w.alloc (.cells #[.int .i64 c.w,.int .i64 c.tl,.int .i64 c.ml,.int .i64 c.sh,.int .i64 c.ha,.int .i64 c.sg] 40)).alloc (.cells #[.int .i64 0,.slice none 0 0] 35)).alloc (.cells #[.int .i64 N,v] 35)) c N v:=by
 have a:=(lA.new (w.alloc (.cells #[.int .i64 c.w,.int .i64 c.tl,.int .i64 c.ml,.int .i64 c.sh,.int .i64 c.ha,.int .i64 c.sg] 40)) #[.int .i64 0,.slice none 0 0] 35).alloc (.cells #[.int .i64 N,v] 35);have d:=lA.new ((w.alloc (.cells #[.int .i64 c.w,.int .i64 c.tl,.int .i64 c.ml,.int .i64 c.sh,.int .i64 c.ha,.int .i64 c.sg] 40)).alloc (.cells #[.int .i64 0,.slice none 0 0] 35)) #[.int .i64 N,v] 35;exact⟨((lA.new _ _ _).alloc _).alloc _,by simpa using a,by simpa using d,pA (pA (cA _ _) (cA _ _)) (cA _ _)⟩
theorem bm (c:nB) (s:ByteArray) (w:World) (hs:s.size<=1048576):
 Calls prog 21 #[tE c,.string s] w fun e w'=>fY c s w e w':=by
 have hp3:∀q,(SH s).2=some q->q<=s.size:=fun q h=>bJ h;have HN1:=bA (fun W=>yG s 8 (some 4) W (by omega) (fun q h=>by cases h;omega) (by omega));have HN2:=bA (fun W=>yG s 8 (sf s).2 W (by omega) (fun q h=>by have:q<=s.size:=bJ h;omega) (by omega));have HN3:=bA (fun W=>aOg (p:=(VR s).2) hs (fun q h=>bJ h) W);change Hid (∀W,Calls prog 45 #[.string s,.int .i64 4,.int .i64 8] W fun e w'=>e=.returned (.tuple #[.int .i64 (zA (sf s).1),.int .i64 (eI (sf s).2)])/\w'=W) at HN1;change Hid (∀W,Calls prog 45 #[.string s,.int .i64 (eI (sf s).2),.int .i64 8] W fun e w'=>e=.returned (.tuple #[.int .i64 (zA (VR s).1),.int .i64 (eI (VR s).2)])/\w'=W) at HN2;change Hid (∀W,Calls prog 45 #[.string s,.int .i64 (eI (VR s).2),.int .i64 4] W fun e w'=>e=.returned (.tuple #[.int .i64 ((SH s).1:Nat),.int .i64 (eI (SH s).2)])/\w'=W) at HN3;have hcl:(SH s).1<4294967296:=by have:=DG s 4 (VR s).2;rw[SH];omega
 have HLB:Hid ((QB s).1=(aT s (SH s).2 (SH s).1).1):=by show _=_;rw[QB]
 obtain⟨g1,g2,g3,g4⟩:=VV hs hp3 (SH s).1;have HSO:=bA (fun W av cap (h:eC W av (aT s (SH s).2 (SH s).1).1)=>vI c (zA (VR s).1) av cap _ W h g3 (by omega));have HEN:=bA (fun W av cap (h:eC W av (aT s (SH s).2 (SH s).1).1)=>ob (zA (sf s).1) (zA (VR s).1) av cap _ W h g2 (xe _) (yN _) (yN _) (by omega) g4);have HY:=bA (fun r h2 h3=>sw (c:=c) (s:=s) r (by omega) h2 h3);have E:=bA (fun h=>aBs (c:=c) (s:=s) h);rw[HLB.out]at HY E;have H0:=bA hp3;unfold fY;clear hp3 g1 g2 g3 g4 HLB;generalize pJ c s=D at *;generalize yI (zA (sf s).1) (zA (VR s).1) (aT s (SH s).2 (SH s).1).1=EB at *;generalize iB c (zA (VR s).1) (aT s (SH s).2 (SH s).1).1=SB at *;generalize zA (sf s).1=L at *;generalize zA (VR s).1=N at *;generalize eI (sf s).2=pL at *;generalize eI (VR s).2=pN at *;generalize (SH s).1=n at *;generalize (SH s).2=p0 at *;unfold tE at *;go_enter func21,ntmps21;iterate 3 (go_wp2_with fail;first|with_reducible refine fC (HN1.out _) ?_|with_reducible refine fC (HN2.out _) ?_|with_reducible refine fC (HN3.out _) ?_)
 go_upto_block 0 with fail;have P:=bA (SD.new (w:=w) (c:=c) (N:=N) (v:=.slice none 0 0));generalize (((w.alloc (.cells #[.int .i64 c.w,.int .i64 c.tl,.int .i64 c.ml,.int .i64 c.sh,.int .i64 c.ha,.int .i64 c.sg] 40)).alloc (.cells #[.int .i64 0,.slice none 0 0] 35)).alloc (.cells #[.int .i64 N,.slice none 0 0] 35))=W0 at *;go_cut [9] (fun _ A=>∃v,SD w A c N v/\pO A (w.heap.size+1+1+1) 107 v (aT s p0 n).1.length (aT s p0 n).1)
 case first=>
  go_wp2_with fail;go_loopw [9,14] (fun H i wr=>∃(k:Nat) (v:Value),k<=n/\i=.int .i64 k/\H=.int .i64 (eI (aT s p0 k).2)/\Hid (SD w wr c N v)/\Hid (pO wr (w.heap.size+1+1+1) 107 v (aT s p0 k).1.length (aT s p0 k).1)) (fun _ i _=>n-(intOf i).toNat)
  case atStart=>exact⟨0,_,Ha _,rfl,by rw[kg],P.out,by rw[kg];exact pO.nil _ _ _⟩
  case round=>
   obtain⟨k,v,hk,rfl,rfl,HG,HV⟩:=hrel;clear P;by_cases d:k<n/\∃p,(aT s p0 k).2=some p
   ·obtain⟨hlt,p,hp⟩:=d;obtain⟨nm,t,y1,y2,n1,n2,q0,q1,Y,P1,P2,P3,P4,hn1,hn2,hq0,hq1,F,hm⟩:=aPc hs H0.out hp;rw[Y];rename World=>f;clear Y hp;iterate 3 (go_wp2_with fail;first|with_reducible refine fC (P1.out _) ?_|with_reducible refine fC (P2.out _) ?_|with_reducible refine fC (P3.out _) ?_)
    go_upto_block 2 with fail;have X0:=bA (lA.new f #[.string nm,.int .i64 t,.slice none 0 0,.slice none 0 0] 107);have B0:=bA (cA f (.cells #[.string nm,.int .i64 t,.slice none 0 0,.slice none 0 0] 107));generalize f.alloc (.cells #[.string nm,.int .i64 t,.slice none 0 0,.slice none 0 0] 107)=w0 at *;go_cut [9] (fun a A=>a=.int .i64 (eI (wP s q0 n1).2)/\∃x,lA A f.heap.size #[.string nm,.int .i64 t,x,.slice none 0 0] 107/\A.ownsRow (f.heap.size+1) 111 2 x (wP s q0 n1).1.length (rO (wP s q0 n1).1)/\Below f.heap.size f A)
    case first=>
     go_wp2_with fail;go_loopw [9,22] (fun H j wr=>∃(m:Nat) (x:Value),m<=n1/\j=.int .i64 m/\H=.int .i64 (eI (wP s q0 m).2)/\Hid (lA wr f.heap.size #[.string nm,.int .i64 t,x,.slice none 0 0] 107)/\Hid (wr.ownsRow (f.heap.size+1) 111 2 x (wP s q0 m).1.length (rO (wP s q0 m).1))/\Hid (Below f.heap.size f wr)) (fun _ j _=>n1-(intOf j).toNat)
     case atStart=>exact⟨0,_,Ha _,rfl,by rw[DJ],X0.out,by rw[DJ];exact World.ownsRow_nil _ _ _ _,B0.out⟩
     case round=>
      obtain⟨m,x,hk1,rfl,rfl,X,R,BB⟩:=hrel;by_cases d:m<n1/\∃q,(wP s q0 m).2=some q
      ·obtain⟨hlt1,b,hq⟩:=d;obtain⟨tx,nu,z3,z4,Y,Q1,Q2,F1,hm1⟩:=xl hs hq0.out hq;rw[Y];have c1:wr.cell? ⟨f.heap.size,2,none⟩=some x:=X.out.cell 2;have hw:=aA X.out;clear Y hq;go_wp2_with(first|(go_at_call 46;refine fC (Q1.out _) ?_)|(go_at_call 45;refine fC (Q2.out _) ?_)|(at_builtin;refine gL rfl _ _ rfl underlying104 aR rfl (by omega) (by omega) (v:=x) rfl R.out rfl rfl rfl (by simp[Value.oneCell']) (by omega) (by omega) ?_;intro g5 Q w5 HO z _;have X5:=bA (z.out.blk X.out (fun e=>by omega));have s5:=X5.out.cell 2;have f5:=X5.out.free 2));obtain⟨x1,x2,x3⟩:=bL X.out z.out HO.out (De _) 2;exact⟨⟨m+1,_,by omega,by go_num,by rw[F1.out.2.2],bA (by simpa using x1),bA (by rw[F1.out.1,F1.out.2.1];exact x2),bA (BB.out.trans (x3.below (by omega) fun i hi e=>by omega))⟩,by simp[intOf];omega⟩
      ·obtain⟨V,l⟩:=ma d hk1;rw[V]at R |-
       clear d V;rcases l with l|⟨l,r⟩
       ·go_wp2;go_meet;exact⟨rfl,x,X.out,R.out,BB.out⟩
       ·have H1:=bA r;rw[r];clear r;go_wp2;go_meet;exact⟨by rw[H1.out],x,X.out,R.out,BB.out⟩
    obtain⟨rfl,x,u,I,U⟩:=hcut;rename World=>w1;obtain⟨a1,d1,rfl⟩:=uI I;have X1:=bA u;have R1:=bA I;have B1:=bA U;have hw1:=aA u;clear u I U X0 B0 hq0;go_wp2_with fail;refine fC (P4.out _) ?_;go_upto_block 4 with fail;generalize (wP s q0 n1).1=Z at *;go_cut [9] (fun a A=>a=.int .i64 (eI (wP s q1 n2).2)/\∃y,lA A f.heap.size #[.string nm,.int .i64 t,.slice a1 Z.length d1,y] 107/\A.ownsRow (f.heap.size+1) 111 2 (.slice a1 Z.length d1) Z.length (rO Z)/\A.ownsRow w1.heap.size 113 2 y (wP s q1 n2).1.length (rO (wP s q1 n2).1)/\Below f.heap.size f A/\w1.heap.size<=A.heap.size)
    case first=>
     go_wp2_with fail;go_loopw [9,29] (fun H j wr=>∃(m:Nat) (y:Value),m<=n2/\j=.int .i64 m/\H=.int .i64 (eI (wP s q1 m).2)/\Hid (lA wr f.heap.size #[.string nm,.int .i64 t,.slice a1 Z.length d1,y] 107)/\Hid (wr.ownsRow (f.heap.size+1) 111 2 (.slice a1 Z.length d1) Z.length (rO Z))/\Hid (wr.ownsRow w1.heap.size 113 2 y (wP s q1 m).1.length (rO (wP s q1 m).1))/\Hid (Below f.heap.size f wr)/\w1.heap.size<=wr.heap.size) (fun _ j _=>n2-(intOf j).toNat)
     case atStart=>exact⟨0,_,Ha _,rfl,by rw[DJ],X1.out,R1.out,by rw[DJ];exact World.ownsRow_nil _ _ _ _,B1.out,Da _⟩
     case round=>
      obtain⟨m,y,hk1,rfl,rfl,X,M,R,BB,hw⟩:=hrel;by_cases d:m<n2/\∃q,(wP s q1 m).2=some q
      ·obtain⟨hlt1,b,hq⟩:=d;obtain⟨tx,nu,z3,z4,Y,Q1,Q2,F1,hm1⟩:=xl hs hq1.out hq;rw[Y];have c1:wr.cell? ⟨f.heap.size,3,none⟩=some y:=X.out.cell 3;clear Y hq;go_wp2_with(first|(go_at_call 46;refine fC (Q1.out _) ?_)|(go_at_call 45;refine fC (Q2.out _) ?_)|(at_builtin;refine gL rfl _ _ rfl underlying105 wT rfl (by omega) (by omega) (v:=y) rfl R.out rfl rfl rfl (by simp[Value.oneCell']) (by omega) (by omega) ?_;intro g5 Q w5 HO z _;have X5:=bA (z.out.blk X.out (fun e=>by omega));have s5:=X5.out.cell 3;have f5:=X5.out.free 3));obtain⟨x1,x2,x3⟩:=bL X.out z.out HO.out hw1 3;exact⟨⟨m+1,_,by omega,by go_num,by rw[F1.out.2.2],bA (by simpa using x1),x3.row M.out (fun g l e=>by have r:=(R1.out.lt g l).2;have h2:=(M.out.lt g l).1;omega),bA (by rw[F1.out.1,F1.out.2.1];exact x2),bA (BB.out.trans (x3.below (by omega) fun i hi e=>by omega)),Ma hw x3.size⟩,by simp[intOf];omega⟩
      ·obtain⟨V,l⟩:=ma d hk1;rw[V]at R |-
       clear d V;rcases l with l|⟨l,r⟩
       ·go_wp2;go_meet;exact⟨rfl,y,X.out,M.out,R.out,BB.out,hw⟩
       ·have H1:=bA r;rw[r];clear r;go_wp2;go_meet;exact⟨by rw[H1.out],y,X.out,M.out,R.out,BB.out,hw⟩
    obtain⟨rfl,y,u,hM,I,U,hw⟩:=hcut;rename World=>w2;obtain⟨a2,d2,rfl⟩:=uI I;generalize (wP s q1 n2).1=ss at *;obtain⟨T,ys,hV1,hV2,hV3,hV4⟩:=HV.out;have G:=bA (HG.out.later U);have HB:=bA U;have hww:=aA HG.out.S;have HR:=bA (cB hV1 U);have HP:=bA (Ee (pC hM) (pC I));have HVS:=bA (⟨hV2,hV3,hV4,hV1.lt⟩:_/\_/\_/\_);have hw2:=U.size;obtain⟨x0,x1,x2,x3⟩:=u.c4;obtain⟨-,y1⟩:=G.out.S.c2;clear u hM I U hV1 hV2 hV3 hV4 X1 B1;go_wp2_with(at_builtin;refine gL rfl _ _ rfl underlying33 uJ rfl (by omega) (by omega) (v:=v) rfl HR.out rfl rfl rfl (by simp[Value.oneCell']) (by omega) (by omega) ?_;intro g5 Q w5 HO z HA;have S5:=bA (z.out.blk G.out.S (fun e=>by omega));have s5:=S5.out.cell 1;have f5:=S5.out.free 1);obtain⟨z1,z2,z3⟩:=bL G.out.S z.out HO.out (De _) 1;obtain⟨x,y,v3,v4⟩:=HVS.out;refine⟨⟨k+1,_,by omega,by go_num,by rw[F.out.2],⟨z3.blk G.out.C (fun e=>by omega),z3.blk G.out.R (fun e=>by omega),by simpa using z1,G.out.B.trans (z3.below (by omega) fun i hi e=>by omega)⟩,?_⟩,by simp[intOf];omega⟩;rw[F.out.1,Qa];have hk5:=fun g (l:g<w2.heap.size) (h:w.heap.size+1+1+1<=g) (hne:v.ownBlock≠some g)=>z3.block g l (fun e=>e.elim (fun e=>by omega) fun e=>hne e.2);exact pO.snoc (wr:=f) (w4:=w2) (M:=w1.heap.size) (v:=v) (T:=T) (ys:=ys) z2 x (by rw[<-x,Ua]) y v3 (by omega) (by omega) (fun g l hb hne=>(hk5 g (by omega) hb hne).trans (HB.out.block g l)) (fun g l hg4=>hk5 g hg4 (by omega) (fun e=>by have:=(v4 _ e).2;omega))
     (HP.out.1.mono (by omega)) (fun g o ha=>(R1.out.lt g (by rw[ha];rfl)).2) HP.out.2 (HA.out.elim (fun h=>Ba ⟨h,(v4 _ h).2⟩) fun h=>Ea (by omega)) hw2 hw
   ·obtain⟨V,l⟩:=aIz d hk;rw[V]at HV |-
    clear d V;rcases l with l|⟨l,r⟩
    ·go_wp2;go_meet;exact⟨v,HG.out,HV.out⟩
    ·rw[r];clear r;go_wp2;go_meet;exact⟨v,HG.out,HV.out⟩
 obtain⟨v,u,I⟩:=hcut;rename World=>w1;obtain⟨ra,rc,rfl⟩:=I.row;have X:=bA u;have O:=bA (I.own rfl);have hc:s.toList.isEmpty=true/\D=(0,0,[],false)\/s.toList.isEmpty=false/\(SB=false/\D=(0,0,[],false)\/SB=true/\((EB.toList==s.toList)=true/\D=(L,N,(aT s p0 n).1,true)\/(EB.toList==s.toList)=false/\D=(0,0,[],false))):=by
  have hb:(s.toList==[])=decide (s.size=0):=aJx;by_cases K:s.size=0
  ·exact Ba ⟨by simpa[K]using hb,E.out (fun h=>h.1 K)⟩
  ·refine Ea ⟨by simpa[K]using hb,?_⟩;cases SB with
   |false=>exact Ba ⟨rfl,E.out (fun h=>by simp at h)⟩
   |true=>
    refine Ea ⟨rfl,?_⟩;by_cases J:EB=s
    ·exact Ba ⟨by simp[J],HY.out K J rfl⟩
    ·refine Ea ⟨Ic.2 fun h=>J (dP ?_),E.out (fun h=>J h.2.1)⟩;simpa[ByteArray.toList_eq]using eq_of_beq h
 generalize (aT s p0 n).1=LL at *;obtain⟨x0,x1⟩:=u.S.c2;obtain⟨y0,y1⟩:=u.R.c2;obtain⟨c0,c1,c2,c3,c4,c5⟩:=u.C.c6;have f0:=u.R.free;have hlt:=aA u.S;have ht:=fun(W:World) (a b:Value)=>((gA.refl (·=w.heap.size+1) W).setCell (Ba rfl) 0 a).setCell (Ba rfl) 1 b;have z:=bA ht;clear u I HY E ht;rcases hc with⟨r,rfl⟩|⟨r,⟨rfl,rfl⟩|⟨rfl,⟨h2,rfl⟩|⟨h2,rfl⟩⟩⟩
 all_goals
  go_wp2_with((first|(go_at_call 47;refine(HSO.out _ ra rc O.out.tens).mono ?_)|(go_at_call 48;refine(HEN.out _ ra rc O.out.tens).mono ?_));rintro e w3 ⟨rfl,hb3⟩;replace X:=bA (X.out.later hb3);replace O:=bA (O.out.later hb3);clear x0 x1 y0 y1 c0 c1 c2 c3 c4 c5 f0 hlt;obtain⟨x0,x1⟩:=X.out.S.c2;obtain⟨y0,y1⟩:=X.out.R.c2;obtain⟨c0,c1,c2,c3,c4,c5⟩:=X.out.C.c6;have f0:=X.out.R.free;have hlt:=aA X.out.S;clear hb3);(try (go_region;go_wp2));refine bodyPost_ret (v:=?_) (by simp[results,results21,go_sem,y0,y1];rfl) rfl ?_;first
   |exact⟨ra,⟨rc,rfl⟩,(O.out.turned (z.out _ _ _).drew (fun g h _ e=>by omega)).mono (by omega),X.out.B.trans ((z.out _ _ _).drew.below (by omega) fun i hi e=>by omega)⟩
   |exact⟨none,⟨0,rfl⟩,Ba rfl,X.out.B.trans ((z.out _ _ _).below (by omega) fun i hi e=>by omega)⟩
