import Derived.Test.YtabgbmfcbobamaaGreatDoorJ32
import Derived.Test.YtabgbmfcbobamaaGreatDoorJ15
set_option maxRecDepth 100000
set_option maxHeartbeats 8000000
namespace Go.Proofs.YtabgbmfcbobamaaGreatDoor
open Go.RowKit Tryz
section
variable {s:ByteArray} {p0:Option Nat} {k b:Nat}
theorem aEp (m:s.size<=1048576) (j:∀b,p0=some b->b<=s.size) (a:(AD s p0 k).2=some b):∃(d f:ByteArray) (g i:Int),cO (AD s p0 k).2=(b:Int)/\Hid (∀W,Calls prog 112 #[.string s,.int .i64 (b:Nat),.int .i64 1] W fun e c=>e=.returned (.tuple #[.string d,.int .i64 g])/\c=W)/\Hid (∀W,Calls prog 112 #[.string s,.int .i64 g,.int .i64 2] W fun e c=>e=.returned (.tuple #[.string f,.int .i64 i])/\c=W)/\Hid (aB (AD s p0 (k+1)).1=aB (AD s p0 k).1++[.string d,.string f]/\(AD s p0 (k+1)).1.length=(AD s p0 k).1.length+1/\cO (AD s p0 (k+1)).2=i):=by
 obtain⟨_,_,_,l⟩:=UF k b a;have:=l j;refine⟨_,_,_,_,by rw[a];rfl,fun W=>nN s 1 (some b) W (by omega) (fun b h=>by cases h;omega) (by omega),fun W=>nN s 2 _ W (by omega) (fun b h=>by have:=BJ h;omega) (by omega),?_⟩;rw[AD,bU a,ZA];exact⟨by simp[aB,AD],by simp[AD],rfl⟩
theorem aFq (o:s.size<=1048576) (l:∀b,p0=some b->b<=s.size) (d:(NH s p0 k).2=some b):∃(g j:Int) (a:Nat) (c:Option Nat),cO (NH s p0 k).2=(b:Int)/\Hid (∀W,Calls prog 111 #[.string s,.int .i64 (b:Nat),.int .i64 1] W fun e f=>e=.returned (.tuple #[.int .i64 (a:Nat),.int .i64 (cO c)])/\f=W)/\Hid (∀W,Calls prog 111 #[.string s,.int .i64 (cO (AD s c a).2),.int .i64 8] W fun e f=>e=.returned (.tuple #[.int .i64 g,.int .i64 j])/\f=W)/\a<256/\Hid (∀b,c=some b->b<=s.size)/\Hid ((NH s p0 (k+1)).1=(NH s p0 k).1++[⟨(AD s c a).1,g⟩]/\cO (NH s p0 (k+1)).2=j):=by
 obtain⟨_,_,_,m⟩:=aAk k b d;have:=m l;have i:∀q,(GY s (some b)).2=some q->q<=s.size:=fun q h=>dU h;have p:=KW s 1 (some b);refine⟨jB (fg s (some b)).1,_,(GY s (some b)).1,(GY s (some b)).2,by rw[d];rfl,fun W=>?_,fun W=>tL s 8 _ W (by omega) (fun q h=>?_) (by omega),by rw[GY];omega,i,?_⟩
 ·have:=tL s 1 (some b) W (by omega) (fun b h=>by cases h;omega) (by omega);rw[kD (by omega)]at this;exact this
 ·obtain⟨_,_,_,n⟩:=UF _ q h;have:=n i;omega
 ·rw[NH,bU d,lSm];exact⟨rfl,rfl⟩
end
structure GS (w W:World) (cs:Array Value):Prop where
 R:eA W (w.heap.size+1) cs 44
 Z:eA W w.heap.size #[.int .i64 0,.string ByteArray.empty,.string ByteArray.empty,.int .i64 0,.slice none 0 0] 44
 N:Below w.heap.size w W
section
variable {w W W':World} {cs:Array Value}
theorem GS.start (w:World):GS w ((w.alloc (.cells #[.int .i64 0,.string ByteArray.empty,.string ByteArray.empty,.int .i64 0,.slice none 0 0] 44)).alloc (.cells #[.int .i64 0,.string ByteArray.empty,.string ByteArray.empty,.int .i64 0,.slice none 0 0] 44)) #[.int .i64 0,.string ByteArray.empty,.string ByteArray.empty,.int .i64 0,.slice none 0 0]:=
 ⟨by have:=eA.new (w.alloc (.cells #[.int .i64 0,.string ByteArray.empty,.string ByteArray.empty,.int .i64 0,.slice none 0 0] 44)) #[.int .i64 0,.string ByteArray.empty,.string ByteArray.empty,.int .i64 0,.slice none 0 0] 44;simpa using this,(eA.new _ _ _).alloc _,nA (cA _ _) (cA _ _)⟩
theorem GS.set (h:GS w W cs) (i:Nat) (v:Value):GS w (W.setCell ⟨w.heap.size+1,i,none⟩ v) (cs.setIfInBounds i v):=
 ⟨h.R.set i v,h.Z.but ((dB.refl (w.heap.size+1) W).setCell i v) (by omega),h.N.setCell (by simp) _⟩
theorem GS.later (h:GS w W cs) (a:Below W.heap.size W W'):GS w W' cs:=⟨h.R.later a,h.Z.later a,nA h.N a⟩
end
theorem dP (s:ByteArray) (w:World) (hs:s.size<=1048576):
 Calls prog 80 #[.string s] w fun e w'=>tK s w e w':=by
 have K:s.size<=1000000000:=by omega
 have H0:=bA (fun W=>tL s 1 (some 0) W K (fun q h=>by cases h;omega) (by omega));have hk:(kY s).1<256:=by have:=KW s 1 (some 0);rw[kY];omega
 rw[show cU s 1 (some 0)=kY s from rfl,kD (by omega)]at H0;have hpK:∀q,(kY s).2=some q->q<=s.size:=fun q h=>dU (s:=s) (n:=1) (p:=some 0) h;have r:=bA (fun W (h:∀q,(CT s).2=some q->q<=s.size)=>tL s 2 (CT s).2 W K (fun q hq=>by have:=h q hq;omega) (by omega));have hcc:(yw s).1<65536:=by have:=KW s 2 (CT s).2;rw[yw];omega
 rw[show cU s 2 (CT s).2=yw s from rfl,kD (by omega)]at r;have HPC:Hid (∀q,(yw s).2=some q->q<=s.size):=fun q h=>dU h;have HS:Hid (UK s=if (kY s).1=1 then NH s (yw s).2 (yw s).1 else([],(CT s).2)):=by show _=_;rw[UK]
 have HEN:Hid (∀W P cap,sE W P (UK s).1->Calls prog 11 #[.agg #[.int .i64 ((kY s).1:Nat),.string (BK s).1,.string (wX s).1,.int .i64 (CT s).1,.slice P (UK s).1.length cap]] W fun e w'=>e=.returned (.string (aG (qx s)))/\Below W.heap.size W w'):=fun W P cap h=>oW (qx s) P cap W h (by have:=vk s;omega) (IR s).1 (IR s).2;have HY:=bA (fun u h2=>fq (s:=s) u h2);have U:=bA (fun h=>oj (s:=s) h);rw[show qx s=⟨((kY s).1:Nat),(BK s).1,(wX s).1,(CT s).1,(UK s).1⟩ from rfl]at HY U HEN;have A1:Hid (xQ ((kY s).1:Nat)=true/\(∀W,Calls prog 112 #[.string s,.int .i64 (cO (kY s).2),.int .i64 1] W fun e w'=>e=.returned (.tuple #[.string (BK s).1,.int .i64 (cO (BK s).2)])/\w'=W)\/xQ ((kY s).1:Nat)=false/\(BK s).1=ByteArray.empty/\(BK s).2=(kY s).2):=by
  by_cases h:xQ ((kY s).1:Nat)=true
  ·have e:BK s=iG s 1 (kY s).2:=by rw[BK];exact Qa h
   exact Ca ⟨h,fun W=>by rw[e];exact nN s 1 (kY s).2 W K (fun q h=>by have:=hpK q h;omega) (by omega)⟩
  ·have e:BK s=(ByteArray.empty,(kY s).2):=by rw[BK];exact Oa h
   exact Ja ⟨by simpa using h,by rw[e],by rw[e]⟩
 have hpT:∀q,(BK s).2=some q->q<=s.size:=fun q h=>by
  rw[BK]at h;split at h
  ·exact BJ h
  ·exact hpK q h
 have A2:Hid (uQ ((kY s).1:Nat)=true/\(∀W,Calls prog 112 #[.string s,.int .i64 (cO (BK s).2),.int .i64 2] W fun e w'=>e=.returned (.tuple #[.string (wX s).1,.int .i64 (cO (wX s).2)])/\w'=W)\/uQ ((kY s).1:Nat)=false/\(wX s).1=ByteArray.empty/\(wX s).2=(BK s).2):=by
  by_cases h:uQ ((kY s).1:Nat)=true
  ·have e:wX s=iG s 2 (BK s).2:=by rw[wX];exact Qa h
   exact Ca ⟨h,fun W=>by rw[e];exact nN s 2 (BK s).2 W K (fun q h=>by have:=hpT q h;omega) (by omega)⟩
  ·have e:wX s=(ByteArray.empty,(BK s).2):=by rw[wX];exact Oa h
   exact Ja ⟨by simpa using h,by rw[e],by rw[e]⟩
 have hpM:∀q,(wX s).2=some q->q<=s.size:=fun q h=>by
  rw[wX]at h;split at h
  ·exact BJ h
  ·exact hpT q h
 have hpN:∀q,(CT s).2=some q->q<=s.size:=fun q h=>by
  rw[CT]at h;split at h
  ·exact dU h
  ·exact hpM q h
 replace r:=bA (fun W=>r.out W hpN);have A3:Hid (fR ((kY s).1:Nat)=true/\(∀W,Calls prog 111 #[.string s,.int .i64 (cO (wX s).2),.int .i64 8] W fun e w'=>e=.returned (.tuple #[.int .i64 (CT s).1,.int .i64 (cO (CT s).2)])/\w'=W)\/fR ((kY s).1:Nat)=false/\(CT s).1=0/\(CT s).2=(wX s).2):=by
  by_cases h:fR ((kY s).1:Nat)=true
  ·have e:CT s=(jB (cU s 8 (wX s).2).1,(cU s 8 (wX s).2).2):=by rw[CT];exact Qa h
   exact Ca ⟨h,fun W=>by rw[e];exact tL s 8 (wX s).2 W K (fun q h=>by have:=hpM q h;omega) (by omega)⟩
  ·have e:CT s=(0,(wX s).2):=by rw[CT];exact Oa h
   exact Ja ⟨by simpa using h,by rw[e],by rw[e]⟩
 unfold tK;clear hpK hpT hpM hpN;generalize nE s=D at *;generalize aG ⟨((kY s).1:Nat),(BK s).1,(wX s).1,(CT s).1,(UK s).1⟩=EB at *;generalize yw s=X4 at *;generalize UK s=X5 at *;generalize kY s=X0 at *;generalize BK s=X1 at *;generalize wX s=X2 at *;generalize CT s=X3 at *;obtain⟨k,p0⟩:=X0;obtain⟨T,p1⟩:=X1;obtain⟨M,p2⟩:=X2;obtain⟨N,p3⟩:=X3;obtain⟨n,Q⟩:=X4;obtain⟨S,p5⟩:=X5;dsimp only at *;have hk1:∀j:Nat,(((k:Nat):Int)==(j:Int))=decide (k=j):=fun j=>by rw[Sb];simp;omega
 go_enter func80,ntmps80;go_wp2_with fail;refine(H0.out _).mono ?_;rintro e o ⟨rfl,hw⟩;replace hw:=hw.symm;subst hw;have G:Hid (GS w ((w.alloc (.cells #[.int .i64 0,.string ⟨#[]⟩,.string ⟨#[]⟩,.int .i64 0,.slice none 0 0] 44)).alloc (.cells #[.int .i64 0,.string ⟨#[]⟩,.string ⟨#[]⟩,.int .i64 0,.slice none 0 0] 44)) #[.int .i64 0,.string ByteArray.empty,.string ByteArray.empty,.int .i64 0,.slice none 0 0]):=bA (GS.start w);clear H0;generalize (w.alloc (.cells #[.int .i64 0,.string ⟨#[]⟩,.string ⟨#[]⟩,.int .i64 0,.slice none 0 0] 44)).alloc (.cells #[.int .i64 0,.string ⟨#[]⟩,.string ⟨#[]⟩,.int .i64 0,.slice none 0 0] 44)=W at *;have c0:W.cell? ⟨w.heap.size+1,0,none⟩=some (.int .i64 0):=G.out.R.cell 0;have c1:=G.out.R.free 0;go_upto_region 4 with fail;replace G:=bA (G.out.set 0 (.int .i64 k));clear c0 c1;generalize W.setCell ⟨w.heap.size+1,0,none⟩ (.int .i64 k)=V at *;go_upto_region 4 with fail;go_cut [5,32,47] (fun A _ b o=>A=.int .i64 k/\b=.bool (xQ k)/\o=V)
 case first=>
  go_wp2;all_goals go_meet
  all_goals(unfold xQ;simp_all)
 obtain⟨rfl,rfl,rfl⟩:=hcut;go_upto_if 47 with fail;go_cut [5,6] (fun A P o=>A=.int .i64 k/\P=.int .i64 (cO p1)/\GS w o #[.int .i64 k,.string T,.string ByteArray.empty,.int .i64 0,.slice none 0 0])
 case first=>
  rcases A1.out with⟨I,r⟩|⟨I,rfl,rfl⟩
  ·rw[I];replace r:=bA r;go_wp2_with fail;refine(r.out _).mono ?_;rintro e o ⟨rfl,hw⟩;replace hw:=hw.symm;subst hw;have c0:=G.out.R.cell 1;have c1:=G.out.R.free 1;go_wp2;go_meet;exact⟨rfl,rfl,G.out.set 1 (.string T)⟩
  ·rw[I];go_wp2;go_meet;exact⟨rfl,rfl,G.out⟩
 clear G;obtain⟨rfl,rfl,G⟩:=hcut;replace G:=bA G;rename World=>V;go_upto_region 8 with fail;go_cut [5,62] (fun A b o=>A=.int .i64 k/\b=.bool (uQ k)/\o=V)
 case first=>
  go_wp2;all_goals go_meet
  all_goals(unfold uQ;simp_all)
 obtain⟨rfl,rfl,rfl⟩:=hcut;go_upto_if 62 with fail;go_cut [5,6] (fun A P o=>A=.int .i64 k/\P=.int .i64 (cO p2)/\GS w o #[.int .i64 k,.string T,.string M,.int .i64 0,.slice none 0 0])
 case first=>
  rcases A2.out with⟨I,r⟩|⟨I,rfl,rfl⟩
  ·rw[I];replace r:=bA r;go_wp2_with fail;refine(r.out _).mono ?_;rintro e o ⟨rfl,hw⟩;replace hw:=hw.symm;subst hw;have c0:=G.out.R.cell 2;have c1:=G.out.R.free 2;go_wp2;go_meet;exact⟨rfl,rfl,G.out.set 2 (.string M)⟩
  ·rw[I];go_wp2;go_meet;exact⟨rfl,rfl,G.out⟩
 clear G;obtain⟨rfl,rfl,G⟩:=hcut;replace G:=bA G;rename World=>V;go_upto_region 12 with fail;go_cut [5,77] (fun A b o=>A=.int .i64 k/\b=.bool (fR k)/\o=V)
 case first=>
  go_wp2;all_goals go_meet
  all_goals(unfold fR;simp_all)
 obtain⟨rfl,rfl,rfl⟩:=hcut;go_upto_if 77 with fail;go_cut [5,6] (fun A P o=>A=.int .i64 k/\P=.int .i64 (cO p3)/\GS w o #[.int .i64 k,.string T,.string M,.int .i64 N,.slice none 0 0])
 case first=>
  rcases A3.out with⟨I,r⟩|⟨I,rfl,rfl⟩
  ·rw[I];replace r:=bA r;go_wp2_with fail;refine(r.out _).mono ?_;rintro e o ⟨rfl,hw⟩;replace hw:=hw.symm;subst hw;have c0:=G.out.R.cell 3;have c1:=G.out.R.free 3;go_wp2;go_meet;exact⟨rfl,rfl,G.out.set 3 (.int .i64 N)⟩
  ·rw[I];go_wp2;go_meet;exact⟨rfl,rfl,G.out⟩
 clear G;obtain⟨rfl,rfl,G⟩:=hcut;replace G:=bA G;rename World=>V;go_upto_region 16 with fail;go_cut [5,88] (fun A b o=>A=.int .i64 k/\b=.bool (decide (k=1))/\o=V)
 case first=>
  go_wp2;go_meet;exact⟨rfl,by rw[<-hk1 1];rfl,rfl⟩
 obtain⟨rfl,rfl,rfl⟩:=hcut;go_upto_if 88 with fail;go_cut [5,6,13,14,15] (fun A _ _ _ _ o=>A=.int .i64 k/\∃v,GS w o #[.int .i64 k,.string T,.string M,.int .i64 N,v]/\sX o (w.heap.size+1+1) 126 v S.length S)
 case first=>
  by_cases u:k=1
  ·have hS:=HS.out;rw[Qa u]at hS;replace hS:Hid (NH s Q n=(S,p5)):=bA hS.symm;rw[Zb u];clear u HS;go_wp2_with fail;refine pD (r.out _) ?_;go_wp2_with fail;go_loopw [6,15] (fun at_ i wr=>∃(j:Nat) (v:Value),j<=n/\i=.int .i64 j/\at_=.int .i64 (cO (NH s Q j).2)/\Hid (GS w wr #[.int .i64 k,.string T,.string M,.int .i64 N,v])/\Hid (sX wr (w.heap.size+1+1) 126 v (NH s Q j).1.length (NH s Q j).1)) (fun _ i _=>n-(intOf i).toNat)
   case atStart=>exact⟨0,_,La _,rfl,rfl,G.out,sX.nil _ _ _⟩
   case round=>
    obtain⟨j,v,hj,rfl,rfl,HG,HV⟩:=hrel;clear G;by_cases y:j<n/\∃p,(NH s Q j).2=some p
    ·obtain⟨J,p,hp⟩:=y;obtain⟨bi,zB,L,E,hv,P1,P2,hn1,hq0,F⟩:=aFq hs HPC.out hp;have hm:=PR (g:=lSm s) (p0:=Q) j;change (NH s Q j).1.length<=j at hm;rw[hv];rename World=>t;clear hv hp;go_wp2_with fail;refine pD (P1.out _) ?_;go_upto_block 2 with fail;have X0:=bA (eA.new t #[.slice none 0 0,.int .i64 0] 126);have B0:=bA (cA t (.cells #[.slice none 0 0,.int .i64 0] 126));generalize t.alloc (.cells #[.slice none 0 0,.int .i64 0] 126)=w0 at *;go_cut [6] (fun a o=>a=.int .i64 (cO (AD s E L).2)/\∃C,eA o t.heap.size #[C,.int .i64 0] 126/\o.ownsRow (t.heap.size+1) 156 2 C (AD s E L).1.length (aB (AD s E L).1)/\Below t.heap.size t o)
     case first=>
      go_wp2_with fail;go_loopw [6,19] (fun at_ i wr=>∃(z:Nat) (C:Value),z<=L/\i=.int .i64 z/\at_=.int .i64 (cO (AD s E z).2)/\Hid (eA wr t.heap.size #[C,.int .i64 0] 126)/\Hid (wr.ownsRow (t.heap.size+1) 156 2 C (AD s E z).1.length (aB (AD s E z).1))/\Hid (Below t.heap.size t wr)) (fun _ i _=>L-(intOf i).toNat)
      case atStart=>exact⟨0,_,La _,rfl,rfl,X0.out,World.ownsRow_nil _ _ _ _,B0.out⟩
      case round=>
       obtain⟨z,C,hk1,rfl,rfl,X,R,BB⟩:=hrel;by_cases y:z<L/\∃q,(AD s E z).2=some q
       ·obtain⟨hlt1,b,hq⟩:=y;obtain⟨tx,va,z3,z4,hv,Q1,Q2,F1⟩:=aEp hs hq0.out hq;have hm1:=PR (g:=ZA s) (p0:=E) z;change (AD s E z).1.length<=z at hm1;rw[hv];have c1:wr.cell? ⟨t.heap.size,0,none⟩=some C:=X.out.cell 0;have hw:=aA X.out;clear hv hq;iterate 2 (go_wp2_with fail;first|with_reducible refine pD (Q1.out _) ?_|with_reducible refine pD (Q2.out _) ?_)
        go_wp2_with(at_builtin;refine cK rfl _ _ rfl underlying123 uo rfl (by omega) (by omega) (v:=C) rfl R.out rfl rfl rfl (by simp[Value.oneCell']) (by omega) (by omega) ?_;intro g5 cap5 w5 HO Y _;have X5:=bA (Y.out.blk X.out (fun e=>by omega));have s5:=X5.out.cell 0;have m:=X5.out.free 0);obtain⟨x1,x2,x3⟩:=pT X.out Y.out HO.out (Ye _) 0;exact⟨⟨z+1,_,by omega,by go_num,by rw[F1.out.2.2],bA (by simpa using x1),bA (by rw[F1.out.1,F1.out.2.1];exact x2),bA (BB.out.trans (x3.below (by omega) fun i hi e=>by omega))⟩,by simp[intOf];omega⟩
       ·obtain⟨he,B⟩:=vi y hk1;change AD s E z=AD s E L at he;change ¬z<L\/z<L/\cO (AD s E L).2 = -1 at B;rw[he]at R |-
        clear y he;rcases B with B|⟨B,u⟩
        ·go_wp2;go_meet;exact⟨rfl,C,X.out,R.out,BB.out⟩
        ·have H1:=bA u;rw[u];clear u;go_wp2;go_meet;exact⟨by rw[H1.out],C,X.out,R.out,BB.out⟩
     obtain⟨rfl,C,H,hR,hB⟩:=hcut;rename World=>w1;obtain⟨a1,d1,rfl⟩:=tS hR;obtain⟨T',ys,hV1,hV2,hV3,hV4⟩:=HV.out;have hww:=aA HG.out.R;go_wp2_with fail;refine pD (P2.out _) ?_;obtain⟨x0,x1⟩:=H.c2;have l:=H.free 1;generalize (AD s E L).1=ls at *;go_upto_region 35 with fail;have ht:=(gA.refl (·=t.heap.size) w1).setCell (Ca rfl) 1 (.int .i64 bi);have X1:=bA (H.set 1 (.int .i64 bi));have R1:=bA (ht.row hR (fun b hb e=>by have:=(hR.lt b hb).1;omega));have B1:=bA (hB.trans (ht.below hB.size fun i hi e=>by omega));clear x0 x1 l H hR hB X0 B0 ht;generalize w1.setCell ⟨t.heap.size,1,none⟩ (.int .i64 bi)=w2 at *;clear hq0;have hw2:=aA X1.out;have G:=bA (HG.out.later B1.out);have HR:=bA (vA hV1 B1.out);have HVS:=bA (⟨hV2,hV3,hV4,hV1.lt⟩:_/\_/\_/\_);have x0:w2.cell? ⟨t.heap.size,0,none⟩=some (.slice a1 ls.length d1):=X1.out.cell 0;have x1:w2.cell? ⟨t.heap.size,1,none⟩=some (.int .i64 bi):=X1.out.cell 1;have y4:=G.out.R.cell 4;clear hV1 hV2 hV3 hV4;go_wp2_with(at_builtin;refine cK rfl _ _ rfl underlying42 YL rfl (by omega) (by omega) (v:=v) rfl HR.out rfl rfl rfl (by simp[Value.oneCell']) (by omega) (by omega) ?_;intro g5 cap5 w5 HO Y HA;have S5:=bA (Y.out.blk G.out.R (fun e=>by omega));have s5:=S5.out.cell 4;have m:=S5.out.free 4);obtain⟨z1,z2,z3⟩:=pT G.out.R Y.out HO.out (Ye _) 4;obtain⟨C,v2,v3,v4⟩:=HVS.out;have hk5:=fun g (B:g<w2.heap.size) (h:w.heap.size+1+1<=g) (hne:v.ownBlock≠some g)=>z3.block g B (fun e=>e.elim (fun e=>by omega) fun e=>hne e.2);refine⟨⟨j+1,_,by omega,by go_num,by rw[F.out.2],⟨by simpa using z1,z3.blk G.out.Z (fun e=>by omega),G.out.N.trans (z3.below (by omega) fun i hi e=>by omega)⟩,?_⟩,by simp[intOf];omega⟩;rw[F.out.1,Za];exact sX.snoc (wr:=t) (w4:=w2) (v:=v) (T:=T') (ys:=ys) (x:=⟨ls,bi⟩) z2 C (by rw[<-C,Rb]) v2 v3 (by omega) (fun g B hb hne=>(hk5 g (by omega) hb hne).trans (B1.out.block g B)) (fun g B hg4=>hk5 g hg4 (by omega) (fun e=>by have:=(v4 _ e).2;omega)) (gC.mono (rF R1.out) (by omega)) (bd R1.out) (HA.out.elim (fun h=>Ca ⟨h,(v4 _ h).2⟩) fun h=>Ja (by omega)) (by omega)
    ·obtain⟨he,B⟩:=vi y hj;change NH s Q j=NH s Q n at he;change ¬j<n\/j<n/\cO (NH s Q n).2 = -1 at B;rw[he]at HV |-
     rw[hS.out]at HV;clear y he;rcases B with B|⟨B,u⟩
     ·go_wp2;go_meet;exact⟨rfl,v,HG.out,HV.out⟩
     ·rw[u];clear u;go_wp2;go_meet;exact⟨rfl,v,HG.out,HV.out⟩
  ·have hS:=HS.out;rw[Oa u]at hS;cases hS
   rw[Bc u];go_wp2;go_meet;exact⟨rfl,_,G.out,sX.nil _ _ _⟩
 clear G HS HPC r A1 A2 A3;obtain⟨rfl,v,H,hR⟩:=hcut;rename World=>w1;obtain⟨ra,rc,rfl⟩:=hR.row;have X:=bA H;have O:=bA (hR.own rfl);have hc:s.toList.isEmpty=true/\D=(⟨0,ByteArray.empty,ByteArray.empty,0,[]⟩,false)\/s.toList.isEmpty=false/\((EB.toList==s.toList)=true/\D=(⟨k,T,M,N,S⟩,true)\/(EB.toList==s.toList)=false/\D=(⟨0,ByteArray.empty,ByteArray.empty,0,[]⟩,false)):=by
  have hb:(s.toList==[])=decide (s.size=0):=by rw[ByteArray.toList_eq,pH];cases s.data.toList<;>simp
  by_cases b0:s.size=0
  ·exact Ca ⟨by simpa[b0]using hb,U.out (fun h=>h.1 b0)⟩
  ·refine Ja ⟨by simpa[b0]using hb,?_⟩;by_cases a0:EB=s
   ·exact Ca ⟨by simp[a0],HY.out b0 a0⟩
   ·refine Ja ⟨Yc.2 fun h=>a0 (wK ?_),U.out (fun h=>a0 h.2)⟩;simpa[ByteArray.toList_eq]using eq_of_beq h
 obtain⟨x0,x1,x2,x3,x4⟩:=H.R.c5;obtain⟨y0,y1,y2,y3,y4⟩:=H.Z.c5;have f:=H.Z.free;have J:=H.N.size;have ht:=fun(W:World) (a b c d e:Value)=>((((((dB.refl w.heap.size W).setCell 0 a).setCell 1 b).setCell 2 c).setCell 3 d).setCell 4 e)
 have Y:=bA ht;clear H hR HY U ht;rcases hc with⟨u,rfl⟩|⟨u,⟨h2,rfl⟩|⟨h2,rfl⟩⟩
 all_goals
  go_wp2_with(go_at_call 11;refine(HEN.out _ ra rc O.out.smps).mono ?_;rintro e w3 ⟨rfl,hb3⟩;replace X:=bA (X.out.later hb3);replace O:=bA (O.out.later hb3);clear x0 x1 x2 x3 x4 y0 y1 y2 y3 y4 f J;obtain⟨x0,x1,x2,x3,x4⟩:=X.out.R.c5;obtain⟨y0,y1,y2,y3,y4⟩:=X.out.Z.c5;have f:=X.out.Z.free;have J:=X.out.N.size;clear hb3);refine bodyPost_ret (v:=?_) (by simp[results,results80,go_sem,y0,y1,y2,y3,y4];rfl) rfl ?_;first
   |exact⟨ra,⟨rc,rfl⟩,(O.out.but (Y.out _ _ _ _ _ _) (by omega)).mono (by omega),X.out.N.trans ((gA.but (Y.out _ _ _ _ _ _)).below J fun i hi e=>by omega)⟩
   |exact⟨none,⟨0,rfl⟩,Ca rfl,X.out.N.trans ((gA.but (Y.out _ _ _ _ _ _)).below J fun i hi e=>by omega)⟩
