import Derived.Test.YtabgbmfcbobamaaGreatDoorJ21
import Derived.Test.YtabgbmfcbobamaaGreatDoorJ18
set_option maxRecDepth 100000
set_option maxHeartbeats 8000000
namespace Go.Proofs.YtabgbmfcbobamaaGreatDoor
open Go.RowKit Tryz
theorem ZI {L:mP} {b:Bool} (h:yP L=b) (w:World):Calls prog 129 #[.agg #[.int .i64 L.first,.int .i64 L.last,.int .i64 L.size]] w fun e d=>e=.returned (.bool b)/\Below w.heap.size w d:=h ▸ pY L w
def aFy (R:pE×mP×Nat) (a:Option Addr) (cap:Nat):Value:=
 .tuple #[.agg #[.slice a R.1.fs.length cap,.int .i64 R.1.c,.int .i64 R.1.k,.int .i64 R.1.cr,.int .i64 R.1.fl,.bool R.1.dn],.agg #[.int .i64 R.2.1.first,.int .i64 R.2.1.last,.int .i64 R.2.1.size],.int .i64 R.2.2]
structure LA (w W:World) (P:Nat) (a:Option Addr) (cap:Nat) (fs:List kA) (c k cr fl:Int) (dn:Bool) (lf ll ls:Int):Prop where
 D:eA W P #[.slice a fs.length cap,.int .i64 c,.int .i64 k,.int .i64 cr,.int .i64 fl,.bool dn] 78
 L:eA W (w.heap.size+1) #[.int .i64 lf,.int .i64 ll,.int .i64 ls] 80
 RD:eA W (w.heap.size+1+1) #[.slice none 0 0,.int .i64 0,.int .i64 0,.int .i64 0,.int .i64 0,.bool false] 78
 RL:eA W (w.heap.size+1+1+1) #[.int .i64 0,.int .i64 0,.int .i64 0] 80
 F:qA W a fs
 B:Below w.heap.size w W
section
variable {w W W':World} {P Q:Nat} {a a':Option Addr} {cap cap':Nat} {fs fs':List kA} {c k cr fl c' k' cr' fl':Int} {dn dn':Bool} {lf ll ls:Int}
theorem LA.later (h:LA w W P a cap fs c k cr fl dn lf ll ls) (b:Below W.heap.size W W'):LA w W' P a cap fs c k cr fl dn lf ll ls:=⟨h.D.later b,h.L.later b,h.RD.later b,h.RL.later b,h.F.later b,nA h.B b⟩
theorem LA.cells (h:LA w W P a cap fs c k cr fl dn lf ll ls):(W.cell? ⟨P,0,none⟩=some (.slice a fs.length cap)/\W.cell? ⟨P,1,none⟩=some (.int .i64 c)/\W.cell? ⟨P,2,none⟩=some (.int .i64 k)/\W.cell? ⟨P,3,none⟩=some (.int .i64 cr)/\W.cell? ⟨P,4,none⟩=some (.int .i64 fl)/\W.cell? ⟨P,5,none⟩=some (.bool dn))/\(W.cell? ⟨w.heap.size+1,0,none⟩=some (.int .i64 lf)/\W.cell? ⟨w.heap.size+1,1,none⟩=some (.int .i64 ll)/\W.cell? ⟨w.heap.size+1,2,none⟩=some (.int .i64 ls))/\
 (W.cell? ⟨w.heap.size+1+1,0,none⟩=some (.slice none 0 0)/\W.cell? ⟨w.heap.size+1+1,1,none⟩=some (.int .i64 0)/\W.cell? ⟨w.heap.size+1+1,2,none⟩=some (.int .i64 0)/\W.cell? ⟨w.heap.size+1+1,3,none⟩=some (.int .i64 0)/\W.cell? ⟨w.heap.size+1+1,4,none⟩=some (.int .i64 0)/\W.cell? ⟨w.heap.size+1+1,5,none⟩=some (.bool false))/\(W.cell? ⟨w.heap.size+1+1+1,0,none⟩=some (.int .i64 0)/\W.cell? ⟨w.heap.size+1+1+1,1,none⟩=some (.int .i64 0)/\W.cell? ⟨w.heap.size+1+1+1,2,none⟩=some (.int .i64 0))/\
 (∀j,W.frozen? ⟨P,j,none⟩=false)/\(∀j,W.frozen? ⟨w.heap.size+1,j,none⟩=false)/\(∀j,W.frozen? ⟨w.heap.size+1+1,j,none⟩=false)/\(∀j,W.frozen? ⟨w.heap.size+1+1+1,j,none⟩=false)/\w.heap.size+1+1+1<W.heap.size:=
 ⟨h.D.c6,h.L.c3,h.RD.c6,h.RL.c3,h.D.free,h.L.free,h.RD.free,h.RL.free,aA h.RL⟩
theorem LA.ret (h:LA w W P a cap fs c k cr fl dn lf ll ls) (f:gA (fun i=>i=w.heap.size+1+1\/i=w.heap.size+1+1+1) W W'):qA W' a fs/\Below w.heap.size w W':=
 ⟨KH h.F f fun b o e d=>by rcases d with d|d;exact AF (oP h.F h.RD) e d;exact AF (CZ h.F h.RL) e d,h.B.trans (f.below h.B.size fun i g e=>by omega)⟩
theorem LA.put (h:LA w W w.heap.size a cap fs c k cr fl dn lf ll ls) (b:qA W a' fs'):LA w ((((((W.setCell ⟨w.heap.size,0,none⟩ (.slice a' fs'.length cap')).setCell ⟨w.heap.size,1,none⟩ (.int .i64 c')).setCell ⟨w.heap.size,2,none⟩ (.int .i64 k')).setCell ⟨w.heap.size,3,none⟩ (.int .i64 cr')).setCell ⟨w.heap.size,4,none⟩ (.int .i64 fl')).setCell ⟨w.heap.size,5,none⟩ (.bool dn')) w.heap.size a' cap' fs' c' k' cr' fl' dn' lf ll ls:=
 ⟨AK h.D,h.L.but (aH _ _ _ _ _ _) (by omega),h.RD.but (aH _ _ _ _ _ _) (by omega),h.RL.but (aH _ _ _ _ _ _) (by omega),b.apart (oP b h.D) (aH _ _ _ _ _ _),h.B.trans ((gA.but (aH _ _ _ _ _ _)).below h.B.size fun i d e=>by omega)⟩
theorem LA.putP (h:LA w W P a cap fs c k cr fl dn lf ll ls) (d:w.heap.size+1+1+1<P) (b:qA W a' fs'):LA w ((((((W.setCell ⟨P,0,none⟩ (.slice a' fs'.length cap')).setCell ⟨P,1,none⟩ (.int .i64 c')).setCell ⟨P,2,none⟩ (.int .i64 k')).setCell ⟨P,3,none⟩ (.int .i64 cr')).setCell ⟨P,4,none⟩ (.int .i64 fl')).setCell ⟨P,5,none⟩ (.bool dn')) P a' cap' fs' c' k' cr' fl' dn' lf ll ls:=
 ⟨AK h.D,h.L.but (aH _ _ _ _ _ _) (by omega),h.RD.but (aH _ _ _ _ _ _) (by omega),h.RL.but (aH _ _ _ _ _ _) (by omega),b.apart (oP b h.D) (aH _ _ _ _ _ _),h.B.trans ((gA.but (aH _ _ _ _ _ _)).below h.B.size fun i f e=>by omega)⟩
theorem LA.log (h:LA w W P a cap fs c k cr fl dn lf ll ls) (j:P≠w.heap.size+1) (b:dB (w.heap.size+1) W W') {d f:Int} (g:eA W' (w.heap.size+1) #[.int .i64 lf,.int .i64 d,.int .i64 f] 80):LA w W' P a cap fs c k cr fl dn lf d f:=
 ⟨h.D.but b j,g,h.RD.but b (by omega),h.RL.but b (by omega),h.F.apart (CZ h.F h.L) b,h.B.trans ((gA.but b).below h.B.size fun i l e=>by omega)⟩
end
theorem bs (a:Option Addr) (cap:Nat) (fs:List kA) (c k cr fl:Int) (dn:Bool) (lf ll ls:Int) (p:ByteArray) (d:Int) (w:World) (hf:qA w a fs) (hfit:CU fs) (hp:p.size<=1100000):
 Calls prog 125 #[.agg #[.slice a fs.length cap,.int .i64 c,.int .i64 k,.int .i64 cr,.int .i64 fl,.bool dn],.agg #[.int .i64 lf,.int .i64 ll,.int .i64 ls],.string p,.int .i64 d] w fun e l=>
  ∃a' cap',e=.returned (aFy (bI ⟨fs,c,k,cr,fl,dn⟩ ⟨lf,ll,ls⟩ p d) a' cap')/\qA l a' (bI ⟨fs,c,k,cr,fl,dn⟩ ⟨lf,ll,ls⟩ p d).1.fs/\Below w.heap.size w l:=by
 obtain⟨R,hR⟩:∃R,bI ⟨fs,c,k,cr,fl,dn⟩ ⟨lf,ll,ls⟩ p d=R:=⟨_,rfl⟩
 rw[hR];have HF:=bA hf;have HFIT:=bA hfit;have HP:Hid (p.size<=maxLen):=by show _<=_;unfold maxLen;omega
 have hlen:=hfit.len;have hSZ:(oM p).size<=60008:=by
  unfold oM;split
  ·rw[Ga,Ga,iA,iA];omega
  ·simp
 obtain⟨F,hFr⟩:∃F,oM p=F:=⟨_,rfl⟩
 rw[hFr]at hSZ;have HR0:=bA (fun h1 h2 h3 h4 D1 x=>hR ▸ @dj ⟨fs,c,k,cr,fl,dn⟩ D1 ⟨lf,ll,ls⟩ p F d x hFr h1 h2 h3 h4);have hcs:((yP ⟨lf,ll,ls⟩=false\/yP ⟨lf,ll,ls⟩=true/\xA d 1 1000000000=false)/\R=(⟨fs,c,k,cr,fl,dn⟩,⟨lf,ll,ls⟩,21)\/yP ⟨lf,ll,ls⟩=true/\xA d 1 1000000000=true/\F.toList.isEmpty=true/\R=(⟨fs,c,k,cr,fl,dn⟩,⟨lf,ll,ls⟩,22))\/
  yP ⟨lf,ll,ls⟩=true/\xA d 1 1000000000=true/\F.toList.isEmpty=false/\¬(yP ⟨lf,ll,ls⟩ &&xA d 1 1000000000)=false/\¬oM p=ByteArray.empty/\((ls≠0/\d<ls+F.size)->ll=999999->R=(⟨fs,c,k,cr,fl,dn⟩,⟨lf,ll,ls⟩,23))/\(¬(ls≠0/\d<ls+F.size)->R=wJ ⟨fs,c,k,cr,fl,dn⟩ ⟨lf,ll,ls⟩ F):=by
  rw[<-hR];unfold bI;rw[hFr];cases hlb:yP ⟨lf,ll,ls⟩<;>cases hmb:xA d 1 1000000000<;>simp
  by_cases hE:F=ByteArray.empty
  ·exact Ca ⟨by simpa using VO.2 hE,by simp[hE]⟩
  ·exact Ja ⟨by simpa using pW.2 hE,hE,fun h1 h2 h3=>by simp[hE,h1,h2,h3],fun h=>by rw[Oa hE,Oa (by intro x;have:=h x.1;omega)]⟩
 have HCS:=bA hcs;clear hf hfit hcs hR;go_enter func125,ntmps125;go_wp2_with fail;refine(NO p _ HP.out).mono ?_;rintro e w1 ⟨rfl,hb1⟩;rw[hFr]at *;obtain⟨hD,hL,hRD,hRL,hbel⟩:=PJ hb1;obtain⟨a1,j,W2,hrun,hfi,n,hap⟩:=JT w1 a cap fs (HF.out.later hbel) hlen;have HRUN:=bA hrun;have HFI:=bA hfi;have A:=bA (LA.later ⟨hD,hL,hRD,hRL,HF.out.later hbel,hbel⟩ n);obtain⟨x0,-⟩:=hD.c6;have f:=aA hRL;have hn3:w.heap.size<w1.heap.size:=by omega
 clear hb1 hD hL hRD hRL hbel hrun hfi n hap;obtain⟨⟨I,-⟩,-,-,-,y0,-⟩:=A.out.cells;go_upto_region 2 with fail;go_cut [11] (fun s11 wx=>s11=.string F/\∃a1 j,LA w wx w.heap.size a1 j fs c k cr fl dn lf ll ls)
 case first=>
  go_wp2_with(at_builtin;refine Lib.wpList_append_run _ rfl _ _ _ _ rfl _ _ rfl rfl _ _ HRUN.out ?_);go_meet;have hbut:dB w.heap.size W2 (W2.setCell ⟨w.heap.size,0,none⟩ (.slice a1 fs.length j)):=(dB.refl _ _).setCell 0 _;have h0:=A.out.D.set 0 (.slice a1 fs.length j);exact⟨rfl,a1,j,by simpa using h0,A.out.L.but hbut (by omega),A.out.RD.but hbut (by omega),A.out.RL.but hbut (by omega),HFI.out.apart (oP HFI.out A.out.D) hbut,A.out.B.setCell (Ka _) _⟩
 clear A I y0 x0 f hn3 HRUN HFI;obtain⟨rfl,a1,j,hA⟩:=hcut;rename World=>w2;have A:=bA hA;clear hA;obtain⟨⟨I,N,O,S,T,U⟩,⟨X,Y,Z⟩,⟨q,r,s,t,u,y⟩,⟨z,C,G⟩,yd,yl,yr,yx,f⟩:=A.out.cells;rcases HCS.out with hr|⟨hlb,hmb,hEb,hC1,hNE,h23,hT⟩
 ·rcases hr with⟨h1|⟨h1,h2⟩,E⟩|⟨h1,h2,h3,E⟩
  all_goals
   have E:=bA E;clear HR0 HCS;go_wp2_with(first
    |(go_at_call 129;refine(ZI (L:=⟨lf,ll,ls⟩) (by assumption) _).mono ?_;rintro e w3 ⟨rfl,i⟩;replace A:=bA (A.out.later i);clear i I N O S T U X Y Z q r s t u y z C G yd yl yr yx f;obtain⟨⟨I,N,O,S,T,U⟩,⟨X,Y,Z⟩,⟨q,r,s,t,u,y⟩,⟨z,C,G⟩,yd,yl,yr,yx,f⟩:=A.out.cells)
    |(go_at_call 25;refine(nC (by assumption) _).mono ?_;rintro e l ⟨rfl,hw⟩;replace hw:=hw.symm;subst hw))
   go_region
   go_wp2;refine bodyPost_ret (v:=?_) (by simp[results,results125,go_sem,q,r,s,t,u,y,z,C,G];rfl) rfl ?_;rw[E.out];refine⟨a1,j,rfl,A.out.ret ?_⟩;repeat (first|with_reducible exact gA.refl _ _|with_reducible refine gA.drew ?_|with_reducible refine gA.setCell ?_ (Ca (by simp)) _ _)
 have HN:=bA (⟨hC1,hNE,h23,hT⟩:_/\_/\_/\_);have hlb2:=hlb;simp only[yP,xA,Sa,Eb]at hlb2;obtain⟨⟨⟨hl1,hl2⟩,-⟩,hl3,hl4⟩:=hlb2;obtain⟨hm1,hm2⟩:1<=d/\d<=1000000000:=by simpa[xA]using hmb
 clear HCS hC1 hNE h23 hT;go_upto_region 7 with(first
  |(go_at_call 129;refine(ZI (L:=⟨lf,ll,ls⟩) (by assumption) _).mono ?_;rintro e w3 ⟨rfl,i⟩;replace A:=bA (A.out.later i);clear I N O S T U X Y Z q r s t u y z C G yd yl yr yx f i;obtain⟨⟨I,N,O,S,T,U⟩,⟨X,Y,Z⟩,⟨q,r,s,t,u,y⟩,⟨z,C,G⟩,yd,yl,yr,yx,f⟩:=A.out.cells)
  |(go_at_call 25;refine(nC (by assumption) _).mono ?_;rintro e l ⟨rfl,hw⟩;replace hw:=hw.symm;subst hw))
 go_cut [48] (fun s48 wx=>s48=.bool (decide (ls≠0/\d<ls+F.size))/\wx=w3)
 case first=>
  have h3:(ls==0)=true/\(ls != 0)=false/\decide (ls≠0/\d<ls+F.size)=false\/(ls==0)=false/\(ls != 0)=true/\(d<ls+F.size/\decide (ls≠0/\d<ls+F.size)=true\/¬d<ls+F.size/\decide (ls≠0/\d<ls+F.size)=false):=by
   by_cases h0:ls=0
   ·left;simp[h0]
   ·right;by_cases hm:d<ls+F.size<;>simp[h0,hm]
  rcases h3 with⟨x1,x2,HD⟩|⟨x1,x2,⟨x3,HD⟩|⟨x3,HD⟩⟩
  all_goals
   have HD:=bA HD;go_wp2;go_meet;exact⟨by rw[HD.out],rfl⟩
 obtain⟨rfl,hw⟩:=hcut;subst hw;rename World=>w3;clear I N O S T U X Y Z q r s t u y z C G yd yl yr yx f;go_upto_if 48 with fail;go_cut [12,13] (fun _ _ wx=>∃(fs9:List kA) (c9 k9 cr9 fl9:Int) (dn9:Bool) (g o:Int) (a9:Option Addr) (cap9:Nat),LA w wx w.heap.size a9 cap9 fs9 c9 k9 cr9 fl9 dn9 lf g o/\CU fs9/\1<=g/\g<=999999/\0<=o/\o<=1000000000/\Hid (R=wJ ⟨fs9,c9,k9,cr9,fl9,dn9⟩ ⟨lf,g,o⟩ F))
 case first=>
  by_cases hb:ls≠0/\d<ls+F.size
  ·have HBT:=bA hb;rw[Zb hb];clear hb;obtain⟨⟨I,N,O,S,T,U⟩,⟨X,Y,Z⟩,⟨q,r,s,t,u,y⟩,⟨z,C,G⟩,yd,yl,yr,yx,f⟩:=A.out.cells;by_cases J:ll=999999
   ·have E:=bA (HN.out.2.2.1 HBT.out J);have hendb:(ll==999999)=true:=by simpa using J
    clear J;go_wp2_with fail;go_region
    go_wp2;refine bodyPost_ret (v:=?_) (by simp[results,results125,go_sem,q,r,s,t,u,y,z,C,G];rfl) rfl ?_;rw[E.out];refine⟨_,_,rfl,A.out.ret ?_⟩;repeat (first|with_reducible exact gA.refl _ _|with_reducible refine gA.drew ?_|with_reducible refine gA.setCell ?_ (Ca (by simp)) _ _)
   ·have hendb:(ll==999999)=false:=by simpa using J
    have hl5:ll+1<=999999:=by omega
    have hwr:IntKind.i64.wrap (ll+1)=ll+1:=by rw[IntKind.wrap_i64];omega
    obtain⟨fs1,c1,k1,cr1,fl1,dn1,H,hst,hfit1,hs1⟩:=JA (D:=⟨fs,c,k,cr,fl,dn⟩) (op:=bO (ll+1)) HFIT.out (by have:=aN (ll+1);unfold maxLen;show(wQ (ll+1)).size<=_;omega) (by show(0:Nat)<=_;omega) (by show(0:Nat)<=_;omega);have EN:=bA (HR0.out HN.out.1 HN.out.2.1 HBT.out J _ _ hst);have HFIT1:=bA hfit1;have HST1:Hid (xY _ ⟨1,wQ (ll+1),⟨#[]⟩,⟨#[]⟩,0⟩ _ _):=hs1;clear hst hfit1 hs1 J I N O S T U X Y Z q r s t u y z C G yd yl yr yx f;obtain⟨⟨I,N,O,S,T,U⟩,⟨X,Y,Z⟩,⟨q,r,s,t,u,y⟩,⟨z,C,G⟩,yd,yl,yr,yx,f⟩:=A.out.cells;clear q r s t u y z C G yr yx;go_upto_region 10 with fail;go_cut [12,13] (fun sa sb wx=>∃P,sa=.pointer (some ⟨P,0,none⟩)/\sb=.int .i64 (H:Nat)/\PX w3 P fs1 c1 k1 cr1 fl1 dn1 wx)
    case first=>
     have K:=bA (fun l (h:Below w3.heap.size w3 l)=>(⟨(A.out.D.later h).c6,(A.out.L.later h).c3⟩:_/\_));go_region_held3 (fun l=>(l.cell? ⟨w.heap.size,0,none⟩=some (.slice a1 fs.length j)/\l.cell? ⟨w.heap.size,1,none⟩=some (.int .i64 c)/\l.cell? ⟨w.heap.size,2,none⟩=some (.int .i64 k)/\l.cell? ⟨w.heap.size,3,none⟩=some (.int .i64 cr)/\l.cell? ⟨w.heap.size,4,none⟩=some (.int .i64 fl)/\l.cell? ⟨w.heap.size,5,none⟩=some (.bool dn))/\l.cell? ⟨w.heap.size+1,0,none⟩=some (.int .i64 lf)/\l.cell? ⟨w.heap.size+1,1,none⟩=some (.int .i64 ll)/\l.cell? ⟨w.heap.size+1,2,none⟩=some (.int .i64 ls))
      (first|go_keep|with_reducible exact K.out _ (qi k3 (Ka _))|with_reducible exact K.out _ (qi k3 V.size)|with_reducible exact K.out _ k3|with_reducible exact K.out _ V|with_reducible exact K.out _ (nA V (cA _ _))|with_reducible exact K.out _ ((cA _ _).drew)|with_reducible exact K.out _ (nA k3 (cA _ _)))
      (first
      |(go_at_call 115;refine(dO _ _).mono ?_;rintro e v2 ⟨rfl,n⟩;have V:Below w3.heap.size w3 v2:=(by first|with_reducible exact nA (Below.refl _ _).drew n|with_reducible exact nA ((cA _ _).drew) n);have c2:=K.out _ V;(first|(have hz:=bR n)|skip))
      |(go_at_call 71;refine(HST1.out _ _ _ (A.out.F.later (by first|with_reducible exact V|with_reducible exact nA V (cA _ _)))).mono ?_;rintro e v3 ⟨a2,cap2,rfl,how,i⟩;have HOW:=bA how;have k3:Below w3.heap.size w3 v3:=(by first|with_reducible exact nA V i|with_reducible exact nA (nA V (cA _ _)) i);have c3:=K.out _ k3;(first|(have hz:=hz.later i)|(have hz:eA _ v2.heap.size _ _:=uO i)|skip);(try (obtain⟨q0,q1,q2,q3,q4,q5⟩:=hz.c6;have b:=hz.free))))
     all_goals(go_wp2_with fail;go_meet)
     all_goals first
      |with_reducible exact⟨_,rfl,rfl,gd HOW.out k3⟩
      |exact⟨_,rfl,rfl,ge HOW.out k3 (by first|exact Ka _|exact V.size) hz⟩
    obtain⟨P,rfl,rfl,a2,cap2,hP,hPB,hf2,hb4⟩:=hcut;rename World=>w4;replace A:=bA (A.out.later hb4);have hN3:w.heap.size+1+1+1<P:=by omega
    have F4:=bA hf2;clear I N O S T U X Y Z yd yl f;obtain⟨⟨I,N,O,S,T,U⟩,⟨X,Y,Z⟩,⟨q,r,s,t,u,y⟩,⟨z,C,G⟩,yd,yl,yr,yx,f⟩:=A.out.cells;obtain⟨x0,x1,x2,x3,x4,x5⟩:=hPB.c6;clear hPB hf2 hb4;go_upto_region 11 with fail;go_cut [] (fun wx=>LA w wx w.heap.size a2 cap2 fs1 c1 k1 cr1 fl1 dn1 lf ll ls)
    case first=>
     go_wp2_with fail;go_meet;exact A.out.put F4.out
    rename World=>w5;replace A:=bA hcut;clear hcut x0 x1 x2 x3 x4 x5 F4 I N O S T U X Y Z q r s t u y z C G yd yl yr yx f;obtain⟨⟨I,N,O,S,T,U⟩,⟨X,Y,Z⟩,⟨q,r,s,t,u,y⟩,⟨z,C,G⟩,yd,yl,yr,yx,f⟩:=A.out.cells;by_cases hc:H=0
    ·have hcb:((H:Int) != 0)=false:=by simp[hc]
     have E:Hid (R=wJ ⟨fs1,c1,k1,cr1,fl1,dn1⟩ ⟨lf,ll+1,0⟩ F):=by show _=_;rw[EN.out,Oa (by simp[hc])]
     clear hc;go_wp2_with fail;go_meet;have hLn:=(A.out.L.set 1 (.int .i64 (ll+1))).set 2 (.int .i64 0);exact⟨fs1,c1,k1,cr1,fl1,dn1,ll+1,0,a2,cap2,A.out.log (by omega) (((dB.refl _ _).setCell 1 _).setCell 2 _) (by simpa using hLn),HFIT1.out,by omega,hl5,by omega,by omega,E⟩
    ·have hcb:((H:Int) != 0)=true:=by simpa using hc
     have E:Hid (R=(⟨fs1,c1,k1,cr1,fl1,dn1⟩,⟨lf,ll,ls⟩,H)):=by show _=_;rw[EN.out,Qa hc]
     clear hc;go_wp2_with fail;go_region
     go_wp2;refine bodyPost_ret (v:=?_) (by simp[results,results125,go_sem,q,r,s,t,u,y,z,C,G];rfl) rfl ?_;rw[E.out];refine⟨_,_,rfl,A.out.ret ?_⟩;repeat (first|with_reducible exact gA.refl _ _|with_reducible refine gA.drew ?_|with_reducible refine gA.setCell ?_ (Ca (by simp)) _ _)
  ·have E:=bA (HN.out.2.2.2 hb);rw[Bc hb];clear hb;go_wp2_with fail;go_meet;exact⟨fs,c,k,cr,fl,dn,ll,ls,a1,j,A.out,HFIT.out,hl1,hl2,hl3,hl4,E⟩
 clear A HFIT;obtain⟨fs9,c9,k9,cr9,fl9,dn9,g,o,a9,cap9,hA,hfit9,h91,h92,h93,h94,E9⟩:=hcut;rename World=>w9;have A:=bA hA;obtain⟨fs6,c6,k6,cr6,fl6,dn6,M,hst,hfit6,hs6⟩:=JA (D:=⟨fs9,c9,k9,cr9,fl9,dn9⟩) (op:=qI g F) hfit9 (by have:=aN (g);unfold maxLen;show(wQ (g)).size<=_;omega) (by show(0:Nat)<=_;omega) (by show F.size<=_;omega);have HST6:Hid (xY _ ⟨2,wQ g,⟨#[]⟩,F,0⟩ _ _):=hs6;have HS6:=bA hst;have HFIT6:=bA hfit6;clear hst hfit6 hs6 hA hfit9 HR0 HN;obtain⟨⟨I,N,O,S,T,U⟩,⟨X,Y,Z⟩,⟨q,r,s,t,u,y⟩,⟨z,C,G⟩,yd,yl,yr,yx,f⟩:=A.out.cells;clear q r s t u y z C G yr yx;go_upto_region 16 with fail;go_cut [14,15] (fun sa sb wx=>∃P,sa=.pointer (some ⟨P,0,none⟩)/\sb=.int .i64 (M:Nat)/\PX w9 P fs6 c6 k6 cr6 fl6 dn6 wx)
 case first=>
  have K:=bA (fun l (h:Below w9.heap.size w9 l)=>(⟨(A.out.D.later h).c6,(A.out.L.later h).c3⟩:_/\_));go_region_held3 (fun l=>(l.cell? ⟨w.heap.size,0,none⟩=some (.slice a9 fs9.length cap9)/\l.cell? ⟨w.heap.size,1,none⟩=some (.int .i64 c9)/\l.cell? ⟨w.heap.size,2,none⟩=some (.int .i64 k9)/\l.cell? ⟨w.heap.size,3,none⟩=some (.int .i64 cr9)/\l.cell? ⟨w.heap.size,4,none⟩=some (.int .i64 fl9)/\l.cell? ⟨w.heap.size,5,none⟩=some (.bool dn9))/\l.cell? ⟨w.heap.size+1,0,none⟩=some (.int .i64 lf)/\l.cell? ⟨w.heap.size+1,1,none⟩=some (.int .i64 g)/\l.cell? ⟨w.heap.size+1,2,none⟩=some (.int .i64 o))
   (first|go_keep|with_reducible exact K.out _ (qi k3 (Ka _))|with_reducible exact K.out _ (qi k3 V.size)|with_reducible exact K.out _ k3|with_reducible exact K.out _ V|with_reducible exact K.out _ (nA V (cA _ _))|with_reducible exact K.out _ ((cA _ _).drew)|with_reducible exact K.out _ (nA k3 (cA _ _)))
   (first
   |(go_at_call 115;refine(dO _ _).mono ?_;rintro e v2 ⟨rfl,n⟩;have V:Below w9.heap.size w9 v2:=(by first|with_reducible exact nA (Below.refl _ _).drew n|with_reducible exact nA ((cA _ _).drew) n);have c2:=K.out _ V;(first|(have hz:=bR n)|skip))
   |(go_at_call 71;refine(HST6.out _ _ _ (A.out.F.later (by first|with_reducible exact V|with_reducible exact nA V (cA _ _)))).mono ?_;rintro e v3 ⟨a2,cap2,rfl,how,i⟩;have HOW:=bA how;have k3:Below w9.heap.size w9 v3:=(by first|with_reducible exact nA V i|with_reducible exact nA (nA V (cA _ _)) i);have c3:=K.out _ k3;(first|(have hz:=hz.later i)|(have hz:eA _ v2.heap.size _ _:=uO i)|skip);(try (obtain⟨q0,q1,q2,q3,q4,q5⟩:=hz.c6;have b:=hz.free))))
  all_goals(go_wp2_with fail;go_meet)
  all_goals first
   |with_reducible exact⟨_,rfl,rfl,gd HOW.out k3⟩
   |exact⟨_,rfl,rfl,ge HOW.out k3 (by first|exact Ka _|exact V.size) hz⟩
 obtain⟨P,rfl,rfl,a6,cap6,hP,hPB,hf6,hb10⟩:=hcut;rename World=>w10;have hN3:w.heap.size+1+1+1<P:=by omega
 have hA:LA w w10 P a6 cap6 fs6 c6 k6 cr6 fl6 dn6 lf g o:=⟨hPB,A.out.L.later hb10,A.out.RD.later hb10,A.out.RL.later hb10,hf6,nA A.out.B hb10⟩
 replace A:=bA hA;clear hA hPB hf6 hb10 I N O S T U X Y Z yd yl f;obtain⟨⟨I,N,O,S,T,U⟩,⟨X,Y,Z⟩,⟨q,r,s,t,u,y⟩,⟨z,C,G⟩,yd,yl,yr,yx,f⟩:=A.out.cells;by_cases hc:M=0
 ·have hcb:((M:Int) != 0)=false:=by simp[hc]
  obtain⟨fs7,c7,k7,cr7,fl7,dn7,m,hst,-,hs7⟩:=JA (D:=⟨fs6,c6,k6,cr6,fl6,dn6⟩) (op:=sZ g) HFIT6.out (by have:=aN (g);unfold maxLen;show(wQ (g)).size<=_;omega) (by show(0:Nat)<=_;omega) (by show(0:Nat)<=_;omega);have HST7:Hid (xY _ ⟨3,wQ g,⟨#[]⟩,⟨#[]⟩,0⟩ _ _):=hs7;have ET:=bA (E9.out.trans (RZ HS6.out hc hst));clear hc hst hs7;go_upto_region 19 with fail;go_cut [15] (fun sb wx=>sb=.int .i64 (m:Nat)/\∃a7 cap7,LA w wx P a7 cap7 fs7 c7 k7 cr7 fl7 dn7 lf g o)
  case first=>
   go_region_with (first
    |(go_at_call 115;refine(dO _ _).mono ?_;rintro e v2 ⟨rfl,n⟩;have A2:=bA (A.out.later (nA (Below.refl _ _).drew n));obtain⟨⟨x0,x1,x2,x3,x4,x5⟩,-⟩:=A2.out.cells)
    |(go_at_call 71;refine(HST7.out _ _ _ A2.out.F).mono ?_;rintro e v3 ⟨a7,cap7,rfl,how,i⟩;have HOW:=bA how;have A3:=bA (A2.out.later i);obtain⟨⟨q0,q1,q2,q3,q4,q5⟩,-,-,-,b,-⟩:=A3.out.cells))
   all_goals
    go_wp2_with fail;go_meet;exact⟨rfl,a7,cap7,A3.out.putP (by omega) HOW.out⟩
  obtain⟨rfl,a7,cap7,hA⟩:=hcut;rename World=>w11;replace A:=bA hA;clear hA I N O S T U X Y Z q r s t u y z C G yd yl yr yx f;obtain⟨⟨I,N,O,S,T,U⟩,⟨X,Y,Z⟩,⟨q,r,s,t,u,y⟩,⟨z,C,G⟩,yd,yl,yr,yx,f⟩:=A.out.cells;by_cases hc7:m=0
  ·have hcb7:((m:Int)==0)=true:=by simp[hc7]
   have E:Hid (R=(⟨fs7,c7,k7,cr7,fl7,dn7⟩,⟨lf,g,o+F.size⟩,m)):=by show _=_;rw[ET.out,Oa (by simp[hc7]),hc7]
   clear hc7;go_upto_region 21 with fail;go_cut [] (fun wx=>LA w wx P a7 cap7 fs7 c7 k7 cr7 fl7 dn7 lf g (o+F.size))
   case first=>
    go_wp2_with fail;go_meet;have hLn:=A.out.L.set 2 (.int .i64 (o+F.size));exact A.out.log (by omega) ((dB.refl _ _).setCell 2 _) (by simpa using hLn)
   rename World=>w12;replace A:=bA hcut;clear hcut I N O S T U X Y Z q r s t u y z C G yd yl yr yx f;obtain⟨⟨I,N,O,S,T,U⟩,⟨X,Y,Z⟩,⟨q,r,s,t,u,y⟩,⟨z,C,G⟩,yd,yl,yr,yx,f⟩:=A.out.cells;go_wp2_with fail;go_region
   go_wp2;refine bodyPost_ret (v:=?_) (by simp[results,results125,go_sem,q,r,s,t,u,y,z,C,G];rfl) rfl ?_;rw[E.out];refine⟨_,_,rfl,A.out.ret ?_⟩;repeat (first|with_reducible exact gA.refl _ _|with_reducible refine gA.drew ?_|with_reducible refine gA.setCell ?_ (Ca (by simp)) _ _)
  ·have hcb7:((m:Int)==0)=false:=by simpa using hc7
   have E:Hid (R=(⟨fs7,c7,k7,cr7,fl7,dn7⟩,⟨lf,g,o⟩,m)):=by show _=_;rw[ET.out,Qa hc7]
   clear hc7;go_wp2_with fail;go_region
   go_wp2;refine bodyPost_ret (v:=?_) (by simp[results,results125,go_sem,q,r,s,t,u,y,z,C,G];rfl) rfl ?_;rw[E.out];refine⟨_,_,rfl,A.out.ret ?_⟩;repeat (first|with_reducible exact gA.refl _ _|with_reducible refine gA.drew ?_|with_reducible refine gA.setCell ?_ (Ca (by simp)) _ _)
 ·have hcb:((M:Int) != 0)=true:=by simpa using hc
  have E:=bA (E9.out.trans (RY HS6.out hc));clear hc;go_wp2_with fail;go_region
  go_wp2;refine bodyPost_ret (v:=?_) (by simp[results,results125,go_sem,q,r,s,t,u,y,z,C,G];rfl) rfl ?_;rw[E.out];refine⟨_,_,rfl,A.out.ret ?_⟩;repeat (first|with_reducible exact gA.refl _ _|with_reducible refine gA.drew ?_|with_reducible refine gA.setCell ?_ (Ca (by simp)) _ _)
