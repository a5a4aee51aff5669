import Derived.Test.YtcneojllbkacoaaGreatDoorJ45LawNa
import Derived.Test.YtcneojllbkacoaaGreatDoorJ50INap
import Derived.Test.YtcneojllbkacoaaGreatDoorJ51SNap
namespace Go.Proofs.YtcneojllbkacoaaGreatDoor
open Go.RowKit
theorem aKx {N:bD} (h:0≤szN N):(N.d.fs.length+bulk N.d.fs+(N.ts.length+nA N.ts):Int)+szN N=1048576:=by
 unfold szN at *;split at h
 ·omega
 ·rename_i h1;rw [if_neg h1];unfold cM at *;split at h1
  ·rename_i h2;rw [if_pos h2] at h ⊢;unfold uG at *;split at h
   ·rename_i h3;rw [if_pos h3];omega
   ·omega
  ·omega
theorem aHf {ts:List cA} (h:ts.length+nA ts≤1048576):DI ts:=fun i hi=>by
 have h1:=oR ts i hi;unfold zC at h1;omega
theorem nU {ts:List cA} (h:ts.length+nA ts≤1100000):kB ts≤4400000:=by
 have:kB ts≤2 * nA ts+2 * ts.length:=by
  clear h;induction ts with
  | nil=>exact Nat.zero_le _
  | cons t r ih=>simp only [List.length_cons,kB,iL,nA,zC];omega
 omega
theorem aOq (c:eC) (a b:Option Addr) (ca cb:Nat) (N:bD) (ar:Option Addr) (capr:Nat) (rs:List pC) (w:World) (hpw:gM w) (hU:wF w) (hf:kA w a N.d.fs) (hs:qI N.d.fs) (hl:N.d.fs.length≤maxLen) (ht:pB w b N.ts) (hst:rU N.ts) (hlt:N.ts.length≤maxLen) (hr:oE w ar rs) (hsr:DH rs) (hrr:aDf rs) (hlr:rs.length≤maxLen) (hls:I64 N.lsn):
 Calls Tryz.prog 3 #[wG c,.agg (tD a ca b cb N),.slice ar rs.length capr] w fun e w'=>e=.returned (.bool true)∧Below w.heap.size w w':=by
 obtain ⟨cq,q0,q1,q2,q3,q4,q5,hq,fq,rq⟩:=aPs c 23;obtain ⟨n0,n1,n2,n3,n4,n5,n6,n7,n8,n9,n10,n11,n12,n13,fN,rN⟩:=(show FN w N (tD a ca b cb N) from ⟨a,ca,b,cb,rfl,hf,ht⟩).r 33;rw [hq];refine aJi (N:=N) (M:=(gP c N rs).1) (rs:=rs) (code:=(gP c N rs).2) (KM:=((1+3 * N.d.fs.length+kB N.ts:Nat):Int)) (KR:=((1+3 * N.d.fs.length+kB N.ts+4 * rs.length:Nat):Int)) (QM:=((1+3 * (gP c N rs).1.d.fs.length+kB (gP c N rs).1.ts:Nat):Int)) (s1:=szN N) (s2:=lR (szN N) rs) fq rq fN rN (fun W hW=>aBf a b ca cb N W (hf.later hW) hs hl (ht.later hW) hst hlt) (fun h0 W hW=>aBg ar capr rs _ W h0 (by have:=aKx h0;omega) (hr.later hW) hsr hlr) (fun h0 h2=>?_);have hz:=aKx h0;have hz2:(rs.length+uB rs:Int)≤szN N:=by
  unfold lR at h2;split at h2<;>omega
 have hbk:N.ts.length+nA N.ts+rs.length+uB rs≤1048576:=by omega
 have hfl:N.d.fs.length≤1048576:=by omega
 have hFit:IL N.d.fs:=⟨hs,hfl,by have:=GW N.d.fs;omega⟩
 obtain ⟨hMF,hMb⟩:=aGc (c:=c) hFit hbk;obtain ⟨-,-,-,f4⟩:=kS (ts:=N.ts) (by omega);obtain ⟨-,-,-,m4⟩:=kS hMb;have t1:=nU (ts:=N.ts) (by omega);have t2:=nU hMb;have hml:=hMF.len;generalize hV:gP c N rs=V at *;refine ⟨fun W=>by rw [←hq];exact QX _ _ _ _ _ _ W,fun W hW=>(aBm a b ca cb N W (hf.later hW) hfl (ht.later hW) (by omega) (aHf (by omega))).mono fun e w' ⟨g,h,he,hA,hb⟩=>⟨_,he,⟨_,_,_,_,rfl,hA⟩,hb⟩,
  fun W hW=>(aBn ar capr rs W (hr.later hW) (by omega)).mono fun e w' ⟨h1,h2,h3,h4⟩=>⟨_,h1,⟨_,rfl,h4,h2⟩,h3⟩,fun W cs v hF hR=>?_,fun W cs v hF hR hW=>?_,fun W cs cs' h h'=>?_,fun W cs cs' h h'=>?_,fun W v v' h h'=>?_,fun W A cs h hA=>?_,fun W g v h=>?_,fun W A cs h hA=>?_,fun W cs h=>?_,by omega,by omega⟩
 ·obtain ⟨a1,c1,b1,d1,rfl,h1,h2⟩:=hF;obtain ⟨r1,e1,rfl,h3⟩:=hR;rw [←hq,←hV];exact (WX c a1 b1 c1 d1 N r1 e1 rs W ⟨h1,hFit,h2,h3,hbk,hrr,hls⟩).mono fun e w' ⟨a,ca,b,cb,he,h4,h5,h6⟩=>⟨_,he,⟨_,_,_,_,rfl,h4,h5⟩,h6⟩
 ·obtain ⟨a1,c1,b1,d1,rfl,h1,h2⟩:=hF;obtain ⟨r1,e1,rfl,h3⟩:=hR;rw [←hq,←hV];exact (UC c a1 b1 c1 d1 N r1 e1 rs W ⟨h1,hFit,h2,h3,hbk,hrr,hls⟩ (hU.later hW) (hpw.later hW)).mono fun e w' ⟨a,ca,b,cb,he,h4,h6⟩=>⟨_,he,⟨_,_,_,_,rfl,h4⟩,h6⟩
 ·obtain ⟨a1,c1,b1,d1,rfl,h1,h2⟩:=h;obtain ⟨a2,c2,b2,d2,rfl,h3,h4⟩:=h';exact AH a1 a2 b1 b2 c1 c2 d1 d2 N W h1 h3 hl h2 h4 hlt f4
 ·obtain ⟨a1,c1,b1,d1,rfl,h1,h2⟩:=h;obtain ⟨a2,c2,b2,d2,rfl,h3,h4⟩:=h';exact AH a1 a2 b1 b2 c1 c2 d1 d2 V.1 W h1 h3 (by unfold maxLen;omega) h2 h4 (by unfold maxLen;omega) m4
 ·obtain ⟨a1,c1,rfl,h⟩:=h;obtain ⟨a2,c2,rfl,h'⟩:=h';exact TC _ _ _ _ rs W h h' hlr
 ·obtain ⟨a1,c1,b1,d1,rfl,h1⟩:=h;exact (jX a1 b1 c1 d1 N A W h1 hA (by omega)).mono fun e w' h=>⟨h.1,h.2.1⟩
 ·obtain ⟨cap,rfl,-,h⟩:=h;refine (PD _ cap rs (1+3 * N.d.fs.length+kB N.ts) g W (by omega) (by omega) h).mono fun e w' ⟨h1,h2,_⟩=>⟨h1,?_⟩
  rcases h2 with ⟨_,hb⟩ | ⟨_,g',o,hg,_,hb⟩
  ·exact dA.of hb
  ·cases hg
   exact dA.but hb
 ·obtain ⟨a1,c1,b1,d1,rfl,h1⟩:=h;exact (jX a1 b1 c1 d1 V.1 A W h1 hA (by omega)).mono fun e w' h=>⟨h.1,h.2.1,_,_,_,_,rfl,h.2.2.1,h.2.2.2⟩
 ·obtain ⟨a1,c1,b1,d1,rfl,h1,h2⟩:=h;exact ON a1 b1 c1 d1 V.1.d.fs.length V.1.d.c V.1.d.k V.1.d.cr V.1.d.fl V.1.d.dn V.1.l V.1.now V.1.lsn V.1.deg V.1.up V.1.ts W h1 h2 (by omega)
end Go.Proofs.YtcneojllbkacoaaGreatDoor
