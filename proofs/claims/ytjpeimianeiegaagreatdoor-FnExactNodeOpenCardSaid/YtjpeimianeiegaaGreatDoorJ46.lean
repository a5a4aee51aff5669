import Derived.Test.YtjpeimianeiegaaGreatDoorJ43
set_option maxRecDepth 100000
set_option maxHeartbeats 16000000
namespace Go.Proofs.YtjpeimianeiegaaGreatDoor
open Go.RowKit Tryz
theorem aLo (t:fA) (b:Bool) (a:List fA) (c:vB (·.s) a):(lx t b a).length<=a.length+1:=by
 cases b with
 |true=>
  rw[iS];have:(tD (·.s) t.s a).length<=a.length:=Tb _ _;omega
 |false=>rw[ly c];exact DE _
theorem aLp (t p:fA) (l:List fA) (b:Bool):b=true/\(p.s.toList==t.s.toList)=true/\gH t (l,b) p=(l,true)\/b=true/\(p.s.toList==t.s.toList)=false/\gH t (l,b) p=(l++[p],true)\/
 b=false/\(p.s.toList==t.s.toList)=false/\(t.s.toList==p.s.toList)=false/\Op.bytesLess t.s.toList p.s.toList=false/\gH t (l,b) p=(l++[p],false)\/b=false/\(p.s.toList==t.s.toList)=false/\Op.bytesLess t.s.toList p.s.toList=true/\gH t (l,b) p=(l++[t]++[p],true)\/
 b=false/\(p.s.toList==t.s.toList)=true/\(t.s.toList==p.s.toList)=true/\Op.bytesLess t.s.toList p.s.toList=false/\gH t (l,b) p=(l++[t],true):=by
 cases b with
 |true=>cases h:(p.s.toList==t.s.toList)<;>simp[gH,h]
 |false=>
  by_cases d:uH p.s t.s=true
  ·have a:=mC (bH d);exact Ea (Ea (Ba ⟨rfl,a,mC (bH d).symm,jY d,by simp[gH,d,a]⟩))
  ·have c:uH p.s t.s=false:=by simpa using d
   by_cases e:uH t.s p.s=true
   ·have a:=mC (bH e).symm;exact Ea (Ea (Ea (Ba ⟨rfl,a,e,by simp[gH,c,a]⟩)))
   ·have g:=Decidable.byContradiction fun f=>e (qT c f);have a:=(xC _ _).2 g;exact Ea (Ea (Ea (Ea ⟨rfl,a,(xC _ _).2 g.symm,by simpa[uH]using e,by simp[gH,c,a]⟩)))
theorem yc {w g W:World} {c:nB} {i:Int} {a:Option Addr} {n h X:Nat} {t u B:Value} {A k b:Option Addr} {s f d:Nat} {z ss j:List fA} (x:j.length=d) (P:wY w g c i a n h) (r:lA g X #[t,u,B,.slice k ss.length s] 107) (v:w.heap.size+1+1<X) (l:∀W,gA (·=X) g W->vA W A z/\vA W k ss) (o:Below g.heap.size g W) (p:W.ownsRow g.heap.size 111 2 (.slice b d f) d (flatK j)):
 lA (W.setCell ⟨X,2,none⟩ (.slice b d f)) X #[t,u,.slice b d f,.slice k ss.length s] 107/\vA (W.setCell ⟨X,2,none⟩ (.slice b d f)) b j/\vA (W.setCell ⟨X,2,none⟩ (.slice b d f)) k ss/\wY w (W.setCell ⟨X,2,none⟩ (.slice b d f)) c i a n h:=by
 subst x;have m:gA (·=X) W (W.setCell ⟨X,2,none⟩ (.slice b j.length f)):=(gA.refl (·=X) W).setCell (Ba rfl) 2 _;have C:=aA r;exact⟨by have:=(r.later o).set 2 (.slice b j.length f);simpa using this,(pC (m.row p (fun q y e=>by have:=(p.lt q y).1;omega))).pairs,(l _ ((gA.of o).trans' m)).2,(P.later o).turn m v⟩
theorem ME {c:nB} {g:Int} {a:Option Addr} {x:Nat} {S:List eA} {C d:ByteArray} {f:Int} {w:World} {h:eA} {V:Int×List eA×Bool} (H:Hid (SC w c g a x S C h)) (hm:d.size<=1100000) (hmt:d.toList.isEmpty=true\/d.toList.isEmpty=false/\lE d=true) (hlb:uA f (-1) 1000000=true)
 (HV:Hid (V=if 10000<(sC c.w g (qA (·.name) (jG h d f) S)).length then(g,S,false) else(g,sC c.w g (qA (·.name) (jG h d f) S),true))):
 Calls prog 56 #[tE c,.agg #[.int .i64 g,.slice a S.length x],.string C,.string d,.int .i64 f] w fun e w'=>CC V w e w':=by
 have HMN:=bA (fun W=>lN d W (by omega));have P:=bA (wY.new (w:=w) (c:=c) (now:=g) (a:=a) (n:=S.length) (cap:=x));obtain⟨hml,hsl⟩:=H.out.len;obtain⟨hn0,hn1⟩:=H.out.now0;unfold CC tE;go_enter func56,ntmps56;go_wp2_with fail;refine(H.out.ok _ P.out.B).mono ?_;rintro e D ⟨rfl,hb⟩;replace P:=bA (P.out.later hb);clear hb;go_upto_region 3 with fail;go_cut [39] (fun b wx=>b=.bool false/\wY w wx c g a S.length x)
 case first=>
  rcases hmt with k2|⟨k2,R⟩
  all_goals
   go_wp2_with(first
    |(go_at_call 81;refine(H.out.nm _).mono ?_;rintro e w' ⟨rfl,hw⟩;subst hw)
    |(go_at_call 41;refine(yC hlb _).mono ?_;rintro e w' ⟨rfl,hw⟩;subst hw)
    |(go_at_call 83;refine(HMN.out _).mono ?_;rintro e w5 ⟨rfl,hb⟩;replace P:=bA (P.out.later hb);clear hb))
   go_meet;exact⟨by simp,P.out⟩
 clear P HMN;obtain⟨rfl,hP⟩:=hcut;rename World=>D;have P:=bA hP;have F:=bA hP.kin;obtain⟨vy0,vy1,vx0⟩:=hP.kin D (Below.refl _ _);have hsv:=hP.lt;clear hP;go_upto_region 5 with fail;go_cut [12] (fun p wx=>∃X,p=.pointer (some ⟨X,0,none⟩)/\KX D X h wx)
 case first=>
  go_region_held3 (fun w'=>w'.cell? ⟨w.heap.size+1,0,none⟩=some (.int .i64 g)/\w'.cell? ⟨w.heap.size+1,1,none⟩=some (.slice a S.length x)/\w'.cell? ⟨w.heap.size,0,none⟩=some (.int .i64 c.w))
   (first|go_keep|with_reducible exact F.out _ (bf N (Da _))|with_reducible exact F.out _ (bf N R.size)|with_reducible exact F.out _ N|with_reducible exact F.out _ R|with_reducible exact F.out _ (pA R (cA _ _))|with_reducible exact F.out _ ((cA _ _).drew)|with_reducible exact F.out _ (pA N (cA _ _)))
   (first
    |(go_at_call 93;refine(H.out.te _ (by with_reducible exact P.out.B.drew)).mono ?_;rintro e m ⟨⟨a1,c1,a2,c2,rfl,p1,p2⟩,y⟩;have R:Below D.heap.size D m:=(by with_reducible exact pA (Below.refl _ _).drew y);have c3:=F.out _ R)
    |(go_at_call 93;refine(H.out.te _ (by with_reducible exact(pA P.out.B (cA _ _)).drew)).mono ?_;rintro e m ⟨⟨a1,c1,a2,c2,rfl,p1,p2⟩,y⟩;have R:Below D.heap.size D m:=(by with_reducible exact pA ((cA _ _).drew) y);have c3:=F.out _ R;have Q:lA m D.heap.size #[.string ⟨#[]⟩,.int .i64 0,.slice none 0 0,.slice none 0 0] 107:=UG y)
    |(have q:=Q;clear q;go_at_call 92;refine(H.out.kp _ a1 a2 c1 c2 (by with_reducible exact p1) (by with_reducible exact p2)).mono ?_;rintro e w4 ⟨M,q1,e1,q2,e2,rfl,hM,h1,h1M,Z,hM4,z⟩;have N:Below D.heap.size D w4:=(by with_reducible exact pA R z);have c4:=F.out _ N;have t:=bA (Q.later z);obtain⟨s0,s1,s2,s3⟩:=t.out.c4;have f0:=t.out.free)
    |((fail_if_success (have q:=Q));go_at_call 92;refine(H.out.kp _ a1 a2 c1 c2 (by with_reducible exact p1) (by with_reducible exact p2)).mono ?_;rintro e w4 ⟨M,q1,e1,q2,e2,rfl,hM,h1,h1M,Z,hM4,z⟩;have N:Below D.heap.size D w4:=(by with_reducible exact pA R z);have c4:=F.out _ N)
    |(go_at_call 92;refine(H.out.kp _ a1 a2 c1 c2 (by with_reducible exact p1.later (cA _ _)) (by with_reducible exact p2.later (cA _ _))).mono ?_;rintro e w4 ⟨M,q1,e1,q2,e2,rfl,hM,h1,h1M,Z,hM4,z⟩;have N:Below D.heap.size D w4:=(by with_reducible exact pA (pA R (cA _ _)) z);have c4:=F.out _ N;have t:Hid (lA w4 m.heap.size #[.string ⟨#[]⟩,.int .i64 0,.slice none 0 0,.slice none 0 0] 107):=bA ((lA.new m _ _).later z);obtain⟨s0,s1,s2,s3⟩:=t.out.c4;have f0:=t.out.free))
  all_goals(go_wp2_with fail;go_meet)
  all_goals first
   |with_reducible exact⟨_,rfl,aNz h1 (pC Z) N⟩
   |exact⟨_,rfl,aFv h1 (pC Z) (by have:=aA Q;omega) hM (Da _) t.out N⟩
   |exact⟨_,rfl,aFv h1 (pC Z) (by simp) hM R.size t.out N⟩
 obtain⟨X,rfl,q1,e1,q2,e2,I,hPI,hXw,y⟩:=hcut;rename World=>m;replace P:=bA (P.out.later y);have K:=bA I;have G:=bA hPI;have Q:=aA I;have hXP:w.heap.size+1+1<X:=by omega
 clear F vy0 vy1 vx0 I hPI y;obtain⟨-,-,g2,-⟩:=K.out.c4;go_upto_if 52 with fail;go_cut [13,14] (fun _ _ wx=>∃L ms n1 p1 d1,List.length ms=n1/\jG h d f=⟨h.name,L,ms,h.s9⟩/\ms.length<=1100001/\lA wx X #[.string h.name,.int .i64 L,.slice p1 n1 d1,.slice q2 h.s9.length e2] 107/\vA wx p1 ms/\vA wx q2 h.s9/\wY w wx c g a S.length x)
 case first=>
  cases hme:d.toList.isEmpty with
  |true=>
   have HLM:=bA hme;obtain⟨-,g1,-,-⟩:=K.out.c4;have f1:=K.out.free;go_wp2;go_meet;have hT:gA (·=X) m (m.setCell ⟨X,1,none⟩ (.int .i64 f)):=(gA.refl (·=X) m).setCell (Ba rfl) 1 _;exact⟨f,h.m9,_,q1,e1,rfl,by unfold jG;rw[Ga HLM.out],by omega,by have:=K.out.set 1 (.int .i64 f);simpa using this,(G.out _ hT).1,(G.out _ hT).2,P.out.turn hT hXP⟩
  |false=>
   have HLA:=bA (aGn (l9:=f) H.out.rm hme);have HLE:=bA (fun b=>aLo ⟨d,f⟩ b _ H.out.rm);have L4:Hid ((m.alloc (.cells #[] 111)).ownsRow m.heap.size 111 2 (.slice (some ⟨m.heap.size,0,none⟩) 0 0) 0 []):=bA (World.ownsRow_made m #[] 0 (Da _) (by simp[maxLen]) (by simp));have B4:=bA (cA m (.cells #[] 111));obtain⟨-,-,g4,-⟩:=(K.out.alloc (.cells #[] 111)).c4;have HP1:=bA (G.out _ (gA.refl _ _)).1;go_upto_region 10 with fail;generalize (m.alloc (.cells #[] 111))=w4 at *;generalize decide (f<0)=Y at *;go_wp2;clear g4;go_loopw [13,14,16,61] (fun al pl _ i wr=>∃(k:Nat) (va:Option Addr) (vc:Nat) (l:List fA),k<=h.m9.length/\i=.int .i64 k/\al=.slice va l.length vc/\pl=.bool (gW ⟨d,f⟩ Y (h.m9.take k)).2/\l.length<=2*k/\Hid (l=(gW ⟨d,f⟩ Y (h.m9.take k)).1)/\Hid (wr.ownsRow m.heap.size 111 2 (.slice va l.length vc) l.length (flatK l))/\Hid (Below m.heap.size m wr)) (fun _ _ _ i _=>h.m9.length-(intOf i).toNat)
   case atStart=>exact⟨0,_,_,[],Ha _,rfl,rfl,rfl,Ha _,rfl,L4.out,B4.out⟩
   case round=>
    obtain⟨k,va,vc,l,hk,rfl,rfl,rfl,hyl,O,HR,j⟩:=hrel;have J:=j.out.size;by_cases hlt:k<h.m9.length
    ·obtain⟨pb,po,rfl,hpl,v0,v1⟩:=(HP1.out.later j.out).at hlt;have HU:=bA (uf ⟨d,f⟩ Y h.m9 k hlt);generalize gW ⟨d,f⟩ Y (h.m9.take k)=U at *;generalize h.m9[k]=p at *;obtain⟨LU,PU⟩:=U;have hy:l=LU:=O.out;subst hy;rcases aLp ⟨d,f⟩ p l PU with⟨rfl,hs,hU⟩|⟨rfl,hs,hU⟩|⟨rfl,hs,h1,Z,hU⟩|⟨rfl,hs,Z,hU⟩|⟨rfl,hs,h1,Z,hU⟩
     all_goals
      have r:=bA (HU.out.trans hU);clear O HU hU;dsimp only at hs;try dsimp only at h1
      try dsimp only at Z
      go_wp2_with(at_builtin;first
       |(refine bW rfl _ _ rfl underlying104 aR rfl (by omega) (by omega) (v:=.slice (some ⟨g7,0,none⟩) (l.length+1) A) rfl o.out rfl rfl rfl (by simp[Value.oneCell']) (by omega) (by omega) ?_;intro g8 cap8 w8 HR8 HT8)
       |(refine bW rfl _ _ rfl underlying104 aR rfl (by omega) (by omega) (v:=.slice va l.length vc) rfl (cB HR.out (cA _ _)) rfl (by simp) rfl (by simp[Value.oneCell']) (by omega) (by simp;omega) ?_;intro g7 A w7 o u;have hs7:m.heap.size<=w7.heap.size:=(by have:=u.out.size;simp at this;omega);obtain⟨r0,r1⟩:=(u.out.blk (lA.new wr #[.string p.s,.int .i64 p.n] 111) (fun e=>by have:=(HR.out.lt _ e.2).2;omega)).c2))
      first
       |(have q:=HR8;exact⟨⟨k+1,some ⟨g8,0,none⟩,cap8,l++[⟨d,f⟩]++[p],by omega,by go_num,by simp,by rw[r.out],by simp;omega,bA (by rw[r.out]),bA (by simpa[flatK]using HR8.out),bA (j.out.trans (((cA _ _).mono J).trans ((u.out.below (by simp;omega) fun i hi e=>by omega).trans (HT8.out.below hs7 fun i hi e=>by omega))))⟩,by simp[intOf];omega⟩)
       |(have q:=o;have q:(p.s.toList==d.toList)=false:=hs;exact⟨⟨k+1,some ⟨g7,0,none⟩,A,l++[p],by omega,by go_num,by simp,by rw[r.out],by simp;omega,bA (by rw[r.out]),bA (by simpa[flatK]using o.out),bA (j.out.trans (((cA _ _).mono J).trans (u.out.below (by simp;omega) fun i hi e=>by omega)))⟩,by simp[intOf];omega⟩)
       |(have q:=o;exact⟨⟨k+1,some ⟨g7,0,none⟩,A,l++[⟨d,f⟩],by omega,by go_num,by simp,by rw[r.out],by simp;omega,bA (by rw[r.out]),bA (by simpa[flatK]using o.out),bA (j.out.trans (((cA _ _).mono J).trans (u.out.below (by simp;omega) fun i hi e=>by omega)))⟩,by simp[intOf];omega⟩)
       |exact⟨⟨k+1,va,vc,l,by omega,by go_num,rfl,by rw[r.out],by omega,bA (by rw[r.out]),cB HR.out (cA _ _),j.out.trans ((cA _ _).mono J)⟩,by simp[intOf];omega⟩
    ·have ek:h.m9.take k=h.m9:=Pa (by omega);rw[ek]at O |-
     have HWA:Hid (lx ⟨d,f⟩ Y h.m9=(gW ⟨d,f⟩ Y h.m9).1++if (gW ⟨d,f⟩ Y h.m9).2=true then [] else [(⟨d,f⟩:fA)]):=rfl;have hle:=HLE.out Y;rw[HWA.out,Qa]at hle;generalize gW ⟨d,f⟩ Y h.m9=U at *;obtain⟨LU,PU⟩:=U;have hy:l=LU:=O.out;subst hy;have hyl2:l.length<=1100001:=by have:l.length<=h.m9.length+1:=Ma (A2 _ _) hle;omega
     obtain⟨-,-,g2,-⟩:=(K.out.later j.out).c4;have f2:=(K.out.later j.out).free;clear ek hyl O;cases PU
     all_goals
      go_wp2_with(at_builtin;refine bW rfl _ _ rfl underlying104 aR rfl (by omega) (by omega) (v:=.slice va l.length vc) rfl HR.out rfl rfl rfl (by simp[Value.oneCell']) (by omega) J ?_;intro g7 A w7 o u;have HB7:=bA (j.out.trans (u.out.below J fun i hi e=>by omega));clear g2 f2;obtain⟨-,-,g2,-⟩:=(K.out.later HB7.out).c4;have f2:=(K.out.later HB7.out).free);go_meet;first
       |(have q:=o;exact⟨h.l9,l++[⟨d,f⟩],_,_,_,by simp,by rw[HLA.out,HWA.out];simp,by simp at hle |-;omega,yc (by simp) P.out K.out hXP G.out HB7.out (by simpa[flatK]using o.out)⟩)
       |exact⟨h.l9,l,_,_,_,rfl,by rw[HLA.out,HWA.out];simp,hyl2,yc rfl P.out K.out hXP G.out j.out HR.out⟩
 clear P K G g2;obtain⟨L,ms,n1,p1,d1,rfl,hT,hml1,I,hp1,hp2,hP⟩:=hcut;rename World=>w7;have P:=bA hP;have HPP:=bA (Ee hp1 hp2);rw[hT]at HV;obtain⟨m0,m1,m2,m3⟩:=I.c4;obtain⟨x0,x1,x2,x3,x4,x5,y0,y1,-,-,-,-,hz⟩:=hP.cells;clear hp1 hp2 I hT hP;go_wp2_with fail;refine(H.out.wi _ L ms h.s9 p1 q2 d1 e2 P.out.B HPP.out.1 HPP.out.2 ⟨by show ms.length<=_;omega,H.out.fit.2⟩).mono ?_;rintro e w8 ⟨ra,rc,rfl,ho8,hb8⟩;clear m0 m1 m2 m3 x0 x1 x2 x3 x4 x5 y0 y1 HPP;generalize sC c.w g (qA (·.name) ⟨h.name,L,ms,h.s9⟩ S)=T at *;obtain⟨x0,x1,x2,x3,x4,x5,y0,y1,z0,z1,g0,g1,hz8⟩:=(P.out.later hb8).cells;have P8:=bA ((P.out.later hb8).later (cA w8 (.cells #[.int .i64 g,.slice ra T.length rc] 35)));have HO8:=bA (ho8.later (cA w8 (.cells #[.int .i64 g,.slice ra T.length rc] 35)));obtain⟨a0,a1⟩:=(lA.new w8 #[.int .i64 g,.slice ra T.length rc] 35).c2;clear ho8 hb8 x0 x1 x2 x3 x4 x5 y0 y1 z0 z1 g0 g1;by_cases hgt:10000<T.length
 ·have E:Hid (V=(g,S,false)):=by show _=_;rw[HV.out,Ga hgt]
  have hgi:(10000:Int)<T.length:=by omega
  go_upto_region 24 with fail;generalize w8.alloc (.cells #[.int .i64 g,.slice ra T.length rc] 35)=wA at *;obtain⟨x0,x1,x2,x3,x4,x5,y0,y1,-,-,-,-,-⟩:=P8.out.cells;go_wp2_with(go_at_call 53;refine(H.out.sm _ P8.out.B).mono ?_;rintro e w9 ⟨ra9,rc9,rfl,ho,hb⟩;have P9:=bA (P8.out.later hb);have HO9:=bA ho;clear ho hb x0 x1 x2 x3 x4 x5 y0 y1;obtain⟨-,-,-,-,-,-,-,-,z0,z1,g0,g1,hz9⟩:=P9.out.cells);refine bodyPost_ret (v:=?_) (by simp[results,results56,go_sem,z0,z1];rfl) rfl ?_;rw[E.out];first
   |exact⟨ra9,⟨rc9,rfl⟩,P9.out.done HO9.out P8.out.lt⟩
   |exact⟨ra9,rc9,rfl,P9.out.done HO9.out P8.out.lt⟩
 ·have E:Hid (V=(g,T,true)):=by show _=_;rw[HV.out,Ca hgt]
  have hgi:¬((10000:Int)<T.length):=by omega
  go_upto_region 25 with fail;generalize w8.alloc (.cells #[.int .i64 g,.slice ra T.length rc] 35)=wA at *;obtain⟨-,-,-,-,-,-,-,-,z0,z1,g0,g1,hz9⟩:=P8.out.cells;go_wp2;refine bodyPost_ret (v:=?_) (by simp[results,results56,go_sem,z0,z1];rfl) rfl ?_;rw[E.out];first
   |exact⟨ra,⟨rc,rfl⟩,P8.out.done HO8.out hz⟩
   |exact⟨ra,rc,rfl,P8.out.done HO8.out hz⟩
theorem JB (c:nB) (g:Int) (a:Option Addr) (j:Nat) (h:List eA) (d b:ByteArray) (f:Int) (w:World) (n:eC w a h) (k:h.length+nA h<=1100000) (p:d.size<=1100000) (o:b.size<=1100000) (l:iB c g h=true):
 Calls prog 56 #[tE c,.agg #[.int .i64 g,.slice a h.length j],.string d,.string b,.int .i64 f] w fun e q=>CC (uY c g h d b f) w e q:=by
 by_cases m:(kC d&&(b.toList.isEmpty||lE b) &&uA f (-1) 1000000)=false
 ·rw[show uY c g h d b f=(g,h,false) by unfold uY;rw[Ca (by rw[l];simp),Ga m]];exact MF c g a j h d b f w n k p o l m
 ·have i:(kC d=true/\(b.toList.isEmpty=true\/lE b=true))/\uA f (-1) 1000000=true:=by simpa only[Bool.not_eq_false,Na,Bd]using m
  refine ME (aNh n k p l i.1.1) o ?_ i.2 (by show _=_;unfold uY;rw[Ca (by rw[l];simp),Ca m]);cases he:b.toList.isEmpty
  ·exact Ea ⟨rfl,i.1.2.resolve_left (by rw[he];simp)⟩
  ·exact Ba rfl
theorem dj {y:Array Oper} {b:List Oper} {o:Oper} {a:Act} {Q:Exit->Act->World->Prop} {w:World} (l:o.guard=none) (s x:Operand) (E:o.op=.call { callee:=.builtin .append,args:=#[s,x],argTypes:=#[105,105] }) {B k n j:Nat} {u:List Value} (G:a.eval s=.slice (some ⟨k,0,none⟩) n j) (F:w.ownsRow B 113 2 (.slice (some ⟨k,0,none⟩) n j) n u)
 {i:Option Addr} {m v:Nat} (f:List fA) (H:a.eval x=.slice i m v) (D:f.length=m) (d:dW w i m (flatK f)) (J:n+m<=4000000) (C:B<=w.heap.size)
 (h:∀g cap e,Hid (e.ownsRow B 113 2 (.slice (some ⟨g,0,none⟩) (n+m) cap) (n+m) (u++flatK f))->Hid (Below B w e)->wpList prog y Q b (a.put o.dst (.slice (some ⟨g,0,none⟩) (n+m) cap)) e):wpList prog y Q (o::b) a w:=by
 obtain⟨I,p,q,r,t⟩:=info_parts wT;exact BV _ l s x _ E B 113 I _ 2 24 underlying105 p q r t rfl (by omega) k n j u G F i m v (flatK f) H (by rw[CS,D]) d (OU _) (by simp[maxLen];omega) (by omega) C fun g cap e z A _ _ _ _=>h g cap e z A
theorem aJj {l:Array Oper} {b:List Oper} {o:Oper} {a:Act} {Q:Exit->Act->World->Prop} {w:World} (i:o.guard=none) (s x:Operand) (t:o.op=.call { callee:=.builtin .append,args:=#[s,x],argTypes:=#[105,105] }) (u:a.eval s=.slice (some ⟨w.heap.size,0,none⟩) 0 0) {j:Option Addr} {m p:Nat} (f:List fA) (v:a.eval x=.slice j m p) (r:f.length=m) (d:dW (w.alloc (.cells #[] 113)) j m (flatK f)) (y:m<=4000000)
 (h:∀g cap e,Hid (e.ownsRow w.heap.size 113 2 (.slice (some ⟨g,0,none⟩) m cap) m (flatK f))->Hid (Below w.heap.size w e)->wpList prog l Q b (a.put o.dst (.slice (some ⟨g,0,none⟩) m cap)) e):wpList prog l Q (o::b) a (w.alloc (.cells #[] 113)):=by
 refine dj i s x t (B:=w.heap.size) u (World.ownsRow_made w #[] 0 (Da _) (by simp[maxLen]) (by simp)) f v r d (by omega) (cA _ _).size fun g cap e k q=>?_;rw[Oa]at k |-
 exact h g cap e k ((cA _ _).trans q.out)
structure AB (wv W:World) (X M:Nat) (q1:Option Addr) (e1:Nat) (q2:Option Addr) (e2:Nat) (tn:eA):Prop where
 X:lA W X #[.string tn.name,.int .i64 tn.l9,.slice q1 tn.m9.length e1,.slice q2 tn.s9.length e2] 107
 P:aD W wv.heap.size q1 tn.m9
 R:W.ownsRow M 113 2 (.slice q2 tn.s9.length e2) tn.s9.length (flatK tn.s9)
section
variable {w wv W W':World} {X M e1 e2 n cap:Nat} {q1 q2 a:Option Addr} {tn:eA} {c:nB} {now:Int} {key:ByteArray}
theorem AB.later (h:AB wv W X M q1 e1 q2 e2 tn) (b:Below W.heap.size W W'):AB wv W' X M q1 e1 q2 e2 tn:=⟨h.X.later b,h.P.later b,cB h.R b⟩
theorem aJs {g k:Nat} (A:AB wv W X M q1 e1 (some ⟨g,0,none⟩) e2 tn) (P:wY w W c now a n cap) (v:∀g o,q1=some ⟨g,o,none⟩->g<M) (u:g≠X) (y:w.heap.size+1+1<M) (b:k<tn.s9.length) (d:tn.s9[k].s=key) (i:vB (·.s) tn.s9):
 lA (W.setCell ⟨g,k*2+1,none⟩ (.int .i64 now)) X #[.string tn.name,.int .i64 tn.l9,.slice q1 tn.m9.length e1,.slice (some ⟨g,0,none⟩) tn.s9.length e2] 107/\vA (W.setCell ⟨g,k*2+1,none⟩ (.int .i64 now)) q1 tn.m9/\vA (W.setCell ⟨g,k*2+1,none⟩ (.int .i64 now)) (some ⟨g,0,none⟩) (qA (·.s) ⟨key,now⟩ tn.s9)/\wY w (W.setCell ⟨g,k*2+1,none⟩ (.int .i64 now)) c now a n cap/\(qA (·.s) (⟨key,now⟩:fA) tn.s9).length=tn.s9.length/\W.frozen? ⟨g,k*2+1,none⟩=false:=by
 have t:=(A.R.lt g rfl).1;have m:qA (·.s) ⟨key,now⟩ tn.s9=tn.s9.set k ⟨tn.s9[k].s,now⟩:=by rw[aFp i b d,d]
 have p:(qA (·.s) (⟨key,now⟩:fA) tn.s9).length=tn.s9.length:=by rw[m,Xc]
 have f:gA (·=g) W (W.setCell ⟨g,k*2+1,none⟩ (.int .i64 now)):=(gA.refl (·=g) W).setCell (Ba rfl) _ _;refine⟨f.blk A.X u.symm,lv A.P f (fun l o e _ x=>by have:=v l o e;omega),?_,P.turn f (by omega),p,?_⟩
 ·have h:(W.setCell ⟨g,k*2+1,none⟩ (.int .i64 now)).ownsRow M 113 2 (.slice (some ⟨g,0,none⟩) tn.s9.length e2) tn.s9.length (flatK (qA (·.s) ⟨key,now⟩ tn.s9)):=by
   rw[m,aAl _ _ b];exact aIi A.R
  rw[<-p]at h;exact(pC h).pairs
 ·rcases A.R.2 with⟨e,_⟩|⟨l,j,r,e,_,q,_⟩
  ·cases e
  ·simp only[Value.slice.injEq,Ja,Addr.mk.injEq,Ub]at e;rw[<-e.1]at q;exact lA.free q _
theorem vr {d:World} {g m b:Nat} {l:List Value} {ss:List fA} (A:AB wv d X M q1 e1 q2 e2 tn) (P:wY w d c now a n cap) (j:∀g o,q1=some ⟨g,o,none⟩->tn.m9≠[]->g≠X) (s:w.heap.size+1+1<X) (h:Below d.heap.size d W) (k:W.ownsRow d.heap.size 113 2 (.slice (some ⟨g,0,none⟩) m b) m l) (v:flatK ss=l) (t:ss.length=m):
 lA (W.setCell ⟨X,3,none⟩ (.slice (some ⟨g,0,none⟩) m b)) X #[.string tn.name,.int .i64 tn.l9,.slice q1 tn.m9.length e1,.slice (some ⟨g,0,none⟩) m b] 107/\vA (W.setCell ⟨X,3,none⟩ (.slice (some ⟨g,0,none⟩) m b)) q1 tn.m9/\vA (W.setCell ⟨X,3,none⟩ (.slice (some ⟨g,0,none⟩) m b)) (some ⟨g,0,none⟩) ss/\wY w (W.setCell ⟨X,3,none⟩ (.slice (some ⟨g,0,none⟩) m b)) c now a n cap:=by
 subst v t;have f:gA (·=X) W (W.setCell ⟨X,3,none⟩ (.slice (some ⟨g,0,none⟩) ss.length b)):=(gA.refl (·=X) W).setCell (Ba rfl) 3 _;have x:=aA A.X;exact⟨by have:=(A.X.later h).set 3 (.slice (some ⟨g,0,none⟩) ss.length b);simpa using this,lv (A.P.later h) f (fun r o e i p=>j r o e i p),(pC (f.row k (fun q u e=>by have:=(k.lt q u).1;omega))).pairs,(P.later h).turn f s⟩
end
theorem TI (c:nB) (now:Int) (a:Option Addr) (cap:Nat) (f:List eA) (b key:ByteArray) (w:World) (s:eC w a f) (g:f.length+nA f<=1100000) (Y:b.size<=1100000) (V:key.size<=1100000) (p:iB c now f=true) (d:(kC b&&aJ key)=false):
 Calls prog 54 #[tE c,.agg #[.int .i64 now,.slice a f.length cap],.string b,.string key] w fun e J=>dv (now,f,5) w e J:=by
 obtain⟨K,E,L,N⟩:=AL g;have m:=bA (fun W (q:Below w.heap.size w W)=>vI c now a cap f W (s.later q) E (by omega));have k:=bA (fun W=>eK b W (by unfold maxLen;omega));have h:=bA (fun W=>IG key W (by omega));have j:=bA (fun W (q:Below w.heap.size w W)=>cR c now a cap f W (s.later q) p g);rw[p]at m;have r:kC b=false\/kC b=true/\aJ key=false:=by revert d;cases kC b<;>simp
 have P:=bA (wY.new (w:=w) (c:=c) (now:=now) (a:=a) (n:=f.length) (cap:=cap));clear s g K E L N p d;unfold dv;unfold tE at *;rcases r with G|⟨G,Q⟩
 all_goals
  rw[G]at k;try rw[Q]at h
  go_enter func54,ntmps54;go_wp2_with(first
   |(go_at_call 47;refine(m.out _ P.out.B).mono ?_;rintro e wv ⟨rfl,d⟩;replace P:=bA (P.out.later d);clear d m;obtain⟨t,u,x,y,z,A,C,D,-,-,-,-,l⟩:=P.out.cells)
   |(go_at_call 81;refine(k.out _).mono ?_;rintro e J ⟨rfl,hw⟩;subst hw)
   |(go_at_call 84;refine(h.out _).mono ?_;rintro e Z ⟨rfl,d⟩;replace P:=bA (P.out.later d);clear d t u x y z A C D l;obtain⟨t,u,x,y,z,A,C,D,-,-,-,-,l⟩:=P.out.cells)
   |(go_at_call 53;refine(j.out _ P.out.B).mono ?_;rintro e w9 ⟨H,I,rfl,F,d⟩;have o:=bA (P.out.later d);have i:=bA F;clear F d t u x y z A C D j;obtain⟨-,-,-,-,-,-,-,-,R,S,T,U,O⟩:=o.out.cells))
  refine bodyPost_ret (v:=?_) (by simp[results,results54,go_sem,R,S];rfl) rfl ?_;first
   |exact⟨H,⟨I,rfl⟩,o.out.done i.out l⟩
   |exact⟨H,I,rfl,o.out.done i.out l⟩
theorem bh {c:nB} {now:Int} {a:Option Addr} {cap:Nat} {b:List eA} {J key:ByteArray} {w:World} {tn:eA} {V:Int×List eA×Nat} (H:Hid (SC w c now a cap b J tn)) (hk:key.size<=1100000) (hky:aJ key=true) (HFK:Hid (∀p∈tn.s9,p.s.size<=1100000)) (HKA:Hid (sC c.w now (qA (·.name) ⟨tn.name,tn.l9,tn.m9,qA (·.s) ⟨key,now⟩ tn.s9⟩ b)=qA (·.name) (kI tn key now) b))
 (HFI:Hid (XZ ⟨tn.name,tn.l9,tn.m9,qA (·.s) ⟨key,now⟩ tn.s9⟩))
 (HV:Hid (V=if (zB (·.s) key tn.s9).isSome=true then(now,qA (·.name) (kI tn key now) b,1) else if (lF c tn ⟨#[]⟩).2<=(lF c tn ⟨#[]⟩).1\/(bE tn=true/\b.length=10000) then(now,b,3) else if (lF c tn (tC key)).2<=(lF c tn (tC key)).1 then(now,b,4) else(now,qA (·.name) (kI tn key now) b,2))):
 Calls prog 54 #[tE c,.agg #[.int .i64 now,.slice a b.length cap],.string J,.string key] w fun e w'=>dv V w e w':=by
 obtain⟨hml,hsl⟩:=H.out.len;obtain⟨hn0,hn1⟩:=H.out.now0;have HKY:=bA (fun W=>IG key W (by omega));have HMT:Hid (∀W,Calls prog 95 #[.string key] W fun e w'=>e=.returned (.string (tC key))/\Below W.heap.size W w'):=fun W=>aY key W (by omega);have HCT:=bA (fun W m a1 a2 c1 c2 (p1:vA W a1 tn.m9) (p2:vA W a2 tn.s9)=>jw c tn a1 a2 c1 c2 m W p1 p2 (fun i h=>by have:=HFK.out _ (Db h);omega) (by omega) (by omega));have HID:=bA (fun W a1 a2 c1 c2=>AR tn a1 a2 c1 c2 W);have P:=bA (wY.new (w:=w) (c:=c) (now:=now) (a:=a) (n:=b.length) (cap:=cap));rw[hky]at HKY;unfold dv;unfold tE at *;go_enter func54,ntmps54;go_upto_region 5 with(first
  |(go_at_call 47;refine(H.out.ok _ P.out.B).mono ?_;rintro e wo ⟨rfl,f⟩;replace P:=bA (P.out.later f);clear f)
  |(go_at_call 81;refine(H.out.nm _).mono ?_;rintro e w' ⟨rfl,hw⟩;subst hw)
  |(go_at_call 84;refine(HKY.out _).mono ?_;rintro e wv ⟨rfl,f⟩;replace P:=bA (P.out.later f);clear f))
 have K:=bA P.out.kin;obtain⟨vy0,vy1,vx0⟩:=P.out.kin wv (Below.refl _ _);have hsv:=P.out.lt;clear HKY;go_cut [10] (fun p wx=>∃X,p=.pointer (some ⟨X,0,none⟩)/\KXR wv X tn wx)
 case first=>
  go_region_held3 (fun w'=>w'.cell? ⟨w.heap.size+1,0,none⟩=some (.int .i64 now)/\w'.cell? ⟨w.heap.size+1,1,none⟩=some (.slice a b.length cap)/\w'.cell? ⟨w.heap.size,0,none⟩=some (.int .i64 c.w))
   (first|go_keep|with_reducible exact K.out _ (bf k4 (Da _))|with_reducible exact K.out _ (bf k4 k3.size)|with_reducible exact K.out _ k4|with_reducible exact K.out _ k3|with_reducible exact K.out _ (pA k3 (cA _ _))|with_reducible exact K.out _ ((cA _ _).drew)|with_reducible exact K.out _ (pA k4 (cA _ _)))
   (first
    |(go_at_call 93;refine(H.out.te _ (by with_reducible exact P.out.B.drew)).mono ?_;rintro e w3 ⟨⟨a1,c1,a2,c2,rfl,p1,p2⟩,C⟩;have k3:Below wv.heap.size wv w3:=(by with_reducible exact pA (Below.refl _ _).drew C);have c3:=K.out _ k3)
    |(go_at_call 93;refine(H.out.te _ (by with_reducible exact(pA P.out.B (cA _ _)).drew)).mono ?_;rintro e w3 ⟨⟨a1,c1,a2,c2,rfl,p1,p2⟩,C⟩;have k3:Below wv.heap.size wv w3:=(by with_reducible exact pA ((cA _ _).drew) C);have c3:=K.out _ k3;have hX3:lA w3 wv.heap.size #[.string ⟨#[]⟩,.int .i64 0,.slice none 0 0,.slice none 0 0] 107:=UG C)
    |(have q:=hX3;clear q;go_at_call 92;refine(H.out.kp _ a1 a2 c1 c2 (by with_reducible exact p1) (by with_reducible exact p2)).mono ?_;rintro e w4 ⟨M,q1,e1,q2,e2,rfl,hM,r,h1M,N,hM4,D⟩;have k4:Below wv.heap.size wv w4:=(by with_reducible exact pA k3 D);have c4:=K.out _ k4;have u:=bA (hX3.later D);obtain⟨s0,s1,s2,s3⟩:=u.out.c4;have f0:=u.out.free)
    |((fail_if_success (have q:=hX3));go_at_call 92;refine(H.out.kp _ a1 a2 c1 c2 (by with_reducible exact p1) (by with_reducible exact p2)).mono ?_;rintro e w4 ⟨M,q1,e1,q2,e2,rfl,hM,r,h1M,N,hM4,D⟩;have k4:Below wv.heap.size wv w4:=(by with_reducible exact pA k3 D);have c4:=K.out _ k4)
    |(go_at_call 92;refine(H.out.kp _ a1 a2 c1 c2 (by with_reducible exact p1.later (cA _ _)) (by with_reducible exact p2.later (cA _ _))).mono ?_;rintro e w4 ⟨M,q1,e1,q2,e2,rfl,hM,r,h1M,N,hM4,D⟩;have k4:Below wv.heap.size wv w4:=(by with_reducible exact pA (pA k3 (cA _ _)) D);have c4:=K.out _ k4;have u:Hid (lA w4 w3.heap.size #[.string ⟨#[]⟩,.int .i64 0,.slice none 0 0,.slice none 0 0] 107):=bA ((lA.new w3 _ _).later D);obtain⟨s0,s1,s2,s3⟩:=u.out.c4;have f0:=u.out.free))
  all_goals(go_wp2_with fail;go_meet)
  all_goals first
   |with_reducible exact⟨_,rfl,aKu k3.size r h1M N hM k4⟩
   |exact⟨_,rfl,wm r h1M N (by have:=aA hX3;omega) hM (Da _) u.out k4⟩
   |exact⟨_,rfl,wm r h1M N (by simp) hM k3.size u.out k4⟩
 obtain⟨X,rfl,M,q1,e1,q2,e2,hXb,hP1,hq1M,hRow,hRX,hqX,hXw,hMw,C⟩:=hcut;rename World=>w3;replace P:=bA (P.out.later C);have A:Hid (AB wv w3 X M q1 e1 q2 e2 tn):=⟨hXb,hP1,hRow⟩
 have HQ:=bA (⟨hq1M,hRX,hqX⟩:_/\_/\_);have hX3:=aA hXb;have hXP:w.heap.size+1+1<X:=by omega
 clear K vy0 vy1 vx0 hXb hP1 hq1M hRow hRX hqX C;obtain⟨S,T,U,o⟩:=A.out.X.c4;go_wp2;go_loopw [11,44] (fun _ i wr=>∃k:Nat,k<=tn.s9.length/\i=.int .i64 k/\Hid (∀j (h:j<k) (h':j<tn.s9.length),tn.s9[j].s≠key)/\w3=wr) (fun _ i _=>tn.s9.length-(intOf i).toNat)
 case atStart=>exact⟨0,Ha _,rfl,(fun j h=>absurd h (by omega)),rfl⟩
 case round=>
  obtain⟨k,hkl,rfl,HN,hw⟩:=hrel;subst hw;by_cases hlt:k<tn.s9.length
  ·obtain⟨g,rfl⟩:=na A.out.R (by omega);obtain⟨pb,po,ep,hpl,v0,v1⟩:=((pC A.out.R).pairs).at hlt;simp only[Ja,Addr.mk.injEq,Ub]at ep;obtain⟨rfl,rfl⟩:=ep;rw[Oa]at v0 v1;cases hsm:(tn.s9[k].s.toList==key.toList) with
   |true=>
    have HS:=bA (aJs A.out P.out HQ.out.1 (HQ.out.2.1 g rfl) (by omega) hlt ((xC _ _).1 hsm) H.out.rs);have E:Hid (V=(now,qA (·.name) (kI tn key now) b,1)):=by
     show _=_;rw[HV.out,Ga];cases hgg:zB (·.s) key tn.s9 with
     |some _=>rfl
     |none=>exact absurd ((xC _ _).1 hsm) (jV hgg _ (Db hlt))
    have fz:=HS.out.2.2.2.2.2;obtain⟨-,-,-,-,-,-,t,I,-⟩:=P.out.cells;go_upto_region 11 with fail;clear v0 v1 fz S T U o t I;generalize w3.setCell ⟨g,k*2+1,none⟩ (.int .i64 now)=w7 at *;obtain⟨X7,p1,p2,P7,hL,-⟩:=HS.out;have HWF:=bA (H.out.wi w7 tn.l9 tn.m9 (qA (·.s) ⟨key,now⟩ tn.s9) q1 (some ⟨g,0,none⟩) e1 e2 P7.B p1 p2 HFI.out);rw[HKA.out,hL]at HWF;replace P:=bA P7;obtain⟨S,T,U,o⟩:=X7.c4;obtain⟨Y,Z,x2,x3,x4,x5,t,I,-,-,-,-,O⟩:=P7.cells;clear X7 p1 p2 P7 HS;generalize qA (·.name) (kI tn key now) b=RL at *;go_wp2_with fail;refine HWF.out.mono ?_;rintro e w9 ⟨ra,rc,rfl,ho,f⟩;have z:=bA (P.out.later f);have l:=bA ho;clear ho f Y Z x2 x3 x4 x5 t I S T U o;obtain⟨-,-,-,-,-,-,-,-,z0,z1,g0,g1,hz9⟩:=z.out.cells;go_wp2;refine bodyPost_ret (v:=?_) (by simp[results,results54,go_sem,z0,z1];rfl) rfl ?_;rw[E.out];first
     |exact⟨ra,⟨rc,rfl⟩,z.out.done l.out O⟩
     |exact⟨ra,rc,rfl,z.out.done l.out O⟩
   |false=>
    have HN2:Hid (∀j (h:j<k+1) (h':j<tn.s9.length),tn.s9[j].s≠key):=fun j hj hj'=>by
     by_cases e:j=k
     ·subst e;exact fun e'=>absurd ((xC _ _).2 e') (by rw[hsm];simp)
     ·exact HN.out j (by omega) hj'
    generalize tn.s9[k].s=kk at *;go_wp2;exact⟨⟨k+1,by omega,by go_num,HN2.out,by first|rfl|trivial⟩,by simp[intOf];omega⟩
  ·have HNO:Hid (zB (·.s) key tn.s9=none):=vK fun p hp=>by
    obtain⟨j,hj,rfl⟩:=Gb hp;exact HN.out j (by omega) hj
   have HC1:=bA (HCT.out w3 ⟨#[]⟩ q1 q2 e1 e2 A.out.P.pairs (pC A.out.R).pairs);have HV2:Hid (V=if (lF c tn ⟨#[]⟩).2<=(lF c tn ⟨#[]⟩).1\/(bE tn=true/\b.length=10000) then(now,b,3) else if (lF c tn (tC key)).2<=(lF c tn (tC key)).1 then(now,b,4) else(now,qA (·.name) (kI tn key now) b,2)):=by show _=_;rw[HV.out,Ca (by rw[HNO.out];simp)]
   have hkn:¬((k:Int)<tn.s9.length):=by omega
   clear HV HN hlt hkl;obtain⟨Y,Z,x2,x3,x4,x5,t,I,-,-,-,-,O⟩:=P.out.cells;generalize lF c tn ⟨#[]⟩=CV at *;obtain⟨n1,l1⟩:=CV;go_upto_region 15 with(first
    |(go_at_call 94;refine HC1.out.mono ?_;rintro e w4 ⟨rfl,f⟩;replace A:=bA (A.out.later f);replace P:=bA (P.out.later f);clear f Y Z x2 x3 x4 x5 t I S T U o O;obtain⟨S,T,U,o⟩:=A.out.X.c4;obtain⟨Y,Z,x2,x3,x4,x5,t,I,-,-,-,-,O⟩:=P.out.cells)
    |(go_at_call 82;refine(HID.out _ q1 q2 e1 e2).mono ?_;rintro e w5 ⟨rfl,f⟩;replace A:=bA (A.out.later f);replace P:=bA (P.out.later f);clear f Y Z x2 x3 x4 x5 t I S T U o O;obtain⟨S,T,U,o⟩:=A.out.X.c4;obtain⟨Y,Z,x2,x3,x4,x5,t,I,-,-,-,-,O⟩:=P.out.cells))
   generalize bE tn=IB at *;go_cut [88] (fun s wx=>s=.bool (decide (l1<=n1) ||(IB&&decide (b.length=10000)))/\w5=wx)
   case first=>
    have h3:l1<=n1/\(decide (l1<=n1) ||(IB&&decide (b.length=10000)))=true\/¬l1<=n1/\(IB=false/\(decide (l1<=n1) ||(IB&&decide (b.length=10000)))=false\/IB=true/\(((b.length:Int)==10000)=true/\(decide (l1<=n1) ||(IB&&decide (b.length=10000)))=true\/((b.length:Int)==10000)=false/\(decide (l1<=n1) ||(IB&&decide (b.length=10000)))=false)):=by
     by_cases r:l1<=n1
     ·exact Ba ⟨r,by simp[r]⟩
     ·refine Ea ⟨r,?_⟩;cases IB
      ·exact Ba ⟨rfl,by simp[r]⟩
      ·refine Ea ⟨rfl,?_⟩;by_cases N:b.length=10000
       ·exact Ba ⟨by simp[N],by simp[N]⟩
       ·exact Ea ⟨by simp;omega,by simp[r,N]⟩
    rcases h3 with⟨r,HD⟩|⟨r,⟨rfl,HD⟩|⟨rfl,⟨N,HD⟩|⟨N,HD⟩⟩⟩
    all_goals
     have HD:=bA HD;go_wp2_with fail;go_meet;exact⟨by rw[HD.out],rfl⟩
   obtain⟨rfl,hw⟩:=hcut;subst hw;have L:Hid (V=if (decide (l1<=n1) ||(IB&&decide (b.length=10000)))=true then(now,b,3) else if (lF c tn (tC key)).2<=(lF c tn (tC key)).1 then(now,b,4) else(now,qA (·.name) (kI tn key now) b,2)):=by
    refine bA ?_;rw[HV2.out];simp only[Bd,Na,Ya]
   clear HV2 HC1;cases hcb:(decide (l1<=n1) ||(IB&&decide (b.length=10000))) with
   |true=>
    rw[hcb,Ga rfl]at L;clear hcb;go_wp2_with(go_at_call 53;refine(H.out.sm _ P.out.B).mono ?_;rintro e w9 ⟨ra,rc,rfl,ho,f⟩;have z:=bA (P.out.later f);have l:=bA ho;clear ho f Y Z x2 x3 x4 x5 t I;obtain⟨-,-,-,-,-,-,-,-,z0,z1,g0,g1,hz9⟩:=z.out.cells);refine bodyPost_ret (v:=?_) (by simp[results,results54,go_sem,z0,z1];rfl) rfl ?_;rw[L.out];first
     |exact⟨ra,⟨rc,rfl⟩,z.out.done l.out O⟩
     |exact⟨ra,rc,rfl,z.out.done l.out O⟩
   |false=>
    rw[hcb,Ca (by simp)]at L;clear hcb Y Z x2 x3 x4 x5 t I S T U o O;have dx:=fun x:oA w5=>(P.out.later x.h).cells;have dm:=fun x:oA w5=>(A.out.later x.h).X.c4;simp only[forall_and]at dx dm;obtain⟨dx0,dx1,dx2,dx3,dx4,dx5,-⟩:=dx;obtain⟨dm0,dm1,dm2,dm3⟩:=dm;have HC2:=bA (fun y:oA w5=>HCT.out y.w' (tC key) q1 q2 e1 e2 (A.out.P.pairs.later y.h) ((pC A.out.R).pairs.later y.h));have hnel:=oA.there w5;generalize lF c tn (tC key)=CV at *;obtain⟨n2,l2⟩:=CV;generalize hmk:tC key=mk at *;clear hmk HCT;go_wp2_with fail;refine jA (by kernel_rfl) (by kernel_rfl) ?_;repeat (go_big_quiet_step (first|(go_at_call 95;exact tA (HMT.out _))|(go_at_call 94;exact tA (HC2.out _))|fail))
    refine wpQuiet_nil ?_;rintro _ ⟨y,rfl⟩;replace P:=bA (P.out.later y.h);replace A:=bA (A.out.later y.h);clear dx0 dx1 dx2 dx3 dx4 dx5 dm0 dm1 dm2 dm3 hnel HC2 HMT;generalize y.w'=w6 at *;clear y;obtain⟨S,T,U,o⟩:=A.out.X.c4;obtain⟨Y,Z,x2,x3,x4,x5,t,I,-,-,-,-,O⟩:=P.out.cells;by_cases hme:l2<=n2
    ·have E:Hid (V=(now,b,4)):=by show _=_;rw[L.out,Ga hme]
     go_wp2_with(go_at_call 53;refine(H.out.sm _ P.out.B).mono ?_;rintro e w9 ⟨ra,rc,rfl,ho,f⟩;have z:=bA (P.out.later f);have l:=bA ho;clear ho f Y Z x2 x3 x4 x5 t I;obtain⟨-,-,-,-,-,-,-,-,z0,z1,g0,g1,hz9⟩:=z.out.cells);refine bodyPost_ret (v:=?_) (by simp[results,results54,go_sem,z0,z1];rfl) rfl ?_;rw[E.out];first
      |exact⟨ra,⟨rc,rfl⟩,z.out.done l.out O⟩
      |exact⟨ra,rc,rfl,z.out.done l.out O⟩
    have E:Hid (V=(now,qA (·.name) (kI tn key now) b,2)):=by show _=_;rw[L.out,Ca hme]
    clear L Y Z x2 x3 x4 x5 I S T U HID;go_wp2;go_loopw [15] (fun i wr=>∃j:Nat,j<=tn.s9.length/\i=.int .i64 j/\Hid (∀i (h:i<tn.s9.length),i<j->uH tn.s9[i].s key=true)/\w6=wr) (fun i _=>tn.s9.length-(intOf i).toNat)
    case atStart=>exact⟨0,Ha _,rfl,(fun i _ hi=>absurd hi (by omega)),rfl⟩
    case round=>
     obtain⟨j,hj,rfl,HJ,hw⟩:=hrel;subst hw;have hcs:(∃h:j<tn.s9.length,uH tn.s9[j].s key=true)\/((¬(j:Int)<tn.s9.length/\j=tn.s9.length)\/∃h:j<tn.s9.length,Op.bytesLess tn.s9[j].s.toList key.toList=false)/\qA (·.s) ⟨key,now⟩ tn.s9=tn.s9.take j++⟨key,now⟩:: tn.s9.drop j:=by
      by_cases G:j<tn.s9.length
      ·cases F:uH tn.s9[j].s key
       ·exact Ea ⟨Ea ⟨G,F⟩,VK hj (fun i h hi=>HJ.out i h hi) (fun _=>F) HNO.out⟩
       ·exact Ba ⟨G,F⟩
      ·exact Ea ⟨Ba ⟨by omega,by omega⟩,VK hj (fun i h hi=>HJ.out i h hi) (fun h=>absurd h G) HNO.out⟩
     rcases hcs with⟨G,F⟩|⟨hx,hcut⟩
     ·obtain⟨g,rfl⟩:=na A.out.R (by omega);obtain⟨pb,po,ep,hpl,v0,-⟩:=((pC A.out.R).pairs).at G;simp only[Ja,Addr.mk.injEq,Ub]at ep;obtain⟨rfl,rfl⟩:=ep;rw[Oa]at v0;have hq2:Op.bytesLess tn.s9[j].s.toList key.toList=true:=F;have HJ2:Hid (∀i (h:i<tn.s9.length),i<j+1->uH tn.s9[i].s key=true):=fun i h hi=>by
       by_cases e:i=j
       ·subst e;exact F
       ·exact HJ.out i h (by omega)
      clear F;generalize tn.s9[j].s=kk at *;go_wp2;exact⟨⟨j+1,by omega,by go_num,HJ2.out,by first|rfl|trivial⟩,by simp[intOf];omega⟩
     have HQ2:Hid (flatK (qA (·.s) ⟨key,now⟩ tn.s9)=flatK (tn.s9.take j)++[.string key,.int .i64 now]++flatK (tn.s9.drop j)/\(qA (·.s) (⟨key,now⟩:fA) tn.s9).length=j+1+(tn.s9.length-j)):=by
      refine bA ?_;rw[hcut];refine⟨?_,by simp;omega⟩;rw[show tn.s9.take j++(⟨key,now⟩:fA):: tn.s9.drop j=(tn.s9.take j++[(⟨key,now⟩:fA)])++tn.s9.drop j by simp,fV,fV];rfl
     have hl1:(tn.s9.take j).length=j:=by simp;omega
     have hl2:(tn.s9.drop j).length=tn.s9.length-j:=by simp
     clear hcut;have hc3:(q2=none/\e2=0/\tn.s9.length=0/\j=0)\/∃g,q2=some ⟨g,0,none⟩/\((¬(j:Int)<tn.s9.length/\j=tn.s9.length)\/∃h:j<tn.s9.length,Op.bytesLess tn.s9[j].s.toList key.toList=false):=by
      rcases aOv A.out.R with⟨r,N,h3⟩|⟨g,r⟩
      ·exact Ba ⟨r,N,h3,by omega⟩
      ·exact Ea ⟨g,r,hx⟩
     clear hx;rcases hc3 with⟨rfl,rfl,Q,rfl⟩|⟨g,rfl,hx⟩
     rotate_left;have HSH:=bA (fun W (hW:Below w6.heap.size w6 W)=>aMk (cB A.out.R hW) hj);have hce:=aMc A.out.R;have hje:j<=e2:=by omega
     rcases hx with⟨hjn,-⟩|⟨G,hq2⟩
     rcases Decidable.em (e2=j) with he|he
     all_goals first
      |(have q:=Q;rw[Q]at o;go_upto_region 23 with fail;obtain⟨-,-,-,xa3⟩:=(A.out.X.alloc (.cells #[] 113)).c4;rw[Q]at xa3)
      |(have q:=hjn;go_upto_region 23 with fail;obtain⟨-,-,-,xa3⟩:=(A.out.X.alloc (.cells #[] 113)).c4)
      |(obtain⟨pb,po,ep,hpl,v0,-⟩:=((pC A.out.R).pairs).at G;simp only[Ja,Addr.mk.injEq,Ub]at ep;obtain⟨rfl,rfl⟩:=ep;rw[Oa]at v0;generalize tn.s9[j].s=kk at *;go_upto_region 23 with fail;clear v0 hq2 hpl;obtain⟨-,-,-,xa3⟩:=(A.out.X.alloc (.cells #[] 113)).c4)
     all_goals
      clear o;go_upto_region 24 with(at_builtin;refine aJj rfl _ _ rfl rfl _ rfl hl1 (by first|exact(HSH.out _ (cA _ _)).1|exact Ba rfl) (by omega) ?_;intro g8 cap8 w8 O8 B8;clear t xa3;obtain⟨-,-,-,-,-,-,t,-⟩:=(P.out.later B8.out).cells)
      have hs8:=B8.out.size;go_upto_region 25 with(at_builtin;refine bW rfl _ _ rfl underlying105 wT rfl (by omega) (by omega) rfl O8.out rfl rfl rfl (by simp[Value.oneCell']) (by omega) hs8 ?_;intro g10 cap10 w10 O10 T10;have B10:=bA (B8.out.trans (T10.out.below hs8 fun i hi e=>by omega));clear t;obtain⟨-,-,-,o⟩:=(A.out.X.later B10.out).c4;try rw[Q]at o)
      have hs10:=B10.out.size;go_upto_region 26 with(at_builtin;first
       |(refine dj rfl _ _ rfl rfl O10.out (tn.s9.drop j) rfl hl2 (by first|exact(HSH.out _ B10.out).2|exact Ba (by omega)) (by omega) hs10 ?_;intro g12 cap12 w12 O12 B12;have d:=bA (B10.out.trans B12.out);have HA:=bA (vr A.out P.out HQ.out.2.2 hXP d.out O12.out HQ2.out.1 (by have:=HQ2.out.2;omega));clear o;obtain⟨S,T,U,o⟩:=(A.out.X.later d.out).c4;(try rw[Q]at o);have f3:=(A.out.X.later d.out).free 3)
       |(refine dj rfl _ _ rfl rfl O10.out (tn.s9.drop 0) rfl (by rw[hl2];omega) (Ba rfl) (by omega) hs10 ?_;intro g12 cap12 w12 O12 B12;have d:=bA (B10.out.trans B12.out);have HA:=bA (vr A.out P.out HQ.out.2.2 hXP d.out O12.out HQ2.out.1 (by have:=HQ2.out.2;omega));clear o;obtain⟨S,T,U,o⟩:=(A.out.X.later d.out).c4;(try rw[Q]at o);have f3:=(A.out.X.later d.out).free 3))
      obtain⟨Y,Z,x2,x3,x4,x5,t,I,-,-,-,-,-⟩:=(P.out.later d.out).cells;go_wp2_with fail;refine(H.out.wn HKA.out rfl (by have:=HQ2.out.2;omega) HA.out.2.2.2.B HA.out.2.1 HA.out.2.2.1 HFI.out).mono ?_;rintro e w9 ⟨ra,rc,rfl,ho,f⟩;have z:=bA (HA.out.2.2.2.later f);have l:=bA ho;have HZ:=bA HA.out.2.2.2.lt;clear ho f Y Z x2 x3 x4 x5 t I S T U o f3 HA;obtain⟨-,-,-,-,-,-,-,-,z0,z1,g0,g1,hz9⟩:=z.out.cells;generalize qA (·.name) (kI tn key now) b=RL at *;go_wp2;refine bodyPost_ret (v:=?_) (by simp[results,results54,go_sem,z0,z1];rfl) rfl ?_;rw[E.out];first
       |exact⟨ra,⟨rc,rfl⟩,z.out.done l.out HZ.out⟩
       |exact⟨ra,rc,rfl,z.out.done l.out HZ.out⟩
theorem TH (c:nB) (now:Int) (a:Option Addr) (cap:Nat) (d:List eA) (b key:ByteArray) (w:World) (t:eC w a d) (k:d.length+nA d<=1100000) (q:b.size<=1100000) (u:key.size<=1100000) (l:iB c now d=true):
 Calls prog 54 #[tE c,.agg #[.int .i64 now,.slice a d.length cap],.string b,.string key] w fun e A=>dv (GN c now d b key) w e A:=by
 cases hb:(kC b&&aJ key) with
 |false=>
  rw[show GN c now d b key=(now,d,5) by unfold GN;rw[Ca (by rw[l];simp),Ga hb]];exact TI c now a cap d b key w t k q u l hb
 |true=>
  have g:=hb;rw[Na]at g;obtain⟨m,r,z,-,f⟩:=jI l;have o:1<=c.w:=by simp only[vF,Na]at m;exact(qK m.1.1.1.1.1).1
  have S:=aNh (cap:=cap) t k q l g.1;refine bh S u g.2 (XQ (YZ k) q).2.2.1 (ro f (rS f) o) ?_ (by show _=_;unfold GN;rw[Ca (by rw[l];simp),Ca (by rw[hb];simp)];rfl);have x:=DE (key:=fun p:fA=>p.s) (a:=⟨key,now⟩) (dB d b).s9;have B:=S.len;refine⟨S.fit.1,by show(qA (·.s) (⟨key,now⟩:fA) (dB d b).s9).length<=_;omega,fun i h=>?_⟩;rcases tI (Db h) with e|e
  ·show 0<=((qA (·.s) (⟨key,now⟩:fA) (dB d b).s9)[i]'h).n/\_;rw[e];exact⟨r,by show now<=_;omega⟩
  ·obtain⟨j,y,v⟩:=Gb e;have:=S.fit.2.2 j y;rw[v]at this;exact this
