import Derived.Test.YtbfnhppoecdnoaaGreatDoorJ17
set_option maxRecDepth 100000
set_option maxHeartbeats 4000000
set_option linter.defProp false
open Option renaming some->bA,none->aA
open ByteArray renaming empty->kA
open Bool renaming false->cA,true->dA
open List renaming length->vA
namespace Go.Proofs.YtbfnhppoecdnoaaGreatDoor
open Go renaming Value->iA,World->eA
open Value renaming string->nA,int->lA,slice->oA
open IntKind renaming i64->mA
open Ending renaming returned->sA
open Obj renaming cells->tA
open Go.RowKit Tryz
def sQ(t:aB):Nat:=2+2*vA t.M+2*vA t.Z
def dD:List aB->Nat
 |[]=>0
 |t::r=>sQ t+dD r
def BF(a b:List aB):dD (a++b)=dD a+dD b:=by induction a<;>grind [dD]
def JS(a:List aB)(j:Nat)(h:j<vA a):dD (a.take (j+1))=dD (a.take j)+sQ a[j]:=by
 rw[Pa h,BF];simp[dD]
def VN(a:List aB)(j:Nat):dD (a.take j)<=dD a:=by
 have:=BF (a.take j) (a.drop j);rw[Za]at this;omega
def yQ(k:Nat)(t:aB):aB:=⟨mt k,((k+1:Nat):Int),rH (k+2) (vA t.M),rH (k+2+2*vA t.M) (vA t.Z)⟩
def aKt(k:Nat)(a:List aB)(i:Nat)(t:aB):aB:=yQ (k+dD (a.take i)) t
def jH(k:Nat)(a:List aB):List aB:=a.mapIdx (aKt k a)
def yY(k:Nat)(a:List aB):vA (jH k a)=vA a:=by simp[jH]
def IW{k:Nat}{a:List aB}{i:Nat}(h:i<vA (jH k a))(b:i<vA a):(jH k a)[i]=yQ (k+dD (a.take i)) a[i]:=by simp[jH,aKt]
def DV(c:Array iA)(p:Nat)(t:aB)(a:iC)(d:Nat)(b:iC)(e:Nat):Prop:=
 c[p]?=bA (nA t.N)/\c[p+1]?=bA (lA mA t.L)/\c[p+2]?=bA (oA a (vA t.M) d)/\c[p+3]?=bA (oA b (vA t.Z) e)
def KG(w:eA)(B:Nat)(T:Nat->Nat)(c:Array iA)(o i:Nat)(t:aB):Prop:=
 ∃a d b e,DV c (o+i*4) t a d b e/\gD w B T (2*i+1) a t.M/\gD w B T (2*i+2) b t.Z
def eQ.row{w:eA}{B i g o:Nat}{T:Nat->Nat}{t:aB}{c:Array iA}{q:TypeId}(h:eQ w B T i g (o+i*4) t)(p:iB w g c q):KG w B T c o i t:=by
 obtain⟨f,k,j,l,a,b,d,e,m,n⟩:=h;rw[p.cell]at a b d e;exact⟨f,k,j,l,⟨a,b,d,e⟩,m,n⟩
def KG.own{w:eA}{B i g o:Nat}{T:Nat->Nat}{t:aB}{c:Array iA}{q:TypeId}(h:KG w B T c o i t)(a:iB w g c q):eQ w B T i g (o+i*4) t:=by
 obtain⟨b,e,d,f,⟨j,k,l,m⟩,n,p⟩:=h;exact⟨b,e,d,f,(a.cell _).trans j,(a.cell _).trans k,(a.cell _).trans l,(a.cell _).trans m,n,p⟩
def DV.set{c:Array iA}{p:Nat}{t:aB}{a b:iC}{d e:Nat}(h:DV c p t a d b e){q:Nat}(f:q<p\/p+3<q)(v:iA):DV (c.setIfInBounds q v) p t a d b e:=by grind [DV]
def gD.turn{S:Nat->Prop}{w d:eA}{B n:Nat}{T:Nat->Nat}{a:iC}{c:List dB}(h:gD w B T n a c)(i:bB S w d)(e:∀g,T g=n->¬S g):gD d B T n a c:=
 h.keep fun g f _ b=>⟨i.block g f (e g b),b⟩
def aGc{w A s t:eA}{B o j K k:Nat}{T:Nat->Nat}{g:Nat}{c:Array iA}{a:List aB}{n p:iC}{u v:Nat}(H:T g=0)(Q:j<vA a)
(J:∀i(h:i<vA a),i≠j->KG w B T c o i (if i<j then yQ (k+dD (a.take i)) a[i] else a[i]))(l:DV c (o+j*4) a[j] n u p v)(G:K=k+dD (a.take j))
(x:tD g w A)(y:bB (fun g=>B<=g/\T g=2*j+1) A s)(q:bB (fun g=>B<=g/\T g=2*j+2) s t)(L:gD s B T (2*j+1) n (rH (K+2) (vA a[j].M)))(M:gD t B T (2*j+2) p (rH (K+2+2*vA a[j].M) (vA a[j].Z))):
 ∀i(h:i<vA a),KG t B T ((c.setIfInBounds (o+j*4) (nA (mt K))).setIfInBounds (o+j*4+1) (lA mA ((K+1:Nat):Int))) o i (if i<j+1 then yQ (k+dD (a.take i)) a[i] else a[i]):=by
 intro i I;by_cases e:i=j
 .subst e;rw[Ma (by omega),<-G];obtain⟨R,S,N,z⟩:=l;have U:=(Vb.1 z).1;refine⟨n,u,p,v,⟨?_,?_,?_,?_⟩,L.turn q fun f b m=>by omega,M⟩
  .rw[Ea (by omega),Ff (by omega)];rfl
  .rw[Ff (by simp;omega)];rfl
  .rw[Ea (by omega),Ea (by omega),N];simp[yQ,sJ]
  rw[Ea (by omega),Ea (by omega),z];simp[yQ,sJ]
 obtain ⟨C,E,D,F,d,O,P⟩:=J i I e;have r:(if i<j+1 then yQ (k+dD (a.take i)) a[i] else a[i])=(if i<j then yQ (k+dD (a.take i)) a[i] else a[i]):=by
  by_cases h:i<j
  .rw[Ma h,Ma (by omega)]
  rw[Ja h,Ja (by omega)]
 rw[r];refine⟨C,E,D,F,(d.set (by omega) _).set (by omega) _,?_,?_⟩
 .exact ((O.turn (bB.but x) fun f b e=>by subst e;omega).turn y fun f b m=>by omega).turn q fun f b m=>by omega
 exact ((P.turn (bB.but x) fun f b e=>by subst e;omega).turn y fun f b m=>by omega).turn q fun f b m=>by omega
def OO(g o Z:Nat)(d:List aB)(k B:Nat)(T:Nat->Nat)(A:Array iA)(v:TypeId)(w:eA)(hk:0<k)(N:k+dD d<=100000000)(hB:B<=g)(hg:iB w g A v)(hT:T g=0)(hf:∀i(h:i<vA d),eQ w B T i g (o+i*4) d[i]):
 Calls prog 94 #[oA (bA ⟨g,o,aA⟩) (vA d) Z,lA mA (k:Int)] w fun e w'=>e=sA (lA mA ((k+dD d:Nat):Int))/\bB (fun p=>B<=p/\T p<=2*vA d) w w'/\(∃c,iB w' g c v/\∀i(h:i<vA (jH k d)),eQ w' B T i g (o+i*4) (jH k d)[i]):=by
 have H0:xA _:=fun i h=>(hf i h).row hg;have HG:xA (iB w g A v):=hg;have y:xA (B<=g/\T g=0):=⟨hB,hT⟩
 have x:xA _:=N;clear hf hg hB hT N;have hlen:vA d<=100000000:=by
  have h1:vA d<=dD d:=by
   clear H0 x;induction d with
   |nil=>exact Oa _
   |cons t r ih=>simp only[Zb,dD,sQ];omega
  have:=x.o;omega
 go_enter func94,ntmps94;go_wp2;go_loopw [1,5] (fun l i wr=>∃(j K:Nat)(c:Array iA),j<=vA d/\i=lA mA j/\l=lA mA (K:Int)/\xA (K=k+dD (d.take j))/\xA (iB wr g c v)/\xA (∀i(h:i<vA d),KG wr B T c o i (if i<j then yQ (k+dD (d.take i)) d[i] else d[i]))/\xA (bB (fun p=>B<=p/\T p<=2*vA d) w wr)) (fun _ i _=>vA d-(intOf i).toNat)
 case atStart=>exact⟨0,k,A,Oa _,rfl,rfl,by show _=_;simp[dD],HG.o,fun i h=>by rw[Ja (by omega)];exact H0.o i h,bB.refl _ _⟩
 case round=>
  obtain⟨j,K,c,hj,rfl,rfl,O,n,V,I⟩:=hrel;by_cases D:j<vA d
  .obtain ⟨X,c1,P,Y,q,p1,p2⟩:=V.o j D;rw[Ja (Nat.lt_irrefl _)]at q p1 p2;have f:xA (DV c (o+j*4) d[j] X c1 P Y):=q;have P1:xA (gD wr B T (2*j+1) X d[j].M):=p1;have P2:xA (gD wr B T (2*j+2) P d[j].Z):=p2;have H:xA (K+sQ d[j]<=100000000/\k+dD (d.take (j+1))=K+sQ d[j]):=by
    have h1:=JS d j D;have h2:=VN d (j+1);have h3:=O.o;have h4:=x.o;exact⟨by omega,by omega⟩
   have hkb:K+2+2*vA d[j].M+2*vA d[j].Z<=100000000:=by have:=H.o.1;unfold sQ at this;omega
   have hKp:0<K:=by have:=O.o;omega
   clear q p1 p2;go_wp2_with fail;refine aC (bJ _ K (by omega) _ (by omega) (by omega)) ?_;intro Q C;have m:xA (iB Q g c v):=n.o.z C;have hcs:=(Vb.1 f.o.2.2.2).1;obtain⟨v0,d0⟩:=m.o.there (j:=o+j*4) (by omega);have a:=m.o.free (o+j*4);obtain⟨v1,d1⟩:=m.o.there (j:=o+j*4+1) (by omega);have b:=m.o.free (o+j*4+1);have d2:=(m.o.cell _).trans f.o.2.2.1;have R:xA (tD g wr Q):=tD.of C;clear C;go_wp2_with fail;have s:xA (tD g wr ((Q.setCell ⟨g,o+j*4,aA⟩ (nA (mt K))).setCell ⟨g,o+j*4+1,aA⟩ (lA mA ((K:Int)+1)))):=(R.o.setCell _ _).setCell _ _;have S:xA (iB ((Q.setCell ⟨g,o+j*4,aA⟩ (nA (mt K))).setCell ⟨g,o+j*4+1,aA⟩ (lA mA ((K:Int)+1))) g ((c.setIfInBounds (o+j*4) (nA (mt K))).setIfInBounds (o+j*4+1) (lA mA ((K+1:Nat):Int))) v):=yA (by have:=(m.o.set (o+j*4) (nA (mt K))).set (o+j*4+1) (lA mA ((K:Int)+1));simpa using this);refine aC (ZI (.inl rfl) _ X c1 d[j].M (K+2) B (2*j+1) T _ (by omega) (by omega) (by omega) (P1.o.turn (bB.but s.o) fun p L e=>by subst e;have:=y.o.2;omega)) ?_;rintro w3 ⟨E,q1⟩;have z:=yA E;have Q1:=yA q1;have F:xA (iB w3 g ((c.setIfInBounds (o+j*4) (nA (mt K))).setIfInBounds (o+j*4+1) (lA mA ((K+1:Nat):Int))) v):=E.blk S.o (fun h=>by have:=y.o.2;omega);have e3:w3.cell? ⟨g,o+j*4+3,aA⟩=bA (.slice P (vA d[j].Z) Y):=by
    rw[F.o.cell,Ea (by omega),Ea (by omega)];exact f.o.2.2.2
   clear E q1 d0 d1 d2 a b;go_wp2_with fail;refine aC (ZI (.inr rfl) _ P Y d[j].Z (K+2+2*vA d[j].M) B (2*j+2) T _ (by omega) (by omega) (by omega) ((P2.o.turn (bB.but s.o) fun p L e=>by subst e;have:=y.o.2;omega).turn z.o fun p L hs=>by omega)) ?_;rintro w4 ⟨u,q2⟩;have U:xA (iB w4 g ((c.setIfInBounds (o+j*4) (nA (mt K))).setIfInBounds (o+j*4+1) (lA mA ((K+1:Nat):Int))) v):=u.blk F.o (fun h=>by have:=y.o.2;omega);have W:xA _:=aGc y.o.2 D (fun i h _=>V.o i h) f.o O.o s.o z.o u Q1.o q2;have J:xA (bB (fun p=>B<=p/\T p<=2*vA d) w w4):=by
    refine((I.o.trans' ((bB.but s.o).mono fun i _ e=>?_)).trans' (z.o.mono fun i _ h=>?_)).trans' (u.mono fun i _ h=>?_);subst e;exact⟨y.o.1,by rw[y.o.2];omega⟩;exact ⟨h.1,by omega⟩;exact ⟨h.1,by omega⟩
   have G:xA (((K+2+2*vA d[j].M+2*vA d[j].Z:Nat):Int)=((k+dD (d.take (j+1)):Nat):Int)):=by
    show _=_;have:=H.o.2;unfold sQ at this;omega
   clear u q2 e3;go_wp2;exact⟨⟨j+1,k+dD (d.take (j+1)),_,by omega,by go_num,Kd (iA.int .i64) (by have:=G.o;omega),rfl,U.o,W.o,J.o⟩,by simp[intOf];omega⟩
  .have ej:j=vA d:=by omega
   have HE:xA (((K:Nat):Int)=((k+dD d:Nat):Int)):=by show _=_;rw[O.o,ej,Rb]
   go_wp2;go_ret;refine⟨fD HE.o,I.o,c,n.o,fun i hi=>?_⟩;have M:i<vA d:=by rw[yY]at hi;exact hi
   have:=V.o i M;rw[Ma (by omega)]at this;rw[IW hi M];exact this.own n.o
def OP(a:iC)(b:Nat)(k:Nat)(w:eA):
 dI 94 #[oA a 0 b,lA mA (k:Int)] w (lA mA (k:Int)):=by
 go_enter func94,ntmps94;go_wp2;go_loopw [1,5] (fun l i wr=>l=lA mA (k:Int)/\i=lA mA 0/\wr=w) (fun _ i _=>0)
 case atStart=>exact⟨rfl,rfl,rfl⟩
 case round=>
  obtain⟨rfl,rfl,rfl⟩:=hrel;go_wp2;go_ret;exact⟨rfl,rfl⟩
def ud(a:List aB):vA a<=dD a:=by induction a<;>grind [dD,sQ]
def OL(a:iC)(H:Nat)(c:List aB)(k:Nat)(w:eA)(hk:0<k)(r:k+dD c<=100000000)(S:nC w a (jH k c)):
 qD 96 #[oA a (vA c) H,lA mA (k:Int)] w (lA mA ((k+dD c:Nat):Int)):=by
 have V:xA (nC w a (jH k c)):=S;have C:xA _:=r;have T:vA c<=100000000:=by have:=ud c;omega
 clear S r;go_enter func96,ntmps96;go_wp2;go_loopw [1,5] (fun l i wr=>∃(j K:Nat),j<=vA c/\i=lA mA j/\l=lA mA (K:Int)/\xA (K=k+dD (c.take j))/\xA (kB w wr)) (fun _ i _=>vA c-(intOf i).toNat)
 case atStart=>exact⟨0,k,Oa _,rfl,rfl,by show _=_;simp[dD],eD⟩
 case round=>
  obtain⟨j,K,hj,rfl,rfl,s,B⟩:=hrel;by_cases g:j<vA c
  .have d:j<vA (jH k c):=by rw[yY];exact g
   obtain⟨b,o,F,Q,G,R,rfl,J,v,y,z,A,t,u⟩:=(V.o.z B.o).at d;rw[IW d g,<-s.o]at v y z A t u;simp only[yQ,sJ]at v y z A t u;have n:xA (K+sQ c[j]<=100000000/\k+dD (c.take (j+1))=K+sQ c[j]):=by
    have h1:=JS c j g;have h2:=VN c (j+1);have h3:=s.o;have h4:=C.o;exact⟨by omega,by omega⟩
   have hkb:K+2+2*vA c[j].M+2*vA c[j].Z<=100000000:=by have:=n.o.1;unfold sQ at this;omega
   have hKp:0<K:=by have:=s.o;omega
   have X:xA (yB wr F (rH (K+2) (vA c[j].M))):=t;have Y:xA (yB wr G (rH (K+2+2*vA c[j].M) (vA c[j].Z))):=u;have P:xA (∀W,kB wr W->W.cell? ⟨b,o+j*4+1,aA⟩=bA (lA mA ((K:Int)+1))/\W.cell? ⟨b,o+j*4+2,aA⟩=bA (.slice F (vA c[j].M) Q)/\W.cell? ⟨b,o+j*4+3,aA⟩=bA (.slice G (vA c[j].Z) R)):=fun W I=>⟨by rw[I.cell J,y];simp,(I.cell J).trans z,(I.cell J).trans A⟩
   have d0:=tB.cells v;have L:=tB.there wr;clear v y z A t u;go_wp2_with fail;refine jB (by kernel_rfl) (by kernel_rfl) ?_;repeat (go_big_quiet_step (first|(go_at_call 149;exact xB (bJ _ K (by omega) _ (by omega) (by omega)))))
   refine wpQuiet_nil ?_;rintro _ ⟨x,rfl⟩;have D:xA _:=x.h;clear d0 L;generalize x.w'=Z at *;clear x;obtain⟨M,N,O⟩:=P.o Z D.o;go_wp2_with fail;refine aC (YR (.inl rfl) _ F Q (K+2) (vA c[j].M) _ (by omega) (by omega) (by omega) (X.o.z D.o)) ?_;intro w3 p;have f:xA _:=oB D.o p;clear p M N O;obtain⟨M,N,O⟩:=P.o w3 f.o;go_wp2_with fail;refine aC (YR (.inr rfl) _ G R (K+2+2*vA c[j].M) (vA c[j].Z) _ (by omega) (by omega) (by omega) (Y.o.z f.o)) ?_;intro w4 q;have E:xA _:=oB B.o (oB f.o q);have m:xA (((K+2+2*vA c[j].M+2*vA c[j].Z:Nat):Int)=((k+dD (c.take (j+1)):Nat):Int)):=by
    show _=_;have:=n.o.2;unfold sQ at this;omega
   clear q M N O;go_wp2;exact⟨⟨j+1,k+dD (c.take (j+1)),by omega,by go_num,Kd (iA.int .i64) (by have:=m.o;omega),rfl,E.o⟩,by simp[intOf];omega⟩
  have ej:j=vA c:=by omega
  have U:xA (((K:Nat):Int)=((k+dD c:Nat):Int)):=by show _=_;rw[s.o,ej,Rb]
  go_wp2;go_ret;exact⟨fD U.o,B.o⟩
def WG(f:Int)(a:iC)(b:Nat)(c:List aB)(k:Nat)(w:eA)(m:0<k)(d:k+dD c<=100000000)(h:nC w a (jH k c)):
 qD 44 #[.agg #[lA mA f,oA a (vA c) b],lA mA (k:Int)] w (lA mA ((k+dD c:Nat):Int)):=by
 have j:xA _:=fun W l=>OL a b c k W m d (h.z l);clear h;go_enter func44,ntmps44;go_wp2_with fail;apply aC (j.o _ vB);intro o g;have i:xA _:=oB vB g;clear g;go_wp2;go_ret;exact⟨fD (by omega),i.o⟩
def aAo(b a:gB)(c:Int)(w:eA):
 qD 113 #[.agg #[nA b,nA a,lA mA c]] w (.agg #[nA b,nA a,lA mA c]):=by
 go_enter func113,ntmps113;go_wp2;exact bodyPost_ret (v:=.agg #[nA b,nA a,lA mA c]) (by simp[results,results113,go_sem]) rfl ⟨rfl,((eD.alloc (Ia _) _).alloc (by simp) _).alloc (by simp;omega) _⟩
def aFa:(prog.info? 149).map (fun i=>(i.zero,i.size,i.bytes))=bA (bA (.agg #[nA kA,nA kA,lA mA 0]),3,40):=by kernel_rfl
def yo(n:Nat)(g:n<=1048576)(w:eA):
 (Instr.makeSlice 35 (lA mA (n:Int)) (lA mA (n:Int))).run prog w=.ok (oA (bA ⟨w.1.size,0,aA⟩) n n) (w.alloc (tA (madeCells #[nA kA,nA kA,lA mA 0] (n*3)) 149)):=by
 obtain⟨i,d,a⟩:=Wb.1 aFa;simp only[Dc]at a;obtain⟨f,e,c⟩:=a;have b:=run_make (P:=prog) w 35 149 i _ underlying35 d f .i64 mA n n (by omega) (Xd _) (by rw[c];omega) (by omega);simp only[Hd,e]at b;exact b
def JY(w:eA)(g n:Nat)(b:List cB)(k:Nat):Prop:=∃a:Array iA,w.heap[g]?=bA (tA a 149 (0,0))/\a.size=n*3/\
 ∀i(h:i<vA b),i<k->a[i*3]?=bA (nA b[i].N)/\a[i*3+1]?=bA (nA b[i].data)/\a[i*3+2]?=bA (lA mA b[i].Y)
def JY.z{w c:eA}{g n k:Nat}{b:List cB}{B:Nat}(h:JY w g n b k)(f:Below B w c)(i:g<B):JY c g n b k:=by
 obtain⟨a,d,e⟩:=h;exact⟨a,by rw[f.block g i];exact d,e⟩
def JY.cells{w:eA}{g n k:Nat}{c:List cB}(h:JY w g n c k){j:Nat}(e:j<n*3):(∃v,w.cell? ⟨g,j,aA⟩=bA v)/\w.frozen? ⟨g,j,aA⟩=cA:=by
 obtain⟨a,b,d,_⟩:=h;refine⟨⟨a[j],?_⟩,frozen_of_row w g j a _ b⟩;rw[cell_of_row w g j a _ _ b];exact Qc (by omega)
def JY.step{w:eA}{g n k:Nat}{a:List cB}(h:JY w g n a k)(q:k<vA a)(r:vA a<=n):
 JY (((w.setCell ⟨g,k*3,aA⟩ (nA a[k].N)).setCell ⟨g,k*3+1,aA⟩ (nA a[k].data)).setCell ⟨g,k*3+2,aA⟩ (lA mA a[k].Y)) g n a (k+1):=by
 obtain⟨f,j,l,m⟩:=h;refine⟨_,heap_setCell_same _ _ _ _ _ _ (heap_setCell_same _ _ _ _ _ _ (heap_setCell_same _ _ _ _ _ _ j)),by simp[l],fun i o p=>?_⟩;by_cases e:i=k
 .subst e;refine⟨?_,?_,?_⟩<;>simp[Eb]<;>omega
 obtain ⟨b,c,d⟩:=m i o (by omega);refine⟨?_,?_,?_⟩;rw[Ea (by omega),Ea (by omega),Ea (by omega)];exact b;rw[Ea (by omega),Ea (by omega),Ea (by omega)];exact c;rw[Ea (by omega),Ea (by omega),Ea (by omega)];exact d
def JY.done{w:eA}{g:Nat}{a:List cB}(h:JY w g (vA a) a (vA a)):eB w (bA ⟨g,0,aA⟩) a:=by
 obtain⟨b,c,m,k⟩:=h;have l:g<w.1.size:=by
  rcases Gc g w.1.size with h|h;exact h;rw[Mc h]at c;exact absurd c (by simp)
 refine La ⟨g,0,rfl,l,fun i d=>?_⟩;obtain⟨e,f,j⟩:=k i d d;simp only[cell_of_row w g _ b _ _ c,Ya];exact⟨e,f,j⟩
def uh(a:iC)(y:Nat)(g:List cB)(w:eA)(B:eB w a g)(s:vA g<=1048576):
 Calls prog 72 #[oA a (vA g) y] w fun e v=>e=sA (oA (bA ⟨w.1.size,0,aA⟩) (vA g) (vA g))/\(∃q t,v.heap[w.1.size]?=bA (tA q t (0,0)))/\eB v (bA ⟨w.1.size,0,aA⟩) g/\kB w v:=by
 have C:xA (eB w a g):=B;clear B;have z:=yo (vA g) s;go_enter func72,ntmps72;go_wp2;go_loopw [4] (fun i wr=>∃k:Nat,k<=vA g/\i=lA mA k/\JY wr w.1.size (vA g) g k/\kB w wr/\w.1.size<wr.1.size) (fun i _=>vA g-(intOf i).toNat)
 case atStart=>exact⟨0,Oa _,rfl,⟨_,heap_alloc_new _ _,size_madeCells _ _,fun i _ h=>absurd h (by omega)⟩,eD.alloc (Ia _) _,by simp⟩
 case round=>
  obtain⟨k,K,rfl,p,m,A⟩:=hrel;have l:xA (JY wr w.1.size (vA g) g k):=p;clear p z;by_cases u:k<vA g
  .obtain ⟨b,o,rfl,J,D,E,F⟩:=(C.o.z m).at u;go_wp2_with fail;apply aC (aAo _ _ _ _);intro v r;have n:=l.o.z r A;obtain⟨⟨L,G⟩,c⟩:=n.cells (j:=k*3) (by omega);obtain⟨⟨M,H⟩,d⟩:=n.cells (j:=k*3+1) (by omega);obtain⟨⟨N,I⟩,f⟩:=n.cells (j:=k*3+2) (by omega);have x:xA (JY v w.1.size (vA g) g k):=n;clear n;go_wp2;exact⟨⟨k+1,by omega,by go_num,x.o.step u (Ia _),(((m.trans (r.mono m.size)).setCell (Ia _) _).setCell (Ia _) _).setCell (Ia _) _,by have:=r.size;simp;omega⟩,by simp[intOf];omega⟩
  go_wp2;go_ret;have e:k=vA g:=by omega
  exact⟨rfl,by obtain⟨q,h,_⟩:=l.o;exact⟨q,_,h⟩,by have:=l.o;rw[e]at this;exact this.done,m⟩
def aAn(a:iC)(j:Nat)(b:List cB)(c k s x:Int)(u:Bool)(w:eA)(y:eB w a b)(o:vA b<=1048576):
 Calls prog 30 #[.agg #[oA a (vA b) j,lA mA c,lA mA k,lA mA s,lA mA x,.bool u]] w fun e i=>
  ∃g,e=sA (.agg #[oA (bA ⟨g,0,aA⟩) (vA b) (vA b),lA mA c,lA mA k,lA mA s,lA mA x,.bool u])/\w.1.size<=g/\(∃d t,i.heap[g]?=bA (tA d t (0,0)))/\eB i (bA ⟨g,0,aA⟩) b/\kB w i:=by
 have A:xA (eB w a b):=y;clear y;go_enter func30,ntmps30;go_wp2_with fail;refine aC (uh a j b _ (A.o.z (((eD.alloc (Ia _) _).alloc (by simp) _).alloc (by simp;omega) _)) o) ?_;rintro i ⟨p,m,f⟩;have r:xA (∃d t,i.heap[w.1.size+1+1+1]?=bA (tA d t (0,0))):=by show ∃_,_;simpa using p
 clear p;obtain⟨C,F⟩:=aBe f;have n:eB i (bA ⟨w.1.size+1+1+1,0,aA⟩) b:=by simpa using m
 have q:xA (eB i (bA ⟨w.1.size+1+1+1,0,aA⟩) b):=n;clear n;clear m;have l:=(((eD.alloc (Ia _) _).alloc (by simp) _).alloc (by simp;omega) _).trans (f.mono (by simp;omega));have z:xA _:=l;clear l f;go_wp2;refine bodyPost_ret (v:=.agg #[oA (bA ⟨w.1.size+1+1+1,0,aA⟩) (vA b) (vA b),lA mA c,lA mA k,lA mA s,lA mA x,.bool u]) (by simp[results,results30,go_sem,C]) rfl ⟨w.1.size+1+1+1,rfl,by omega,?_,?_,?_⟩
 .obtain ⟨B,E,D⟩:=r.o;refine⟨B,E,?_⟩;iterate 12 (refine(Below.heap_setCell _ _ _ _ (by first|omega|(simp;done)|(simp;omega))).trans ?_)
  exact D
 .have h:=q.o;iterate 12 (refine eB.setCell ?_ (by simp) _)
  exact h
 have h:=z.o;iterate 12 (refine Below.setCell ?_ (by first|(simp;done)|(simp;omega)) _)
 exact h
def uR(r:Rd):eC×Rd:=(⟨(sC 1 r).1,(sC 2 (sC 1 r).2).1⟩,(sC 2 (sC 1 r).2).2)
def tM(r:Rd):Nat->List eC×Rd
 |0=>([],r)
 |k+1=>((tM r k).1++[(uR (tM r k).2).1],(uR (tM r k).2).2)
def QZ(key:gB):Nat:=(kD 1 ⟨key,cA⟩).1
def vG(key:gB):List eC×Rd:=tM (kD 1 ⟨key,cA⟩).2 (QZ key)
def aW(r:Rd):Bool:=!r.H&&(r.rest.toList==ByteArray.empty.toList)
def gG(key:gB):List eC×Bool:=if (aW (vG key).2&&vP (vG key).1)=dA then((vG key).1,dA) else([],cA)
theorem CA(r:Rd):uR r=(⟨(sC 1 r).1,(sC 2 (sC 1 r).2).1⟩,(sC 2 (sC 1 r).2).2):=by rw[uR]
theorem cU(r:Rd)(k:Nat):tM r (k+1)=((tM r k).1++[(uR (tM r k).2).1],(uR (tM r k).2).2):=by rw[tM]
def mY(r:Rd):∀k,vA (tM r k).1=k
 |0=>rfl
 |k+1=>by rw[tM];simp[mY r k]
def aFq{r:Rd}(h:(uR r).2.H=cA):r.H=cA/\r.rest=kO (uR r).1.N++qF (uR r).1.V++(uR r).2.rest:=by
 obtain⟨c,d⟩:=VO (k:=2) (r:=(sC 1 r).2) h;obtain⟨a,b⟩:=VO (k:=1) (r:=r) c;refine⟨a,?_⟩;rw[b,d];apply iZ;simp[uR,kO,qF]
def aKg{r:Rd}{l:eC}{q:gB}(h:r.rest=kO l.N++qF l.V++q)(c:l.N.size<256)(d:l.V.size<65536):uR r=(l,⟨q,r.H⟩):=by
 have e:r.rest=pB 1 (l.N.size:Nat)++(l.N++(qF l.V++q)):=by
  rw[h];apply iZ;simp[kO]
 have a:=CJ e (by omega);have b:sC 2 (sC 1 r).2=(l.V,⟨q,r.H⟩):=by
  rw[a];exact CJ (r:=⟨qF l.V++q,r.H⟩) (by show qF l.V++q=_;apply iZ;simp[qF]) (by omega)
 rw[uR,b,a]
def aLu{r:Rd}(k:Nat):(tM r k).2.H=cA->r.H=cA/\r.rest=jD (tM r k).1++(tM r k).2.rest:=by
 induction k with
 |zero=>
  intro h;refine⟨h,?_⟩;show r.rest=kA++r.rest;apply iZ;simp
 |succ k f=>
  intro h;rw[cU]at h |-
  simp only at h |-
  obtain⟨d,e⟩:=aFq h;obtain⟨b,c⟩:=f d;refine⟨b,?_⟩;generalize tM r k=R at *;generalize uR R.2=L at *;rw[c,e,rP];have a:jD [L.1]=kO L.1.N++qF L.1.V:=by
   show kO L.1.N++qF L.1.V++kA=_;apply iZ;simp
  rw[a];apply iZ;simp
def aId(a:List eC):Prop:=∀i(h:i<vA a),a[i].N.size<256/\a[i].V.size<65536
def gm{r:Rd}{a:List eC}{q:gB}(h:r.rest=jD a++q)(b:aId a):∀k,k<=vA a->tM r k=(a.take k,⟨jD (a.drop k)++q,r.H⟩)
 |0,_=>by
  cases r
  simp only at h;simp[tM,h]
 |k+1,f=>by
  have d:=gm h b k (by omega);have e:jD (a.drop k)++q=kO a[k].N++qF a[k].V++(jD (a.drop (k+1))++q):=by
   rw[Cb (by omega)];apply iZ;simp[jD]
  have c:=aKg (r:=⟨jD (a.drop k)++q,r.H⟩) e (b k (by omega)).1 (b k (by omega)).2;rw[cU,d,c,Pa (by omega)]
def UU(s:gB):∀(b p:Nat)(l:List Nat),s.size<=p+b->wJ s b p=bA l->s.size<=p+4*vA l
 |0,p,l,c,_=>by omega
 |b+1,p,l,c,h=>by
  rw[wJ]at h;split at h
  .split at h
   .exact absurd h (by simp)
   obtain ⟨d,a,rfl⟩:=Wb.1 h;have e:=sX s p;have f:=(wZ s p).2;have:=UU s b _ d (by omega) a;simp;omega
  omega
def aMs{s:gB}(h:zP s=0):s.size<=512:=by
 unfold zP at h;split at h;exact absurd h (by simp)
 rename_i l a;unfold WB at h;split at h
 .exact absurd h (by simp)
 have:=UU s s.size 0 l (by omega) a;omega
def DE:∀(b:List eC)(j:Nat),cD b j=aA->∀i(h:i<vA b),iR b[i]=0
 |[],_,_,i,h=>absurd h (by simp)
 |l::r,j,a,i,h=>by
  rw[cD]at a;split at a
  .rename_i c;cases i with
   |zero=>exact c
   |succ i=>exact DE r _ a i (by simpa using h)
  exact absurd a (by simp)
def MS:∀(l:List eC)(j c i:Nat),cD l j=bA (c,i)->c≠0
 |[],_,_,_,h=>by simp[cD]at h
 |x::r,j,c,i,h=>by
  rw[cD]at h;split at h;exact MS r _ _ _ h
  rename_i a;simp only[Qa,Dc]at h;rw[<-h.1];exact a
def BK{a:List eC}(h:vP a=dA):aId a:=by
 have k:=aIp h;have j:=QQ h;have f:(uB a).2.1=0:=by rw[k]
 have b:cD a 0=aA:=by
  cases b:cD a 0 with
  |none=>rfl
  |some g=>
   obtain⟨c,i⟩:=g;rw[BL (by omega) b]at f;exact absurd f (MS a 0 c i b)
 intro i l;have d:=DE a 0 b i l;unfold iR at d;split at d
 .rename_i m;have e:gb a[i].N:=by simpa[TY]using m
  have:=aMs d;exact⟨by have:=e.2.1;omega,by omega⟩
 exact absurd d (by simp)
theorem mf{a:List eC}(h:vP a=dA):gG (bI a)=(a,dA):=by
 have c:=QQ h;have i:=BK h;have b:iD 1 ⟨bI a,cA⟩=(pB 1 (vA a:Nat),⟨jD a,cA⟩):=CH rfl (qB 1 _);have f:QZ (bI a)=vA a:=by
  show rS (iD 1 ⟨bI a,cA⟩).1.data.toList=_;rw[b];exact kX 1 (vA a) (by omega)
 have g:(kD 1 ⟨bI a,cA⟩).2=⟨jD a,cA⟩:=by
  show(iD 1 ⟨bI a,cA⟩).2=_;rw[b]
 have d:vG (bI a)=(a,⟨kA,cA⟩):=by
  unfold vG;rw[f,g];have e:=gm (r:=⟨jD a,cA⟩) (q:=kA) (by apply iZ;simp) i (vA a) (Ia _);rw[e,Rb,Kg];simp[jD]
 unfold gG;rw[d];simp only;rw[Ma (by simp[aW,h])]
theorem dh{key:gB}(h:(gG key).2=dA):vP (gG key).1=dA/\bI (gG key).1=key:=by
 unfold gG at h |-
 split at h
 .rename_i hw;rw[Ma hw];rw[Sa]at hw;refine⟨hw.2,?_⟩;have a:=hw.1;unfold aW at a;rw[Sa]at a;have d:(vG key).2.H=cA:=by simpa using a.1
  have c:(vG key).2.rest=kA:=toList_inj (by simpa using a.2);obtain⟨g,i⟩:=aLu (r:=(kD 1 ⟨key,cA⟩).2) (QZ key) d;obtain⟨m,k,l⟩:=jJ (n:=1) (r:=⟨key,cA⟩) g;have j:vA (vG key).1=QZ key:=mY _ _;have e:pB 1 (vA (vG key).1:Nat)=(iD 1 ⟨key,cA⟩).1:=by
   rw[j];have:=aBu (iD 1 ⟨key,cA⟩).1.data.toList 1 (by rw[<-aQ];exact k);show pB 1 (rS (iD 1 ⟨key,cA⟩).1.data.toList:Nat)=_;rw[this]
  show pB 1 (vA (vG key).1:Nat)++jD (vG key).1=key;have b:(iD 1 ⟨key,cA⟩).2.rest=jD (vG key).1++(vG key).2.rest:=i;have f:key=(iD 1 ⟨key,cA⟩).1++(iD 1 ⟨key,cA⟩).2.rest:=l;rw[e];conv=>rhs;rw[f,b,c]
  apply iZ;simp
 exact absurd h (by simp)
theorem PF{key:gB}(h:(gG key).2=cA):gG key=([],cA)/\∀a,vP a=dA->bI a≠key:=by grind [gG,vP,bI,mf]
theorem gl(r:Rd)(k:Nat):(tM r k).2.rest.size<=r.rest.size/\∀i(h:i<vA (tM r k).1),(tM r k).1[i].N.size<=r.rest.size/\(tM r k).1[i].V.size<=r.rest.size:=by induction k<;>grind [tM,sC,JT,cU,CA]
def aGy(key:gB):∀i(h:i<vA (vG key).1),(vG key).1[i].N.size<=key.size/\(vG key).1[i].V.size<=key.size:=by grind [vG,kD,QZ,gl,sP]
theorem aAc(w:eA)(B D:Nat)(b:List cB)(c k r s:Int)(H:Bool)(v:iA)(d:vK)(h:jy w B D b c k r s H v d)(hr:(mD k r s H).1=0)(X:d.K≠1)(hop:1<=d.K/\d.K<=6)(hq:kI b d.N (fC d.N b)=dA):CY w B D b c k r s H v d:=by
 unfold CY;have HD:=yA h.drive;have HA:=yA h.asc;obtain⟨-,-,hlen,hsum,hcap,hk0,hk1⟩:=h;have E:xA (mJ b c k r s H d=((uP b c d).1,(uP b c d).2,(mD k r s H).2)):=by show _=_;rw[mJ,Ma hr]
 have HR:=yA hr;obtain⟨N,-⟩:=PH hq;have z:=yA (YG (c:=c) X hq N);have HQ:=yA hq;have h1b:(d.K==1)=cA:=by simpa using X
 have HKS:xA (d.K=2\/d.K=3\/d.K=4\/d.K=5\/d.K=6):=by show _\/_;omega
 clear hr hq hop;go_enter func225,ntmps225;go_wp2_with fail;apply aC (nX D 293 v (lA mA c) k r s H _ (HD.o.z vB).blk hk0 hk1);rintro w1 ⟨n,l⟩;have J:xA _:=(HD.o.z vB).charged n l;have HB1:xA _:=bK.charge HD.o HD.o.size n;have hOD:¬(w.1.size=D):=by have:=zA HD.o.blk;omega
 have HO:xA (jx w1 w.1.size d 141):=iB.keeps (S:=fun k=>k=D) (g:=w.1.size) (heap_alloc_new w (tA #[lA mA d.K,nA d.N,nA d.tq,nA d.data,lA mA d.size] 141)) (gE.but n) hOD;obtain⟨Z,u,I,G,L⟩:=HO.o.cells;clear n l;rw[HR.o];simp only[gH];obtain⟨a,cap,rfl,Y⟩:=J.o.files;have p1:=tB.cells u;have p4:=tB.cells J.o.cell4;have hne:=tB.there w1;have HFx:xA (∀x:tB w1,eB x.w' a b):=fun x=>Y.z x.h;have HDx:xA (∀x:tB w1,uC x.w' B D b c (mD k r s H).2.1 r s (mD k r s H).2.2 (oA a (vA b) cap)):=fun x=>J.o.z x.h;have HOx:xA (∀x:tB w1,jx x.w' w.1.size d 141):=fun x=>iB.z HO.o x.h;have R:vA b<=1048576:=by omega
 clear u I G L Y HO;go_wp2_with fail;refine jB (by kernel_rfl) (by kernel_rfl) ?_;repeat (go_big_quiet_step (first|(go_at_call 256;exact xB (zZ _ _ _ _ _ (HFx.o _) HA.o R))))
 refine wpQuiet_nil ?_;rintro _ ⟨y,rfl⟩;have i:xA _:=HDx.o y;have F:xA (jx y.w' w.1.size d 141):=HOx.o y;have C:xA _:=HB1.o.on y.h J.o.size;clear Z p1 p4 hne HDx HFx HOx J HB1;generalize y.w'=W at *;clear y;rw[HQ.o];clear h1b X;rcases HKS.o with K|K|K|K|K
 all_goals
  have HKD:=yA K;clear HKS
 .have ED:xA (uP b c d=if c<rC b+d.data.size then(3,b) else(0,b.set (fC d.N b) ⟨b[fC d.N b].N,b[fC d.N b].data++d.data,b[fC d.N b].Y⟩)):=by show _=_;rw[z.o];simp[K]
  obtain⟨Z,u,I,G,L⟩:=F.o.cells;clear u I L;go_wp2_with fail;refine(bs B D _ b c _ r s _ _ d.data _ i.o N R hsum hcap).mono ?_;rintro e w3 ⟨t,o⟩;have m:xA _:=C.o.trans o;clear o Z G;rcases t with⟨T,rfl,hd⟩|⟨hge,rfl,hd⟩
  .have A:xA (uP b c d=(3,b)):=by show _=_;rw[ED.o,Ma T]
   have p:xA _:=hd;clear hd T;go_wp2;go_ret;rw[E.o,A.o];exact⟨rfl,m.o.below,fun _=>m.o.other,_,p.o,fun _=>rfl⟩
  have A:xA (uP b c d=(0,b.set (fC d.N b) ⟨b[fC d.N b].N,b[fC d.N b].data++d.data,b[fC d.N b].Y⟩)):=by show _=_;rw[ED.o,Ja (by omega)]
  have p:xA _:=hd;clear hd hge;go_wp2;go_ret;rw[E.o,A.o];exact⟨rfl,m.o.below,fun _=>m.o.other,_,p.o,fun _=>rfl⟩
 .have A:xA (uP b c d=(0,b.set (fC d.N b) ⟨b[fC d.N b].N,b[fC d.N b].data,b[fC d.N b].data.size⟩)):=by show _=_;rw[z.o];simp[K]
  obtain⟨Z,u,I,G,L⟩:=F.o.cells;obtain⟨g,U,V,hgD,P⟩:=i.o.slice (by omega);simp only[iA.slice.injEq]at V;obtain⟨rfl,_,rfl⟩:=V;obtain⟨q,_,l,hnc,hcm,Q,f⟩:=fK i.o.row;have M:=(f _ N).2.1;rw[Ya]at M;have q4:=i.o.cell4;have HS:xA (Calls prog 261 #[.pointer (bA ⟨g,fC d.N b*3,aA⟩)] W fun e w'=>e=sA (.tuple #[])/\w'=W.setCell ⟨g,fC d.N b*3+2,aA⟩ (lA mA b[fC d.N b].data.size)):=tr g _ q 149 _ W l M (by omega);have p:xA (uC (W.setCell ⟨g,fC d.N b*3+2,aA⟩ (lA mA b[fC d.N b].data.size)) B D (b.set (fC d.N b) ⟨b[fC d.N b].N,b[fC d.N b].data,b[fC d.N b].data.size⟩) c (mD k r s H).2.1 r s (mD k r s H).2.2 (oA (bA ⟨g,0,aA⟩) (vA b) cap)):=
   i.o.put ((tD.refl _ _).setCell _ _) (l.set _ _) (by simp[Q]) (aHg N f _)
  have m:xA (bK B w (W.setCell ⟨g,fC d.N b*3+2,aA⟩ (lA mA b[fC d.N b].data.size))):=C.o.set l (Ca rfl) P _;clear l f M u I G L;go_wp2_with fail;apply aC HS.o;rintro w3 rfl;go_wp2;go_ret;rw[E.o,A.o];exact⟨rfl,m.o.below,fun _=>m.o.other,_,p.o,fun _=>rfl⟩
 .cases hb:wB d.size 0 b[fC d.N b].data.size
  .have A:xA (uP b c d=(6,b)):=by show _=_;rw[z.o];simp[K,hb]
   obtain⟨Z,u,I,G,L⟩:=F.o.cells;obtain⟨g,U,V,hgD,P⟩:=i.o.slice (by omega);simp only[iA.slice.injEq]at V;obtain⟨rfl,_,rfl⟩:=V;obtain⟨q,_,l,hnc,hcm,Q,f⟩:=fK i.o.row;have M:=(f _ N).2.1;rw[Ya]at M;have q4:=i.o.cell4;have HS:xA _:=fun W' h=>jn g _ q 149 _ d.size W' h M hb;have O:xA (iB W g q 149):=l;clear l f M u I G hb;go_wp2_with fail;go_region_with (go_at_call 262;apply aC (HS.o _ (O.o.z eD.drew));intro w3 o)
   all_goals(
    simp only[gH]
    go_wp2
    go_ret
    rw[E.o,A.o];have hR:bK B w _:=(C.o.on eD.drew i.o.size).on o i.o.size;exact⟨rfl,hR.below,fun _=>hR.other,_,(i.o.z eD.drew).z o,fun _=>rfl⟩)
  have A:xA (uP b c d=(0,b.set (fC d.N b) ⟨b[fC d.N b].N,b[fC d.N b].data.extract 0 d.size.toNat,d.size⟩)):=by show _=_;rw[z.o];simp[K,hb]
  have hdl:b[fC d.N b].data.size<=1000000000:=by
   have X:=gI b _ N;have h2:=oH b (fC d.N b+1);omega
  obtain⟨Z,u,I,G,L⟩:=F.o.cells;obtain⟨g,U,V,hgD,P⟩:=i.o.slice (by omega);simp only[iA.slice.injEq]at V;obtain⟨rfl,_,rfl⟩:=V;obtain⟨q,_,l,hnc,hcm,Q,f⟩:=fK i.o.row;have M:=(f _ N).2.1;rw[Ya]at M;have q4:=i.o.cell4;have HS:xA (∀W',iB W' g q 149->Calls prog 262 #[.pointer (bA ⟨g,fC d.N b*3,aA⟩),lA mA d.size] W' fun e w'=>e=sA (gH 0)/\tD g W' w'/\
   iB w' g ((q.setIfInBounds (fC d.N b*3+1) (nA (b[fC d.N b].data.extract 0 d.size.toNat))).setIfInBounds (fC d.N b*3+2) (lA mA d.size)) 149):=fun W' h=>uk g _ q 149 _ d.size W' h M (by omega) hb hdl
  have O:xA (iB W g q 149):=l;have HRW:xA _:=f;clear l f M u I G hb hdl;go_wp2_with fail;go_region_with (go_at_call 262;apply aC (HS.o _ (O.o.z eD.drew));rintro w3 ⟨n,o⟩)
  all_goals(
   simp only[gH]
   go_wp2
   go_ret
   rw[E.o,A.o];have hR:bK B w _:=(C.o.on eD.drew i.o.size).but n (O.o.z eD.drew) (Ca rfl) P i.o.size;exact⟨rfl,hR.below,fun _=>hR.other,_,(i.o.z eD.drew).put n o (by simp[Q]) (aLz N HRW.o _ _),fun _=>rfl⟩)
 .have A:xA (uP b c d=(0,uH (b.eraseIdx (fC d.N b)) ⟨d.tq,b[fC d.N b].data,b[fC d.N b].Y⟩)):=by show _=_;rw[z.o];simp[K]
  obtain⟨Z,u,I,G,L⟩:=F.o.cells;clear u G L;go_wp2_with fail;apply aC (zn B D _ b c _ r s _ _ d.tq _ i.o N (HA.o.erase _) R);rintro w3 ⟨j,v3,hp,o,t⟩;obtain rfl:=hp.uniq (rK d.tq (HA.o.erase _));have m:xA _:=C.o.trans o;have p:xA (uC w3 B D (uH (b.eraseIdx (fC d.N b)) ⟨d.tq,b[fC d.N b].data,b[fC d.N b].Y⟩) c (mD k r s H).2.1 r s (mD k r s H).2.2 v3):=by
   rcases t with⟨X,h2⟩|⟨X,h2⟩;obtain ⟨T,hnm⟩:=PH X;show uC _ _ _ _ _ _ _ _ _ _;rw[VT (HA.o.erase _) T hnm];exact h2;show uC _ _ _ _ _ _ _ _ _ _;rw[VS (HA.o.erase _) X];exact h2
  clear t o hp;go_wp2;go_ret;rw[E.o,A.o];exact⟨rfl,m.o.below,fun _=>m.o.other,v3,p.o,fun h=>(by have:=HKD.o;omega)⟩
 have A:xA (uP b c d=(0,b.eraseIdx (fC d.N b))):=by show _=_;rw[z.o];simp[K]
 obtain⟨Z,u,I,G,L⟩:=F.o.cells;clear u I G L;go_wp2_with fail;apply aC (UQ B D _ b c _ r s _ _ _ i.o N R);rintro w3 ⟨v3,t,_,hk3⟩;have p:xA _:=t;have m:xA _:=C.o.trans (bK.removed i.o hk3);clear t hk3;go_wp2;go_ret;rw[E.o,A.o];exact⟨rfl,m.o.below,fun _=>m.o.other,v3,p.o,fun h=>(by have:=HKD.o;omega)⟩
def td(w:eA)(B D:Nat)(f:List cB)(c k b e:Int)(d:Bool)(v:iA)(a:vK)(h:jy w B D f c k b e d v a)(g:wB a.K 1 6=dA):CY w B D f c k b e d v a:=by grind [wB,CY,mD,kI,fC,tf,ip,aAc,iq]
