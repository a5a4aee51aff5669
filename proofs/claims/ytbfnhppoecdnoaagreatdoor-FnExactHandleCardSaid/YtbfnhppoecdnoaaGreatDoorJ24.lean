import Derived.Test.YtbfnhppoecdnoaaGreatDoorJ18
import Derived.Test.YtbfnhppoecdnoaaGreatDoorJ08
import Derived.Test.YtbfnhppoecdnoaaGreatDoorJ19
import Derived.Test.YtbfnhppoecdnoaaGreatDoorJ20
import Derived.ProofKit
import Derived.OpenShut
import Derived.Deep.Strs
set_option maxRecDepth 100000
set_option maxHeartbeats 4000000
set_option linter.defProp false
open Bool renaming true->dA,false->cA
open Option renaming some->bA,none->aA
open ByteArray renaming empty->kA
open List renaming length->vA
namespace Go.Proofs.YtbfnhppoecdnoaaGreatDoor
open Go renaming World->eA,Calls->gA,Value->iA
open Value renaming agg->rA,int->lA,bool->pA,string->nA,slice->oA,pointer->qA,tuple->uA
open IntKind renaming i64->mA
open Ending renaming returned->sA
open Obj renaming cells->tA
open Go.RowKit Tryz
def wt(a b c:Int)(w:eA):
 qD 39 #[rA #[lA mA a,lA mA b,lA mA c],rA #[lA mA a,lA mA b,lA mA c]] w (pA dA):=by
 go_enter func39,ntmps39;go_wp2;go_ret;exact⟨rfl,oB vB vB⟩
def oe:(prog.info? 111).map (fun i=>(i.zero,i.size,i.bytes))=bA (bA (rA #[nA ⟨#[]⟩,lA mA 0]),2,24):=by kernel_rfl
def oi:(prog.info? 88).map (fun i=>(i.zero,i.size,i.bytes))=bA (bA (rA #[nA ⟨#[]⟩,lA mA 0]),2,24):=by kernel_rfl
def vo(a:iC)(g:Nat)(c:List dB)(w:eA)(q:yB w a c)(A:vA c<=2000000):
 gA prog 116 #[oA a (vA c) g] w fun e n=>∃v,e=sA v/\n.ownsRow w.1.size 111 2 v (vA c) (flatK c)/\kB w n:=by
 have p:=fun n=>Lib.run_eql_slice_nil (P:=prog) n 82 111 a (vA c) g 0 0 underlying82;cases a with
 |none=>
  have D:c=[]:=by
   rcases q with h|⟨b,o,e,_⟩;exact h;exact absurd e (by simp)
  subst D;have y:=fun n=>Lib.run_eql_slice_nil (P:=prog) n 82 111 aA 0 g 0 0 underlying82;clear p;go_enter func116,ntmps116;go_wp2;go_ret;exact⟨_,rfl,⟨rfl,Ca ⟨rfl,rfl⟩⟩,eD⟩
 |some x=>
  obtain⟨i,z,r,s,t⟩:=info_parts oe;have l:(w.alloc (tA #[] 111)).ownsRow w.1.size 111 2 (oA (bA ⟨w.1.size,0,aA⟩) 0 0) 0 []:=eA.ownsRow_made w #[] 0 (Ia _) (by simp[maxLen]) (by simp);have C:=yA l;have d:∀j u,(flatK c)[j]?=bA u->(w.alloc (tA #[] 111)).cell? (x.add j)=bA u:=by
   rcases q.z (yG w (tA #[] 111)) with rfl|⟨b,o,e,_,h⟩;intro j u h;simp[flatK]at h;simp only[Qa]at e;subst e;exact jO h
  have HN:xA _:=d;have B:xA _:=z;clear q l d z;go_enter func116,ntmps116;go_wp2_with(at_builtin;refine wpList_append_own_at _ rfl _ _ _ rfl w.1.size 111 i _ 2 24 underlying82 B.o r s t rfl (by omega) (oA (bA ⟨w.1.size,0,aA⟩) 0 0) 0 [] rfl C.o x (vA c) g (flatK c) rfl (xM c) HN.o (lQ c) (by simp[maxLen];omega) (by omega) (by simp) ?_;intro F G f m _ _);go_ret;simp only[Ya,Mb]at f;refine⟨F,rfl,f,vB.grown m (by simp) (fun k E=>?_)⟩;simp[iA.ownBlock]at E;omega
def vq(a:iC)(g:Nat)(c:List dB)(w:eA)(q:yB w a c)(A:vA c<=2000000):
 gA prog 117 #[oA a (vA c) g] w fun e n=>∃v,e=sA v/\n.ownsRow w.1.size 88 2 v (vA c) (flatK c)/\kB w n:=by
 have p:=fun n=>Lib.run_eql_slice_nil (P:=prog) n 83 88 a (vA c) g 0 0 underlying83;cases a with
 |none=>
  have D:c=[]:=by
   rcases q with h|⟨b,o,e,_⟩;exact h;exact absurd e (by simp)
  subst D;have y:=fun n=>Lib.run_eql_slice_nil (P:=prog) n 83 88 aA 0 g 0 0 underlying83;clear p;go_enter func117,ntmps117;go_wp2;go_ret;exact⟨_,rfl,⟨rfl,Ca ⟨rfl,rfl⟩⟩,eD⟩
 |some x=>
  obtain⟨i,z,r,s,t⟩:=info_parts oi;have l:(w.alloc (tA #[] 88)).ownsRow w.1.size 88 2 (oA (bA ⟨w.1.size,0,aA⟩) 0 0) 0 []:=eA.ownsRow_made w #[] 0 (Ia _) (by simp[maxLen]) (by simp);have C:=yA l;have d:∀j u,(flatK c)[j]?=bA u->(w.alloc (tA #[] 88)).cell? (x.add j)=bA u:=by
   rcases q.z (yG w (tA #[] 88)) with rfl|⟨b,o,e,_,h⟩;intro j u h;simp[flatK]at h;simp only[Qa]at e;subst e;exact jO h
  have HN:xA _:=d;have B:xA _:=z;clear q l d z;go_enter func117,ntmps117;go_wp2_with(at_builtin;refine wpList_append_own_at _ rfl _ _ _ rfl w.1.size 88 i _ 2 24 underlying83 B.o r s t rfl (by omega) (oA (bA ⟨w.1.size,0,aA⟩) 0 0) 0 [] rfl C.o x (vA c) g (flatK c) rfl (xM c) HN.o (lQ c) (by simp[maxLen];omega) (by omega) (by simp) ?_;intro F G f m _ _);go_ret;simp only[Ya,Mb]at f;refine⟨F,rfl,f,vB.grown m (by simp) (fun k E=>?_)⟩;simp[iA.ownBlock]at E;omega
def eI(f:Nat->Bool):Nat->Bool
 |0=>dA
 |k+1=>eI f k&&f k
theorem sL(f:Nat->Bool)(k:Nat):eI f (k+1)=(eI f k&&f k):=rfl
theorem fQ{f:Nat->Bool}{k n:Nat}(h:f k=cA)(a:k<n):eI f n=cA:=by induction n<;>grind [eI,sL]
theorem yO{f:Nat->Bool}{k n:Nat}(h:eI f n=dA)(a:k<n):f k=dA:=by grind [eI,fQ]
def okT(c:UInt8):Bool:=(97<=c&&c<=122) ||(48<=c&&c<=57) ||c==45
def tC(s:gB):Bool:=decide (1<=s.size) &&decide (s.size<=32) &&s.data.toList.all okT
def yE(s:gB):Bool:=!s.toList.isEmpty&&decide (zP s=0)
def aE(s:gB):gB:=jL (gG s).1
def pK(s:gB):Bool:=!(aE s).toList.isEmpty
def aF(t:aB):Bool:=t.L==-1&&vA t.M==0&&vA t.Z==0
def mM(a:List dB)(i:Nat):Bool:=match i with
 |0=>dA
 |j+1=>match a[j]?,a[j+1]? with
  |some p,bA q=>aK p.s q.s
  |_,_=>cA
def iM(a:List dB)(i:Nat):Bool:=match a[i]? with
 |some m=>mM a i&&yE m.s&&wB m.n 0 1000000
 |none=>cA
def jM(a:List dB):Bool:=eI (iM a) (vA a)
def dJ(b a:Int)(c:List dB)(i:Nat):Bool:=match c[i]? with
 |some x=>mM c i&&pK x.s&&wB x.n 0 a&&decide (a-x.n<b)
 |none=>cA
def fL(b a:Int)(c:List dB):Bool:=eI (dJ b a c) (vA c)
def qO(a:List aB)(i:Nat):Bool:=match i with
 |0=>dA
 |j+1=>match a[j]?,a[j+1]? with
  |some p,bA q=>aK p.N q.N
  |_,_=>cA
def yP(b a:Int)(t:aB):Bool:=tC t.N&&wB t.L (-1) 1000000&&jM t.M&&fL b a t.Z&&!aF t
def xN(b a:Int)(c:List aB)(i:Nat):Bool:=match c[i]? with
 |some t=>qO c i&&yP b a t
 |none=>cA
def mN(b a:Int)(c:List aB):Bool:=eI (xN b a c) (vA c)
def kC(c:lC)(a:Int)(b:List aB):Bool:=pH c&&wB a 0 1000000000000&&decide (vA b<=10000) &&mN c.w a b
theorem bU{a:List dB}{k:Nat}(b:0<k)(c:k<vA a):mM a k=aK (a[k-1]'(by omega)).s a[k].s:=by unfold mM;grind
theorem rW{a:List aB}{k:Nat}(b:0<k)(c:k<vA a):qO a k=aK (a[k-1]'(by omega)).N a[k].N:=by unfold qO;grind
theorem AP{a:List dB}{k:Nat}(b:k<vA a):iM a k=(mM a k&&yE a[k].s&&wB a[k].n 0 1000000):=by simp[iM,Va b]
theorem tW{c a:Int}{b:List dB}{k:Nat}(d:k<vA b):dJ c a b k=(mM b k&&pK b[k].s&&wB b[k].n 0 a&&decide (a-b[k].n<c)):=by simp[dJ,Va d]
theorem zW{b a:Int}{c:List aB}{k:Nat}(d:k<vA c):xN b a c k=(qO c k&&yP b a c[k]):=by simp[xN,Va d]
theorem fU{α:Type}{key:α->gB}:∀(l:List α),(∀k(h:k+1<vA l),aK (key (l[k]'(by omega))) (key l[k+1])=dA)->wC key l
 |[],_=>Gd
 |[a],_=>We ..
 |a::b::r,h=>by
  have e:wC key (b::r):=fU (b::r) fun k f=>h (k+1) (by simp at f |-;omega);have d:aK (key a) (key b)=dA:=h 0 (by simp);refine Bc.2 ⟨fun q c=>?_,e⟩;rcases Lb.1 c with rfl|c
  .exact d
  exact KK d (e.head q c)
def aHc{α:Type}{key:α->gB}{l:List α}(k:Nat)(h:wC key l):wC key (l.take k):=List.Pairwise.sublist (List.take_sublist ..) h
def LB{a:List dB}{n:Nat}(h:eI (iM a) n=dA)(b:n<=vA a):wC (·.s) (a.take n):=by grind [eI,iM,wC,fU,yO,AP,bU]
def LP{c b:Int}{a:List dB}{n:Nat}(h:eI (dJ c b a) n=dA)(d:n<=vA a):wC (·.s) (a.take n):=by grind [eI,dJ,wC,fU,yO,tW,bU]
def aHp{c a:Int}{b:List aB}{n:Nat}(h:eI (xN c a b) n=dA)(d:n<=vA b):wC (·.N) (b.take n):=by grind [eI,xN,wC,fU,yO,zW,rW]
def SW{α:Type}{key:α->gB}{l:List α}{k:Nat}(c:k<vA l)(h:wC key (l.take (k+1))):gC key l[k] (l.take k)=l.take (k+1)/\zC key (key l[k]) (l.take k)=aA:=by
 rw[Pa c]at h |-
 have b:∀p∈l.take k,aK (key p) (key l[k])=dA:=fun p a=>(Ae.1 h).2.2 p a _ (Uf.2 rfl);exact⟨aFd b,tN fun p a=>eJ (b p a)⟩
def aHt(B:Nat)(r:Rd)(w:eA)(c:RB w B r):
 dI 235 #[qA (bA ⟨B,0,aA⟩)] w (pA (aW r)):=by
 have d:=iB.cell c 0;have f:=iB.cell c 1;simp only[Xb,Ob,Ga]at d f;have g:xA (ByteArray.empty.toList=[]):=by show _=_;rw[ByteArray.toList_eq];rfl
 obtain⟨a,b⟩:=r;simp only at d f;clear c;cases b with
 |true=>
  have E:xA (aW ⟨a,dA⟩=cA):=rfl;go_enter func235,ntmps235;go_wp2;go_ret;exact⟨fB E.o.symm,rfl⟩
 |false=>
  have E:xA (aW ⟨a,cA⟩=a.toList.isEmpty):=by
   show _=_;unfold aW;rw[g.o];cases a.toList<;>rfl
  go_enter func235,ntmps235;go_wp2;go_ret;exact⟨fB E.o.symm,rfl⟩
def aIs(key:gB):QZ key<=255:=by
 have:=FG 1 ⟨key,cA⟩;unfold QZ;omega
def yi(B:Nat)(key:gB)(w:eA)(Z:RB w B ⟨key,cA⟩)(hs:key.size<=1000000000):
 gA prog 168 #[qA (bA ⟨B,0,aA⟩)] w fun e l=>∃g L,e=sA (.slice (bA ⟨g,0,aA⟩) (vA (vG key).1) L)/\l.ownsRow w.1.size 116 2 (.slice (bA ⟨g,0,aA⟩) (vA (vG key).1) L) (vA (vG key).1) (xD (vG key).1)/\RB l B (vG key).2/\tD B w l:=by
 have HC:xA (gA prog 166 #[qA (bA ⟨B,0,aA⟩),lA mA 1] w fun e l=>e=sA (lA mA (QZ key:Nat))/\RB l B (kD 1 ⟨key,cA⟩).2/\tD B w l):=UL B ⟨key,cA⟩ 1 w Z (by omega) hs;have s:=zA Z;have hz:(kD 1 ⟨key,cA⟩).2.rest.size<=1000000000:=by
  have h2:=(sP 1 ⟨key,cA⟩).2.2;have h3:(kD 1 ⟨key,cA⟩).2.rest.size<=key.size:=h2;omega
 have hcl:=aIs key;have H:xA (vG key=tM (kD 1 ⟨key,cA⟩).2 (QZ key)):=by show _=_;rw[vG]
 rw[H.o];clear H Z;generalize (kD 1 ⟨key,cA⟩).2=f at *;generalize QZ key=n at *;obtain⟨ti,C,T,U,V⟩:=SU;have HI:xA _:=C;have a0:∀W:eA,(Instr.makeSlice 65 (lA mA 0) (lA mA (n:Nat))).run prog W=.ok (oA (bA ⟨W.1.size,0,aA⟩) 0 n) (W.alloc (tA (madeCells #[nA kA,nA kA] (n*2)) 116)):=fun W=>by
  have hr:=run_make (P:=prog) W 65 116 ti _ underlying65 C T .i64 mA 0 (n:Nat) (by omega) (by omega) (by rw[V];omega) (by omega);simp only[Hd,U]at hr;exact hr
 clear C;go_enter func168,ntmps168;go_wp2_with fail;apply aC HC.o;rintro w1 ⟨Q,x⟩;have H1:xA (RB w1 B f/\tD B w w1):=⟨Q,x⟩
 have d0:=x.size;clear Q x HC;go_wp2;clear a0;go_loopw [4,5,11] (fun e0 _ i wr=>∃(k:Nat)(d:List eC)(g v:Nat),k<=n/\i=lA mA k/\vA d<=k/\k<=vA d/\e0=oA (bA ⟨g,0,aA⟩) (vA d) v/\xA (d=(tM f k).1)/\xA (RB wr B (tM f k).2)/\xA (wr.ownsRow w.1.size 116 2 (oA (bA ⟨g,0,aA⟩) (vA d) v) (vA d) (xD d))/\xA (tD B w wr)) (fun _ _ i _=>n-(intOf i).toNat)
 case atStart=>
  refine⟨0,[],_,_,Oa _,rfl,Oa _,Oa _,rfl,rfl,iB.z H1.o.1 vB,⟨rfl,La ⟨w1.1.size,n,_,rfl,d0,heap_alloc_new _ _,Oa _,by simp[maxLen];omega,size_madeCells _ _,rfl⟩⟩,H1.o.2.alloc _⟩
 case round=>
  obtain⟨k,d,g,v,hk,rfl,hyl,hyl2,rfl,Y,u,m,t⟩:=hrel;by_cases hlt:k<n
  .have p:(tM f k).2.rest.size<=1000000000:=by have:=(gl f k).1;omega
   have j:(sC 1 (tM f k).2).2.rest.size<=1000000000:=by have:=(JT 1 (tM f k).2).2;omega
   have J:xA (∀W,RB W B (tM f k).2->gA prog 167 #[qA (bA ⟨B,0,aA⟩),lA mA 1] W fun e l=>e=sA (nA (sC 1 (tM f k).2).1)/\RB l B (sC 1 (tM f k).2).2/\tD B W l):=fun W h=>ue B _ 1 W h (by omega) p;have K:xA (∀W,RB W B (sC 1 (tM f k).2).2->gA prog 167 #[qA (bA ⟨B,0,aA⟩),lA mA 2] W fun e l=>e=sA (nA (sC 2 (sC 1 (tM f k).2).2).1)/\RB l B (sC 2 (sC 1 (tM f k).2).2).2/\tD B W l):=fun W h=>ue B _ 2 W h (by omega) j;have I:xA (tM f (k+1)=(d++[⟨(sC 1 (tM f k).2).1,(sC 2 (sC 1 (tM f k).2).2).1⟩],(sC 2 (sC 1 (tM f k).2).2).2)):=by show _=_;rw[cU,CA,Y.o]
   clear p j;generalize sC 2 (sC 1 (tM f k).2).2=b at *;generalize sC 1 (tM f k).2=a at *;generalize a.1=F at *;generalize b.1=G at *;go_wp2_with fail;apply aC (J.o _ u.o);rintro w2 ⟨R,y⟩;have X:xA (RB w2 B a.2/\tD B w w2/\w2.ownsRow w.1.size 116 2 (oA (bA ⟨g,0,aA⟩) (vA d) v) (vA d) (xD d)):=⟨R,t.o.trans y,AY m.o y s⟩
   clear R y J u m t;go_wp2_with fail;apply aC (K.o _ X.o.1);rintro D ⟨S,z⟩;have E:xA (RB D B b.2/\tD B w D/\D.ownsRow w.1.size 116 2 (oA (bA ⟨g,0,aA⟩) (vA d) v) (vA d) (xD d)):=⟨S,X.o.2.1.trans z,AY X.o.2.2 z s⟩
   have hz3:=E.o.2.1.size;clear S z K X;go_wp2_with(at_builtin;refine wpList_append_lies _ rfl _ _ _ rfl w.1.size 116 ti _ 2 32 underlying65 HI.o T U V rfl (by omega) (oA (bA ⟨g,0,aA⟩) (vA d) v) (vA d) (xD d) rfl (by exact jC E.o.2.2 vB) ⟨D.1.size,0,aA⟩ 1 1 [nA F,nA G] rfl rfl (by exact eA.news_of_block (cs:=#[nA F,nA G]) (heap_alloc_new _ _)) (by simp[iA.oneCell']) (by omega) (by simp[maxLen];omega) (by omega) (by simp;omega) (D.1.size+1) (by simp) ?_;intro g5 M w5 o c hat5 hlt5);have A:=(c.block B (by simp;omega) (fun e=>by have:=qI E.o.2.2 B e.symm;omega)).trans ((yG D _).block B (by omega));have N:tD B w w5:=by
    have r:=E.o.2.1;refine⟨c.os.trans r.os,c.tape.trans r.tape,c.output.trans r.output,?_,fun q hq b0=>?_⟩;have:=c.size;simp at this;omega;exact (c.block q (by simp;omega) (fun e=>by have:=qI E.o.2.2 q e.symm;omega)).trans (((yG D _).block q (by omega)).trans (r.block q hq b0))
   have O:vA (d++[(⟨F,G⟩:eC)])=vA d+1:=by simp
   have c0:xD d++[nA F,nA G]=xD (d++[⟨F,G⟩]):=by rw[aI];rfl
   rw[c0,<-O]at o;refine⟨⟨k+1,d++[(⟨F,G⟩:eC)],g5,M,by omega,by go_num,by omega,by omega,by rw[O],by show _=_;rw[I.o],?_,o,N⟩,by simp[intOf];omega⟩;show RB w5 B (tM f (k+1)).2;rw[I.o];exact A.trans E.o.1
  have e:k=n:=by omega
  subst e;have hY:=Y.o;clear Y;subst hY;go_wp2;go_ret;exact⟨g,v,rfl,m.o,u.o,t.o⟩
def nt(key:gB)(w:eA)(M:key.size<=1000000000)(D:vH w):
 gA prog 200 #[nA key] w fun e s=>∃a m,e=sA (uA #[.slice a (vA (gG key).1) m,pA (gG key).2])/\uE s w.1.size a (gG key).1/\kB w s:=by
 have u:xA _:=fun W B h=>yi B key W h M;have p:bk (vG key).1:=fun i K=>by
  have:=aGy key i K;exact⟨by omega,by omega⟩
 have F:vA (vG key).1<=255:=by
  have h:vA (vG key).1=QZ key:=by rw[vG];exact mY _ _
  have:=aIs key;omega
 have x:xA (∀W B,RB W B (vG key).2->dI 235 #[qA (bA ⟨B,0,aA⟩)] W (pA (aW (vG key).2))):=fun W B h=>aHt B _ W h;have A:xA _:=fun W a c h I J=>aFh a c _ W h p (by omega) J I;have C:xA (vH w):=D;have b:xA (RB (w.alloc (tA #[nA key,pA cA] 156)) w.1.size ⟨key,cA⟩/\kB w (w.alloc (tA #[nA key,pA cA] 156))):=⟨heap_alloc_new _ _,vB⟩
 have r:w.1.size<(w.alloc (tA #[nA key,pA cA] 156)).1.size:=by simp
 have q:xA (gG key=if (aW (vG key).2&&vP (vG key).1)=dA then((vG key).1,dA) else([],cA)):=by show _=_;rw[gG]
 clear D p;generalize aW (vG key).2=N at *;generalize vP (vG key).1=H at *;generalize (vG key).1=L at *;generalize (vG key).2=y at *;cases N with
 |true=>
  cases H with
  |true=>
   have E:xA (gG key=(L,dA)):=q.o;rw[E.o];go_enter func200,ntmps200;go_wp2_with fail;refine(u.o _ _ b.o.1).mono ?_;rintro e o ⟨g,m,rfl,d,j,f⟩;obtain⟨n,_,_,_⟩:=bT d;have k:xA (RB o w.1.size y/\uE o w.1.size (bA ⟨g,0,aA⟩) L/\kB w o):=⟨j,(eM d).mono (by omega),b.o.2.trans (f.below (Ia _) (by omega))⟩
   clear d j f b r;go_wp2_with fail;apply lK (x.o _ _ k.o.1);go_wp2_with fail;apply aC (A.o _ _ _ k.o.2.1.B (C.o.z k.o.2.2) n);intro z l;have t:xA (uE z w.1.size (bA ⟨g,0,aA⟩) L/\kB w z):=⟨k.o.2.1.z l,oB k.o.2.2 l⟩
   clear l;go_wp2;refine bodyPost_ret (v:=uA #[oA (bA ⟨g,0,aA⟩) (vA L) m,pA dA]) (by simp[results,results200,go_sem]) rfl ⟨_,_,rfl,t.o⟩
  |false=>
   have E:xA (gG key=([],cA)):=q.o;rw[E.o];go_enter func200,ntmps200;go_wp2_with fail;refine(u.o _ _ b.o.1).mono ?_;rintro e o ⟨g,m,rfl,d,j,f⟩;obtain⟨n,_,_,_⟩:=bT d;have k:xA (RB o w.1.size y/\uE o w.1.size (bA ⟨g,0,aA⟩) L/\kB w o):=⟨j,(eM d).mono (by omega),b.o.2.trans (f.below (Ia _) (by omega))⟩
   clear d j f b r;go_wp2_with fail;apply lK (x.o _ _ k.o.1);go_wp2_with fail;apply aC (A.o _ _ _ k.o.2.1.B (C.o.z k.o.2.2) n);intro z l;have t:xA _:=oB k.o.2.2 l;clear l;go_wp2;refine bodyPost_ret (v:=uA #[oA aA 0 0,pA cA]) (by simp[results,results200,go_sem]) rfl ⟨_,_,rfl,Ca rfl,t.o⟩
 |false=>
  have E:xA (gG key=([],cA)):=q.o;rw[E.o];go_enter func200,ntmps200;go_wp2_with fail;refine(u.o _ _ b.o.1).mono ?_;rintro e o ⟨g,m,rfl,d,j,f⟩;have k:xA (RB o w.1.size y/\kB w o):=⟨j,b.o.2.trans (f.below (Ia _) (by omega))⟩
  clear d j f b r;go_wp2_with fail;apply lK (x.o _ _ k.o.1);go_wp2;refine bodyPost_ret (v:=uA #[oA aA 0 0,pA cA]) (by simp[results,results200,go_sem]) rfl ⟨_,_,rfl,Ca rfl,k.o.2⟩
def bn(a:List vE):Prop:=∀i(h:i<vA a),GA a[i].K/\GA a[i].U
def CL{w e:eA}{x y:Array iA}{b d:TypeId}(f:Below ((w.alloc (tA x b)).alloc (tA y d)).1.size ((w.alloc (tA x b)).alloc (tA y d)) e):
 iB e w.1.size x b/\iB e (w.1.size+1) y d/\kB w e:=by
 refine⟨?_,?_,oB (oB vB vB) f⟩;exact (iB.z (iB.z (g:=w.1.size) (heap_alloc_new w (tA x b)) eD) vB).z f;have h:=iB.z (g:=(w.alloc (tA x b)).1.size) (heap_alloc_new (w.alloc (tA x b)) (tA y d)) f;simpa using h
def aHy(w:eA)(b:Nat)(a:iC)(n cap:Nat)(c k cr fl:Int)(dn:Bool):Prop:=iB w b #[oA a n cap,lA mA c,lA mA k,lA mA cr,lA mA fl,pA dn] 37
structure XK(w:World)(a:iC)(fs:List cB)(c:Int)(op:vK):Prop where
 files:eB w a fs
 asc:nV fs
 len:vA fs≤1000
 sum:(rC fs:Int)≤c
 cap:c≤1000000000
 data:op.data.size≤200000000
def VW(w:eA)(a:iC)(cap:Nat)(fs:List cB)(c k cr fl:Int)(dn:Bool)(op:vK):Prop:=
 gA prog 112 #[rA #[oA a (vA fs) cap,lA mA c,lA mA k,lA mA cr,lA mA fl,pA dn],rA #[lA mA op.K,nA op.N,nA op.tq,nA op.data,lA mA op.size]] w fun e f=>
  ∃d b,e=sA (uA #[.slice d (vA (uP fs c op).2) b,lA mA (uP fs c op).1])/\eB f d (uP fs c op).2/\kB w f
section
variable {w:eA} {a:iC} {cap:Nat} {fs:List cB} {c k cr fl:Int} {dn:Bool} {op:vK}
theorem BU{d:Int}{t:gB}{x:Int}(h:vF t fs 0=x)(w:eA)(f:eB w a fs)(b:vA fs<=maxLen):
 qD 68 #[rA #[oA a (vA fs) cap,lA mA c,lA mA d,lA mA cr,lA mA fl,pA dn],nA t] w (lA mA x):=h ▸ TJ a cap fs c d cr fl dn t w f b
theorem jq(f:cB)(j:eB w a fs)(l:vA fs<=1048576):gA prog 158 #[oA a (vA fs) cap,rA #[nA f.N,nA f.data,lA mA f.Y]] w fun e g=>∃d b,e=sA (.slice d (vA (uH fs f)) b)/\eB g d (uH fs f)/\kB w g:=
 (xz a cap fs f w j l).mono fun e g ⟨v,i,n,h⟩=>by obtain⟨d,b,rfl,m⟩:=cH n;exact⟨d,b,i,m.files,h⟩
theorem aQk{x:Nat×List cB}{f:cB}(_:x=(0,uH fs f))(h:eB w a fs)(i:vA fs<=1048576):gA prog 158 #[oA a (vA fs) cap,rA #[nA f.N,nA f.data,lA mA f.Y]] w fun e g=>∃d b,e=sA (.slice d (vA (uH fs f)) b)/\eB g d (uH fs f)/\kB w g:=jq f h i
theorem bj(t:gB)(i:eB w a fs)(j:vA fs<=1048576):gA prog 159 #[oA a (vA fs) cap,nA t] w fun e f=>∃d b,e=sA (.slice d (vA (pD fs t)) b)/\eB f d (pD fs t)/\kB w f:=
 (DJ a cap fs t w i j).mono fun e f ⟨v,h,m,g⟩=>by obtain⟨d,b,rfl,l⟩:=cH m;exact⟨d,b,h,l.files,g⟩
theorem dp(d:nV fs)(f:op.K≠1)(g:kI fs op.N (fC op.N fs)=dA):∃(e:fC op.N fs<vA fs)(b:cB),fs[fC op.N fs]=b/\vF op.N fs 0=(fC op.N fs:Int)/\
 uP fs c op=if op.K=2 then(if c<rC fs+op.data.size then(3,fs) else(0,uH fs ⟨b.N,b.data++op.data,b.Y⟩)) else if op.K=3 then(0,uH fs ⟨b.N,b.data,b.data.size⟩)
  else if op.K=4 then(if wB op.size 0 b.data.size=dA then(0,uH fs ⟨b.N,b.data.extract 0 op.size.toNat,op.size⟩) else(6,fs)) else if op.K=5 then(0,uH (pD fs op.N) ⟨op.tq,b.data,b.Y⟩) else(0,pD fs op.N):=by grind [nV,kI,fC,vF,uP,rC,uH,wB,pD,PH,VT,SH,rK,YG,bW]
end
theorem aTz(w:eA)(a:iC)(cap:Nat)(fs:List cB)(c k cr fl:Int)(dn:Bool)(op:vK)(h:XK w a fs c op)(B:op.K=1\/op.K≠1/\kI fs op.N (fC op.N fs)=cA):VW w a cap fs c k cr fl dn op:=by
 unfold VW;have d:∃x,vF op.N fs 0=x/\(op.K=1/\(x=(fC op.N fs:Int)/\uP fs c op=(5,fs)\/x = -1/\((vA fs:Int)=1000/\uP fs c op=(3,fs)\/¬(vA fs:Int)=1000/\uP fs c op=(0,uH fs ⟨op.N,kA,0⟩)))\/(op.K==1)=cA/\x = -1/\uP fs c op=(4,fs)):=by
  refine⟨_,SH h.asc (rK op.N h.asc),?_⟩;rcases B with g|⟨g,i⟩
  .cases i:kI fs op.N (fC op.N fs)
   .refine Ca ⟨g,La ⟨by simp,?_⟩⟩;have:=h.len;by_cases v:vA fs=1000
    .exact Ca ⟨by omega,by simp[uP,g,i,v]⟩
    refine La ⟨by omega,?_⟩;rw[VS (f:=⟨op.N,kA,0⟩) h.asc i];simp only[uP,Ma g,i,Bd,Cf];rw[Ja (by omega)]
   exact Ca ⟨g,Ca ⟨by simp,by simp[uP,g,i]⟩⟩
  exact La ⟨by simpa using g,by simp[i],MN g i⟩
 obtain⟨x,r,d⟩:=d;have A:=yA h.files;have m:=yA r;have D:=h.len;have y:vA fs<=maxLen:=by simp[maxLen];omega
 obtain⟨I,G,L,F,sz⟩:=op;clear h B r;dsimp only at d m |-
 rcases d with⟨rfl,⟨rfl,j⟩|⟨rfl,⟨v,j⟩|⟨v,j⟩⟩⟩|⟨g,rfl,j⟩
 all_goals
  have j:=yA j;go_enter func112,ntmps112;go_wp2_with fail;apply aC (BU m.o _ ((A.o.z vB).z vB) y);intro M o;obtain⟨q,s,b⟩:=CL o;have z:=yA b;have l:=yA (A.o.z b);obtain⟨J,K,-⟩:=s.c5;obtain⟨H,-⟩:=q.c6;clear o q s b;go_wp2_with(go_at_call 158;refine(jq ⟨G,kA,0⟩ l.o (by omega)).mono ?_;rintro e N ⟨E,n,rfl,C,p⟩;have u:=yA C;have t:=yA (oB z.o p);clear C p);go_ret2;rw[j.o];first
   |exact⟨a,cap,rfl,l.o,z.o⟩
   |exact⟨E,n,rfl,u.o,t.o⟩
theorem aJe(w:eA)(a:iC)(cap:Nat)(fs:List cB)(c k cr fl:Int)(dn:Bool)(op:vK)(h:XK w a fs c op)(f:op.K=3\/op.K=4\/op.K=6)(N:kI fs op.N (fC op.N fs)=dA):VW w a cap fs c k cr fl dn op:=by
 unfold VW;obtain⟨L,d,A,z,p⟩:=dp (c:=c) h.asc (by omega) N;have x:op.K=3/\uP fs c op=(0,uH fs ⟨d.N,d.data,d.data.size⟩)\/op.K=4/\(wB op.size 0 d.data.size=cA/\uP fs c op=(6,fs)\/wB op.size 0 d.data.size=dA/\(0<=op.size/\op.size<=d.data.size)/\uP fs c op=(0,uH fs ⟨d.N,d.data.extract 0 op.size.toNat,op.size⟩))\/op.K=6/\uP fs c op=(0,pD fs op.N):=by
  rcases f with f|f|f;exact Ca ⟨f,by rw[p];simp[f]⟩
  .refine La (Ca ⟨f,?_⟩);cases B:wB op.size 0 d.data.size
   .exact Ca ⟨rfl,by rw[p];simp[f,B]⟩
   exact La ⟨rfl,by simpa[wB]using B,by rw[p];simp[f,B]⟩
  exact La (La ⟨f,by rw[p];simp[f]⟩)
 have I:=yA h.files;have s:=yA z;have M:=h.len;have H:vA fs<=maxLen:=by simp[maxLen];omega
 have t:=yA A;obtain⟨kd,V,tq,R,sz⟩:=op;clear h f z N p A;dsimp only at x s t L |-
 rcases x with⟨rfl,m⟩|⟨rfl,⟨B,m⟩|⟨B,⟨T,U⟩,m⟩⟩|⟨rfl,m⟩
 all_goals
  have m:=yA m;go_enter func112,ntmps112;go_wp2_with fail;apply aC (BU s.o _ ((I.o.z vB).z vB) H);intro C v;obtain⟨y,n,i⟩:=CL v;have D:=yA i;have j:=yA (I.o.z i);have Y:=n.c5;obtain⟨Z,-⟩:=y.c6;obtain⟨b,o,rfl,hb,O,P,Q⟩:=j.o.at L;rw[t.o]at O P Q;have S:=zA n;have K:w.1.size<C.1.size:=by omega
  try have F:=yA (fun W(G:kB C W)=>aQk (cap:=cap) m.o (j.o.z G) (by omega))
  have E:=yA (fun W(G:kB C W)=>bj (cap:=cap) V (j.o.z G) (by omega));clear v y n i;go_wp2_with(first
   |(go_at_call 48;refine aC (bE (by assumption) _) ?_;rintro w3 rfl)
   |(go_at_call 158;refine(F.o _ vB).mono ?_;rintro e X ⟨J,l,rfl,u,g⟩;have r:=yA u;have q:=yA (oB D.o (oB vB g));clear u g)
   |(go_at_call 159;refine(E.o _ vB).mono ?_;rintro e X ⟨J,l,rfl,u,g⟩;have r:=yA u;have q:=yA (oB D.o (oB vB g));clear u g))
  go_ret2;rw[m.o];first
   |exact⟨J,l,rfl,r.o,q.o⟩
   |exact⟨_,cap,rfl,j.o.z vB,oB D.o vB⟩
theorem aEe(w:eA)(a:iC)(z:Nat)(f:List cB)(c k cr fl:Int)(dn:Bool)(s:vK)(h:XK w a f c s)(hk:s.K=2)(hq:kI f s.N (fC s.N f)=dA):VW w a z f c k cr fl dn s:=by
 unfold VW;obtain⟨hi,d,q,E,G⟩:=dp (c:=c) h.asc (by omega) hq;rw[Ma hk]at G;have S:=yA h.files;have M:=yA E;obtain⟨-,-,hlen,hsum,a0,b0⟩:=h;have F:vA f<=maxLen:=by simp[maxLen];omega
 have R:rC f<=1000000000:=by omega
 have hdz:d.data.size<=1000000000:=by
  have h1:=gI f _ hi;have h2:=oH f (fC s.N f+1);rw[q]at h1;omega
 have N:=yA q;obtain⟨kd,nm,tq,g,sz⟩:=s;dsimp only at *;subst hk;have P:c<(rC f:Int)+(g.size:Int)/\uP f c ⟨2,nm,tq,g,sz⟩=(3,f)\/¬c<(rC f:Int)+(g.size:Int)/\uP f c ⟨2,nm,tq,g,sz⟩=(0,uH f ⟨d.N,d.data++g,d.Y⟩):=by
  by_cases h:c<(rC f:Int)+(g.size:Int)
  .exact Ca ⟨h,by rw[G,Ma h]⟩
  exact La ⟨h,by rw[G,Ja h]⟩
 clear E hq G q;go_enter func112,ntmps112;go_wp2_with fail;apply aC (BU M.o _ ((S.o.z vB).z vB) F);intro m B;obtain⟨n,l,i⟩:=CL B;have K:=yA n;have O:=yA l;have I:=yA i;have u:=yA (S.o.z i);obtain⟨o0,o1,o2,o3,o4⟩:=l.c5;obtain⟨Y,-⟩:=n.c6;obtain⟨b,o,rfl,hb,U,V,X⟩:=u.o.at hi;rw[N.o]at U V X;have hdl:=zA l;clear B n l i;go_wp2_with fail;have j:kB m (m.alloc (tA #[nA d.N,nA d.data,lA mA d.Y] 149)):=vB;have D:iB (m.alloc (tA #[nA d.N,nA d.data,lA mA d.Y] 149)) m.1.size #[nA d.N,nA d.data,lA mA d.Y] 149:=heap_alloc_new _ _;generalize m.alloc (tA #[nA d.N,nA d.data,lA mA d.Y] 149)=T at *;have v:=yA (fun x:tB T=>(⟨(u.o.z j).z x.h,iB.z (iB.z K.o j) x.h,iB.z (iB.z O.o j) x.h,D.z x.h,oB (oB I.o j) x.h⟩:eB x.w' _ f/\iB x.w' _ _ _/\iB x.w' _ _ _/\iB x.w' _ _ _/\kB w x.w'));have p:=fun x=>(v.o x).2.1.c6;have po:=fun x=>(v.o x).2.2.1.c5.2.2.2.1;simp only[forall_and]at p;obtain⟨p0,p1,p2,p3,p4,p5⟩:=p;have Q:=tB.there T;clear D j U V X o0 o1 o2 o3 o4 Y;rcases P with⟨r,H⟩|⟨r,H⟩
 all_goals
  have H:=yA H;refine jB (by kernel_rfl) (by kernel_rfl) ?_;repeat (go_big_quiet_step (first|(go_at_call 157;exact xB (AM _ _ _ _ _ _ _ _ _ (v.o _).1 F R))))
  refine wpQuiet_nil ?_;rintro _ ⟨y,rfl⟩;have t:=yA (v.o y);have Y:=p0 y;have o3:=po y;clear p0 p1 p2 p3 p4 p5 po Q v;generalize y.w'=W at *;clear y;obtain⟨q0,q1,q2⟩:=t.o.2.2.2.1.c3;have r1:=t.o.2.2.2.1.free;go_wp2_with(go_at_call 158;refine(jq ⟨d.N,d.data++g,d.Y⟩ (t.o.1.setCell (by show m.1.size≠b;omega) _) (by omega)).mono ?_;rintro e w5 ⟨a5,A,rfl,Z,C⟩;have L:=yA Z;have J:=yA (oB (t.o.2.2.2.2.setCell (by show w.1.size<=m.1.size;omega) _) C);clear Z C);go_ret2;rw[H.o];first
   |exact⟨a5,A,rfl,L.o,J.o⟩
   |exact⟨_,z,rfl,t.o.1,t.o.2.2.2.2⟩
theorem aEf(w:eA)(a:iC)(m:Nat)(g:List cB)(c k cr fl:Int)(dn:Bool)(s:vK)(h:XK w a g c s)(hk:s.K=5)(Z:kI g s.N (fC s.N g)=dA):VW w a m g c k cr fl dn s:=by
 unfold VW;obtain⟨hi,d,B,A,P⟩:=dp (c:=c) h.asc (by omega) Z;have Q:=yA h.files;have G:=yA A;have Y:=h.len;have N:vA g<=maxLen:=by simp[maxLen];omega
 have H:=yA B;obtain⟨kd,r,q,L,sz⟩:=s;dsimp only at *;subst hk;have EQ:xA (uP g c ⟨5,r,q,L,sz⟩=(0,uH (pD g r) ⟨q,d.data,d.Y⟩)):=by show _=_;rw[P];simp
 clear h A Z P B;go_enter func112,ntmps112;go_wp2_with fail;apply aC (BU G.o _ ((Q.o.z vB).z vB) N);intro l x;obtain⟨n,j,f⟩:=CL x;have D:=yA n;have J:=yA j;have C:=yA f;have u:=yA (Q.o.z f);have O:=j.c5;obtain⟨d0,-⟩:=n.c6;obtain⟨b,o,rfl,hb,R,S,T⟩:=u.o.at hi;rw[H.o]at R S T;have hdl:=zA j;have z:vA (pD g r)<=1048576:=by have:=lU g r;omega
 have K:=yA (fun W(hW:kB l W)=>bj (cap:=m) r (u.o.z hW) (by omega));clear x n j f;generalize pD g r=es at *;go_wp2_with fail;have i:kB l (l.alloc (tA #[nA q,nA d.data,lA mA d.Y] 149)):=vB;have p:iB (l.alloc (tA #[nA q,nA d.data,lA mA d.Y] 149)) l.1.size #[nA q,nA d.data,lA mA d.Y] 149:=heap_alloc_new _ _;generalize l.alloc (tA #[nA q,nA d.data,lA mA d.Y] 149)=W2 at *;have t:=yA i;have I:=yA p;obtain⟨e0,-⟩:=(iB.z D.o i).c6;obtain⟨-,e1,-⟩:=(iB.z J.o i).c5;obtain⟨g0,g1,g2⟩:=p.c3;clear p i R S T d0 O;go_region_with (first
  |(go_at_call 159;refine(K.o _ (oB t.o eD.drew)).mono ?_;rintro e w5 ⟨a5,U,rfl,V,y⟩;have E:=yA V;obtain⟨k0,k1,k2⟩:=(I.o.z (oB eD.drew y)).c3)
  |(go_at_call 158;refine(jq ⟨q,d.data,d.Y⟩ E.o z).mono ?_;rintro e w6 ⟨a6,v,rfl,X,M⟩;have F:=yA X))
 all_goals
  clear X V;go_wp2;go_ret2;rw[EQ.o];exact⟨a6,v,rfl,F.o,oB (oB C.o t.o) (oB (oB eD.drew y) M)⟩
def aJx(w:eA)(a:iC)(b:Nat)(e:List cB)(c k f i:Int)(g:Bool)(d:vK)(h:XK w a e c d)(j:wB d.K 1 6=dA):VW w a b e c k f i g d:=by grind [wB,VW,kI,fC,aTz,aEe,aEf,aJe]
def oO(a:List vK):List iA:=a.flatMap fun o=>[lA mA o.K,nA o.N,nA o.tq,nA o.data,lA mA o.size]
def aEp:∀(l:List vK)(i:Nat)(a:i<vA l),(oO l)[i*5]?=bA (lA mA l[i].K)/\(oO l)[i*5+1]?=bA (nA l[i].N)/\(oO l)[i*5+2]?=bA (nA l[i].tq)/\(oO l)[i*5+3]?=bA (nA l[i].data)/\(oO l)[i*5+4]?=bA (lA mA l[i].size):=by
 intro l;unfold oO;induction l with
 |nil=>intro i a;exact absurd a (by simp)
 |cons x r b=>
  intro i a;cases i with
  |zero=>simp
  |succ i=>
   have:=b i (by simpa using a);simp only[Xc,Sd,Mb,Ec];have e:∀k,(i+1)*5+k=i*5+k+1+1+1+1+1:=fun k=>by omega
   refine⟨?_,?_,?_,?_,?_⟩;rw[show(i+1)*5=i*5+1+1+1+1+1 by omega];simpa only[Ga]using this.1;rw[e];simpa only[Ga]using this.2.1;rw[e];simpa only[Ga]using this.2.2.1;rw[e];simpa only[Ga]using this.2.2.2.1;rw[e];simpa only[Ga]using this.2.2.2.2
def aUf{w:eA}{g:Nat}{l:List vK}(h:∀j u,(oO l)[j]?=bA u->w.cell? ⟨g,j,aA⟩=bA u)(i:Nat)(f:i<vA l):
 w.cell? ⟨g,i*5,aA⟩=bA (lA mA l[i].K)/\w.cell? ⟨g,i*5+1,aA⟩=bA (nA l[i].N)/\w.cell? ⟨g,i*5+2,aA⟩=bA (nA l[i].tq)/\w.cell? ⟨g,i*5+3,aA⟩=bA (nA l[i].data)/\w.cell? ⟨g,i*5+4,aA⟩=bA (lA mA l[i].size):=by
 obtain⟨a,b,c,d,e⟩:=aEp l i f;exact⟨h _ _ a,h _ _ b,h _ _ c,h _ _ d,h _ _ e⟩
def aSk{w:eA}{g:Nat}{l:List vK}{t:TypeId}(h:iB w g (oO l).toArray t):∀j u,(oO l)[j]?=bA u->w.cell? ⟨g,j,aA⟩=bA u:=fun j u a=>by
 rw[h.cell];simpa using a
section
open Go.ChangeShapes Go.WideShapes Go.ChangeAt Go.Deep
def kT:prog.cellsOf 3=1:=by kernel_rfl
def JU{n:Int}(h:(Lit.int mA n).wf=dA):nU n:=by
 simp only[Lit.wf,Sa,Ab]at h;exact h
def EF:prog.cellsOf 9=1:=by kernel_rfl
def XU:prog.cellsOf 175=4:=by kernel_rfl
def aDh:prog.cellsOf 172=1:=by kernel_rfl
def aDi:prog.cellsOf 173=1:=by kernel_rfl
def vn:prog.cellsOf 29=1:=by kernel_rfl
def aDj:prog.cellsOf 31=2:=by kernel_rfl
section
variable {H:Type} {enc:TypeId×iA→H} {W:eA}
theorem lj:prog.cellsOf 264=2:=by kernel_rfl
theorem aBw{a:Nat}{cs:List iA}{x:DataW H×List MemPlace}(h:DataW.trod enc prog W 0 (fun _=>dA) dA a 264 cs=bA x):
 ∃f:dB,cs=[nA f.s,lA mA f.n]/\f.s.size<=maxLen/\nU f.n:=by
 obtain⟨p,q,n,_,i,e,g⟩:=trod_struct2 underlying264 h;rw[lj]at i;match cs,i with
 |[m,o],_=>
  simp[EF,kT]at e g;obtain⟨k,c,_,l⟩:=DataW.trod_string underlying9 e;obtain⟨j,d,_,b⟩:=DataW.trod_int underlying3 g;simp at c d;exact⟨⟨k,j⟩,by simp[c,d],l,JU b⟩
theorem aLc{r:Nat}{v:Value}{x:DataW H×List MemPlace}(h:DataW.trod enc prog W 0 (fun _=>true) true r 172 [v]=some x):
 ∃(a:Option Addr)(j:Nat)(q:List dB),v=.slice a q.length j/\yB W a q/\KB q/\QF q/\q.length<=maxLen:=by
 rcases open_slice underlying172 h with⟨t,_⟩|⟨a,len,j,m,n,D,N,t,_,O,P,E,_,G⟩
 .simp at t;exact⟨none,0,[],by simpa using t,Ca rfl,fun i h=>absurd h (by simp),fun i h=>absurd h (by simp),by simp⟩
 .simp at t;simp only[Td]at E;have J:Inhabited dB:=⟨⟨ByteArray.empty,0⟩⟩
  obtain⟨b,o,g⟩:=a;rw[lj]at G;have u:0<len->g=none:=fun I=>by
   obtain⟨z,A,B⟩:=G 0 (by omega);obtain⟨f,rfl,_⟩:=aBw B;obtain⟨_,_,c⟩:=World.cells?_some A;have d:=c 0 (by omega);simp only[Ob]at d;have:=World.cell?_spot d;simpa[Addr.add]using this
  obtain⟨F,y⟩:=choose_lt (α:=dB) (n:=len) (p:=fun i f=>W.cell? ⟨b,o+i*2,none⟩=some (.string f.s)/\
   W.cell? ⟨b,o+i*2+1,none⟩=some (.int .i64 f.n)/\f.s.size<=maxLen/\nU f.n) (fun i e=>by
   obtain⟨z,A,B⟩:=G i (by omega);obtain⟨f,rfl,w⟩:=aBw B;obtain⟨_,_,c⟩:=World.cells?_some A;have l:=u (by omega);subst l;refine⟨f,?_,?_,w⟩
   .simpa[add_plain]using c 0 (by omega)
   .simpa[add_plain]using c 1 (by omega))
  refine⟨some ⟨b,o,g⟩,j,(List.range len).map F,by simp[t],?_,?_,?_,by simp;omega⟩
  .by_cases I:len=0
   .subst I;exact Ca rfl
   .have K:=u (by omega);subst K;have k:b<W.1.size:=by
     have d:=(y 0 (by omega)).1;rcases Gc b W.1.size with k|C
     .exact k
     .simp[World.cell?,Mc C]at d
    refine La ⟨b,o,rfl,k,fun i e=>?_⟩;simp only[Xa,Zc]at e;obtain⟨L,M,_⟩:=y i e;simpa using ⟨L,M⟩
  .intro i e;simp only[Xa,Zc]at e;obtain⟨_,_,w,_⟩:=y i e;simpa using w
  .intro i e;simp only[Xa,Zc]at e;obtain⟨_,_,_,w⟩:=y i e;simpa using w
theorem ln:prog.cellsOf 266=2:=by kernel_rfl
theorem aBx{a:Nat}{cs:List iA}{x:DataW H×List MemPlace}(h:DataW.trod enc prog W 0 (fun _=>dA) dA a 266 cs=bA x):
 ∃f:dB,cs=[nA f.s,lA mA f.n]/\f.s.size<=maxLen/\nU f.n:=by
 obtain⟨p,q,n,_,i,e,g⟩:=trod_struct2 underlying266 h;rw[ln]at i;match cs,i with
 |[m,o],_=>
  simp[EF,kT]at e g;obtain⟨k,c,_,l⟩:=DataW.trod_string underlying9 e;obtain⟨j,d,_,b⟩:=DataW.trod_int underlying3 g;simp at c d;exact⟨⟨k,j⟩,by simp[c,d],l,JU b⟩
theorem aLd{r:Nat}{v:Value}{x:DataW H×List MemPlace}(h:DataW.trod enc prog W 0 (fun _=>true) true r 173 [v]=some x):
 ∃(a:Option Addr)(j:Nat)(q:List dB),v=.slice a q.length j/\yB W a q/\KB q/\QF q/\q.length<=maxLen:=by
 rcases open_slice underlying173 h with⟨t,_⟩|⟨a,len,j,m,n,D,N,t,_,O,P,E,_,G⟩
 .simp at t;exact⟨none,0,[],by simpa using t,Ca rfl,fun i h=>absurd h (by simp),fun i h=>absurd h (by simp),by simp⟩
 .simp at t;simp only[Td]at E;have J:Inhabited dB:=⟨⟨ByteArray.empty,0⟩⟩
  obtain⟨b,o,g⟩:=a;rw[ln]at G;have u:0<len->g=none:=fun I=>by
   obtain⟨z,A,B⟩:=G 0 (by omega);obtain⟨f,rfl,_⟩:=aBx B;obtain⟨_,_,c⟩:=World.cells?_some A;have d:=c 0 (by omega);simp only[Ob]at d;have:=World.cell?_spot d;simpa[Addr.add]using this
  obtain⟨F,y⟩:=choose_lt (α:=dB) (n:=len) (p:=fun i f=>W.cell? ⟨b,o+i*2,none⟩=some (.string f.s)/\
   W.cell? ⟨b,o+i*2+1,none⟩=some (.int .i64 f.n)/\f.s.size<=maxLen/\nU f.n) (fun i e=>by
   obtain⟨z,A,B⟩:=G i (by omega);obtain⟨f,rfl,w⟩:=aBx B;obtain⟨_,_,c⟩:=World.cells?_some A;have l:=u (by omega);subst l;refine⟨f,?_,?_,w⟩
   .simpa[add_plain]using c 0 (by omega)
   .simpa[add_plain]using c 1 (by omega))
  refine⟨some ⟨b,o,g⟩,j,(List.range len).map F,by simp[t],?_,?_,?_,by simp;omega⟩
  .by_cases I:len=0
   .subst I;exact Ca rfl
   .have K:=u (by omega);subst K;have k:b<W.1.size:=by
     have d:=(y 0 (by omega)).1;rcases Gc b W.1.size with k|C
     .exact k
     .simp[World.cell?,Mc C]at d
    refine La ⟨b,o,rfl,k,fun i e=>?_⟩;simp only[Xa,Zc]at e;obtain⟨L,M,_⟩:=y i e;simpa using ⟨L,M⟩
  .intro i e;simp only[Xa,Zc]at e;obtain⟨_,_,w,_⟩:=y i e;simpa using w
  .intro i e;simp only[Xa,Zc]at e;obtain⟨_,_,_,w⟩:=y i e;simpa using w
theorem qr{d:Nat}{cs:List iA}{x:DataW H×List MemPlace}(h:DataW.trod enc prog W 0 (fun _=>dA) dA d 175 cs=bA x):
 ∃(t:aB)(i f:iC)(j k:Nat),cs=[nA t.N,lA mA t.L,oA i (vA t.M) j,oA f (vA t.Z) k]/\yB W i t.M/\yB W f t.Z/\GH t/\(nU t.L/\QF t.M/\QF t.Z):=by
 obtain⟨L,n,_,_,s,e,c⟩:=DataW.trod_struct underlying175 h;rw[XU]at s;match cs,s with
 |[N,j,k,O],_=>
  match L,e with
  |[P,Q,R,S],_=>
   have o:=c 0 _ rfl;have p:=c 1 _ rfl;have q:=c 2 _ rfl;have r:=c 3 _ rfl;simp[EF,kT,aDh,aDi]at o p q r;obtain⟨I,l,_,M⟩:=DataW.trod_string underlying9 o;obtain⟨A,m,_,g⟩:=DataW.trod_int underlying3 p;obtain⟨f,B,a,v,F,J,y,D⟩:=aLc q;obtain⟨u,C,b,w,G,K,z,E⟩:=aLd r;simp at l m;exact⟨⟨I,A,a,b⟩,f,u,B,C,by simp[l,m,v,w],F,G,⟨M,J,D,K,E⟩,JU g,y,z⟩
theorem aGr{l:Nat}{v:Value}{x:DataW H×List MemPlace}(h:DataW.trod enc prog W 0 (fun _=>true) true l 29 [v]=some x):
 ∃(a:Option Addr)(g:Nat)(k:List aB),v=.slice a k.length g/\nC W a k/\DW k/\jz k/\k.length<=maxLen:=by
 rcases open_slice underlying29 h with⟨q,_⟩|⟨a,len,g,m,n,D,R,q,_,S,T,C,_,E⟩
 .simp at q;exact⟨none,0,[],by simpa using q,Ca rfl,fun i h=>absurd h (by simp),fun i h=>absurd h (by simp),by simp⟩
 .simp at q;simp only[Td]at C;have N:Inhabited aB:=⟨⟨ByteArray.empty,0,[],[]⟩⟩
  obtain⟨b,o,d⟩:=a;rw[XU]at E;have s:0<len->d=none:=fun G=>by
   obtain⟨u,w,y⟩:=E 0 (by omega);obtain⟨f,_,_,_,_,rfl,_⟩:=qr y;obtain⟨_,_,c⟩:=World.cells?_some w;have r:=c 0 (by omega);simp only[Ob]at r;have:=World.cell?_spot r;simpa[Addr.add]using this
  obtain⟨F,t⟩:=choose_lt (α:=aB) (n:=len) (p:=fun i f=>(d=none->QI W b (o+i*4) f)/\(GH f/\(nU f.L/\QF f.M/\QF f.Z))/\(d=none->b<W.1.size)) (fun i e=>by
   obtain⟨u,w,y⟩:=E i (by omega);obtain⟨f,J,K,L,M,rfl,P,Q,z⟩:=qr y;obtain⟨_,_,c⟩:=World.cells?_some w;have j:=s (by omega);subst j;have I:W.cell? ⟨b,o+i*4,none⟩=some (.string f.N):=by simpa[add_plain]using c 0 (by omega)
   refine⟨f,fun _=>⟨J,L,K,M,I,?_,?_,?_,P,Q⟩,z,fun _=>?_⟩
   .simpa[add_plain]using c 1 (by omega)
   .simpa[add_plain]using c 2 (by omega)
   .simpa[add_plain]using c 3 (by omega)
   .rcases Gc b W.1.size with B|A
    .exact B
    .simp[World.cell?,Mc A]at I)
  refine⟨some ⟨b,o,d⟩,g,(List.range len).map F,by simp[q],?_,?_,?_,by simp;omega⟩
  .by_cases G:len=0
   .subst G;exact Ca rfl
   .have O:=s (by omega);subst O;refine La ⟨b,o,rfl,(t 0 (by omega)).2.2 rfl,fun i e=>?_⟩;simp only[Xa,Zc]at e;have:=(t i e).1 rfl;simpa using this
  .intro i e;simp only[Xa,Zc]at e;have:=(t i e).2.1.1;simpa using this
  .intro i e;simp only[Xa,Zc]at e;have:=(t i e).2.1.2;simpa using this
end
end
