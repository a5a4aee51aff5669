import Derived.Test.YtbfnhppoecdnoaaGreatDoorJ41
import Derived.Deep.RegionHeldLaw
set_option maxRecDepth 100000
set_option maxHeartbeats 8000000
set_option linter.defProp false
open Bool renaming false->cA,true->dA
open Option renaming none->aA,some->bA
open List renaming length->vA
namespace Go.Proofs.YtbfnhppoecdnoaaGreatDoor
open Go renaming World->eA,Calls->gA,Value->iA
open Value renaming int->lA,string->nA,pointer->qA,slice->oA
open IntKind renaming i64->mA
open Obj renaming cells->tA
open Ending renaming returned->sA
open Go.RowKit Tryz
section
open Go.Maps
attribute [local go_sem] zG tH cO iB.drewI fO.drewI fO.new fO.alloc fO.alloc2
def qE(n:Int)(w:eA)(b : -9223372036854775808<=n)(c:n<=9223372036854775807):qD 17 #[lA mA n] w (nA (pB 1 n)):=by
 have H:=yA (fun W=>lD 1 n W (by omega) b c);go_enter func17,ntmps17;go_wp2_with fail;apply aC (H.o _);intro f a;replace a:=yA a;go_wp2;go_ret;exact⟨rfl,a.o⟩
def uN(N:oC)(a:Int)(b:gB):gB:=if a=0 then b else if a=22\/a=23\/a=21\/a=62 then pB 1 2 else if N.up=cA then pB 1 4 else pB 1 3
def aSa{N:oC}{code:Int}{reply:gB}:(code==0)=dA/\uN N code reply=reply\/(code==0)=cA/\(((code==22)=dA\/(code==22)=cA/\((code==23)=dA\/(code==23)=cA/\((code==21)=dA\/(code==21)=cA/\(code==62)=dA)))/\uN N code reply=pB 1 2\/(code==22)=cA/\(code==23)=cA/\(code==21)=cA/\(code==62)=cA/\(N.up=cA/\uN N code reply=pB 1 4\/N.up=dA/\uN N code reply=pB 1 3)):=by
 unfold uN;by_cases a:code=0
 .exact Ca ⟨by simpa using a,Ma a⟩
 refine La ⟨by simpa using a,?_⟩;rw[Ja a];by_cases b:code=22\/code=23\/code=21\/code=62
 .exact Ca ⟨by rcases b with h|h|h|h<;>simp[h],Ma b⟩
 refine La ⟨by simp;omega,by simp;omega,by simp;omega,by simp;omega,?_⟩;rw[Ja b];cases N.up
 .exact Ca ⟨rfl,Ma rfl⟩
 exact La ⟨rfl,Ja (by simp)⟩
def eY(a b:iC)(g i:Nat)(N:oC)(f:Int)(c:gB)(w:eA)(r:eB w a N.d.fs)(s:nC w b N.ts):
 gA prog 23 #[.agg (dC a g b i N),lA mA f,nA c] w fun e j=>SaV N (nA (uN N f c)) w e j:=by
 have l:=yA r;have n:=yA s;have d:=aSa (N:=N) (code:=f) (reply:=c);clear r s;generalize uN N f c=V at *;have E:=jP;rcases d with⟨v,rfl⟩|⟨v,⟨o|⟨o,p|⟨p,q|⟨q,x⟩⟩⟩,rfl⟩|⟨o,p,q,x,⟨t,rfl⟩|⟨t,rfl⟩⟩⟩
 all_goals
  have A:=tF a g b i N 43;have y:=iF a g b i N;(try rw[t]at A y);have X:=yA ((iB.new w (dC a g b i N) 43).alloc (tA (dC aA 0 aA 0 qK) 43));have R:=iB.new (w.alloc (tA (dC a g b i N) 43)) (dC aA 0 aA 0 qK) 43;rw[eA.size_alloc]at R;replace R:=yA R;have B:=yA (oB (yG w (tA (dC a g b i N) 43)) (yG _ (tA (dC aA 0 aA 0 qK) 43)));go_enter func23,ntmps23;go_upto_region 1 with fail;generalize (w.alloc (tA (dC a g b i N) 43)).alloc (tA (dC aA 0 aA 0 qK) 43)=W at *;have F:=X.o;have G:=R.o.box rfl;have m:=yA (fun j(h:kB W j)=>X.o.z h);have u:=yA (fun j(h:kB W j)=>((sI j (w.1.size+1) (dC a g b i N)).blk (X.o.z h) (by omega):iB _ w.1.size _ _));go_wp2
 all_goals first
  |exact iV rfl rfl rfl rfl R.o (bH _ _ _ _ _) (by omega) B.o (l.o.z B.o) (n.o.z B.o)
  |skip
 all_goals
  go_region_held3 (fun j=>iB j w.1.size (dC a g b i N) 43)
   (first|with_reducible exact m.o _ k|with_reducible exact m.o _ eD.drew|exact u.o _ k)
   (first|(go_at_call 17;refine aC (qE _ _ (by omega) (by omega)) ?_;intro C z;have k:kB W C:=(by with_reducible exact oB eD.drew z);have D:=(R.o.z k).box rfl))
  replace B:=yA (oB B.o k);go_wp2;exact iV rfl rfl rfl rfl (R.o.z k) (bH _ _ _ _ _) (by omega) B.o (l.o.z B.o) (n.o.z B.o)
end
section
open Go.Maps Go.Sort
def py{x y:gB}(h:aK x y=dA):x.data.toList<=y.data.toList:=by
 unfold aK at h;rw[bytesLess_eq,Af,ByteArray.toList_eq,ByteArray.toList_eq]at h;exact List.le_of_lt h
def LR{α:Type}{key:α->gB}{L:List α}(j:wC key L){k:List (List UInt8)}(i:k.Perm (L.map fun p=>(key p).data.toList)):
 (k.mergeSort (fun x y=>decide (x<=y)))=L.map fun p=>(key p).data.toList:=by
 have e:=(List.mergeSort_perm k (fun x y=>decide (x<=y))).trans i;have f:(k.mergeSort (fun x y=>decide (x<=y))).Pairwise (fun a b=>a<=b):=by
  have:=List.pairwise_mergeSort (le:=fun(x y:List UInt8)=>decide (x<=y)) (fun a b c h d=>by simp only[Af]at *;exact List.le_trans h d) (fun a b=>by simp only[Fe,Af];exact List.le_total a b) k;simpa using this
 have g:(L.map fun p=>(key p).data.toList).Pairwise (fun a b=>a<=b):=Te.2 (j.imp fun h=>py h);exact Qf (le:=fun a b=>a<=b) (fun a b _ _ h d=>List.le_antisymm h d) f g e
def RS{α:Type}(key:α->gB)(L:List α):(L.map fun p=>(key p).data.toList).map encStr=L.map fun p=>iA.string (key p):=by
 rw[Vd];exact Ge fun p _=>by simp[encStr]
def JG{w:eA}{B c:Nat}{e:TypeId}{size:Nat}{v:iA}{n:Nat}{d:List iA}(h:w.ownsRow B e size v n d)(k:c<=B):w.ownsRow c e size v n d:=by
 refine⟨h.1,?_⟩;rcases h.2 with f|⟨g,a,b,i,j,r⟩;exact Ca f;exact La ⟨g,a,b,i,Ua k j,r⟩
def aJu(x:Nat)(t:aB)(S:Nat->Prop)(M:Nat)(w:eA)(h:uD w S x t M)(z:vA t.Z<=1000000000):
 gA prog 192 #[qA (bA ⟨x,0,aA⟩)] w fun e c=>∃v,e=sA v/\c.ownsRow w.1.size 9 1 v (vA t.Z) (t.Z.map fun p=>nA p.s)/\kB w c:=by
 obtain⟨C,d,y,B,Q,A,D,h⟩:=h;have u:cC w x 2 (.map (bA d)):=h.blk.cell 2;have j:vA Q=vA t.Z:=by rw[<-h.q1,Xa]
 have b:Maps.size (eE (Q.map fun q=>(q.1.s,eF q.2)))=vA t.Z:=by rw[kN,j]
 have l:xA (gA prog 230 #[.map (bA d)] w fun e c=>e=sA (.func (.func 269) #[] #[qA (bA ⟨w.1.size,0,aA⟩)])/\c=w.alloc (tA #[.map (bA d)] 227)):=callsIn_wide.1 (maps_Keys_230 (bA d) w);have n:xA (gA prog 190 #[.func (.func 269) #[] #[qA (bA ⟨w.1.size,0,aA⟩)]] (w.alloc (tA #[.map (bA d)] 227)) fun e c=>∃v,e=sA v/\c.ownsRow w.1.size 9 1 v (vA t.Z) (t.Z.map fun p=>nA p.s)/\kB w c):=by
  refine gA.mono (callsIn_wide.1 (slices_Sorted_keys_190_230 d _ _ oE w h.Z (by rw[b];unfold maxLen;omega) (by rw[b];omega))) ?_;rintro e r ⟨v,m,rfl,i,a,_,g⟩;have o:(strKeys (eE (Q.map fun q=>(q.1.s,eF q.2))))=t.Z.map fun p=>p.s.data.toList:=by
   rw[zV,Vd,<-h.q1,Vd];rfl
  rw[o]at i;have f:vA m=vA t.Z:=by rw[i.length_eq,Xa]
  rw[LR (key:=fun p:dB=>p.s) h.rs i,RS (fun p:dB=>p.s),f]at a;exact⟨v,rfl,JG a (by simp),oB vB g⟩
 clear h j b;go_enter func192,ntmps192;go_wp2_with fail;apply aC l.o;rintro r rfl;go_wp2_with fail;refine n.o.mono ?_;rintro e E ⟨v,rfl,a,g⟩;have m:=yA a;have k:=yA g;clear a g;go_wp2;go_ret;exact⟨v,rfl,m.o,k.o⟩
end
section
open Go.Maps Go.Sort
def sd(g:Nat)(a:List dB)(w:eA)(h:w.ownsMap prog 9 (plainElem prog 3) g (vA a) (eE (a.map fun p=>(p.s,xI p.n))))(l:wC (·.s) a)(m:vA a<=1000000000):
 gA prog 190 #[.func (.func 229) #[] #[qA (bA ⟨w.1.size,0,aA⟩)]] (w.alloc (tA #[.map (bA g)] 226)) fun e i=>∃v,e=sA v/\i.ownsRow w.1.size 9 1 v (vA a) (a.map fun p=>nA p.s)/\kB w i:=by
 have d:Maps.size (eE (a.map fun p=>(p.s,xI p.n)))=vA a:=by rw[kN]
 refine gA.mono (callsIn_wide.1 (slices_Sorted_keys_190_191 g _ _ (plainElem prog 3) w h (by rw[d];unfold maxLen;omega) (by rw[d];omega))) ?_;rintro e o ⟨v,h,rfl,f,b,_,j⟩;have k:(strKeys (eE (a.map fun p=>(p.s,xI p.n))))=a.map fun p=>p.s.data.toList:=by
  rw[zV,Vd];rfl
 rw[k]at f;have c:vA h=vA a:=by rw[f.length_eq,Xa]
 rw[LR (key:=fun p:dB=>p.s) l f,RS (fun p:dB=>p.s),c]at b;exact⟨v,rfl,JG b (by simp),oB vB j⟩
def yX(a:List dB):List iA:=a.flatMap fun x=>[nA x.s,lA mA x.n]
def MU(a:List dB)(k:Nat)(h:k<vA a):yX (a.take (k+1))=yX (a.take k)++[nA a[k].s,lA mA a[k].n]:=by
 rw[Pa h,yX,He];rfl
def ro{W:eA}{B:Nat}{e:TypeId}{v:iA}{a:List dB}(h:W.ownsRow B e 1 v (vA a) (a.map fun p=>nA p.s)):
 ∃k q,v=oA k (vA a) q/\(a=[]\/∃g,k=bA ⟨g,0,aA⟩/\B<=g/\g<W.1.size/\∀i(h:i<vA a),W.cell? ⟨g,i,aA⟩=bA (nA a[i].s)):=by
 rcases h.2 with⟨rfl,j⟩|⟨g,c,b,rfl,l,f,_,_,o,d⟩;refine ⟨aA,0,by rw[j],Ca (Nb.1 j)⟩;refine ⟨_,c,rfl,La ⟨g,rfl,l,zA f,fun i n=>?_⟩⟩;have m:=iB.cell (show iB W g b e from f) i;rw[m,<-Yd];have:(b.toList.take (vA a*1))[i]?=(a.map fun p=>iA.string p.s)[i]?:=by rw[d]
 rw[Ye,Ma (by omega)]at this;rw[this,Se,Va n];rfl
def aFu{w:eA}{d:Nat}{c:List dB}(h:w.ownsMap prog 9 (plainElem prog 3) d (vA c) (eE (c.map fun p=>(p.s,xI p.n))))(f:wC (·.s) c){p:dB}(e:p∈c)(g:p.s.size<=maxLen):
 (Instr.lookup 226 (.map (bA d)) (nA p.s) cA).run prog w=.ok (lA mA p.n) w:=by
 obtain⟨v,b,a,_⟩:=h.lookup_int dM underlying226 underlying3 (PZ _) (qN g);rw[b];rw[iT (key:=fun p:dB=>p.s) (fun p=>xI p.n),aN (key:=fun p:dB=>p.s) f e]at a;simp[xI]at a;rw[a]
def aKq{w:eA}{S:Nat->Prop}{x:Nat}{t:aB}{M y d j:Nat}{u:iA}{Q:List (dB×Nat)}{o:List tI}{D:DataW Unit}(h:eS w S x t M y d j u Q o D)(i:Nat)(k:i<vA t.Z)(r:t.Z[i].s.size<=maxLen):
 ∃q,∀W,kB w W->W.cell? ⟨x,2,aA⟩=bA (.map (bA d))/\(Instr.lookup 227 (.map (bA d)) (nA t.Z[i].s) cA).run prog W=.ok (qA (bA ⟨q,0,aA⟩)) W/\W.cell? ⟨q,0,aA⟩=bA (nA t.Z[i].s)/\W.cell? ⟨q,1,aA⟩=bA (lA mA t.Z[i].n):=by
 have l:t.Z[i] ∈Q.map (·.1):=by rw[h.q1];exact Gb k
 obtain⟨q,f,e⟩:=Md.1 l;have m:wC (fun q:dB×Nat=>q.1.s) Q:=by
  have:=h.rs;rw[<-h.q1]at this;exact Te.1 this
 refine⟨q.2,fun W c=>?_⟩;have a:=(h.cells q f).z c;have p:=h.blk.z c;refine⟨p.cell 2,?_,?_,?_⟩;obtain ⟨v,z,b,g⟩:=eA.ownsMap.lookup ((bB.of c).map (S:=fun _=>False) h.Z (fun e=>e)) dM underlying227 (show(zeroValue 260).run prog W=.ok (qA aA) W by kernel_rfl) (zd:=.nil) (zp:=[]) rfl (qN r);rw[b];rw[iT (key:=fun q:dB×Nat=>q.1.s) (fun q=>eF q.2),<-e,aN (key:=fun q:dB×Nat=>q.1.s) m f]at g;rw[mR g];rw[a.cell 0,<-e];rfl;rw[a.cell 1,<-e];rfl
def ub(x:Nat)(r:gB)(t:aB)(S:Nat->Prop)(M:Nat)(w:eA)(h:uD w S x t M)(m:∀i(h:i<vA t.M),t.M[i].s.size<=maxLen)(o:∀i(h:i<vA t.Z),t.Z[i].s.size<=maxLen)(n:vA t.M<=2000000)(n:vA t.Z<=2000000):
 gA prog 144 #[qA (bA ⟨x,0,aA⟩),nA r] w fun e w'=>∃I L M,e=sA (.agg #[nA r,lA mA t.L,I,L])/\w'.ownsRow w.1.size 111 2 I (vA t.M) (yX t.M)/\(∀g,I.ownBlock=bA g->g<M)/\w.1.size<=M/\M<=w'.1.size/\w'.ownsRow M 88 2 L (vA t.Z) (yX t.Z)/\kB w w':=by
 have HKY:xA _:=fun W G=>aJu x t S M W (h.z G) (by omega);obtain⟨n,s,s,s,Q,hs,D,h⟩:=h;have c0:cC w x 0 (lA mA t.L):=h.blk.cell 0;have c1:cC w x 1 (.map (bA n)):=h.blk.cell 1;have J:=zA h.blk;have HLS:xA _:=fun i s=>aKq h i s (o i s);have o:xA _:=m;have m:xA _:=fun W G=>sd n t.M W ((bB.of G).map (S:=fun _=>False) h.lims (fun e=>e)) h.rm (by omega);have O:xA (∀W,kB w W->cC W x 1 (.map (bA n))/\∀p∈t.M,p.s.size<=maxLen->(Instr.lookup 226 (.map (bA n)) (nA p.s) cA).run prog W=.ok (lA mA p.n) W):=fun W G=>⟨(G.cell J).trans (h.blk.cell 1),fun p J hs=>aFu ((bB.of G).map (S:=fun _=>False) h.lims (fun e=>e)) h.rm J hs⟩
 have U:xA _:=fun W=>callsIn_wide.1 (maps_Keys_191 (bA n) W);clear h;go_enter func144,ntmps144;go_wp2_with fail;apply aC (U.o _);rintro w1 rfl;have Y:xA (kB w ((w.alloc (tA #[nA ⟨#[]⟩,lA mA 0,oA aA 0 0,oA aA 0 0] 85)).alloc (tA #[nA r,lA mA t.L,oA aA 0 0,oA aA 0 0] 85))):=oB vB vB;have Z:xA _:=yA (by have:=iB.new (w.alloc (tA #[nA ⟨#[]⟩,lA mA 0,oA aA 0 0,oA aA 0 0] 85)) #[nA r,lA mA t.L,oA aA 0 0,oA aA 0 0] 85;simpa using this);have Y2:xA (iB ((w.alloc (tA #[nA ⟨#[]⟩,lA mA 0,oA aA 0 0,oA aA 0 0] 85)).alloc (tA #[nA r,lA mA t.L,oA aA 0 0,oA aA 0 0] 85)) w.1.size #[nA ⟨#[]⟩,lA mA 0,oA aA 0 0,oA aA 0 0] 85):=(iB.new _ _ _).alloc _;generalize (w.alloc (tA #[nA ⟨#[]⟩,lA mA 0,oA aA 0 0,oA aA 0 0] 85)).alloc (tA #[nA r,lA mA t.L,oA aA 0 0,oA aA 0 0] 85)=w2 at *;go_wp2_with fail;refine(m.o _ Y.o).mono ?_;rintro e J ⟨kv,rfl,f,H⟩;obtain⟨ka,kc,rfl,y⟩:=ro f;have E:=yA y;have B3:xA _:=oB Y.o H;have X3:xA (iB J (w.1.size+1) #[nA r,lA mA t.L,oA aA 0 0,oA aA 0 0] 85):=Z.o.z H;have Y3:xA (iB J w.1.size #[nA ⟨#[]⟩,lA mA 0,oA aA 0 0,oA aA 0 0] 85):=Y2.o.z H;have HX2:xA _:=zA Z.o;clear f y H Z Y2 Y m U c0 c1;go_wp2;go_loopw [7,23] (fun _ i wr=>∃(k:Nat)(I:iA),k<=vA t.M/\i=lA mA k/\xA (iB wr (w.1.size+1) #[nA r,lA mA t.L,I,oA aA 0 0] 85)/\xA (wr.ownsRow J.1.size 111 2 I k (yX (t.M.take k)))/\xA (bB (·=w.1.size+1) J wr)) (fun _ i _=>vA t.M-(intOf i).toNat)
 case atStart=>exact⟨0,oA aA 0 0,Oa _,rfl,X3.o,eA.ownsRow_nil _ _ _ _,bB.refl _ _⟩
 case round=>
  obtain⟨k,I,hk,rfl,m,l,b⟩:=hrel;by_cases c:k<vA t.M
  .have z:∃g,ka=bA ⟨g,0,aA⟩/\w2.1.size<=g/\g<J.1.size/\∀i(h:i<vA t.M),cC J g i (nA t.M[i].s):=by
    rcases E.o with X|X;rw[X]at c;exact absurd c (by simp);exact X
   obtain⟨g,rfl,hg1,d0,g0⟩:=z;have U:=HX2.o;have i0:g≠w.1.size+1:=by omega
   have hkey:=(eA.cell?_of_block (b.o.block g d0 i0)).trans (g0 k c);have d:xA _:=(((bB.of (S:=fun i=>w.1.size<=i) B3.o).trans' (b.o.mono fun i _ e=>by omega)).below (Ia _) fun i s h=>by omega)
   have HQ:xA (∀W,kB w W->cC W x 1 (.map (bA n))/\(Instr.lookup 226 (.map (bA n)) (nA t.M[k].s) cA).run prog W=.ok (lA mA t.M[k].n) W):=fun W G=>⟨(O.o W G).1,(O.o W G).2 _ (Gb c) (o.o k c)⟩
   have N:xA _:=MU _ _ c;have C:=b.o.size;have n:=B3.o.size;have j0:=fun q B=>(l.o.lt q B).1;have A:=l.o;have v5:cC wr (w.1.size+1) 2 I:=m.o.cell 2;have ag:I.ownBlock≠bA (w.1.size+1):=fun e=>by have:=j0 _ e;omega
   obtain⟨q1,q2⟩:=HQ.o wr.drew d.o.drew;generalize t.M[k]=P at *;have hXw:w.1.size+1<wr.1.size:=by omega
   go_wp2_with fail;go_region_law (refine LS (w:=wr.drew) (by rfl) _ _ (by rfl) underlying82 AJ rfl (by omega) (by omega) (by rfl) A.drew (by rfl) (by rfl) (cs:=#[nA P.s,lA mA P.n]) rfl (by simp[iA.oneCell']) (by omega) (by exact C) ?_;intro gg cap w4 G V A4;have j:=yA (V.o.blk m.o (fun e=>by have:=e.1;omega));have s5:=j.o.cell 2;have a:=j.o.free 2)
   all_goals
    obtain⟨Y,I,W⟩:=BO (wr:=wr.drew) m.o V.o G.o (by omega) 2;have U:=yA Y;have R:=yA I;have T:=yA (b.o.trans ((bB.of (Below.refl wr.1.size wr).drew).trans' (W.mono fun i _ e=>e.imp_right And.left)));clear Y I W s5 a j G V A4;go_wp2;exact⟨⟨k+1,_,by omega,by go_num,yA (by simpa using U.o),by rw[N.o];exact R,T.o⟩,by simp[intOf];omega⟩
  .have ek:k=vA t.M:=by omega
   have et:t.M.take k=t.M:=Ra (by omega);rw[et,ek]at l;obtain⟨n,rc,rfl⟩:=pQ l.o;have d:xA _:=(((bB.of (S:=fun i=>w.1.size<=i) B3.o).trans' (b.o.mono fun i _ e=>by omega)).below (Ia _) fun i s h=>by omega)
   have u:xA (iB wr w.1.size #[nA ⟨#[]⟩,lA mA 0,oA aA 0 0,oA aA 0 0] 85):=b.o.blk Y3.o (by omega);have Z:xA _:=zA X3.o;have h3r:xA _:=b.o.size;clear et E O o B3 X3 Y3 HX2 b;generalize o:wr=wo at *;clear o;go_wp2_with fail;refine(HKY.o _ d.o).mono ?_;rintro e K ⟨kv,rfl,f,o⟩;obtain⟨kb,O,rfl,y⟩:=ro f;have E:=yA y;have B5:xA _:=oB d.o o;have X5:xA (iB K (w.1.size+1) #[nA r,lA mA t.L,oA n (vA t.M) rc,oA aA 0 0] 85):=m.o.z o;have Y5:xA (iB K w.1.size #[nA ⟨#[]⟩,lA mA 0,oA aA 0 0,oA aA 0 0] 85):=u.o.z o;have O5:xA (K.ownsRow J.1.size 111 2 (oA n (vA t.M) rc) (vA t.M) (yX t.M)):=(bB.of (S:=fun _=>False) o).row l.o (fun _ _ e=>e);have O:xA (J.1.size<=wo.1.size/\wo.1.size<=K.1.size):=⟨h3r.o,o.size⟩
   clear f y o m l d u HKY;go_wp2;go_loopw [9,44] (fun _ i wr=>∃(k:Nat)(L:iA),k<=vA t.Z/\i=lA mA k/\xA (iB wr (w.1.size+1) #[nA r,lA mA t.L,oA n (vA t.M) rc,L] 85)/\xA (wr.ownsRow K.1.size 88 2 L k (yX (t.Z.take k)))/\xA (bB (·=w.1.size+1) K wr)) (fun _ i _=>vA t.Z-(intOf i).toNat)
   case atStart=>exact⟨0,oA aA 0 0,Oa _,rfl,X5.o,eA.ownsRow_nil _ _ _ _,bB.refl _ _⟩
   case round=>
    obtain⟨k,L,hk,rfl,m,l,b⟩:=hrel;have d:xA _:=(((bB.of (S:=fun i=>w.1.size<=i) B5.o).trans' (b.o.mono fun i _ e=>by omega)).below (Ia _) fun i s h=>by omega)
    by_cases c:k<vA t.Z
    .have z:∃g,kb=bA ⟨g,0,aA⟩/\wo.1.size<=g/\g<K.1.size/\∀i(h:i<vA t.Z),cC K g i (nA t.Z[i].s):=by
      rcases E.o with X|X;rw[X]at c;exact absurd c (by simp);exact X
     obtain⟨g,rfl,hg1,d0,g0⟩:=z;have o:=Z.o;have hwo':=O.o;have i0:g≠w.1.size+1:=by omega
     have hkey:=(eA.cell?_of_block (b.o.block g d0 i0)).trans (g0 k c);obtain⟨q,HQ0⟩:=HLS.o k c;have HQ:xA _:=HQ0;have N:xA _:=MU _ _ c;have C:=b.o.size;have j0:=fun q B=>(l.o.lt q B).1;have A:=l.o;have v5:cC wr (w.1.size+1) 3 L:=m.o.cell 3;have ag:L.ownBlock≠bA (w.1.size+1):=fun e=>by have:=j0 _ e;omega
     obtain⟨q1,q2,q3,q4⟩:=HQ.o wr.drew d.o.drew;generalize t.Z[k]=P at *;have hXw:w.1.size+1<wr.1.size:=by omega
     clear HQ0;go_wp2_with fail;go_region_law (refine LS (w:=wr.drew) (by rfl) _ _ (by rfl) underlying83 II rfl (by omega) (by omega) (by rfl) A.drew (by rfl) (by rfl) (cs:=#[nA P.s,lA mA P.n]) rfl (by simp[iA.oneCell']) (by omega) (by exact C) ?_;intro gg cap w4 G V A4;have j:=yA (V.o.blk m.o (fun e=>by have:=e.1;omega));have s5:=j.o.cell 3;have a:=j.o.free 3)
     all_goals
      obtain⟨Y,I,W⟩:=BO (wr:=wr.drew) m.o V.o G.o (by omega) 3;have U:=yA Y;have R:=yA I;have T:=yA (b.o.trans ((bB.of (Below.refl wr.1.size wr).drew).trans' (W.mono fun i _ e=>e.imp_right And.left)));clear Y I W s5 a j G V A4;go_wp2;exact⟨⟨k+1,_,by omega,by go_num,yA (by simpa using U.o),by rw[N.o];exact R,T.o⟩,by simp[intOf];omega⟩
    .have ek2:k=vA t.Z:=by omega
     have et:t.Z.take k=t.Z:=Ra (by omega);rw[et,ek2]at l;obtain⟨G,I,rfl⟩:=pQ l.o;have u:xA (iB wr w.1.size #[nA ⟨#[]⟩,lA mA 0,oA aA 0 0,oA aA 0 0] 85):=b.o.blk Y5.o (by omega);have U:cC wr (w.1.size+1) 0 (nA r):=m.o.cell 0;have a1:cC wr (w.1.size+1) 1 (lA mA t.L):=m.o.cell 1;have a2:cC wr (w.1.size+1) 2 (oA n (vA t.M) rc):=m.o.cell 2;have U:cC wr (w.1.size+1) 3 (oA G (vA t.Z) I):=m.o.cell 3;have U:cC wr w.1.size 0 (nA ⟨#[]⟩):=u.o.cell 0;have W:cC wr w.1.size 1 (lA mA 0):=u.o.cell 1;have b2:cC wr w.1.size 2 (oA aA 0 0):=u.o.cell 2;have b3:cC wr w.1.size 3 (oA aA 0 0):=u.o.cell 3;have m:=u.o.free 0;have m:=u.o.free 1;have m:=u.o.free 2;have m:=u.o.free 3;have m:xA (wr.ownsRow J.1.size 111 2 (oA n (vA t.M) rc) (vA t.M) (yX t.M)):=b.o.row O5.o (fun q B e=>by have Y:=(O5.o.lt q B).1;have J:=Z.o;omega);go_wp2;have F:bB (·=w.1.size) wr ((((wr.setCell ⟨w.1.size,0,aA⟩ (nA r)).setCell ⟨w.1.size,1,aA⟩ (lA mA t.L)).setCell ⟨w.1.size,2,aA⟩ (oA n (vA t.M) rc)).setCell ⟨w.1.size,3,aA⟩ (oA G (vA t.Z) I)):=((((bB.refl (·=w.1.size) wr).setCell (Ca rfl) 0 _).setCell (Ca rfl) 1 _).setCell (Ca rfl) 2 _).setCell (Ca rfl) 3 _;have o:=Z.o;have hwo':=O.o;refine bodyPost_ret (v:=.agg #[nA r,lA mA t.L,oA n (vA t.M) rc,oA G (vA t.Z) I]) (by simp[results,results144,go_sem,U,W,b2,b3]) rfl ⟨_,_,K.1.size,rfl,JG (F.row m.o (fun q B e=>by have:=(m.o.lt q B).1;omega)) (by omega),(fun q B=>(O5.o.lt q B).2),by omega,by have Y:=b.o.size;have J:=F.size;omega,F.row l.o (fun q B e=>by have:=(l.o.lt q B).1;omega),((bB.of (S:=fun i=>w.1.size<=i) d.o).trans' (F.mono fun i _ e=>by omega)).below (Ia _) fun i s h=>by omega⟩
end
section
open Go.Maps
def tk{P:Program}{w:eA}{b:Array Oper}{o:Oper}{a:Act}{K:Act->eA->Prop}{Q:Exit->Act->eA->Prop}{E:Prop}{f:FuncId}{args:Array iA}(c:o.guard=aA)(i:(execOp a.eval o).run P w=.ok (.enter f args) w)
(h:gA P f args w (fun e d=>∃v,e=sA v/\K (a.put o.dst v) d)):if Region.wanted o (yielded b a.tmps)=dA then Oper.wp P o a w K Q else E:=by
 have j:Region.wanted o (yielded b a.tmps)=dA:=by simp[Region.wanted,c]
 rw[Ma j];unfold Oper.wp;rw[i];refine h.mono ?_;rintro e d ⟨v,rfl,g⟩;exact g
def sf(m:Nat)(L:List (aB×Nat))(w:eA)(h:w.ownsMap prog 9 oE m (vA L) (eE (L.map fun p=>(p.1.N,eF p.2))))(j:wC (fun p:aB×Nat=>p.1.N) L)(k:vA L<=1000000000):
 gA prog 190 #[.func (.func 315) #[] #[qA (bA ⟨w.1.size,0,aA⟩)]] (w.alloc (tA #[.map (bA m)] 152)) fun e f=>∃v,e=sA v/\f.ownsRow w.1.size 9 1 v (vA L) (L.map fun p=>nA p.1.N)/\kB w f:=by
 have c:Maps.size (eE (L.map fun p=>(p.1.N,eF p.2)))=vA L:=by rw[kN]
 refine gA.mono (callsIn_wide.1 (slices_Sorted_keys_190_286 m _ _ oE w h (by rw[c];unfold maxLen;omega) (by rw[c];omega))) ?_;rintro e l ⟨v,h,rfl,d,a,_,g⟩;have i:(strKeys (eE (L.map fun p=>(p.1.N,eF p.2))))=L.map fun p=>p.1.N.data.toList:=by
  rw[zV,Vd];rfl
 rw[i]at d;have b:vA h=vA L:=by rw[d.length_eq,Xa]
 rw[LR (key:=fun p:aB×Nat=>p.1.N) j d,RS (fun p:aB×Nat=>p.1.N),b]at a;exact⟨v,rfl,JG a (by simp),oB vB g⟩
def aHe{W:eA}{B:Nat}{e:TypeId}{v:iA}{L:List (aB×Nat)}(h:W.ownsRow B e 1 v (vA L) (L.map fun p=>nA p.1.N)):
 ∃j o,v=oA j (vA L) o/\(L=[]\/∃g,j=bA ⟨g,0,aA⟩/\B<=g/\g<W.1.size/\∀i(h:i<vA L),W.cell? ⟨g,i,aA⟩=bA (nA L[i].1.N)):=by
 rcases h.2 with⟨rfl,f⟩|⟨g,b,a,rfl,k,d,_,_,n,c⟩;refine ⟨aA,0,by rw[f],Ca (Nb.1 f)⟩;refine ⟨_,b,rfl,La ⟨g,rfl,k,zA d,fun i m=>?_⟩⟩;have l:=iB.cell (show iB W g a e from d) i;rw[l,<-Yd];have:(a.toList.take (vA L*1))[i]?=(L.map fun p=>iA.string p.1.N)[i]?:=by rw[c]
 rw[Ye,Ma (by omega)]at this;rw[this,Se,Va m];rfl
def aKr{w:eA}{B:Nat->Prop}{T:Nat->Option Nat}{l m:Nat}{c:lC}{d:Int}{L:List (aB×Nat)}{M:Nat}(h:iL w B T l m c d L M)(i:Nat)(j:i<vA L)(k:L[i].1.N.size<=maxLen):
 ∃x S,∀W,kB w W->W.cell? ⟨l,7,aA⟩=bA (.map (bA m))/\(Instr.lookup 152 (.map (bA m)) (nA L[i].1.N) cA).run prog W=.ok (qA (bA ⟨x,0,aA⟩)) W/\uD W S x L[i].1 M:=by
 have f:=Gb j;refine⟨L[i].2,_,fun W b=>⟨(h.blk.z b).cell 7,?_,(h.idx _ f).z b⟩⟩;obtain⟨v,n,a,g⟩:=eA.ownsMap.lookup ((bB.of b).map (S:=fun _=>False) h.ten (fun e=>e)) dM underlying152 (show(zeroValue 192).run prog W=.ok (qA aA) W by kernel_rfl) (zd:=.nil) (zp:=[]) rfl (qN k);rw[a];rw[iT (key:=fun q:aB×Nat=>q.1.N) (fun q=>eF q.2),aN (key:=fun q:aB×Nat=>q.1.N) h.rise f]at g;rw[mR g]
def aFx(l m:Nat)(c:lC)(s:Int)(B:Nat->Prop)(ts:List aB)(M:Nat)(w:eA)(h:nE w B l m c s ts M)(z:aTl ts)(hlen:vA ts<=2000000):
 gA prog 245 #[qA (bA ⟨l,0,aA⟩)] w fun e w'=>∃a C,e=sA (.agg #[lA mA s,oA a (vA ts) C])/\vC w' w.1.size a ts/\kB w w':=by
 obtain⟨T0,L,h,rfl⟩:=h;rw[Xa]at hlen |-
 have c6:cC w l 6 (lA mA s):=h.blk.cell 6;have hll:=zA h.blk;have HL7:xA (∀W,kB w W->cC W l 7 (.map (bA m))):=fun W hW=>(h.blk.z hW).cell 7;have HLK:xA _:=fun i K=>aKr h i K (z _ (Tc (Gb K))).1;have e0:xA (∀i(K:i<vA L) x S W,uD W S x L[i].1 M->gA prog 144 #[qA (bA ⟨x,0,aA⟩),nA L[i].1.N] W fun e w'=>KF W L[i].1.N L[i].1 e w'):=fun i K x S W hix=>by
  obtain⟨_,b,d,p,r⟩:=z _ (Tc (f:=(·.1)) (Gb K));refine(ub x L[i].1.N L[i].1 S M W hix b d (by omega) (by omega)).mono ?_;rintro e w' ⟨v1,v2,M',rfl,r1,hM1,hM2,hM3,r2,hb⟩;obtain⟨a1,c1,rfl⟩:=pQ r1;obtain⟨a2,c2,rfl⟩:=pQ r2;exact⟨M',a1,c1,a2,c2,rfl,hM2,zD r1,fun g o e=>hM1 g (by rw[e];rfl),zD r2,hM3,hb⟩
 have c0:xA _:=fun W hW=>sf m L W ((bB.of hW).map (S:=fun _=>False) h.ten (fun e=>e)) h.rise (by omega);have Y:xA _:=fun W=>callsIn_wide.1 (maps_Keys_286 (bA m) W);unfold KF at e0;clear h z;have B2:xA (kB w ((w.alloc (tA #[lA mA 0,oA aA 0 0] 41)).alloc (tA #[lA mA s,oA aA 0 0] 41))):=oB vB vB;have c7:=HL7.o _ B2.o;go_enter func245,ntmps245;go_wp2_with fail;apply aC (Y.o _);rintro w1 rfl;have X2:xA _:=yA (by have:=iB.new (w.alloc (tA #[lA mA 0,oA aA 0 0] 41)) #[lA mA s,oA aA 0 0] 41;simpa using this);have Y2:xA (iB ((w.alloc (tA #[lA mA 0,oA aA 0 0] 41)).alloc (tA #[lA mA s,oA aA 0 0] 41)) w.1.size #[lA mA 0,oA aA 0 0] 41):=(iB.new _ _ _).alloc _;clear c7 c6;generalize (w.alloc (tA #[lA mA 0,oA aA 0 0] 41)).alloc (tA #[lA mA s,oA aA 0 0] 41)=w2 at *;go_wp2_with fail;refine(c0.o _ B2.o).mono ?_;rintro e E ⟨kv,rfl,G,D⟩;obtain⟨ka,kc,rfl,hks⟩:=aHe G;have HKS:=yA hks;have B3:xA _:=oB B2.o D;have X3:xA (iB E (w.1.size+1) #[lA mA s,oA aA 0 0] 41):=X2.o.z D;have Y3:xA (iB E w.1.size #[lA mA 0,oA aA 0 0] 41):=Y2.o.z D;have HX2:xA _:=zA X2.o;clear G hks D X2 Y2 B2 c0 Y;go_wp2;go_loopw [5,18] (fun _ i wr=>∃(k:Nat)(v:iA),k<=vA L/\i=lA mA k/\xA (iB wr (w.1.size+1) #[lA mA s,v] 41)/\xA (gT wr E.1.size 85 v k ((L.take k).map (·.1)))/\xA (bB (·=w.1.size+1) E wr)) (fun _ i _=>vA L-(intOf i).toNat)
 case atStart=>exact⟨0,oA aA 0 0,Oa _,rfl,X3.o,gT.nil _ _ _,bB.refl _ _⟩
 case round=>
  obtain⟨k,v,hk,rfl,R,b0,y⟩:=hrel;have V:xA _:=(((bB.of (S:=fun i=>w.1.size<=i) B3.o).trans' (y.o.mono fun i _ e=>by omega)).below (Ia _) fun i K h=>by omega)
  by_cases u:k<vA L
  .have hks2:∃g,ka=bA ⟨g,0,aA⟩/\w2.1.size<=g/\g<E.1.size/\∀i(h:i<vA L),cC E g i (nA L[i].1.N):=by
    rcases HKS.o with h0|h0;rw[h0]at u;exact absurd u (by simp);exact h0
   obtain⟨g,rfl,hg1,hg2,hgc⟩:=hks2;have hx2:=HX2.o;have hkey:=(eA.cell?_of_block (y.o.block g hg2 (by omega))).trans (hgc k u);obtain⟨x,S,Z⟩:=HLK.o k u;have HQ:=yA Z;have HTK:=yA (e0.o k u x S);have HLT:xA ((L.take (k+1)).map (·.1)=(L.take k).map (·.1)++[L[k].1]):=by show _=_;rw[Pa u,Ld];rfl
   have HLL:xA (vA ((L.take k).map (·.1))=k):=by show _=_;rw[Xa,Hb];omega
   have hsz3:=y.o.size;have hB3s:=B3.o.size;clear hgc Z;generalize (L.take k).map (·.1)=TS at *;generalize L[k].1=t at *;obtain⟨T,ys,I,hV2,hV3,hV4⟩:=b0.o;have HV1:=yA I;have g0:=yA hV2;have HV3:=yA hV3;have HV4:=yA hV4;have Q:=fun q hq=>I.lt q hq;have agv:v.ownBlock≠bA (w.1.size+1):=fun e=>by have:=(Q _ e).1;omega
   have X:xA (∀W,kB wr W->cC W (w.1.size+1) 1 v):=fun W hW=>(R.o.z hW).cell 1;have v5:cC wr (w.1.size+1) 1 v:=R.o.cell 1;obtain⟨q1,q2,q3⟩:=HQ.o wr.drew V.o.drew;have Q3:=yA q3;clear I hV2 hV3 hV4 q3;go_wp2_with fail;go_region_law
    (first
     |((fail_if_success (have q:=J));refine tk (f:=144) (args:=#[qA (bA ⟨x,0,aA⟩),nA t.N]) rfl (by go_simp) ?_;refine(HTK.o _ Q3.o).mono ?_;rintro e U ⟨M4,a1,d1,a2,d2,rfl,hM,o1,o1M,o2,oM,J⟩;have A:kB wr U:=oB eD.drew J;have x4:=X.o _ A;have x5:(U.alloc (tA #[nA t.N,lA mA t.L,oA a1 (vA t.M) d1,oA a2 (vA t.Z) d2] 85)).cell? ⟨w.1.size+1,1,aA⟩=bA v:=X.o _ (oB A vB);have O:=yA (Vc hM (Vc o1 (Vc o1M (Vc o2 oM))));clear hM o1 o1M o2 oM;refine⟨_,rfl,?_⟩)
     |(have q:=J;clear q;refine LS (by rfl) _ _ (by rfl) underlying39 pO rfl (by omega) (by omega) (by rfl) (by exact jC HV1.o A) (by rfl) (by rfl) (cs:=#[nA t.N,lA mA t.L,oA a1 (vA t.M) d1,oA a2 (vA t.Z) d2]) rfl (by simp[iA.oneCell']) (by omega) (by have:=A.size;omega) ?_;intro gg C w5 O5 T5 A5;have H:=yA (T5.o.blk (R.o.z A) (fun e=>by have:=e.1;omega));have s5:=H.o.cell 1;have j:=H.o.free 1))
   all_goals(
    have hsz4:=A.size;have hgg:(v.ownBlock=bA gg/\gg<wr.1.size)\/U.1.size<=gg:=A5.o.imp_left fun h=>⟨h,(Q _ h).2⟩
    obtain⟨h1,h3,h4⟩:=BO (R.o.z A) T5.o O5.o (by omega) 1;have N:=fun g(hg:g<U.1.size)(F:E.1.size<=g)(P:v.ownBlock≠bA g)=>h4.block g hg (fun e=>by rcases e with e|e;omega;exact P e.2)
    have HX6:=yA h1;have HT6:=yA (y.o.trans ((bB.of A).trans' (h4.mono fun i _ e=>e.imp_right And.left)));have HR6:xA (gT (w5.setCell ⟨w.1.size+1,1,aA⟩ (oA (bA ⟨gg,0,aA⟩) (k+1) C)) E.1.size 85 (oA (bA ⟨gg,0,aA⟩) (k+1) C) (k+1) ((L.take (k+1)).map (·.1))):=by
     refine yA ?_;rw[HLT.o];have hyk:vA ys=k:=by have h1:=HLL.o;rw[<-g0.o,Xa]at h1;exact h1
     exact gT.snoc (wr:=wr) (w4:=U) (M:=M4) (v:=v) (T:=T) (ys:=ys) h3 g0.o hyk HV3.o HV4.o (by omega) O.o.1
      (fun g hg F P=>(N g (by omega) F P).trans (A.block g hg))
      (fun g hg hg4=>N g hg4 (by omega) (fun e=>by have:=(Q _ e).2;omega))
      O.o.2.1 O.o.2.2.1 O.o.2.2.2.1 hgg hsz4 O.o.2.2.2.2)
   all_goals clear h1 h3 h4 O5 T5 A5 s5 j H N
   all_goals go_wp2
   all_goals exact⟨⟨k+1,_,by omega,by go_num,yA (by simpa using HX6.o),HR6.o,HT6.o⟩,by simp[intOf];omega⟩
  .have ek:k=vA L:=by omega
   have a0:xA (gT wr E.1.size 85 v (vA L) (L.map (·.1))):=by
    have:=b0.o;rw[ek,Rb]at this;exact this
   obtain⟨ra,rc,rfl⟩:=a0.o.row;have YW:xA (iB wr w.1.size #[lA mA 0,oA aA 0 0] 41):=y.o.blk Y3.o (by omega);have x0:cC wr (w.1.size+1) 0 (lA mA s):=R.o.cell 0;have x1:cC wr (w.1.size+1) 1 (oA ra (vA L) rc):=R.o.cell 1;have y0:cC wr w.1.size 0 (lA mA 0):=YW.o.cell 0;have y1:cC wr w.1.size 1 (oA aA 0 0):=YW.o.cell 1;have n:=YW.o.free 0;have b:=YW.o.free 1;have h31:=zA X3.o;go_wp2;have d0:bB (·=w.1.size) wr ((wr.setCell ⟨w.1.size,0,aA⟩ (lA mA s)).setCell ⟨w.1.size,1,aA⟩ (oA ra (vA L) rc)):=((bB.refl (·=w.1.size) wr).setCell (Ca rfl) 0 _).setCell (Ca rfl) 1 _;refine bodyPost_ret (v:=.agg #[lA mA s,oA ra (vA L) rc]) (by simp[results,results245,go_sem,y0,y1]) rfl ⟨ra,rc,rfl,((a0.o.turn d0 (fun g e=>by omega)).own (by rw[Xa])).mono (by omega),((bB.of (S:=fun i=>w.1.size<=i) V.o).trans' (d0.mono fun i _ e=>by omega)).below (Ia _) fun i K h=>by omega⟩
end
def gf(k:Nat)(r:Rd):(kD k r).2.rest.size<=r.rest.size:=by rw[kD];exact(sP k r).2.2
def aMe(r:Rd):(vW r).2.rest.size<=r.rest.size:=by rw[vW];exact Ua (gl _ _).1 (by rw[JK];exact gf 1 r)
theorem aSz(r:Rd):(sY r).2.rest.size<=r.rest.size:=by rw[jU,NW];exact Ua (gf 8 _) (aMe r)
def aCc(r:Rd)(k:Nat):(dG r k).2.rest.size<=r.rest.size:=by induction k<;>grind [dG,sY,iN,sW,aSz]
def ZQ(B:Nat)(r:Rd)(k:Nat)(w:eA)(b:RT w B r)(c:k<=8)(d:r.rest.size<=1000000000):
 gA prog 124 #[qA (bA ⟨B,0,aA⟩),lA mA (k:Nat)] w fun e a=>(e=sA (lA mA (nF (kD k r).1))/\(kD k r).2.H=cA/\RT a B (kD k r).2/\tD B w a)\/(e=.panicked pX/\(kD k r).2.H=dA/\tD B w a):=by grind [RT,nF,kD,pX,qk,aBs]
def OH(r:Rd):Nat×Rd:=kD 2 r
def ur(r:Rd):List cF×Rd:=dG (OH r).2 (OH r).1
def aAt(B:Nat)(r:Rd)(w:eA)(e:Ending)(a:eA):Prop:=
 ((ur r).2.H=cA/\∃c b,e=sA (.slice c (vA (ur r).1) b)/\rF a w.1.size c (ur r).1/\RT a B (ur r).2/\tD B w a)\/
 ((ur r).2.H=dA/\e=.panicked pX/\tD B w a)
def aJp:∃i,prog.info? 67=bA i/\i.zero=bA (.agg #[oA aA 0 0,lA mA 0])/\i.size=2/\i.bytes=32:=by
 obtain⟨i,b,a⟩:=Wb.1 oh;simp only[Dc]at a;exact⟨i,b,a.1,a.2.1,a.2.2⟩
def tD.upR{g:Nat}{w c d:eA}(h:tD g w c)(a:Below w.1.size c d):tD g w d:=
 ⟨a.os.trans h.os,a.tape.trans h.tape,a.output.trans h.output,Ua h.size a.size,fun k b e=>(a.block k b).trans (h.block k b e)⟩
def gx(B:Nat)(r:Rd)(w:eA)(G:RT w B r)(hs:r.rest.size<=1000000000):
 gA prog 127 #[qA (bA ⟨B,0,aA⟩)] w fun e f=>aAt B r w e f:=by
 have h:B<w.1.size:=by obtain⟨t,h⟩:=G;exact zA h
 have O:xA (RT w B r):=G;have HOK:xA (∀o m f,(dG (OH r).2 (OH r).1).2.H=cA->rF f w.1.size o (dG (OH r).2 (OH r).1).1->RT f B (dG (OH r).2 (OH r).1).2->tD B w f->aAt B r w (sA (.slice o (OH r).1 m)) f):=fun o m f a b c d=>by
  have I:vA (ur r).1=(OH r).1:=by rw[ur];exact dV _ _
  have P:dG (OH r).2 (OH r).1=ur r:=by rw[ur]
  rw[P]at a b c;refine Ca ⟨a,o,m,?_,b,c,d⟩;rw[I]
 have z:xA (∀f,(ur r).2.H=dA->tD B w f->aAt B r w (.panicked pX) f):=fun f a b=>La ⟨a,rfl,b⟩;have o:(OH r).1<65536:=by rw[OH];exact FG 2 _
 have N:xA (∀W,RT W B r->gA prog 124 #[qA (bA ⟨B,0,aA⟩),lA mA 2] W fun e f=>(e=sA (lA mA ((OH r).1:Nat))/\(OH r).2.H=cA/\RT f B (OH r).2/\tD B W f)\/(e=.panicked pX/\(ur r).2.H=dA/\tD B W f)):=fun W h=>by
  refine(ZQ B _ 2 W h (by omega) hs).mono ?_;have P:kD 2 r=OH r:=by rw[OH]
  rw[P,tG (by omega)];rintro e f (⟨a,b,c⟩|⟨a,b,c⟩);exact Ca ⟨a,b,c⟩;exact La ⟨a,by rw[ur];exact dU (k:=0) (by rw[iN];exact b) _ (Oa _),c⟩
 have o:xA ((dG (OH r).2 (OH r).1).2.H=dA->(ur r).2.H=dA):=fun h=>by rw[ur];exact h
 have hz:(OH r).2.rest.size<=1000000000:=by rw[OH];exact Ua (gf 2 r) hs
 clear G hs;generalize aAt B r w=G at *;generalize (ur r).2.H=U at *;generalize (OH r).1=n at *;generalize (OH r).2=c at *;obtain⟨i1,Y,a0,b0,c0⟩:=aJp;have G:xA (prog.info? 67=bA i1):=Y;clear Y;go_enter func127,ntmps127;go_wp2_with fail;refine(N.o _ O.o).mono ?_;rintro e w1 (⟨rfl,Y,Z,y⟩|⟨rfl,I,y⟩);rotate_left
 .exact ⟨rfl,z.o _ I y⟩
 have J:xA (RT w1 B c/\tD B w w1/\c.H=cA):=⟨Z,y,Y⟩
 clear Z y Y N O;go_wp2;go_loopw [3,6] (fun O i wr=>∃k:Nat,k<=n/\i=lA mA k/\xA (CS wr w.1.size 67 O k (dG c k).1)/\xA (RT wr B (dG c k).2)/\xA ((dG c k).2.H=cA)/\xA (tD B w wr)) (fun _ i _=>n-(intOf i).toNat)
 case atStart=>exact⟨0,Oa _,rfl,by rw[iN];exact CS.nil _ _ _,by rw[iN];exact J.o.1,by rw[iN];exact J.o.2.2,J.o.2.1⟩
 case round=>
  obtain⟨k,J,rfl,Y,D,HSH,u⟩:=hrel;by_cases J:k<n
  .have K:(dG c k).2.rest.size<=1000000000:=Ua (aCc c k) hz;have O:(vW (dG c k).2).2.rest.size<=1000000000:=Ua (aMe _) K;have J:(dG c (k+1)).2.H=dA->U=dA:=fun h=>o.o (dU h n (by omega));have Z:(dG c (k+1)).1=(dG c k).1++[⟨(vW (dG c k).2).1,nF (NW (dG c k).2).1⟩]:=by rw[sW,VA]
   have o:(dG c (k+1)).2=(NW (dG c k).2).2:=by rw[sW];simp only[jU]
   rw[o]at J;have P1:xA (∀W,RT W B (dG c k).2->gA prog 168 #[qA (bA ⟨B,0,aA⟩)] W fun e f=>∃g m,e=sA (.slice (bA ⟨g,0,aA⟩) (vA (vW (dG c k).2).1) m)/\f.ownsRow W.1.size 116 2 (.slice (bA ⟨g,0,aA⟩) (vA (vW (dG c k).2).1) m) (vA (vW (dG c k).2).1) (xD (vW (dG c k).2).1)/\RT f B (vW (dG c k).2).2/\tD B W f):=fun W h=>pk B _ W h K;have P2:xA (∀W,RT W B (vW (dG c k).2).2->gA prog 124 #[qA (bA ⟨B,0,aA⟩),lA mA 8] W fun e f=>(e=sA (lA mA (nF (NW (dG c k).2).1))/\(NW (dG c k).2).2.H=cA/\RT f B (NW (dG c k).2).2/\tD B W f)\/(e=.panicked pX/\U=dA/\tD B W f)):=fun W h=>by
    refine(ZQ B _ 8 W h (by omega) O).mono ?_;have P:kD 8 (vW (dG c k).2).2=NW (dG c k).2:=by rw[NW]
    rw[P];rintro e f (⟨a,b,c⟩|⟨a,b,c⟩);exact Ca ⟨a,b,c⟩;exact La ⟨a,J b,c⟩
   have l:vA (dG c k).1=k:=dV c k;clear J K O;have E1:xA ((dG c (k+1)).1=(dG c k).1++[⟨(vW (dG c k).2).1,nF (NW (dG c k).2).1⟩]):=Z;have E2:xA ((dG c (k+1)).2=(NW (dG c k).2).2):=o;have HL:xA (vA (dG c k).1=k):=l;clear Z o l;generalize nF (NW (dG c k).2).1=bi at *;generalize (NW (dG c k).2).2=rB at *;generalize (vW (dG c k).2).2=rL at *;generalize (vW (dG c k).2).1=A at *;obtain⟨T,ys,E,R,S,U⟩:=Y.o;have s:∀q,u3.ownBlock=bA q->w.1.size<=q/\q<wr.1.size:=fun q J=>E.lt q J;have W:=yA E;have O:=yA R;have HV3:=yA S;have HV4:=yA U;have m:=u.o.size;clear E R S U Y;go_wp2_with fail;refine(P1.o _ D.o).mono ?_;rintro e w2 ⟨Q,m,rfl,Z,o,X⟩;have L:xA (w2.ownsRow wr.1.size 116 2 (oA (bA ⟨Q,0,aA⟩) (vA A) m) (vA A) (xD A)/\RT w2 B rL/\tD B wr w2):=⟨Z,o,X⟩
   clear Z o X P1 D;go_wp2_with fail;refine(P2.o _ L.o.2.1).mono ?_;rintro e o (⟨rfl,U,Z,p⟩|⟨rfl,I,p⟩);rotate_left
   .exact ⟨rfl,z.o _ I ((u.o.trans L.o.2.2).trans p)⟩
   have I:=yA (rl L.o.1);have C:xA (uE o wr.1.size (bA ⟨Q,0,aA⟩) A/\RT o B rB/\tD B wr o/\rB.H=cA):=⟨eM (AY L.o.1 p (by omega)),Z,L.o.2.2.trans p,U⟩
   have k0:wr.1.size<=o.1.size:=C.o.2.2.1.size;clear Z p U P2 L;go_wp2_with(at_builtin;refine wpList_append_lies _ rfl _ _ _ rfl w.1.size 67 i1 _ 2 32 underlying58 G.o a0 b0 c0 rfl (by omega) u3 k (AE ys) rfl (by exact((bB.but C.o.2.2.1).row W.o (fun g M e=>by have:=(s g M).1;omega)).alloc _) ⟨o.1.size,0,aA⟩ 1 1 [oA (bA ⟨Q,0,aA⟩) (vA A) m,lA mA bi] rfl rfl (by have:=eA.news_of_block (cs:=#[oA (bA ⟨Q,0,aA⟩) (vA A) m,lA mA bi]) (t:=67) (fr:=(0,0)) (heap_alloc_new o (tA #[oA (bA ⟨Q,0,aA⟩) (vA A) m,lA mA bi] 67));simpa using this) (by simp[iA.oneCell']) (by omega) (by simp[maxLen];omega) (by omega) (by simp;omega) (o.1.size+1) (by simp) ?_;intro m G W H j V G);have U:(u3.ownBlock=bA m/\m<wr.1.size)\/o.1.size<=m:=by
    rcases V with h|h;exact Ca ⟨h,(s _ h).2⟩;exact La (by omega)
   have F:∀g,g<o.1.size->u3.ownBlock≠bA g->W.heap[g]?=o.heap[g]?:=fun g M G=>by
    rw[(bB.grown j).block g (by simp;omega) G];exact vB.block g M
   refine⟨⟨k+1,by omega,by go_num,?_,?_,?_,?_⟩,by simp[intOf];omega⟩
   .rw[E1.o];have h:vA ys=k:=by have m:=HL.o;rw[<-O.o,Xa]at m;exact m
    exact CS.snoc (wr:=wr) (w4:=o) (v:=u3) (T:=T) (ys:=ys) (x:=⟨A,bi⟩) H O.o h HV3.o HV4.o (by omega)
     (fun g M h G=>(F g (by omega) G).trans (C.o.2.2.1.block g M (by omega)))
     (fun g M h=>F g h (fun e=>by have:=(s _ e).2;omega))
     C.o.1 I.o U k0
   .rw[E2.o];obtain⟨h,m⟩:=C.o.2.1;exact⟨h,(F B (by omega) (fun e=>by have:=(s _ e).1;omega)).trans m⟩
   .show _=_;rw[E2.o];exact C.o.2.2.2
   exact (u.o.trans C.o.2.2.1).upR (((Below.refl _ o).alloc (by omega) _).grown j (by simp;omega) (fun q J=>by have:=s q J;omega))
  obtain rfl:k=n:=by omega
  obtain⟨h,rc,rfl⟩:=Y.o.row;have l:=dV c k;go_wp2;exact HOK.o _ _ _ HSH.o (Y.o.own l) D.o u.o
