import Derived.Test.YtbfnhppoecdnoaaGreatDoorJ07
import Derived.Test.YtbfnhppoecdnoaaGreatDoorJ09
import Derived.Test.YtbfnhppoecdnoaaGreatDoorJ10
set_option maxRecDepth 100000
set_option maxHeartbeats 2000000
set_option linter.defProp false
open Option renaming none->aA,some->bA
open ByteArray renaming empty->kA
open List renaming length->vA
namespace Go.Proofs.YtbfnhppoecdnoaaGreatDoor
open Go renaming World->eA,Value->iA,TypeId->jA
open Value renaming string->nA,int->lA,slice->oA
open IntKind renaming i64->mA
open Go.RowKit Tryz
def OU(a:List Nat):List Int:=a.map fun(r:Nat)=>(r:Int)
def UT(a:List Nat):vA (OU a)=vA a:=by simp[OU]
def aHj(a:List Nat)(r:Nat):OU (a++[r])=OU a++[(r:Int)]:=by simp[OU]
def aNx(r:Nat)(h:¬r<32):wB (r:Int) 127 159=ctl r:=by
 unfold wB ctl;rw[Qb];simp;omega
def aCy(l:List Nat)(k:Nat)(h:k<vA l):l.any ctl=((l.take k).any ctl||(ctl l[k] ||(l.drop (k+1)).any ctl)):=by
 have e:=Za k l;rw[Cb h]at e;rw[<-List.any_cons,<-Tf,e]
def OE(s:gB)(w:eA)(hs:s.size<=1000000000):
 qD 99 #[nA s] w (lA mA (zP s:Nat)):=by
 obtain⟨ti,K,Y,Z,a0⟩:=aJn;have HI:xA _:=K;clear K;go_enter func99,ntmps99;go_wp2;go_loopw [3,4,5,6] (fun b0 x _ _ wr=>∃(p:Nat)(a:List Nat)(F:iC)(M:Nat),p<=s.size/\vA a<=p/\xA (CQ s p a/\∀i(h:i<vA a),a[i]<=1114111)/\x=lA mA p/\b0=oA F (vA a) M/\xA (wr.ownsRow w.1.size 3 1 (oA F (vA a) M) (vA a) ((OU a).map (iA.int .i64)))/\kB w wr) (fun _ x _ _ _=>s.size-(intOf x).toNat)
 case atStart=>
  exact⟨0,[],_,_,Oa _,Oa _,⟨CQ.start s,fun i h=>absurd h (by simp)⟩,rfl,rfl,eA.ownsRow_made w #[] 0 (Ia _) (by simp[maxLen]) (by simp),vB⟩
 case round=>
  obtain⟨p,a,F,M,hp,hac,B,rfl,rfl,f,c⟩:=hrel;have hsz:=c.size;by_cases A:p<s.size
  .have hz:(s.extract p s.size).size=s.size-p:=by simp
   have d:=fun W=>ig (s.extract p s.size) W (by omega) (by unfold maxLen;omega);rw[aRu]at d;by_cases y:Utf8.decode s p=(65533,1)
   .rw[Ma y]at d;have v:xA (∀W,dI 156 #[nA (s.extract p s.size)] W (.tuple #[lA mA 0,lA mA 0])):=d;have D:xA _:=B.o.1.bad A y;clear d y hz;go_wp2_with fail;apply lK (v.o _);go_wp2;go_ret;exact⟨fD (by rw[D.o];rfl),c⟩
   rw[Ja y]at d;have hpos:=sX s p;have hfit:=MK s p A y;have J:=wZ s p;have S:xA (CQ s (p+(Utf8.decode s p).2) (a++[(Utf8.decode s p).1])):=B.o.1.step A y;generalize (Utf8.decode s p).1=R at *;generalize (Utf8.decode s p).2=N at *;have v:xA _:=d;have hn0:((N:Int)==0)=false:=by simp;omega
   obtain⟨V,hr2⟩:=J;clear d y hz;go_wp2_with fail;apply lK (v.o _);go_wp2_with(at_builtin;refine wpList_append_lies _ rfl _ _ _ rfl w.1.size 3 ti _ 1 8 underlying219 HI.o Y Z a0 rfl (by omega) (oA F (vA a) M) (vA a) ((OU a).map (iA.int .i64)) rfl (by exact jC f.o vB) ⟨wr.1.size,0,aA⟩ 1 1 [lA mA (R:Int)] rfl rfl (by exact eA.news_of_block (heap_alloc_new _ _)) (by simp[iA.oneCell']) (by omega) (by simp[maxLen];omega) (by omega) (by simp;omega) (wr.1.size+1) (by simp) ?_;intro g5 G w5 l n hat5 hlt5);have T:kB w w5:=(oB c vB).grown n (by simp;omega) (fun q O=>by
    rcases f.o.2 with⟨U,_⟩|⟨g,cap,cur,U,hB,_⟩;rw[U]at O;simp[iA.ownBlock]at O;rw[U]at O;simp[iA.ownBlock]at O;omega)
   have X:(OU a).map (iA.int .i64)++[iA.int mA (R:Int)]=(OU (a++[R])).map (iA.int .i64):=by simp[aHj]
   have z:vA (a++[R])=vA a+1:=by simp
   rw[X,<-z]at l;refine⟨⟨p+N,a++[R],bA ⟨g5,0,aA⟩,G,by omega,by rw[z];omega,⟨S.o,fun i hi=>?_⟩,by go_num,by rw[z],l,T⟩,by simp[intOf];omega⟩;by_cases e:i<vA a
   .rw[Ve e];exact B.o.2 i e
   rw[Re (by omega)];simp;exact V
  have D:xA _:=B.o.1.done (by omega);by_cases t:128<vA a
  .have m:xA (zP s=43):=by show _=_;rw[D.o,WB,Ma t]
   go_wp2;go_ret;exact⟨fD (by rw[m.o];rfl),c⟩
  have m:xA (zP s=if a.any ctl=true then 44 else 0):=by show _=_;rw[D.o,WB,Ja t]
  have HN:xA (QD wr F (OU a)):=qn (by rw[UT];exact f.o);have HA:xA _:=B.o.2;clear f B D;go_wp2;go_loop [8,35] (fun _ i=>∃k:Nat,k<=vA a/\i=lA mA k/\xA ((a.take k).any ctl=false)) (fun _ i=>vA a-(intOf i).toNat)
  case atStart=>exact⟨0,Oa _,rfl,by show _=_;simp⟩
  case round=>
   obtain⟨k,hk,rfl,HK⟩:=hrel;by_cases j:k<vA a
   .obtain ⟨b,o,rfl,hb,c0⟩:=HN.o.at (i:=k) (by rw[UT];exact j)
    have hr:=HA.o k j;have e0:(OU a)[k]'(by rw[UT];exact j)=((a[k]:Nat):Int):=by simp[OU]
    rw[e0]at c0;have r:xA (ctl a[k]=true->zP s=44):=fun h=>by rw[m.o,aCy a k j,h];simp
    have Q:xA (ctl a[k]=false->(a.take (k+1)).any ctl=false):=fun h=>by rw[Pa j,Tf,HK.o];simp[h]
    have P:=aNx a[k];clear e0;generalize a[k]=R at *;by_cases H:R<32
    .have E:xA (ctl R=true):=by show _=_;simp[ctl,H]
     clear P;go_wp2;go_ret;exact⟨fD (by rw[r.o E.o];rfl),c⟩
    have C:xA _:=P H;clear P;by_cases I:ctl R=true
    .have u:xA _:=C.o.trans I;have L:xA _:=I;clear I;go_wp2_with fail;apply aC (vD _ _ _ _);intro w1 hw;rw[u.o];replace hw:=hw.symm;subst hw;go_wp2;go_ret;exact⟨fD (by rw[r.o L.o];rfl),c⟩
    have L:xA (ctl R=false):=by show _=_;simpa using I
    have u:xA _:=C.o.trans L.o;clear I;go_wp2_with fail;apply aC (vD _ _ _ _);intro w1 hw;rw[u.o];replace hw:=hw.symm;subst hw;go_wp2;exact⟨⟨k+1,by omega,by go_num,Q.o L.o⟩,by simp[intOf];omega⟩
   have HV:xA (zP s=0):=by
    show _=_;have:=HK.o;rw[Ra (by omega)]at this;rw[m.o,this];rfl
   go_wp2;go_ret;exact⟨fD (by rw[HV.o];rfl),c⟩
def wE{P:Program}{f:FuncId}{args:Array iA}{w:eA}{E:Ending}{Q:Ending->eA->Prop}(h:Calls P f args w fun e a=>e=E/\a=w)(k:Q E w):Calls P f args w Q:=h.mono (by rintro _ _ ⟨rfl,rfl⟩;exact k)
def XT{w b:eA}{g:Nat}{c d e f:iA}(h:b.heap[g]?=w.heap[g]?)(q:w.cell? ⟨g,0,aA⟩=bA c/\w.cell? ⟨g,1,aA⟩=bA d/\w.cell? ⟨g,2,aA⟩=bA e/\w.cell? ⟨g,3,aA⟩=bA f):b.cell? ⟨g,0,aA⟩=bA c/\b.cell? ⟨g,1,aA⟩=bA d/\b.cell? ⟨g,2,aA⟩=bA e/\b.cell? ⟨g,3,aA⟩=bA f:=by
 simp only[eA.cell?_of_block (a:=⟨g,_,aA⟩) h];exact q
def BO{wr c:eA}{N B n sz:Nat}{t E:jA}{cs:Array iA}{g:List iA}{v a:iA}(h:iB wr N cs t)(f:bB (fun j=>B<=j/\v.ownBlock=bA j) wr c)(d:c.ownsRow B E sz a n g)(l:N<B)(i:Nat):
 iB (c.setCell ⟨N,i,aA⟩ a) N (cs.setIfInBounds i a) t/\(c.setCell ⟨N,i,aA⟩ a).ownsRow B E sz a n g/\bB (fun j=>j=N\/B<=j/\v.ownBlock=bA j) wr (c.setCell ⟨N,i,aA⟩ a):=
 ⟨(f.blk h (fun e=>by omega)).set i a,((bB.refl (·=N) c).setCell (Ca rfl) i _).row d (fun b k e=>by have:=(d.lt b k).1;omega),(f.mono fun i _ e=>La e).trans' (((bB.refl (·=N) c).setCell (Ca rfl) i a).mono fun i _ e=>Ca e)⟩
def LS{U:Array Oper}{o:Oper}{a:Act}{K:Act->eA->Prop}{Q:Exit->Act->eA->Prop}{E:Prop}{w:eA}(m:o.guard=aA)(s x:Operand){k T:jA}{z:iA}{sz b:Nat}
(I:o.op=.call { callee:=.builtin .append,args:=#[s,x],argTypes:=#[k,k] })(M:prog.underlying k=bA (.slice T))(q:(prog.info? T).map (fun i=>(i.zero,i.size,i.bytes))=bA (bA z,sz,b))(O:z.cells.size=sz)(A:0<sz)(D:b<=100)
{B n:Nat}{v:iA}{r:List iA}{cs:Array iA}(L:a.eval s=v)(y:w.ownsRow B T sz v n r){p:Nat}(N:a.eval x=oA (bA ⟨p,0,aA⟩) 1 1)(J:w.1.size=p)(F:cs.size=sz)(C:∀u∈cs.toList,u.oneCell'=true)(H:n<=1000000000)(V:B<=w.1.size)
(h:∀g c j,xA (j.ownsRow B T sz (oA (bA ⟨g,0,aA⟩) (n+1) c) (n+1) (r++cs.toList))->xA (bB (fun i=>B<=i/\v.ownBlock=bA i) w j)->xA (v.ownBlock=bA g\/w.1.size<=g)->K (a.put o.dst (oA (bA ⟨g,0,aA⟩) (n+1) c)) j):
 if Region.wanted o (yielded U a.tmps)=true then Oper.wp prog o a (w.alloc (.cells cs T)) K Q else E:=by
 subst J;obtain⟨i,q,P,R,S⟩:=info_parts q;have G:(n+1)*b<=140737488355328:=Ua (Hf (Nat.add_le_add_right H 1) D) (by decide);refine step_append_lies _ m s x _ I B T i z sz b M q P R S O A v n r L (eA.ownsRow.alloc y _) ⟨w.1.size,0,aA⟩ 1 1 cs.toList N (by simpa using F) (by
  have:=eA.news_of_block (cs:=cs) (t:=T) (fr:=(0,0)) (heap_alloc_new w (.cells cs T));simpa using this) C (by omega) (by simp[maxLen];omega) G (by simp;omega) (w.1.size+1) (by simp) ?_
 intro g c j f d l _;exact h g c j f ((bB.of (yG w (.cells cs T))).trans' ((bB.grown d).mono fun i _ e=>⟨(y.lt i e).1,e⟩)) (l.imp_right fun e=>by rw[e];simp)
def dT{X:Array Oper}{o:Oper}{a:Act}{K:Act->eA->Prop}{Q:Exit->Act->eA->Prop}{E:Prop}{w:eA}(t:o.guard=aA)(s x:Operand){l T:jA}{z:iA}{sz d:Nat}
(M:o.op=.call { callee:=.builtin .append,args:=#[s,x],argTypes:=#[l,l] })(P:prog.underlying l=bA (.slice T))(v:(prog.info? T).map (fun i=>(i.zero,i.size,i.bytes))=bA (bA z,sz,d))(S:z.cells.size=sz)(C:0<sz)(I:d<=100)
{B f n q:Nat}{y:List iA}(O:a.eval s=oA (bA ⟨f,0,aA⟩) n q)(N:w.ownsRow B T sz (oA (bA ⟨f,0,aA⟩) n q) n y){p:iC}{m A:Nat}(b:List iA)(R:a.eval x=oA p m A)(J:vA b=m*sz)(j:sU w p m b)(r:∀u∈b,u.oneCell'=true)(L:n+m<=1000000000)(H:B<=w.1.size)
(h:∀g c e,e.ownsRow B T sz (oA (bA ⟨g,0,aA⟩) (n+m) c) (n+m) (y++b)->Below B w e->(∀k,k<w.1.size->k≠f->e.heap[k]?=w.heap[k]?)->(g=f\/g=w.1.size)->K (a.put o.dst (oA (bA ⟨g,0,aA⟩) (n+m) c)) e):
 if Region.wanted o (yielded X a.tmps)=true then Oper.wp prog o a w K Q else E:=by
 obtain⟨i,v,U,V,W⟩:=info_parts v;exact tK w t s x _ M B T i z sz d P v U V W S C f n q y O N p m A b R J j r (by simp[maxLen];omega) (Ua (Hf L I) (by decide)) H fun g c e r D F _ G _=>h g c e r D F G
def AJ:(prog.info? 111).map (fun i=>(i.zero,i.size,i.bytes))=bA (bA (.agg #[nA ⟨#[]⟩,lA mA 0]),2,24):=by kernel_rfl
def II:(prog.info? 88).map (fun i=>(i.zero,i.size,i.bytes))=bA (bA (.agg #[nA ⟨#[]⟩,lA mA 0]),2,24):=by kernel_rfl
def pQ{W:eA}{B:Nat}{e:jA}{size:Nat}{v:iA}{n:Nat}{f:List iA}(h:W.ownsRow B e size v n f):∃a c,v=oA a n c:=by
 rcases h.2 with⟨rfl,rfl⟩|⟨g,b,d,rfl,_⟩;exact ⟨aA,0,rfl⟩;exact ⟨_,_,rfl⟩
def aJm:(prog.info? 116).map (fun i=>(i.zero,i.size,i.bytes))=bA (bA (.agg #[nA kA,nA kA]),2,32):=by kernel_rfl
def oh:(prog.info? 67).map (fun i=>(i.zero,i.size,i.bytes))=bA (bA (.agg #[oA aA 0 0,lA mA 0]),2,32):=by kernel_rfl
def QA(a:List eC):Prop:=∀i(h:i<vA a),a[i].N.size<=1000000000/\a[i].V.size<=1000000000
def ad{w:eA}{B c:Nat}{e:jA}{size:Nat}{v:iA}{n:Nat}{d:List iA}(h:w.ownsRow B e size v n d)(i:c<=B):w.ownsRow c e size v n d:=by
 refine⟨h.1,?_⟩;rcases h.2 with f|⟨g,a,b,k,j,r⟩;exact Ca f;exact La ⟨g,a,b,k,Ua i j,r⟩
def na(a:List eC)(m:Nat)(h:m<vA a):(xD a)[m*2]?=bA (nA a[m].N):=by
 have e:xD a=xD (a.take m)++xD (a.drop m):=by rw[<-aI,Za]
 have b:vA (xD (a.take m))=m*2:=by rw[jS,Hb];omega
 rw[e,Uc (by omega),b,Nat.sub_self,Cb h];rfl
def QC(e:Ending)(w d:eA)(l:List eC)(c i:Nat):Prop:=∃b a,e=.returned (.tuple #[oA b (vA l) a,lA mA (c:Nat),lA mA (i:Nat)])/\uE d w.1.size b l/\kB w d
def aCr(e:Ending)(w d:eA)(l:List eC)(c i:Nat):Prop:=∃b a,e=.returned (.tuple #[oA b (vA l) a,lA mA (c:Nat),lA mA (i:Nat)])/\vA l<=a/\uE d w.1.size b l/\kB w d
theorem DR(a:Option Addr)(e0:Nat)(c:List eC)(w:World)(hf:yD w a c)(hB:QA c)(hlen:c.length<=2000000)(hcap:c.length<=e0):
 Calls prog 55 #[.slice a c.length e0] w fun e P=>aCr e w P (uB c).1 (uB c).2.1 (uB c).2.2:=by
 have HF:xA (yD w a c):=hf;have HB:xA (QA c):=hB;clear hf hB;by_cases h16:16<c.length
 .rw[EE h16];go_enter func55,ntmps55;go_wp2;refine bodyPost_ret (v:=.tuple #[.slice (some ⟨w.1.size,0,none⟩) 0 0,.int .i64 40,.int .i64 0]) (by simp[results,results55,go_sem]) rfl ⟨_,_,rfl,Ia _,Ca rfl,vB⟩
 have J:xA (¬16<c.length):=h16;go_enter func55,ntmps55;go_wp2;go_loopw [6,7,8,25] (fun _ _ _ i wr=>∃k:Nat,k<=c.length/\i=.int .i64 k/\xA (cD c 0=cD (c.drop k) k)/\Below w.1.size w wr) (fun _ _ _ i _=>c.length-(intOf i).toNat)
 case atStart=>exact⟨0,Oa _,rfl,rfl,vB⟩
 case round=>
  obtain⟨k,hk,rfl,t,d⟩:=hrel;by_cases j:k<c.length
  .obtain ⟨b,o,rfl,hb,c0,c1⟩:=(HF.o.z d).at j;obtain⟨hs1,hs2⟩:=HB.o k j;have y:xA _:=fun W=>ie c[k].N W (by unfold maxLen;omega);have HVL:xA _:=fun W=>OE c[k].V W hs2;have F:=DF c k j;have K:xA (∀V,iR c[k]=V->V≠0->uB c=([],V,k)):=fun V h h0=>BL J.o (by rw[t.o,F,h,Ja h0]);have Z:xA (iR c[k]=0->cD c 0=cD (c.drop (k+1)) (k+1)):=fun h=>by rw[t.o,F,Ma h]
   unfold iR at K Z;clear F hs1 hs2;generalize c[k].N=p at *;generalize c[k].V=r at *;go_wp2_with fail;refine wE (y.o _) ?_;cases hnm:TY p
   .have E:=yA (K.o 41 (by rw[hnm];rfl) (by omega));clear hnm;go_wp2;refine bodyPost_ret (v:=.tuple #[.slice (some ⟨w.1.size,0,none⟩) 0 0,.int .i64 41,.int .i64 k]) (by simp[results,results55,go_sem]) rfl ?_;rw[E.o];exact⟨_,_,rfl,Ia _,Ca rfl,oB d vB⟩
   rw[hnm,Ma rfl]at K Z;clear hnm;go_wp2_with fail;refine(HVL.o _).mono ?_;rintro e w2 ⟨rfl,hb2⟩;have G:xA _:=oB (oB d vB) hb2;clear hb2 HVL y;generalize zP r=V at *;by_cases h0:V=0
   .have E:=yA (Z.o h0);subst h0;go_wp2;exact⟨⟨k+1,by omega,by go_num,E.o,G.o⟩,by simp[intOf];omega⟩
   .have E:=yA (K.o V rfl h0);have h0b:((V:Int) != 0)=true:=by simp;omega
    clear h0;go_wp2;refine bodyPost_ret (v:=.tuple #[.slice (some ⟨w.1.size,0,none⟩) 0 0,.int .i64 V,.int .i64 k]) (by simp[results,results55,go_sem]) rfl ?_;rw[E.o];exact⟨_,_,rfl,Ia _,Ca rfl,G.o⟩
  .have HN:xA (cD c 0=none):=by
    show _=_;rw[t.o,Yb (by omega)];rfl
   clear t HB;go_wp2;clear j hk;go_loopw [9,10,12,47,54,55,56] (fun _ _ _ i _ _ _ wr=>∃k:Nat,k<=c.length/\i=.int .i64 k/\xA (gF [] c 0=gF (c.take k) (c.drop k) k)/\Below w.1.size w wr) (fun _ _ _ i _ _ _ _=>c.length-(intOf i).toNat)
   case atStart=>exact⟨0,Oa _,rfl,rfl,d⟩
   case round=>
    clear d;obtain⟨k,hk,rfl,t,d⟩:=hrel;by_cases j:k<c.length
    .obtain ⟨b,o,rfl,hb,c0,c1⟩:=(HF.o.z d).at j;have F:=GZ c k j;have hk0:(0:Int)<=(k:Int):=by omega
     have hkc:(k:Int)<=(e0:Int):=by omega
     have HYES:xA _:=fun h=>qZ J.o HN.o (by rw[t.o,F,Ma h]);have HNO:xA (((c.take k).any fun x=>cS x c[k])=false->gF [] c 0=gF (c.take (k+1)) (c.drop (k+1)) (k+1)):=fun h=>by rw[t.o,F,Ja (by rw[h];simp)]
     have HSN:xA (∀x,cS x c[k]=(x.N.toList==c[k].N.toList)):=fun x=>rfl;clear F;generalize hlk:c[k]=lk at *;generalize lk.N=p at *;generalize lk.V=r at *;have u:xA (iB (wr.alloc (.cells #[.string p,.string r] 116)) wr.1.size #[.string p,.string r] 116/\Below w.1.size w (wr.alloc (.cells #[.string p,.string r] 116))):=⟨heap_alloc_new _ _,oB d vB⟩
     go_wp2;generalize wr.alloc (.cells #[.string p,.string r] 116)=W at *;clear hb c0 c1 d;generalize wr.1.size=Q at *;clear wr;go_loopw [12,56] (fun _ i wr=>∃m:Nat,m<=k/\i=.int .i64 m/\xA (((c.take m).any fun x=>cS x lk)=false)/\Below W.1.size W wr) (fun _ i _=>k-(intOf i).toNat)
     case atStart=>exact⟨0,Oa _,rfl,by show _=_;simp,eD⟩
     case round=>
      obtain⟨m,hm,rfl,C,l⟩:=hrel;have X:=u.o.1.z l;have x0:=X.cell 0;simp only[Xb,Ob]at x0;have hXl:=zA X;clear X;by_cases hmk:m<k
      .obtain ⟨b',o',e',hb',d0,d1⟩:=(HF.o.z (oB u.o.2 l)).at (i:=m) (by omega)
       simp only[Qa,Addr.mk.injEq,Cc]at e';obtain⟨rfl,rfl⟩:=e';have hT1:(c.take k).any (fun x=>cS x lk)=true\/cS c[m] lk=false:=by
        cases hq:cS c[m] lk with
        |false=>exact La rfl
        |true=>
         left;rw[Zd];refine⟨c[m],?_,hq⟩;rw[List.mem_take_iff_getElem];exact⟨m,by omega,rfl⟩
       have HT1:xA _:=hT1;have HQ:xA _:=HSN.o c[m];have HT2:xA (cS c[m] lk=false->((c.take (m+1)).any fun x=>cS x lk)=false):=fun h=>by rw[Pa (by omega),Tf,C.o];simp[h]
       clear hT1;generalize c[m]=lm at *;generalize lm.N=O at *;generalize lm.V=va2 at *;by_cases hq:(O.toList==p.toList)=true
       .have E:xA (uB c=([],45,k)):=by
         rcases HT1.o with h|h
         .exact HYES.o h
         .rw[HQ.o,hq]at h;exact absurd h (by simp)
        go_wp2;refine bodyPost_ret (v:=.tuple #[.slice (some ⟨w.1.size,0,none⟩) 0 0,.int .i64 45,.int .i64 k]) (by simp[results,results55,go_sem]) rfl ?_;rw[E.o];exact⟨_,_,rfl,Ia _,Ca rfl,oB (oB u.o.2 l) vB⟩
       .have hq':(O.toList==p.toList)=false:=by simpa using hq
        have E:xA _:=HT2.o (by rw[HQ.o];exact hq');clear hq;go_wp2;exact⟨⟨m+1,by omega,by go_num,E.o,oB l vB⟩,by simp[intOf];omega⟩
      .have Y:m=k:=by omega
       have E:xA _:=HNO.o (by rw[<-Y];exact C.o);subst Y;go_wp2;exact⟨⟨m+1,by omega,by go_num,E.o,oB u.o.2 l⟩,by simp[intOf];omega⟩
    .have HN2:xA (gF [] c 0=none):=by
      show _=_;rw[t.o,Yb (by omega)];rfl
     clear t;go_wp2;clear j hk;go_loopw [13,14,16,17,72] (fun out me _ _ i wr=>∃(k:Nat)(f:List eC)(T cv:Nat)(L:Bool),k<=c.length/\f.length<=k/\xA (yF [] c=yF f (c.drop k)/\L=kS (c.take k))/\i=.int .i64 k/\out=.slice (some ⟨T,0,none⟩) f.length cv/\me=.bool L/\xA (wr.ownsRow w.1.size 116 2 (.slice (some ⟨T,0,none⟩) f.length cv) f.length (xD f))/\Below w.1.size w wr) (fun _ _ _ _ i _=>c.length-(intOf i).toNat)
     case atStart=>
      exact⟨0,[],_,_,false,Oa _,Oa _,⟨rfl,by simp[kS]⟩,rfl,rfl,rfl,ad (World.ownsRow_made wr #[] 0 (Ia _) (by simp[maxLen]) (by simp)) d.size,oB d vB⟩
     case round=>
      clear d;obtain⟨k,f,T,cv,L,hk,hy,t,rfl,rfl,rfl,n,d⟩:=hrel;have hsz:=d.size;by_cases j:k<c.length
      .obtain ⟨b,o,rfl,hb,c0,c1⟩:=(HF.o.z d).at j;have F:=om f c k j;have C:=aGe c k j;have hE:=oy c[k];have hMN:cQ c[k]=(c[k].N.toList==[95,95,110,97,109,101,95,95]):=by rw[cQ,show UI.toList=[95,95,110,97,109,101,95,95] by rw[UI,ByteArray.toList_eq]]
       by_cases D:tT c[k]=true
       .have E:xA (yF [] c=yF f (c.drop (k+1))/\L=kS (c.take (k+1))):=by
         refine⟨?_,?_⟩
         .rw[t.o.1,F,Ma D]
         .rw[C,D,t.o.2];simp
        have heb:c[k].V.toList.isEmpty=true:=by rw[<-hE];exact D
        clear F C D hE hMN;generalize c[k].N=p at *;generalize c[k].V=r at *;go_wp2;exact⟨⟨k+1,f,T,cv,L,by omega,by omega,E.o,by go_num,rfl,rfl,jC n.o vB,oB d vB⟩,by simp[intOf];omega⟩
       .have E:xA (yF [] c=yF (jR c[k] f) (c.drop (k+1))/\(L||cQ c[k])=kS (c.take (k+1))):=by
         refine⟨?_,?_⟩
         .rw[t.o.1,F,Ja D]
         .have he':tT c[k]=false:=by simpa using D
          rw[C,he',t.o.2];simp
        have heb:c[k].V.toList.isEmpty=false:=by rw[<-hE];simpa using D
        have HMN:xA _:=hMN;have HLK:xA (∀x,dQ x c[k]=Op.bytesLess x.N.toList c[k].N.toList):=fun x=>rfl;have HFL:xA (xD [c[k]]=[.string c[k].N,.string c[k].V]):=rfl;clear F C D hE hMN;generalize c[k]=lk at *;generalize lk.N=p at *;generalize lk.V=r at *;have u:xA (iB (wr.alloc (.cells #[.string p,.string r] 116)) wr.1.size #[.string p,.string r] 116):=heap_alloc_new _ _;have H:xA ((wr.alloc (.cells #[.string p,.string r] 116)).ownsRow w.1.size 116 2 (.slice (some ⟨T,0,none⟩) f.length cv) f.length (xD f)):=jC n.o vB;have HBW:xA (Below w.1.size w (wr.alloc (.cells #[.string p,.string r] 116))/\w.1.size<=wr.1.size/\T<wr.1.size):=⟨oB d vB,hsz,by
         rcases n.o.2 with⟨D,_⟩|⟨g',cap',cur,D,_,hb,_⟩
         .simp at D
         .simp only[Value.slice.injEq,Qa,Addr.mk.injEq,Cc]at D;rw[D.1];exact zA hb⟩
        cases L
        all_goals
         go_wp2;generalize wr.alloc (.cells #[.string p,.string r] 116)=W at *;clear n d hsz hb c0 c1;generalize wr.1.size=Q at *;clear wr;go_loopw [17] (fun b0 wr=>∃m:Nat,m<=f.length/\b0=.int .i64 m/\xA (kZ lk f=m+kZ lk (f.drop m))/\Below W.1.size W wr) (fun b0 _=>f.length-(intOf b0).toNat)
         case atStart=>exact⟨0,Oa _,rfl,by show _=_;simp,eD⟩
         case round=>
          obtain⟨m,hm,rfl,C,d⟩:=hrel;have X:=u.o.z d;have x0:=X.cell 0;have x1:=X.cell 1;simp only[Xb,Ob,Ga]at x0 x1;have y0:=tB.cells x0;have hne:=tB.there wr;have HX:xA (iB wr Q #[.string p,.string r] 116):=X;clear X x0 x1;have hcs:(∃h:m<f.length,dQ f[m] lk=true/\kZ lk f=m+1+kZ lk (f.drop (m+1)))\/(¬(m:Int)<(f.length:Int)\/∃h:m<f.length,dQ f[m] lk=false)/\kZ lk f=m:=by
           by_cases q:m<f.length
           .have HPS:=aGv lk f m q;cases s:dQ f[m] lk
            .exact La ⟨La ⟨q,s⟩,by rw[C.o,HPS,Ja (by rw[s];simp)];rfl⟩
            .exact Ca ⟨q,s,by rw[C.o,HPS,Ma s];omega⟩
           .exact La ⟨Ca (by omega),by rw[C.o,Yb (by omega)];simp[kZ]⟩
          have y:=yA fun(q:m<f.length)=>tB.cells ((bT (jC H.o d)).2.2.2 (m*2) _ (na f m q));rcases hcs with⟨q,s,h2⟩|⟨hx,h2⟩
          .have E2:=yA h2;have y2:=y.o q;have hm1:(m:Int)<(f.length:Int):=by omega
           have hm00:(0:Int)<=(m:Int):=by omega
           rw[HLK.o]at s;clear y h2 C;generalize f[m].N=O at *;go_wp2_with fail;refine jB (by kernel_rfl) (by kernel_rfl) ?_;repeat (go_big_quiet_step (fail))
           refine wpQuiet_nil ?_;rintro _ ⟨x,rfl⟩;have HXB:xA _:=oB d x.h;clear y0 y2 hne;generalize x.w'=g at *;clear x;go_wp2;exact⟨⟨m+1,by omega,by go_num,E2.o,HXB.o⟩,by simp[intOf];omega⟩
          have E2:=yA h2;have hm00:(0:Int)<=(m:Int):=by omega
          clear h2 C;rcases hx with hml'|⟨q,s⟩
          have hml0:¬m<f.length:=by omega
          rotate_left;have y2:=y.o q;have hm1:(m:Int)<(f.length:Int):=by omega
          rw[HLK.o]at s;generalize f[m].N=O at *;all_goals
           go_wp2_with fail;refine jB (by kernel_rfl) (by kernel_rfl) ?_;repeat (go_big_quiet_step (fail))
           refine wpQuiet_nil ?_;rintro _ ⟨x,rfl⟩;try clear y2
           have hx:=x.h;clear y0 hne y;generalize x.w'=g at *;clear x;have G:xA _:=oB d hx;have R:xA _:=oB HBW.o.1 G.o;obtain⟨hcv,hg2,-,hrc⟩:=bT (jC H.o G.o);have a0:=yA hrc;have M:=HX.o.z hx;have x0:g.cell? ⟨Q,0,none⟩=some (.string p):=M.cell 0;have x1:g.cell? ⟨Q,1,none⟩=some (.string r):=M.cell 1;have U:=zA M;have hmc:(m:Int)<=(cv:Int):=by omega
           have hmn:(m:Int)<=(f.length:Int):=by omega
           have A:xA (∀P,Below g.1.size g P->P.cell? ⟨Q,0,none⟩=some (.string p)/\P.cell? ⟨Q,1,none⟩=some (.string r)):=fun P h=>⟨(h.cell U).trans x0,(h.cell U).trans x1⟩
           have hL1:(xD (f.take m)).length=m*2:=by rw[jS,Hb];omega
           have hL2:(xD (f.drop m)).length=(f.length-m)*2:=by rw[jS,Rc]
           clear hx d HX H u M hrc;go_upto_region 33 with fail;go_region_held3 (fun P=>P.cell? ⟨Q,0,none⟩=some (.string p)/\P.cell? ⟨Q,1,none⟩=some (.string r))
            (first|go_keep|exact A.o _ k7|exact A.o _ k6|exact A.o _ (N.alloc N.size _)|exact A.o _ N|exact A.o _ (MC g _)|exact A.o _ (MD g _ _))
            (first
             |(refine dT (by rfl) _ _ (by rfl) underlying65 qT rfl (by omega) (by omega) (B:=g.1.size) (by rfl) (by exact hown6) _ (by rfl) hL2 (by exact aMg (rZ a0.o hg2 k6) m hcv) (SO _) (by omega) (by exact k6.size) ?_;intro g7 S w7 I hB7 hk7 _;have k7:=k6.trans hB7)
             |(refine dT (by rfl) _ _ (by rfl) underlying65 qT rfl (by omega) (by omega) (B:=g.1.size) (by rfl) (by first|exact z|exact jC z vB) [.string p,.string r] (by rfl) rfl (by first|exact ik (heap_alloc_new _ _)|exact ik ((hk5 _ (by simp) (by omega)).trans (aCn g _ _))|exact ik ((hk5 _ (by simp;omega) (by omega)).trans (aCo g _ _))) (by simp[Value.oneCell']) (by omega) (by first|exact N.size|exact(N.alloc N.size _).size) ?_;intro g6 cap6 w6 hown6 hB6 hk6 _;have k6:Below g.1.size g w6:=(by first|exact N.trans hB6|exact(N.alloc N.size _).trans hB6))
             |(refine dT (by rfl) _ _ (by rfl) underlying65 qT rfl (by omega) (by omega) (B:=g.1.size) (by rfl) (by first|exact aSq g _|exact aSr g _ _|exact aSs g _ _) _ (by rfl) hL1 (by first|exact sy (rZ a0.o hg2 (MC g _)) m|exact sy (rZ a0.o hg2 (MD g _ _)) m) (SO _) (by omega) (by first|exact(MC g _).size|exact(MD g _ _).size) ?_;intro g5 cap5 w5 z hB5 hk5 _;have N:Below g.1.size g w5:=(by first|exact(MC g _).trans hB5|exact(MD g _ _).trans hB5);simp only[Ya,Mb]at z |-))
           all_goals
            have hl:(jR lk f).length=m+1+(f.length-m):=by rw[fo];omega
            have HO7:xA (w7.ownsRow w.1.size 116 2 (.slice (some ⟨g7,0,none⟩) (jR lk f).length S) (jR lk f).length (xD (jR lk f))):=by
             have hfl:xD (jR lk f)=xD (f.take m)++[.string p,.string r]++xD (f.drop m):=by
              rw[jR,E2.o,aI,show lk::f.drop m=[lk]++f.drop m from rfl,aI,HFL.o,Nd]
             show World.ownsRow _ _ _ _ _ _ _;rw[hl,hfl];exact ad I R.o.size
            have HB7:xA _:=oB R.o k7;rw[<-hl];have hle7:(jR lk f).length<=k+1:=by omega
            clear I k7 hl;generalize jR lk f=ys7 at *;go_wp2;refine⟨⟨k+1,ys7,g7,S,_,by omega,hle7,⟨E.o.1,?_⟩,by go_num,rfl,rfl,HO7.o,HB7.o⟩,by simp[intOf];omega⟩;have h:=E.o.2;rw[HMN.o]at h;simpa using h
      .have HE:xA (yF [] c=f/\L=kS c):=by
        have h:=t.o;rw[Yb (by omega),Ra (by omega)]at h;exact h
       have HR:xA (uE wr w.1.size (some ⟨T,0,none⟩) f):=eM n.o;have hcvr:=(bT n.o).1;clear n t;cases L with
       |false=>
        have E:xA _:=KO J.o HN.o HN2.o HE.o.2.symm;go_wp2;refine bodyPost_ret (v:=.tuple #[.slice (some ⟨w.1.size,0,none⟩) 0 0,.int .i64 46,.int .i64 0]) (by simp[results,results55,go_sem]) rfl ?_;rw[E.o];exact⟨_,_,rfl,Ia _,Ca rfl,d⟩
       |true=>
        have E:xA (uB c=(f,0,0)):=by show _=_;rw[QT J.o HN.o HN2.o HE.o.2.symm,HE.o.1]
        go_wp2;refine bodyPost_ret (v:=.tuple #[.slice (some ⟨T,0,none⟩) f.length cv,.int .i64 0,.int .i64 0]) (by simp[results,results55,go_sem]) rfl ?_;rw[E.o];exact⟨_,_,rfl,hcvr,HR.o,d⟩
def WV(a:iC)(c:Nat)(b:List eC)(w:eA)(n:yD w a b)(m:QA b)(g:vA b<=2000000)(f:vA b<=c):
 Calls prog 55 #[oA a (vA b) c] w fun e h=>QC e w h (uB b).1 (uB b).2.1 (uB b).2.2:=by
 refine(DR a c b w n m g f).mono ?_;rintro e h ⟨i,d,j,_,k,l⟩;exact⟨i,d,j,k,l⟩
