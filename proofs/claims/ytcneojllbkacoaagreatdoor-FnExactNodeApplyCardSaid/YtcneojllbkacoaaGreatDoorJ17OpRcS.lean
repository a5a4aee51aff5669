import Derived.Test.YtcneojllbkacoaaGreatDoorJ15LabF
import Derived.StillTail
import Derived.ProofKit
import Derived.OpenShut
import Derived.Deep.Strs
set_option maxRecDepth 100000
set_option maxHeartbeats 1000000
namespace Go.Proofs.YtcneojllbkacoaaGreatDoor
open Go.RowKit
theorem YU (lf ll ls:Int) (w:World):
 Calls Tryz.prog 39 #[.agg #[.int .i64 lf,.int .i64 ll,.int .i64 ls],.agg #[.int .i64 lf,.int .i64 ll,.int .i64 ls]] w fun e w'=>e=.returned (.bool true)∧Below w.heap.size w w':=by
 go_enter Tryz.func39,Tryz.ntmps39;go_wp2;go_ret;exact ⟨rfl,rA (bA _ _) (bA _ _)⟩
def oY (w:World) (nm:ByteArray) (t:cA) (e:Ending) (w':World):Prop:=
 ∃M a1 c1 a2 c2,e=.returned (.agg #[.string nm,.int .i64 t.limit,.slice a1 t.mets.length c1,.slice a2 t.sers.length c2])∧w.heap.size≤M∧fB w' w.heap.size a1 t.mets∧(∀g o,a1=some ⟨g,o,none⟩→g<M)∧fB w' M a2 t.sers∧M≤w'.heap.size∧Below w.heap.size w w'
def flatK (ps:List gA):List Value:=ps.flatMap fun x=>[.string x.s,.int .i64 x.n]
def yq (w:World) (nm:ByteArray) (t:cA) (e:Ending) (w':World):Prop:=
 ∃M a1 c1 a2 c2,e=.returned (.agg #[.string nm,.int .i64 t.limit,.slice a1 t.mets.length c1,.slice a2 t.sers.length c2])∧w.heap.size≤M∧fB w' w.heap.size a1 t.mets∧(∀g o,a1=some ⟨g,o,none⟩→g<M)∧w'.ownsRow M 151 2 (.slice a2 t.sers.length c2) t.sers.length (flatK t.sers)∧M≤w'.heap.size∧Below w.heap.size w w'
theorem yq.tel {w:World}{nm:ByteArray}{t:cA}{e:Ending}{w':World} (h:yq w nm t e w'):oY w nm t e w':=by
 obtain ⟨M,a1,c1,a2,c2,h1,h2,h3,h4,h5,h6⟩:=h;exact ⟨M,a1,c1,a2,c2,h1,h2,h3,h4,lC h5,h6⟩
theorem xQ (a b:List gA):flatK (a++b)=flatK a++flatK b:=by simp [flatK]
theorem fI (ps:List gA):(flatK ps).length=ps.length * 2:=by
 induction ps with
 | nil=>rfl
 | cons x r ih=>simp only [flatK,List.flatMap_cons,List.length_append,List.length_cons,List.length_nil] at ih ⊢;omega
theorem aI (ps:List gA):∀u∈flatK ps,u.oneCell'=true:=by
 intro u hu;simp only [flatK,List.mem_flatMap] at hu;obtain ⟨x,_,hu⟩:=hu;simp only [List.mem_cons,List.mem_nil_iff,or_false] at hu;rcases hu with rfl | rfl<;>rfl
theorem KY:∀(ps:List gA) (j:Nat) (u:Value),(flatK ps)[j]?=some u→∃i,∃h:i<ps.length,(j=i * 2∧u=.string ps[i].s)∨(j=i * 2+1∧u=.int .i64 ps[i].n)
 | [],j,u,h=>by simp [flatK] at h
 | x :: r,0,u,h=>⟨0,by simp,Or.inl ⟨rfl,by simpa [flatK] using h.symm⟩⟩
 | x :: r,1,u,h=>⟨0,by simp,Or.inr ⟨rfl,by simpa [flatK] using h.symm⟩⟩
 | x :: r,j+2,u,h=>by
   have h':(flatK r)[j]?=some u:=by simpa [flatK] using h
   obtain ⟨i,hi,q⟩:=KY r j u h';refine ⟨i+1,by simpa using hi,?_⟩;rcases q with ⟨e,q⟩ | ⟨e,q⟩
   ·exact Or.inl ⟨by omega,by simpa using q⟩
   ·exact Or.inr ⟨by omega,by simpa using q⟩
theorem hJ {w:World}{b o:Nat}{ps:List gA} (h:∀i (hi:i<ps.length),w.cell? ⟨b,o+i * 2,none⟩=some (.string ps[i].s)∧w.cell? ⟨b,o+i * 2+1,none⟩=some (.int .i64 ps[i].n)):
 ∀j u,(flatK ps)[j]?=some u→w.cell? ((⟨b,o,none⟩:Addr).add j)=some u:=by
 intro j u hu;have hadd:(⟨b,o,none⟩:Addr).add j=⟨b,o+j,none⟩:=by unfold Addr.add;split<;>simp_all
 rw [hadd];obtain ⟨i,hi,q⟩:=KY ps j u hu;rcases q with ⟨rfl,rfl⟩ | ⟨rfl,rfl⟩
 ·exact (h i hi).1
 ·exact (h i hi).2
def I64 (v:Int):Prop:=-9223372036854775808≤v∧v≤9223372036854775807
def aDf (fs:List pC):Prop:=∀i (h:i<fs.length),I64 fs[i].kind∧I64 fs[i].num
end Go.Proofs.YtcneojllbkacoaaGreatDoor
namespace Go.Proofs.YtcneojllbkacoaaGreatDoor
def xA (ts:List cA) (name:ByteArray):cA:=(cB (·.name) name ts).getD ⟨name,-1,[],[]⟩
def iE (ms:List gA) (m:ByteArray) (d:Int):Int:=ms.foldl (fun d p=>if p.s.toList==m.toList then p.n else d) d
theorem VK (ms:List gA) (m:ByteArray) (d:Int) (k:Nat) (h:k<ms.length):iE (ms.take (k+1)) m d=if ms[k].s.toList==m.toList then ms[k].n else iE (ms.take k) m d:=by
 rw [List.take_succ_eq_append_getElem h,iE,List.foldl_append];rfl
theorem VJ {ms:List gA}{m:ByteArray} (h:∀p∈ms,p.s≠m) (d:Int):iE ms m d=d:=by
 induction ms generalizing d with
 | nil=>rfl
 | cons p r ih=>
   rw [iE,List.foldl_cons,if_neg (by rw [iC (h p (List.mem_cons_self ..))];simp)];exact ih (fun q hq=>h q (List.mem_cons_of_mem _ hq)) d
theorem aFx {ms:List gA} (hr:oB (·.s) ms) (m:ByteArray) (d:Int):iE ms m d=((cB (·.s) m ms).map (·.n)).getD d:=by
 induction ms generalizing d with
 | nil=>rfl
 | cons p r ih=>
   rw [iE,List.foldl_cons,zN];by_cases e:p.s=m
   ·rw [if_pos ((rC _ _).2 e),if_pos e];exact VJ (fun q hq e'=>cG (hr.head q hq) (e.trans e'.symm)) _
   ·rw [if_neg (by rw [iC e];simp),if_neg e];exact ih hr.tail d
def sE (c:eC) (t:cA) (m:ByteArray):Int×Int:=
 if m.toList.isEmpty=true then ((t.sers.length:Nat),if t.limit<0 then c.tl else t.limit) else ((mF bC t.sers m:Nat),iE t.mets m c.ml)
theorem aDw (l:List gA) (m:ByteArray) (k:Nat) (h:k<l.length):mF bC (l.take (k+1)) m=mF bC (l.take k) m+if (bC l[k].s).toList==m.toList then 1 else 0:=by
 rw [List.take_succ_eq_append_getElem h,mF,mF,List.filter_append,List.length_append];congr 1;cases hb:(bC l[k].s).toList==m.toList<;>simp [hb]
theorem bV {α:Type}{key:α→ByteArray}{l:List α}{k:ByteArray}:∀(n:Nat),(∀j (_:j<n) (h':j<l.length),key l[j]≠k)→cB key k l=cB key k (l.drop n)
 | 0,_=>by simp
 | n+1,h=>by
   rw [bV n (fun j hj hj'=>h j (by omega) hj')];by_cases hn:n<l.length
   ·rw [List.drop_eq_getElem_cons hn,zN,if_neg (h n (by omega) hn)]
   ·rw [List.drop_of_length_le (by omega),List.drop_of_length_le (by omega)]
def eD (win now:Int) (t:cA):cA:=⟨t.name,t.limit,t.mets,t.sers.filter fun p=>decide (now - p.n<win)⟩
def mC (win now:Int) (ts:List cA):List cA:=(ts.map (eD win now)).filter fun t=>!dD t
theorem fH {win now:Int}{ts:List cA} (h:iK win now ts=true):∀t∈ts,qM win now t=true:=fun t ht=>by
 obtain ⟨i,hi,rfl⟩:=List.getElem_of_mem ht;have:=vL h hi;rw [jQ hi,Bool.and_eq_true] at this;exact this.2
theorem zX {win now:Int}{xs:List gA} (h:zI win now xs=true):∀x∈xs,now - x.n<win∧0≤x.n∧x.n≤now:=fun x hx=>by
 obtain ⟨i,hi,rfl⟩:=List.getElem_of_mem hx;have:=vL h hi;rw [fQ hi] at this;simp only [Bool.and_eq_true,decide_eq_true_eq,mA] at this;exact ⟨this.2,this.1.2.1,this.1.2.2⟩
theorem qH {win now:Int}{t:cA} (h:qM win now t=true):dC t.name=true∧oJ t.mets=true∧zI win now t.sers=true∧dD t=false:=by
 simp only [qM,Bool.and_eq_true] at h;obtain ⟨⟨⟨⟨h1,_⟩,h2⟩,h3⟩,h4⟩:=h;exact ⟨h1,h2,h3,by simpa using h4⟩
theorem kT {win now:Int}{t:cA} (h:∀x∈t.sers,now - x.n<win):eD win now t=t:=by
 unfold eD;rw [List.filter_eq_self.2 fun x hx=>decide_eq_true (h x hx)]
theorem UU {win now:Int}{ts:List cA} (h:iK win now ts=true):mC win now ts=ts:=by
 have h1:ts.map (eD win now)=ts:=by
  have:∀t∈ts,eD win now t=id t:=fun t ht=>kT fun x hx=>(zX (qH (fH h t ht)).2.2.1 x hx).1;rw [List.map_congr_left this,List.map_id]
 unfold mC;rw [h1];exact List.filter_eq_self.2 fun t ht=>by rw [(qH (fH h t ht)).2.2.2];rfl
theorem FK {win now:Int}{ts:List cA} (h:iK win now ts=true) (hr:oB (·.name) ts){t:cA} (ht:∀x∈t.sers,now - x.n<win):
 mC win now (tA (·.name) t ts)=if dD t=true then aD (·.name) t.name ts else tA (·.name) t ts:=by
 have hk:∀q∈tA (·.name) t ts,eD win now q=id q:=fun q hq=>by
  rcases pH hq with rfl | hq
  ·exact kT ht
  ·exact kT fun x hx=>(zX (qH (fH h q hq)).2.2.1 x hx).1
 have h1:(tA (·.name) t ts).map (eD win now)=tA (·.name) t ts:=by rw [List.map_congr_left hk,List.map_id]
 have hni:∀q∈ts,dD q=false:=fun q hq=>(qH (fH h q hq)).2.2.2;unfold mC;rw [h1];by_cases hi:dD t=true
 ·rw [if_pos hi];clear h h1 hk ht;induction ts with
  | nil=>simp [tA,hi,aD]
  | cons p r ih=>
    have ihr:=ih hr.tail (fun q hq=>hni q (List.mem_cons_of_mem _ hq));have hp:dD p=false:=hni p (List.mem_cons_self ..);have hrest:(r.filter fun t=>!dD t)=r:=List.filter_eq_self.2 fun q hq=>by rw [hni q (List.mem_cons_of_mem _ hq)];rfl
    rw [tA];by_cases h2:nG p.name t.name=true
    ·rw [if_pos h2,List.filter_cons_of_pos (by rw [hp];rfl),ihr];unfold aD;rw [List.filter_cons_of_pos (by rw [iC (cG h2)];rfl)]
    ·rw [if_neg h2];have hnone:∀q∈r,q.name≠t.name:=fun q hq e=>by
      have hb:=hr.head q hq;rw [e] at hb;exact h2 hb
     have hdel:aD (·.name) t.name r=r:=List.filter_eq_self.2 fun q hq=>by rw [iC (hnone q hq)];rfl
     by_cases h3:p.name=t.name
     ·rw [if_pos ((rC _ _).2 h3),List.filter_cons_of_neg (by simp [hi]),hrest];unfold aD at hdel ⊢;rw [List.filter_cons_of_neg (by simp [h3]),hdel]
     ·rw [if_neg (by rw [iC h3];simp),List.filter_cons_of_neg (by simp [hi]),List.filter_cons_of_pos (by rw [hp];rfl),hrest];unfold aD at hdel ⊢;rw [List.filter_cons_of_pos (by rw [iC h3];rfl),hdel]
 ·rw [if_neg hi];refine List.filter_eq_self.2 fun q hq=>?_;rcases pH hq with rfl | hq
  ·simpa using hi
  ·rw [hni q hq];rfl
theorem cX {α:Type}{key:α→ByteArray}{a:α}{l:List α} (hr:oB key l):(tA key a l).length=if (cB key (key a) l).isSome=true then l.length else l.length+1:=by
 induction l with
 | nil=>simp [tA,cB]
 | cons p r ih=>
   have ihr:=ih hr.tail;rw [tA,zN];by_cases h2:nG (key p) (key a)=true
   ·rw [if_pos h2,if_neg (cG h2),List.length_cons,ihr];split<;>simp
   ·rw [if_neg h2];by_cases h3:key p=key a
    ·rw [if_pos ((rC _ _).2 h3),if_pos h3];simp
    ·have hnone:cB key (key a) r=none:=xI fun q hq e=>by
      have hb:=hr.head q hq;rw [e] at hb;exact h2 hb
     rw [if_neg (by rw [iC h3];simp),if_neg h3,hnone];simp
def IH (c:eC) (now:Int) (ts:List cA) (by_:Int):Int×List cA×Bool:=
 if vB c now ts=false then (0,[],false) else if by_<1∨1000000000000 - now<by_ then (now,ts,false) else (now+by_,mC c.w (now+by_) ts,true)
def cF (t:cA) (metric:ByteArray) (limit:Int):cA:=
 if metric.toList.isEmpty=true then ⟨t.name,limit,t.mets,t.sers⟩ else ⟨t.name,t.limit,if limit<0 then aD (·.s) metric t.mets else tA (·.s) ⟨metric,limit⟩ t.mets,t.sers⟩
def oT (c:eC) (now:Int) (ts:List cA) (tenant metric:ByteArray) (limit:Int):Int×List cA×Bool:=
 if vB c now ts=false then (0,[],false)
 else if (dC tenant&&(metric.toList.isEmpty||oD metric) &&mA limit (-1) 1000000)=false then (now,ts,false)
 else if 10000<(mC c.w now (tA (·.name) (cF (xA ts tenant) metric limit) ts)).length then (now,ts,false)
 else (now,mC c.w now (tA (·.name) (cF (xA ts tenant) metric limit) ts),true)
def pE (t:cA) (key:ByteArray) (now:Int):cA:=⟨t.name,t.limit,t.mets,tA (·.s) ⟨key,now⟩ t.sers⟩
def rY (c:eC) (now:Int) (ts:List cA) (tenant key:ByteArray):Int×List cA×Nat:=
 if vB c now ts=false then (0,[],5)
 else if (dC tenant&&yF key)=false then (now,ts,5)
 else if (cB (·.s) key (xA ts tenant).sers).isSome=true then (now,tA (·.name) (pE (xA ts tenant) key now) ts,1)
 else if (sE c (xA ts tenant) ByteArray.empty).2≤(sE c (xA ts tenant) ByteArray.empty).1∨(dD (xA ts tenant)=true∧ts.length=10000) then (now,ts,3)
 else if (sE c (xA ts tenant) (bC key)).2≤(sE c (xA ts tenant) (bC key)).1 then (now,ts,4)
 else (now,tA (·.name) (pE (xA ts tenant) key now) ts,2)
theorem dM {ts:List cA}{name:ByteArray}:(xA ts name∈ts∧(cB (·.name) name ts).isSome=true)∨(xA ts name=⟨name,-1,[],[]⟩∧cB (·.name) name ts=none):=by
 unfold xA;cases h:cB (·.name) name ts with
 | none=>exact Or.inr ⟨rfl,rfl⟩
 | some t=>exact Or.inl ⟨(gN h).1,rfl⟩
theorem gG {ts:List cA}{name:ByteArray}:(xA ts name).name=name:=by
 unfold xA;cases h:cB (·.name) name ts with
 | none=>rfl
 | some t=>exact (gN h).2
theorem aBi {win now:Int}{ts:List cA} (h:iK win now ts=true){name:ByteArray}:dD (xA ts name)=!(cB (·.name) name ts).isSome:=by
 rcases dM (ts:=ts) (name:=name) with ⟨h1,h2⟩ | ⟨h1,h2⟩
 ·rw [(qH (fH h _ h1)).2.2.2,h2];rfl
 ·rw [h1,h2];rfl
theorem yV {win now:Int}{ts:List cA} (h:iK win now ts=true){name:ByteArray}:∀x∈(xA ts name).sers,now - x.n<win:=by
 rcases dM (ts:=ts) (name:=name) with ⟨h1,_⟩ | ⟨h1,_⟩
 ·exact fun x hx=>(zX (qH (fH h _ h1)).2.2.1 x hx).1
 ·rw [h1];exact fun x hx=>by simp at hx
theorem OQ {α:Type}{key:α→ByteArray}{a:α}{l:List α}:(tA key a l).length≠0:=by
 cases l with
 | nil=>simp [tA]
 | cons p r=>
   rw [tA];split
   ·simp
   ·split<;>simp
theorem aDh {win now:Int}{t:cA}{key:ByteArray} (hw:1≤win) (h:∀x∈t.sers,now - x.n<win):∀x∈(pE t key now).sers,now - x.n<win:=fun x hx=>by
 rcases pH (show x∈tA (·.s) ⟨key,now⟩ t.sers from hx) with rfl | hx
 ·show now - now<win;omega
 ·exact h x hx
theorem JU {t:cA}{key:ByteArray}{now:Int}:dD (pE t key now)=false:=by
 have:((tA (·.s) (⟨key,now⟩:gA) t.sers).length==0)=false:=by simpa using OQ
 simp [dD,pE,this]
theorem ZN {win now:Int}{ts:List cA} (h:iK win now ts=true) (hr:oB (·.name) ts) (hw:1≤win){tenant key:ByteArray}:
 mC win now (tA (·.name) (pE (xA ts tenant) key now) ts)=tA (·.name) (pE (xA ts tenant) key now) ts:=by
 rw [FK h hr (aDh hw (yV h)),JU];rfl
theorem kq {l:List gA}{k:ByteArray}{n:Int}{j:Nat} (hj:j≤l.length) (h1:∀i (h:i<l.length),i<j→nG l[i].s k=true) (h2:∀h:j<l.length,nG l[j].s k=false) (h3:cB (·.s) k l=none):
 tA (·.s) ⟨k,n⟩ l=l.take j++⟨k,n⟩:: l.drop j:=by
 induction l generalizing j with
 | nil=>simp [tA]
 | cons p r ih=>
   have hp:p.s≠k:=aR h3 p (List.mem_cons_self ..);rw [tA];cases j with
   | zero=>
     have hb:nG p.s k=false:=h2 (by simp);rw [if_neg (by rw [hb];simp),if_neg (by rw [iC hp];simp)];rfl
   | succ j=>
     have hb:nG p.s k=true:=h1 0 (by simp) (by omega);have h3':cB (·.s) k r=none:=xI fun q hq=>aR h3 q (List.mem_cons_of_mem _ hq);rw [if_pos hb,ih (j:=j) (by simpa using hj) (fun i h hi=>by have:=h1 (i+1) (by simpa using h) (by omega);simpa using this) (fun h=>by have:=h2 (by simpa using h);simpa using this) h3'];rfl
def jO (ts:List cA) (tenant metric:ByteArray) (limit:Int):List cA×Bool:=
 if (dC tenant&&(metric.toList.isEmpty||oD metric) &&mA limit (-1) 1000000)=false then (ts,false)
 else if dD (cF (xA ts tenant) metric limit)=true then (aD (·.name) tenant ts,true)
 else if ((cB (·.name) tenant ts).isNone&&decide (10000≤ts.length))=true then (ts,false)
 else (tA (·.name) (cF (xA ts tenant) metric limit) ts,true)
theorem iN (t:cA) (metric:ByteArray) (limit:Int):(cF t metric limit).name=t.name:=by unfold cF;split<;>rfl
theorem LK (t:cA) (metric:ByteArray) (limit:Int):(cF t metric limit).sers=t.sers:=by unfold cF;split<;>rfl
theorem gH {c:eC}{now:Int}{ts:List cA} (h:vB c now ts=true):jH c=true∧0≤now∧now≤1000000000000∧ts.length≤10000∧iK c.w now ts=true:=by
 simp only [vB,Bool.and_eq_true,decide_eq_true_eq] at h;obtain ⟨⟨⟨h1,h2⟩,h3⟩,h4⟩:=h;have:=yH h2;exact ⟨h1,this.1,this.2,h3,h4⟩
theorem yO {win now:Int}{ts:List cA} (h:iK win now ts=true):oB (·.name) ts:=by
 have:=aHj (n:=ts.length) h (Nat.le_refl _);rwa [List.take_length] at this
theorem aNe {c:eC}{now:Int}{ts:List cA} (h:vB c now ts=true) (tenant metric:ByteArray) (limit:Int):oT c now ts tenant metric limit=(now,(jO ts tenant metric limit).1,(jO ts tenant metric limit).2):=by
 obtain ⟨_,_,_,hlen,ht⟩:=gH h;have hr:=yO ht;unfold oT jO;rw [if_neg (by rw [h];simp)];by_cases h1:(dC tenant&&(metric.toList.isEmpty||oD metric) &&mA limit (-1) 1000000)=false
 ·rw [if_pos h1,if_pos h1]
 ·rw [if_neg h1,if_neg h1];have hnm:(cF (xA ts tenant) metric limit).name=tenant:=by rw [iN,gG]
  have hlv:∀x∈(cF (xA ts tenant) metric limit).sers,now - x.n<c.w:=by rw [LK];exact yV ht
  have hk:=FK ht hr (t:=cF (xA ts tenant) metric limit) hlv;rw [hk,hnm];by_cases h2:dD (cF (xA ts tenant) metric limit)=true
  ·have hd:(aD (·.name) tenant ts).length≤ts.length:=List.length_filter_le _ _;rw [if_pos h2,if_pos h2,if_neg (by omega)]
  ·have hil:=cX (a:=cF (xA ts tenant) metric limit) hr;simp only [hnm] at hil;rw [if_neg h2,if_neg h2];cases hg:cB (·.name) tenant ts with
   | some q=>
     rw [hg] at hil;simp only [Option.isSome_some,if_true] at hil;rw [if_neg (by omega),if_neg (by simp)]
   | none=>
     rw [hg] at hil;simp only [Option.isSome_none,Bool.false_eq_true,if_false] at hil;by_cases h3:10000≤ts.length
     ·rw [if_pos (by omega),if_pos (by simp [h3])]
     ·rw [if_neg (by omega),if_neg (by simp [h3])]
theorem PG {α:Type}{key:α→ByteArray}{a q:α}{l:List α} (hr:oB key l) (h:q∈tA key a l):q=a∨(q∈l∧key q≠key a):=by
 induction l with
 | nil=>exact Or.inl (by simpa [tA] using h)
 | cons p r ih=>
   rw [tA] at h;by_cases h2:nG (key p) (key a)=true
   ·rw [if_pos h2] at h;rcases List.mem_cons.1 h with h | h
    ·exact Or.inr ⟨by rw [h];exact List.mem_cons_self ..,by rw [h];exact cG h2⟩
    ·rcases ih hr.tail h with h | h
     ·exact Or.inl h
     ·exact Or.inr ⟨List.mem_cons_of_mem _ h.1,h.2⟩
   ·rw [if_neg h2] at h;have hnone:∀q∈r,key q≠key a:=fun q hq e=>by
     have hb:=hr.head q hq;rw [e] at hb;exact h2 hb
    by_cases h3:key p=key a
    ·rw [if_pos ((rC _ _).2 h3)] at h;rcases List.mem_cons.1 h with h | h
     ·exact Or.inl h
     ·exact Or.inr ⟨List.mem_cons_of_mem _ h,hnone q h⟩
    ·rw [if_neg (by rw [iC h3];simp)] at h;rcases List.mem_cons.1 h with h | h
     ·exact Or.inl h
     ·rcases List.mem_cons.1 h with h | h
      ·exact Or.inr ⟨by rw [h];exact List.mem_cons_self ..,by rw [h];exact h3⟩
      ·exact Or.inr ⟨List.mem_cons_of_mem _ h,hnone q h⟩
theorem eX {α β:Type}{key:α→ByteArray}{a p:α}{l:List α} (f:α→β) (hr:oB key l) (hp:p∈l) (hk:key p=key a) (hf:f p=f a):(tA key a l).map f=l.map f:=by
 induction l with
 | nil=>cases hp
 | cons q r ih=>
   rw [tA];rcases List.mem_cons.1 hp with rfl | hp
   ·rw [if_neg (by rw [hk,rK];simp),if_pos ((rC _ _).2 hk)];simp [hf]
   ·have hb:=hr.head p hp;rw [hk] at hb;rw [if_pos hb,List.map_cons,List.map_cons,ih hr.tail hp]
def tJ (c:eC) (now:Int) (ts:List cA) (tenant key:ByteArray):List cA×Nat:=
 if (dC tenant&&yF key)=false then (ts,5)
 else if (cB (·.s) key (xA ts tenant).sers).isSome=true then (tA (·.name) (pE (xA ts tenant) key now) ts,1)
 else if (if (xA ts tenant).limit = -1 then c.tl else (xA ts tenant).limit)≤((xA ts tenant).sers.length:Nat)∨((cB (·.name) tenant ts).isNone&&decide (10000≤ts.length))=true then (ts,3)
 else if iE (xA ts tenant).mets (bC key) c.ml≤(mF bC (xA ts tenant).sers (bC key):Nat) then (ts,4)
 else (tA (·.name) (pE (xA ts tenant) key now) ts,2)
theorem aHi {win now:Int}{ts:List cA} (h:iK win now ts=true){name:ByteArray}: -1≤(xA ts name).limit∧(xA ts name).limit≤1000000:=by
 rcases dM (ts:=ts) (name:=name) with ⟨h1,_⟩ | ⟨h1,_⟩
 ·have:=fH h _ h1;simp only [qM,Bool.and_eq_true] at this;exact yH this.1.1.1.2
 ·rw [h1];exact ⟨by simp,by simp⟩
theorem aLo {c:eC}{now:Int}{ts:List cA} (h:vB c now ts=true) (tenant key:ByteArray):rY c now ts tenant key=(now,(tJ c now ts tenant key).1,(tJ c now ts tenant key).2):=by
 obtain ⟨_,_,_,hlen,ht⟩:=gH h;unfold rY tJ;rw [if_neg (by rw [h];simp)];by_cases h1:(dC tenant&&yF key)=false
 ·rw [if_pos h1,if_pos h1]
 ·rw [if_neg h1,if_neg h1];by_cases h2:(cB (·.s) key (xA ts tenant).sers).isSome=true
  ·rw [if_pos h2,if_pos h2]
  ·rw [if_neg h2,if_neg h2];have hk:(bC key).toList.isEmpty=false:=by
    have:(dC tenant&&yF key)=true:=by simpa using h1
    simp only [Bool.and_eq_true,yF] at this;simpa using this.2
   have hc1:sE c (xA ts tenant) ByteArray.empty=((((xA ts tenant).sers.length:Nat):Int),if (xA ts tenant).limit = -1 then c.tl else (xA ts tenant).limit):=by
    unfold sE;rw [if_pos (show ByteArray.empty.toList.isEmpty=true by rw [ByteArray.toList_eq];rfl)];have:=(aHi ht (name:=tenant)).1;by_cases hl:(xA ts tenant).limit = -1
    ·rw [if_pos hl,if_pos (by omega)]
    ·rw [if_neg hl,if_neg (by omega)]
   have hc2:sE c (xA ts tenant) (bC key)=(((mF bC (xA ts tenant).sers (bC key):Nat):Int),iE (xA ts tenant).mets (bC key) c.ml):=by
    unfold sE;rw [if_neg (by rw [hk];simp)]
   have iA:=aBi ht (name:=tenant);rw [hc1,hc2];simp only;have hiff:(dD (xA ts tenant)=true∧ts.length=10000) ↔ ((cB (·.name) tenant ts).isNone&&decide (10000≤ts.length))=true:=by
    rw [iA,Bool.and_eq_true,decide_eq_true_eq];cases cB (·.name) tenant ts with
    | none=>simp;omega
    | some q=>simp
   simp only [hiff];generalize (if (xA ts tenant).limit = -1 then c.tl else (xA ts tenant).limit)=LM;split
   ·rfl
   ·split<;>rfl
theorem YL {met:ByteArray→ByteArray}{l l':List gA} (h:l.map (·.s)=l'.map (·.s)) (m:ByteArray):mF met l m=mF met l' m:=by
 have:∀l:List gA,mF met l m=((l.map (·.s)).filter fun s=>(met s).toList==m.toList).length:=fun l=>by
  unfold mF;rw [List.filter_map,List.length_map];rfl
 rw [this,this,h]
structure rF where
 b:Nat
 t:Int
def rB (l:List rF) (i:Nat):rF:=l.getD i ⟨0,0⟩
def fE (l:List rF) (i j:Nat):List rF:=(l.set i (rB l j)).set j (rB l i)
theorem wW {l:List rF}{i:Nat} (h:i<l.length):rB l i=l[i]:=by simp [rB,List.getD,List.getElem?_eq_getElem h]
theorem xB (l:List rF) (i j:Nat):(fE l i j).length=l.length:=by simp [fE]
theorem vF {l:List rF}{i j:Nat} (hi:i<l.length) (hj:j<l.length) (k:Nat):rB (fE l i j) k=if k=j then rB l i else if k=i then rB l j else rB l k:=by
 unfold fE;have e:∀(m:List rF) (p:Nat) (x:rF) (k:Nat),p<m.length→rB (m.set p x) k=if k=p then x else rB m k:=fun m p x k hp=>by
  by_cases h:k=p
  ·subst h;simp [rB,List.getD,hp]
  ·rw [if_neg h];simp [rB,List.getD,Ne.symm h]
 rw [e _ _ _ _ (by simpa using hj),e _ _ _ _ hi]
theorem wV {l:List rF}{i j:Nat} (hi:i<l.length) (hj:j<l.length):(fE l i j).Perm l:=by
 unfold fE;rw [wW hi,wW hj];exact List.set_set_perm hi hj
def vH (l:List rF):Prop:=∀i,0<i→i<l.length→(rB l ((i - 1) / 2)).t≤(rB l i).t
def pU (l:List rF) (k:Nat):Prop:=(∀i,0<i→i<l.length→i≠k→(rB l ((i - 1) / 2)).t≤(rB l i).t)∧∀i,0<i→i<l.length→(i - 1) / 2=k→0<k→(rB l ((k - 1) / 2)).t≤(rB l i).t
theorem vH.push {l:List rF} (h:vH l) (x:rF):pU (l++[x]) l.length:=by
 have e:∀i,i<l.length→rB (l++[x]) i=rB l i:=fun i hi=>by simp [rB,List.getD,List.getElem?_append_left hi]
 refine ⟨fun i h0 hi hne=>?_,fun i h0 hi hp _=>?_⟩
 ·simp at hi;rw [e i (by omega),e _ (by omega)];exact h i h0 (by omega)
 ·simp at hi;omega
theorem pU.done {l:List rF}{k:Nat} (h:pU l k) (hk:k=0∨(rB l ((k - 1) / 2)).t≤(rB l k).t):vH l:=by
 intro i h0 hi;by_cases e:i=k
 ·subst e;rcases hk with hk | hk
  ·omega
  ·exact hk
 ·exact h.1 i h0 hi e
theorem pU.step {l:List rF}{k:Nat} (h:pU l k) (hk:k<l.length) (h0:0<k) (hlt:(rB l k).t<(rB l ((k - 1) / 2)).t):pU (fE l k ((k - 1) / 2)) ((k - 1) / 2):=by
 have hp:(k - 1) / 2<l.length:=by omega
 have hpk:(k - 1) / 2≠k:=by omega
 refine ⟨fun i hi0 hi hne=>?_,fun i hi0 hi hpi hp0=>?_⟩
 ·rw [xB] at hi;rw [vF hk hp,vF hk hp,if_neg hne];by_cases e1:i=k
  ·subst e1;rw [if_pos rfl,if_pos rfl];omega
  ·rw [if_neg e1];by_cases e2:(i - 1) / 2=(k - 1) / 2
   ·rw [if_pos e2];have:=h.1 i hi0 hi e1;rw [e2] at this;omega
   ·rw [if_neg e2];by_cases e3:(i - 1) / 2=k
    ·rw [if_pos e3];exact h.2 i hi0 hi e3 h0
    ·rw [if_neg e3];exact h.1 i hi0 hi e1
 ·rw [xB] at hi;rw [vF hk hp,vF hk hp,if_neg (by omega:((k - 1) / 2 - 1) / 2≠(k - 1) / 2),if_neg (by omega:((k - 1) / 2 - 1) / 2≠k),if_neg (by omega:i≠(k - 1) / 2)];have hg:=h.1 ((k - 1) / 2) hp0 hp hpk;by_cases e1:i=k
  ·rw [if_pos e1];exact hg
  ·rw [if_neg e1];have:=h.1 i hi0 hi e1;rw [hpi] at this;omega
def pM (l:List rF):Nat→List rF
 | 0=>l
 | k+1=>if (rB l (k+1)).t<(rB l (k / 2)).t then pM (fE l (k+1) (k / 2)) (k / 2) else l
theorem BM {l:List rF}{k:Nat} (h0:0<k):pM l k=if (rB l k).t<(rB l ((k - 1) / 2)).t then pM (fE l k ((k - 1) / 2)) ((k - 1) / 2) else l:=by
 obtain ⟨j,rfl⟩:∃j,k=j+1:=⟨k - 1,by omega⟩
 rw [pM,Nat.add_sub_cancel]
theorem BN (l:List rF):pM l 0=l:=by rw [pM]
theorem BK:∀(k:Nat) (l:List rF),k<l.length→pU l k→vH (pM l k)∧(pM l k).Perm l∧(pM l k).length=l.length
 | 0,l,_,h=>by rw [BN];exact ⟨h.done (Or.inl rfl),List.Perm.refl _,rfl⟩
 | k+1,l,hk,h=>by
   rw [BM (by omega)];by_cases hlt:(rB l (k+1)).t<(rB l ((k+1 - 1) / 2)).t
   ·rw [if_pos hlt];obtain ⟨a,b,c⟩:=BK ((k+1 - 1) / 2) (fE l (k+1) ((k+1 - 1) / 2)) (by rw [xB];omega) (h.step hk (by omega) hlt);exact ⟨a,b.trans (wV hk (by omega)),c.trans (xB _ _ _)⟩
   ·rw [if_neg hlt];exact ⟨h.done (Or.inr (by omega)),List.Perm.refl _,rfl⟩
def vM (l:List rF) (x:rF):List rF:=pM (l++[x]) l.length
theorem mV {l:List rF} (h:vH l) (x:rF):vH (vM l x)∧(vM l x).Perm (x :: l)∧(vM l x).length=l.length+1:=by
 obtain ⟨a,b,c⟩:=BK l.length (l++[x]) (by simp) (h.push x);exact ⟨a,b.trans (List.perm_append_singleton x l),by rw [vM,c];simp⟩
end Go.Proofs.YtcneojllbkacoaaGreatDoor
namespace Go.Proofs.YtcneojllbkacoaaGreatDoor
open Go.RowKit
def RB (w:World) (B:Nat) (r:Rd):Prop:=lA w B #[.string r.rest,.bool r.short] 330
theorem XI (B:Nat) (r:Rd) (n:Nat) (w:World) (hB:RB w B r) (hn:n≤70000) (hs:r.rest.size≤1000000000):
 Calls Tryz.prog 276 #[.pointer (some ⟨B,0,none⟩),.int .i64 (n:Nat)] w fun e w'=>e=.returned (.string (jD n r).1)∧RB w' B (jD n r).2∧bE B w w':=by
 have HB:Hid (RB w B r):=hB;have x0:=lA.cell hB 0;have x1:=lA.cell hB 1;simp only [List.getElem?_toArray,List.getElem?_cons_zero,List.getElem?_cons_succ] at x0 x1;have f0:=lA.free hB 0;have f1:=lA.free hB 1;obtain ⟨rest,short⟩:=r;simp only at x0 x1 hs;clear hB;by_cases h:rest.size<n
 ·have E:Hid (jD n ⟨rest,short⟩=(ByteArray.empty,⟨rest,true⟩)):=by show _=_;unfold jD;rw [if_pos h]
  rw [E.out];go_enter Tryz.func276,Tryz.ntmps276;go_wp2;go_ret;exact ⟨rfl,lA.set HB.out 1 (.bool true),(bE.refl _ _).setCell _ _⟩
 ·have E:Hid (jD n ⟨rest,short⟩=(rest.extract 0 n,⟨rest.extract n rest.size,short⟩)):=by show _=_;unfold jD;rw [if_neg h]
  have h':¬((rest.size:Int)<(n:Int)):=by omega
  rw [E.out];go_enter Tryz.func276,Tryz.ntmps276;go_wp2;go_ret;exact ⟨rfl,lA.set HB.out 0 (.string (rest.extract n rest.size)),(bE.refl _ _).setCell _ _⟩
theorem GD (B:Nat) (r:Rd) (k:Nat) (w:World) (hB:RB w B r) (hk:k≤2) (hs:r.rest.size≤1000000000):
 Calls Tryz.prog 264 #[.pointer (some ⟨B,0,none⟩),.int .i64 (k:Nat)] w fun e w'=>e=.returned (.int .i64 ((yI k r).1:Nat))∧RB w' B (yI k r).2∧bE B w w':=by
 have HC:Hid (Calls Tryz.prog 276 #[.pointer (some ⟨B,0,none⟩),.int .i64 (k:Nat)] w fun e w'=>e=.returned (.string (jD k r).1)∧RB w' B (jD k r).2∧bE B w w'):=XI B r k w hB (by omega) hs;have HN:Hid (∀W,Calls Tryz.prog 275 #[.string (jD k r).1] W fun e w'=>e=.returned (.int .i64 (tU (jD k r).1.data.toList:Nat))∧w'=W):=fun W=>UD _ W (by have:=(nR k r).1;omega);show Calls _ _ _ _ fun e w'=>e=.returned (.int .i64 (tU (jD k r).1.data.toList:Nat))∧RB w' B (jD k r).2∧bE B w w';clear hB;generalize tU (jD k r).1.data.toList=N at *;generalize (jD k r).1=T at *;generalize (jD k r).2=r' at *;go_enter Tryz.func264,Tryz.ntmps264;go_wp2_with fail;refine HC.out.mono ?_;rintro e w1 ⟨rfl,hr1,hb1⟩;have H1:Hid (RB w1 B r'∧bE B w w1):=⟨hr1,hb1⟩
 clear hr1 hb1 HC;go_wp2_with fail;refine (HN.out _).mono ?_;rintro e w2 ⟨rfl,hw⟩;replace hw:=hw.symm;subst hw;go_wp2;go_ret;exact ⟨rfl,H1.out⟩
theorem XL (B:Nat) (r:Rd) (k:Nat) (w:World) (hB:RB w B r) (hk:k≤2) (hs:r.rest.size≤1000000000):
 Calls Tryz.prog 265 #[.pointer (some ⟨B,0,none⟩),.int .i64 (k:Nat)] w fun e w'=>e=.returned (.string (iD k r).1)∧RB w' B (iD k r).2∧bE B w w':=by
 have HC:Hid (Calls Tryz.prog 264 #[.pointer (some ⟨B,0,none⟩),.int .i64 (k:Nat)] w fun e w'=>e=.returned (.int .i64 ((yI k r).1:Nat))∧RB w' B (yI k r).2∧bE B w w'):=GD B r k w hB hk hs;have hlt:(yI k r).1<65536:=by
  have h1:=aJy k r;have h2:256 ^ k≤256 ^ 2:=Nat.pow_le_pow_right (by omega) hk;omega
 have hsz:(yI k r).2.rest.size≤1000000000:=by
  have:=(nR k r).2.2;show (jD k r).2.rest.size≤_;omega
 have HT:Hid (∀W,RB W B (yI k r).2→Calls Tryz.prog 276 #[.pointer (some ⟨B,0,none⟩),.int .i64 ((yI k r).1:Nat)] W fun e w'=>e=.returned (.string (iD k r).1)∧RB w' B (iD k r).2∧bE B W w'):=fun W h=>XI B _ _ W h (by omega) hsz;clear hB;generalize (iD k r).1=T at *;generalize (iD k r).2=r' at *;generalize (yI k r).1=N at *;generalize (yI k r).2=r1 at *;go_enter Tryz.func265,Tryz.ntmps265;go_wp2_with fail;refine HC.out.mono ?_;rintro e w1 ⟨rfl,hr1,hb1⟩;have H1:Hid (RB w1 B r1∧bE B w w1):=⟨hr1,hb1⟩
 clear hr1 hb1 HC;go_wp2_with fail;refine (HT.out _ H1.out.1).mono ?_;rintro e w2 ⟨rfl,hr2,hb2⟩;have H2:Hid (RB w2 B r'∧bE B w w2):=⟨hr2,H1.out.2.trans hb2⟩
 clear hr2 hb2;go_wp2;go_ret;exact ⟨rfl,H2.out⟩
theorem WI {w w':World}{B base:Nat}{e:TypeId}{size:Nat}{v:Value}{n:Nat}{xs:List Value} (h:w.ownsRow base e size v n xs) (hb:bE B w w') (hB:B<base):w'.ownsRow base e size v n xs:=by
 obtain ⟨h1,h2⟩:=h;refine ⟨h1,?_⟩;rcases h2 with h2 | ⟨g,cap,cur,hv,hg,hh,r⟩
 ·exact Or.inl h2
 ·exact Or.inr ⟨g,cap,cur,hv,hg,(hb.block g (aA hh) (by omega)).trans hh,r⟩
theorem bE.alloc {B:Nat}{w w':World} (h:bE B w w') (o:Obj):bE B w (w'.alloc o):=h.trans (bE.of (bA _ _))
theorem aHo (B:Nat) (r:Rd) (w:World) (hB:RB w B r):
 Calls Tryz.prog 248 #[.pointer (some ⟨B,0,none⟩)] w fun e w'=>e=.returned (.bool (kP r))∧w'=w:=by
 have x0:=lA.cell hB 0;have x1:=lA.cell hB 1;simp only [List.getElem?_toArray,List.getElem?_cons_zero,List.getElem?_cons_succ] at x0 x1;have HE:Hid (ByteArray.empty.toList=[]):=by show _=_;rw [ByteArray.toList_eq];rfl
 obtain ⟨rest,short⟩:=r;simp only at x0 x1;clear hB;cases short with
 | true=>
   have E:Hid (kP ⟨rest,true⟩=false):=rfl;go_enter Tryz.func248,Tryz.ntmps248;go_wp2;go_ret;exact ⟨jA E.out.symm,rfl⟩
 | false=>
   have E:Hid (kP ⟨rest,false⟩=rest.toList.isEmpty):=by
    show _=_;unfold kP;rw [HE.out];cases rest.toList<;>rfl
   go_enter Tryz.func248,Tryz.ntmps248;go_wp2;go_ret;exact ⟨jA E.out.symm,rfl⟩
theorem aOt:NeqAt Tryz.prog 202 (fun x:zA=>.agg #[.string x.name,.string x.value]) dP:=by
 refine ⟨fun x y w=>?_,GuardAt.agg _ (by kernel_rfl)⟩;have u3:=Tryz.underlying9;have a3:=Tryz.isAgg9;have z3:=Tryz.sizeOf9;have hS:Tryz.prog.underlying 202=some (.struct (Tryz.prog.fieldsOf 202)):=by kernel_rfl
 have hp:Tryz.prog.stoodInHeld 202=false:=by kernel_rfl
 rw [run_neq_struct,show (10000:Nat)=9999+1 from rfl,run_equalIn_agg w 9999 202 _ _ hS hp];simp only [Program.fieldsOf,Tryz.underlying202];go_simp;by_cases h1:x.name.toList=y.name.toList<;>by_cases h2:x.value.toList=y.value.toList<;>simp [dP,h1,h2]
theorem BQ (s:ByteArray) (p n:Nat) (w:World) (hs:s.size≤maxLen) (h:p+n≤s.size) (hn:n≤7):
 Calls Tryz.prog 215 #[.string s,.int .i64 p,.int .i64 n] w fun e w'=>e=.returned (.int .i64 (tU (vR s p n):Nat))∧w'=w:=by
 unfold maxLen at hs;go_enter Tryz.func215,Tryz.ntmps215;go_wp2;go_loop [7,8] (fun v i=>∃(k V:Nat),k≤n∧i=.int .i64 k∧v=.int .i64 V∧Hid (V=tU (vR s p k))) (fun _ i=>n - (intOf i).toNat)
 case atStart=>exact ⟨0,0,Nat.zero_le _,rfl,rfl,rfl⟩
 case round=>
  obtain ⟨k,V,hk,rfl,rfl,hV⟩:=hrel;have hlt64:V<72057594037927936:=by
   have h1:=DO (vR s p k);rw [jR (by omega),←hV.out] at h1;have h2:256 ^ k≤256 ^ 7:=Nat.pow_le_pow_right (by omega) (by omega);omega
  by_cases hlt:k<n
  ·have hV7:V * 256+255<9223372036854775807:=by
    have h1:=DO (vR s p k);rw [jR (by omega),←hV.out] at h1;have h2:256 ^ k≤256 ^ 6:=Nat.pow_le_pow_right (by omega) (by omega);omega
   have hi0:(0:Int)≤(p:Int)+(k:Int):=by omega
   have hi1:(p:Int)+(k:Int)<(s.size:Int):=by omega
   have hi2:p+k<s.size:=by omega
   have hU:=s[p+k].toNat_lt;go_wp2;exact ⟨⟨k+1,V * 256+s[p+k].toNat,by omega,by go_num,by go_num,by show _=_;rw [aAt hi2,DP,hV.out]⟩,by simp [intOf];omega⟩
  ·go_wp2;go_ret;have e:k=n:=by omega
   subst e;exact ⟨jB (by rw [hV.out]),rfl⟩
theorem GP (s:ByteArray) (w:World) (hs:s.size≤1000000000):
 Calls Tryz.prog 57 #[.string s] w fun e w'=>e=.returned (.string (kY s))∧Below w.heap.size w w':=by
 have HC:Hid (∀W,Calls Tryz.prog 55 #[.int .i64 1,.int .i64 (s.size:Nat)] W fun e w'=>e=.returned (.string (nC 1 (s.size:Nat)))∧Below W.heap.size W w'):=fun W=>bG 1 (s.size:Nat) W (by omega) (by omega) (by omega);have hz:=yB 1 (s.size:Nat);unfold kY;generalize nC 1 (s.size:Nat)=N at *;go_enter Tryz.func57,Tryz.ntmps57;go_wp2_with fail;refine (HC.out _).mono ?_;rintro e w1 ⟨rfl,hb1⟩;have HB:Hid _:=hb1;clear hb1;go_wp2;go_ret;exact ⟨rfl,HB.out⟩
theorem BR (s:ByteArray) (w:World) (hs:s.size≤1000000000):
 Calls Tryz.prog 58 #[.string s] w fun e w'=>e=.returned (.string (iJ s))∧Below w.heap.size w w':=by
 have HC:Hid (∀W,Calls Tryz.prog 55 #[.int .i64 2,.int .i64 (s.size:Nat)] W fun e w'=>e=.returned (.string (nC 2 (s.size:Nat)))∧Below W.heap.size W w'):=fun W=>bG 2 (s.size:Nat) W (by omega) (by omega) (by omega);have hz:=yB 2 (s.size:Nat);unfold iJ;generalize nC 2 (s.size:Nat)=N at *;go_enter Tryz.func58,Tryz.ntmps58;go_wp2_with fail;refine (HC.out _).mono ?_;rintro e w1 ⟨rfl,hb1⟩;have HB:Hid _:=hb1;clear hb1;go_wp2;go_ret;exact ⟨rfl,HB.out⟩
theorem jq {P:Program}{o:Oper}{a:Act}{w:World}{next:Act→Prop} (h:o.quiet P a (fun w'=>∃_:Unit,w'=w) next):o.still P a w next:=by
 obtain ⟨v,hq,hn⟩:=h;have h1:=hq w ⟨(),rfl⟩;unfold Oper.quietAt at h1;unfold Oper.still;generalize (execOp a.eval o).run P w=r at h1;unfold Oper.quietUpon at h1;unfold Oper.stillUpon;split at h1
 ·obtain ⟨rfl,rfl⟩:=h1;exact ⟨rfl,hn⟩
 ·obtain ⟨rfl,rfl⟩:=h1;exact ⟨rfl,hn⟩
 ·obtain ⟨rfl,hc⟩:=h1;exact ⟨rfl,v,hc.mono fun e w'' ⟨he,_,hw⟩=>⟨he,hw⟩,hn⟩
 ·exact h1.elim
theorem lL {P:Program}{ops:Array Oper}{w:World}{Q:Act→Prop}:∀(l:List Oper) (a:Act),wpQuiet P ops (fun w'=>∃_:Unit,w'=w) Q l a→wpStill P ops w Q l a
 | [],a,h=>h
 | o :: rest,a,h=>by
   unfold wpQuiet at h;unfold wpStill;split
   ·rename_i hw;rw [if_pos hw] at h;exact jq (Oper.quiet_mono (fun a' h'=>lL rest a' h') h)
   ·rename_i hw;rw [if_neg hw] at h;exact lL rest _ h
theorem eM {P:Program}{id:Nat}{Q:Exit→Act→World→Prop}{a:Act}{w:World}{l:List Oper} (n:Nat) (hm:P.follows .mixedOrders=true) (hB:Region.lexTailB .any l.toArray n=true)
 (h:wpQuiet P l.toArray (fun w'=>∃_:Unit,w'=w.drew) (fun a'=>wpList P l.toArray Q (l.drop n) a' w.drew) (l.take n) a):(Code.region id l.toArray true).wp P Q a w:=
 wp_region_still_tail n hm hB (lL _ _ h)
theorem QX (c0 c1 c2 c3 c4 c5:Int) (w:World):
 Calls Tryz.prog 7 #[.agg #[.int .i64 c0,.int .i64 c1,.int .i64 c2,.int .i64 c3,.int .i64 c4,.int .i64 c5]] w fun e w'=>e=.returned (.agg #[.int .i64 c0,.int .i64 c1,.int .i64 c2,.int .i64 c3,.int .i64 c4,.int .i64 c5])∧Below w.heap.size w w':=by
 go_enter Tryz.func7,Tryz.ntmps7;go_wp2;exact bodyPost_ret (v:=.agg #[.int .i64 c0,.int .i64 c1,.int .i64 c2,.int .i64 c3,.int .i64 c4,.int .i64 c5]) (by simp [results,Tryz.results7,go_sem]) rfl ⟨rfl,(((Below.refl _ _).alloc (Nat.le_refl _) _).alloc (by simp) _).alloc (by simp;omega) _⟩
end Go.Proofs.YtcneojllbkacoaaGreatDoor
namespace Go.Proofs.YtcneojllbkacoaaGreatDoor
open Go.ChangeShapes Go.WideShapes Go.ChangeAt Go.RowKit Go.Deep
theorem KB:Tryz.prog.cellsOf 62=4:=by kernel_rfl
theorem SJ:Tryz.prog.cellsOf 9=1:=by kernel_rfl
theorem SG:Tryz.prog.cellsOf 3=1:=by kernel_rfl
theorem wf_i64 {n:Int} (h:(Lit.int .i64 n).wf=true):I64 n:=by
 simp only [Lit.wf,Bool.and_eq_true,decide_eq_true_eq] at h;exact h
section
variable {H:Type}{enc:TypeId×Value→H}{W:World}
theorem VU {fuel:Nat}{cs:List Value}{x:DataW H×List MemPlace} (h:DataW.trod enc Tryz.prog W 0 (fun _=>true) true fuel 62 cs=some x):
 ∃f:pC,cs=[.int .i64 f.kind,.string f.tenant,.string f.text,.int .i64 f.num]∧(f.tenant.size≤maxLen∧f.text.size≤maxLen)∧(I64 f.kind∧I64 f.num):=by
 obtain ⟨xs,n,_,_,hl,hlen,hfl⟩:=DataW.trod_struct Tryz.underlying62 h;rw [KB] at hl;match cs,hl with
 | [c0,c1,c2,c3],_=>
   match xs,hlen with
   | [y0,y1,y2,y3],_=>
     have h0:=hfl 0 _ rfl;have h1:=hfl 1 _ rfl;have h2:=hfl 2 _ rfl;have h3:=hfl 3 _ rfl;simp [SJ,SG] at h0 h1 h2 h3;obtain ⟨i0,e0,_,y0⟩:=DataW.trod_int Tryz.underlying3 h0;obtain ⟨s1,e1,_,z1⟩:=DataW.trod_string Tryz.underlying9 h1;obtain ⟨s2,e2,_,z2⟩:=DataW.trod_string Tryz.underlying9 h2;obtain ⟨i3,e3,_,y3⟩:=DataW.trod_int Tryz.underlying3 h3;simp at e0 e1 e2 e3;exact ⟨⟨i0,s1,s2,i3⟩,by simp [e0,e1,e2,e3],⟨z1,z2⟩,wf_i64 y0,wf_i64 y3⟩
theorem aGk {fuel:Nat}{v:Value}{x:DataW H×List MemPlace} (h:DataW.trod enc Tryz.prog W 0 (fun _=>true) true fuel 34 [v]=some x):
 ∃(a:Option Addr) (cap:Nat) (fs:List pC),v=.slice a fs.length cap∧oE W a fs∧DH fs∧aDf fs∧fs.length≤maxLen:=by
 rcases open_slice Tryz.underlying34 h with ⟨hc,_⟩ | ⟨a,len,cap,m,n,D,Pl,hc,_,hl,hm,hmm,_,hx⟩
 ·simp at hc;exact ⟨none,0,[],by simpa using hc,Or.inl rfl,fun i h=>absurd h (by simp),fun i h=>absurd h (by simp),by simp⟩
 ·simp at hc;simp only [if_true] at hmm;have hin:Inhabited pC:=⟨⟨0,ByteArray.empty,ByteArray.empty,0⟩⟩
  obtain ⟨b,o,spot⟩:=a;rw [KB] at hx;have hsp:0<len→spot=none:=fun h0=>by
   obtain ⟨cs',h1,h2⟩:=hx 0 (by omega);obtain ⟨f,rfl,_,_⟩:=VU h2;obtain ⟨_,_,hcell⟩:=World.cells?_some h1;have hc0:=hcell 0 (by omega);simp only [List.getElem?_cons_zero] at hc0;have:=World.cell?_spot hc0;simpa [Addr.add] using this
  obtain ⟨F,hF⟩:=choose_lt (α:=pC) (n:=len) (p:=fun i f=>W.cell? ⟨b,o+i * 4,none⟩=some (.int .i64 f.kind)∧
   W.cell? ⟨b,o+i * 4+1,none⟩=some (.string f.tenant)∧W.cell? ⟨b,o+i * 4+2,none⟩=some (.string f.text)∧W.cell? ⟨b,o+i * 4+3,none⟩=some (.int .i64 f.num)∧(f.tenant.size≤maxLen∧f.text.size≤maxLen)∧(I64 f.kind∧I64 f.num)) (fun i hi=>by
   obtain ⟨cs',h1,h2⟩:=hx i (by omega);obtain ⟨f,rfl,z0,z1⟩:=VU h2;obtain ⟨_,_,hcell⟩:=World.cells?_some h1;have hspot:=hsp (by omega);subst hspot;refine ⟨f,?_,?_,?_,?_,z0,z1⟩
   ·simpa [add_plain] using hcell 0 (by omega)
   ·simpa [add_plain] using hcell 1 (by omega)
   ·simpa [add_plain] using hcell 2 (by omega)
   ·simpa [add_plain] using hcell 3 (by omega))
  refine ⟨some ⟨b,o,spot⟩,cap,(List.range len).map F,by simp [hc],?_,?_,?_,by simp;omega⟩
  ·by_cases h0:len=0
   ·subst h0;exact Or.inl rfl
   ·have hs:=hsp (by omega);subst hs;have hlt:b<W.heap.size:=by
     have hc0:=(hF 0 (by omega)).1;rcases Nat.lt_or_ge b W.heap.size with hlt | hge
     ·exact hlt
     ·simp [World.cell?,Array.getElem?_eq_none hge] at hc0
    refine Or.inr ⟨b,o,rfl,hlt,fun i hi=>?_⟩;simp only [List.length_map,List.length_range] at hi;obtain ⟨q1,q2,q3,q4,_⟩:=hF i hi;simpa using ⟨q1,q2,q3,q4⟩
  ·intro i hi;simp only [List.length_map,List.length_range] at hi;obtain ⟨_,_,_,_,z0,z1⟩:=hF i hi;simpa using z0
  ·intro i hi;simp only [List.length_map,List.length_range] at hi;obtain ⟨_,_,_,_,z0,z1⟩:=hF i hi;simpa using z1
end
end Go.Proofs.YtcneojllbkacoaaGreatDoor
