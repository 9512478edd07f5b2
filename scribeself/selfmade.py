"""The description of descriptions: what is built from it reads the texts of descriptions, its own one as well.

Each list of lines or parts grows to the right, and the value of everything is its attribute `out`. A number is one of
at most three times three digits; a run of plain characters is followed by none of them, so a text is read in one way.
"""

from scribeself.descriptions import read

TEXT = """start all
rule all all : 'start ' name '\\n' rules filters below above eqs rewrites covers machine
rule letter letter : [abcdefghijklmnopqrstuvwxyz]
rule short name : letter
rule long name : letter {0123456789abcdefghijklmnopqrstuvwxyz}
rule digit digit : [0123456789]
rule three three : digit digit digit
rule one few : digit
rule two few : digit digit
rule full few : three
rule small number : few
rule middle number : three few
rule great number : three three few
rule notext text :
rule plain text : text { !#$&()*+,-./0123456789:;<=>?@ABCDEFGHIJKLMNOPQRSTUVWXYZ[^_`abcdefghijklmnopqrstuvwxyz{|~}
rule newline text : text '\\\\n'
rule sign text : text '\\\\' [\\"\\'\\\\\\]\\}]
rule lit symbol : '\\'' text '\\''
rule class symbol : '[' text '\\]'
rule run symbol : '{' text '\\}'
rule nt symbol : name
rule nosymbol symbols :
rule symbols symbols : symbols ' ' symbol
rule norule rules :
rule rule rules : rules 'rule ' name ' ' name ' :' symbols '\\n'
rule nofilter filters :
rule filters filters : filters filter '\\n'
rule first filter : 'first ' name ' ' name
rule under filter : 'under ' name ' ' number ' ' name
rule stop filter : 'stop ' name ' [' text '\\]'
rule bar filter : 'bar ' name texts
rule notexts texts :
rule texts texts : texts ' \\'' text '\\''
rule nobelow below :
rule below below : below 'below ' entry
rule noabove above :
rule above above : above 'above ' entry
rule entry entry : kind ' ' name ' ' name '\\n'
rule once kind : 'once'
rule most kind : 'most'
rule every kind : 'all'
rule noeq eqs :
rule eq eqs : eqs 'eq ' name ' ' name ' ' expr '\\n'
rule down eqs : eqs 'down ' name ' ' number ' ' name ' ' expr '\\n'
rule norewrite rewrites :
rule rewrite rewrites : rewrites 'rewrite ' pattern ' ' pattern '\\n'
rule nocover covers :
rule cover covers : covers 'cover ' number ' ' pattern ' :' nodes '\\n'
rule val expr : leaf
rule own expr : '.' name
rule kid expr : number '.' name
rule text expr : '$'
rule kidtext expr : '$' number
rule if expr : '(? ' expr ' ' expr ' ' expr ')'
rule call expr : '(' name exprs ')'
rule made expr : '(!' name exprs ')'
rule noexpr exprs :
rule exprs exprs : exprs ' ' expr
rule integer leaf : number
rule minus leaf : '-' number
rule string leaf : '\\"' text '\\"'
rule leaf pattern : leaf
rule hole pattern : '?' name
rule term pattern : node
rule node node : '(' name patterns ')'
rule nopattern patterns :
rule patterns patterns : patterns ' ' pattern
rule nonode nodes :
rule nodes nodes : nodes ' ' node
rule machine machine : 'machine ' number ' ' number ' ' number ' ' number '\\n'
below once all out
below once text out
below once symbol out
below once symbols out
below once rules out
below once filters out
below once filter out
below once texts out
below once below out
below once above out
below once entry out
below once eqs out
below once rewrites out
below once covers out
below once expr out
below once exprs out
below once leaf out
below once pattern out
below once node out
below once patterns out
below once nodes out
below once machine out
eq all out (!description $1 3.out 4.out 5.out 6.out 7.out 8.out 9.out 10.out)
eq notext out ""
eq plain out (cat 0.out $1)
eq newline out (cat 0.out "\\n")
eq sign out (cat 0.out $2)
eq lit out (!lit 1.out)
eq class out (!class 1.out)
eq run out (!run 1.out)
eq nt out (!nt $0)
eq nosymbol out (list)
eq symbols out (join 0.out (list 2.out))
eq norule out (list)
eq rule out (join 0.out (list (!rule $2 $4 6.out)))
eq nofilter out (list)
eq filters out (join 0.out (list 1.out))
eq first out (!first $1 $3)
eq under out (!under $1 (number $3) $5)
eq stop out (!stop $1 3.out)
eq bar out (!bar $1 2.out)
eq notexts out (list)
eq texts out (join 0.out (list 2.out))
eq nobelow out (list)
eq below out (join 0.out (list 2.out))
eq noabove out (list)
eq above out (join 0.out (list 2.out))
eq entry out (!attribute $0 $2 $4)
eq noeq out (list)
eq eq out (join 0.out (list (!eq $2 $4 6.out)))
eq down out (join 0.out (list (!down $2 (number $4) $6 8.out)))
eq norewrite out (list)
eq rewrite out (join 0.out (list (!rewrite 2.out 4.out)))
eq nocover out (list)
eq cover out (join 0.out (list (!cover (number $2) 4.out 6.out)))
eq val out (!val 0.out)
eq own out (!own $1)
eq kid out (!kid (number $0) $2)
eq text out (!text)
eq kidtext out (!kidtext (number $1))
eq if out (!if 1.out 3.out 5.out)
eq call out (!call $1 2.out)
eq made out (!made $1 2.out)
eq noexpr out (list)
eq exprs out (join 0.out (list 2.out))
eq integer out (number $0)
eq minus out (sub 0 (number $1))
eq string out 1.out
eq leaf out (!leaf 0.out)
eq hole out (!hole $1)
eq term out 0.out
eq node out (!node $1 2.out)
eq nopattern out (list)
eq patterns out (join 0.out (list 2.out))
eq nonode out (list)
eq nodes out (join 0.out (list 2.out))
eq machine out (list (number $1) (number $3) (number $5) (number $7))
machine 2 1 1 1
"""


def self_text():
    """The text of the description of descriptions."""
    return TEXT


def self_description():
    """The description of descriptions."""
    return read(TEXT)
