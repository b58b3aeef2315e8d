"""Texts with their trees as they are drawn: for each row its field, its name and its positions."""

from tests.languages import CALCULUS, LETS, OPTIONS

WHOLE = (
    (CALCULUS, "not not a -> b => c", """
- file 0-19
  first negation 0-19
    - 'not' 0-3
    operand negation 4-19
      - 'not' 4-7
      operand implies 8-19
        left call 8-9
          name 'word' 8-9
        - '->' 10-12
        right implied 13-19
          left call 13-14
            name 'word' 13-14
          - '=>' 15-17
          right call 18-19
            name 'word' 18-19
"""),
    (CALCULUS, "1 | 2 & 3 - 4 - 5", """
- file 0-17
  first both 0-17
    left either 0-5
      left number 0-1
        digits 'number' 0-1
      - '|' 2-3
      right number 4-5
        digits 'number' 4-5
    - '&' 6-7
    right minus 8-17
      left minus 8-13
        left number 8-9
          digits 'number' 8-9
        - '-' 10-11
        right number 12-13
          digits 'number' 12-13
      - '-' 14-15
      right number 16-17
        digits 'number' 16-17
"""),
    (CALCULUS, "1 < 2", """
- file 0-5
  first less 0-5
    left number 0-1
      digits 'number' 0-1
    - '<' 2-3
    right number 4-5
      digits 'number' 4-5
"""),
    (CALCULUS, "~ ~ 1 ? !", """
- file 0-9
  first negative 0-9
    - '~' 0-1
    operand negative 2-9
      - '~' 2-3
      operand factorial 4-9
        operand asked 4-7
          operand number 4-5
            digits 'number' 4-5
          - '?' 6-7
        - '!' 8-9
"""),
    (CALCULUS, "1 ^ 2 ^ 3", """
- file 0-9
  first power 0-9
    left number 0-1
      digits 'number' 0-1
    - '^' 2-3
    right power 4-9
      left number 4-5
        digits 'number' 4-5
      - '^' 6-7
      right number 8-9
        digits 'number' 8-9
"""),
    (CALCULUS, "f[(1);2], {}", """
- file 0-12
  first call 0-8
    name 'word' 0-1
    arguments arguments 1-8
      - '[' 1-2
      each formula 2-5
        - '(' 2-3
        inside number 3-4
          digits 'number' 3-4
        - ')' 4-5
      each ';' 5-6
      each number 6-7
        digits 'number' 6-7
      - ']' 7-8
  rest rest 8-12
    - ',' 8-9
    formula list 10-12
      - '{' 10-11
      - '}' 11-12
"""),
    (CALCULUS, "{a:1#.b:2*3@c}", """
- file 0-14
  first list 0-14
    - '{' 0-1
    entries entry 1-5
      key 'word' 1-2
      - ':' 2-3
      value hash 3-5
        operand plain 3-4
          digits 'number' 3-4
        - '#' 4-5
    entries '.' 5-6
    entries entry 6-11
      key 'word' 6-7
      - ':' 7-8
      value times 8-11
        left plain 8-9
          digits 'number' 8-9
        - '*' 9-10
        right plain 10-11
          digits 'number' 10-11
    tail tail 11-13
      - '@' 11-12
      name 'word' 12-13
    - '}' 13-14
"""),
    (OPTIONS, "1", """
- number 0-1
  digits 'number' 0-1
"""),
    (OPTIONS, "head a b: foot !", """
- body 0-16
  head head 0-6
    - 'head' 0-4
    title 'word' 5-6
  lines line 7-9
    name 'word' 7-8
    - ':' 8-9
  foot foot 10-16
    - 'foot' 10-14
    mark mark 15-16
      - '!' 15-16
"""),
)

BROKEN = (
    (LETS, "let = x 1;", """
- file 0-10
  items let 0-10
    - 'let' 0-3
    name no rule word 3-3
    - '=' 4-5
    value name 6-7
      name 'word' 6-7
    - skipped 8-9
    - ';' 9-10
"""),
    (LETS, "show 1 + ;", """
- file 0-10
  items show 0-10
    - 'show' 0-4
    value plus 5-8
      left number 5-6
        digits 'number' 5-6
      - '+' 7-8
      right no node atom 8-8
    - ';' 9-10
"""),
    (LETS, "show (1;", """
- file 0-8
  items show 0-8
    - 'show' 0-4
    value sum 5-7
      - '(' 5-6
      inside number 6-7
        digits 'number' 6-7
      - no word ) 7-7
    - ';' 7-8
"""),
    (LETS, "; show 1", """
- file 0-8
  items skipped 0-1
  items show 2-8
    - 'show' 2-6
    value number 7-8
      digits 'number' 7-8
    - no word ; 8-8
"""),
    (LETS, "let x = 1 show 2;", """
- file 0-17
  items let 0-9
    - 'let' 0-3
    name 'word' 4-5
    - '=' 6-7
    value number 8-9
      digits 'number' 8-9
    - no word ; 9-9
  items show 10-17
    - 'show' 10-14
    value number 15-16
      digits 'number' 15-16
    - ';' 16-17
"""),
    (LETS, "show 1 $ + 2;", """
- file 0-13
  items show 0-13
    - 'show' 0-4
    value number 5-6
      digits 'number' 5-6
    - skipped 7-12
    - ';' 12-13
"""),
    (LETS, "let let x = 1;", """
- file 0-14
  items let 0-3
    - 'let' 0-3
    name no rule word 3-3
    - no word = 3-3
    value no node sum 3-3
    - no word ; 3-3
  items let 4-14
    - 'let' 4-7
    name 'word' 8-9
    - '=' 10-11
    value number 12-13
      digits 'number' 12-13
    - ';' 13-14
"""),
    (LETS, "show 1; $", """
- file 0-9
  items show 0-7
    - 'show' 0-4
    value number 5-6
      digits 'number' 5-6
    - ';' 6-7
  items skipped 8-9
"""),
    (LETS, "show - ( a + ) ;", """
- file 0-16
  items show 0-16
    - 'show' 0-4
    value minus 5-14
      - '-' 5-6
      operand sum 7-14
        - '(' 7-8
        inside plus 9-12
          left name 9-10
            name 'word' 9-10
          - '+' 11-12
          right no node atom 12-12
        - ')' 13-14
    - ';' 15-16
"""),
    (LETS, "let x 1 = 2;", """
- file 0-12
  items let 0-12
    - 'let' 0-3
    name 'word' 4-5
    - no word = 5-5
    value number 6-7
      digits 'number' 6-7
    - skipped 8-11
    - ';' 11-12
"""),
    (LETS, "show ) ;", """
- file 0-8
  items show 0-8
    - 'show' 0-4
    value skipped 5-6
    value no node sum 6-6
    - ';' 7-8
"""),
    (CALCULUS, "a - b + c -> d -> not e", """
- file 0-23
  first implies 0-23
    left plus 0-9
      left minus 0-5
        left call 0-1
          name 'word' 0-1
        - '-' 2-3
        right call 4-5
          name 'word' 4-5
      - '+' 6-7
      right call 8-9
        name 'word' 8-9
    - '->' 10-12
    right implies 13-23
      left call 13-14
        name 'word' 13-14
      - '->' 15-17
      right skipped 18-21
      right call 22-23
        name 'word' 22-23
"""),
    (CALCULUS, "-1", """
- skipped 0-1
- file 1-2
  first number 1-2
    digits 'number' 1-2
"""),
    (CALCULUS, "~1!^2", """
- file 0-5
  first negative 0-3
    - '~' 0-1
    operand factorial 1-3
      operand number 1-2
        digits 'number' 1-2
      - '!' 2-3
  rest skipped 3-5
"""),
    (CALCULUS, "1 = 2 = 3", """
- file 0-9
  first same 0-5
    left number 0-1
      digits 'number' 0-1
    - '=' 2-3
    right number 4-5
      digits 'number' 4-5
  rest skipped 6-9
"""),
    (CALCULUS, "f[1 ; ; 2 3 ; 4", """
- file 0-15
  first call 0-15
    name 'word' 0-1
    arguments arguments 1-15
      - '[' 1-2
      each number 2-3
        digits 'number' 2-3
      each ';' 4-5
      each no node formula 5-5
      each ';' 6-7
      each number 8-9
        digits 'number' 8-9
      each no word ; 9-9
      each number 10-11
        digits 'number' 10-11
      each ';' 12-13
      each number 14-15
        digits 'number' 14-15
      - no word ] 15-15
"""),
    (CALCULUS, "{a:1#*2#.b:3 @c}", """
- file 0-16
  first list 0-16
    - '{' 0-1
    entries entry 1-5
      key 'word' 1-2
      - ':' 2-3
      value hash 3-5
        operand plain 3-4
          digits 'number' 3-4
        - '#' 4-5
    entries skipped 5-8
    entries '.' 8-9
    entries entry 9-12
      key 'word' 9-10
      - ':' 10-11
      value plain 11-12
        digits 'number' 11-12
    tail tail 13-15
      - '@' 13-14
      name 'word' 14-15
    - '}' 15-16
"""),
    (CALCULUS, "{a:1 b:2 . . @}", """
- file 0-15
  first list 0-15
    - '{' 0-1
    entries entry 1-4
      key 'word' 1-2
      - ':' 2-3
      value plain 3-4
        digits 'number' 3-4
    entries no word . 4-4
    entries entry 5-8
      key 'word' 5-6
      - ':' 6-7
      value plain 7-8
        digits 'number' 7-8
    entries '.' 9-10
    entries no node entry 10-10
    entries '.' 11-12
    entries no node entry 12-12
    tail tail 13-14
      - '@' 13-14
      name no rule word 14-14
    - '}' 14-15
"""),
    (CALCULUS, "{. a 1}", """
- file 0-7
  first list 0-7
    - '{' 0-1
    entries skipped 1-2
    entries entry 3-6
      key 'word' 3-4
      - no word : 4-4
      value plain 5-6
        digits 'number' 5-6
    - '}' 6-7
"""),
    (CALCULUS, "1, + 2 ,, 3", """
- file 0-11
  first number 0-1
    digits 'number' 0-1
  rest rest 1-6
    - ',' 1-2
    formula skipped 3-4
    formula number 5-6
      digits 'number' 5-6
  rest rest 7-8
    - ',' 7-8
    formula no node formula 8-8
  rest rest 8-11
    - ',' 8-9
    formula number 10-11
      digits 'number' 10-11
"""),
    (CALCULUS, "(1 + (2 , 3", """
- file 0-11
  first formula 0-7
    - '(' 0-1
    inside plus 1-7
      left number 1-2
        digits 'number' 1-2
      - '+' 3-4
      right formula 5-7
        - '(' 5-6
        inside number 6-7
          digits 'number' 6-7
        - no word ) 7-7
    - no word ) 7-7
  rest rest 8-11
    - ',' 8-9
    formula number 10-11
      digits 'number' 10-11
"""),
    (OPTIONS, "1 2", """
- number 0-1
  digits 'number' 0-1
- skipped 2-3
"""),
    (OPTIONS, "head a b: +1 +2, foot !", """
- body 0-23
  head head 0-6
    - 'head' 0-4
    title 'word' 5-6
  lines line 7-16
    name 'word' 7-8
    - ':' 8-9
    digits digit 10-12
      - '+' 10-11
      digits 'number' 11-12
    digits no word , 12-12
    digits digit 13-15
      - '+' 13-14
      digits 'number' 14-15
    digits ',' 15-16
    digits no node digit 16-16
  foot foot 17-23
    - 'foot' 17-21
    mark mark 22-23
      - '!' 22-23
"""),
    (OPTIONS, ": +1", """
- body 0-4
  lines skipped 0-4
"""),
    (OPTIONS, "foot head", """
- body 0-4
  foot foot 0-4
    - 'foot' 0-4
- skipped 5-9
"""),
    (OPTIONS, "b: , +1 , foot foot", """
- body 0-14
  lines line 0-9
    name 'word' 0-1
    - ':' 1-2
    digits skipped 3-4
    digits digit 5-7
      - '+' 5-6
      digits 'number' 6-7
    digits ',' 8-9
    digits no node digit 9-9
  foot foot 10-14
    - 'foot' 10-14
- skipped 15-19
"""),
)
